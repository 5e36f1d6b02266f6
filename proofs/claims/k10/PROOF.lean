import PyProof.Rows.All
import Wide.All
import OpenK.AllK
import Wide.FinOn
import Lean
import PyProof.EqAt
import PyProof.EqKinds
import PyProof.TupleCall
import PyProof.CollectIter
import PyProof.TupleOfStr
import PyProof.TupleOfSeq
import KE.KDictOf
import KE.KDictSum
import PyProof.AttrMissHeap
import PySem.Challenge.RW_wearplan_k10_stretches_asked
set_option compiler.extract_closed false
set_option bootstrap.genMatcherCode false
set_option genSizeOf false
set_option genSizeOfSpec false
set_option linter.all false
set_option linter.unusedVariables false
open PyProof.Rows in
local macro_rules | `(tactic|walk_at "v3")=>`(tactic|first |exact Or.inl rfl |exact Or.inr (Or.inl rfl)|exact Or.inr (Or.inr rfl))
open PyProof.Rows in
local macro_rules | `(tactic|walk_at "v2")=>`(tactic|first |exact Or.inl rfl |exact Or.inr rfl)
open PyProof.Rows in
local macro_rules | `(tactic|walk_at "v1")=>`(tactic|first |exact .inl rfl |exact .inr rfl)
set_option Elab.async false
set_option maxRecDepth 100000
namespace L2
open PySem PySem.Spec PyProof.Rows
noncomputable abbrev Key:=Sum Int Str
noncomputable def keyIs:Key→Value→Bool
 | .inl k,v=>Value.isInt k v
 | .inr x,v=>Value.isStrOf x v
noncomputable def keyH(w:World):Key→Int
 | .inl k=>hashInt k
 | .inr x=>hashStr w x
theorem o5:∀{k:Key} {v:Value},keyIs k v=true→(∃i t,k=Sum.inl i∧v=Value.int i t)∨(∃x t,k=Sum.inr x∧v=Value.str x t)
 | .inl i,v,h=>by
  obtain ⟨t,e⟩:=Value.isInt_shape (k:=i) (v:=v) h;exact .inl ⟨i,t,rfl,e⟩
 | .inr x,v,h=>by
  obtain ⟨t,e⟩:=Value.isStrOf_shape (x:=x) (v:=v) h;exact .inr ⟨x,t,rfl,e⟩
theorem key_ll(a b:Int):decide ((Sum.inl a:Key)=Sum.inl b)=(a==b):=by
 by_cases e:a=b
 ·subst e;simp
 ·have h:¬(Sum.inl a:Key)=Sum.inl b:=fun q=>e (Sum.inl.inj q)
  rw[decide_eq_false h];exact (beq_eq_false_iff_ne.mpr e).symm
theorem key_rr(a b:Str):decide ((Sum.inr a:Key)=Sum.inr b)=decide (a=b):=by
 by_cases e:a=b
 ·subst e;simp
 ·have h:¬(Sum.inr a:Key)=Sum.inr b:=fun q=>e (Sum.inr.inj q)
  rw[decide_eq_false h,decide_eq_false e]
theorem key_lr(a:Int)(b:Str):decide ((Sum.inl a:Key)=Sum.inr b)=false:=decide_eq_false (fun q=>nomatch q)
theorem key_rl(a:Str)(b:Int):decide ((Sum.inr a:Key)=Sum.inl b)=false:=decide_eq_false (fun q=>nomatch q)
noncomputable def j0m(prog:Program)(w:World):PySem.KeyKind prog w Key where
 is:=keyIs
 hash:=keyH w
 inj:=fun v a b ha hb=>by
  rcases o5 ha with ⟨i,t,rfl,rfl⟩|⟨x,t,rfl,rfl⟩
  ·rcases o5 hb with ⟨j,u,rfl,e⟩|⟨y,u,rfl,e⟩
   ·injection e with e1 _;rw[e1]
   ·exact nomatch e
  ·rcases o5 hb with ⟨j,u,rfl,e⟩|⟨y,u,rfl,e⟩
   ·exact nomatch e
   ·injection e with e1 _;rw[e1]
 byValue:=fun k v h=>by
  rcases o5 h with ⟨i,t,rfl,rfl⟩|⟨x,t,rfl,rfl⟩<;>rfl
 pyHash:=fun hv h=>by
  rcases o5 hv with ⟨i,t,rfl,rfl⟩|⟨x,t,rfl,rfl⟩
  ·exact wpAny_pyHash_int h
  ·exact wpAny_pyHash_str h
 eqBool:=fun hu hv h=>by
  rcases o5 hu with ⟨i,t,rfl,rfl⟩|⟨x,t,rfl,rfl⟩
  ·rcases o5 hv with ⟨j,u,rfl,rfl⟩|⟨y,u,rfl,rfl⟩
   ·rw[key_ll]at h;exact wpAny_eqBool_int h
   ·rw[key_lr]at h;exact SeqAt.EqAt.int_str i t y u _ _ _ _ h
  ·rcases o5 hv with ⟨j,u,rfl,rfl⟩|⟨y,u,rfl,rfl⟩
   ·rw[key_rl]at h;exact SeqAt.EqAt.str_int x t j u _ _ _ _ h
   ·rw[key_rr]at h;exact wpAny_eqBool_str h
 «strs»:=fun k x t v h=>by
  rcases o5 h with ⟨i,u,rfl,e⟩|⟨y,u,rfl,e⟩
  ·exact nomatch e
  ·injection e with e1 _
   subst e1;cases v<;>rfl
end L2
namespace L2
open PySem PySem.Spec PyProof.Rows
inductive V where
 |non |bl (b:Bool)|int (i:Int)|str (x:Str)|byt (b:Array UInt8)|flt (b:UInt64)|ref (a:Addr)|ty (n:String)
 deriving DecidableEq
noncomputable def RelV:V→Value→Prop
 | .non,u=>u=Value.none
 | .bl b,u=>u=Value.bool b
 | .int i,u=>∃t,u=Value.int i t
 | .str x,u=>∃t,u=Value.str x t
 | .byt b,u=>∃t,u=Value.bytes b t
 | .flt b,u=>∃t,u=Value.float b t
 | .ref a,u=>u=Value.ref a
 | .ty n,u=>u=Value.type n
noncomputable abbrev Vals:List V→List Value→Prop:=Paired RelV
theorem Vals.length{xs:List V}{us:List Value}(r:Vals xs us):xs.length=us.length:=Paired.length r
theorem Vals.get:∀{xs:List V} {us:List Value} {i:Nat} {x:V},Vals xs us→xs[i]?=some x→∃u,us[i]?=some u∧RelV x u
 |_,_,_,_,.nil,e=>by simp at e
 |_,_,0,_,.cons r _,e=>by simp at e;subst e;exact ⟨_,rfl,r⟩
 |_,_,i+1,x,.cons _ t,e=>by
  obtain ⟨u,h1,h2⟩:=Vals.get (i:=i) (x:=x) t (by simpa using e);exact ⟨u,by simpa using h1,h2⟩
theorem Vals.append:∀{xs ys:List V} {us ws:List Value},Vals xs us→Vals ys ws→Vals (xs++ys) (us++ws)
 |_,_,_,_,.nil,s=>s
 |_,_,_,_,.cons r t,s=>.cons r (Vals.append t s)
theorem Vals.take:∀{xs:List V} {us:List Value} (n:Nat),Vals xs us→Vals (xs.take n) (us.take n)
 |_,_,0,_=>.nil
 |_,_,_+1,.nil=>.nil
 |_,_,n+1,.cons r t=>.cons r (Vals.take n t)
theorem Vals.drop:∀{xs:List V} {us:List Value} (n:Nat),Vals xs us→Vals (xs.drop n) (us.drop n)
 |_,_,0,r=>r
 |_,_,_+1,.nil=>.nil
 |_,_,n+1,.cons _ t=>Vals.drop n t
noncomputable def RelO:Option V→Option Value→Prop
 |some v,some u=>RelV v u
 |none,none=>True
 |_,_=>False
noncomputable def KV{κ:Type}:List (κ×V)→List (κ×Value)→Prop:=Paired fun (p:κ×V) (q:κ×Value)=>p.1=q.1∧RelV p.2 q.2
noncomputable def kV:Key→V
 | .inl i=>.int i
 | .inr x=>.str x
inductive HO where
 |lst (xs:List V)
 |tup (xs:List V)
 |dK (kvs:List (Key×V))|dT (kvs:List (List Key×V))
 |set (S:Int→Bool) (n:Nat)
 |ins (C dx:Addr) (fs:List (Str×V))
 |own (x:Addr)
 |xd (fs:List (Str×V))
 |met (f x:Addr)
 |rng (lo hi:Int)
 |frz (o:Obj) (u:HO)
 |tbl (ps:Array Value)
 |ext (φ:Heap→Prop)
noncomputable abbrev Hp:=Addr→Option HO
noncomputable def upd(H:Hp)(a:Addr)(o:HO):Hp:=fun b=>if b=a then some o else H b
theorem o3{H:Hp}{a:Addr}{o:HO}:upd H a o a=some o:=by unfold upd;rw[if_pos rfl]
theorem u0{H:Hp}{a b:Addr}{o:HO}(h:b≠a):upd H a o b=H b:=by unfold upd;rw[if_neg h]
theorem l0{H:Hp}{a b:Addr}{o:HO}(h:H a=some o)(h':H b=none):a≠b:=by
 intro e;subst e;rw[h]at h';cases h'
noncomputable def TupD(h:Heap)(a:Addr)(items:Array Value):Prop:=∃o,h.get? a=some o∧o.cls=.type "tuple"∧(∃n,o.data=.seq items n)∧o.dict=none
theorem TupD.tup{h:Heap}{a:Addr}{items:Array Value}(x:TupD h a items):IsTup h a items:=let ⟨o,e,c,d,_⟩:=x;⟨o,e,c,d⟩
theorem TupD.new(h:Heap)(items:Array Value):TupD (h.push {cls:=.type "tuple",data:=.seq items}) h.objs.size items:=⟨_,Heap.get?_push_size _ rfl,rfl,⟨_,rfl⟩,rfl⟩
section
variable(P:Program)(w:World)
noncomputable def ObjOk(H:Hp)(h:Heap)(a:Addr):HO→Prop
 | .lst xs=>xs.length≤sizeLine∧∃(its:List Value) (n:Nat),Vals xs its∧h.get? a=some {cls:=.type "list",data:=.seq its.toArray n}
 | .tup xs=>xs.length≤sizeLine∧∃its:List Value,Vals xs its∧TupD h a its.toArray
 | .dK kvs=>kvs.length≤sizeLine∧(a==sysModules)=false∧∃vs,KV kvs vs∧h.DictOf (j0m P w) a vs
 | .dT kvs=>kvs.length≤sizeLine∧(a==sysModules)=false∧∃xs:List (List Key×Addr×Value),
  Paired (fun (p:List Key×V) (q:List Key×Addr×Value)=>p.1=q.1∧H q.2.1=some (.tup (p.1.map kV))∧RelV p.2 q.2.2) kvs xs∧
  ∃o es ep,h.get? a=some o∧o.ExactDict∧o.data=.dict es ep∧es.toList=xs.map (entryOfKey (tupleKind (j0m P w)))∧(xs.map (·.1)).Nodup
 | .set S n=>h.SetOf (intKind P w) a S n
 | .ins C dx fs=>H dx=some (.own a)∧fs.length≤1000∧dx≠a∧h.get? a=some (PySem.W.instObj C dx)∧
  ∃mA,h.Ns1 dx mA∧(∀f,RelO (fs.lookup f) (mA f))∧PySem.Within mA (fs.map (·.1))
 | .own _=>∃o,h.get? a=some o
 | .xd fs=>∃mA,h.Ns1 a mA∧∀f,RelO (fs.lookup f) (mA f)
 | .rng lo hi=>∃t u v,h.get? a=some {cls:=.type "range",data:=.fields #[.int lo t,.int hi u,.int 1 v]}
 | .frz o u=>h.get? a=some o∧ObjOk H h a u
 | .tbl ps=>h.get? a=some {cls:=.none,data:=.fields ps}
 | .met f x=>h.get? a=some (PySem.W.methodObj (.ref f) (.ref x))
 | .ext φ=>φ h∧(∃o,h.get? a=some o)∧∀h1 h2:Heap,φ h1→(∀o,h1.get? a=some o→h2.get? a=some o)→φ h2
noncomputable def HOk(H:Hp)(h:Heap):Prop:=∀a o,H a=some o→ObjOk P w H h a o
end
section
variable{P:Program}{w:World}{H H':Hp}{h h':Heap}{a:Addr}{o:HO}
theorem ObjOk.lt(x:ObjOk P w H h a o):a<h.objs.size:=by
 cases o with
 |lst xs=>obtain ⟨_,_,_,_,e⟩:=x;exact Heap.lt_size e
 |tup xs=>obtain ⟨_,_,_,p⟩:=x;exact p.tup.lt
 |dK kvs=>obtain ⟨_,_,_,_,o,_,_,e,_⟩:=x;exact Heap.lt_size e
 |dT kvs=>obtain ⟨_,_,_,_,o,_,_,e,_⟩:=x;exact Heap.lt_size e
 |set S n=>obtain ⟨o,_,_,_,e,_⟩:=x;exact Heap.lt_size e
 |ins C dx fs=>obtain ⟨_,_,_,e,_⟩:=x;exact Heap.lt_size e
 |own y=>obtain ⟨_,e⟩:=x;exact Heap.lt_size e
 |xd fs=>obtain ⟨_,⟨_,_,_,e,_⟩,_⟩:=x;exact Heap.lt_size e
 |rng lo hi=>obtain ⟨_,_,_,e⟩:=x;exact Heap.lt_size e
 |frz ob u=>obtain ⟨e,_⟩:=x;exact Heap.lt_size e
 |tbl ps=>exact Heap.lt_size (show h.get? a=some _ from x)
 |met f y=>exact Heap.lt_size (show h.get? a=some _ from x)
 |ext φ=>obtain ⟨_,⟨_,e⟩,_⟩:=x;exact Heap.lt_size e
theorem Paired.mapP{α β:Type}{F G:α→β→Prop}:∀{l₁:List α} {l₂:List β},Paired F l₁ l₂→(∀a b,F a b→G a b)→Paired G l₁ l₂
 |_,_,.nil,_=>.nil
 |_,_,.cons r t,f=>.cons (f _ _ r) (Paired.mapP t f)
theorem ObjOk.stay(x:ObjOk P w H h a o)(k:∀b u,(b=a∨H b=some (.own a))→h.get? b=some u→h'.get? b=some u)
 (ho:∀b,H b=some (.own a)→H' b=some (.own a)) (ht:∀b xs,H b=some (.tup xs)→H' b=some (.tup xs)):ObjOk P w H' h' a o:=by
 induction o with
 |lst xs=>obtain ⟨z,its,n,r,e⟩:=x;exact ⟨z,its,n,r,k _ _ (.inl rfl) e⟩
 |tup xs=>obtain ⟨z,its,r,ob,e,c⟩:=x;exact ⟨z,its,r,ob,k _ _ (.inl rfl) e,c⟩
 |dK kvs=>obtain ⟨z,y,vs,r,ob,es,ep,e,c⟩:=x;exact ⟨z,y,vs,r,ob,es,ep,k _ _ (.inl rfl) e,c⟩
 |dT kvs=>
  obtain ⟨z,y,xs,r,ob,es,ep,e,c⟩:=x;exact ⟨z,y,xs,Paired.mapP r fun p q z=>⟨z.1,ht _ _ z.2.1,z.2.2⟩,ob,es,ep,k _ _ (.inl rfl) e,c⟩
 |set S n=>obtain ⟨ob,es,ep,t,e,c⟩:=x;exact ⟨ob,es,ep,t,k _ _ (.inl rfl) e,c⟩
 |ins C dx fs=>
  obtain ⟨d,z,ne,e,mA,⟨od,es,ep,e2,c⟩,r⟩:=x;exact ⟨ho _ d,z,ne,k _ _ (.inl rfl) e,mA,⟨od,es,ep,k _ _ (.inr d) e2,c⟩,r⟩
 |own y=>obtain ⟨ob,e⟩:=x;exact ⟨ob,k _ _ (.inl rfl) e⟩
 |xd fs=>obtain ⟨mA,⟨od,es,ep,e,c⟩,r⟩:=x;exact ⟨mA,⟨od,es,ep,k _ _ (.inl rfl) e,c⟩,r⟩
 |rng lo hi=>obtain ⟨t,u,v,e⟩:=x;exact ⟨t,u,v,k _ _ (.inl rfl) e⟩
 |frz ob u ih=>obtain ⟨e,q⟩:=x;exact ⟨k _ _ (.inl rfl) e,ih q⟩
 |tbl ps=>
  have e:h.get? a=some {cls:=.none,data:=.fields ps}:=x;show h'.get? a=some {cls:=.none,data:=.fields ps};exact k a _ (.inl rfl) e
 |met f y=>
  have e:h.get? a=some (PySem.W.methodObj (.ref f) (.ref y)):=x;show h'.get? a=some (PySem.W.methodObj (.ref f) (.ref y));exact k a _ (.inl rfl) e
 |ext φ=>obtain ⟨p,⟨o,e⟩,st⟩:=x;exact ⟨st _ _ p fun o q=>k _ _ (.inl rfl) q,⟨o,k _ _ (.inl rfl) e⟩,st⟩
theorem HOk.lt(x:HOk P w H h)(e:H a=some o):a<h.objs.size:=(x a o e).lt
theorem HOk.fresh(x:HOk P w H h)(e:h.objs.size≤a):H a=none:=by
 cases q:H a with
 |none=>rfl
 |some u=>exact absurd (Nat.lt_of_lt_of_le (x.lt q) e) (Nat.lt_irrefl _)
theorem HOk.kept(x:HOk P w H h)(k:∀b u,h.get? b=some u→h'.get? b=some u):HOk P w H h':=fun a o e=>
 (x a o e).stay (fun b u _ q=>k b u q) (fun _ q=>q) fun _ _ q=>q
theorem HOk.laid(x:HOk P w H h)(k:∀b u,h.get? b=some u→h'.get? b=some u)(hp:h.objs.size≤a)(new:ObjOk P w (upd H a o) h' a o):HOk P w (upd H a o) h':=fun b u e=>by
 have hn:=x.fresh hp;by_cases hb:b=a
 ·subst hb;rw[o3]at e;cases e;exact new
 ·rw[u0 hb]at e;exact (x b u e).stay (fun c v _ q=>k c v q) (fun c q=>by rw[u0 (l0 q hn)];exact q) fun c xs q=>by rw[u0 (l0 q hn)];exact q
end
noncomputable def Rd(H:Hp)(a:Addr)(u:HO):Prop:=H a=some u∨∃o,H a=some (.frz o u)
theorem Rd.ok{P:Program}{w:World}{H:Hp}{h:Heap}{a:Addr}{u:HO}(r:Rd H a u)(x:HOk P w H h):ObjOk P w H h a u:=by
 rcases r with r |⟨o,r⟩
 ·exact x a u r
 ·obtain ⟨_,q⟩:=x a _ r;exact q
noncomputable def Mut:Option HO→Prop
 |some (.lst _)=>True
 |some (.dK _)=>True
 |some (.dT _)=>True
 |some (.set _ _)=>True
 |some (.ins _ _ _)=>True
 |some (.ext _)=>True
 |_=>False
section
variable{P:Program}{w:World}{H:Hp}{h h':Heap}{x e:Addr}{o':HO}
theorem HOk.write(ok:HOk P w H h)(mu:Mut (H x))(he:e=x∨H e=some (.own x))(k:∀b u,b≠e→h.get? b=some u→h'.get? b=some u)(heo:∃u,h'.get? e=some u)
 (new:ObjOk P w (upd H x o') h' x o'):HOk P w (upd H x o') h':=fun b u q=>by
 have nown:∀c y,H c=some (.own y)→c≠x:=fun c y r z=>by subst z;rw[r]at mu;exact mu
 have ntup:∀c xs,H c=some (.tup xs)→c≠x:=fun c xs r z=>by subst z;rw[r]at mu;exact mu
 by_cases hb:b=x
 ·subst hb;rw[o3]at q;cases q;exact new
 ·rw[u0 hb]at q;by_cases hbe:b=e
  ·have q':H b=some (.own x):=by
    rcases he with z |z
    ·exact absurd (hbe.trans z) hb
    ·rw[hbe];exact z
   rw[q]at q';cases q';obtain ⟨v,hv⟩:=heo;exact ⟨v,by rw[hbe];exact hv⟩
  ·refine (ok b u q).stay (fun c v hc r=>k c v ?_ r) (fun c r=>by rw[u0 (nown c b r)];exact r) fun c xs r=>by rw[u0 (ntup c xs r)];exact r
   rcases hc with rfl |hc
   ·exact hbe
   ·rintro rfl;rcases he with z |z
    ·exact nown c b hc z
    ·rw[hc]at z;cases z;exact hb rfl
end
structure Un(fs ex:List Addr)(H H':Hp)(h h':Heap):Prop where
 keep:∀b o,h.get? b=some o→H b=none→b∉fs→b∉ex→h'.get? b=some o
 slot:∀b o,h.get? b=some o→H b=none→b∈fs→b∉ex→∃sl,h'.get? b=some {o with slots:=sl}
 free:∀b o,h.get? b=some o→H b=none→b∉ex→H' b=none
 there:∀b o,h.get? b=some o→b∉ex→∃o',h'.get? b=some o'
 tups:∀b xs,H b=some (.tup xs)→H' b=some (.tup xs)
 frzs:∀b o u,H b=some (.frz o u)→H' b=some (.frz o u)
 tbls:∀b ps,H b=some (.tbl ps)→∃more,H' b=some (.tbl (ps++more))
section
variable{fs fs' ex ex':List Addr}{H H1 H2:Hp}{h h1 h2 h':Heap}{a x e:Addr}{o:HO}
theorem Un.any(u:Un fs ex H H1 h h1){b:Addr}{ob:Obj}(q:h.get? b=some ob)(n:H b=none)(hx:b∉ex):∃sl,h1.get? b=some {ob with slots:=sl}:=by
 by_cases hb:b∈fs
 ·exact u.slot b ob q n hb hx
 ·exact ⟨ob.slots,u.keep b ob q n hb hx⟩
theorem Un.kept(k:∀b u,h.get? b=some u→h'.get? b=some u):Un fs ex H H h h':=
 ⟨fun b ob q _ _ _=>k b ob q,fun b ob q _ _ _=>⟨ob.slots,k b ob q⟩,fun _ _ _ n _=>n,fun b ob q _=>⟨ob,k b ob q⟩,fun _ _ q=>q,fun _ _ _ q=>q,fun _ ps q=>⟨#[],by rw[q];simp⟩⟩
theorem Un.refl:Un fs ex H H h h:=Un.kept fun _ _ q=>q
theorem Un.laid(k:∀b u,h.get? b=some u→h'.get? b=some u)(hp:h.objs.size≤a)(hn:H a=none):Un fs ex H (upd H a o) h h' where
 keep:=fun b u q _ _ _=>k b u q
 slot:=fun b u q _ _ _=>⟨u.slots,k b u q⟩
 free:=fun b u q n _=>by rw[u0 (Nat.ne_of_lt (Nat.lt_of_lt_of_le (Heap.lt_size q) hp))];exact n
 there:=fun b u q _=>⟨u,k b u q⟩
 tups:=fun b xs q=>by rw[u0 (l0 q hn)];exact q
 frzs:=fun b u xs q=>by rw[u0 (l0 q hn)];exact q
 tbls:=fun b ps q=>⟨#[],by rw[u0 (l0 q hn),q];simp⟩
theorem Un.write(mu:Mut (H x))(he:e=x∨H e=some (.own x))(k:∀b u,b≠e→h.get? b=some u→h'.get? b=some u)(heo:∃u,h'.get? e=some u):Un fs ex H (upd H x o) h h':=by
 have hx:∀b,H b=none→b≠x:=fun b n z=>by subst z;rw[n]at mu;exact mu
 have hb:∀b,H b=none→b≠e:=fun b n z=>by
  subst z;rcases he with r |r
  ·exact hx b n r
  ·rw[n]at r;cases r
 have hm:∀b u,H b=some u→¬Mut (some u)→b≠x:=fun b u q nm z=>by subst z;rw[q]at mu;exact nm mu
 refine ⟨fun b u q n _ _=>k b u (hb b n) q,fun b u q n _ _=>⟨u.slots,k b u (hb b n) q⟩,fun b u q n _=>by rw[u0 (hx b n)];exact n,fun b u q _=>?_,
  fun b xs q=>by rw[u0 (hm b _ q fun z=>z)];exact q,fun b u xs q=>by rw[u0 (hm b _ q fun z=>z)];exact q,fun b ps q=>⟨#[],by rw[u0 (hm b _ q fun z=>z),q];simp⟩⟩
 by_cases hbe:b=e
 ·subst hbe;exact heo
 ·exact ⟨u,k b u hbe q⟩
end
noncomputable def trk(h:Heap)(H:Hp):List Addr:=(List.range h.objs.size).filter fun a=>(H a).isSome
noncomputable def hidT(h:Heap)(H:Hp):Heap:=PySem.W.hideAll h (trk h H)
theorem j0l(h:Heap)(H:Hp):(hidT h H).objs.size=h.objs.size:=PySem.W.hideAll_size _ _
theorem f0w{h:Heap}{H:Hp}{b:Addr}{o:Obj}(e:h.get? b=some o)(n:H b=none):(hidT h H).get? b=some o:=
 PySem.W.hideAll_get _ e fun hm=>by
  have q:(H b).isSome=true:=(List.mem_filter.mp hm).2;rw[n]at q;simp at q
theorem c0f{h:Heap}{H:Hp}{b:Addr}{o:Obj}(e:(hidT h H).get? b=some o):h.get? b=some o∧H b=none:=by
 have e':h.get? b=some o:=PySem.W.of_hideAll (trk h H) e;refine ⟨e',?_⟩;cases q:H b with
 |none=>rfl
 |some x=>
  have hm:b∈trk h H:=List.mem_filter.mpr ⟨List.mem_range.mpr (Heap.lt_size e'),by simp[q]⟩;have z:(hidT h H).get? b=none:=PySem.W.hideAll_none (trk h H) hm;rw[z]at e;cases e
noncomputable def c0e(g h:Heap)(L:Addr):List (Addr×Obj):=(List.range h.objs.size).filterMap fun a=>if a=L∨(g.get? a).isSome=true then none else (h.get? a).map fun o=>(a,o)
noncomputable def rest(g h:Heap)(L d:Addr):List (Addr×Obj):=(c0e g h L).filter fun p=>decide (p.1≠d)
end L2
namespace L2
open PySem PySem.Spec PyProof.Rows
structure Mod(K:PySem.W.Frag)(mg:Str→Option Value)(base:Heap):Prop where
 kin:K.In base
 glob:base.Ns mainGlobals mg
 blt:∃mb,base.Ns builtinsNs mb∧∀x:Str,x≠"__name__"→mb x=bootBuiltins x
 nolimit:base.NoLimit
structure Cx where
 prog:Program
 w:World
 K:PySem.W.Frag
 mg:Str→Option Value
 base:Heap
 A:Around
 N:List Str
 s₀:Shared
 H₀:Hp
 env:Env
 outer:List Env
 stack:List Env
 ex:List Addr
 fn:Str→Bool
 calm:Bool
 pn:List (Addr×Obj)
 xe:Value→Shared→Prop
 fl:Bool:=true
noncomputable def frs(l:List Env):List Addr:=l.filterMap (·.frame)
noncomputable abbrev Cx.fs(X:Cx):List Addr:=frs X.outer
noncomputable def Vis(sc:Scope)(x:Str):Prop:=sc.names.lookup x=some .local∨sc.names.lookup x=some .cell∨sc.names.lookup x=some .free
noncomputable def Loc(sc:Scope)(x:Str):Prop:=sc.names.lookup x=some .local∨sc.names.lookup x=some .cell
noncomputable def Look(env:Env)(h:Heap)(m:Str→Option Value)(x:Str)(u:Value):Prop:=
 (env.kindOf x=some .local∧m x=some u)∨((env.kindOf x=some .cell∨env.kindOf x=some .free)∧∃c,env.cells.lookup x=some c∧h.IsCell c (some u))
structure Cx.Ok(X:Cx):Prop where
 mod:Mod X.K X.mg X.base
 kind:X.env.scope.kind=.function
 glob:X.env.globals=mainGlobals
 blt:X.env.builtins=builtinsNs
 above:X.s₀.heap.objs.size≤X.env.locals
 inj:∀x y c,X.env.cells.lookup x=some c→X.env.cells.lookup y=some c→x=y
 has:∀x,(X.env.kindOf x=some .cell∨X.env.kindOf x=some .free)→∃c,X.env.cells.lookup x=some c
 cab:∀x c,X.fn x=true→X.env.cells.lookup x=some c→X.s₀.heap.objs.size≤c
 hd:X.calm=true→X.A.handled=none
 frames:X.A.frames=some X.stack
 stk:X.stack=X.outer∨(X.stack=X.env::X.outer∧X.env.frame=some X.env.locals)
 exf:∀b∈X.ex,b≠X.env.locals∧∀x c,X.env.cells.lookup x=some c→c≠b
 bs:∀b o,X.base.get? b=some o→X.s₀.heap.get? b=some o∧X.H₀ b=none
 bsz:X.base.objs.size≤X.s₀.heap.objs.size
 noex:∀b o,X.base.get? b=some o→b∉X.ex
 exfs:∀b∈X.ex,b∉X.fs
 funs:X.s₀.heap.FunFrames X.base X.outer
 frf:∀b∈X.fs,X.H₀ b=none
structure Inv(X:Cx)(pins:List (Addr×Obj))(σ:List (Option V))(H:Hp)(s:Shared):Prop where
 ok:X.Ok
 os:s.os=X.s₀.os
 bare:AllBare s.gens
 base:Un X.fs X.ex X.H₀ H X.s₀.heap s.heap
 loc:∃m,s.heap.Ns X.env.locals m∧∀(i:Nat) (x:Str) (v:V),X.N[i]?=some x→σ[i]?=some (some v)→Vis X.env.scope x→∃u,RelV v u∧Look X.env s.heap m x u
 cell:∀x c,X.env.cells.lookup x=some c→∃v,s.heap.IsCell c v
 free:H X.env.locals=none
 freeC:∀x c,X.env.cells.lookup x=some c→H c=none
 pin:∀p∈X.pn++pins,s.heap.get? p.1=some p.2∧H p.1=none∧p.1≠X.env.locals∧p.1∉X.fs∧∀v,p.2.data≠.cell v
 hok:HOk X.prog X.w H s.heap
 len:σ.length=X.N.length
section
variable{X:Cx}{pins:List (Addr×Obj)}{σ:List (Option V)}{H H':Hp}{s:Shared}{h':Heap}
theorem Cx.Ok.nofr(ok:X.Ok){b:Addr}{o:Obj}(e:X.base.get? b=some o):b∉X.fs:=fun hb=>by
 have:=(ok.funs.mem hb).1;rw[e]at this;cases this
theorem Inv.bs(I:Inv X pins σ H s):∀b o,X.base.get? b=some o→s.heap.get? b=some o∧H b=none:=fun b o e=>
 ⟨I.base.keep b o (I.ok.bs b o e).1 (I.ok.bs b o e).2 (I.ok.nofr e) (I.ok.noex b o e),I.base.free b o (I.ok.bs b o e).1 (I.ok.bs b o e).2 (I.ok.noex b o e)⟩
theorem Inv.bk(I:Inv X pins σ H s):∀b o,X.base.get? b=some o→s.heap.get? b=some o:=fun b o e=>(I.bs b o e).1
theorem Inv.mod(I:Inv X pins σ H s):Mod X.K X.mg X.base:=I.ok.mod
theorem Inv.kIn(I:Inv X pins σ H s):X.K.In s.heap:=I.ok.mod.kin.keeps I.bk
theorem Inv.fr(I:Inv X pins σ H s):∃m,Fr X.base X.env.locals s.heap m:=
 let ⟨m,hn,_⟩:=I.loc
 ⟨m,hn,I.bk,Nat.le_trans I.ok.bsz I.ok.above⟩
theorem Inv.lt(I:Inv X pins σ H s):X.env.locals<s.heap.objs.size:=let ⟨_,hn,_⟩:=I.loc;hn.lt
theorem Inv.sz(I:Inv X pins σ H s):X.s₀.heap.objs.size≤s.heap.objs.size:=Nat.le_trans I.ok.above (Nat.le_of_lt I.lt)
theorem Inv.nofs(I:Inv X pins σ H s){a:Addr}(h:s.heap.objs.size≤a):a∉X.fs:=fun hb=>by
 obtain ⟨_,o,ho,_⟩:=I.ok.funs.mem hb;exact absurd (Nat.lt_of_lt_of_le (Heap.lt_size ho) (Nat.le_trans I.sz h)) (Nat.lt_irrefl _)
theorem Inv.cne(I:Inv X pins σ H s):∀x c,X.env.cells.lookup x=some c→c≠X.env.locals:=fun x c e z=>by
 obtain ⟨v,o,ho,hd⟩:=I.cell x c e;obtain ⟨m,⟨o',es,ep,ho',hd',_⟩,_⟩:=I.loc;rw[z,ho']at ho;cases ho;rw[hd']at hd;cases hd
theorem Inv.funs(I:Inv X pins σ H s):s.heap.FunFrames X.base X.outer:=by
 have all:∀(l:List Env),(∀b∈frs l,b∈X.fs)→X.s₀.heap.FunFrames X.base l→s.heap.FunFrames X.base l:=by
  intro l
  induction l with
  |nil=>intro _ _;trivial
  |cons env r ih=>
   intro hs hl;obtain ⟨hk,⟨L,o,hf,hn,ho,hd⟩,hr⟩:=hl;have hL:L∈X.fs:=hs L (by unfold frs;rw[List.filterMap_cons,hf];exact List.mem_cons_self);obtain ⟨sl,e⟩:=I.base.slot L o ho (I.ok.frf L hL) hL fun z=>I.ok.exfs L z hL
   exact ⟨hk,⟨L,_,hf,hn,e,hd⟩,ih (fun b hb=>hs b (by unfold frs;rw[List.filterMap_cons,hf];exact List.mem_cons_of_mem _ hb)) hr⟩
 exact all X.outer (fun _ hb=>hb) I.ok.funs
theorem Inv.stack(I:Inv X pins σ H s):s.heap.FunFrames X.base X.stack:=by
 rcases I.ok.stk with e |⟨e,hf⟩
 ·rw[e];exact I.funs
 ·rw[e];obtain ⟨m,hn,_⟩:=I.loc;refine .cons (by rw[I.ok.kind];decide) hf hn ?_ I.funs;exact Heap.get?_none_of_le (Nat.le_trans I.ok.bsz I.ok.above)
theorem Inv.stkSub(I:Inv X pins σ H s):∀b∈frs X.stack,b∈X.env.locals::X.fs:=fun b hb=>by
 rcases I.ok.stk with e |⟨e,hf⟩
 ·rw[e]at hb;exact List.mem_cons_of_mem _ hb
 ·rw[e]at hb;unfold frs at hb;rw[List.filterMap_cons,hf]at hb;exact hb
theorem Inv.stkFree(I:Inv X pins σ H s):∀b∈frs X.stack,H b=none:=fun b hb=>by
 rcases List.mem_cons.mp (I.stkSub b hb)with e |hb
 ·rw[e];exact I.free
 ·obtain ⟨_,o,ho,_⟩:=I.ok.funs.mem hb;exact I.base.free b o ho (I.ok.frf b hb) fun z=>I.ok.exfs b z hb
theorem Inv.step{g':Array GenState}{t':Nat}{d':Drawn}{ch:List Addr}(I:Inv X pins σ H s)
 (hch:∀b∈ch,(b∈X.ex∨X.s₀.heap.objs.size≤b)∧b≠X.env.locals∧(∀x c,X.env.cells.lookup x=some c→c≠b)∧∀p∈X.pn++pins,p.1≠b)
 (keep:∀b o,b≠X.env.locals→b∉X.fs→b∉ch→s.heap.get? b=some o→H b=none→h'.get? b=some o)
 (slot:∀b o,b≠X.env.locals→b∈X.fs→b∉ch→s.heap.get? b=some o→H b=none→∃sl,h'.get? b=some {o with slots:=sl}) (free:∀b o,b∉ch→s.heap.get? b=some o→H b=none→H' b=none)
 (there:∀b o,b∉ch→s.heap.get? b=some o→∃o',h'.get? b=some o')
 (tups:∀b xs,H b=some (.tup xs)→H' b=some (.tup xs)) (frzs:∀b o u,H b=some (.frz o u)→H' b=some (.frz o u)) (tbls:∀b ps,H b=some (.tbl ps)→∃more,H' b=some (.tbl (ps++more)))
 (ns:∀m,s.heap.Ns X.env.locals m→h'.Ns X.env.locals m) (hok:HOk X.prog X.w H' h') (hg:AllBare g'):
 Inv X pins σ H' {s with heap:=h',gens:=g',drawn:=d',toks:=t'}:=by
 have neL:∀b o,X.s₀.heap.get? b=some o→b≠X.env.locals:=fun b o e=>Nat.ne_of_lt (Nat.lt_of_lt_of_le (Heap.lt_size e) I.ok.above)
 have neC:∀b o,X.s₀.heap.get? b=some o→b∉X.ex→b∉ch:=fun b o e hx hb=>by
  rcases (hch b hb).1 with z |z
  ·exact hx z
  ·exact absurd (Nat.lt_of_lt_of_le (Heap.lt_size e) z) (Nat.lt_irrefl _)
 have cellK:∀x c,X.env.cells.lookup x=some c→∀v,s.heap.IsCell c v→h'.IsCell c v:=fun x c e v ⟨o,ho,hd⟩=>by
  have nch:c∉ch:=fun z=>(hch c z).2.2.1 x c e rfl
  by_cases hc:c∈X.fs
  ·obtain ⟨sl,q⟩:=slot c o (I.cne x c e) hc nch ho (I.freeC x c e);exact ⟨_,q,hd⟩
  ·exact ⟨o,keep c o (I.cne x c e) hc nch ho (I.freeC x c e),hd⟩
 refine ⟨I.ok,I.os,hg,⟨fun b o e n hb hx=>?_,fun b o e n hb hx=>?_,fun b o e n hx=>?_,fun b o e hx=>?_,fun b xs e=>tups b xs (I.base.tups b xs e),fun b o xs e=>frzs b o xs (I.base.frzs b o xs e),fun b ps e=>?_⟩,?_,fun x c e=>?_,?_,fun x c e=>?_,fun p hp=>?_,hok,I.len⟩
 ·exact keep b o (neL b o e) hb (neC b o e hx) (I.base.keep b o e n hb hx) (I.base.free b o e n hx)
 ·obtain ⟨sl,e1⟩:=I.base.slot b o e n hb hx;obtain ⟨sl',e2⟩:=slot b _ (neL b o e) hb (neC b o e hx) e1 (I.base.free b o e n hx);exact ⟨sl',e2⟩
 ·obtain ⟨o',e1⟩:=I.base.there b o e hx;exact free b o' (neC b o e hx) e1 (I.base.free b o e n hx)
 ·obtain ⟨o',e1⟩:=I.base.there b o e hx;exact there b o' (neC b o e hx) e1
 ·obtain ⟨m1,e1⟩:=I.base.tbls b ps e;obtain ⟨m2,e2⟩:=tbls b _ e1;exact ⟨m1++m2,by rw[e2,Array.append_assoc]⟩
 ·obtain ⟨m,hn,hl⟩:=I.loc;refine ⟨m,ns m hn,fun i x v e1 e2 e3=>?_⟩;obtain ⟨u,r,l⟩:=hl i x v e1 e2 e3;refine ⟨u,r,?_⟩;rcases l with l |⟨k,c,e,z⟩
  ·exact .inl l
  ·exact .inr ⟨k,c,e,cellK x c e _ z⟩
 ·obtain ⟨v,z⟩:=I.cell x c e;exact ⟨v,cellK x c e v z⟩
 ·obtain ⟨m,⟨o,_,_,ho,_⟩,_⟩:=I.loc;exact free _ o (fun z=>(hch _ z).2.1 rfl) ho I.free
 ·obtain ⟨v,o,ho,hd⟩:=I.cell x c e;exact free c o (fun z=>(hch c z).2.2.1 x c e rfl) ho (I.freeC x c e)
 ·obtain ⟨e,n,ne,nf,d⟩:=I.pin p hp;have nch:p.1∉ch:=fun z=>(hch p.1 z).2.2.2 p hp rfl
  exact ⟨keep p.1 p.2 ne nf nch e n,free p.1 p.2 nch e n,ne,nf,d⟩
theorem Inv.un{t':Nat}(I:Inv X pins σ H s)(u:Un X.fs [] H H' s.heap h')(hok:HOk X.prog X.w H' h'):Inv X pins σ H' {s with heap:=h',toks:=t'}:=by
 obtain ⟨m,⟨o,es,ep,ho,r⟩,_⟩:=id I.loc;obtain ⟨sl,hL⟩:=u.any ho I.free (by simp);exact I.step (g':=s.gens) (d':=s.drawn) (ch:=[]) (fun _ z=>nomatch z) (fun b o _ hb _ e n=>u.keep b o e n hb (by simp)) (fun b o _ hb _ e n=>u.slot b o e n hb (by simp)) (fun b o _ e n=>u.free b o e n (by simp)) (fun b o _ e=>u.there b o e (by simp)) u.tups u.frzs u.tbls (fun m' hm=>by
  obtain ⟨o',es',ep',ho',r'⟩:=hm;rw[ho]at ho';cases ho';exact ⟨_,es',ep',hL,r'⟩) hok I.bare
theorem Inv.call{g':Array GenState}{t':Nat}{d':Drawn}{ch:List Addr}(I:Inv X pins σ H s)(u:Un (frs X.stack) ch H H' s.heap h')(hok:HOk X.prog X.w H' h')(hg:AllBare g')
 (hch:∀b∈ch,(b∈X.ex∨X.s₀.heap.objs.size≤b)∧b≠X.env.locals∧(∀x c,X.env.cells.lookup x=some c→c≠b)∧∀p∈X.pn++pins,p.1≠b):
 Inv X pins σ H' {s with heap:=h',gens:=g',drawn:=d',toks:=t'}:=by
 obtain ⟨m,⟨o,es,ep,ho,r⟩,_⟩:=id I.loc;obtain ⟨sl,hL⟩:=u.any ho I.free fun z=>(hch _ z).2.1 rfl
 exact I.step (ch:=ch) hch (fun b o hL hb hc e n=>u.keep b o e n (fun z=>(List.mem_cons.mp (I.stkSub b z)).elim hL hb) hc) (fun b o _ _ hc e n=>u.any e n hc) (fun b o hc e n=>u.free b o e n hc) (fun b o hc e=>u.there b o e hc) u.tups u.frzs u.tbls (fun m' hm=>by
  obtain ⟨o',es',ep',ho',r'⟩:=hm;rw[ho]at ho';cases ho';exact ⟨_,es',ep',hL,r'⟩) hok hg
theorem Inv.turned{t':Nat}{it:Addr}(I:Inv X pins σ H s)(k:∀b o,b≠it→s.heap.get? b=some o→h'.get? b=some o)(hn:H it=none)(hL:it≠X.env.locals)
 (h1:it∈X.ex∨X.s₀.heap.objs.size≤it) (h2:∀x c,X.env.cells.lookup x=some c→c≠it) (h3:∀p∈X.pn++pins,p.1≠it):Inv X pins σ H {s with heap:=h',toks:=t'}:=by
 have nit:∀b u,H b=some u→b≠it:=fun b u e z=>by rw[z,hn]at e;cases e
 refine I.step (g':=s.gens) (d':=s.drawn) (ch:=[it]) (fun b hb=>?_) (fun b o _ _ hc e _=>k b o (fun z=>hc (by simp[z])) e) (fun b o _ _ hc e _=>⟨o.slots,k b o (fun z=>hc (by simp[z])) e⟩) (fun _ _ _ _ n=>n)
  (fun b o hc e=>⟨o,k b o (fun z=>hc (by simp[z])) e⟩) (fun _ _ e=>e) (fun _ _ _ e=>e) (fun b ps e=>⟨#[],by rw[e];simp⟩) (fun m hm=>?_) (fun b u e=>?_) I.bare
 ·have e:b=it:=by simpa using hb
  subst e;exact ⟨h1,hL,h2,h3⟩
 ·obtain ⟨o,es,ep,ho,r⟩:=hm;exact ⟨o,es,ep,k _ o (Ne.symm hL) ho,r⟩
 ·refine (I.hok b u e).stay (fun c v hc q=>k c v ?_ q) (fun _ q=>q) fun _ _ q=>q
  rcases hc with z |z
  ·rw[z];exact nit b u e
  ·exact nit c _ z
theorem Inv.tok(I:Inv X pins σ H s)(t:Nat):Inv X pins σ H {s with toks:=t}:=I.un (h':=s.heap) (t':=t) Un.refl I.hok
theorem Inv.kept{t':Nat}(I:Inv X pins σ H s)(k:∀b u,s.heap.get? b=some u→h'.get? b=some u):Inv X pins σ H {s with heap:=h',toks:=t'}:=I.un (Un.kept k) (I.hok.kept k)
theorem Inv.laid{a:Addr}{o:HO}{t':Nat}(I:Inv X pins σ H s)(k:∀b u,s.heap.get? b=some u→h'.get? b=some u)(hp:s.heap.objs.size≤a)(new:ObjOk X.prog X.w (upd H a o) h' a o):
 Inv X pins σ (upd H a o) {s with heap:=h',toks:=t'}:=I.un (Un.laid k hp (I.hok.fresh hp)) (I.hok.laid k hp new)
theorem Inv.write{x e:Addr}{o:HO}{t':Nat}(I:Inv X pins σ H s)(mu:Mut (H x))(he:e=x∨H e=some (.own x))(k:∀b u,b≠e→s.heap.get? b=some u→h'.get? b=some u)(heo:∃u,h'.get? e=some u)
 (new:ObjOk X.prog X.w (upd H x o) h' x o):Inv X pins σ (upd H x o) {s with heap:=h',toks:=t'}:=I.un (Un.write mu he k heo) (I.hok.write mu he k heo new)
theorem Inv.weak{σ':List (Option V)}(I:Inv X pins σ H s)(hl:σ'.length=σ.length)(w:∀(i:Nat) v,σ'[i]?=some (some v)→σ[i]?=some (some v)):Inv X pins σ' H s:=
 ⟨I.ok,I.os,I.bare,I.base,let ⟨m,hn,hl'⟩:=I.loc;⟨m,hn,fun i x v e1 e2 e3=>hl' i x v e1 (w i v e2) e3⟩,I.cell,I.free,I.freeC,I.pin,I.hok,hl.trans I.len⟩
theorem Inv.pins_of{pins':List (Addr×Obj)}(I:Inv X pins σ H s)(h:∀p∈pins',s.heap.get? p.1=some p.2∧H p.1=none∧p.1≠X.env.locals∧p.1∉X.fs∧∀v,p.2.data≠.cell v):Inv X pins' σ H s:=
 ⟨I.ok,I.os,I.bare,I.base,I.loc,I.cell,I.free,I.freeC,fun p hp=>(List.mem_append.mp hp).elim (fun z=>I.pin p (List.mem_append_left _ z)) (h p),I.hok,I.len⟩
theorem r0d{N:List Str}(hN:N.Nodup){i j:Nat}{x:Str}(a:N[i]?=some x)(b:N[j]?=some x):i=j:=by
 obtain ⟨h1,e1⟩:=List.getElem?_eq_some_iff.mp a;obtain ⟨h2,e2⟩:=List.getElem?_eq_some_iff.mp b;exact (List.getElem_inj hN).mp (e1.trans e2.symm)
theorem j0k{M:Model}{A:Around}{E:Value→Shared→Prop}{i:Nat}{x:Str}{v:V}{u:Value}{Q:Unit→Shared→Prop}(I:Inv X pins σ H s)(hN:X.N.Nodup)(hi:X.N[i]?=some x)(hx:Loc X.env.scope x)(r:RelV v u)
 (h:∀s',Inv X pins (σ.set i (some v)) H s'→(∃a,Heap.SameBut a s.heap s'.heap∧(a=X.env.locals∨X.env.cells.lookup x=some a))→Q () s') (hf:X.fn x=true∨X.env.scope.names.lookup x=some .local:=by first |exact .inl rfl |exact .inr rfl |assumption):wpAny M A (storeName X.env x u) Q E s:=by
 obtain ⟨m,hn,hl⟩:=id I.loc;have hcls:(X.env.scope.kind== .class||(X.env.scope.kind== .module&&X.env.locals !=X.env.globals))=false:=by rw[I.ok.kind];rfl
 have hiσ:i<σ.length:=by rw[I.len];exact (List.getElem?_eq_some_iff.mp hi).1
 have cne:=I.cne;have tracked:∀{a:Addr} {h':Heap},(∃o,s.heap.get? a=some o∧H a=none)→Heap.SameBut a s.heap h'→HOk X.prog X.w H h':=fun {a h'} ha hs b ob e=>by
  obtain ⟨_,_,hfree⟩:=ha;refine (I.hok b ob e).stay (fun c w' hc q=>(hs.2 c ?_).trans q) (fun _ q=>q) fun _ _ q=>q
  rintro rfl;rcases hc with rfl |hc
  ·rw[hfree]at e;cases e
  ·rw[hfree]at hc;cases hc
 rcases hx with hk |hk
 ·refine wpAny_storeName_local hk hn (fun h' hn' hs=>?_) hcls;obtain ⟨oL,_,_,hoL,_⟩:=id hn;refine h _ ⟨I.ok,I.os,I.bare,⟨fun b o e n hb hx=>?_,fun b o e n hb hx=>?_,I.base.free,fun b o e hx=>?_,I.base.tups,I.base.frzs,I.base.tbls⟩,⟨_,hn',fun j y v' e1 e2 e3=>?_⟩,fun y c e=>?_,I.free,I.freeC,fun p hp=>?_,tracked ⟨oL,hoL,I.free⟩ hs,by simpa using I.len⟩ ⟨_,hs,.inl rfl⟩
  ·exact (hs.2 b (Nat.ne_of_lt (Nat.lt_of_lt_of_le (Heap.lt_size e) I.ok.above))).trans (I.base.keep b o e n hb hx)
  ·obtain ⟨sl,e1⟩:=I.base.slot b o e n hb hx;exact ⟨sl,(hs.2 b (Nat.ne_of_lt (Nat.lt_of_lt_of_le (Heap.lt_size e) I.ok.above))).trans e1⟩
  ·obtain ⟨o',e1⟩:=I.base.there b o e hx;exact ⟨o',(hs.2 b (Nat.ne_of_lt (Nat.lt_of_lt_of_le (Heap.lt_size e) I.ok.above))).trans e1⟩
  ·by_cases hj:j=i
   ·subst hj;rw[hi]at e1;cases e1;rw[List.getElem?_set_self hiσ]at e2;cases e2;exact ⟨u,r,.inl ⟨hk,by simp⟩⟩
   ·rw[List.getElem?_set_ne (Ne.symm hj)]at e2;obtain ⟨u',r',q⟩:=hl j y v' e1 e2 e3;refine ⟨u',r',?_⟩;rcases q with ⟨k,e⟩|⟨k,c,e,z⟩
    ·refine .inl ⟨k,?_⟩;have:y≠x:=fun e=>hj (r0d hN e1 (e▸hi))
     simp[this,e]
    ·exact .inr ⟨k,c,e,z.sameBut hs (cne y c e)⟩
  ·obtain ⟨w',z⟩:=I.cell y c e;exact ⟨w',z.sameBut hs (cne y c e)⟩
  ·obtain ⟨e,n,ne,nf,d⟩:=I.pin p hp;exact ⟨(hs.2 p.1 ne).trans e,n,ne,nf,d⟩
 ·have hfn:X.fn x=true:=by
   rcases hf with z |z
   ·exact z
   ·rw[z]at hk;cases hk
  obtain ⟨c,hc⟩:=I.ok.has x (.inl hk);obtain ⟨w',z⟩:=I.cell x c hc;refine wpAny_storeName_cell I.ok.kind hk hc z (fun h' hc' hs=>?_);obtain ⟨oc,hoc,hocd⟩:=id z;refine h {s with heap:=h'} ⟨I.ok,I.os,I.bare,⟨fun b o e n hb hx=>?_,fun b o e n hb hx=>?_,I.base.free,fun b o e hx=>?_,I.base.tups,I.base.frzs,I.base.tbls⟩,⟨m,hn.sameBut hs (Ne.symm (cne x c hc)),fun j y v' e1 e2 e3=>?_⟩,fun y c' e=>?_,I.free,I.freeC,fun p hp=>?_,tracked ⟨oc,hoc,I.freeC x c hc⟩ hs,by simpa using I.len⟩ ⟨c,hs,.inr hc⟩
  ·exact (hs.2 b (Nat.ne_of_lt (Nat.lt_of_lt_of_le (Heap.lt_size e) (I.ok.cab x c hfn hc)))).trans (I.base.keep b o e n hb hx)
  ·obtain ⟨sl,e1⟩:=I.base.slot b o e n hb hx;exact ⟨sl,(hs.2 b (Nat.ne_of_lt (Nat.lt_of_lt_of_le (Heap.lt_size e) (I.ok.cab x c hfn hc)))).trans e1⟩
  ·obtain ⟨o',e1⟩:=I.base.there b o e hx;exact ⟨o',(hs.2 b (Nat.ne_of_lt (Nat.lt_of_lt_of_le (Heap.lt_size e) (I.ok.cab x c hfn hc)))).trans e1⟩
  ·by_cases hj:j=i
   ·subst hj;rw[hi]at e1;cases e1;rw[List.getElem?_set_self hiσ]at e2;cases e2;exact ⟨u,r,.inr ⟨.inl hk,c,hc,hc'⟩⟩
   ·rw[List.getElem?_set_ne (Ne.symm hj)]at e2;obtain ⟨u',r',q⟩:=hl j y v' e1 e2 e3;refine ⟨u',r',?_⟩;rcases q with q |⟨k,c',e,z'⟩
    ·exact .inl q
    ·refine .inr ⟨k,c',e,z'.sameBut hs ?_⟩;rintro rfl;exact hj (r0d hN e1 (I.ok.inj _ _ _ e hc▸hi))
  ·by_cases hcc:c'=c
   ·subst hcc;exact ⟨_,hc'⟩
   ·obtain ⟨w2,z2⟩:=I.cell y c' e;exact ⟨w2,z2.sameBut hs hcc⟩
  ·obtain ⟨e,n,ne,nf,d⟩:=I.pin p hp;refine ⟨(hs.2 p.1 ?_).trans e,n,ne,nf,d⟩;intro q;rw[q,hoc]at e;have q':oc=p.2:=Option.some.inj e;exact d w' (by rw[←q'];exact hocd)
theorem w0v{M:Model}{A:Around}{E:Value→Shared→Prop}{i:Nat}{x:Str}{v:V}{u:Value}{Q:Unit→Shared→Prop}(I:Inv X pins σ H s)(hN:X.N.Nodup)(hi:X.N[i]?=some x)(hx:Loc X.env.scope x)(r:RelV v u)
 (h:∀s',Inv X pins (σ.set i (some v)) H s'→Q () s') (hf:X.fn x=true∨X.env.scope.names.lookup x=some .local:=by first |exact .inl rfl |exact .inr rfl |assumption):wpAny M A (storeName X.env x u) Q E s:=
 j0k I hN hi hx r (fun s' I' _=>h s' I') hf
theorem Inv.call'{s':Shared}{ch:List Addr}(I:Inv X pins σ H s)(ho:s'.os=s.os)(u:Un (frs X.stack) ch H H' s.heap s'.heap)(hok:HOk X.prog X.w H' s'.heap)(hg:AllBare s'.gens)
 (hch:∀b∈ch,(b∈X.ex∨X.s₀.heap.objs.size≤b)∧b≠X.env.locals∧(∀x c,X.env.cells.lookup x=some c→c≠b)∧∀p∈X.pn++pins,p.1≠b):Inv X pins σ H' s':=by
 obtain ⟨h',g',d',t',o'⟩:=s';have e:o'=s.os:=ho;subst e;exact I.call (g':=g') (t':=t') (d':=d') u hok hg hch
end
noncomputable abbrev XK:=Value→Option Addr→Hp→Prop
noncomputable abbrev St:=List (Option V)
noncomputable abbrev VK:=V→Hp→Prop
noncomputable abbrev TE:=St→Hp→VK→Prop
noncomputable abbrev TT:=St→Hp→(Bool→Hp→Prop)→Prop
noncomputable abbrev TA:=St→Hp→(List V→Hp→Prop)→Prop
structure Ends where
 nx:St→Hp→Prop
 rt:VK
 bk:St→Hp→Prop:=fun _ _=>False
 ct:St→Hp→Prop:=fun _ _=>False
noncomputable abbrev TS:=Ends→St→Hp→Prop
noncomputable def EP(X:Cx)(pins:List (Addr×Obj))(σ:St)(Q:VK)(u:Value)(s':Shared):Prop:=∃v H',Inv X pins σ H' s'∧RelV v u∧Q v H'
noncomputable def TP(X:Cx)(pins:List (Addr×Obj))(σ:St)(Q:Bool→Hp→Prop)(b:Bool)(s':Shared):Prop:=∃H',Inv X pins σ H' s'∧Q b H'
noncomputable def AP(X:Cx)(pins:List (Addr×Obj))(σ:St)(Q:List V→Hp→Prop)(us:List Value)(s':Shared):Prop:=∃vs H',Inv X pins σ H' s'∧Vals vs us∧Q vs H'
noncomputable def SP(X:Cx)(pins:List (Addr×Obj))(D:Ends)(f:Flow)(s':Shared):Prop:=
 match f with
 | .next=>∃ σ' H',Inv X pins σ' H' s'∧D.nx σ' H'
 | .brk=>∃ σ' H',Inv X pins σ' H' s'∧D.bk σ' H'
 | .cont=>∃ σ' H',Inv X pins σ' H' s'∧D.ct σ' H'
 | .ret u=>∃v σ' H',Inv X pins σ' H' s'∧RelV v u∧D.rt v H'
noncomputable def PE(X:Cx)(e:Expr)(t:TE):Prop:=
 ∀(pins:List (Addr×Obj)) (s:Shared) (σ:St) (H:Hp) (Q:VK),Inv X pins σ H s→t σ H Q→wpAny (model X.prog X.w) X.A (eval e X.env) (EP X pins σ Q) X.xe s
noncomputable def PT(X:Cx)(e:Expr)(t:TT):Prop:=
 ∀(pins:List (Addr×Obj)) (s:Shared) (σ:St) (H:Hp) (Q:Bool→Hp→Prop),Inv X pins σ H s→t σ H Q→wpAny (model X.prog X.w) X.A (isTrue e X.env (eval e X.env)) (TP X pins σ Q) X.xe s
noncomputable def PW(X:Cx)(e:Expr)(t:TT):Prop:=
 ∀(whole:Sem Value) (pins:List (Addr×Obj)) (s:Shared) (σ:St) (H:Hp) (Q:Bool→Hp→Prop),Inv X pins σ H s→t σ H Q→wpAny (model X.prog X.w) X.A (isTrue e X.env whole) (TP X pins σ Q) X.xe s
theorem PW.pt{X:Cx}{e:Expr}{t:TT}(h:PW X e t):PT X e t:=h _
noncomputable def PA(X:Cx)(es:List Expr)(t:TA):Prop:=
 ∀(pos:Pos) (pins:List (Addr×Obj)) (s:Shared) (σ:St) (H:Hp) (Q:List V→Hp→Prop),Inv X pins σ H s→t σ H Q→wpAny (model X.prog X.w) X.A (spliced (backTo pos (starEach es X.env))) (AP X pins σ Q) X.xe s
noncomputable def PS(X:Cx)(st:Stmt)(t:TS):Prop:=
 ∀(pins:List (Addr×Obj)) (s:Shared) (σ:St) (H:Hp) (D:Ends),Inv X pins σ H s→t D σ H→wpAny (model X.prog X.w) X.A (exec st X.env) (SP X pins D) X.xe s
noncomputable def PSs(X:Cx)(st:List Stmt)(t:TS):Prop:=
 ∀(pins:List (Addr×Obj)) (s:Shared) (σ:St) (H:Hp) (D:Ends),Inv X pins σ H s→t D σ H→wpAny (model X.prog X.w) X.A (execs st X.env) (SP X pins D) X.xe s
theorem thn{α:Type}{t:Sem α}{Q Q':α→Shared→Prop}{M:Model}{A:Around}{E:Value→Shared→Prop}{s:Shared}(h:wpAny M A t Q E s)(hQ:∀a s,Q a s→Q' a s):wpAny M A t Q' E s:=wpAny_mono h hQ fun _ _ x=>x
end L2
namespace L2
open PySem PySem.Spec PyProof.Rows
section
variable{X:Cx}
theorem bin{a b:Expr}{ta tb:TE}(ha:PE X a ta)(hb:PE X b tb){pins:List (Addr×Obj)}{s:Shared}{σ:St}{H:Hp}{R:V→V→Hp→Prop}(I:Inv X pins σ H s)(h:ta σ H fun x H1=>tb σ H1 fun y H2=>R x y H2)
 {α:Type} {Q:α→Shared→Prop} {f:Value→Value→Sem α}
 (hf:∀v u s2 x y H2,Inv X pins σ H2 s2→RelV x v→RelV y u→R x y H2→wpAny (model X.prog X.w) X.A (f v u) Q X.xe s2):
 wpAny (model X.prog X.w) X.A (eval a X.env) (fun v s₁=>wpAny (model X.prog X.w) X.A (eval b X.env) (fun u s₂=>wpAny (model X.prog X.w) X.A (f v u) Q X.xe s₂) X.xe s₁) X.xe s:=by
 refine thn (ha pins s σ H _ I h) fun v s1 ⟨x,H1,I1,r1,q1⟩=>?_
 refine thn (hb pins s1 σ H1 _ I1 q1) fun u s2 ⟨y,H2,I2,r2,q2⟩=>?_
 exact hf v u s2 x y H2 I2 r1 r2 q2
noncomputable def tVar(i:Nat):TE:=fun σ H Q=>∃v,σ[i]?=some (some v)∧Q v H
noncomputable def tC(v:V):TE:=fun _ H Q=>Q v H
theorem t0z{i:Nat}{x:Str}{pos:Pos}(hN:X.N[i]?=some x)(hv:Vis X.env.scope x)(hd:(x==("__debug__":Str))=false:=by decide)(hcd:(x==("__classdict__":Str))=false:=by decide):PE X (.Name x pos) (tVar i):=by
 intro pins s σ H Q I h;obtain ⟨v,e,h⟩:=h;obtain ⟨m,hn,hl⟩:=I.loc;obtain ⟨u,r,l⟩:=hl i x v hN e hv;have fin:EP X pins σ Q u s:=⟨v,H,I,r,h⟩;rcases l with ⟨hk,hm⟩|⟨hk,c,hc,hcell⟩
 ·exact wpAny_Name (wpAny_loadName_local I.ok.kind hk hn hm fin) hd
 ·rcases hk with hk |hk
  ·exact wpAny_Name (wpAny_loadName_cell I.ok.kind hk hc hcell fin) hd
  ·exact wpAny_Name (wpAny_loadName_free I.ok.kind hk hc hcell fin hcd) hd
theorem pe_int{i j pos}:PE X (.Constant (.int i) j pos) (tC (.int i)):=fun _ _ _ H _ I h=>wpAny_Constant_int ⟨.int i,H,I.tok _,⟨_,rfl⟩,h⟩
theorem pe_bl{b j pos}:PE X (.Constant (.bool b) j pos) (tC (.bl b)):=fun _ _ _ H _ I h=>Constant_bool ⟨.bl b,H,I,rfl,h⟩
theorem pe_non{j pos}:PE X (.Constant .none j pos) (tC .non):=fun _ _ _ H _ I h=>Constant_none ⟨.non,H,I,rfl,h⟩
theorem pe_str{x j pos}:PE X (.Constant (.str x) j pos) (tC (.str x)):=fun _ _ _ H _ I h=>Calls.Constant_str ⟨.str x,H,I.tok _,⟨_,rfl⟩,h⟩
noncomputable def Gl(X:Cx)(x:Str):Prop:=X.env.kindOf x=some .globalImplicit
theorem z0v{E:Value→Shared→Prop}{pins:List (Addr×Obj)}{s:Shared}{σ:St}{H:Hp}{x:Str}{u:Value}{pos:Pos}{Q:Value→Shared→Prop}(I:Inv X pins σ H s)(hg:Gl X x)(hm:X.mg x=some u)(h:Q u s)
 (hd:(x==("__debug__":Str))=false:=by decide):wpAny (model X.prog X.w) X.A (eval (.Name x pos) X.env) Q E s:=
 Calls.Name_function_global I.ok.kind hg (Calls.loadGlobal_global (by rw[I.ok.glob];exact I.mod.glob.keeps I.bk) hm h) hd
theorem v0j{E:Value→Shared→Prop}{pins:List (Addr×Obj)}{s:Shared}{σ:St}{H:Hp}{x:Str}{u:Value}{pos:Pos}{Q:Value→Shared→Prop}(I:Inv X pins σ H s)(hg:Gl X x)(hm:X.mg x=none)(hv:bootBuiltins x=some u)(h:Q u s)
 (hn:x≠"__name__":=by decide) (hd:(x==("__debug__":Str))=false:=by decide):wpAny (model X.prog X.w) X.A (eval (.Name x pos) X.env) Q E s:=by
 obtain ⟨mb,h1,h2⟩:=I.mod.blt;exact Calls.Name_function_global I.ok.kind hg (Calls.loadGlobal_builtin (by rw[I.ok.glob];exact I.mod.glob.keeps I.bk) hm (by rw[I.ok.blt];exact h1.keeps I.bk) ((h2 x hn).trans hv) h) hd
theorem j0j{x:Str}{v:V}{u:Value}{pos:Pos}(hg:Gl X x)(hm:X.mg x=some u)(r:RelV v u)(hd:(x==("__debug__":Str))=false:=by decide):PE X (.Name x pos) (tC v):=
 fun _ _ _ H _ I h=>z0v I hg hm ⟨v,H,I,r,h⟩ hd
theorem c0d{x:Str}{v:V}{u:Value}{pos:Pos}(hg:Gl X x)(hm:X.mg x=none)(hv:bootBuiltins x=some u)(r:RelV v u)(hn:x≠"__name__":=by decide)(hd:(x==("__debug__":Str))=false:=by decide):PE X (.Name x pos) (tC v):=
 fun _ _ _ H _ I h=>v0j I hg hm hv ⟨v,H,I,r,h⟩ hn hd
variable{a b:Expr}{ta tb:TE}{pos:Pos}
noncomputable def PC(X:Cx)(op:CmpOp)(a b:Expr)(t:TE):Prop:=
 ∀(pins:List (Addr×Obj)) (s:Shared) (σ:St) (H:Hp) (Q:VK),Inv X pins σ H s→t σ H Q→
  wpAny (model X.prog X.w) X.A (eval a X.env) (fun v s₁=>wpAny (model X.prog X.w) X.A (eval b X.env) (fun u s₂=>wpAny (model X.prog X.w) X.A (compareOp op v u) (EP X pins σ Q) X.xe s₂) X.xe s₁) X.xe s
theorem f0v(b:Expr){op:CmpOp}(h:op≠.In)(h2:op≠.NotIn):behindInMarks op b=false:=by
 have e1:(op==CmpOp.In)=false:=by cases op<;>first |rfl |exact absurd rfl h
 have e2:(op==CmpOp.NotIn)=false:=by cases op<;>first |rfl |exact absurd rfl h2
 cases b<;>simp[behindInMarks,e1,e2]
noncomputable def tB(t:TE):TT:=fun σ H Q=>t σ H fun x H1=>∃c,x=.bl c∧Q c H1
theorem pt_cmp{op:CmpOp}{t:TE}(h:PC X op a b t)(h1:behindInMarks op b=false:=by first |exact f0v _ (by decide) (by decide)|rfl):PT X (.Compare a [op] [b] pos) (tB t):=by
 intro pins s σ H Q I hw;refine wpAny_isTrue_Compare1 (thn (h pins s σ H _ I hw) fun v s1 h1=>thn h1 fun u s2 h2=>thn h2 fun c s3 ⟨x,H1,I1,r1,q1⟩=>?_) h1;obtain ⟨d,rfl,q⟩:=q1;cases r1;exact wpAny_truthy_bool ⟨H1,I1,q⟩
theorem pt_val{e:Expr}{t:TE}(h:PE X e t)(he:∀whole,isTrue e X.env whole=(do let v←whole;standAt e.pos;holding [v] (truthy v)):=by intro _;rfl):PT X e (tB t):=by
 intro pins s σ H Q I hw;refine isTrue_plain (thn (h pins s σ H _ I hw) fun v s1 ⟨x,H1,I1,r1,q1⟩=>?_) (he _);obtain ⟨d,rfl,q⟩:=q1;cases r1;exact wpAny_truthy_bool ⟨H1,I1,q⟩
variable{tA tB':TT}{rest:List Expr}
noncomputable def tAnd(t u:TT):TT:=fun σ H Q=>t σ H fun c H1=>if c=true then u σ H1 Q else Q false H1
noncomputable def tOr(t u:TT):TT:=fun σ H Q=>t σ H fun c H1=>if c=true then Q true H1 else u σ H1 Q
noncomputable def tNot(t:TT):TT:=fun σ H Q=>t σ H fun c H1=>Q (!c) H1
theorem c0c(ha:PT X a tA):PW X (.BoolOp .And [a] pos) tA:=by
 intro wh pins s σ H Q I h;refine isTrue_and (thn (ha pins s σ H Q I h) fun c s1 e=>?_);cases c with
 |true=>exact isTrue_and_nil e
 |false=>exact e
theorem pw_or1(ha:PT X a tA):PW X (.BoolOp .Or [a] pos) tA:=by
 intro wh pins s σ H Q I h;refine isTrue_or (thn (ha pins s σ H Q I h) fun c s1 e=>?_);cases c with
 |false=>exact isTrue_or_nil e
 |true=>exact e
theorem pw_and(ha:PT X a tA)(hb:PW X (.BoolOp .And (b::rest) pos) tB'):PW X (.BoolOp .And (a::b::rest) pos) (tAnd tA tB'):=by
 intro wh pins s σ H Q I h;refine isTrue_and (thn (ha pins s σ H _ I h) fun c s1 ⟨H1,I1,q1⟩=>?_);cases c with
 |true=>exact hb wh pins s1 σ H1 Q I1 q1
 |false=>exact ⟨H1,I1,q1⟩
theorem pw_or(ha:PT X a tA)(hb:PW X (.BoolOp .Or (b::rest) pos) tB'):PW X (.BoolOp .Or (a::b::rest) pos) (tOr tA tB'):=by
 intro wh pins s σ H Q I h;refine isTrue_or (thn (ha pins s σ H _ I h) fun c s1 ⟨H1,I1,q1⟩=>?_);cases c with
 |true=>exact ⟨H1,I1,q1⟩
 |false=>exact hb wh pins s1 σ H1 Q I1 q1
theorem pt_not(ha:PT X a tA):PT X (.UnaryOp .Not a pos) (tNot tA):=by
 intro pins s σ H Q I h;exact isTrue_not (ha pins s σ H (fun c H1=>Q (!c) H1) I h)
noncomputable def tAndV(ta tb:TE):TE:=fun σ H Q=>ta σ H fun x H1=>∃c,x=.bl c∧if c=true then tb σ H1 Q else Q (.bl false) H1
noncomputable def tNotV(ta:TE):TE:=fun σ H Q=>ta σ H fun x H1=>∃c,x=.bl c∧Q (.bl (!c)) H1
theorem pe_one{op}{t:TE}(h:PE X a t):PE X (.BoolOp op [a] pos) t:=fun pins s σ H Q I hw=>BoolOp_one (h pins s σ H Q I hw)
theorem pe_and(ha:PE X a ta)(hb:PE X (.BoolOp .And (b::rest) pos) tb):PE X (.BoolOp .And (a::b::rest) pos) (tAndV ta tb):=by
 intro pins s σ H Q I h;refine BoolOp_and (thn (ha pins s σ H _ I h) fun v s1 ⟨x,H1,I1,r1,q1⟩=>?_);obtain ⟨c,rfl,q1⟩:=q1;cases r1;refine wpAny_truthy_bool ?_;cases c with
 |true=>exact hb pins s1 σ H1 Q I1 q1
 |false=>exact ⟨.bl false,H1,I1,rfl,q1⟩
theorem pe_not(ha:PE X a ta):PE X (.UnaryOp .Not a pos) (tNotV ta):=by
 intro pins s σ H Q I h;refine UnaryOp_ (thn (ha pins s σ H _ I h) fun v s1 ⟨x,H1,I1,r1,q1⟩=>?_);obtain ⟨c,rfl,q1⟩:=q1;cases r1;exact not_of (wpAny_truthy_bool ⟨.bl (!c),H1,I1,rfl,q1⟩)
end
end L2
namespace L2
open PySem PySem.Spec PyProof.Rows
noncomputable def SqL(K:PySem.W.Frag)(H:Hp)(a:Addr)(xs:List V):Prop:=
 Rd H a (.lst xs)∨
  ∃(o:Obj) (its:Array Value) (n:Nat),K.lookup a=some o∧o.cls=.type "list"∧o.dict=none∧o.data=.seq its n∧its.size≤sizeLine∧Vals xs its.toList
noncomputable def SqT(K:PySem.W.Frag)(H:Hp)(a:Addr)(xs:List V):Prop:=
 Rd H a (.tup xs)∨
  ∃(o:Obj) (its:Array Value) (n:Nat),K.lookup a=some o∧o.cls=.type "tuple"∧o.data=.seq its n∧its.size≤sizeLine∧Vals xs its.toList
noncomputable def absV:Value→Option V
 | .none=>some .non
 | .bool b=>some (.bl b)
 | .int i _=>some (.int i)
 | .str x _=>some (.str x)
 | .bytes b _=>some (.byt b)
 | .float b _=>some (.flt b)
 | .ref a=>some (.ref a)
 | .type n=>some (.ty n)
 |_=>none
theorem RelV.abs{x:V}{u:Value}(r:RelV x u):absV u=some x:=by
 cases x with
 |non=>cases r;rfl
 |bl _=>cases r;rfl
 |int _=>obtain ⟨t,rfl⟩:=r;rfl
 |str _=>obtain ⟨t,rfl⟩:=r;rfl
 |byt _=>obtain ⟨t,rfl⟩:=r;rfl
 |flt _=>obtain ⟨t,rfl⟩:=r;rfl
 |ref _=>cases r;rfl
 |ty _=>cases r;rfl
theorem RelV.inj{x y:V}{u:Value}(r:RelV x u)(q:RelV y u):x=y:=Option.some.inj (r.abs.symm.trans q.abs)
theorem Vals.inj:∀{xs ys:List V} {us:List Value},Vals xs us→Vals ys us→xs=ys
 |_,_,_,.nil,.nil=>rfl
 |_,_,_,.cons r t,.cons r' t'=>by rw[r.inj r',Vals.inj t t']
section
variable{X:Cx}{pins:List (Addr×Obj)}{σ:St}{H:Hp}{s:Shared}{a:Addr}{xs ys:List V}
theorem SqL.of{K:PySem.W.Frag}(h:H a=some (.lst xs)):SqL K H a xs:=.inl (.inl h)
theorem SqT.of{K:PySem.W.Frag}(h:H a=some (.tup xs)):SqT K H a xs:=.inl (.inl h)
theorem Inv.list(I:Inv X pins σ H s)(h:SqL X.K H a xs):∃its:List Value,Vals xs its∧PlainL s.heap a its.toArray∧xs.length≤sizeLine:=by
 rcases h with h |⟨o,its,n,hk,hc,hd,hs,hz,r⟩
 ·obtain ⟨z,its,n,r,e⟩:=h.ok I.hok;exact ⟨its,r,⟨_,n,e,rfl,rfl,rfl⟩,z⟩
 ·refine ⟨its.toList,r,⟨o,n,I.kIn a o hk,hc,hd,by simpa using hs⟩,?_⟩;have e:=r.length;simp only[Array.length_toList]at e;omega
theorem Inv.tuple(I:Inv X pins σ H s)(h:SqT X.K H a xs):∃its:List Value,Vals xs its∧IsTup s.heap a its.toArray∧xs.length≤sizeLine:=by
 rcases h with h |⟨o,its,n,hk,hc,hs,hz,r⟩
 ·obtain ⟨z,its,r,p⟩:=h.ok I.hok;exact ⟨its,r,p.tup,z⟩
 ·refine ⟨its.toList,r,⟨o,I.kIn a o hk,hc,n,by simpa using hs⟩,?_⟩;have e:=r.length;simp only[Array.length_toList]at e;omega
theorem Inv.list_inj(I:Inv X pins σ H s)(h:SqL X.K H a xs)(h':SqL X.K H a ys):xs=ys:=by
 obtain ⟨its,r,⟨o,n,e,_,_,d⟩,_⟩:=I.list h;obtain ⟨its',r',⟨o',n',e',_,_,d'⟩,_⟩:=I.list h';rw[e]at e';cases e';rw[d]at d';injection d' with d1 _
 have:its=its':=by simpa using congrArg Array.toList d1
 subst this;exact r.inj r'
theorem Inv.tuple_inj(I:Inv X pins σ H s)(h:SqT X.K H a xs)(h':SqT X.K H a ys):xs=ys:=by
 obtain ⟨its,r,⟨o,e,_,n,d⟩,_⟩:=I.tuple h;obtain ⟨its',r',⟨o',e',_,n',d'⟩,_⟩:=I.tuple h';rw[e]at e';cases e';rw[d]at d';injection d' with d1 _
 have:its=its':=by simpa using congrArg Array.toList d1
 subst this;exact r.inj r'
end
noncomputable abbrev Cx.wish(X:Cx)(E:Value→Shared→Prop):Cx:={X with xe:=E}
noncomputable abbrev Cx.nox(X:Cx):Cx:=X.wish fun _ _=>False
theorem Cx.Ok.wish{X:Cx}(ok:X.Ok)(E:Value→Shared→Prop):(X.wish E).Ok:=
 ⟨ok.mod,ok.kind,ok.glob,ok.blt,ok.above,ok.inj,ok.has,ok.cab,ok.hd,ok.frames,ok.stk,ok.exf,ok.bs,ok.bsz,ok.noex,ok.exfs,ok.funs,ok.frf⟩
theorem Cx.Ok.unwish{X:Cx}{E:Value→Shared→Prop}(ok:(X.wish E).Ok):X.Ok:=
 ⟨ok.mod,ok.kind,ok.glob,ok.blt,ok.above,ok.inj,ok.has,ok.cab,ok.hd,ok.frames,ok.stk,ok.exf,ok.bs,ok.bsz,ok.noex,ok.exfs,ok.funs,ok.frf⟩
section
variable{X:Cx}{pins:List (Addr×Obj)}{σ:St}{H:Hp}{s:Shared}{E:Value→Shared→Prop}
theorem Inv.wish(I:Inv X pins σ H s)(E:Value→Shared→Prop):Inv (X.wish E) pins σ H s:=⟨I.ok.wish E,I.os,I.bare,I.base,I.loc,I.cell,I.free,I.freeC,I.pin,I.hok,I.len⟩
theorem Inv.unwish(I:Inv (X.wish E) pins σ H s):Inv X pins σ H s:=⟨I.ok.unwish,I.os,I.bare,I.base,I.loc,I.cell,I.free,I.freeC,I.pin,I.hok,I.len⟩
theorem SP.unwish{D:Ends}{f:Flow}{s':Shared}(h:SP (X.wish E) pins D f s'):SP X pins D f s':=by
 cases f with
 |next=>obtain ⟨σ',H',I,q⟩:=h;exact ⟨σ',H',I.unwish,q⟩
 |brk=>obtain ⟨σ',H',I,q⟩:=h;exact ⟨σ',H',I.unwish,q⟩
 |cont=>obtain ⟨σ',H',I,q⟩:=h;exact ⟨σ',H',I.unwish,q⟩
 |ret u=>obtain ⟨v,σ',H',I,r,q⟩:=h;exact ⟨v,σ',H',I.unwish,r,q⟩
theorem PSs.nox{st:List Stmt}{t:TS}(h:PSs X.nox st t):PSs X st t:=fun pins s σ H D I hw=>
 wpAny_mono (h pins s σ H D (I.wish _) hw) (fun _ _ q=>q.unwish) fun _ _ z=>False.elim z
end
section
variable{X:Cx}{st:Stmt}{rest:List Stmt}{t u:TS}{e:Expr}{te:TE}{pos:Pos}
noncomputable def tNext:TS:=fun D σ H=>D.nx σ H
noncomputable def tSeq(t u:TS):TS:=fun D σ H=>t {D with nx:=u D} σ H
theorem c0b:PSs X [] tNext:=fun _ _ σ H _ I h=>wpAny_execs_nil ⟨σ,H,I,h⟩
theorem l0y(h1:PS X st t)(h2:PSs X rest u):PSs X (st::rest) (tSeq t u):=by
 intro pins s σ H D I h;refine wpAny_execs_cons (thn (h1 pins s σ H {D with nx:=u D} I h) fun f s1 q=>?_);cases f with
 |next=>
  obtain ⟨σ',H',I',q⟩:=q;exact h2 pins s1 σ' H' D I' q
 |ret v=>exact q
 |brk=>exact q
 |cont=>exact q
theorem y0t(h1:PS X st t):PSs X [st] t:=by
 intro pins s σ H D I h;refine wpAny_execs_cons (thn (h1 pins s σ H D I h) fun f s1 q=>?_);cases f with
 |next=>exact wpAny_execs_nil q
 |ret v=>exact q
 |brk=>exact q
 |cont=>exact q
noncomputable def tBreak:TS:=fun D σ H=>D.bk σ H
theorem f0u:PS X (.Break pos) tBreak:=fun _ _ σ H _ I h=>wpAny_Break ⟨σ,H,I,h⟩
theorem Inv.quiet{pins:List (Addr×Obj)}{σ:St}{H:Hp}{s:Shared}(I:Inv X pins σ H s):interactive X.env=false:=by simp[interactive,I.ok.kind]
noncomputable def tDrop(te:TE):TS:=fun D σ H=>te σ H fun _ H1=>D.nx σ H1
theorem c0a(he:PE X e te)(hs:swapsWith e none pos.line X.env=pure false:=by rfl):PS X (.Expr e pos) (tDrop te):=by
 intro pins s σ H D I h;exact wpAny_Expr_any (thn (he pins s σ H _ I h) fun v s1 ⟨x,H1,I1,r1,q1⟩=>⟨σ,H1,I1,q1⟩) I.quiet hs
noncomputable def tRet(te:TE):TS:=fun D σ H=>te σ H D.rt
theorem d0k(he:PE X e te):PS X (.Return (some e) pos) (tRet te):=by
 intro pins s σ H D I h;exact wpAny_Return_some (thn (he pins s σ H _ I h) fun v s1 ⟨x,H1,I1,r1,q1⟩=>⟨x,σ,H1,I1,r1,q1⟩)
noncomputable def tIfS(c:TT)(t u:TS):TS:=fun D σ H=>c σ H fun b H1=>if b=true then t D σ H1 else u D σ H1
theorem ps_if{c:Expr}{a b:List Stmt}{tc:TT}(hc:PT X c tc)(ha:PSs X a t)(hb:PSs X b u):PS X (.If c a b pos) (tIfS tc t u):=by
 intro pins s σ H D I h;refine wpAny_If (thn (hc pins s σ H _ I h) fun d s1 ⟨H1,I1,q1⟩=>?_);cases d with
 |true=>exact ha pins s1 σ H1 D I1 q1
 |false=>exact hb pins s1 σ H1 D I1 q1
end
noncomputable abbrev TG:=V→St→Hp→(St→Hp→Prop)→Prop
noncomputable abbrev TGs:=List V→St→Hp→(St→Hp→Prop)→Prop
noncomputable def PG(X:Cx)(target:Expr)(t:TG):Prop:=
 ∀(pins:List (Addr×Obj)) (s:Shared) (σ:St) (H:Hp) (v:V) (u:Value) (Q:St→Hp→Prop),Inv X pins σ H s→RelV v u→t v σ H Q→
  wpAny (model X.prog X.w) X.A (assign target X.env u) (fun _ s'=>∃ σ' H',Inv X pins σ' H' s'∧Q σ' H') X.xe s
noncomputable def PGs(X:Cx)(ts:List Expr)(t:TGs):Prop:=
 ∀(pins:List (Addr×Obj)) (s:Shared) (σ:St) (H:Hp) (vs:List V) (us:List Value) (Q:St→Hp→Prop),Inv X pins σ H s→Vals vs us→t vs σ H Q→
  wpAny (model X.prog X.w) X.A (assignInOrder ((assignEach ts X.env).map (·.2)) us) (fun _ s'=>∃ σ' H',Inv X pins σ' H' s'∧Q σ' H') X.xe s
noncomputable abbrev TIp:=V→V→Hp→VK→Prop
noncomputable def PIp(X:Cx)(op:Operator)(t:TIp):Prop:=
 ∀(pins:List (Addr×Obj)) (s:Shared) (σ:St) (H:Hp) (x y:V) (v u:Value) (Q:VK),Inv X pins σ H s→RelV x v→RelV y u→t x y H Q→
  wpAny (model X.prog X.w) X.A (inplaceOp op v u) (EP X pins σ Q) X.xe s
section
variable{X:Cx}{pos:Pos}
noncomputable def j0i(i:Nat):TG:=fun v σ H Q=>Q (σ.set i (some v)) H
theorem l3{i:Nat}{x:Str}(hN:X.N.Nodup)(hi:X.N[i]?=some x)(hx:Loc X.env.scope x)(hf:X.fn x=true∨X.env.scope.names.lookup x=some .local:=by first |exact .inl rfl |exact .inr rfl |assumption):PG X (.Name x pos) (j0i i):=by
 intro pins s σ H v u Q I r h;exact wpAny_assign_Name (w0v I hN hi hx r (fun s' I'=>⟨_,H,I',h⟩) hf)
noncomputable def gNil:TGs:=fun vs σ H Q=>vs=[]∧Q σ H
noncomputable def gCons(t:TG)(u:TGs):TGs:=fun vs σ H Q=>∃v r,vs=v::r∧t v σ H fun σ' H'=>u r σ' H' Q
theorem m9:PGs X [] gNil:=by
 intro pins s σ H vs us Q I r h;obtain ⟨e,h⟩:=h;subst e;cases r;exact assignInOrder_nil ⟨σ,H,I,h⟩
theorem w4{e:Expr}{es:List Expr}{t:TG}{u:TGs}(h1:PG X e t)(h2:PGs X es u)
 (hs:(assignEach (e::es) X.env).map (·.2)=assign e X.env::(assignEach es X.env).map (·.2):=by rfl):PGs X (e::es) (gCons t u):=by
 intro pins s σ H vs us Q I r h;obtain ⟨v,vr,e1,h⟩:=h;subst e1;cases r with
 |cons r rr=>
  rw[hs];refine assignInOrder_cons (thn (h1 pins s σ H _ _ _ I r h) fun _ s1 ⟨σ1,H1,I1,q1⟩=>?_);exact h2 pins s1 σ1 H1 _ _ Q I1 rr q1
noncomputable def gTup(K:PySem.W.Frag)(n:Nat)(t:TGs):TG:=fun v σ H Q=>∃a xs,v=.ref a∧SqT K H a xs∧xs.length=n∧t xs σ H Q
theorem d0j{es:List Expr}{k:Nat}{t:TGs}{n:Nat}(hc:X.calm=true)(h:PGs X es t)
 (hn:(assignEach es X.env).length=n:=by rfl) (hst:(assignEach es X.env).findIdx? (·.1)=none:=by rfl):PG X (.Tuple es k pos) (gTup X.K n t):=by
 intro pins s σ H v u Q I r hw;obtain ⟨a,xs,e1,hq,hl,hw⟩:=hw;subst e1;cases r;obtain ⟨its,rv,ht,hz⟩:=I.tuple hq;refine assign_Tuple_tuple (I.ok.hd hc) ht (by simp[hn,← hl,rv.length]) hst fun h' hx=>?_
 have I1:Inv X pins σ H {s with heap:=h'}:=I.kept (t':=s.toks) fun b o e=>hx b o (Nat.ne_of_lt (Heap.lt_size e)) e
 exact h pins _ σ H xs _ Q I1 (by simpa using rv) hw
noncomputable def tAsg(te:TE)(g:TG):TS:=fun D σ H=>te σ H fun x H1=>g x σ H1 D.nx
theorem ps_asg{tg e:Expr}{te:TE}{g:TG}(he:PE X e te)(hg:PG X tg g)(hs:swapsWithSole [tg] e pos.line X.env=pure false:=by rfl)(hw:swappedStores [tg] e X.env=pure none:=by rfl)
 (h1:(assignEach [tg] X.env).map (·.2)=[assign tg X.env]:=by rfl):PS X (.Assign [tg] e pos) (tAsg te g):=by
 intro pins s σ H D I h;refine wpAny_Assign_stores (thn (he pins s σ H _ I h) fun v s1 ⟨x,H1,I1,r1,q1⟩=>?_) hs hw;rw[h1];exact thn (hg pins s1 σ H1 x v _ I1 r1 q1) fun _ s2 q=>q
theorem j0h{i:Nat}{x:Str}{e:Expr}{te:TE}{pos':Pos}(hN:X.N.Nodup)(hi:X.N[i]?=some x)(hx:Loc X.env.scope x)(he:PE X e te)(hs:swapsWith e (some (.Name x pos')) pos.line X.env=pure false:=by rfl)(hf:X.fn x=true∨X.env.scope.names.lookup x=some .local:=by first |exact .inl rfl |exact .inr rfl |assumption):
 PS X (.Assign [.Name x pos'] e pos) (tAsg te (j0i i)):=by
 intro pins s σ H D I h;refine wpAny_Assign_Name (thn (he pins s σ H _ I h) fun v s1 ⟨y,H1,I1,r1,q1⟩=>?_) hs;exact w0v I1 hN hi hx r1 (fun s2 I2=>⟨_,H1,I2,q1⟩) hf
noncomputable def tAug(i:Nat)(te:TE)(ti:TIp):TS:=fun D σ H=>∃x,σ[i]?=some (some x)∧te σ H fun y H1=>ti x y H1 fun z H2=>D.nx (σ.set i (some z)) H2
theorem ps_aug{i:Nat}{x:Str}{e:Expr}{te:TE}{op:Operator}{ti:TIp}{pos':Pos}(hN:X.N.Nodup)(hi:X.N[i]?=some x)(hx:Loc X.env.scope x)(he:PE X e te)(ho:PIp X op ti)(hf:X.fn x=true∨X.env.scope.names.lookup x=some .local:=by first |exact .inl rfl |exact .inr rfl |assumption):
 PS X (.AugAssign (.Name x pos') op e pos) (tAug i te ti):=by
 intro pins s σ H D I h;obtain ⟨v,e1,h⟩:=h;obtain ⟨m,hn,hl⟩:=I.loc;have vis:Vis X.env.scope x:=by rcases hx with k |k;exact .inl k;exact .inr (.inl k)
 obtain ⟨u,r,l⟩:=hl i x v hi e1 vis;refine wpAny_AugAssign_Name ?_;have go:wpAny (model X.prog X.w) X.A (eval e X.env) (fun w s₂=>wpAny (model X.prog X.w) X.A (inplaceOp op u w) (fun r s₃=>wpAny (model X.prog X.w) X.A (storeName X.env x r) (fun _=>SP X pins D .next) X.xe s₃) X.xe s₂) X.xe s:=by
  refine thn (he pins s σ H _ I h) fun w s1 ⟨y,H1,I1,r1,q1⟩=>?_
  refine thn (ho pins s1 σ H1 v y u w _ I1 r r1 q1) fun z s2 ⟨zv,H2,I2,r2,q2⟩=>?_
  exact w0v I2 hN hi hx r2 (fun s3 I3=>⟨_,H2,I3,q2⟩) hf
 rcases l with ⟨hk,hm⟩|⟨hk,c,hc,hcell⟩
 ·exact wpAny_loadName_local I.ok.kind hk hn hm go
 ·rcases hk with hk |hk
  ·exact wpAny_loadName_cell I.ok.kind hk hc hcell go
  ·rcases hx with k |k
   ·have:X.env.scope.names.lookup x=some .free:=hk;rw[k]at this;cases this
   ·have:X.env.scope.names.lookup x=some .free:=hk;rw[k]at this;cases this
noncomputable def ipI(f:Int→Int→Int):TIp:=fun x y H Q=>∃i j,x=.int i∧y=.int j∧Q (.int (f i j)) H
theorem ip_sub:PIp X .Sub (ipI fun i j=>i-j):=by
 intro pins s σ H x y v u Q I r1 r2 h;obtain ⟨i,j,e1,e2,q⟩:=h;subst e1;subst e2;obtain ⟨t,rfl⟩:=r1;obtain ⟨t',rfl⟩:=r2;exact isub_int ⟨.int _,H,I.tok _,⟨_,rfl⟩,q⟩
end
section
variable{X:Cx}{pos:Pos}
noncomputable def tWhile(c:TT)(tb:TS):TS:=fun D σ H=>∃W:Nat→St→Hp→Prop,(∃m,W m σ H)∧∀m σ H,W m σ H→
 c σ H fun b H1=>if b=true then ∃N:St→Hp→Prop,(∀ σ' H',N σ' H'→∃m',m'<m∧W m' σ' H')∧tb {D with nx:=N,ct:=N,bk:=D.nx} σ H1 else D.nx σ H1
theorem f0t{c:Expr}{body:List Stmt}{tc:TT}{tb:TS}(hp:PassesOwn (model X.prog X.w) X.A X.env X.xe)(hc:PT X c tc)(hb:PSs X body tb):PS X (.While c body [] pos) (tWhile tc tb):=by
 intro pins s σ H D I h;obtain ⟨W,⟨m0,w0⟩,turn⟩:=h;refine wpAny_While (codeAny_whileLoop (fun n s'=>∃ σ' H',Inv X pins σ' H' s'∧W n σ' H') ?_ m0 ⟨σ,H,I,w0⟩);rintro n s1 ⟨σ1,H1,I1,w1⟩;refine wpAny_passesOwn hp (thn (hc pins s1 σ1 H1 _ I1 (turn n σ1 H1 w1)) fun b s2 ⟨H2,I2,q2⟩=>?_);cases b with
 |true=>
  obtain ⟨N,hN,q2⟩:=q2;rw[if_pos rfl];refine wpAny_passesOwn hp (thn (hb pins s2 σ1 H2 _ I2 q2) fun f s3 q3=>?_);cases f with
  |next=>
   obtain ⟨σ3,H3,I3,n3⟩:=q3;obtain ⟨m',hm,w3⟩:=hN σ3 H3 n3;exact ⟨m',hm,σ3,H3,I3,w3⟩
  |cont=>
   obtain ⟨σ3,H3,I3,n3⟩:=q3;obtain ⟨m',hm,w3⟩:=hN σ3 H3 n3;exact ⟨m',hm,σ3,H3,I3,w3⟩
  |brk=>exact q3
  |ret v=>exact q3
 |false=>
  rw[if_neg Bool.false_ne_true];exact wpAny_execs_nil ⟨σ1,H2,I2,q2⟩
end
structure It where
 go:Nat→Hp→Prop
 yld:Nat→Hp→V→Hp→Prop
 stop:Nat→Hp→Prop
noncomputable def FpOk(X:Cx)(pins:List (Addr×Obj))(H:Hp)(b:Addr):Prop:=
 H b=none∧b≠X.env.locals∧b∉X.fs∧(b∈X.ex∨X.s₀.heap.objs.size≤b)∧(∀x c,X.env.cells.lookup x=some c→c≠b)∧∀p∈X.pn++pins,p.1≠b
theorem Inv.fpOk{X:Cx}{pins:List (Addr×Obj)}{σ:St}{H H':Hp}{s:Shared}{b:Addr}(I:Inv X pins σ H s)(hb:s.heap.objs.size≤b)(hn:H' b=none):FpOk X pins H' b:=by
 refine ⟨hn,Nat.ne_of_gt (Nat.lt_of_lt_of_le I.lt hb),I.nofs hb,.inr (Nat.le_trans I.sz hb),fun x c e z=>?_,fun p hp z=>?_⟩
 ·obtain ⟨v,q⟩:=I.cell x c e;exact absurd (Nat.lt_of_lt_of_le q.lt (by rw[z];exact hb)) (Nat.lt_irrefl _)
 ·exact absurd (Nat.lt_of_lt_of_le (Heap.lt_size (I.pin p hp).1) (by rw[z];exact hb)) (Nat.lt_irrefl _)
structure Turn(P:Program)(w:World)(K:PySem.W.Frag)(tg:Expr)(J:It)(fp:List Addr)(it:Addr)(tn:Nat→Heap→Prop):Prop where
 mem:it∈fp
 obj:∀i h,tn i h→∀b∈fp,∃o,h.get? b=some o∧∀v,o.data≠.cell v
 keep:∀i h h',tn i h→(∀b∈fp,∀o,h.get? b=some o→h'.get? b=some o)→tn i h'
 item:∀(X:Cx),X.prog=P→X.w=w→X.K=K→X.calm=true→∀(i:Nat) (pins:List (Addr×Obj)) (s:Shared) (σ:St) (H:Hp) (E:Value→Shared→Prop),Inv X pins σ H s→(∀b∈fp,FpOk X pins H b)→tn i s.heap→J.go i H→
  wpAny (model P w) X.A (pyNext (.ref it)) (fun r s1=>∃u,r=some u∧
   wpAny (model P w) X.A (letOwnedTupleGo tg (.ref it) u) (fun _ s2=>∃x H',Inv X pins σ H' s2∧RelV x u∧J.yld i H x H'∧tn (i+1) s2.heap∧∀b∈fp,H' b=none) E s1) E s
 done:∀(X:Cx),X.prog=P→X.w=w→X.K=K→X.calm=true→∀(i:Nat) (pins:List (Addr×Obj)) (s:Shared) (σ:St) (H:Hp) (E:Value→Shared→Prop),Inv X pins σ H s→(∀b∈fp,FpOk X pins H b)→tn i s.heap→J.stop i H→
  wpAny (model P w) X.A (pyNext (.ref it)) (fun r s1=>r=none∧Inv X pins σ H s1) E s
 self:∀(A:Around) (i:Nat) (s:Shared) (Q:Value→Shared→Prop) (E:Value→Shared→Prop),tn i s.heap→Q (.ref it) s→wpAny (model P w) A (pyIter (.ref it)) Q E s
noncomputable abbrev TI:=St→Hp→(It→Hp→Prop)→Prop
noncomputable def PIE(X:Cx)(pins:List (Addr×Obj))(σ:St)(tg:Expr)(R:It→Hp→Prop)(itv:Value)(s2:Shared):Prop:=
 ∃(it:Addr) (fp:List Addr) (tn:Nat→Heap→Prop) (J:It) (H':Hp),itv=.ref it∧Inv X pins σ H' s2∧Turn X.prog X.w X.K tg J fp it tn∧tn 0 s2.heap∧(∀b∈fp,FpOk X pins H' b)∧R J H'
noncomputable def PI(X:Cx)(tg iter:Expr)(wi:TI):Prop:=
 ∀(pins:List (Addr×Obj)) (s:Shared) (σ:St) (H:Hp) (R:It→Hp→Prop),Inv X pins σ H s→wi σ H R→
  wpAny (model X.prog X.w) X.A (eval iter X.env) (fun v s1=>wpAny (model X.prog X.w) X.A (pyIter v) (PIE X pins σ tg R) X.xe s1) X.xe s
theorem b0z{M:Model}{A:Around}{E:Value→Shared→Prop}{s:Shared}{tg:Expr}{it:Addr}{u:Value}{o:Obj}{n:String}{vs:Array Value}{Q:Unit→Shared→Prop}(ho:s.heap.get? it=some o)(hc:o.cls=.type n)(hd:o.data=.fields vs)
 (hn:["enumerate","zip","dict_itemiterator","dict_reverseitemiterator","odict_iterator","itertools.zip_longest","itertools.pairwise"].contains n=false) (hQ:Q () s):wpAny M A (letOwnedTupleGo tg (.ref it) u) Q E s:=by
 unfold letOwnedTupleGo;cases tg<;>first
  |exact wpAny_pure hQ
  |(cases u<;>first
     |exact wpAny_pure hQ
     |(refine wpAny_bind (wpAny_load ho ?_);rw[hc,hd];show wpAny M A (if (["enumerate","zip","dict_itemiterator","dict_reverseitemiterator","odict_iterator","itertools.zip_longest","itertools.pairwise"].contains n&&vs[0]? ==some (rawInt _))=true then _ else _) Q E s;rw[if_neg (by intro h;rw[hn,Bool.false_and]at h;cases h)];exact wpAny_pure hQ))
noncomputable def Itl(K:PySem.W.Frag)(a:Addr):It:=
 ⟨fun i H=>∃xs x,SqL K H a xs∧xs[i]?=some x,fun i H x H'=>H'=H∧∀xs,SqL K H a xs→xs[i]?=some x,fun i H=>∃xs,SqL K H a xs∧xs.length≤i⟩
noncomputable def Itt(K:PySem.W.Frag)(a:Addr):It:=
 ⟨fun i H=>∃xs x,SqT K H a xs∧xs[i]?=some x,fun i H x H'=>H'=H∧∀xs,SqT K H a xs→xs[i]?=some x,fun i H=>∃xs,SqT K H a xs∧xs.length≤i⟩
noncomputable def Itr(lo:Int)(n:Nat):It:=⟨fun i _=>i<n,fun i H x H'=>H'=H∧x=.int (lo+i),fun i _=>n≤i⟩
theorem j0g{P:Program}{w:World}{K:PySem.W.Frag}{tg:Expr}(a it:Addr):Turn P w K tg (Itl K a) [it] it (fun i h=>h.IsListIter it a i)where
 mem:=by simp
 obj:=fun i h st b hb=>by
  have e:b=it:=by simpa using hb
  subst e;obtain ⟨o,e,c,d⟩:=st;exact ⟨o,e,fun v z=>by rw[d]at z;cases z⟩
 keep:=fun i h h' st k=>st.at fun o e=>k it (by simp) o e
 item:=by
  intro X hP hw hK hc i pins s σ H E I hf st hg;subst hP hw hK;obtain ⟨xs,x,hq,hx⟩:=hg;obtain ⟨its,rv,p,hz⟩:=I.list hq;obtain ⟨u,hu,ru⟩:=rv.get hx;obtain ⟨f0,f1,f2,f3,f4,f5⟩:=hf it (by simp);refine wpAny_pyNext_list_item st p.isList (x:=u) (by simpa using hu) fun h' st' sb=>?_
  have I1:Inv X pins σ H {s with heap:=h'}:=I.turned (t':=s.toks) (fun b o hb e=>(sb.2 b hb).trans e) f0 f1 f3 f4 f5;obtain ⟨o,e,c,d⟩:=id st';exact ⟨u,rfl,b0z (s:={s with heap:=h'}) e c d (by decide) ⟨x,H,I1,ru,⟨rfl,fun ys hy=>by rw[I.list_inj hy hq];exact hx⟩,st',fun b hb=>(hf b hb).1⟩⟩
 done:=by
  intro X hP hw hK hc i pins s σ H E I hf st hg;subst hP hw hK;obtain ⟨xs,hq,hx⟩:=hg;obtain ⟨its,rv,p,hz⟩:=I.list hq;obtain ⟨f0,f1,f2,f3,f4,f5⟩:=hf it (by simp);have hl:=rv.length;exact wpAny_pyNext_list_end (I.ok.hd hc) st p.isList (by simp;omega) fun h' eb=>⟨rfl,I.turned (t':=s.toks) (fun b o hb e=>eb b o hb e) f0 f1 f3 f4 f5⟩
 self:=fun _ _ _ _ _ st h=>wpAny_pyIter_listiter st h
theorem k0n{P:Program}{w:World}{K:PySem.W.Frag}{tg:Expr}(a it:Addr):Turn P w K tg (Itt K a) [it] it (fun i h=>h.IsTupleIter it a i)where
 mem:=by simp
 obj:=fun i h st b hb=>by
  have e:b=it:=by simpa using hb
  subst e;obtain ⟨o,e,c,d⟩:=st;exact ⟨o,e,fun v z=>by rw[d]at z;cases z⟩
 keep:=fun i h h' st k=>st.at fun o e=>k it (by simp) o e
 item:=by
  intro X hP hw hK hc i pins s σ H E I hf st hg;subst hP hw hK;obtain ⟨xs,x,hq,hx⟩:=hg;obtain ⟨its,rv,p,hz⟩:=I.tuple hq;obtain ⟨u,hu,ru⟩:=rv.get hx;obtain ⟨f0,f1,f2,f3,f4,f5⟩:=hf it (by simp);refine wpAny_pyNext_tuple_item st (show s.heap.IsTuple a its.toArray from p) (x:=u) (by simpa using hu) fun h' st' sb=>?_
  have I1:Inv X pins σ H {s with heap:=h'}:=I.turned (t':=s.toks) (fun b o hb e=>(sb.2 b hb).trans e) f0 f1 f3 f4 f5;obtain ⟨o,e,c,d⟩:=id st';exact ⟨u,rfl,b0z (s:={s with heap:=h'}) e c d (by decide) ⟨x,H,I1,ru,⟨rfl,fun ys hy=>by rw[I.tuple_inj hy hq];exact hx⟩,st',fun b hb=>(hf b hb).1⟩⟩
 done:=by
  intro X hP hw hK hc i pins s σ H E I hf st hg;subst hP hw hK;obtain ⟨xs,hq,hx⟩:=hg;obtain ⟨its,rv,p,hz⟩:=I.tuple hq;obtain ⟨f0,f1,f2,f3,f4,f5⟩:=hf it (by simp);have hl:=rv.length;exact wpAny_pyNext_tuple_end (I.ok.hd hc) st (show s.heap.IsTuple a its.toArray from p) (by simp;omega) fun h' eb=>⟨rfl,I.turned (t':=s.toks) (fun b o hb e=>eb b o hb e) f0 f1 f3 f4 f5⟩
 self:=fun _ _ _ _ _ st h=>wpAny_pyIter_tupleiter st h
theorem k0m{P:Program}{w:World}{K:PySem.W.Frag}{tg:Expr}(it:Addr)(lo:Int)(n:Nat):Turn P w K tg (Itr lo n) [it] it (fun i h=>IsRangeIter h it (lo+(i:Nat)*1) ((n:Int)-(i:Nat)) 1)where
 mem:=by simp
 obj:=fun i h st b hb=>by
  have e:b=it:=by simpa using hb
  subst e;exact ⟨_,st,fun v z=>by
   have z':Data.fields _=Data.cell v:=z;cases z'⟩
 keep:=fun i h h' st k=>k it (by simp) _ st
 item:=by
  intro X hP hw hK hc i pins s σ H E I hf st hg;subst hP hw hK;obtain ⟨f0,f1,f2,f3,f4,f5⟩:=hf it (by simp);have W:=Walks.range (prog:=X.prog) (w:=X.w) (I.ok.hd hc) it lo 1 n;refine W.item i s _ _ hg st fun v h' tk hv st' kk=>?_
  obtain ⟨t,rfl⟩:=hv;have I1:Inv X pins σ H {s with heap:=h',toks:=tk}:=I.turned (fun b o hb e=>kk b o (by simpa using hb) e) f0 f1 f3 f4 f5;refine ⟨_,rfl,b0z (s:={s with heap:=h',toks:=tk}) (n:="range_iterator") st' rfl rfl (by decide) ⟨.int (lo+i),H,I1,⟨t,?_⟩,⟨rfl,rfl⟩,st',fun b hb=>(hf b hb).1⟩⟩;rw[Int.mul_one]
 done:=by
  intro X hP hw hK hc i pins s σ H E I hf st hg;subst hP hw hK;obtain ⟨f0,f1,f2,f3,f4,f5⟩:=hf it (by simp);exact wpAny_pyNext_range_end (I.ok.hd hc) st (by have:n≤i:=hg;omega) fun h' eb=>⟨rfl,I.turned (t':=s.toks) (fun b o hb e=>eb b o hb e) f0 f1 f3 f4 f5⟩
 self:=fun _ _ _ _ _ st h=>wpAny_pyIter_rangeiter st h
end L2
namespace L2
open PySem PySem.Spec PyProof.Rows
section
variable{X:Cx}{tg:Expr}
theorem l0x{pins:List (Addr×Obj)}{σ:St}{H:Hp}{s:Shared}{R:It→Hp→Prop}{E:Value→Shared→Prop}{lo hi:Int}{t u v:Tok}{tk:Nat}(I:Inv X pins σ H s)(h1:-(2^62)≤lo)(h2:lo<2^62)(h3:-(2^62)≤hi)(h4:hi<2^62)
 (q:R (Itr lo (hi-lo).toNat) H):wpAny (model X.prog X.w) X.A (pyIter (.ref s.heap.objs.size)) (PIE X pins σ tg R) E {s with heap:=s.heap.push {cls:=.type "range",data:=.fields #[.int lo t,.int hi u,.int 1 v]},toks:=tk}:=by
 refine wpAny_pyIter_range (IsRange.new ..) (small_one h1 h2 h3 h4) ?_;have I1:Inv X pins σ H {s with heap:=s.heap.push {cls:=.type "range",data:=.fields #[.int lo t,.int hi u,.int 1 v]},toks:=tk}:=I.kept fun b o e=>Heap.get?_push_of_some _ e
 refine ⟨(s.heap.push {cls:=.type "range",data:=.fields #[.int lo t,.int hi u,.int 1 v]}).objs.size,[(s.heap.push {cls:=.type "range",data:=.fields #[.int lo t,.int hi u,.int 1 v]}).objs.size],_,_,H,rfl,
  I1.kept (t':=tk) fun b o e=>Heap.get?_push_of_some _ e,k0m _ lo (hi-lo).toNat,?_,fun b hb=>?_,q⟩
 ·have e1:lo+((0:Nat):Int)*1=lo:=by simp
  have e2:(((hi-lo).toNat:Nat):Int)-((0:Nat):Int)=Builtin.Range.rangeSize lo hi 1:=by rw[rangeSize_one];split<;>omega
  show IsRangeIter _ _ (lo+((0:Nat):Int)*1) ((((hi-lo).toNat:Nat):Int)-((0:Nat):Int)) 1;rw[e1,e2];exact Heap.get?_push_size _ rfl
 ·have e:b=(s.heap.push {cls:=.type "range",data:=.fields #[.int lo t,.int hi u,.int 1 v]}).objs.size:=by simpa using hb
  subst e;exact I1.fpOk (Nat.le_refl _) (I1.hok.fresh (Nat.le_refl _))
noncomputable def iRng1(ta:TA):TI:=fun σ H R=>ta σ H fun vs H1=>∃j:Int,vs=[.int j]∧-(2^62)≤j∧j<2^62∧R (Itr 0 j.toNat) H1
noncomputable def iRng2(ta:TA):TI:=fun σ H R=>ta σ H fun vs H1=>∃i j:Int,vs=[.int i,.int j]∧(-(2^62)≤i∧i<2^62∧-(2^62)≤j∧j<2^62)∧R (Itr i (j-i).toNat) H1
theorem j0f{a:Expr}{ta:TA}{p pos:Pos}(hg:Gl X "range")(hm:X.mg "range"=none)(ha:PA X [a] ta)(hs:starEach [a] X.env=[(false,eval a X.env)]:=by rfl):PI X tg (.Call (.Name "range" p) [a] [] pos) (iRng1 ta):=by
 intro pins s σ H R I h;refine Call_ (v0j I hg hm boot_range (PyProof.Rows.callWith_type1 (thn (ha pos pins s σ H _ I h) fun us s1 ⟨vs,H1,I1,r1,q1⟩=>?_) hs rfl));obtain ⟨j,e,q1,q2,q⟩:=q1;subst e;cases r1 with
 |cons r rr=>
  cases rr;obtain ⟨t,rfl⟩:=r;exact call_range_1 (l0x I1 (by omega) (by omega) q1 q2 (by simpa using q))
theorem j0e{a b:Expr}{ta:TA}{p pos:Pos}(hg:Gl X "range")(hm:X.mg "range"=none)(ha:PA X [a,b] ta)(hs:starEach [a,b] X.env=[(false,eval a X.env),(false,eval b X.env)]:=by rfl)(hs2:starEach [b] X.env=[(false,eval b X.env)]:=by rfl):
 PI X tg (.Call (.Name "range" p) [a,b] [] pos) (iRng2 ta):=by
 intro pins s σ H R I h;refine Call_ (v0j I hg hm boot_range (PyProof.Rows.callWith_type1 (thn (ha pos pins s σ H _ I h) fun us s1 ⟨vs,H1,I1,r1,q1⟩=>?_) (by rw[hs,hs2]) (by rw[hs2];rfl)));obtain ⟨i,j,e,⟨q1,q2,q3,q4⟩,q⟩:=q1;subst e;cases r1 with
 |cons r rr=>
  cases rr with
  |cons r' rr=>
   cases rr;obtain ⟨t,rfl⟩:=r;obtain ⟨t',rfl⟩:=r';exact call_range_2 (l0x I1 q1 q2 q3 q4 q)
noncomputable def tFor(wi:TI)(g:TG)(tb:TS):TS:=fun D σ H=>wi σ H fun J H1=>∃W:Nat→Nat→St→Hp→Prop,(∃m,W 0 m σ H1)∧∀i m σ H,W i m σ H→
 (J.stop i H∧D.nx σ H)∨(J.go i H∧∃N:St→Hp→Prop,(∀ σ' H',N σ' H'→∃m',m'<m∧W (i+1) m' σ' H')∧∀x H',J.yld i H x H'→g x σ H' fun σ2 H2=>tb {D with nx:=N,ct:=N,bk:=D.nx} σ2 H2)
noncomputable def p0s(fp:List Addr)(h:Heap):List (Addr×Obj):=fp.filterMap fun b=>(h.get? b).map fun o=>(b,o)
theorem x0z{fp:List Addr}{h:Heap}{b:Addr}{o:Obj}(hb:b∈fp)(e:h.get? b=some o):(b,o)∈p0s fp h:=List.mem_filterMap.mpr ⟨b,hb,by rw[e];rfl⟩
theorem j0d{fp:List Addr}{h:Heap}{p:Addr×Obj}(hp:p∈p0s fp h):p.1∈fp∧h.get? p.1=some p.2:=by
 obtain ⟨b,hb,e⟩:=List.mem_filterMap.mp hp;cases q:h.get? b with
 |none=>rw[q]at e;cases e
 |some o=>
  rw[q]at e;have e':(b,o)=p:=Option.some.inj e;subst e';exact ⟨hb,q⟩
theorem Inv.pinned{pins:List (Addr×Obj)}{σ:St}{H:Hp}{s:Shared}{fp:List Addr}(I:Inv X pins σ H s)(hf:∀b∈fp,FpOk X pins H b)(ho:∀b∈fp,∃o,s.heap.get? b=some o∧∀v,o.data≠.cell v):Inv X (pins++p0s fp s.heap) σ H s:=
 I.pins_of fun p hp=>(List.mem_append.mp hp).elim (fun z=>I.pin p (List.mem_append_right _ z)) fun z=>by
  obtain ⟨hb,e⟩:=j0d z;obtain ⟨f0,f1,f2,_⟩:=hf p.1 hb;obtain ⟨o,e',d⟩:=ho p.1 hb;rw[e]at e';cases e';exact ⟨e,f0,f1,f2,d⟩
theorem Inv.unpinned{pins pl:List (Addr×Obj)}{σ:St}{H:Hp}{s:Shared}(I:Inv X (pins++pl) σ H s):Inv X pins σ H s:=I.pins_of fun p hp=>I.pin p (List.mem_append_right _ (List.mem_append_left _ hp))
theorem ps_for{iter:Expr}{body:List Stmt}{wi:TI}{g:TG}{tb:TS}{pos:Pos}(hp:PassesOwn (model X.prog X.w) X.A X.env X.xe)(hc:X.calm=true)(hi:PI X tg iter wi)(hg:PG X tg g)(hb:PSs X body tb)
 (hs:∀x,foldedSetIterable iter X.env x=pure x:=by intro _;rfl):PS X (.For tg iter body [] pos) (tFor wi g tb):=by
 intro pins s σ H D I h;refine wpAny_For (thn (hi pins s σ H _ I h) fun v s1 h1=>thn h1 fun itv s2 h2=>?_) hs;obtain ⟨it,fp,tn,J,H2,e,I2,T,st2,f2,W,⟨m0,w0⟩,turn⟩:=h2;subst e;have stat:∀{H':Hp},(∀b∈fp,H' b=none)→∀b∈fp,FpOk X pins H' b:=fun hn b hb=>⟨hn b hb,(f2 b hb).2⟩
 refine codeAny_forLoop_any (fun n s'=>∃i σ' H',Inv X pins σ' H' s'∧tn i s'.heap∧(∀b∈fp,H' b=none)∧W i n σ' H') ?_ m0 ⟨0,σ,H2,I2,st2,fun b hb=>(f2 b hb).1,w0⟩;rintro n s3 ⟨i,σ3,H3,I3,st3,fr3,w3⟩;rcases turn i n σ3 H3 w3 with ⟨stop,qn⟩|⟨go,N,hN,step⟩
 ·refine wpAny_passesOwn hp (thn (T.done X rfl rfl rfl hc i pins s3 σ3 H3 X.xe I3 (stat fr3) st3 stop) fun r s4 ⟨hr,I4⟩=>?_);subst hr;exact wpAny_execs_nil ⟨σ3,H3,I4,qn⟩
 ·refine wpAny_passesOwn hp (thn (T.item X rfl rfl rfl hc i pins s3 σ3 H3 X.xe I3 (stat fr3) st3 go) fun r s4 ⟨u,hr,h4⟩=>?_);subst hr;refine wpAny_passesOwn hp (thn h4 fun _ s5 ⟨x,H5,I5,r5,y5,st5,fr5⟩=>?_);have I5':=I5.pinned (stat fr5) (T.obj _ _ st5);refine wpAny_passesOwn hp (thn (hg _ s5 σ3 H5 x u _ I5' r5 (step x H5 y5)) fun _ s6 ⟨σ6,H6,I6,q6⟩=>?_);refine wpAny_passesOwn hp (thn (hb _ s6 σ6 H6 _ I6 q6) fun f s7 q7=>?_);have again:∀{σ7:St} {H7:Hp},Inv X (pins++p0s fp s5.heap) σ7 H7 s7→N σ7 H7→∃m,m<n∧∃i σ' H',Inv X pins σ' H' s7∧tn i s7.heap∧(∀b∈fp,H' b=none)∧W i m σ' H':=fun {σ7 H7} I7 n7=>by
   obtain ⟨m',hm,w7⟩:=hN σ7 H7 n7;refine ⟨m',hm,i+1,σ7,H7,I7.unpinned,T.keep _ _ _ st5 fun b hb o e=>(I7.pin (b,o) (List.mem_append_right _ (List.mem_append_right _ (x0z hb e)))).1,fun b hb=>?_,w7⟩;obtain ⟨o,e,d⟩:=T.obj _ _ st5 b hb;exact (I7.pin (b,o) (List.mem_append_right _ (List.mem_append_right _ (x0z hb e)))).2.1
  cases f with
  |next=>obtain ⟨σ7,H7,I7,n7⟩:=q7;exact again I7 n7
  |cont=>obtain ⟨σ7,H7,I7,n7⟩:=q7;exact again I7 n7
  |brk=>obtain ⟨σ7,H7,I7,q7⟩:=q7;exact ⟨σ7,H7,I7.unpinned,q7⟩
  |ret v=>obtain ⟨x7,σ7,H7,I7,r7,q7⟩:=q7;exact ⟨x7,σ7,H7,I7.unpinned,r7,q7⟩
end
end L2
namespace L2
open PySem PySem.Spec PyProof.Rows
noncomputable abbrev R2:=V→V→Hp→VK→Prop
noncomputable def OpR(X:Cx)(f:Value→Value→Sem Value)(r:R2):Prop:=
 ∀(pins:List (Addr×Obj)) (s:Shared) (σ:St) (H:Hp) (x y:V) (v u:Value) (Q:VK),Inv X pins σ H s→RelV x v→RelV y u→r x y H Q→
  wpAny (model X.prog X.w) X.A (f v u) (EP X pins σ Q) X.xe s
noncomputable def UnR(X:Cx)(f:Value→Sem Value)(r:V→Hp→VK→Prop):Prop:=
 ∀(pins:List (Addr×Obj)) (s:Shared) (σ:St) (H:Hp) (x:V) (v:Value) (Q:VK),Inv X pins σ H s→RelV x v→r x H Q→
  wpAny (model X.prog X.w) X.A (f v) (EP X pins σ Q) X.xe s
noncomputable def w0h(X:Cx)(f:Value)(r:List V→Hp→VK→Prop):Prop:=
 ∀(pins:List (Addr×Obj)) (s:Shared) (σ:St) (H:Hp) (xs:List V) (us:List Value) (Q:VK),Inv X pins σ H s→Vals xs us→r xs H Q→
  wpAny (model X.prog X.w) X.A (call f us) (EP X pins σ Q) X.xe s
noncomputable def tOp(r:R2)(ta tb:TE):TE:=fun σ H Q=>ta σ H fun x H1=>tb σ H1 fun y H2=>r x y H2 Q
noncomputable def tUn(r:V→Hp→VK→Prop)(ta:TE):TE:=fun σ H Q=>ta σ H fun x H1=>r x H1 Q
noncomputable def rI(C:Int→Int→Prop)(g:Int→Int→V):R2:=fun x y H Q=>∃i j,x=.int i∧y=.int j∧C i j∧Q (g i j) H
noncomputable def rI0(g:Int→Int→V):R2:=fun x y H Q=>∃i j,x=.int i∧y=.int j∧Q (g i j) H
noncomputable def rU(g:Int→V):V→Hp→VK→Prop:=fun x H Q=>∃i,x=.int i∧Q (g i) H
section
variable{X:Cx}{a b c:Expr}{ta tb tc:TE}{pos:Pos}
theorem binT(ha:PE X a ta)(hb:PE X b tb){pins:List (Addr×Obj)}{s:Shared}{σ:St}{H:Hp}{R:V→V→Hp→Prop}(I:Inv X pins σ H s)
 (h:ta σ H fun x H1=>tb σ H1 fun y H2=>R x y H2) {Q:Value→Shared→Prop} {f:Value→Value→Sem Value}
 (hf:∀v u s2 x y H2,Inv X pins σ H2 s2→RelV x v→RelV y u→R x y H2→wpAny (model X.prog X.w) X.A (f v u) Q X.xe s2):
 wpAny (model X.prog X.w) X.A (eval a X.env) (fun v s₁=>wpAny (model X.prog X.w) X.A (eval b X.env) (fun u s₂=>wpAny (model X.prog X.w) X.A (f v u) Q X.xe s₂) X.xe s₁) X.xe s:=by
 refine thn (ha pins s σ H _ I h) fun v s1 ⟨x,H1,I1,r1,q1⟩=>?_
 refine thn (hb pins s1 σ H1 _ I1 q1) fun u s2 ⟨y,H2,I2,r2,q2⟩=>?_
 exact hf v u s2 x y H2 I2 r1 r2 q2
theorem pe_op{op:Operator}{r:R2}(ho:OpR X (binaryOp op) r)(ha:PE X a ta)(hb:PE X b tb):PE X (.BinOp a op b pos) (tOp r ta tb):=by
 intro pins s σ H Q I h;exact wpAny_BinOp (binT ha hb I h fun v u s2 x y H2 I2 rx ry q=>ho pins s2 σ H2 x y v u Q I2 rx ry q)
theorem pe_un{op:UnaryOp}{r:V→Hp→VK→Prop}(ho:UnR X (unaryOp op) r)(ha:PE X a ta):PE X (.UnaryOp op a pos) (tUn r ta):=by
 intro pins s σ H Q I h;exact UnaryOp_ (thn (ha pins s σ H _ I h) fun v s1 ⟨x,H1,I1,r1,q1⟩=>ho pins s1 σ H1 x v Q I1 r1 q1)
theorem opI{f:Value→Value→Sem Value}{C:Int→Int→Prop}{g:Int→Int→Int}
 (rule:∀(i j:Int) (t u:Tok) (s:Shared) (Q:Value→Shared→Prop) (E:Value→Shared→Prop),C i j→Q (.int (g i j) s.toks) {s with toks:=s.toks+1}→wpAny (model X.prog X.w) X.A (f (.int i t) (.int j u)) Q E s):
 OpR X f (rI C fun i j=>.int (g i j)):=by
 intro pins s σ H x y v u Q I rx ry h;obtain ⟨i,j,rfl,rfl,hc,q⟩:=h;obtain ⟨t,rfl⟩:=rx;obtain ⟨t',rfl⟩:=ry;exact rule i j t t' s _ _ hc ⟨.int (g i j),H,I.tok _,⟨_,rfl⟩,q⟩
theorem opI0{f:Value→Value→Sem Value}{g:Int→Int→Int}
 (rule:∀(i j:Int) (t u:Tok) (s:Shared) (Q:Value→Shared→Prop) (E:Value→Shared→Prop),Q (.int (g i j) s.toks) {s with toks:=s.toks+1}→wpAny (model X.prog X.w) X.A (f (.int i t) (.int j u)) Q E s):
 OpR X f (rI0 fun i j=>.int (g i j)):=by
 intro pins s σ H x y v u Q I rx ry h;obtain ⟨i,j,rfl,rfl,q⟩:=h;obtain ⟨t,rfl⟩:=rx;obtain ⟨t',rfl⟩:=ry;exact rule i j t t' s _ _ ⟨.int (g i j),H,I.tok _,⟨_,rfl⟩,q⟩
theorem opB0{f:Value→Value→Sem Value}{g:Int→Int→Bool}
 (rule:∀(i j:Int) (t u:Tok) (s:Shared) (Q:Value→Shared→Prop) (E:Value→Shared→Prop),Q (.bool (g i j)) s→wpAny (model X.prog X.w) X.A (f (.int i t) (.int j u)) Q E s):
 OpR X f (rI0 fun i j=>.bl (g i j)):=by
 intro pins s σ H x y v u Q I rx ry h;obtain ⟨i,j,rfl,rfl,q⟩:=h;obtain ⟨t,rfl⟩:=rx;obtain ⟨t',rfl⟩:=ry;exact rule i j t t' s _ _ ⟨.bl (g i j),H,I,rfl,q⟩
noncomputable def CDiv(i j:Int):Prop:=0<j∧j<1073741824
noncomputable def CPow(i j:Int):Prop:=0≤j∧j≤1000000∧i.natAbs<2^64
noncomputable def CMul(i j:Int):Prop:=(-(2^64)<i∧i<2^64)∨(-(2^64)<j∧j<2^64)
theorem CMul.ok{i j:Int}(h:CMul i j):IntMulOk i j:=by
 rcases h with ⟨h1,h2⟩|⟨h1,h2⟩
 ·exact .of_left (intBits_le_64 h1 h2)
 ·exact .of_right (intBits_le_64 h1 h2)
theorem op_add:OpR X (binaryOp .Add) (rI0 fun i j=>.int (i+j)):=opI0 fun _ _ _ _ _ _ _ q=>add_int q
theorem b9:OpR X (binaryOp .Sub) (rI0 fun i j=>.int (i-j)):=opI0 fun _ _ _ _ _ _ _ q=>sub_int q
theorem t0y:OpR X (binaryOp .Mult) (rI CMul fun i j=>.int (i*j)):=opI fun _ _ _ _ _ _ _ hc q=>mul_int q hc.ok
theorem w0g:OpR X (binaryOp .FloorDiv) (rI CDiv fun i j=>.int (i/j)):=opI fun i j _ _ _ _ _ hc q=>by
 have h1:(0:Int)<j:=hc.1;have h2:j<1073741824:=hc.2;exact floordiv_int (by omega) (by rw[Int.fdiv_eq_ediv_of_nonneg i (by omega)];exact q) (.inl (PyProof.noPylong_small (by omega)))
theorem i4:OpR X (binaryOp .Mod) (rI (fun _ j=>0<j) fun i j=>.int (i%j)):=opI fun i j _ _ _ _ _ hc q=>by
 have h1:(0:Int)<j:=hc;exact mod_int' (by omega) (by rw[Int.fmod_eq_emod_of_nonneg i (by omega)];exact q)
theorem op_pow:OpR X (binaryOp .Pow) (rI CPow fun i j=>.int (i^j.toNat)):=opI fun _ _ _ _ _ _ _ hc q=>pow_int_small hc.1 hc.2.1 hc.2.2 q
theorem unI{f:Value→Sem Value}{g:Int→Int}
 (rule:∀(i:Int) (t:Tok) (s:Shared) (Q:Value→Shared→Prop) (E:Value→Shared→Prop),Q (.int (g i) s.toks) {s with toks:=s.toks+1}→wpAny (model X.prog X.w) X.A (f (.int i t)) Q E s):
 UnR X f (rU fun i=>.int (g i)):=by
 intro pins s σ H x v Q I rx h;obtain ⟨i,rfl,q⟩:=h;obtain ⟨t,rfl⟩:=rx;exact rule i t s _ _ ⟨.int (g i),H,I.tok _,⟨_,rfl⟩,q⟩
theorem un_neg:UnR X (unaryOp .USub) (rU fun i=>.int (-i)):=unI fun _ _ _ _ _ q=>neg_int q
end
noncomputable def scal:V→V→Bool
 | .non,.non=>true | .non,.int _=>true | .int _,.non=>true | .non,.bl _=>true | .bl _,.non=>true | .non,.str _=>true | .str _,.non=>true
 | .int _,.int _=>true | .bl _,.bl _=>true | .str _,.str _=>true | .byt _,.byt _=>true
 | .int _,.str _=>true | .str _,.int _=>true | .bl _,.str _=>true | .str _,.bl _=>true
 |_,_=>false
noncomputable def rEq:R2:=fun x y H Q=>scal x y=true∧Q (.bl (decide (x=y))) H
theorem b0y{i j:Int}:decide (V.int i=V.int j)=(i==j):=by
 rw[Bool.eq_iff_iff];simp
theorem dec_bl{i j:Bool}:decide (V.bl i=V.bl j)=(i==j):=by
 rw[Bool.eq_iff_iff];simp
theorem b0x{i j:Str}:decide (V.str i=V.str j)=(i==j):=by
 rw[Bool.eq_iff_iff];simp
theorem b0w{i j:Array UInt8}:decide (V.byt i=V.byt j)=(i.toList==j.toList):=by
 rw[Bool.eq_iff_iff];cases i;cases j;simp
section
variable{X:Cx}{a b c:Expr}{ta tb tc:TE}{pos:Pos}
theorem j8{pins:List (Addr×Obj)}{σ:St}{H:Hp}{s:Shared}{Q:VK}{k k':Bool}(I:Inv X pins σ H s)(q:Q (.bl k) H)(e:k=k'):EP X pins σ Q (.bool k') s:=by
 subst e;exact ⟨.bl k,H,I,rfl,q⟩
theorem op_eq:OpR X (compareOp .Eq) rEq:=by
 intro pins s σ H x y v u Q I rx ry h;obtain ⟨hs,q⟩:=h;cases x with
 |non=>
  cases rx;cases y with
  |non=>cases ry;exact PySem.EqNone.eq_none_none (j8 I q (by simp))
  |bl j=>cases ry;exact PySem.EqNone.eq_none_bool (j8 I q (by simp))
  |int j=>obtain ⟨t',rfl⟩:=ry;exact PySem.EqNone.eq_none_int (j8 I q (by simp))
  |str j=>obtain ⟨t',rfl⟩:=ry;exact PySem.EqNone.eq_none_str (j8 I q (by simp))
  |_=>exact absurd (show false=true from hs) Bool.false_ne_true
 |bl i=>
  cases rx;cases y with
  |non=>cases ry;exact PySem.EqNone.eq_bool_none (j8 I q (by simp))
  |bl j=>cases ry;exact eq_bool (j8 I q dec_bl)
  |str j=>obtain ⟨t',rfl⟩:=ry;exact PySem.EqMixed.eq_bool_str (j8 I q (by simp))
  |_=>exact absurd (show false=true from hs) Bool.false_ne_true
 |int i=>
  obtain ⟨t,rfl⟩:=rx;cases y with
  |non=>cases ry;exact PySem.EqNone.eq_int_none (j8 I q (by simp))
  |int j=>obtain ⟨t',rfl⟩:=ry;exact eq_int (j8 I q b0y)
  |str j=>obtain ⟨t',rfl⟩:=ry;exact PySem.EqMixed.eq_int_str (j8 I q (by simp))
  |_=>exact absurd (show false=true from hs) Bool.false_ne_true
 |str i=>
  obtain ⟨t,rfl⟩:=rx;cases y with
  |non=>cases ry;exact PySem.EqNone.eq_str_none (j8 I q (by simp))
  |bl j=>cases ry;exact PySem.EqMixed.eq_str_bool (j8 I q (by simp))
  |int j=>obtain ⟨t',rfl⟩:=ry;exact PySem.EqMixed.eq_str_int (j8 I q (by simp))
  |str j=>obtain ⟨t',rfl⟩:=ry;exact eq_str (j8 I q b0x)
  |_=>exact absurd (show false=true from hs) Bool.false_ne_true
 |byt i=>
  obtain ⟨t,rfl⟩:=rx;cases y with
  |byt j=>obtain ⟨t',rfl⟩:=ry;exact PySem.W.eq_bytes (j8 I q b0w)
  |_=>exact absurd (show false=true from hs) Bool.false_ne_true
 |_=>cases y<;>exact absurd (show false=true from hs) Bool.false_ne_true
theorem u0u:OpR X (compareOp .Lt) (rI0 fun i j=>.bl (decide (i<j))):=opB0 fun _ _ _ _ _ _ _ q=>lt_int q
theorem k0l:OpR X (compareOp .LtE) (rI0 fun i j=>.bl (decide (i≤j))):=opB0 fun _ _ _ _ _ _ _ q=>le_int q
theorem b0v:OpR X (compareOp .Gt) (rI0 fun i j=>.bl (decide (j<i))):=opB0 fun _ _ _ _ _ _ _ q=>gt_int q
theorem op_ge:OpR X (compareOp .GtE) (rI0 fun i j=>.bl (decide (j≤i))):=opB0 fun _ _ _ _ _ _ _ q=>ge_int q
theorem op_isN:OpR X (compareOp .Is) (fun x y H Q=>y=.non∧Q (.bl (decide (x=.non))) H):=by
 intro pins s σ H x y v u Q I rx ry h;obtain ⟨rfl,q⟩:=h;cases ry;refine is_none_gen (j8 I q ?_);cases x<;>first
  |(cases rx;rfl)
  |(obtain ⟨t,rfl⟩:=rx;rfl)
theorem l4(b:Expr){op:CmpOp}(h:op≠.In:=by decide)(h2:op≠.NotIn:=by decide):behindInMarks op b=false:=by
 have e1:(op==CmpOp.In)=false:=by cases op<;>first |rfl |exact absurd rfl h
 have e2:(op==CmpOp.NotIn)=false:=by cases op<;>first |rfl |exact absurd rfl h2
 cases b<;>simp[behindInMarks,e1,e2]
theorem b0u{op:CmpOp}{r:R2}(ho:OpR X (compareOp op) r)(ha:PE X a ta)(hb:PE X b tb)(hm:behindInMarks op b=false):PE X (.Compare a [op] [b] pos) (tOp r ta tb):=by
 intro pins s σ H Q I h;exact wpAny_Compare1 (binT ha hb I h fun v u s2 x y H2 I2 rx ry q=>ho pins s2 σ H2 x y v u Q I2 rx ry q) hm
noncomputable def tTest(t:TE):TT:=fun σ H Q=>t σ H fun x H'=>∃k,x=.bl k∧Q k H'
theorem b0t{op:CmpOp}{r:R2}(ho:OpR X (compareOp op) r)(ha:PE X a ta)(hb:PE X b tb)(hm:behindInMarks op b=false):PT X (.Compare a [op] [b] pos) (tTest (tOp r ta tb)):=by
 intro pins s σ H Q I h;refine wpAny_isTrue_Compare1 (thn (ha pins s σ H _ I h) fun v s1 ⟨x,H1,I1,r1,q1⟩=>thn (hb pins s1 σ H1 _ I1 q1) fun u s2 ⟨y,H2,I2,r2,q2⟩=>
  thn (ho pins s2 σ H2 x y v u _ I2 r1 r2 q2) fun c s3 ⟨z,H3,I3,r3,k,e,q3⟩=>?_) hm
 subst e;cases r3;exact wpAny_truthy_bool ⟨H3,I3,q3⟩
noncomputable def j0c(r r':R2)(ta tb tc:TE):TE:=fun σ H Q=>ta σ H fun x H1=>tb σ H1 fun y H2=>r x y H2 fun z H3=>∃k,z=.bl k∧
 (if k=true then tc σ H3 fun w' H4=>r' y w' H4 Q else Q (.bl false) H3)
theorem f0s{op op':CmpOp}{r r':R2}(ho:OpR X (compareOp op) r)(ho':OpR X (compareOp op') r')(ha:PE X a ta)(hb:PE X b tb)(hc:PE X c tc)
 (hm:lastMarks [op,op'] [b,c]=false:=by with_unfolding_all rfl):PE X (.Compare a [op,op'] [b,c] pos) (j0c r r' ta tb tc):=by
 intro pins s σ H Q I h;refine Compare_chain (thn (ha pins s σ H _ I h) fun v s1 ⟨x,H1,I1,r1,q1⟩=>chain_link (thn (hb pins s1 σ H1 _ I1 q1) fun u s2 ⟨y,H2,I2,r2,q2⟩=>
  thn (ho pins s2 σ H2 x y v u _ I2 r1 r2 q2) fun d s3 ⟨z,H3,I3,r3,k,e,q3⟩=>?_)) hm
 subst e;cases r3;refine wpAny_truthy_bool ?_;cases k with
 |false=>exact ite_ff ⟨.bl false,H3,I3,rfl,q3⟩
 |true=>exact ite_tt (chain_last (thn (hc pins s3 σ H3 _ I3 q3) fun w' s4 ⟨z',H4,I4,r4,q4⟩=>ho' pins s4 σ H4 y z' u w' Q I4 r2 r4 q4))
theorem f0r{op op':CmpOp}{r r':R2}(ho:OpR X (compareOp op) r)(ho':OpR X (compareOp op') r')(ha:PE X a ta)(hb:PE X b tb)(hc:PE X c tc)
 (hm:lastMarks [op,op'] [b,c]=false:=by with_unfolding_all rfl):PT X (.Compare a [op,op'] [b,c] pos) (tTest (j0c r r' ta tb tc)):=by
 intro pins s σ H Q I h;refine isTrue_chain (thn (ha pins s σ H _ I h) fun v s1 ⟨x,H1,I1,r1,q1⟩=>test_link (thn (hb pins s1 σ H1 _ I1 q1) fun u s2 ⟨y,H2,I2,r2,q2⟩=>
  thn (ho pins s2 σ H2 x y v u _ I2 r1 r2 q2) fun d s3 ⟨z,H3,I3,r3,k,e,q3⟩=>?_)) hm
 subst e;cases r3;refine wpAny_truthy_bool ?_;cases k with
 |false=>
  obtain ⟨k',e',q'⟩:=q3;cases e';exact ite_ff ⟨H3,I3,q'⟩
 |true=>
  refine ite_tt (test_last (thn (hc pins s3 σ H3 _ I3 q3) fun w' s4 ⟨z',H4,I4,r4,q4⟩=>thn (ho' pins s4 σ H4 y z' u w' _ I4 r2 r4 q4) fun d' s5 ⟨z2,H5,I5,r5,k2,e2,q5⟩=>?_));subst e2;cases r5;exact wpAny_truthy_bool ⟨H5,I5,q5⟩
theorem l0w:(sizeLine:Nat)<2^63:=by rw[sizeLine_eq];decide
theorem n0p{x:V}{us:List Value}(r:Vals [x] us):∃u,us=[u]∧RelV x u:=by
 cases r with
 |cons r1 r2=>cases r2;exact ⟨_,rfl,r1⟩
theorem vals2{x y:V}{us:List Value}(r:Vals [x,y] us):∃u w',us=[u,w']∧RelV x u∧RelV y w':=by
 cases r with
 |cons r1 r2=>
  cases r2 with
  |cons r3 r4=>cases r4;exact ⟨_,_,rfl,r1,r3⟩
theorem f0q:w0h X (.builtin "abs") (fun xs H Q=>∃i,xs=[.int i]∧Q (.int (if i<0 then -i else i)) H):=by
 intro pins s σ H xs us Q I r h;obtain ⟨i,rfl,q⟩:=h;obtain ⟨u,rfl,t,rfl⟩:=n0p r;exact call_abs_int fun u tk=>⟨.int (if i<0 then -i else i),H,I.tok _,⟨_,rfl⟩,q⟩
theorem p0r(hc:X.calm=true):w0h X (.builtin "min") (fun xs H Q=>∃i j,xs=[.int i,.int j]∧Q (.int (if j<i then j else i)) H):=by
 intro pins s σ H xs us Q I r h;obtain ⟨i,j,rfl,q⟩:=h;obtain ⟨u,w',rfl,⟨t,rfl⟩,⟨t',rfl⟩⟩:=vals2 r;refine min_two_ints (I.ok.hd hc) fun h' tk k=>⟨_,H,I.kept k,?_,q⟩
 by_cases hj:j<i
 ·rw[if_pos hj,if_pos hj];exact ⟨_,rfl⟩
 ·rw[if_neg hj,if_neg hj];exact ⟨_,rfl⟩
theorem t0x:w0h X (.type "int") (fun xs H Q=>(∃i,xs=[.int i]∧Q (.int i) H)∨∃k,xs=[.bl k]∧Q (.int (if k then 1 else 0)) H):=by
 intro pins s σ H xs us Q I r h;rcases h with ⟨i,rfl,q⟩|⟨k,rfl,q⟩
 ·obtain ⟨u,rfl,t,rfl⟩:=n0p r;exact call_int_int ⟨.int i,H,I,⟨_,rfl⟩,q⟩
 ·obtain ⟨u,rfl,r1⟩:=n0p r;cases r1;exact call_int_bool ⟨.int (if k then 1 else 0),H,I.tok _,⟨_,rfl⟩,q⟩
theorem p0q:w0h X (.type "str") (fun xs H Q=>∃i,xs=[.int i]∧i.natAbs.log2<1920∧Q (.str (toString i)) H):=by
 intro pins s σ H xs us Q I r h;obtain ⟨i,rfl,hz,q⟩:=h;obtain ⟨u,rfl,t,rfl⟩:=n0p r;exact PySem.P.str_of_int hz ⟨.str _,H,I.tok _,⟨_,rfl⟩,q⟩
end
end L2
namespace L2
open PySem PySem.Spec PyProof.Rows
structure ObjM(h:Heap)(x dx C:Addr)(mA:Str→Option Value):Prop where
 obj:h.get? x=some (PySem.W.instObj C dx)
 ns:h.Ns1 dx mA
 ne:dx≠x
theorem lookIn_ns{h:Heap}{dx:Addr}{mA:Str→Option Value}(n:h.Ns1 dx mA):∃od,h.get? dx=some od∧∀name,PySem.W.lookIn name od=some (mA name):=by
 obtain ⟨o,es,ep,ho,hd,hk,_,hm⟩:=n;refine ⟨o,ho,fun name=>?_⟩;have e:=hm name;unfold nsFind findBy at e;rw[←Array.find?_toList]at e;unfold PySem.W.lookIn;rw[hd];dsimp only;split
 ·rename_i y q;rw[q]at e;exact congrArg some e
 ·rename_i q;rw[q]at e;have a:es.toList.any (·.refKey)=false:=by
   rw[List.any_eq_false];intro y hy;obtain ⟨z,t,hkey⟩:=hk y (Array.mem_toList_iff.mp hy);simp[DictEntry.refKey,hkey]
  have a':¬es.toList.any (·.refKey)=true:=by rw[a];exact Bool.false_ne_true
  rw[if_neg a'];exact congrArg some e
theorem ObjM.look{h:Heap}{x dx C:Addr}{mA:Str→Option Value}(I:ObjM h x dx C mA):∃od,PySem.W.InstAt h x (PySem.W.instObj C dx) C (some od)∧∀name,PySem.W.lookIn name od=some (mA name):=
 let ⟨od,ho,hl⟩:=lookIn_ns I.ns
 ⟨od,⟨I.obj,rfl,rfl,ho⟩,hl⟩
section
variable{prog:Program}{w:World}{A:Around}{E:Value→Shared→Prop}{s:Shared}{K:PySem.W.Frag}{x dx C f:Addr}{mA:Str→Option Value}{name:Str}{v:Value}
theorem b0s{expr:Bool}{Q:Value→Shared→Prop}(X:K.In s.heap)(I:ObjM s.heap x dx C mA)(hg:PySem.W.plainGet K C name=true)(hh:PySem.W.hasDictIn K C=true)
 (ha:PySem.W.findIn K (.ref C) name=some none) (hv:mA name=some v) (hv':PySem.W.handedIn v=true) (h:Q v {s with toks:=s.toks+1}):
 wpAny (model prog w) A (getAttr (.ref x) name expr) Q E s:=by
 obtain ⟨od,J,hl⟩:=I.look;exact PySem.W.get_value X J (PySem.W.plainGet_of hg).1 (PySem.W.findObj_own hh ha rfl (by rw[hl,hv])) hv' h
theorem b0r{ns:List Str}{Q:Unit→Shared→Prop}(X:K.In s.heap)(I:ObjM s.heap x dx C mA)
 (hs:PySem.W.findIn K (.ref C) "__setattr__"=some (some (.builtin "object.__setattr__"))) (hp:PySem.W.plainOver K C=true) (ht:PySem.W.takerIn K C name=some none) (hh:PySem.W.hasDictIn K C=true)
 (hw:PySem.Within mA ns) (hsz:ns.length≤sizeLine)
 (h:∀h',ObjM h' x dx C (fun y=>if y=name then some v else mA y)→Heap.SameBut dx s.heap h'→Q () {s with heap:=h',toks:=s.toks+2}):
 wpAny (model prog w) A (setAttr (.ref x) name v) Q E s:=by
 obtain ⟨od,J,hl⟩:=I.look;refine PySem.W.set_plain X J hs (PySem.W.osa_open (s:={s with toks:=s.toks+1}) (r:=none) X J hp ht fun b=>?_);obtain ⟨cd,hc,hd'⟩:=PySem.W.any_some hh;have hx:s.heap.get? x=some ⟨.ref C,some dx,.plain,#[]⟩:=I.obj;refine wpAny_bind (wpAny_pure (wpAny_bind (wpAny_bind (wpAny_loadPart hx (wpAny_bind (PySem.W.Looks.here (s:={s with toks:=s.toks+1}) (PySem.W.looks_clsIn X hc) ?_))))));rw[hd'];refine wpAny_pure (a:=some dx) (wpAny_bind (wpAny_pure (wpAny_bind ?_)));refine wpAny_nsSet1 (s:={s with toks:=s.toks+1}) I.ns fun h' hn2 hs2=>?_
 obtain ⟨oD,esD,epD,hoD,hdD,hcD⟩:=hn2.count (PySem.Within.cons name v hw);refine wpAny_bind (wpAny_lookBehind hoD (by rw[hdD];exact pastItsLine_dict (Nat.le_trans hcD (by rw[List.length_cons];omega))) ?_);exact wpAny_pure (h _ ⟨(hs2.2 _ (Ne.symm I.ne)).trans I.obj,hn2,I.ne⟩ hs2)
theorem f0p{R:Result→Shared→Prop}{vs:List Value}{kw:List (Str×Value)}(X:K.In s.heap)(hm:PySem.W.makesIn K C=true)
 (hi:PySem.W.findIn K (.ref C) "__init__"=some (some (.ref f))) (hf:PySem.W.typeIn K (.ref f)=some (.type "function"))
 (h:codeAny (model prog w) (A.under (.builtin "type.__call__" ⟨.ref C::vs,kw⟩)) (.call (.ref f) ⟨.ref (s.heap.objs.size+1)::vs,kw⟩) (PySem.W.InitBack (s.heap.objs.size+1) R)
  {s with heap:=(s.heap.push PySem.W.emptyDict).push (PySem.W.instObj C s.heap.objs.size)}):
 codeAny (model prog w) A (.call (.ref C) ⟨vs,kw⟩) R s:=by
 obtain ⟨hh,g,d,t,os⟩:=s;exact PySem.W.make_core (PySem.W.makes_of X hm) (PySem.W.looks_findIn X hi) (fun self=>PySem.W.bind_fn X self hf) (.inl rfl) h
end
noncomputable def putF(f:Str)(v:V):List (Str×V)→List (Str×V)
 | []=>[(f,v)]
 |(g,x)::r=>if g=f then (g,v)::r else (g,x)::putF f v r
theorem z0u(f g:Str)(v:V):∀fs:List (Str×V),(putF f v fs).lookup g=if g=f then some v else fs.lookup g
 | []=>by
  show List.lookup g [(f,v)]=_;by_cases h:g=f
  ·have hb:(g==f)=true:=beq_iff_eq.mpr h;simp only[List.lookup,hb,if_pos h]
  ·have hb:(g==f)=false:=beq_eq_false_iff_ne.mpr h;simp only[List.lookup,hb,if_neg h]
 |(k,x)::r=>by
  have ih:=z0u f g v r;rw[show putF f v ((k,x)::r)=(if k=f then (k,v)::r else (k,x)::putF f v r)from rfl];by_cases hk:k=f
  ·rw[if_pos hk];by_cases h:g=k
   ·have hb:(g==k)=true:=beq_iff_eq.mpr h;simp only[List.lookup,hb,if_pos (h.trans hk)]
   ·have hb:(g==k)=false:=beq_eq_false_iff_ne.mpr h;simp only[List.lookup,hb,if_neg (fun e:g=f=>h (e.trans hk.symm))]
  ·rw[if_neg hk];by_cases h:g=k
   ·have hb:(g==k)=true:=beq_iff_eq.mpr h;simp only[List.lookup,hb,if_neg (fun e:g=f=>hk (h.symm.trans e))]
   ·have hb:(g==k)=false:=beq_eq_false_iff_ne.mpr h;simp only[List.lookup,hb];exact ih
theorem y0s(f:Str)(v:V):∀fs:List (Str×V),f∈(putF f v fs).map (·.1)∧∀g,g∈fs.map (·.1)→g∈(putF f v fs).map (·.1)
 | []=>⟨by simp[putF],fun g h=>by simp at h⟩
 |(k,x)::r=>by
  obtain ⟨i1,i2⟩:=y0s f v r;rw[show putF f v ((k,x)::r)=(if k=f then (k,v)::r else (k,x)::putF f v r)from rfl];by_cases hk:k=f
  ·rw[if_pos hk];subst hk;exact ⟨by simp,fun g h=>by simpa using h⟩
  ·rw[if_neg hk];refine ⟨?_,fun g h=>?_⟩
   ·rw[List.map_cons];exact List.mem_cons_of_mem _ i1
   ·rw[List.map_cons]at h ⊢;rcases List.mem_cons.mp h with e |e
    ·exact List.mem_cons.mpr (.inl e)
    ·exact List.mem_cons_of_mem _ (i2 g e)
theorem t0w(f:Str)(v:V):∀fs:List (Str×V),(putF f v fs).length≤fs.length+1
 | []=>by simp[putF]
 |(k,x)::r=>by
  have ih:=t0w f v r;rw[show putF f v ((k,x)::r)=(if k=f then (k,v)::r else (k,x)::putF f v r)from rfl];by_cases hk:k=f
  ·rw[if_pos hk,List.length_cons,List.length_cons];omega
  ·rw[if_neg hk,List.length_cons,List.length_cons];omega
theorem RelO.some_of{v:V}{o:Option Value}(r:RelO (some v) o):∃u,o=some u∧RelV v u:=by
 cases o with
 |none=>exact (show False from r).elim
 |some u=>exact ⟨u,rfl,r⟩
theorem j0b{v:V}{u:Value}(r:RelV v u):PySem.W.handedIn u=true:=by
 cases v with
 |non=>cases (show u=Value.none from r);rfl
 |bl b=>cases (show u=Value.bool b from r);rfl
 |int i=>obtain ⟨t,e⟩:=(show ∃t,u=Value.int i t from r);cases e;rfl
 |str x=>obtain ⟨t,e⟩:=(show ∃t,u=Value.str x t from r);cases e;rfl
 |byt b=>obtain ⟨t,e⟩:=(show ∃t,u=Value.bytes b t from r);cases e;rfl
 |flt b=>obtain ⟨t,e⟩:=(show ∃t,u=Value.float b t from r);cases e;rfl
 |ref a=>cases (show u=Value.ref a from r);rfl
 |ty n=>cases (show u=Value.type n from r);rfl
section
variable{P:Program}{w:World}{H H':Hp}{h h':Heap}{a C dx:Addr}{fs fs':List (Str×V)}
theorem n0o(hok:HOk P w H h)(e:H a=some (.ins C dx fs)):∃mA,ObjM h a dx C mA∧(∀f,RelO (fs.lookup f) (mA f))∧PySem.Within mA (fs.map (·.1))∧fs.length≤1000∧H dx=some (.own a):=by
 obtain ⟨d,z,ne,ob,mA,n,r,q⟩:=(show ObjOk P w H h a (.ins C dx fs)from hok a _ e);exact ⟨mA,⟨ob,n,ne⟩,r,q,z,d⟩
end
structure Cls(K:PySem.W.Frag)(C:Addr):Prop where
 pg:PySem.W.plainGet K C Str.empty=true
 hd:PySem.W.hasDictIn K C=true
 po:PySem.W.plainOver K C=true
 sa:PySem.W.findIn K (.ref C) "__setattr__"=some (some (.builtin "object.__setattr__"))
theorem Cls.get{K:PySem.W.Frag}{C:Addr}(c:Cls K C)(f:Str):PySem.W.plainGet K C f=true:=c.pg
noncomputable def NoAttr(K:PySem.W.Frag)(C:Addr)(f:Str):Prop:=PySem.W.findIn K (.ref C) f=some none
theorem NoAttr.taker{K:PySem.W.Frag}{C:Addr}{f:Str}(n:NoAttr K C f):PySem.W.takerIn K C f=some none:=by
 unfold PySem.W.takerIn;rw[show PySem.W.findIn K (.ref C) f=some none from n];rfl
structure Con(K:PySem.W.Frag)(C:Addr)(f:Str)(v:V)(u:Value):Prop where
 at_:PySem.W.findIn K (.ref C) f=some (some u)
 rel:RelV v u
 get:PySem.W.specialIn K u "__get__"=some none
 cp:PySem.W.copiedNames.contains f=false
structure Meth(K:PySem.W.Frag)(C:Addr)(m:Str)(f:Addr):Prop where
 at_:PySem.W.findIn K (.ref C) m=some (some (.ref f))
 fn:PySem.W.isFn K (.ref f)=true
 kp:PySem.W.keepIn K (.ref f)=true
section
variable{X:Cx}{pins:List (Addr×Obj)}{σ:St}{H:Hp}{s:Shared}{a C dx:Addr}{fs:List (Str×V)}{f:Str}{v:V}{A:Around}{E:Value→Shared→Prop}
theorem k0k{b:Bool}{Q:Value→Shared→Prop}(I:Inv X pins σ H s)(e:H a=some (.ins C dx fs))(c:Cls X.K C)(n:NoAttr X.K C f)(l:fs.lookup f=some v)
 (h:∀u s',Inv X pins σ H s'→RelV v u→Q u s'):wpAny (model X.prog X.w) A (getAttr (.ref a) f b) Q E s:=by
 obtain ⟨mA,O,r,_,_,_⟩:=n0o I.hok e;obtain ⟨u,hu,ru⟩:=RelO.some_of (v:=v) (o:=mA f) (by rw[←l];exact r f);exact b0s I.kIn O (c.get f) c.hd n hu (j0b ru) (h u _ (I.tok _) ru)
theorem k0j{y:V}{u:Value}{Q:Unit→Shared→Prop}(I:Inv X pins σ H s)(e:H a=some (.ins C dx fs))(c:Cls X.K C)(n:NoAttr X.K C f)(hl:fs.length<1000)(ry:RelV y u)
 (h:∀s',Inv X pins σ (upd H a (.ins C dx (putF f y fs))) s'→Q () s'):wpAny (model X.prog X.w) A (setAttr (.ref a) f u) Q E s:=by
 obtain ⟨mA,O,r,wi,_,ho⟩:=n0o I.hok e;have hz:(fs.map (·.1)).length≤sizeLine:=by rw[List.length_map,sizeLine_eq];omega
 refine b0r I.kIn O c.sa c.po n.taker c.hd wi hz fun h' O' sb=>h _ ?_
 have hd:∃o,h'.get? dx=some o:=let ⟨o,_,_,e',_⟩:=O'.ns;⟨o,e'⟩
 refine I.write (x:=a) (e:=dx) (by rw[e];exact True.intro) (.inr ho) (fun b q hb z=>(sb.2 b hb).trans z) hd ?_;refine ⟨by rw[u0 O.ne];exact ho,?_,O.ne,O'.obj,_,O'.ns,fun g=>?_,fun g hg=>?_⟩
 ·have:=t0w f y fs;omega
 ·show RelO ((putF f y fs).lookup g) (if g=f then some u else mA g);rw[z0u];by_cases q:g=f
  ·rw[if_pos q,if_pos q];exact ry
  ·rw[if_neg q,if_neg q];exact r g
 ·by_cases q:g=f
  ·rw[q];exact (y0s f y fs).1
  ·refine (y0s f y fs).2 g (wi g fun z=>hg ?_);show (if g=f then some u else mA g)=none;rw[if_neg q];exact z
theorem Inv.made(I:Inv X pins σ H s):Inv X pins σ (upd (upd H s.heap.objs.size (.own (s.heap.objs.size+1))) (s.heap.objs.size+1) (.ins C s.heap.objs.size []))
 {s with heap:=(s.heap.push PySem.W.emptyDict).push (PySem.W.instObj C s.heap.objs.size)}:=by
 have e1:(s.heap.push PySem.W.emptyDict).get? s.heap.objs.size=some PySem.W.emptyDict:=Heap.get?_push_size s.heap rfl;have e2:((s.heap.push PySem.W.emptyDict).push (PySem.W.instObj C s.heap.objs.size)).get? (s.heap.objs.size+1)=some (PySem.W.instObj C s.heap.objs.size):=by
  have:=Heap.get?_push_size (s.heap.push PySem.W.emptyDict) (o:=PySem.W.instObj C s.heap.objs.size) rfl
  rwa[Heap.size_push]at this
 have e3:(s.heap.push PySem.W.emptyDict).Ns s.heap.objs.size (fun _=>none):=⟨PySem.W.emptyDict,#[],_,e1,rfl,(fun e he=>absurd he (by simp)),fun _=>rfl⟩;have I1:=I.laid (a:=s.heap.objs.size) (o:=.own (s.heap.objs.size+1)) (h':=s.heap.push PySem.W.emptyDict) (t':=s.toks) (fun b u q=>Heap.get?_push_of_some _ q) (Nat.le_refl _) ⟨_,e1⟩;refine I1.laid (a:=s.heap.objs.size+1) (o:=.ins C s.heap.objs.size []) (t':=s.toks) (fun b u q=>Heap.get?_push_of_some _ q) (Nat.le_of_eq (Heap.size_push _ _)) ?_;have ne:s.heap.objs.size≠s.heap.objs.size+1:=Nat.ne_of_lt (Nat.lt_succ_self _);refine ⟨by rw[u0 ne,o3],Nat.zero_le _,ne,e2,fun _=>none,(Heap.Ns1.of_empty e3).at fun o q=>Heap.get?_push_of_some _ q,fun _=>True.intro,fun y hy=>absurd rfl hy⟩
theorem b0q{prog:Program}{w:World}{env:Env}{e:Expr}{f:Str}{pos:Pos}{s:Shared}{Q:Value→Shared→Prop}(hb:attributeBase e f env (eval e env)=eval e env)
 (h:wpAny (model prog w) A (eval e env) (fun o s₁=>wpAny (model prog w) A (getAttr o f true) Q E s₁) E s):wpAny (model prog w) A (eval (.Attribute e f pos) env) Q E s:=
 Attribute_any_ h (by rw[arm_eval_Attribute,hb])
end
noncomputable def tFld(K:PySem.W.Frag)(ta:TE)(f:Str):TE:=fun σ H Q=>ta σ H fun x H1=>∃a C dx fs v,x=.ref a∧H1 a=some (.ins C dx fs)∧Cls K C∧NoAttr K C f∧fs.lookup f=some v∧Q v H1
noncomputable def sFld(K:PySem.W.Frag)(ta tv:TE)(f:Str):TS:=fun D σ H=>tv σ H fun y H1=>ta σ H1 fun x H2=>∃a C dx fs,x=.ref a∧H2 a=some (.ins C dx fs)∧Cls K C∧NoAttr K C f∧fs.length<1000∧
 D.nx σ (upd H2 a (.ins C dx (putF f y fs)))
section
variable{X:Cx}{o e value:Expr}{f:Str}{pos pos' tpos:Pos}{ta tv:TE}
theorem pe_fld(he:PE X e ta)(hb:attributeBase e f X.env (eval e X.env)=eval e X.env):PE X (.Attribute e f pos) (tFld X.K ta f):=by
 intro pins s σ H Q I h;refine b0q hb (thn (he pins s σ H _ I h) fun u s1 ⟨x,H1,I1,rx,a,C,dx,fs,v,ex,ea,c,n,l,q⟩=>?_);subst ex;obtain rfl:u=Value.ref a:=rx;exact k0k I1 ea c n l fun u' s2 I2 ru=>⟨v,H1,I2,ru,q⟩
theorem ps_fld(ha:PE X o ta)(hv:PE X value tv)(hs:swapsWith value (some (.Attribute o f pos')) pos.line X.env=pure false):PS X (.Assign [.Attribute o f pos'] value pos) (sFld X.K ta tv f):=by
 intro pins s σ H D I h;refine plainObj_wpAny_Assign_Attribute (thn (hv pins s σ H _ I h) fun u s1 ⟨y,H1,I1,ry,q⟩=>thn (ha pins s1 σ H1 _ I1 q) fun ov s2 ⟨x,H2,I2,rx,a,C,dx,fs,ex,ea,c,n,l,q2⟩=>?_) hs;subst ex;obtain rfl:ov=Value.ref a:=rx;exact k0j I2 ea c n l ry fun s3 I3=>⟨σ,_,I3,q2⟩
end
section
variable{X:Cx}{pins:List (Addr×Obj)}{σ:St}{H:Hp}{s:Shared}{A:Around}{E:Value→Shared→Prop}{Q:Value→Shared→Prop}{c:Value}{b:Bool}
inductive TyOf(K:PySem.W.Frag)(H:Hp):V→Value→Prop where
 |non:TyOf K H .non (.type "NoneType")
 |bl (x:Bool):TyOf K H (.bl x) (.type "bool")
 |int (i:Int):TyOf K H (.int i) (.type "int")
 |str (x:Str):TyOf K H (.str x) (.type "str")
 |flt (x:UInt64):TyOf K H (.flt x) (.type "float")
 |lst {a:Addr} {xs:List V} (e:H a=some (.lst xs)):TyOf K H (.ref a) (.type "list")
 |frz {a:Addr} {o:Obj} {xs:List V} (e:H a=some (.frz o (.lst xs))):TyOf K H (.ref a) (.type "list")
 |tup {a:Addr} {xs:List V} (e:H a=some (.tup xs)):TyOf K H (.ref a) (.type "tuple")
 |dK {a:Addr} {kvs:List (Key×V)} (e:H a=some (.dK kvs)):TyOf K H (.ref a) (.type "dict")
 |dT {a:Addr} {kvs:List (List Key×V)} (e:H a=some (.dT kvs)):TyOf K H (.ref a) (.type "dict")
 |ins {a C dx:Addr} {fs:List (Str×V)} (e:H a=some (.ins C dx fs)) (cl:Cls K C) (ha:PySem.W.findIn K (.ref C) "__class__"=some (some (.builtin "object.__class__")))
  (hn:PySem.W.specialIn K (.builtin "object.__class__") "__get__"=some (some (.builtin "getset_descriptor.__get__"))) (htk:PySem.W.takesIn K (.builtin "object.__class__")=some true)
  (hm:PySem.W.mroIn K C (.type "object")=some true):TyOf K H (.ref a) (.ref C)
end
end L2
namespace L2
open PySem PySem.Spec PyProof.Rows
structure Room(k:Nat)(A:Around):Prop where
 hd:A.handled=none
 dp:A.depth+3*k+5<recursionLimit
 un:A.units+16*k+200<cLine
theorem Room.mono{j k:Nat}{A:Around}(r:Room k A)(h:j≤k):Room j A:=⟨r.hd,by have:=r.dp;omega,by have:=r.un;omega⟩
theorem Room.deeper{k:Nat}{A:Around}(r:Room (k+1) A)(env:Env):Room k (A.deeper env):=
 ⟨r.hd,by have:=r.dp;show A.depth+1+3*k+5<_;omega,by have:=r.un;show A.units+3+16*k+200<_;omega⟩
theorem k0i{A:Around}{C:Addr}{us:List Value}{kw:List (Str×Value)}:(A.under (.builtin "type.__call__" ⟨.ref C::us,kw⟩)).depth=A.depth+1:=by
 first |rfl |simp[Around.under,Code.weight,Code.isCreation,Code.isGuard,Code.isCaller,Code.frames,Code.isFrame,guardIds]
theorem k0h{A:Around}{C:Addr}{us:List Value}{kw:List (Str×Value)}:(A.under (.builtin "type.__call__" ⟨.ref C::us,kw⟩)).units=A.units+1:=by
 first |rfl |simp[Around.under,Code.cUnits,Code.frames,Code.isFrame]
theorem Room.make{k:Nat}{A:Around}(r:Room (k+1) A)(C:Addr)(us:List Value)(kw:List (Str×Value)):Room k (A.under (.builtin "type.__call__" ⟨.ref C::us,kw⟩)):=
 ⟨r.hd,by have:=r.dp;rw[k0i];omega,by have:=r.un;rw[k0h];omega⟩
theorem Room.depth{k:Nat}{A:Around}(r:Room k A):A.depth<recursionLimit:=by have:=r.dp;omega
theorem Room.units0{k:Nat}{A:Around}(r:Room k A):A.units<cLine:=by have:=r.un;omega
noncomputable def tNil:TA:=fun _ H Q=>Q [] H
noncomputable def tCons(ta:TE)(tr:TA):TA:=fun σ H Q=>ta σ H fun x H1=>tr σ H1 fun xs H2=>Q (x::xs) H2
section
variable{X:Cx}{e:Expr}{es:List Expr}{te:TE}{t:TA}{pos:Pos}
theorem d0i:PA X [] tNil:=fun _ _ _ _ H Q I h=>Calls.spliced_nil ⟨[],H,I,.nil,h⟩
theorem j0a(ha:PE X e te)(hr:PA X es t)(hs:starEach (e::es) X.env=(false,eval e X.env)::starEach es X.env:=by rfl):PA X (e::es) (tCons te t):=by
 intro pos pins s σ H Q I h;rw[hs];show wpAny _ _ (spliced ((false,eval e X.env)::backTo pos (starEach es X.env))) _ _ s;refine Calls.spliced_cons (thn (ha pins s σ H _ I h) fun u s1 ⟨x,H1,I1,r1,q1⟩=>?_);exact thn (hr pos pins s1 σ H1 _ I1 q1) fun us s2 ⟨xs,H2,I2,r2,q2⟩=>⟨x::xs,H2,I2,.cons r1 r2,q2⟩
noncomputable def tTup(t:TA):TE:=fun σ H Q=>t σ H fun xs H1=>xs.length≤sizeLine∧∀p,H1 p=none→Q (.ref p) (upd H1 p (.tup xs))
noncomputable def tLst(t:TA):TE:=fun σ H Q=>t σ H fun xs H1=>xs.length≤sizeLine∧∀p,H1 p=none→Q (.ref p) (upd H1 p (.lst xs))
theorem pe_tup{x1}(h:PA X es t):PE X (.Tuple es x1 pos) (tTup t):=by
 intro pins s σ H Q I hq;refine wpAny_Tuple_spliced (thn (h pos pins s σ H _ I hq) fun us s1 ⟨xs,H1,I1,r,z,q⟩=>⟨by rw[←r.length];exact z,?_⟩);have hf:H1 s1.heap.objs.size=none:=I1.hok.fresh (Nat.le_refl _);refine ⟨.ref s1.heap.objs.size,upd H1 s1.heap.objs.size (.tup xs),I1.laid (t':=s1.toks) (fun b u e=>Heap.get?_push_of_some _ e) (Nat.le_refl _) ?_,rfl,q _ hf⟩;exact ⟨z,us,r,⟨_,Heap.get?_push_size _ rfl,rfl,⟨_,rfl⟩,rfl⟩⟩
theorem d0h(h:PA X es t):PE X (.List es pos) (tLst t):=by
 intro pins s σ H Q I hq;refine wpAny_List_spliced (thn (h pos pins s σ H _ I hq) fun us s1 ⟨xs,H1,I1,r,z,q⟩=>⟨by rw[←r.length];exact z,?_⟩);have hf:H1 s1.heap.objs.size=none:=I1.hok.fresh (Nat.le_refl _);refine ⟨.ref s1.heap.objs.size,upd H1 s1.heap.objs.size (.lst xs),I1.laid (t':=s1.toks) (fun b u e=>Heap.get?_push_of_some _ e) (Nat.le_refl _) ?_,rfl,q _ hf⟩;exact ⟨z,us,0,r,Heap.get?_push_size _ rfl⟩
end
noncomputable abbrev Sp:=List V→Hp→VK→XK→Prop
noncomputable abbrev CXT:=List Env→Hp→Shared→XK→Value→Shared→Prop
structure Env0(P:Program)(w:World)(K:PySem.W.Frag)(mg:Str→Option Value)(base:Heap)(A:Around)(outer:List Env)(s:Shared)(H:Hp):Prop where
 frames:A.frames=some outer
 mod:Mod K mg base
 bs:∀b o,base.get? b=some o→s.heap.get? b=some o∧H b=none
 bsz:base.objs.size≤s.heap.objs.size
 funs:s.heap.FunFrames base outer
 frf:∀b∈frs outer,H b=none
 hok:HOk P w H s.heap
 bare:AllBare s.gens
noncomputable def CE(outer:List Env)(P:Program)(w:World)(H:Hp)(s:Shared)(Q:VK)(u:Value)(s':Shared):Prop:=
 ∃v H',s'.os=s.os∧AllBare s'.gens∧Un (frs outer) [] H H' s.heap s'.heap∧HOk P w H' s'.heap∧RelV v u∧Q v H'
noncomputable def CR(CX:CXT)(outer:List Env)(P:Program)(w:World)(H:Hp)(s:Shared)(Q:VK)(E:XK)(r:Result)(s':Shared):Prop:=
 match r with
 | .ok (.ret u)=>CE outer P w H s Q u s'
 | .ok _=>False
 | .error e=>CX outer H s E e s'
structure FnOk(P:Program)(w:World)(K:PySem.W.Frag)(mg:Str→Option Value)(base:Heap)(CX:CXT)(k:Nat)(f:Addr)(fd:FuncData)(ps:List Str)(sp:Sp):Prop where
 len:∀vs H Q E,sp vs H Q E→vs.length=ps.length
 run:∀(A:Around) (outer:List Env) (s:Shared) (H:Hp) (args:Args) (us:List Value) (vs:List V) (Q:VK) (E:XK),Room k A→Env0 P w K mg base A outer s H→BindsTo s fd args (ps.zip us)→Vals vs us→sp vs H Q E→
  codeAny (model P w) A (.call (.ref f) args) (CR CX outer P w H s Q E) s
theorem Env0.make{P:Program}{w:World}{K:PySem.W.Frag}{mg:Str→Option Value}{base:Heap}{A:Around}{outer:List Env}{s:Shared}{H:Hp}(e:Env0 P w K mg base A outer s H)(C:Addr)(us:List Value)(kw:List (Str×Value)):
 Env0 P w K mg base (A.under (.builtin "type.__call__" ⟨.ref C::us,kw⟩)) outer s H:=⟨by first |exact e.frames |(simpa[Around.under,Code.envs,Code.isFrame,pushEnvs]using e.frames),e.mod,e.bs,e.bsz,e.funs,e.frf,e.hok,e.bare⟩
section
variable{X:Cx}{pins:List (Addr×Obj)}{σ:St}{H:Hp}{s s':Shared}
theorem Inv.env0(I:Inv X pins σ H s):Env0 X.prog X.w X.K X.mg X.base X.A X.stack s H:=
 ⟨I.ok.frames,I.ok.mod,I.bs,Nat.le_trans I.ok.bsz I.sz,I.stack,I.stkFree,I.hok,I.bare⟩
theorem Inv.after{Q:VK}{u:Value}(I:Inv X pins σ H s)(h:CE X.stack X.prog X.w H s Q u s'):EP X pins σ Q u s':=by
 obtain ⟨v,H',os,bare,un,hok,r,q⟩:=h;obtain ⟨hh,g,d,t,os'⟩:=s';obtain rfl:os'=s.os:=os;exact ⟨v,H',I.call (h':=hh) (g':=g) (d':=d) (t':=t) (ch:=[]) un hok bare (fun b z=>absurd z (by simp)),r,q⟩
end
noncomputable def Binds(K:PySem.W.Frag)(fd:FuncData)(ps:List Str)(ds:List Value):Prop:=
 ∀(s:Shared) (us:List Value),K.In s.heap→(us++ds).length=ps.length→BindsTo s fd ⟨us,[]⟩ (ps.zip (us++ds))
theorem Binds.all{K:PySem.W.Frag}{fd:FuncData}{ps:List Str}(h:∀us:List Value,us.length=ps.length→bindArgs fd ⟨us,[]⟩=pure (ps.zip us)):Binds K fd ps []:=fun s us _ hl=>by
 rw[List.append_nil]at hl ⊢;exact .of_eq (h us hl)
noncomputable def d0g(CX:CXT)(X:Cx)(E:XK):Prop:=∀(pins:List (Addr×Obj)) (σ:St) (H:Hp) (s:Shared) (e:Value) (s':Shared),Inv X pins σ H s→CX X.stack H s E e s'→X.xe e s'
section
variable{X:Cx}{CX:CXT}{k:Nat}{f C:Addr}{fd:FuncData}{ps:List Str}{sp:Sp}{dvs:List V}{ds:List Value}{E:XK}{x m:Str}{p pos apos:Pos}{e o:Expr}{es:List Expr}{ta:TE}{t:TA}
structure Mk(K:PySem.W.Frag)(C f:Addr):Prop where
 makes:PySem.W.makesIn K C=true
 init:PySem.W.findIn K (.ref C) "__init__"=some (some (.ref f))
 fn:PySem.W.isFn K (.ref f)=true
 kp:PySem.W.keepIn K (.ref C)=true
end
section
variable{X:Cx}{CX:CXT}{k:Nat}{f C:Addr}{fd:FuncData}{ps ks:List Str}{sp:Sp}{E:XK}{x m:Str}{p pos apos kpos:Pos}{e o:Expr}{es:List Expr}{kws:List Keyword}{te ta:TE}{t tk:TA}{nm:Option Str}
structure KBinds(K:PySem.W.Frag)(fd:FuncData)(ps ks:List Str)(g:List Value→List Value→List Value)(gV:List V→List V→List V):Prop where
 to:∀(s:Shared) (us ws:List Value),K.In s.heap→(g us ws).length=ps.length→BindsTo s fd ⟨us,ks.zip ws⟩ (ps.zip (g us ws))
 rel:∀{vs:List V} {us:List Value} {zs:List V} {ws:List Value},Vals vs us→Vals zs ws→Vals (gV vs zs) (g us ws)
variable{g:List Value→List Value→List Value}{gV:List V→List V→List V}
end
structure FnScope(N P:List Str)(sc:Scope):Prop where
 kind:sc.kind=.function
 co:sc.isCoroutine=false
 gen:sc.isGenerator=false
 nd:N.Nodup
 pre:N.take P.length=P
 par:∀x∈P,sc.names.lookup x=some .local∨sc.names.lookup x=some .cell
 nofree:∀y∈sc.names,y.2≠.free
theorem p0p{kindOf:Str→Option NameKind}{x:Str}:∀{binds:List (Str×Value)} {m:Str→Option Value},(∀v,(x,v)∉binds)→bindL kindOf binds m x=m x
 | [],_,_=>rfl
 |(n,v)::r,m,h=>by
  unfold bindL;rw[p0p fun w hw=>h w (List.mem_cons_of_mem _ hw)];split
  ·have:x≠n:=by rintro rfl;exact h v List.mem_cons_self
   simp[this]
  ·rfl
theorem p0o{kindOf:Str→Option NameKind}{x:Str}:∀{binds:List (Str×Value)} {m:Str→Option Value},(∀v,(x,v)∉binds)→bindC kindOf binds m x=m x
 | [],_,_=>rfl
 |(n,v)::r,m,h=>by
  unfold bindC;rw[p0o fun w hw=>h w (List.mem_cons_of_mem _ hw)];split
  ·rfl
  ·have:x≠n:=by rintro rfl;exact h v List.mem_cons_self
   simp[this]
theorem p0n{kindOf:Str→Option NameKind}{x:Str}{v:Value}:∀{P:List Str} {vs:List Value} {i:Nat} {m:Str→Option Value},P.Nodup→P[i]?=some x→vs[i]?=some v→kindOf x=some .local→
 bindL kindOf (P.zip vs) m x=some v
 | [],_,_,_,_,h,_,_=>by simp at h
 |_::_,[],_,_,_,_,h,_=>by simp at h
 |p::P,w::vs,0,m,nd,h1,h2,hk=>by
  simp at h1 h2;subst h1;subst h2;show bindL kindOf ((p,w)::P.zip vs) m p=_;unfold bindL;rw[p0p fun v hv=>(List.nodup_cons.mp nd).1 (List.of_mem_zip hv).1,if_pos hk];simp
 |p::P,w::vs,i+1,m,nd,h1,h2,hk=>by
  show bindL kindOf ((p,w)::P.zip vs) m x=_;unfold bindL;exact p0n (i:=i) (List.nodup_cons.mp nd).2 (by simpa using h1) (by simpa using h2) hk
theorem p0m{kindOf:Str→Option NameKind}{x:Str}{v:Value}:∀{P:List Str} {vs:List Value} {i:Nat} {m:Str→Option Value},P.Nodup→P[i]?=some x→vs[i]?=some v→kindOf x≠some .local→
 bindC kindOf (P.zip vs) m x=some v
 | [],_,_,_,_,h,_,_=>by simp at h
 |_::_,[],_,_,_,_,h,_=>by simp at h
 |p::P,w::vs,0,m,nd,h1,h2,hk=>by
  simp at h1 h2;subst h1;subst h2;show bindC kindOf ((p,w)::P.zip vs) m p=_;unfold bindC;rw[p0o fun v hv=>(List.nodup_cons.mp nd).1 (List.of_mem_zip hv).1,if_neg hk];simp
 |p::P,w::vs,i+1,m,nd,h1,h2,hk=>by
  show bindC kindOf ((p,w)::P.zip vs) m x=_;unfold bindC;exact p0m (i:=i) (List.nodup_cons.mp nd).2 (by simpa using h1) (by simpa using h2) hk
noncomputable def start(N:List Str)(vs:List V):St:=vs.map some++List.replicate (N.length-vs.length) none
noncomputable def cxOf(CX:CXT)(P:Program)(w:World)(K:PySem.W.Frag)(mg:Str→Option Value)(base:Heap)(N:List Str)(qual:Str)(scope:Scope)(f:Addr)(cd:Value)(A:Around)(outer:List Env)(s:Shared)(H:Hp)(E:XK):Cx where
 prog:=P
 w:=w
 K:=K
 mg:=mg
 base:=base
 A:=A.deeper (envOfC qual scope s.heap.objs.size f cd)
 N:=N
 s₀:=s
 H₀:=H
 env:=envOfC qual scope s.heap.objs.size f cd
 outer:=outer
 stack:=envOfC qual scope s.heap.objs.size f cd::outer
 ex:=[]
 calm:=true
 fn:=fun _=>true
 pn:=[]
 xe:=fun e s'=>wpAny (model P w) (A.deeper (envOfC qual scope s.heap.objs.size f cd)) (leaving (envOfC qual scope s.heap.objs.size f cd) e) (fun _ s''=>CX outer H s E e s'') (fun e' s''=>CX outer H s E e' s'') s'
theorem l0v{sc:Scope}{n:Nat}{x:Str}(h:sc.names.lookup x=some .cell):∃c,(cellsFrom n sc.names []).lookup x=some c:=by
 have q:=PySem.W.cellsFrom_some sc.names n [] (.inl h);exact Option.isSome_iff_exists.mp q
theorem p0l{CX:CXT}{P:Program}{w:World}{K:PySem.W.Frag}{mg:Str→Option Value}{base:Heap}{N ps:List Str}{qual:Str}{scope:Scope}{f:Addr}{cd:Value}{A:Around}{outer:List Env}{s s1:Shared}{H:Hp}{E:XK}{us:List Value}{vs:List V}
 (S:FnScope N ps scope) (hd:A.handled=none) (e0:Env0 P w K mg base A outer s H) (hl:vs.length=ps.length) (r:Vals vs us)
 (x:InCallC s s.heap.objs.size (bindL (envOfC qual scope s.heap.objs.size f cd).kindOf (ps.zip us) fun _=>none) (cellsFrom (s.heap.objs.size+1) scope.names []) (bindC (envOfC qual scope s.heap.objs.size f cd).kindOf (ps.zip us) fun _=>none) s1):
 Inv (cxOf CX P w K mg base N qual scope f cd A outer s H E) [] (start N vs) H s1:=by
 have hpl:ps.length≤N.length:=by have:=congrArg List.length S.pre;rw[List.length_take]at this;omega
 obtain ⟨h1,tk,rfl,hk⟩:=x.done;have noA:∀b:Addr,b∉(cxOf CX P w K mg base N qual scope f cd A outer s H E).ex:=fun b z=>absurd (show b∈([]:List Addr)from z) (by simp)
 refine ⟨⟨e0.mod,S.kind,rfl,rfl,Nat.le_refl _,fun y z c h1 h2=>?_,fun y hy=>?_,fun y c _ h=>?_,fun _=>hd,Around.frames_deeper e0.frames,.inr ⟨rfl,rfl⟩,fun b z=>absurd z (noA b),e0.bs,e0.bsz,fun b _ _=>noA b,fun b z=>absurd z (noA b),e0.funs,e0.frf⟩,
  rfl,e0.bare,Un.kept hk,⟨_,x.toInCall.ns,fun i y v h1 h2 h3=>?_⟩,fun y c h=>⟨_,x.cell y c h⟩,e0.hok.fresh (Nat.le_refl _),fun y c h=>?_,fun p hp=>absurd (show p∈([]:List (Addr×Obj))from hp) (by simp),e0.hok.kept hk,?_⟩
 ·exact name_of_addr x.apart (PySem.mem_of_lookup h1) (PySem.mem_of_lookup h2)
 ·have hy:scope.names.lookup y=some .cell∨scope.names.lookup y=some .free:=hy;rcases hy with hy |hy
  ·exact l0v hy
  ·exact absurd rfl (S.nofree _ (PySem.mem_of_lookup hy))
 ·exact Nat.le_of_lt (x.above y c (PySem.mem_of_lookup h))
 ·have hi:i<vs.length:=by
   unfold start at h2;by_cases hi:i<vs.length
   ·exact hi
   ·rw[List.getElem?_append_right (by simpa using hi)]at h2;rw[List.getElem?_replicate]at h2;split at h2<;>cases h2
  have ha:vs[i]?=some v:=by
   unfold start at h2;rw[List.getElem?_append_left (by simpa using hi),List.getElem?_map]at h2;cases e:vs[i]? with
   |none=>rw[e]at h2;cases h2
   |some a=>rw[e]at h2;cases h2;rfl
  obtain ⟨u,hu,rv⟩:=r.get ha;have hp:ps[i]?=some y:=by
   rw[←S.pre,List.getElem?_take_of_lt (by omega)];exact h1
  have ndP:ps.Nodup:=by rw[←S.pre];exact S.nd.sublist (List.take_sublist _ _)
  refine ⟨u,rv,?_⟩;rcases S.par y (List.mem_of_getElem? hp)with k |k
  ·exact .inl ⟨k,p0n ndP hp hu k⟩
  ·obtain ⟨c,e⟩:=l0v (n:=s.heap.objs.size+1) k;refine .inr ⟨.inl k,c,e,?_⟩;have q:=x.cell y c e;rw[p0m ndP hp hu (by show scope.names.lookup y≠_;rw[k];decide)]at q;exact q
 ·exact e0.hok.fresh (Nat.le_of_lt (x.above y c (PySem.mem_of_lookup h)))
 ·unfold start;show _=N.length;rw[List.length_append,List.length_map,List.length_replicate];omega
theorem fn_of{CX:CXT}{P:Program}{w:World}{K:PySem.W.Frag}{mg:Str→Option Value}{base:Heap}{k:Nat}{f:Addr}{name qual:Str}{params:Arguments}{body:List Stmt}{scope:Scope}{dV kV doc pm cdv ct oc:Value}{an od:Option Addr}
 {osl:Array (Option Value)} {N ps:List Str} {sp:Sp} (lk:K.lookup f=some ⟨oc,od,.func (PySem.W.fnOf name qual params body scope dV kV doc pm an cdv ct),osl⟩) (hcd:PySem.W.codeIn K cdv qual=true) (S:FnScope N ps scope)
 (len:∀vs H Q E,sp vs H Q E→vs.length=ps.length)
 (hbody:∀(A:Around) (outer:List Env) (s:Shared) (H:Hp) (vs:List V) (Q:VK) (E:XK),Room k (A.deeper (envOfC qual scope s.heap.objs.size f cdv))→sp vs H Q E→
  ∃t,PSs (cxOf CX P w K mg base N qual scope f cdv A outer s H E) body t∧t {nx:=fun _ H'=>Q .non H',rt:=Q} (start N vs) H):
 FnOk P w K mg base CX (k+1) f (PySem.W.fnOf name qual params body scope dV kV doc pm an cdv ct) ps sp:=by
 refine ⟨len,fun A outer s H args us vs Q E hr e0 hb r hsp=>?_⟩;have hl:=len _ _ _ _ hsp;have KX:K.In s.heap:=e0.mod.kin.keeps fun b o e=>(e0.bs b o e).1
 have lim:s.heap.NoLimit:=e0.mod.nolimit.keeps fun b o e=>(e0.bs b o e).1
 have hkind:∀y∈ps.zip us,scope.names.lookup y.1=some .local∨(scope.names.lookup y.1=some .cell∧((cellsFrom (s.heap.objs.size+1) scope.names []).lookup y.1).isSome=true):=fun ⟨n,v⟩ hy=>by
  rcases S.par n (List.of_mem_zip hy).1 with q |q
  ·exact .inl q
  ·exact .inr ⟨q,PySem.W.cellsFrom_some _ _ _ (.inl q)⟩
 refine codeAny_call_function hr.depth (KX _ _ lk) rfl S.co S.gen rfl (PySem.W.codeRec_of KX hcd) (hb _ _ _ _ ?_);refine wpAny_newFunctionEnv_cells S.kind hkind fun env he s1 x=>?_
 subst he;refine ⟨lim.keeps x.toInCall.keep,codeAny_func ?_⟩;obtain ⟨t,ht,hq⟩:=hbody A outer s H vs Q E (hr.deeper _) hsp;have I:Inv (cxOf CX P w K mg base N qual scope f cdv A outer s H E) [] (start N vs) H s1:=p0l S hr.hd e0 hl r x;refine wpAny_mono (ht [] s1 (start N vs) H _ I hq) (fun fl s' hs=>?_) fun e s' hs=>hs
 have fin:∀{σ':St} {H':Hp} {v:V} {u:Value},Inv (cxOf CX P w K mg base N qual scope f cdv A outer s H E) [] σ' H' s'→RelV v u→Q v H'→CE outer P w H s Q u s':=
  fun {σ' H' v u} J rv q=>⟨v,H',J.os,J.bare,J.base,J.hok,rv,q⟩
 cases fl with
 |ret u=>
  obtain ⟨v,σ',H',J,rv,q⟩:=hs;exact fin J rv q
 |next=>
  obtain ⟨σ',H',J,q⟩:=hs;exact fin (v:=V.non) (u:=Value.none) J rfl q
 |brk=>
  obtain ⟨_,_,_,q⟩:=hs;exact False.elim q
 |cont=>
  obtain ⟨_,_,_,q⟩:=hs;exact False.elim q
end L2
namespace L2
open PySem PySem.Spec PyProof.Rows
section
variable{X:Cx}{x:Str}{p pos:Pos}{e:Expr}{es:List Expr}{t:TA}{id T:String}{r:List V→Hp→VK→Prop}
noncomputable def tCB(r:List V→Hp→VK→Prop)(t:TA):TE:=fun σ H Q=>t σ H fun vs H1=>r vs H1 Q
theorem l0u(hc:w0h X (.builtin id) r)(hg:Gl X x)(hm:X.mg x=none)(hv:bootBuiltins x=some (.builtin id))(ha:PA X (e::es) t)(hn:x≠"__name__":=by decide)(hdb:(x==("__debug__":Str))=false:=by decide)
 (he:starEach (e::es) X.env=(false,eval e X.env)::starEach es X.env:=by rfl) (hpl:(backTo pos (starEach es X.env)).any (·.1)=false:=by rfl):PE X (.Call (.Name x p) (e::es) [] pos) (tCB r t):=by
 intro pins s σ H Q I h;refine wpAny_Call_Name_kw (v0j I hg hm hv ?_ hn hdb);exact PyProof.Rows.callWith_builtin1 (thn (ha pos pins s σ H _ I h) fun us s1 ⟨vs,H1,I1,r1,q1⟩=>hc pins s1 σ H1 vs us Q I1 r1 q1) he hpl
theorem i0z(hc:w0h X (.type T) r)(hg:Gl X x)(hm:X.mg x=none)(hv:bootBuiltins x=some (.type T))(ha:PA X (e::es) t)(hn:x≠"__name__":=by decide)(hdb:(x==("__debug__":Str))=false:=by decide)
 (he:starEach (e::es) X.env=(false,eval e X.env)::starEach es X.env:=by rfl) (hpl:(backTo pos (starEach es X.env)).any (·.1)=false:=by rfl):PE X (.Call (.Name x p) (e::es) [] pos) (tCB r t):=by
 intro pins s σ H Q I h;refine wpAny_Call_Name_kw (v0j I hg hm hv ?_ hn hdb);exact PyProof.Rows.callWith_type1 (thn (ha pos pins s σ H _ I h) fun us s1 ⟨vs,H1,I1,r1,q1⟩=>hc pins s1 σ H1 vs us Q I1 r1 q1) he hpl
end
end L2
namespace HT
open PySem PyProof.Rows
section
open PySem.SeqAt
open PySem.AutoSeq1 (wpAny_loadPart')
open PySem.MeetsSeq PySem.MeetsSeq2 PySem.MeetsSeq3
end
section
variable{prog:Program}{w:World}{A:Around}{E:Value→Shared→Prop}{s:Shared}
theorem cat_tup{t b:Addr}{vs ws:List Value}{Q:Value→Shared→Prop}(ht:IsTup s.heap t vs.toArray)(hb:IsTup s.heap b ws.toArray)(hv:vs≠[])
 (h1:ws=[]→Q (.ref t) s) (h2:ws≠[]→Q (.ref s.heap.objs.size) {s with heap:=s.heap.push {cls:=.type "tuple",data:=.seq (vs++ws).toArray}})
 (hsz:vs.length+ws.length≤sizeLine):wpAny (model prog w) A (binaryOp .Add (.ref t) (.ref b)) Q E s:=by
 obtain ⟨⟨cls,dd,data,sl⟩,ho,hc,n,hd⟩:=id ht;obtain ⟨⟨cls2,dd2,data2,sl2⟩,ho2,hc2,n2,hd2⟩:=id hb;simp only at hc hd hc2 hd2;subst hc hd hc2 hd2;have e:vs.toArray++ws.toArray=(vs++ws).toArray:=by simp
 by_cases hw:ws=[]
 ·exact concat_meets ⟨_,ho,rfl⟩ ⟨_,ho2,rfl⟩ noFill_tuple_add seq_tuple_add PySem.F.slot_tuple_add PySem.F.entry_tuple_add (PySem.F.args_tuple_add_2 _ _)
   (tuple_addW1 t b vs.toArray ws.toArray n n2 dd dd2 sl sl2 (by simpa using hv) (by simp[hw])) ⟨ho,ho2,h1 hw⟩
 ·refine concat_meets ⟨_,ho,rfl⟩ ⟨_,ho2,rfl⟩ noFill_tuple_add seq_tuple_add PySem.F.slot_tuple_add PySem.F.entry_tuple_add (PySem.F.args_tuple_add_2 _ _)
   (tuple_addW2 t b vs.toArray ws.toArray n n2 dd dd2 sl sl2 (by simpa using hv) (by simpa using hw) (by rw[List.size_toArray,List.size_toArray];exact hsz)) ⟨ho,ho2,?_⟩
  rw[e];exact h2 hw
noncomputable def sIx(n d:Nat):Option Int→Nat
 |none=>d
 |some v=>if v<0 then (v+(n:Int)).toNat else min v.toNat n
theorem sIx_none(n d:Nat):sIx n d none=d:=rfl
theorem sIx_nat(n d k:Nat):sIx n d (some (k:Int))=min k n:=by
 show (if (k:Int)<0 then ((k:Int)+(n:Int)).toNat else min (k:Int).toNat n)=min k n;rw[if_neg (by omega),Int.toNat_natCast]
theorem sIx_le(n d:Nat)(hd:d≤n)(o:Option Int):sIx n d o≤n:=by
 cases o with
 |none=>exact hd
 |some v=>
  show (if v<0 then (v+(n:Int)).toNat else min v.toNat n)≤n;by_cases hv:v<0
  ·rw[if_pos hv];omega
  ·rw[if_neg hv];exact Nat.min_le_right _ _
theorem i0y(v:Int)(n d:Nat):(if v<0 then max (v+(n:Int)) 0 else min v (n:Int))=((sIx n d (some v):Nat):Int):=by
 show (if v<0 then max (v+(n:Int)) 0 else min v (n:Int))=(((if v<0 then (v+(n:Int)).toNat else min v.toNat n):Nat):Int);by_cases hv:v<0
 ·simp only[if_pos hv];omega
 ·simp only[if_neg hv];omega
theorem k0g(lo hi:Option Int)(n:Nat):Builtin.Slice.sliceAdjust lo hi 1 (n:Int)=(((sIx n 0 lo:Nat):Int),((sIx n n hi:Nat):Int)):=by
 have h1:¬((1:Int)<0):=by omega
 unfold Builtin.Slice.sliceAdjust;simp only[h1,if_false];refine Prod.ext ?_ ?_
 ·cases lo with
  |none=>rfl
  |some v=>exact i0y v n 0
 ·cases hi with
  |none=>rfl
  |some v=>exact i0y v n n
theorem k0f(i j:Nat):Builtin.Slice.slicePlaces (i:Int) (j:Int) 1=j-i:=by
 unfold Builtin.Slice.slicePlaces;have h1:(1:Int)>0:=by omega
 simp only[h1,if_true,Int.ediv_one];split<;>omega
theorem r0n{v:Value}{o:Option Int}{Q:Option Int→Shared→Prop}(p:IsPart v o)(h:Q o s):wpAny (model prog w) A (Builtin.Slice.slicePartIndex v) Q E s:=by
 cases p with
 |none=>exact slicePart_none h
 |int i t=>exact slicePart_int h
theorem u0t{sl:Addr}{vl vu:Value}{lo hi:Option Int}{n:Nat}{Q:Int×Int×Nat→Shared→Prop}(hs:s.heap.IsSliceOf sl vl vu .none)(pl:IsPart vl lo)(pu:IsPart vu hi)
 (h:Q (((sIx n 0 lo:Nat):Int),1,sIx n n hi-sIx n 0 lo) s):wpAny (model prog w) A (Builtin.Slice.sliceApplied (.ref sl) (pure (n:Int))) Q E s:=by
 obtain ⟨os,hos,hcs,hds⟩:=id hs;unfold Builtin.Slice.sliceApplied Builtin.Slice.sliceFields;refine wpAny_bind (wpAny_bind (wpAny_field hos hds (x:=vl) rfl (wpAny_bind (wpAny_field hos hds (x:=vu) rfl (wpAny_bind (wpAny_field hos hds (x:=.none) rfl (wpAny_pure ?_)))))));refine wpAny_bind (slicePart_none ?_);show wpAny _ _ (if ((1:Int)==0)=true then _ else _) _ _ s;rw[if_neg (by decide)];refine wpAny_bind (r0n pl (wpAny_bind (r0n pu (wpAny_bind (wpAny_pure ?_)))));show wpAny _ _ (match Builtin.Slice.sliceAdjust lo hi 1 (n:Int)with |(lo,hi)=>pure (lo,(1:Int),Builtin.Slice.slicePlaces lo hi 1)) _ _ s;rw[k0g lo hi n];show wpAny _ _ (pure (((sIx n 0 lo:Nat):Int),(1:Int),Builtin.Slice.slicePlaces ((sIx n 0 lo:Nat):Int) ((sIx n n hi:Nat):Int) 1)) _ _ s;rw[k0f];exact wpAny_pure h
theorem f0o(xs:Array Value)(i k:Nat):((List.range k).filterMap fun (m:Nat)=>xs[((i:Int)+(m:Int)*1).toNat]?).toArray=((xs.toList.drop i).take k).toArray:=by
 have e:(fun (m:Nat)=>xs[((i:Int)+(m:Int)*1).toNat]?)=fun m=>xs[i+m]?:=by
  funext m;have:((i:Int)+(m:Int)*1).toNat=i+m:=by omega
  rw[this]
 rw[e];have:=pick_run xs i k;rw[List.filterMap_map]at this;have e2:((fun x=>xs[x]?)∘fun x=>i+x)=fun m=>xs[i+m]?:=rfl
 rw[e2]at this;rw[this]
theorem getItem_tuple_cut{t sl:Addr}{items:Array Value}{vl vu:Value}{lo hi:Option Int}{Q:Value→Shared→Prop}(ht:IsTup s.heap t items)(hs:s.heap.IsSliceOf sl vl vu .none)(pl:IsPart vl lo)(pu:IsPart vu hi)
 (hw:¬(sIx items.size 0 lo=0∧sIx items.size items.size hi=items.size))
 (h:Q (.ref s.heap.objs.size) {s with heap:=s.heap.push {cls:=.type "tuple",data:=.seq ((items.toList.drop (sIx items.size 0 lo)).take (sIx items.size items.size hi-sIx items.size 0 lo)).toArray}})
 (hsz:items.size≤sizeLine):wpAny (model prog w) A (getItem (.ref t) (.ref sl)) Q E s:=by
 have htake:sizeOk (.seq ((items.toList.drop (sIx items.size 0 lo)).take (sIx items.size items.size hi-sIx items.size 0 lo)).toArray):=by
  show ((items.toList.drop (sIx items.size 0 lo)).take (sIx items.size items.size hi-sIx items.size 0 lo)).toArray.size≤sizeLine;rw[List.size_toArray,List.length_take,List.length_drop,Array.length_toList];omega
 have hj:sIx items.size items.size hi≤items.size:=sIx_le _ _ (Nat.le_refl _) hi;obtain ⟨os,hos,hcs,hds⟩:=id hs;have hTs:s.TypeIs (.ref sl) "slice":=⟨os,hos,hcs⟩;unfold getItem
 try with_reducible refine wpAny_holding ?_
 first |refine wpAny_bind (wpAny_pure ?_)|skip
 refine wpAny_bind (wpAny_sequenceKey ht.typeIs (by decide) ?_);refine wpAny_bind (wpAny_callSpecial?_slot (name:=Str.ofString "__getitem__") ht.typeIs PyProof.Rows.slot_tuple_getitem
  (wpAny_call_entry PyProof.Rows.slot_tuple_getitem ht.typeIs entry_tuple_getitem ?_ (args_tuple_getitem _ _)))
 show wpAny _ _ (Builtin.Tuple.tupleItemsOf (.ref t) >>= _) _ _ s;refine wpAny_bind (tupleItemsOf_ ht ?_);refine wpAny_bind (wpAny_typeOf hTs ?_);rw[if_pos (by decide)];refine wpAny_bind (u0t hs pl pu ?_);have hno:¬((((sIx items.size 0 lo:Nat):Int)==0&&(1:Int)==1&&(sIx items.size items.size hi-sIx items.size 0 lo)==items.size)=true):=by
  intro q;rw[Bool.and_eq_true,Bool.and_eq_true]at q;have q1:((sIx items.size 0 lo:Nat):Int)=0:=eq_of_beq q.1.1;have q2:sIx items.size items.size hi-sIx items.size 0 lo=items.size:=eq_of_beq q.2;exact hw ⟨by omega,by omega⟩
 show wpAny _ _ (if (((sIx items.size 0 lo:Nat):Int)==0&&(1:Int)==1&&(sIx items.size items.size hi-sIx items.size 0 lo)==items.size)=true then _ else _) _ _ s;rw[if_neg hno,f0o]
 first
  |exact wpAny_bind (m:=Builtin.Tuple.tupleExact _) (wpAny_newObj_type (wpAny_pure ⟨_,rfl,wpAny_pure h⟩) htake)
  |exact wpAny_bind (m:=Builtin.Tuple.tupleExact _) (wpAny_newObj_type (wpAny_bind (wpAny_pure (wpAny_pure ⟨_,rfl,wpAny_pure h⟩))) htake)
  |exact wpAny_bind (wpAny_bind (m:=Builtin.Tuple.tupleExact _) (wpAny_newObj_type (wpAny_pure (wpAny_pure ⟨_,rfl,wpAny_pure h⟩)) htake))
  |exact wpAny_bind (wpAny_bind (m:=Builtin.Tuple.tupleExact _) (wpAny_newObj_type (wpAny_pure ⟨_,rfl,wpAny_pure h⟩) htake))
end
end HT
namespace L2
open PySem PySem.Spec PyProof.Rows
noncomputable abbrev TO:=St→Hp→(Option Int→Hp→Prop)→Prop
noncomputable def PO(X:Cx)(e:Option Expr)(t:TO):Prop:=
 ∀(pins:List (Addr×Obj)) (s:Shared) (σ:St) (H:Hp) (Q:Option Int→Hp→Prop),Inv X pins σ H s→t σ H Q→
  wpAny (model X.prog X.w) X.A (evalPart e X.env) (fun u s'=>∃o H',Inv X pins σ H' s'∧IsPart u o∧Q o H') X.xe s
noncomputable def b0p:TO:=fun _ H Q=>Q none H
noncomputable def tPart(t:TE):TO:=fun σ H Q=>t σ H fun x H1=>∃i,x=.int i∧Q (some i) H1
section
variable{X:Cx}{e:Expr}{te:TE}{lo hi:Option Expr}{tl th:TO}{pos p2:Pos}
theorem b0o:PO X none b0p:=by
 intro pins s σ H Q I h;rw[evalPart_none];exact wpAny_pure ⟨none,H,I,.none,h⟩
theorem b0n(h:PE X e te):PO X (some e) (tPart te):=by
 intro pins s σ H Q I hw;rw[evalPart_some];refine thn (h pins s σ H _ I hw) fun u s1 ⟨x,H1,I1,r1,q1⟩=>?_
 obtain ⟨i,rfl,q⟩:=q1;obtain ⟨t,rfl⟩:=r1;exact ⟨some i,H1,I1,.int i t,q⟩
noncomputable def SlR(X:Cx)(r:V→Option Int→Option Int→Hp→VK→Prop):Prop:=
 ∀(pins:List (Addr×Obj)) (s:Shared) (σ:St) (H:Hp) (x:V) (v vl vu:Value) (lo hi:Option Int) (sl:Addr) (Q:VK),Inv X pins σ H s→RelV x v→s.heap.IsSliceOf sl vl vu .none→IsPart vl lo→IsPart vu hi→r x lo hi H Q→
  ∃T id,typeLookup (.type T) "__getitem__"=pure (some (.builtin id))∧s.TypeIs v T∧wpAny (model X.prog X.w) X.A (getItem v (.ref sl)) (EP X pins σ Q) X.xe s
theorem SlR.or{r r':V→Option Int→Option Int→Hp→VK→Prop}(h:SlR X r)(h':SlR X r'):SlR X (fun x lo hi H Q=>r x lo hi H Q∨r' x lo hi H Q):=by
 intro pins s σ H x v vl vu lo hi sl Q I rx hs pl pu q;rcases q with q |q
 ·exact h pins s σ H x v vl vu lo hi sl Q I rx hs pl pu q
 ·exact h' pins s σ H x v vl vu lo hi sl Q I rx hs pl pu q
noncomputable def tSl(r:V→Option Int→Option Int→Hp→VK→Prop)(te:TE)(tl th:TO):TE:=fun σ H Q=>te σ H fun x H1=>tl σ H1 fun l H2=>th σ H2 fun u H3=>r x l u H3 Q
theorem f0n{r:V→Option Int→Option Int→Hp→VK→Prop}(hr:SlR X r)(he:PE X e te)(hl:PO X lo tl)(hu:PO X hi th):PE X (.Subscript e (.Slice lo hi none p2) pos) (tSl r te tl th):=by
 intro pins s σ H Q I h;refine Subscript_ (thn (he pins s σ H _ I h) fun v s1 ⟨x,H1,I1,r1,q1⟩=>?_);refine wpAny_Slice (thn (hl pins s1 σ H1 _ I1 q1) fun vl s2 ⟨l,H2,I2,pl,q2⟩=>thn (hu pins s2 σ H2 _ I2 q2) fun vu s3 ⟨u,H3,I3,pu,q3⟩=>?_);rw[evalPart_none];refine wpAny_pure ?_;have I4:Inv X pins σ H3 {s3 with heap:=s3.heap.push {cls:=.type "slice",data:=.fields #[vl,vu,.none]}}:=I3.kept (t':=s3.toks) fun b ob q=>Heap.get?_push_of_some _ q
 obtain ⟨T,id,hT,ht,hg⟩:=hr pins {s3 with heap:=s3.heap.push {cls:=.type "slice",data:=.fields #[vl,vu,.none]}} σ H3 x v vl vu l u s3.heap.objs.size Q I4 r1 (Heap.IsSliceOf.new ..) pl pu q3;show wpAny (model X.prog X.w) X.A (subscriptTail e (.Slice lo hi none p2) v (.ref s3.heap.objs.size)) (EP X pins σ Q) X.xe {s3 with heap:=s3.heap.push {cls:=.type "slice",data:=.fields #[vl,vu,.none]}};exact tail_any (ops:=[.ref s3.heap.objs.size,v]) ht hT hg (by with_unfolding_all rfl)
noncomputable def cutV(xs:List V)(lo hi:Option Int):List V:=(xs.drop (HT.sIx xs.length 0 lo)).take (HT.sIx xs.length xs.length hi-HT.sIx xs.length 0 lo)
theorem t0v(xs:List V)(lo hi:Option Int):(cutV xs lo hi).length≤xs.length:=by
 unfold cutV;rw[List.length_take,List.length_drop];omega
noncomputable def rSlT(K:PySem.W.Frag):V→Option Int→Option Int→Hp→VK→Prop:=fun x lo hi H Q=>∃a xs,x=.ref a∧SqT K H a xs∧
 ¬(HT.sIx xs.length 0 lo=0∧HT.sIx xs.length xs.length hi=xs.length)∧∀p,H p=none→Q (.ref p) (upd H p (.tup (cutV xs lo hi)))
theorem sl_tup:SlR X (rSlT X.K):=by
 intro pins s σ H x v vl vu lo hi sl Q I rx hs pl pu h;obtain ⟨a,xs,rfl,hx,hw,q⟩:=h;cases rx;obtain ⟨its,r,ht,hz⟩:=I.tuple hx;have hlen:its.toArray.size=xs.length:=by rw[List.size_toArray];exact r.length.symm
 refine ⟨"tuple",_,PyProof.Rows.slot_tuple_getitem.lookup,ht.typeIs,?_⟩;refine HT.getItem_tuple_cut ht hs pl pu (by rw[hlen];exact hw) ?_ (by rw[hlen];exact hz);rw[hlen];refine ⟨.ref s.heap.objs.size,_,I.laid (t':=s.toks) (o:=.tup (cutV xs lo hi)) (fun b ob q=>Heap.get?_push_of_some _ q) (Nat.le_refl _) ?_,rfl,q _ (I.hok.fresh (Nat.le_refl _))⟩;exact ⟨Nat.le_trans (t0v xs lo hi) hz,_,(r.drop (HT.sIx xs.length 0 lo)).take (HT.sIx xs.length xs.length hi-HT.sIx xs.length 0 lo),TupD.new _ _⟩
noncomputable def rCatT(K:PySem.W.Frag):R2:=fun x y H Q=>∃a b xs ys,x=.ref a∧y=.ref b∧SqT K H a xs∧SqT K H b ys∧xs≠[]∧xs.length+ys.length≤sizeLine∧
 (ys=[]→Q (.ref a) H)∧(ys≠[]→∀p,H p=none→Q (.ref p) (upd H p (.tup (xs++ys))))
theorem Vals.nil_iff{xs:List V}{us:List Value}(r:Vals xs us):us=[]↔xs=[]:=by
 cases r with
 |nil=>simp
 |cons _ _=>simp
theorem b0m:OpR X (binaryOp .Add) (rCatT X.K):=by
 intro pins s σ H x y v u Q I rx ry h;obtain ⟨a,b,xs,ys,rfl,rfl,ha,hb,hx,hz,q1,q2⟩:=h;cases rx;cases ry;obtain ⟨its,r1,p1,_⟩:=I.tuple ha;obtain ⟨its2,r2,p2,_⟩:=I.tuple hb;refine HT.cat_tup p1 p2 (fun z=>hx (r1.nil_iff.mp z)) (fun z=>⟨.ref a,H,I,rfl,q1 (r2.nil_iff.mp z)⟩) (fun z=>?_) (by rw[←r1.length,← r2.length];exact hz);refine ⟨.ref s.heap.objs.size,_,I.laid (t':=s.toks) (o:=.tup (xs++ys)) (fun b ob q=>Heap.get?_push_of_some _ q) (Nat.le_refl _) ?_,rfl,q2 (fun w=>z (r2.nil_iff.mpr w)) _ (I.hok.fresh (Nat.le_refl _))⟩;exact ⟨by rw[List.length_append];exact hz,_,r1.append r2,TupD.new _ _⟩
end
end L2
namespace L2
open PySem PySem.Spec PyProof.Rows
noncomputable def ixN(n:Nat)(i:Int):Option Nat:=if 0≤i then (if i<n then some i.toNat else none)else if -(n:Int)≤i then some (i+n).toNat else none
noncomputable def atI{α:Type}(xs:List α)(i:Int):Option α:=(ixN xs.length i).bind fun j=>xs[j]?
theorem b0l{n:Nat}{i:Int}{j:Nat}(h:ixN n i=some j):seqIndex? i n=some j∧j<n∧-(n:Int)≤i∧i<n:=by
 unfold ixN at h;by_cases h0:0≤i
 ·rw[if_pos h0]at h;by_cases h1:i<n
  ·rw[if_pos h1]at h;have e:i.toNat=j:=Option.some.inj h;exact ⟨by rw[seqIndex_of h0 h1,e],by omega,by omega,h1⟩
  ·rw[if_neg h1]at h;cases h
 ·rw[if_neg h0]at h;by_cases h1:-(n:Int)≤i
  ·rw[if_pos h1]at h;have e:(i+n).toNat=j:=Option.some.inj h;exact ⟨by rw[seqIndex_neg (by omega) h1,e],by omega,h1,by omega⟩
  ·rw[if_neg h1]at h;cases h
theorem n0n{α:Type}{xs:List α}{i:Int}{v:α}(h:atI xs i=some v):∃j,seqIndex? i xs.length=some j∧xs[j]?=some v∧j<xs.length∧-(xs.length:Int)≤i∧i<xs.length:=by
 unfold atI at h;cases e:ixN xs.length i with
 |none=>rw[e]at h;cases h
 |some j=>
  rw[e]at h;obtain ⟨h1,h2,h3,h4⟩:=b0l e;exact ⟨j,h1,h,h2,h3,h4⟩
theorem t0u{α:Type}{xs:List α}{j:Nat}{v:α}(h:xs[j]?=some v):atI xs (j:Int)=some v:=by
 have hj:j<xs.length:=(List.getElem?_eq_some_iff.mp h).1;have e:ixN xs.length (j:Int)=some j:=by
  unfold ixN;rw[if_pos (by omega),if_pos (by omega)];simp
 unfold atI;rw[e];exact h
noncomputable def n0m(b:Expr):Prop:=∀o i,subscripted b false o i=operate [o,i] (getItem o i)
noncomputable def IxR(X:Cx)(r:R2):Prop:=
 ∀(value slice:Expr) (pins:List (Addr×Obj)) (s:Shared) (σ:St) (H:Hp) (x y:V) (v u:Value) (Q:VK),Inv X pins σ H s→RelV x v→RelV y u→r x y H Q→
  subscripted slice false v u=operate [v,u] (getItem v u)→wpAny (model X.prog X.w) X.A (subscriptTail value slice v u) (EP X pins σ Q) X.xe s
noncomputable def MtR(X:Cx)(id:String)(r:V→List V→Hp→VK→Prop):Prop:=
 ∀(pins:List (Addr×Obj)) (s:Shared) (σ:St) (H:Hp) (x:V) (xs:List V) (v:Value) (us:List Value) (Q:VK),Inv X pins σ H s→RelV x v→Vals xs us→r x xs H Q→
  wpAny (model X.prog X.w) X.A (call (.builtin id) (v::us)) (EP X pins σ Q) X.xe s
section
variable{X:Cx}{a b:Expr}{ta tb:TE}{pos:Pos}
theorem IxR.or{r r':R2}(h:IxR X r)(h':IxR X r'):IxR X (fun x y H Q=>r x y H Q∨r' x y H Q):=by
 intro value slice pins s σ H x y v u Q I rx ry q hs;rcases q with q |q
 ·exact h value slice pins s σ H x y v u Q I rx ry q hs
 ·exact h' value slice pins s σ H x y v u Q I rx ry q hs
theorem pe_ix{r:R2}(hr:IxR X r)(ha:PE X a ta)(hb:PE X b tb)(hs:n0m b):PE X (.Subscript a b pos) (tOp r ta tb):=by
 intro pins s σ H Q I h;exact Subscript_ (binT ha hb I h fun v u s2 x y H2 I2 rx ry q=>hr a b pins s2 σ H2 x y v u Q I2 rx ry q (hs _ _))
noncomputable def rIxL(K:PySem.W.Frag):R2:=fun x y H Q=>∃p xs i v,x=.ref p∧y=.int i∧SqL K H p xs∧atI xs i=some v∧Q v H
noncomputable def rIxT(K:PySem.W.Frag):R2:=fun x y H Q=>∃p xs i v,x=.ref p∧y=.int i∧SqT K H p xs∧atI xs i=some v∧Q v H
noncomputable def rIxS:R2:=fun x y H Q=>∃z i c,x=.str z∧y=.int i∧z.length≤sizeLine∧atI z.cps.toList i=some c∧Q (.str ⟨#[c]⟩) H
theorem ix_list:IxR X (rIxL X.K):=by
 intro value slice pins s σ H x y v u Q I rx ry h hs;obtain ⟨p,xs,i,z,rfl,rfl,hq,he,q⟩:=h;cases rx;obtain ⟨t,rfl⟩:=ry;obtain ⟨its,r,pl,hz⟩:=I.list hq;obtain ⟨j,h1,h2,h3,h4,h5⟩:=n0n he;obtain ⟨w,ew,rw'⟩:=r.get h2;have hl:=r.length;have hn:=l0w;have fin:EP X pins σ Q w s:=⟨z,H,I,rw',q⟩;by_cases h0:0≤i
 ·have hj:i.toNat=j:=by
   rw[seqIndex_of h0 h5]at h1;exact Option.some.inj h1
  exact item_listR pl.isList h0 (by omega) (by rw[hj];simpa using ew) fin hs
 ·have hj:(i+(its.toArray.size:Int)).toNat=j:=by
   rw[seqIndex_neg (by omega) h4]at h1;rw[List.size_toArray,← hl];exact Option.some.inj h1
  exact subscriptTail_builtinR (x:=w) pl.isList.typeIs slot_list_getitem.lookup
   (wpAny_getItem_list_neg (Q:=fun r s'=>r=w∧EP X pins σ Q r s') pl.isList (by omega) (by rw[List.size_toArray]<;>omega) (by omega) (by rw[hj];simpa using ew) ⟨rfl,fin⟩) hs
theorem ix_tup:IxR X (rIxT X.K):=by
 intro value slice pins s σ H x y v u Q I rx ry h hs;obtain ⟨p,xs,i,z,rfl,rfl,hq,he,q⟩:=h;cases rx;obtain ⟨t,rfl⟩:=ry;obtain ⟨its,r,pl,hz⟩:=I.tuple hq;obtain ⟨j,h1,h2,h3,h4,h5⟩:=n0n he;obtain ⟨w,ew,rw'⟩:=r.get h2;have hl:=r.length;have hn:=l0w;have fin:EP X pins σ Q w s:=⟨z,H,I,rw',q⟩;exact subscriptTail_builtinR (x:=w) pl.typeIs slot_tuple_getitem.lookup
  (getItem_tuple (j:=j) (Q:=fun r s'=>r=w∧EP X pins σ Q r s') pl (by omega) (by omega) (by rw[List.size_toArray,← hl];exact h1) (by simpa using ew) ⟨rfl,fin⟩) hs
theorem ix_str:IxR X rIxS:=by
 intro value slice pins s σ H x y v u Q I rx ry h hs;obtain ⟨z,i,c,rfl,rfl,hz,he,q⟩:=h;obtain ⟨t,rfl⟩:=rx;obtain ⟨t',rfl⟩:=ry;obtain ⟨j,h1,h2,h3,h4,h5⟩:=n0n he;have hl:z.cps.toList.length=z.length:=by simp[Str.length]
 rw[hl]at h1 h4 h5;have hn:=l0w;exact tail_any (typeIs_str s z t) slot_str_getitem.lookup (getItem_str (c:=c) (by
  have e1:decide (i< -(2^63:Int))=false:=decide_eq_false (by omega);have e2:decide (i≥2^63)=false:=decide_eq_false (by omega);rw[e1,e2,Bool.or_false]) (by rw[h1];simpa using h2) ⟨.str ⟨#[c]⟩,H,I.tok _,⟨_,rfl⟩,q⟩) hs
noncomputable def rIx(K:PySem.W.Frag):R2:=fun x y H Q=>rIxL K x y H Q∨rIxT K x y H Q∨rIxS x y H Q
theorem l0t:IxR X (rIx X.K):=ix_list.or (ix_tup.or ix_str)
theorem p0k(lo hi:Option Int)(n:Nat):(sliceBounds lo hi none n).1=((HT.sIx n 0 lo:Nat):Int)∧(sliceBounds lo hi none n).2.1=((HT.sIx n n hi:Nat):Int)∧(sliceBounds lo hi none n).2.2=1:=by
 refine ⟨?_,?_,rfl⟩
 ·cases lo with
  |none=>simp[sliceBounds,HT.sIx]
  |some i=>
   simp only[sliceBounds,HT.sIx,Option.getD_none,show (1:Int)>0 by decide,if_true];by_cases h:i<0
   ·simp only[h,if_true]<;>omega
   ·simp only[h,if_false]<;>omega
 ·cases hi with
  |none=>simp[sliceBounds,HT.sIx]
  |some i=>
   simp only[sliceBounds,HT.sIx,Option.getD_none,show (1:Int)>0 by decide,if_true];by_cases h:i<0
   ·simp only[h,if_true]<;>omega
   ·simp only[h,if_false]<;>omega
theorem r0c(its:List Value)(lo hi:Option Int):slicePick its.toArray lo hi none=((its.drop (HT.sIx its.length 0 lo)).take (HT.sIx its.length its.length hi-HT.sIx its.length 0 lo)).toArray:=by
 obtain ⟨h1,h2,h3⟩:=p0k lo hi its.toArray.size;unfold slicePick;rw[h1,h2,h3];simp only[sliceRange_one,pick_run,List.size_toArray]<;>rfl
noncomputable def rSlL(K:PySem.W.Frag):V→Option Int→Option Int→Hp→VK→Prop:=fun x lo hi H Q=>∃a xs,x=.ref a∧SqL K H a xs∧∀p,H p=none→Q (.ref p) (upd H p (.lst (cutV xs lo hi)))
theorem b0k:SlR X (rSlL X.K):=by
 intro pins s σ H x v vl vu lo hi sl Q I rx hs pl pu h;obtain ⟨a,xs,rfl,hx,q⟩:=h;cases rx;obtain ⟨its,r,ht,hz⟩:=I.list hx;have hlen:=r.length;refine ⟨"list",_,slot_list_getitem.lookup,ht.isList.typeIs,?_⟩;refine wpAny_getItem_list_slice ht.isList hs pl pu .none (by simp) ?_ (by rw[List.size_toArray]<;>omega);rw[r0c,← hlen];refine ⟨.ref s.heap.objs.size,_,I.laid (t':=s.toks) (o:=.lst (cutV xs lo hi)) (fun b ob q=>Heap.get?_push_of_some _ q) (Nat.le_refl _) ?_,rfl,q _ (I.hok.fresh (Nat.le_refl _))⟩;exact ⟨Nat.le_trans (t0v xs lo hi) hz,_,0,(r.drop (HT.sIx xs.length 0 lo)).take (HT.sIx xs.length xs.length hi-HT.sIx xs.length 0 lo),Heap.get?_push_size _ rfl⟩
noncomputable def l9:V→Bool
 | .non=>true
 | .bl _=>true
 | .int _=>true
 | .str _=>true
 |_=>false
noncomputable def eqV:V→V→Bool
 | .non,.non=>true
 | .bl a,.bl b=>a==b
 | .bl a,.int b=>(if a then 1 else 0)==b
 | .int a,.bl b=>a==(if b then 1 else 0)
 | .int a,.int b=>a==b
 | .str a,.str b=>a==b
 |_,_=>false
theorem i0x{A:Around}{s:Shared}{y x:V}{u v:Value}(ry:RelV y u)(rx:RelV x v)(fy:l9 y=true)(fx:l9 x=true):SeqAt.EqAt A s u v (eqV y x):=by
 cases y with
 |non=>
  cases ry;cases x with
  |non=>cases rx;exact SeqAt.EqAt.same _
  |bl b=>cases rx;exact SeqAt.EqAt.none_bool b
  |int b=>obtain ⟨t,rfl⟩:=rx;exact SeqAt.EqAt.none_int b t
  |str b=>obtain ⟨t,rfl⟩:=rx;exact SeqAt.EqAt.none_str b t
  |_=>exact absurd (show false=true from fx) Bool.false_ne_true
 |bl a=>
  cases ry;cases x with
  |non=>cases rx;exact SeqAt.EqAt.bool_none a
  |bl b=>cases rx;exact SeqAt.EqAt.bool_bool a b
  |int b=>obtain ⟨t,rfl⟩:=rx;exact SeqAt.EqAt.bool_int a b t
  |str b=>obtain ⟨t,rfl⟩:=rx;exact SeqAt.EqAt.bool_str a b t
  |_=>exact absurd (show false=true from fx) Bool.false_ne_true
 |int a=>
  obtain ⟨t',rfl⟩:=ry;cases x with
  |non=>cases rx;exact SeqAt.EqAt.int_none a t'
  |bl b=>cases rx;exact SeqAt.EqAt.int_bool a t' b
  |int b=>obtain ⟨t,rfl⟩:=rx;exact SeqAt.EqAt.int_int a t' b t
  |str b=>obtain ⟨t,rfl⟩:=rx;exact SeqAt.EqAt.int_str a t' b t
  |_=>exact absurd (show false=true from fx) Bool.false_ne_true
 |str a=>
  obtain ⟨t',rfl⟩:=ry;cases x with
  |non=>cases rx;exact SeqAt.EqAt.str_none a t'
  |bl b=>cases rx;exact SeqAt.EqAt.str_bool a t' b
  |int b=>obtain ⟨t,rfl⟩:=rx;exact SeqAt.EqAt.str_int a t' b t
  |str b=>obtain ⟨t,rfl⟩:=rx;exact SeqAt.EqAt.str_str a t' b t
  |_=>exact absurd (show false=true from fx) Bool.false_ne_true
 |_=>exact absurd (show false=true from fy) Bool.false_ne_true
noncomputable def eqU(x:V)(u:Value):Bool:=match u with
 | .none=>eqV .non x
 | .bool b=>eqV (.bl b) x
 | .int i _=>eqV (.int i) x
 | .str z _=>eqV (.str z) x
 |_=>false
theorem d0f{x y:V}{u:Value}(r:RelV y u)(f:l9 y=true):eqU x u=eqV y x:=by
 cases y with
 |non=>cases r;rfl
 |bl b=>cases r;rfl
 |int i=>obtain ⟨t,rfl⟩:=r;rfl
 |str z=>obtain ⟨t,rfl⟩:=r;rfl
 |_=>exact absurd (show false=true from f) Bool.false_ne_true
theorem l0s{A:Around}{s:Shared}{x:V}{v:Value}(rx:RelV x v)(fx:l9 x=true):∀{xs:List V} {us:List Value},Vals xs us→xs.all l9=true→∀u∈us,SeqAt.EqAt A s u v (eqU x u)
 |_,_,.nil,_=>fun u hu=>by cases hu
 |y::xs,u::us,.cons r t,f=>fun u' hu=>by
  rw[List.all_cons,Bool.and_eq_true]at f;rcases List.mem_cons.mp hu with rfl |hu
  ·rw[d0f r f.1];exact i0x r rx f.1 fx
  ·exact l0s rx fx t f.2 u' hu
theorem q9:w0h X (.builtin "len") (fun xs H Q=>∃p ys,xs=[.ref p]∧(SqL X.K H p ys∨SqT X.K H p ys)∧Q (.int ys.length) H):=by
 intro pins s σ H xs us Q I r h;obtain ⟨p,ys,rfl,hq,q⟩:=h;obtain ⟨u,rfl,rx⟩:=n0p r;cases rx;have hn:=l0w;rcases hq with hq |hq
 ·obtain ⟨its,r',pl,hz⟩:=I.list hq;have hlen:=r'.length;exact Calls.call_len_list pl.isList (by simp only[List.size_toArray]<;>omega) ⟨.int ys.length,H,I.tok _,⟨s.toks+1,by rw[List.size_toArray,hlen]⟩,q⟩
 ·obtain ⟨its,r',pl,hz⟩:=I.tuple hq;have hlen:=r'.length;exact len_tuple pl (by simp only[List.size_toArray]<;>omega) ⟨.int ys.length,H,I.tok _,⟨s.toks+1,by rw[List.size_toArray,hlen]⟩,q⟩
theorem y0r:w0h X (.type "list") (fun xs H Q=>∃p ys,xs=[.ref p]∧(SqL X.K H p ys∨SqT X.K H p ys)∧∀l,H l=none→Q (.ref l) (upd H l (.lst ys))):=by
 intro pins s σ H xs us Q I r h;obtain ⟨p,ys,rfl,hq,q⟩:=h;obtain ⟨u,rfl,rx⟩:=n0p r;cases rx;have fin:∀(its:List Value),Vals ys its→ys.length≤sizeLine→∀(h':Heap) (c':Nat),(∀b o',s.heap.get? b=some o'→h'.get? b=some o')→
  h'.get? s.heap.objs.size=some {cls:=.type "list",dict:=none,data:=.seq its.toArray c',slots:=#[]}→EP X pins σ Q (.ref s.heap.objs.size) {s with heap:=h'}:=fun its r' hz h' c' kp e=>
  ⟨.ref s.heap.objs.size,_,I.laid (t':=s.toks) kp (Nat.le_refl _) (show ObjOk X.prog X.w _ h' _ (.lst ys)from ⟨hz,its,c',r',e⟩),rfl,q _ (I.hok.fresh (Nat.le_refl _))⟩
 rcases hq with hq |hq
 ·obtain ⟨its,r',pl,hz⟩:=I.list hq;have hlen:=r'.length;obtain ⟨o,ho,hc,n,hd⟩:=pl.isList;exact call_list_seq p (.inl rfl) ho hc hd (fun h' c' kp e=>fin its r' hz h' c' kp e) (by simp only[List.size_toArray]<;>omega)
 ·obtain ⟨its,r',pl,hz⟩:=I.tuple hq;have hlen:=r'.length;obtain ⟨o,ho,hc,n,hd⟩:=pl;exact call_list_seq p (.inr rfl) ho hc hd (fun h' c' kp e=>fin its r' hz h' c' kp e) (by simp only[List.size_toArray]<;>omega)
theorem i8:w0h X (.type "tuple") (fun xs H Q=>∃p ys,xs=[.ref p]∧((SqL X.K H p ys∧∀l,H l=none→Q (.ref l) (upd H l (.tup ys)))∨(SqT X.K H p ys∧Q (.ref p) H))):=by
 intro pins s σ H xs us Q I r h;obtain ⟨p,ys,rfl,h⟩:=h;obtain ⟨u,rfl,rx⟩:=n0p r;cases rx;rcases h with ⟨hq,q⟩|⟨hq,q⟩
 ·obtain ⟨its,r',pl,hz⟩:=I.list hq;have hlen:=r'.length;refine call_tuple_list pl.isList (fun h' kp=>?_) (by simp only[List.size_toArray]<;>omega);have I1:Inv X pins σ H {s with heap:=h'}:=I.kept (t':=s.toks) kp;have I2:Inv X pins σ (upd H h'.objs.size (.tup ys)) {s with heap:=h'.push {cls:=.type "tuple",data:=.seq its.toArray}}:=
   I1.laid (t':=s.toks) (fun b o e=>Heap.get?_push_of_some _ e) (Nat.le_refl _) (show ObjOk X.prog X.w _ _ _ (.tup ys)from ⟨hz,its,r',TupD.new _ _⟩)
  exact ⟨.ref h'.objs.size,_,I2,rfl,q _ (I1.hok.fresh (Nat.le_refl _))⟩
 ·obtain ⟨its,r',pl,hz⟩:=I.tuple hq;exact call_tuple_same pl ⟨.ref p,H,I,rfl,q⟩
noncomputable def tyV(K:PySem.W.Frag)(T:String)(x:V)(H:Hp):Prop:=match x with
 | .str _=>T="str"
 | .int _=>T="int"
 | .ref p=>(T="list"∧∃xs,SqL K H p xs)∨(T="tuple"∧∃o,K.lookup p=some o∧o.cls=.type "tuple"∧o.dict=none)∨
  (T="dict"∧((∃kvs,H p=some (.dK kvs))∨∃kvs,H p=some (.dT kvs)))∨(T="set"∧∃S n,H p=some (.set S n))∨(T="tuple"∧∃xs,H p=some (.tup xs))
 |_=>False
theorem d0e{pins:List (Addr×Obj)}{σ:St}{H:Hp}{s:Shared}{T:String}{x:V}{v:Value}(I:Inv X pins σ H s)(r:RelV x v)(ty:tyV X.K T x H):
 s.TypeIs v T∧∀a,v=.ref a→∃ob,s.heap.get? a=some ob∧ob.dict=none:=by
 cases x with
 |str z=>
  obtain ⟨t,rfl⟩:=r;cases (show T="str" from ty);exact ⟨typeIs_str s z t,fun _ e=>nomatch e⟩
 |int i=>
  obtain ⟨t,rfl⟩:=r;cases (show T="int" from ty);exact ⟨typeIs_int s i t,fun _ e=>nomatch e⟩
 |ref p=>
  cases r;rcases ty with ⟨rfl,xs,hq⟩|⟨rfl,o,hk,hc,hd⟩|⟨rfl,hk⟩|⟨rfl,S,n,hk⟩|⟨rfl,xs,hk⟩
  ·obtain ⟨its,_,pl,_⟩:=I.list hq;refine ⟨pl.isList.typeIs,fun a e=>?_⟩;cases e;obtain ⟨o,n,e,c,hd,_⟩:=pl;exact ⟨o,e,hd⟩
  ·refine ⟨⟨o,I.kIn p o hk,hc⟩,fun a e=>?_⟩;cases e;exact ⟨o,I.kIn _ o hk,hd⟩
  ·have z:∃o,s.heap.get? p=some o∧o.ExactDict:=by
    rcases hk with ⟨kvs,hk⟩|⟨kvs,hk⟩
    ·obtain ⟨_,_,_,_,o,_,_,e,ex,_⟩:=I.hok p _ hk;exact ⟨o,e,ex⟩
    ·obtain ⟨_,_,_,_,o,_,_,e,ex,_⟩:=I.hok p _ hk;exact ⟨o,e,ex⟩
   obtain ⟨o,e,ex⟩:=z;refine ⟨⟨o,e,ex.1⟩,fun a e2=>?_⟩;cases e2;exact ⟨o,e,ex.2.1⟩
  ·obtain ⟨o,_,_,_,e,ex,_⟩:=I.hok p _ hk;refine ⟨⟨o,e,ex.1⟩,fun a e2=>?_⟩;cases e2;exact ⟨o,e,ex.2.1⟩
  ·obtain ⟨_,its,_,o,e,c,_,hd⟩:=I.hok p _ hk;refine ⟨⟨o,e,c⟩,fun a e2=>?_⟩;cases e2;exact ⟨o,e,hd⟩
 |_=>exact False.elim ty
noncomputable def tBM0(K:PySem.W.Frag)(T:String)(r:V→List V→Hp→VK→Prop)(to:TE):TE:=fun σ H Q=>to σ H fun x H1=>tyV K T x H1∧r x [] H1 Q
noncomputable def tBM(K:PySem.W.Frag)(T:String)(r:V→List V→Hp→VK→Prop)(to:TE)(t:TA):TE:=fun σ H Q=>to σ H fun x H1=>tyV K T x H1∧t σ H1 fun xs H2=>r x xs H2 Q
variable{o e:Expr}{es:List Expr}{to:TE}{t:TA}{name:Str}{apos cpos:Pos}{T id:String}{r:V→List V→Hp→VK→Prop}
theorem pe_bm0(pa:PlainAttrs T)(slot:Slot T name id)(hty:typeOf (.builtin id)=pure (.type "method_descriptor"))(hm:MtR X id r)(ho:PE X o to)
 (hbase:attributeBase o name X.env (eval o X.env)=eval o X.env:=by rfl) (hline:(apos.endLine==cpos.line)=true:=by rfl):PE X (.Call (.Attribute o name apos) [] [] cpos) (tBM0 X.K T r to):=by
 intro pins s σ H Q I h;refine wpAny_Call_method0_late hbase hline (thn (ho pins s σ H _ I h) fun v s1 ⟨x,H1,I1,r1,ty,q1⟩=>?_);obtain ⟨h1,h2⟩:=d0e I1 r1 ty;exact ⟨T,id,pa,slot,hty,h1,h2,Calls.callWith_builtin rfl (PySem.evalArgs_none (hm pins s1 σ H1 x [] v [] Q I1 r1 .nil q1))⟩
theorem pe_bm(pa:PlainAttrs T)(slot:Slot T name id)(hty:typeOf (.builtin id)=pure (.type "method_descriptor"))(hm:MtR X id r)(ho:PE X o to)(ha:PA X (e::es) t)
 (hbase:attributeBase o name X.env (eval o X.env)=eval o X.env:=by rfl)
 (hfew:((backTo cpos (starEach (e::es) X.env)).all (fun x=>!x.1)&&(backToKw cpos (keywordEach [] X.env)).all (fun x=>x.1.isSome)
  &&decide ((e::es).length+([]:List Keyword).length+(if ([]:List Keyword).isEmpty then 0 else 1)<30))=true:=by rfl)
 (hline:(apos.endLine==cpos.line)=true:=by rfl) (hs:starEach (e::es) X.env=(false,eval e X.env)::starEach es X.env:=by rfl) (hplain:(backTo cpos (starEach es X.env)).any (·.1)=false:=by rfl):
 PE X (.Call (.Attribute o name apos) (e::es) [] cpos) (tBM X.K T r to t):=by
 intro pins s σ H Q I h;refine wpAny_Call_method_late hbase hfew hline rfl (thn (ho pins s σ H _ I h) fun v s1 ⟨x,H1,I1,r1,ty,q1⟩=>?_);obtain ⟨h1,h2⟩:=d0e I1 r1 ty;refine ⟨T,id,pa,slot,hty,h1,h2,?_⟩;have hA:=ha cpos pins s1 σ H1 _ I1 q1;rw[hs]at hA ⊢;refine Calls.callWith_builtin (by show (false||(backTo cpos (starEach es X.env)).any (·.1))=false;rw[hplain]<;>rfl) (Calls.evalArgs_plain ?_);exact thn hA fun us s2 ⟨vs,H2,I2,r2,q2⟩=>hm pins s2 σ H2 x vs v us Q I2 r1 r2 q2
end
end L2
namespace L2
open PySem PySem.Spec PyProof.Rows
noncomputable def MtM(X:Cx)(id:String)(r:V→List V→Hp→VK→Prop):Prop:=
 ∀(pins:List (Addr×Obj)) (s:Shared) (σ:St) (H:Hp) (x:V) (xs:List V) (v:Value) (us:List Value) (Q:VK),Inv X pins σ H s→RelV x v→Vals xs us→r x xs H Q→
  wpAny (model X.prog X.w) X.A (call (.builtin id) (v::us)) (EP X pins σ Q) X.xe s
theorem Vals.one:∀{x:V} {us:List Value},Vals [x] us→∃u,us=[u]∧RelV x u
 |_,_,.cons r .nil=>⟨_,rfl,r⟩
theorem Vals.two:∀{x y:V} {us:List Value},Vals [x,y] us→∃u v,us=[u,v]∧RelV x u∧RelV y v
 |_,_,_,.cons r (.cons q .nil)=>⟨_,_,rfl,r,q⟩
theorem Vals.zero:∀{us:List Value},Vals [] us→us=[]
 |_,.nil=>rfl
theorem Vals.dropLast{xs:List V}{us:List Value}(h:Vals xs us):Vals xs.dropLast us.dropLast:=by
 induction h with
 |nil=>exact .nil
 |cons r t ih=>
  cases t with
  |nil=>exact .nil
  |cons q t'=>exact .cons r ih
theorem Vals.rep{xs:List V}{us:List Value}(h:Vals xs us):∀k:Nat,Vals (List.replicate k xs).flatten (List.replicate k us).flatten
 | 0=>.nil
 |k+1=>by
  rw[List.replicate_succ,List.replicate_succ,List.flatten_cons,List.flatten_cons];exact Vals.append h (Vals.rep h k)
theorem k0e{α:Type}(l:List α):l.eraseIdx (l.length-1)=l.dropLast:=by
 induction l with
 |nil=>rfl
 |cons a r ih=>
  cases r with
  |nil=>rfl
  |cons b r=>
   have e:(a::b::r).length-1=((b::r).length-1)+1:=by
    have h1:(a::b::r).length=r.length+2:=rfl;have h2:(b::r).length=r.length+1:=rfl;omega
   rw[e,List.eraseIdx_cons_succ,ih]
   all_goals rfl
theorem p0j(its:List Value):∀(k:Nat) (acc:List Value),
 List.foldl (fun x1 x2=>x1++x2) acc.toArray (List.replicate k its.toArray)=(acc++(List.replicate k its).flatten).toArray
 | 0,acc=>by simp
 |k+1,acc=>by
  have e:acc.toArray++its.toArray=(acc++its).toArray:=by simp
  have e2:(acc++its)++(List.replicate k its).flatten=acc++(List.replicate (k+1) its).flatten:=by
   rw[List.replicate_succ,List.flatten_cons,List.append_assoc]
  rw[←e2,← p0j its k (acc++its),← e,List.replicate_succ,List.foldl_cons]
section
variable{X:Cx}{pins:List (Addr×Obj)}{σ:St}{H:Hp}{s:Shared}{l b:Addr}{xs ys zs:List V}
theorem Inv.lset{its its':List Value}{n:Nat}{f:Array Value→Array Value}{t':Nat}(I:Inv X pins σ H s)(hH:H l=some (.lst xs))
 (e:s.heap.get? l=some {cls:=.type "list",data:=.seq its.toArray n}) (hf:f its.toArray=its'.toArray) (hv:Vals ys its') (hz:ys.length≤sizeLine):
 Inv X pins σ (upd H l (.lst ys)) {s with heap:=s.heap.update l (Obj.mapSeq f),toks:=t'}:=by
 have q:=PySem.IsL.update e f;rw[hf]at q;refine I.write (x:=l) (e:=l) (by rw[hH];exact trivial) (.inl rfl) (fun b' u hb hu=>(Heap.get?_update_other s.heap (Obj.mapSeq f) (Ne.symm hb)).trans hu) ⟨_,q⟩ ?_;exact ⟨hz,its',_,hv,q⟩
theorem Inv.lnew{its:List Value}{t':Nat}(I:Inv X pins σ H s)(hv:Vals ys its)(hz:ys.length≤sizeLine):
 Inv X pins σ (upd H s.heap.objs.size (.lst ys)) {s with heap:=s.heap.push {cls:=.type "list",data:=.seq its.toArray},toks:=t'}:=
 I.laid (fun _ _ q=>Heap.get?_push_of_some _ q) (Nat.le_refl _) ⟨hz,its,0,hv,Heap.get?_push_size _ rfl⟩
theorem Inv.fresh(I:Inv X pins σ H s):H s.heap.objs.size=none:=I.hok.fresh (Nat.le_refl _)
theorem Inv.lstM(I:Inv X pins σ H s)(hH:H l=some (.lst xs)):xs.length≤sizeLine∧∃(its:List Value) (n:Nat),Vals xs its∧xs.length=its.length∧s.heap.get? l=some {cls:=.type "list",data:=.seq its.toArray n}:=by
 obtain ⟨z,its,n,r,e⟩:=I.hok l _ hH;exact ⟨z,its,n,r,r.length,e⟩
theorem f0m{n:Nat}(h:n≤sizeLine):Builtin.List.listTooLong n=false:=by
 unfold Builtin.List.listTooLong;exact decide_eq_false (by omega)
end
section
variable{X:Cx}
noncomputable def i0w:V→List V→Hp→VK→Prop:=fun x vs H Q=>∃l xs y,x=.ref l∧vs=[y]∧H l=some (.lst xs)∧xs.length<sizeLine∧Q .non (upd H l (.lst (xs++[y])))
theorem l5:MtM X "list.append" i0w:=by
 intro pins s σ H x vs v us Q I rx rv h;obtain ⟨l,xs,y,rfl,rfl,hH,hz,q⟩:=h;cases rx;obtain ⟨u,rfl,ru⟩:=rv.one;obtain ⟨z,its,n,r,hl,e⟩:=I.lstM hH;refine call_meets F.slot_list_append ⟨_,e,rfl⟩ F.entry_list_append (F.args_list_append_2 _ _) (PySem.list_append l its.toArray n u (by rw[List.size_toArray];omega)) ⟨e,?_⟩;refine ⟨.non,_,I.lset (its':=its++[u]) hH e (by simp) (r.append (.cons ru .nil)) ?_,rfl,q⟩;rw[List.length_append,List.length_singleton];omega
noncomputable def rPop:V→List V→Hp→VK→Prop:=fun x vs H Q=>∃l xs y,x=.ref l∧vs=[]∧H l=some (.lst xs)∧xs[xs.length-1]?=some y∧Q y (upd H l (.lst xs.dropLast))
theorem d0d:MtM X "list.pop" rPop:=by
 intro pins s σ H x vs v us Q I rx rv h;obtain ⟨l,xs,y,rfl,rfl,hH,hy,q⟩:=h;cases rx;have hus:=rv.zero;subst hus;obtain ⟨z,its,n,r,hl,e⟩:=I.lstM hH;obtain ⟨u,hu,ru⟩:=r.get hy;have hy':its.toArray[its.toArray.size-1]?=some u:=by
  show its.toArray[its.length-1]?=some u;rw[←Array.getElem?_toList,← hl];exact hu
 refine call_meets F.slot_list_pop ⟨_,e,rfl⟩ F.entry_list_pop (F.args_list_pop_1 _) (MeetsSeq.list_pop_last l its.toArray n u hy' (by rw[List.size_toArray];omega)) ⟨e,?_⟩;refine ⟨y,_,I.lset (its':=its.dropLast) hH e ?_ r.dropLast ?_,ru,q⟩
 ·show its.toArray.eraseIdxIfInBounds (its.toArray.size-1)=its.dropLast.toArray;rw[List.size_toArray,List.eraseIdxIfInBounds_toArray,k0e]
 ·rw[List.length_dropLast];omega
noncomputable def rCat:R2:=fun x y H Q=>∃l b xs zs,x=.ref l∧y=.ref b∧H l=some (.lst xs)∧H b=some (.lst zs)∧xs.length+zs.length≤sizeLine∧∀p,H p=none→Q (.ref p) (upd H p (.lst (xs++zs)))
theorem r0m:OpR X (binaryOp .Add) rCat:=by
 intro pins s σ H x y v u Q I rx ry h;obtain ⟨l,b,xs,zs,rfl,rfl,hH,hB,hz,q⟩:=h;cases rx;cases ry;obtain ⟨z,its,n,r,hl,e⟩:=I.lstM hH;obtain ⟨z2,its2,n2,r2,hl2,e2⟩:=I.lstM hB;refine PySem.P.add_list e e2 ?_ (by rw[List.size_toArray,List.size_toArray];omega);have ea:its.toArray++its2.toArray=(its++its2).toArray:=by simp
 rw[ea];exact ⟨.ref _,_,I.lnew (t':=s.toks) (r.append r2) (by rw[List.length_append];omega),rfl,q _ I.fresh⟩
noncomputable def rRep:R2:=fun x y H Q=>∃l k xs,x=.ref l∧y=.int k∧H l=some (.lst xs)∧-(2^63)≤k∧k<2^63∧xs.length*k.toNat≤sizeLine∧
 ∀p,H p=none→Q (.ref p) (upd H p (.lst (List.replicate k.toNat xs).flatten))
theorem b0j{α:Type}(xs:List α)(k:Nat):(List.replicate k xs).flatten.length=k*xs.length:=by
 induction k with
 |zero=>simp
 |succ k ih=>rw[List.replicate_succ,List.flatten_cons,List.length_append,ih,Nat.succ_mul,Nat.add_comm]
theorem i0v:OpR X (binaryOp .Mult) rRep:=by
 intro pins s σ H x y v u Q I rx ry h;obtain ⟨l,k,xs,rfl,rfl,hH,h1,h2,hz,q⟩:=h;cases rx;obtain ⟨t,rfl⟩:=ry;obtain ⟨z,its,n,r,hl,e⟩:=I.lstM hH;have hlen:its.toArray.size*k.toNat≤sizeLine:=by rw[List.size_toArray,← hl];exact hz
 have hcap:¬its.toArray.size*k.toNat>(2^63-1)/8:=by
  have:(sizeLine:Nat)≤(2^63-1)/8:=by decide
  omega
 have hfit:¬(!Builtin.List.listFitsIndex k)=true:=by
  rw[fitsIndex_both h1 h2];exact Bool.false_ne_true
 have hlong:¬Builtin.List.listTooLong (its.toArray.size*k.toNat)=true:=by
  rw[f0m hlen];exact Bool.false_ne_true
 have hnew:List.foldl (fun x1 x2=>x1++x2) #[] (List.replicate (if its.toArray.isEmpty=true then 0 else k.toNat) its.toArray)=(List.replicate k.toNat its).flatten.toArray:=by
  have f0:∀m:Nat,List.foldl (fun x1 x2=>x1++x2) #[] (List.replicate m its.toArray)=(List.replicate m its).flatten.toArray:=fun m=>by
   have:=p0j its m [];rw[List.nil_append]at this;exact this
  rw[f0];cases its with
  |nil=>simp
  |cons a r'=>rw[if_neg (by simp)]
 refine wpAny_binaryOp_repeat_ref (T:="list") (U:="int") (by decide) ⟨_,e,rfl⟩ (fun s'=>typeIs_int s' k t) noFill_list_mul F.fills_int_mul F.slot_int_rmul repeat_list F.slot_int_index.lookup
  (call_meets F.slot_int_rmul (typeIs_int s k t) F.entry_int_rmul (F.args_int_rmul_2 _ _) (int___rmul___int_list k t l its.toArray n)
   ⟨e,rfl,⟨_,e,rfl⟩,call_meets F.slot_list_mul ⟨_,e,rfl⟩ F.entry_list_mul (F.args_list_mul_2 _ _) (AutoListH.list___mul___list_int_3 l its.toArray n k t hfit hcap hlong) ⟨e,?_⟩⟩)
 rw[hnew];exact ⟨.ref _,_,I.lnew (t':=s.toks) (r.rep k.toNat) (by rw[b0j,Nat.mul_comm];exact hz),rfl,q _ I.fresh⟩
end
section
variable{prog:Program}{w:World}{A:Around}{E:Value→Shared→Prop}{s:Shared}
set_option maxRecDepth 100000 in
end
section
variable{X:Cx}
end
end L2
namespace Att
open PySem PySem.W PySem.Calls PyProof.Rows
theorem t0t{P:Params}{h:Heap}:∀(ns:List Int) (vs:List Value),WellAll P h vs (ns.map WData.int)→IntsAre vs ns:=by
 intro ns
 induction ns with
 |nil=>
  intro vs w;rw[List.map_nil]at w;cases w;exact .nil
 |cons n ns ih=>
  intro vs w;rw[List.map_cons]at w;cases w with
  |cons a b=>
   cases a;exact .cons _ _ (ih _ b)
theorem i0u{l:OpenLaw}{n:Nat}(hn:l.most=some n){P:Params}{h:Heap}{args:List WData}{vals:List Value}
 (hpre:l.row.toRowW.claim.pre args=true) (hwl:WellAll P h vals args):
 ∃a vs ns,vals=[Value.ref a]∧args=[WData.list (ns.map WData.int)]∧h.get? a=some {cls:=.type "list",data:=.seq vs.toArray}∧IntsAre vs ns∧ns.length≤n:=by
 have hsh:WShape.hasAll [] args [.list .int]=true:=(pre_splitW hpre).1;have hc:l.pre.holds [] {args:=args}=true:=(pre_splitW hpre).2;obtain ⟨d,r,rfl,h1,h2⟩:=hasAllW_cons hsh;obtain rfl:=hasAllW_nil h2;obtain ⟨xs,rfl,h3⟩:=hasW_list h1;obtain ⟨ns,rfl⟩:=items_int h3;have hlen:ns.length≤n:=by
  unfold OpenLaw.pre at hc;have h4:(WTm.not (.lt (.lit (.int (n:Int))) (.len (.arg 0)))).holds [] {args:=[.list (ns.map .int)]}=true:=by
   have h4:=(holds_andW hc).1;rw[hn]at h4;exact h4
  have h5:=condW_of h4 (w_not (w_lt w_lit (w_len_list (w_arg rfl))));rw[List.length_map]at h5;refine Nat.le_of_not_lt fun q=>?_
  have q':(n:Int)<((ns.length:Nat):Int):=by omega
  first
   |(rw[decide_eq_true q']at h5;exact absurd h5 (by decide))
   |(simp at h5;omega)
 cases hwl with
 |cons w1 w2=>
  cases w2;cases w1 with
  |list ho hall=>exact ⟨_,_,ns,rfl,rfl,ho,t0t ns _ hall,hlen⟩
theorem i0t(l:OpenLaw)(args:List WData):l.row.toRowW.claim.post args (.bool true) args=true:=
 postW_of (r:=l.row.toRowW) (X:=(true==true))
  (show WShape.has [] (.bool true) .bool=true by first |rfl |decide |simp[WShape.has,WShape.arms,WShape.armsAll])
  (show (WTm.eq .res (.lit (.bool true))).value [] {args:=args,res:=some (.bool true),after:=args}=some (.bool (true==true))from w_eq_bool (w_res rfl) w_lit) rfl
theorem attach_call{l:OpenLaw}{n:Nat}{q:Program}{loose:List Str}{XP:(Str→Option Value)→Heap→Prop}{YP:World→Heap→Prop}{d:DefRec}
 (hn:l.most=some n) (hdf:d.params.defaults=[])
 (call:∀(w:World) (s₀ s₁:Shared) (mg mb:Str→Option Value) (fa:Addr) (o:Obj) (pm cd doc:Value) (a:Addr) (vs:List Value) (ns:List Int),
  Ground q loose [] XP w s₀ mg mb s₁.heap→YP w s₁.heap→
  s₁.heap.get? fa=some o→o.data=.func (docDef d.name d.params d.body d.scope pm cd doc)→s₁.heap.CodeRec cd d.name→mg d.name=some (.ref fa)→
  s₁.heap.get? a=some {cls:=.type "list",data:=.seq vs.toArray}→IntsAre vs ns→ns.length≤n→s₁.gens=#[]→
  codeAny (model l.prog w) callerA (.call (.ref fa) ⟨[.ref a],[]⟩) (fun r s'=>r=.ok (.ret (.bool true))∧OldK s₁.heap s'.heap∧s'.os=s₁.os∧AllBare s'.gens) s₁):
 WalkO q loose XP YP l.row.toRowW d [] (fun f vs=>PySem.call f vs):=by
 intro w s₀ s₁ mg mb G Y fa o pm cd doc dV kV ho hd hcd hD hmg hg args vals as hpre hlay hrd hwl hlo;obtain rfl:dV=.none:=Dflts.none hD hdf;obtain rfl:kV=.none:=Dflts.noKw hD;obtain ⟨a,vs,ns,rfl,rfl,hobj,hints,hlen⟩:=i0u hn hpre hwl;refine enter_call (codeAny_mono (call w s₀ s₁ mg mb fa o pm cd doc a vs ns G Y ho (fd_plain hd) hcd hmg hobj hints hlen hg) fun r s' hq=>?_);obtain ⟨rfl,h2,h3,h4⟩:=hq;exact ⟨.inl ⟨.bool true,.bool true,[],rfl,fun _=>rfl,.bool true,i0t l _,fun _=>⟨List.Pairwise.nil,fun _ hm=>(nomatch hm)⟩⟩,h2,h3,h4⟩
section
variable{prog:Program}{w:World}{A:Around}{E:Value→Shared→Prop}{s:Shared}{K:Frag}
noncomputable def ledger(h:Heap)(L d:Addr):List (Addr×Obj):=(List.range h.objs.size).filterMap fun a=>if a=L∨a=d then none else (h.get? a).map fun o=>(a,o)
end
end Att
namespace L2
open PySem PySem.Spec PyProof.Rows
theorem p0i:∀{vs:List Value} {ns:List Int},IntsAre vs ns→Vals (ns.map V.int) vs
 |_,_,.nil=>.nil
 |_,_,.cons n t h=>.cons ⟨t,rfl⟩ (p0i h)
noncomputable def Only(H:Hp):Prop:=∀b,H b=none∨∃o xs,H b=some (.frz o (.lst xs))
theorem f0l{P:Program}{w:World}{K:PySem.W.Frag}{mg mb:Str→Option Value}{CX:CXT}{k:Nat}{fa a:Addr}{fd:FuncData}{x:Str}{sp:Sp}{s₁:Shared}{vs:List Value}{ns:List Int}
 (KX:K.In s₁.heap) (hns:s₁.heap.Ns mainGlobals mg) (hb:s₁.heap.Ns builtinsNs mb) (hbb:∀x:Str,x≠"__name__"→mb x=bootBuiltins x) (hlim:s₁.heap.NoLimit) (hg:s₁.gens=#[])
 (ha:s₁.heap.get? a=some {cls:=.type "list",data:=.seq vs.toArray}) (hi:IntsAre vs ns) (hl:ns.length≤sizeLine) (hr:Room k callerA)
 (F:∀base:Heap,K.In base→base.Ns mainGlobals mg→FnOk P w K mg base CX k fa fd [x] sp) (hbind:∀(s:Shared) (u:Value),BindsTo s fd ⟨[u],[]⟩ [(x,u)])
 (hsp:∀H:Hp,Only H→SqL K H a (ns.map V.int)→sp [.ref a] H (fun v _=>v=.bl true) fun _ _ _=>False)
 (hCX:∀H e s',CX [] H s₁ (fun _ _ _=>False) e s'→False):
 codeAny (model P w) callerA (.call (.ref fa) ⟨[.ref a],[]⟩) (fun r s'=>r=.ok (.ret (.bool true))∧OldK s₁.heap s'.heap∧s'.os=s₁.os∧AllBare s'.gens) s₁:=by
 have rv:=p0i hi;have lenV:=hi.length;have core:∀H:Hp,Only H→SqL K H a (ns.map V.int)→HOk P w H s₁.heap→(∀b,H b≠none→b=a)→(H a≠none→K.lookup a=none)→
  codeAny (model P w) callerA (.call (.ref fa) ⟨[.ref a],[]⟩) (fun r s'=>r=.ok (.ret (.bool true))∧OldK s₁.heap s'.heap∧s'.os=s₁.os∧AllBare s'.gens) s₁:=by
  intro H hO hS hok hA hK;have base_of:∀{b:Addr} {o:Obj},s₁.heap.get? b=some o→H b=none→(hidT s₁.heap H).get? b=some o:=fun e n=>f0w e n
  have noA:∀{b:Addr} {o:Obj} {es:Array DictEntry} {ep:Nat},s₁.heap.get? b=some o→o.data=.dict es ep→H b=none:=fun {b o es ep} e d=>by
   cases q:H b with
   |none=>rfl
   |some u=>
    have e':b=a:=hA b (by rw[q];simp);subst e';rw[ha]at e;cases e;have d':Data.seq vs.toArray _=Data.dict es ep:=d;cases d'
  have nsK:∀{b:Addr} {m:Str→Option Value},s₁.heap.Ns b m→(hidT s₁.heap H).Ns b m:=fun {b m} ⟨o,es,ep,e,d,r⟩=>⟨o,es,ep,base_of e (noA e d),d,r⟩
  have hKb:K.In (hidT s₁.heap H):=fun b o e=>base_of (KX b o e) (by
   cases q:H b with
   |none=>rfl
   |some u=>
    have e':b=a:=hA b (by rw[q];simp);subst e';rw[hK (by rw[q];simp)]at e;cases e)
  have hM:Mod K mg (hidT s₁.heap H):=⟨hKb,nsK hns,⟨mb,nsK hb,hbb⟩,let ⟨mc,h1,h2⟩:=hlim;⟨mc,nsK h1,h2⟩⟩;have e0:Env0 P w K mg (hidT s₁.heap H) callerA [] s₁ H:=⟨rfl,hM,fun b o e=>c0f e,Nat.le_of_eq (j0l _ _),trivial,fun b hb=>absurd (show b∈([]:List Addr)from hb) (by simp),hok,.of_eq hg⟩;refine codeAny_mono ((F _ hKb (nsK hns)).run callerA [] s₁ H ⟨[.ref a],[]⟩ [.ref a] [.ref a] _ _ hr e0 (hbind s₁ (.ref a)) (.cons rfl .nil) (hsp H hO hS)) fun r s' h=>?_
  cases r with
  |error e=>exact (hCX H e s' h).elim
  |ok fl=>
   cases fl with
   |next=>exact False.elim h
   |brk=>exact False.elim h
   |cont=>exact False.elim h
   |ret u=>
    obtain ⟨v,H',os,bare,un,hok',r',q⟩:=h;have q':v=.bl true:=q;subst q';obtain rfl:u=Value.bool true:=r';refine ⟨rfl,OldK.of_keep fun b o e=>?_,os,bare⟩;cases q:H b with
    |none=>exact un.keep b o e q (by intro z;exact absurd (show b∈([]:List Addr)from z) (by simp)) (by simp)
    |some u=>
     rcases hO b with z |⟨ob,xs,z⟩
     ·rw[q]at z;cases z
     ·have z2:=un.frzs b ob _ z;obtain ⟨e1,_⟩:=hok b _ z;obtain ⟨e2,_⟩:=hok' b _ z2;rw[e]at e1;cases e1;exact e2
 cases hk:K.lookup a with
 |some o=>
  have e:=KX a o hk;rw[ha]at e;cases e;refine core (fun _=>none) (fun _=>.inl rfl) (.inr ⟨_,vs.toArray,_,hk,rfl,rfl,rfl,by rw[List.size_toArray,lenV];exact hl,by simpa using rv⟩) (fun b u z=>by have z':(none:Option HO)=some u:=z;cases z') (fun b z=>absurd rfl z) fun z=>absurd rfl z
 |none=>
  refine core (fun b=>if b=a then some (.frz {cls:=.type "list",data:=.seq vs.toArray} (.lst (ns.map V.int)))else none) (fun b=>?_) (.inl (.inr ⟨{cls:=.type "list",data:=.seq vs.toArray},if_pos rfl⟩)) (fun b u z=>?_) (fun b z=>?_) fun _=>hk
  ·by_cases hb:b=a
   ·exact .inr ⟨_,_,if_pos hb⟩
   ·exact .inl (if_neg hb)
  ·by_cases hb:b=a
   ·have z':=(if_pos hb).symm.trans z;cases z';subst hb;exact ⟨ha,by rw[List.length_map];exact hl,vs,_,rv,ha⟩
   ·have z':=(if_neg hb).symm.trans z;cases z'
  ·by_cases hb:b=a
   ·exact hb
   ·exact absurd (if_neg hb) z
end L2
namespace L2
open PySem PySem.Spec PyProof.Rows
noncomputable abbrev KOf{K:PySem.W.Frag}{h:Heap}(_:K.In h):PySem.W.Frag:=K
theorem walk_of{l:PySem.W.OpenLaw}{n k:Nat}{q:Program}{loose:List Str}{XP:(Str→Option Value)→Heap→Prop}{YP:World→Heap→Prop}{d:DefRec}{K:Params→PySem.W.Frag}{CX:World→CXT}{sp:World→Sp}{x:Str}
 (hn:l.most=some n) (hn2:n≤sizeLine) (hdf:d.params.defaults=[]) (hr:Room k callerA)
 (hY:∀(w:World) (h:Heap),YP w h→(K w.params).In h)
 (F:∀(w:World) (mg:Str→Option Value) (fa:Addr) (h:Heap),(K w.params).In h→h.Ns mainGlobals mg→mg d.name=some (.ref fa)→
  ∃fd:FuncData,(∀(s:Shared) (u:Value),BindsTo s fd ⟨[u],[]⟩ [(x,u)])∧
   ∀base:Heap,(K w.params).In base→base.Ns mainGlobals mg→FnOk l.prog w (K w.params) mg base (CX w) k fa fd [x] (sp w))
 (hsp:∀(w:World) (H:Hp) (a:Addr) (ns:List Int),ns.length≤n→Only H→SqL (K w.params) H a (ns.map V.int)→sp w [.ref a] H (fun v _=>v=.bl true) fun _ _ _=>False)
 (hCX:∀(w:World) (H:Hp) (s:Shared) (e:Value) (s':Shared),CX w [] H s (fun _ _ _=>False) e s'→False):
 PySem.W.WalkO q loose XP YP l.row.toRowW d [] (fun f vs=>PySem.call f vs):=by
 refine Att.attach_call hn hdf fun w s₀ s₁ mg mb fa o pm cd doc a vs ns G Y ho hd hcd hmg hobj hints hlen hg=>?_
 have KX:=hY w _ Y;obtain ⟨fd,hb,hF⟩:=F w mg fa _ KX G.T.g hmg;exact f0l KX G.T.g G.T.b G.T.builtins G.T.nolimit hg hobj hints (Nat.le_trans hlen hn2) hr hF hb (fun H hO hS=>hsp w H a ns hlen hO hS) fun H e s'=>hCX w H s₁ e s'
end L2
namespace L2
open PySem PySem.Spec PyProof.Rows
noncomputable def inClass(s:Stmt)(j:Nat):Stmt:=match s with
 | .ClassDef _ _ _ body _ _ _ _ _ _ _=>body.getD j (.Pass ⟨0,0,0,0⟩)
 |_=>.Pass ⟨0,0,0,0⟩
noncomputable def defArgs(s:Stmt):Arguments:=match s with
 | .FunctionDef _ a _ _ _ _ _ _ _ _=>a
 |_=>{posonlyargs:=[],args:=[],vararg:=none,kwonlyargs:=[],kw_defaults:=[],kwarg:=none,defaults:=[]}
noncomputable def defBody(s:Stmt):List Stmt:=match s with
 | .FunctionDef _ _ b _ _ _ _ _ _ _=>b
 |_=>[]
noncomputable def defScope(s:Stmt):Scope:=match s with
 | .FunctionDef _ _ _ _ _ _ sc _ _ _=>sc
 |_=>{kind:=.function,names:=[],isGenerator:=false,isCoroutine:=false}
noncomputable abbrev CX0:CXT:=fun _ _ _ _ _ _=>False
noncomputable abbrev E0:XK:=fun _ _ _=>False
theorem pass0{X:Cx}:d0g CX0 X E0:=fun _ _ _ _ _ _ _ h=>h.elim
structure Fun(K:PySem.W.Frag)(x qual:Str)(st:Stmt)(f:Addr)(fd:FuncData):Prop where
 ex:∃(oc:Value) (od:Option Addr) (kV doc pm:Value) (an:Option Addr) (cdv ct:Value) (osl:Array (Option Value)),
  fd=PySem.W.fnOf x qual (defArgs st) (defBody st) (defScope st) .none kV doc pm an cdv ct∧K.lookup f=some ⟨oc,od,.func fd,osl⟩∧PySem.W.codeIn K cdv qual=true
 kp:PySem.W.keepIn K (.ref f)=true
section
variable{P:Program}{w:World}{K:PySem.W.Frag}{mg:Str→Option Value}{base:Heap}
theorem Fun.ok{x qual:Str}{st:Stmt}{f:Addr}{fd:FuncData}{N ps:List Str}{k:Nat}{sp:Sp}(F:Fun K x qual st f fd)(S:FnScope N ps (defScope st))(len:∀vs H Q E,sp vs H Q E→vs.length=ps.length)
 (hbody:∀(cdv:Value) (A:Around) (outer:List Env) (s:Shared) (H:Hp) (vs:List V) (Q:VK) (E:XK),Room k (A.deeper (envOfC qual (defScope st) s.heap.objs.size f cdv))→sp vs H Q E→
  ∃t,PSs (cxOf CX0 P w K mg base N qual (defScope st) f cdv A outer s H E).nox (defBody st) t∧t {nx:=fun _ H'=>Q .non H',rt:=Q} (start N vs) H):FnOk P w K mg base CX0 (k+1) f fd ps sp:=by
 obtain ⟨oc,od,kV,doc,pm,an,cdv,ct,osl,rfl,lk,hcd⟩:=F.ex;refine fn_of lk hcd S len fun A outer s H vs Q E hr hsp=>?_
 obtain ⟨t,h,q⟩:=hbody cdv A outer s H vs Q E hr hsp;exact ⟨t,h.nox,q⟩
theorem Fun.binds{x qual:Str}{st:Stmt}{f:Addr}{fd:FuncData}{ps:List Str}(F:Fun K x qual st f fd)
 (h:∀(kV doc pm:Value) (an:Option Addr) (cdv ct:Value) (us:List Value),us.length=ps.length→bindArgs (PySem.W.fnOf x qual (defArgs st) (defBody st) (defScope st) .none kV doc pm an cdv ct) ⟨us,[]⟩=pure (ps.zip us)):Binds K fd ps []:=by
 obtain ⟨oc,od,kV,doc,pm,an,cdv,ct,osl,rfl,lk,hcd⟩:=F.ex;exact .all (h kV doc pm an cdv ct)
end
section
variable{X:Cx}
theorem pv(i:Nat){x:Str}{pos:Pos}(hN:X.N[i]?=some x:=by rfl)(hv:Vis X.env.scope x:=by walk_at "v3")(hd:(x==("__debug__":Str))=false:=by decide)
 (hcd:(x==("__classdict__":Str))=false:=by decide):PE X (.Name x pos) (tVar i):=t0z hN hv hd hcd
end
noncomputable def Same(H H':Hp):Prop:=∀b o,H b=some o→H' b=some o
theorem Same.refl(H:Hp):Same H H:=fun _ _ h=>h
theorem Same.trans{H H1 H2:Hp}(a:Same H H1)(b:Same H1 H2):Same H H2:=fun c o h=>b c o (a c o h)
theorem Same.free{H H':Hp}(e:Same H H'){l:Addr}(h:H' l=Option.none):H l=Option.none:=by
 cases q:H l with
 |none=>rfl
 |some o=>
  rw[e l o q]at h;cases h
end L2
set_option maxRecDepth 20000
namespace L2
open PySem PySem.Spec PyProof.Rows
section
variable{κ:Type}[DecidableEq κ]
end
section
variable{P:Program}{w:World}{H:Hp}{h:Heap}{a:Addr}
end
section
variable{X:Cx}{pins:List (Addr×Obj)}{σ:St}{H:Hp}{s:Shared}{a:Addr}{y v:V}{u r:Value}{o:Option V}{A:Around}{E:Value→Shared→Prop}
theorem Inv.big(I:Inv X pins σ H s):sysModules<s.heap.objs.size:=by
 have h:mainGlobals<s.heap.objs.size:=(I.mod.glob.keeps I.bk).lt;exact Nat.lt_trans (by decide) h
end
section
variable{X:Cx}{pins:List (Addr×Obj)}{σ:St}{H:Hp}{s:Shared}{a:Addr}{kvs:List (Key×V)}{k:Key}{u:Value}{A:Around}{E:Value→Shared→Prop}
end
section
variable{X:Cx}{o i e value:Expr}{pos pos' tpos:Pos}{td ty tv:TE}
end
theorem f0k{P:Program}{w:World}{H:Hp}(h:Heap)(hb:sysModules<h.objs.size):ObjOk P w H (h.push {cls:=.type "dict",data:=.dict #[]}) h.objs.size (.dK []):=
 ⟨Nat.zero_le _,beq_eq_false_iff_ne.mpr (Ne.symm (Nat.ne_of_lt hb)),[],.nil,Heap.DictOf.new h⟩
noncomputable def tDNewK:TE:=fun _ H Q=>∀p,H p=none→Q (.ref p) (upd H p (.dK []))
section
variable{X:Cx}{pos:Pos}
theorem f0j:PE X (.Dict [] [] pos) tDNewK:=fun pins s σ H Q I h=>
 wpAny_Dict_empty ⟨.ref s.heap.objs.size,_,I.laid (a:=s.heap.objs.size) (o:=.dK []) (t':=s.toks) (fun _ _ q=>Heap.get?_push_of_some _ q) (Nat.le_refl _) (f0k s.heap I.big),rfl,h _ (I.hok.fresh (Nat.le_refl _))⟩
end
structure M1(X:Cx)(o:Expr)(m:Str)(apos:Pos)(e:Expr)(cpos:Pos):Prop where
 base:attributeBase o m X.env (eval o X.env)=eval o X.env
 few:((backTo cpos (starEach [e] X.env)).all (fun x=>!x.1)&&(backToKw cpos (keywordEach [] X.env)).all (fun x=>x.1.isSome)
  &&decide (([e]:List Expr).length+([]:List Keyword).length+(if ([]:List Keyword).isEmpty then 0 else 1)<30))=true
 line:(apos.endLine==cpos.line)=true
 trees:backTo cpos (starEach [e] X.env)=[(false,eval e X.env)]
structure M2(X:Cx)(o:Expr)(m:Str)(apos:Pos)(e f:Expr)(cpos:Pos):Prop where
 base:attributeBase o m X.env (eval o X.env)=eval o X.env
 few:((backTo cpos (starEach [e,f] X.env)).all (fun x=>!x.1)&&(backToKw cpos (keywordEach [] X.env)).all (fun x=>x.1.isSome)
  &&decide (([e,f]:List Expr).length+([]:List Keyword).length+(if ([]:List Keyword).isEmpty then 0 else 1)<30))=true
 line:(apos.endLine==cpos.line)=true
 trees:backTo cpos (starEach [e,f] X.env)=[(false,eval e X.env),(false,eval f X.env)]
section
variable{X:Cx}{pins:List (Addr×Obj)}{σ:St}{H:Hp}{s:Shared}{a:Addr}{y d:V}{u r:Value}{o:Option V}{A:Around}{E:Value→Shared→Prop}
end
section
variable{X:Cx}{o e f:Expr}{apos cpos:Pos}{td ty tx:TE}
end
section
variable{X:Cx}{pins:List (Addr×Obj)}{σ:St}{H:Hp}{s:Shared}{a:Addr}{kvs:List (Key×V)}{A:Around}{E:Value→Shared→Prop}
end
section
variable{X:Cx}{pins:List (Addr×Obj)}{σ:St}{H:Hp}{s:Shared}{a:Addr}{y:V}{u:Value}{A:Around}{E:Value→Shared→Prop}
end
end L2
set_option maxHeartbeats 4000000
namespace PySem.W
open PySem PySem.Calls PyProof.Rows Builtin Builtin.ObjectAttr Builtin.Getset_descriptor
section
variable{prog:Program}{w:World}{A:Around}{E:Value→Shared→Prop}{R:Result→Shared→Prop}{h:Heap}{g:Array GenState}{d:Drawn}{t:Nat}{os:OsState}
variable{nm q:Str}{C N:Addr}{bs bm bmB:List Value}{hdct:Bool}{sn:List Str}{sub:List Value}{ab:Bool}{col:Option Bool}{dd:Option Addr}{k0 k1 k2 k3 k5:Option Value}{B newId initId:String}
noncomputable abbrev xObj(C t:Addr):Obj:={cls:=.ref C,data:=.fields #[.ref t,.none,.none,.none,.bool false,.none]}
noncomputable abbrev xTup(rest:List Value):Obj:={cls:=.type "tuple",data:=.seq rest.toArray}
theorem type_call_x(F:ExcBaseFacts B newId initId bmB)(T:OwnTail h bmB bm){rest:List Value}{f:Addr}
 (hC:h.get? C=some (excClassObj nm q C N bs bm hdct sn sub ab col dd k0 k1 k2 k3 k5 newId))
 (hi:Looks (model prog w) h (typeLookup (.ref C) "__init__") (some (.ref f))) (hb:∀self,Looks (model prog w) h (bindSpecial (.ref f) self) (.ref f,[self]))
 (hq:codeAny (model prog w) (A.under (.builtin "type.__call__" ⟨.ref C::rest,[]⟩)) (.call (.ref f) ⟨.ref (h.objs.size+1)::rest,[]⟩) (InitBack (h.objs.size+1) R) ⟨(h.push (xTup rest)).push (xObj C h.objs.size),g,d,t,os⟩)
 (hrest:rest.length≤sizeLine):
 codeAny (model prog w) A (.call (.ref C) ⟨rest,[]⟩) R ⟨h,g,d,t,os⟩:=by
 have f1:=tc_lookup;have f2:=tc_bind (.ref C);have hT:(⟨h,g,d,t,os⟩:Shared).TypeIs (.ref C) "type":=⟨_,hC,rfl⟩;refine codeAny_of_tree ?_;show wpAny _ _ (callAny (.ref C) _) _ _ _
 repeat (any_goals (first |assumption |with_reducible refine wpAny_loadPart_at hC ?_ |wp_step))
 refine ⟨rfl,?_⟩;refine codeAny_call_builtin_at (Code.quiet_builtin _ (by decide +kernel)) entry_typeCall (wpAny_check_type_call_sub hC ?_)
 repeat (first |with_reducible refine wpAny_loadPart_at hC ?_ |with_reducible refine wpAny_madeBy_exc hC ?_ |wp_step)
 refine codeAny_call_builtin_code (Code.quiet_builtin _ F.quiet) (wpAny_check_new_subT F T hC ?_);refine codeAny_exc_new_subT F T hC ?_ hrest;show wpAny _ _ _ _ _ _;have k:∀b o,h.get? b=some o→((h.push (xTup rest)).push (xObj C h.objs.size)).get? b=some o:=fun b o e=>Heap.get?_push_of_some _ (Heap.get?_push_of_some _ e)
 have hC₁:=k _ _ hC;have hget:((h.push (xTup rest)).push (xObj C h.objs.size)).get? (h.objs.size+1)=some (xObj C h.objs.size):=by heap_get
 have hcC:(Value.ref C::bm).contains (.ref C)=true:=by simp
 have i1:=hi.keeps k;have b1:=(hb (.ref (h.objs.size+1))).keeps k;unfold isInstance
 repeat (first |with_reducible refine wpAny_loadPart_at hget ?_ |(with_reducible refine wpAny_isSubtype_exc hC₁ ?_;rw[hcC])|wp_step)
 refine wpAny_isSubtype_exc hC₁ ?_;rw[hcC];have t1:Looks (model prog w) ((h.push (xTup rest)).push (xObj C h.objs.size)) (typeOf (.ref (h.objs.size+1))) (.ref C):=(Looks.ld hget).andThen .now;unfold callSpecial? specialOf;simp only[Bool.not_true,Bool.false_eq_true,if_false];refine wpAny_bind (wpAny_holding (wpAny_bind (wpAny_bind (t1.at (i1.at ?_)))));dsimp only;refine wpAny_holding (wpAny_bind (b1.at (wpAny_bind (wpAny_call (codeAny_mono hq fun r s' z=>?_)))));rcases r with e |(v |_ |_ |_)<;>first |exact z |exact z.elim |skip
 obtain ⟨rfl,z⟩:=z;exact wpAny_pure (wpAny_pure z)
theorem type_call_x0(F:ExcBaseFacts B newId initId bmB)(T:OwnTail h bmB bm){mN:Str→Option Value}{Q:Value→Shared→Prop}
 (hC:h.get? C=some (excClassObj nm q C N bs bm hdct sn sub ab col dd k0 k1 k2 k3 k5 newId)) (hn:h.Ns N mN) (hni:mN "__init__"=none)
 (hq:∀h' t2,(∀b o,h.get? b=some o→h'.get? b=some o)→h'.get? (h.objs.size+1)=some (xObj C t2)→Q (.ref (h.objs.size+1)) ⟨h',g,d,t,os⟩):
 wpAny (model prog w) A (call (.ref C) []) Q E ⟨h,g,d,t,os⟩:=by
 have f1:=tc_lookup;have f2:=tc_bind (.ref C);have hT:(⟨h,g,d,t,os⟩:Shared).TypeIs (.ref C) "type":=⟨_,hC,rfl⟩;refine wpAny_call (codeAny_of_tree ?_);show wpAny _ _ (callAny (.ref C) _) _ _ _
 repeat (any_goals (first |assumption |with_reducible refine wpAny_loadPart_at hC ?_ |wp_step))
 refine ⟨rfl,?_⟩;refine codeAny_call_builtin_at (Code.quiet_builtin _ (by decide +kernel)) entry_typeCall (wpAny_check_type_call_sub hC ?_)
 repeat (first |with_reducible refine wpAny_loadPart_at hC ?_ |with_reducible refine wpAny_madeBy_exc hC ?_ |wp_step)
 refine codeAny_call_builtin_code (Code.quiet_builtin _ F.quiet) (wpAny_check_new_subT F T hC ?_);refine codeAny_exc_new_subT F T hC ?_ (by decide);show wpAny _ _ _ _ _ _;have k:∀b o,h.get? b=some o→((h.push (xTup [])).push (xObj C h.objs.size)).get? b=some o:=fun b o e=>Heap.get?_push_of_some _ (Heap.get?_push_of_some _ e)
 have hC₁:=k _ _ hC;have hn₁:((h.push (xTup [])).push (xObj C h.objs.size)).Ns N mN:=let ⟨o,es,ep,e,r⟩:=hn;⟨o,es,ep,k _ _ e,r⟩
 have hget:((h.push (xTup [])).push (xObj C h.objs.size)).get? (h.objs.size+1)=some (xObj C h.objs.size):=by heap_get
 have hcC:(Value.ref C::bm).contains (.ref C)=true:=by simp
 have T₁:=T.keeps k;unfold isInstance
 repeat (first |with_reducible refine wpAny_loadPart_at hget ?_ |(with_reducible refine wpAny_isSubtype_exc hC₁ ?_;rw[hcC])|wp_step)
 refine wpAny_isSubtype_exc hC₁ ?_;rw[hcC];have t1:Looks (model prog w) ((h.push (xTup [])).push (xObj C h.objs.size)) (typeOf (.ref (h.objs.size+1))) (.ref C):=(Looks.ld hget).andThen .now;unfold callSpecial? specialOf;simp only[Bool.not_true,Bool.false_eq_true,if_false];refine wpAny_bind (wpAny_holding (wpAny_bind (wpAny_bind (t1.at (wpAny_typeLookup_tail hC₁ hn₁ T₁ F.mroIs F.init.lookup ?_)))));rw[hni];dsimp only;refine wpAny_holding (wpAny_bind (wpAny_of_eq (F.init.bind _) ?_));refine wpAny_bind (wpAny_call (codeAny_call_builtin F.init.plain F.initEntry (wpAny_check_init_subT F T₁ hC₁ hget rfl ?_)))
 wp_walk
 refine hq _ (h.objs.size+2) (fun b o hb=>?_) ?_
 ·rw[Heap.get?_update_other _ _ (Nat.ne_of_gt (Nat.lt_succ_of_lt (Heap.lt_size hb)))];exact Heap.get?_push_of_some _ (k b o hb)
 ·rw[Heap.get?_update_self _ (Heap.get?_push_of_some _ hget) rfl];simp only[Heap.size_push];rfl
end
end PySem.W
namespace PySem.W
open PySem PySem.Calls PyProof.Rows Builtin Builtin.ObjectAttr Builtin.Getset_descriptor
noncomputable abbrev veMro:List Value:=[.type "ValueError",.type "Exception",.type "BaseException",.type "object"]
noncomputable def l0r:List Value→Bool
 | .ref _::r=>l0r r
 |l=>l==veMro
theorem p0h(self:Value):∀{l:List Value},l0r l=true→refuseLoop self "__setattr__" l=pure ()
 | .ref c::r,e=>by rw[refuseLoop_ref];exact p0h self (l:=r) e
 | [],e=>by cases e
 | .type n::r,e=>by
  have e':(Value.type n::r)=veMro:=beq_iff_eq.mp e;rw[e'];exact PySem.F.store_ValueError.passes self
 | .none::r,e=>by cases (beq_iff_eq.mp e:(Value.none::r)=veMro)
 | .bool _::r,e=>by cases (beq_iff_eq.mp e:(Value.bool _::r)=veMro)
 | .int _ _::r,e=>by cases (beq_iff_eq.mp e:(Value.int _ _::r)=veMro)
 | .str _ _::r,e=>by cases (beq_iff_eq.mp e:(Value.str _ _::r)=veMro)
 | .bytes _ _::r,e=>by cases (beq_iff_eq.mp e:(Value.bytes _ _::r)=veMro)
 | .float _ _::r,e=>by cases (beq_iff_eq.mp e:(Value.float _ _::r)=veMro)
 | .builtin _::r,e=>by cases (beq_iff_eq.mp e:(Value.builtin _::r)=veMro)
 | .notImplemented::r,e=>by cases (beq_iff_eq.mp e:(Value.notImplemented::r)=veMro)
 | .ellipsis::r,e=>by cases (beq_iff_eq.mp e:(Value.ellipsis::r)=veMro)
theorem d0c:∀{l:List Value} {b:Value},l0r l=true→veMro.contains b=true→l.contains b=true
 | .ref c::r,b,e,q=>by rw[List.contains_cons,d0c (l:=r) e q,Bool.or_true]
 | [],b,e,q=>by cases e
 | .type n::r,b,e,q=>by rw[(beq_iff_eq.mp e:(Value.type n::r)=veMro)];exact q
 | .none::r,_,e,_=>by cases (beq_iff_eq.mp e:(Value.none::r)=veMro)
 | .bool _::r,_,e,_=>by cases (beq_iff_eq.mp e:(Value.bool _::r)=veMro)
 | .int _ _::r,_,e,_=>by cases (beq_iff_eq.mp e:(Value.int _ _::r)=veMro)
 | .str _ _::r,_,e,_=>by cases (beq_iff_eq.mp e:(Value.str _ _::r)=veMro)
 | .bytes _ _::r,_,e,_=>by cases (beq_iff_eq.mp e:(Value.bytes _ _::r)=veMro)
 | .float _ _::r,_,e,_=>by cases (beq_iff_eq.mp e:(Value.float _ _::r)=veMro)
 | .builtin _::r,_,e,_=>by cases (beq_iff_eq.mp e:(Value.builtin _::r)=veMro)
 | .notImplemented::r,_,e,_=>by cases (beq_iff_eq.mp e:(Value.notImplemented::r)=veMro)
 | .ellipsis::r,_,e,_=>by cases (beq_iff_eq.mp e:(Value.ellipsis::r)=veMro)
structure XC(K:Frag)(C:Addr):Prop where
 over:(clsIn K C).any (fun cd=>l0r cd.mro)=true
 sa:findIn K (.ref C) "__setattr__"=some (some (.builtin "object.__setattr__"))
 ga:findIn K (.ref C) "__getattribute__"=some (some (.builtin "BaseException.__getattribute__"))
 gh:findIn K (.ref C) "__getattr__"=some none
 hd:hasDictIn K C=true
 ca:findIn K (.ref C) "__class__"=some (some (.builtin "object.__class__"))
 cg:specialIn K (.builtin "object.__class__") "__get__"=some (some (.builtin "getset_descriptor.__get__"))
 ct:takesIn K (.builtin "object.__class__")=some true
section
variable{prog:Program}{w:World}{A:Around}{E:Value→Shared→Prop}{K:Frag}{C x:Addr}{s:Shared}{R:Result→Shared→Prop}
theorem XC.mro(c:XC K C){b:Value}(hb:veMro.contains b=true):mroIn K C b=some true:=by
 obtain ⟨cd,hc,ho⟩:=any_some c.over;have ne:cd.mro.isEmpty=false:=by cases q:cd.mro with |nil=>rw[q]at ho;cases ho |cons _ _=>rfl
 unfold mroIn;rw[hc,Option.bind_some,if_neg (by rw[ne];decide),d0c ho hb]
theorem osa_x{ox:Obj}{od:Option Obj}{name:Str}{tk:Tok}{v:Value}{r:Option Value}(X:K.In s.heap)(I:InstAt s.heap x ox C od)(c:XC K C)(ht:takerIn K C name=some r)
 (h:∀b,wpAny (model prog w) A.in1 (match r with |some a=>setByDescriptor a (.ref x) v |none=>storeInOwnDict (.ref x) (.ref C) (.str name tk) name v b)
  (fun fin s'=>match fin with | .done f=>R (.ok f) s' | .again c'=>c'.quiet=true∧codeAny (model prog w) A c' R s') (fun e s'=>R (.error e) s') s):
 codeAny (model prog w) A (.call (.builtin "object.__setattr__") ⟨[.ref x,.str name tk,v],[]⟩) R s:=by
 have SF:=PySem.F.store_object;obtain ⟨cd,hc,ho⟩:=any_some c.over;have sub:Looks (model prog w) s.heap (isInstance (.ref x) (.type "object")) true:=I.type.andThen (looks_mroIn X (c.mro (by decide)));refine codeAny_call_builtin SF.slot.plain SF.entry (@check_slot (model prog w) _ _ s "object.__setattr__" "object" "__setattr__" (.ref x) [.str name tk,v] [] _ SF.kind SF.split sub (SF.args (.ref x) (.str name tk) v) ?_);obtain ⟨attr,ha,hr⟩:=Option.bind_eq_some_iff.mp ht;have hm:Looks (model prog w) s.heap (mroOf (.ref C)) cd.mro:=(looks_clsIn X hc).andThen .now;have L3:Looks (model prog w) s.heap (storeTaker? attr) r:=by
  cases attr with
  |none=>cases hr;exact .now
  |some a=>
   obtain ⟨b,hb,rfl⟩:=Option.map_eq_some_iff.mp hr;refine (looks_takesIn X hb).andThen ?_;cases b<;>exact .now
 rw[osa_eq,refuse_eq];refine wpAny_bind (wpAny_bind (I.type.here (wpAny_bind (hm.here ?_))));rw[p0h _ ho];refine wpAny_pure (wpAny_bind (I.type.here (wpAny_bind ((looks_findIn X ha).here (wpAny_bind (L3.here ?_))))));exact h _
theorem set_x0{name:Str}{v:Value}{Q:Unit→Shared→Prop}{vs:Array Value}(X:K.In s.heap)(c:XC K C)(hx:s.heap.get? x=some ⟨.ref C,none,.fields vs,#[]⟩)(ht:takerIn K C name=some none)
 (h:∀h',h'.get? x=some ⟨.ref C,some s.heap.objs.size,.fields vs,#[]⟩→h'.Ns1 s.heap.objs.size (fun y=>if y=name then some v else none)→
  (∀b o,b≠x→s.heap.get? b=some o→h'.get? b=some o)→Q () {s with heap:=h',toks:=s.toks+2}):
 wpAny (model prog w) A (setAttr (.ref x) name v) Q E s:=by
 have J:InstAt s.heap x ⟨.ref C,none,.fields vs,#[]⟩ C none:=⟨hx,rfl,rfl,trivial⟩;refine set_plain X J c.sa (osa_x (s:={s with toks:=s.toks+1}) (r:=none) X J c ht fun b=>?_);obtain ⟨cd,hc,hd'⟩:=any_some c.hd;obtain ⟨hp,g,d,t,os⟩:=s;refine wpAny_bind (wpAny_pure (wpAny_bind (wpAny_bind (wpAny_loadPart hx (wpAny_bind (Looks.here (s:=⟨hp,g,d,t+1,os⟩) (looks_clsIn X hc) ?_))))));rw[hd'];have hx₁:(hp.push {cls:=.type "dict",data:=.dict #[]}).get? x=some ⟨.ref C,none,.fields vs,#[]⟩:=Heap.get?_push_of_some _ hx;have hxs:x≠hp.objs.size:=Nat.ne_of_lt (Heap.lt_size hx);show wpAny _ _ (alloc {cls:=.type "dict",data:=.dict #[]} >>= fun d=>update x (fun o=>{cls:=o.cls,dict:=some d,data:=o.data,slots:=o.slots}) >>= fun _=>dictMade (.ref C) x d) _ _ _;refine wpAny_bind (wpAny_alloc' ?_);refine wpAny_bind (wpAny_update' hx₁ ?_);refine wpAny_pure ?_;have hgd:((hp.push {cls:=.type "dict",data:=.dict #[]}).update x fun o=>{cls:=o.cls,dict:=some hp.objs.size,data:=o.data,slots:=o.slots}).get? hp.objs.size
  =some {cls:=.type "dict",data:=.dict #[]}:=
  (Heap.get?_update_ne _ _ _ _ hxs.symm).trans (Heap.get?_push_at rfl rfl)
 have hnd:((hp.push {cls:=.type "dict",data:=.dict #[]}).update x fun o=>{cls:=o.cls,dict:=some hp.objs.size,data:=o.data,slots:=o.slots}).Ns hp.objs.size (fun _=>none):=
  ⟨_,#[],_,hgd,rfl,fun e he=>absurd he (by simp),fun _=>rfl⟩
 show wpAny _ _ (storeInDict hp.objs.size (.str name t) name v) _ _ _;unfold storeInDict newKeyGuard;refine wpAny_bind (wpAny_pure (wpAny_bind (wpAny_nsSet1 (Heap.Ns1.of_empty hnd) fun h' hn' hs=>?_)));obtain ⟨oD,esD,epD,hoD,hdD,hcD⟩:=hn'.count (Within.cons name v Within.nil);refine wpAny_bind (wpAny_lookBehind hoD (by rw[hdD];exact pastItsLine_dict (Nat.le_trans hcD (by rw[List.length_cons,List.length_nil,sizeLine_eq];omega))) ?_);refine wpAny_pure (h h' ?_ hn' fun b o hb e=>?_)
 ·refine (hs.2 x hxs).trans (Heap.get?_update_self _ hx₁ rfl)
 ·exact (hs.2 b (Nat.ne_of_lt (Heap.lt_size e))).trans ((Heap.get?_update_ne _ _ _ _ hb).trans (Heap.get?_push_of_some _ e))
theorem set_x1{name:Str}{v:Value}{Q:Unit→Shared→Prop}{vs:Array Value}{dx:Addr}{mA:Str→Option Value}{ns:List Str}(X:K.In s.heap)(c:XC K C)(hx:s.heap.get? x=some ⟨.ref C,some dx,.fields vs,#[]⟩)(hne:dx≠x)
 (hn:s.heap.Ns1 dx mA) (ht:takerIn K C name=some none) (hw:PySem.Within mA ns) (hsz:ns.length<sizeLine)
 (h:∀h',h'.Ns1 dx (fun y=>if y=name then some v else mA y)→Heap.SameBut dx s.heap h'→Q () {s with heap:=h',toks:=s.toks+2}):
 wpAny (model prog w) A (setAttr (.ref x) name v) Q E s:=by
 obtain ⟨od,ho,hl⟩:=L2.lookIn_ns hn;have J:InstAt s.heap x ⟨.ref C,some dx,.fields vs,#[]⟩ C (some od):=⟨hx,rfl,rfl,ho⟩;refine set_plain X J c.sa (osa_x (s:={s with toks:=s.toks+1}) (r:=none) X J c ht fun b=>?_);obtain ⟨cd,hc,hd'⟩:=any_some c.hd;refine wpAny_bind (wpAny_pure (wpAny_bind (wpAny_bind (wpAny_loadPart hx (wpAny_bind (Looks.here (s:={s with toks:=s.toks+1}) (looks_clsIn X hc) ?_))))));rw[hd'];refine wpAny_pure (a:=some dx) (wpAny_bind (wpAny_pure (wpAny_bind ?_)));refine wpAny_nsSet1 (s:={s with toks:=s.toks+1}) hn fun h' hn2 hs2=>?_
 obtain ⟨oD,esD,epD,hoD,hdD,hcD⟩:=hn2.count (PySem.Within.cons name v hw);refine wpAny_bind (wpAny_lookBehind hoD (by rw[hdD];exact pastItsLine_dict (Nat.le_trans hcD (by rw[List.length_cons];omega))) ?_);exact wpAny_pure (h _ hn2 hs2)
theorem f0i:builtinKind "BaseException.__getattribute__"=some .slot:=by decide +kernel
theorem i0s:splitId "BaseException.__getattribute__"=some ("BaseException","__getattribute__"):=by decide +kernel
theorem bga_slot:Slot "ValueError" "__getattribute__" "BaseException.__getattribute__":=
 .of (owner:="BaseException") (n:="__getattribute__") (by rw[typeLookup_type,builtinLookup_eq_fast];kernel_rfl) (by decide +kernel) (by decide +kernel) (by decide +kernel)
  (by first |exact .inl (by decide +kernel)|exact .inr (by decide +kernel)) (by rw[isSubtype_type];kernel_rfl)
theorem b0i{ox:Obj}{od:Option Obj}{name:Str}{fill expr:Bool}{r:Found}{t:Tok}{Q:Value→Shared→Prop}(X:K.In s.heap)(I:InstAt s.heap x ox C od)(c:XC K C)
 (hf:findObj K C od name=some r)
 (h:wpAny (model prog w) A.in1 (match r with | .value v=>ret v | .bind g a=>bindTo g a (.ref x) (.ref C)| .missing=>unsupported "") (fun fin s'=>∃v,fin=.done (.ret v)∧wpAny (model prog w) A (handedOut v) Q E s') (fun _ _=>False) s)
 (hr:r≠.missing):wpAny (model prog w) A (getAttrBy (.ref x) (.str name t) fill expr) Q E s:=by
 obtain ⟨hp,g,d,tk,os⟩:=s;have L0:=I.type (M:=model prog w);have L1:=looks_findIn (M:=model prog w) X c.ga;have LG:=looks_findIn (M:=model prog w) X c.gh;have L2:=looks_find (M:=model prog w) X I hf;have hx0:(expr&&onTheHeap (Value.builtin "BaseException.__getattribute__"))=false:=by cases expr<;>rfl
 have hx2:(Value.builtin "BaseException.__getattribute__"==Value.builtin "object.__getattribute__")=false:=by decide +kernel
 have hx1:(onTheHeap (Value.ref C)&&Value.builtin "BaseException.__getattribute__"==Value.builtin "object.__getattribute__")=false:=by rw[hx2];rfl
 have sub:Looks (model prog w) hp (isInstance (.ref x) (.type "BaseException")) true:=I.type.andThen (looks_mroIn X (c.mro (by decide)));have hbnd:=bga_slot.bind (.ref x);unfold getAttrBy;refine wpAny_holding (wpAny_bind (L0.at (wpAny_bind (L1.at ?_))));dsimp only;rw[if_neg (by rw[hx1];decide)];unfold getAttrByItsOwn hookBefore;rw[if_pos (show onTheHeap (Value.ref C)=true from rfl)];refine wpAny_bind (LG.at (wpAny_bind (wpAny_attempt (wpAny_holding ?_))));unfold callGetattribute;rw[if_neg (by rw[hx0];decide)];unfold boundAndCalled;rw[hbnd];refine wpAny_bind (wpAny_pure ?_);refine wpAny_call (codeAny_call_builtin bga_slot.plain F.entry_bexc_ga (@check_slot (model prog w) _ _ ⟨hp,g,d,tk,os⟩ "BaseException.__getattribute__" "BaseException" "__getattribute__" (.ref x) [.str name t] [] _ f0i i0s sub (F.args_bexc_ga (.ref x) (.str name t)) ?_));refine wpAny_bind (wpAny_pure (wpAny_bind (wpAny_pure (wpAny_bind (L0.at (wpAny_bind (L2.at ?_)))))));cases r with
 |value v=>
  refine wpAny_mono h (fun fin s' z=>?_) fun _ _ z=>z.elim
  obtain ⟨v,rfl,z⟩:=z;exact z
 |bind g a=>
  refine wpAny_mono h (fun fin s' z=>?_) fun _ _ z=>z.elim
  obtain ⟨v,rfl,z⟩:=z;exact z
 |missing=>exact absurd rfl hr
theorem cls_x{ox:Obj}{od:Option Obj}{Q:Option Value→Shared→Prop}(X:K.In s.heap)(I:InstAt s.heap x ox C od)(c:XC K C)(h:Q (some (.ref C)) {s with toks:=s.toks+1}):
 wpAny (model prog w) A (getAttr? (.ref x) "__class__") Q E s:=by
 have hf:findObj K C od "__class__"=some (.bind (.builtin "getset_descriptor.__get__") (.builtin "object.__class__")):=by
  obtain ⟨cd,hc,_⟩:=any_some c.hd;unfold findObj;rw[hc,Option.bind_some,c.ca,Option.bind_some];show ((specialIn K (.builtin "object.__class__") "__get__").bind _)=_;rw[c.cg,Option.bind_some];show ((takesIn K (.builtin "object.__class__")).bind _)=_;rw[c.ct];rfl
 unfold getAttr? getAttrBy?;refine wpAny_bind (wpAny_mkText (wpAny_bind (wpAny_attempt (b0i (s:={s with toks:=s.toks+1}) X I c hf ?_ (fun q=>by cases q)))));show wpAny _ _ (holding [_] (call (.builtin "getset_descriptor.__get__") [.builtin "object.__class__",.ref x,.ref C]) >>= ret) _ _ _;refine wpAny_bind (wpAny_holding (wpAny_call (class_get (s:={s with toks:=s.toks+1}) X I (c.mro (by decide)) (wpAny_pure ⟨_,rfl,?_⟩))));exact handed_on rfl (wpAny_pure h)
theorem kitx_x{ox:Obj}{od:Option Obj}(c:XC K C):KitX K (.ref x) (.ref C) (fun h=>InstAt h x ox C od)where
 ty:=fun _ _ _ I=>I.type
 it:=fun _ _ X _=>by
  obtain ⟨cdD,hcD,_⟩:=any_some c.hd;unfold clsIn at hcD;split at hcD
  ·rename_i c' d' cd' sl' ho;intro A' Q' E' s' k q;unfold isType loadHead;exact wpAny_bind (wpAny_loadPart (k _ _ (X _ _ ho)) (wpAny_pure q))
  ·cases hcD
 ne:=fun h tp dd its n sl X htp=>by
  obtain ⟨cdD,hcD,_⟩:=any_some c.hd;refine Bool.eq_false_iff.mpr fun q=>?_
  have e:C=tp:=Value.ref.inj (beq_iff_eq.mp q);subst e;unfold clsIn at hcD;split at hcD
  ·rename_i c' d' cd' sl' ho;have z:=(X _ _ ho).symm.trans htp;cases z
  ·cases hcD
 ca:=fun X I k=>cls_x X I c k
end
end PySem.W
namespace L2
open PySem PySem.Spec PyProof.Rows
open PySem.W (XC)
noncomputable def XO(fr:Nat)(x C:Addr)(od:Option Addr):HO:=.ext fun h=>∃o vs,h.get? x=some o∧o.cls=.ref C∧o.dict=od∧o.data=.fields vs∧((fr=1→o.slots=#[]∧vs[1]?=some .none)∧(fr≠0→vs[2]?=some .none))
noncomputable def XD(dx:Addr)(fs:List (Str×V)):HO:=.ext fun h=>∃mA,h.Ns1 dx mA∧(∀f,RelO (fs.lookup f) (mA f))∧PySem.Within mA (fs.map (·.1))
theorem XO.ok{P:Program}{w:World}{H:Hp}{h:Heap}{fr:Nat}{x C:Addr}{od:Option Addr}(hx:∃o vs,h.get? x=some o∧o.cls=.ref C∧o.dict=od∧o.data=.fields vs∧((fr=1→o.slots=#[]∧vs[1]?=some .none)∧(fr≠0→vs[2]?=some .none))):ObjOk P w H h x (XO fr x C od):=by
 refine ⟨hx,?_,fun h1 h2 q k=>?_⟩
 ·obtain ⟨o,_,e,_⟩:=hx;exact ⟨o,e⟩
 ·obtain ⟨o,vs,e,r⟩:=q;exact ⟨o,vs,k o e,r⟩
theorem XD.ok{P:Program}{w:World}{H:Hp}{h:Heap}{dx:Addr}{fs:List (Str×V)}(hx:∃mA,h.Ns1 dx mA∧(∀f,RelO (fs.lookup f) (mA f))∧PySem.Within mA (fs.map (·.1))):ObjOk P w H h dx (XD dx fs):=by
 refine ⟨hx,?_,fun h1 h2 q k=>?_⟩
 ·obtain ⟨mA,⟨o,es,ep,e,_⟩,_⟩:=hx;exact ⟨o,e⟩
 ·obtain ⟨mA,⟨o,es,ep,e,r⟩,z⟩:=q;exact ⟨mA,⟨o,es,ep,k o e,r⟩,z⟩
theorem ObjOk.there{P:Program}{w:World}{H:Hp}{h:Heap}{a:Addr}{o:HO}(x:ObjOk P w H h a o):∃u,h.get? a=some u:=by
 cases o with
 |lst xs=>obtain ⟨_,_,_,_,e⟩:=x;exact ⟨_,e⟩
 |tup xs=>obtain ⟨_,_,_,o,e,_⟩:=x;exact ⟨_,e⟩
 |dK kvs=>obtain ⟨_,_,_,_,o,_,_,e,_⟩:=x;exact ⟨_,e⟩
 |dT kvs=>obtain ⟨_,_,_,_,o,_,_,e,_⟩:=x;exact ⟨_,e⟩
 |set S n=>obtain ⟨o,_,_,_,e,_⟩:=x;exact ⟨_,e⟩
 |ins C dx fs=>obtain ⟨_,_,_,e,_⟩:=x;exact ⟨_,e⟩
 |own y=>obtain ⟨_,e⟩:=x;exact ⟨_,e⟩
 |xd fs=>obtain ⟨_,⟨_,_,_,e,_⟩,_⟩:=x;exact ⟨_,e⟩
 |rng lo hi=>obtain ⟨_,_,_,e⟩:=x;exact ⟨_,e⟩
 |frz ob u=>obtain ⟨e,_⟩:=x;exact ⟨_,e⟩
 |tbl ps=>exact ⟨_,(show h.get? a=some _ from x)⟩
 |met f y=>exact ⟨_,(show h.get? a=some _ from x)⟩
 |ext φ=>obtain ⟨_,⟨_,e⟩,_⟩:=x;exact ⟨_,e⟩
theorem HOk.free{P:Program}{w:World}{H:Hp}{h:Heap}{a:Addr}(x:HOk P w H h)(e:h.get? a=none):H a=none:=by
 cases q:H a with
 |none=>rfl
 |some u=>
  obtain ⟨o,z⟩:=(x a u q).there;rw[e]at z;cases z
theorem Inv.laidN{X:Cx}{pins:List (Addr×Obj)}{σ:St}{H:Hp}{s:Shared}{h':Heap}{a:Addr}{o:HO}{t':Nat}(I:Inv X pins σ H s)(k:∀b u,s.heap.get? b=some u→h'.get? b=some u)(hp:s.heap.get? a=none)(new:ObjOk X.prog X.w (upd H a o) h' a o):
 Inv X pins σ (upd H a o) {s with heap:=h',toks:=t'}:=by
 have hn:=I.hok.free hp;have nb:∀b u,s.heap.get? b=some u→b≠a:=fun b u q z=>by rw[z,hp]at q;cases q
 refine I.un (t':=t') ⟨fun b u q _ _ _=>k b u q,fun b u q _ _ _=>⟨u.slots,k b u q⟩,fun b u q n _=>by rw[u0 (nb b u q)];exact n,fun b u q _=>⟨u,k b u q⟩,fun b xs q=>by rw[u0 (l0 q hn)];exact q,
  fun b u xs q=>by rw[u0 (l0 q hn)];exact q,fun b ps q=>⟨#[],by rw[u0 (l0 q hn),q];simp⟩⟩ fun b u e=>?_
 by_cases hb:b=a
 ·subst hb;rw[o3]at e;cases e;exact new
 ·rw[u0 hb]at e;exact (I.hok b u e).stay (fun c v _ q=>k c v q) (fun c q=>by rw[u0 (l0 q hn)];exact q) fun c xs q=>by rw[u0 (l0 q hn)];exact q
theorem XO.get{P:Program}{w:World}{H:Hp}{h:Heap}{fr:Nat}{x C:Addr}{od:Option Addr}(hok:HOk P w H h)(e:H x=some (XO fr x C od)):
 ∃o vs,h.get? x=some o∧o.cls=.ref C∧o.dict=od∧o.data=.fields vs∧((fr=1→o.slots=#[]∧vs[1]?=some .none)∧(fr≠0→vs[2]?=some .none)):=(show ObjOk P w H h x (XO fr x C od)from hok x _ e).1
theorem XD.get{P:Program}{w:World}{H:Hp}{h:Heap}{dx:Addr}{fs:List (Str×V)}(hok:HOk P w H h)(e:H dx=some (XD dx fs)):
 ∃mA,h.Ns1 dx mA∧(∀f,RelO (fs.lookup f) (mA f))∧PySem.Within mA (fs.map (·.1)):=(show ObjOk P w H h dx (XD dx fs)from hok dx _ e).1
section
variable{X:Cx}{pins:List (Addr×Obj)}{σ:St}{H:Hp}{s:Shared}{x C dx:Addr}{fs:List (Str×V)}{f:Str}{v:V}{A:Around}{E:Value→Shared→Prop}
theorem xset0{y:V}{u:Value}{Q:Unit→Shared→Prop}(I:Inv X pins σ H s)(e:H x=some (XO 1 x C none))(c:XC X.K C)(n:NoAttr X.K C f)(ry:RelV y u)
 (h:∀d s',H d=none→d≠x→Inv X pins σ (upd (upd H d (XD d [(f,y)])) x (XO 1 x C (some d))) s'→Q () s'):wpAny (model X.prog X.w) A (setAttr (.ref x) f u) Q E s:=by
 obtain ⟨o,vs,hx,h1,h2,h3,h40⟩:=XO.get I.hok e;obtain ⟨h4,h5⟩:=h40.1 rfl;have h6:=h40.2;clear h40;obtain ⟨oc,od,odt,osl⟩:=o;dsimp only at h1 h2 h3 h4;subst h1 h2 h3 h4;have hxs:x≠s.heap.objs.size:=Nat.ne_of_lt (Heap.lt_size hx);refine PySem.W.set_x0 I.kIn c hx n.taker fun h' e1 e2 e3=>h s.heap.objs.size _ (I.hok.fresh (Nat.le_refl _)) hxs.symm ?_
 have mu:Mut (H x):=by rw[e];exact True.intro
 have keep:∀b o,b≠x→s.heap.get? b=some o→h'.get? b=some o:=e3;have hx':∃o vs,h'.get? x=some o∧o.cls=.ref C∧o.dict=some s.heap.objs.size∧o.data=.fields vs∧((1=1→o.slots=#[]∧vs[1]?=some .none)∧(1≠0→vs[2]?=some .none)):=⟨_,vs,e1,rfl,rfl,rfl,fun _=>⟨rfl,h5⟩,h6⟩;have hfree:H s.heap.objs.size=none:=I.hok.fresh (Nat.le_refl _);have neF:∀b o,s.heap.get? b=some o→b≠s.heap.objs.size:=fun b o q=>Nat.ne_of_lt (Heap.lt_size q)
 have neT:∀b u,H b=some u→b≠s.heap.objs.size:=fun b u q z=>by rw[z,hfree]at q;cases q
 have nx:∀b,H b=none→b≠x:=fun b q z=>by rw[z,e]at q;cases q
 have tr:∀b u,H b=some u→b≠x→(upd (upd H s.heap.objs.size (XD s.heap.objs.size [(f,y)])) x (XO 1 x C (some s.heap.objs.size))) b=some u:=fun b u q z=>by rw[u0 z,u0 (neT b u q)];exact q
 refine I.un (t':=s.toks+2) ⟨fun b o q q2 _ _=>keep b o (nx b q2) q,fun b o q q2 _ _=>⟨o.slots,keep b o (nx b q2) q⟩,fun b o q q2 _=>?_,fun b o q _=>?_,fun b xs q=>?_,fun b o u q=>?_,fun b ps q=>⟨#[],?_⟩⟩ ?_
 ·rw[u0 (nx b q2),u0 (neF b o q)];exact q2
 ·by_cases z:b=x
  ·subst z;exact ⟨_,e1⟩
  ·exact ⟨o,keep b o z q⟩
 ·exact tr b _ q (fun z=>by rw[z,e]at q;cases q)
 ·exact tr b _ q (fun z=>by rw[z,e]at q;cases q)
 ·rw[tr b _ q (fun z=>by rw[z,e]at q;cases q)];simp
 ·intro b u q;by_cases z:b=x
  ·subst z;rw[o3]at q;cases q;exact XO.ok hx'
  ·rw[u0 z]at q;by_cases z2:b=s.heap.objs.size
   ·subst z2;rw[o3]at q;cases q;refine XD.ok ⟨_,e2,fun g=>?_,fun g hg=>?_⟩
    ·have l:=z0u f g y [];rw[show putF f y []=[(f,y)]from rfl]at l;rw[l];by_cases w:g=f
     ·rw[if_pos w,if_pos w];exact ry
     ·rw[if_neg w,if_neg w];exact True.intro
    ·by_cases w:g=f
     ·rw[w];simp
     ·exact absurd (if_neg w) hg
   ·rw[u0 z2]at q;refine (I.hok b u q).stay (fun c' v' hc q'=>keep c' v' ?_ q') (fun b' q'=>tr b' _ q' (fun z=>by rw[z,e]at q';cases q')) (fun b' xs q'=>tr b' _ q' (fun z=>by rw[z,e]at q';cases q'));rcases hc with hc |hc
    ·rw[hc];exact z
    ·exact fun z=>by rw[z,e]at hc;cases hc
theorem xset1{y:V}{u:Value}{Q:Unit→Shared→Prop}(I:Inv X pins σ H s)(e:H x=some (XO 1 x C (some dx)))(ed:H dx=some (XD dx fs))(ne:dx≠x)(hl:fs.length<1000)(c:XC X.K C)(n:NoAttr X.K C f)(ry:RelV y u)
 (h:∀s',Inv X pins σ (upd H dx (XD dx (putF f y fs))) s'→Q () s'):wpAny (model X.prog X.w) A (setAttr (.ref x) f u) Q E s:=by
 obtain ⟨o,vs,hx,h1,h2,h3,h40⟩:=XO.get I.hok e;obtain ⟨h4,h5⟩:=h40.1 rfl;have h6:=h40.2;clear h40;obtain ⟨oc,od,odt,osl⟩:=o;dsimp only at h1 h2 h3 h4;subst h1 h2 h3 h4;obtain ⟨mA,hn,r,wi⟩:=XD.get I.hok ed;refine PySem.W.set_x1 I.kIn c hx ne hn n.taker wi (by rw[List.length_map,sizeLine_eq];omega) fun h' hn' sb=>h _ ?_
 have hd:∃o,h'.get? dx=some o:=let ⟨o,_,_,e',_⟩:=hn';⟨o,e'⟩
 refine I.write (x:=dx) (e:=dx) (by rw[ed];exact True.intro) (.inl rfl) (fun b q hb z=>(sb.2 b hb).trans z) hd ?_;refine XD.ok ⟨_,hn',fun g=>?_,fun g hg=>?_⟩
 ·show RelO ((putF f y fs).lookup g) (if g=f then some u else mA g);rw[z0u];by_cases q:g=f
  ·rw[if_pos q,if_pos q];exact ry
  ·rw[if_neg q,if_neg q];exact r g
 ·by_cases q:g=f
  ·rw[q];exact (y0s f y fs).1
  ·refine (y0s f y fs).2 g (wi g fun z=>hg ?_);show (if g=f then some u else mA g)=none;rw[if_neg q];exact z
theorem XO.inst{fr:Nat}{od:Option Addr}(I:Inv X pins σ H s)(e:H x=some (XO fr x C od))(he:∀d,od=some d→∃o,s.heap.get? d=some o):∃ox odo,PySem.W.InstAt s.heap x ox C odo∧∀d,od=some d→∃o,odo=some o∧s.heap.get? d=some o:=by
 obtain ⟨o,vs,hx,h1,h2,h3,_⟩:=XO.get I.hok e;cases od with
 |none=>exact ⟨o,none,⟨hx,h1,by unfold PySem.W.notCls;rw[h3],by rw[h2];trivial⟩,fun d z=>by cases z⟩
 |some d=>
  obtain ⟨od,hd⟩:=he d rfl;exact ⟨o,some od,⟨hx,h1,by unfold PySem.W.notCls;rw[h3],by rw[h2];exact hd⟩,fun d' z=>by cases z;exact ⟨od,rfl,hd⟩⟩
end
noncomputable def sX0(K:PySem.W.Frag)(ta tv:TE)(f:Str):TS:=fun D σ H=>tv σ H fun y H1=>ta σ H1 fun x H2=>∃a C,x=.ref a∧H2 a=some (XO 1 a C none)∧XC K C∧NoAttr K C f∧
 ∀d,H2 d=none→d≠a→D.nx σ (upd (upd H2 d (XD d [(f,y)])) a (XO 1 a C (some d)))
noncomputable def sX1(K:PySem.W.Frag)(ta tv:TE)(f:Str):TS:=fun D σ H=>tv σ H fun y H1=>ta σ H1 fun x H2=>∃a C d fs,x=.ref a∧H2 a=some (XO 1 a C (some d))∧H2 d=some (XD d fs)∧d≠a∧fs.length<1000∧XC K C∧NoAttr K C f∧
 D.nx σ (upd H2 d (XD d (putF f y fs)))
section
variable{X:Cx}{o e value:Expr}{f:Str}{pos pos' tpos:Pos}{ta tv:TE}
theorem n0l(ha:PE X o ta)(hv:PE X value tv)(hs:swapsWith value (some (.Attribute o f pos')) pos.line X.env=pure false):PS X (.Assign [.Attribute o f pos'] value pos) (sX0 X.K ta tv f):=by
 intro pins s σ H D I h;refine plainObj_wpAny_Assign_Attribute (thn (hv pins s σ H _ I h) fun u s1 ⟨y,H1,I1,ry,q⟩=>thn (ha pins s1 σ H1 _ I1 q) fun ov s2 ⟨x,H2,I2,rx,a,C,ex,ea,c,n,q2⟩=>?_) hs;subst ex;obtain rfl:ov=Value.ref a:=rx;exact xset0 I2 ea c n ry fun d s3 hd hne I3=>⟨σ,_,I3,q2 d hd hne⟩
theorem ps_x1(ha:PE X o ta)(hv:PE X value tv)(hs:swapsWith value (some (.Attribute o f pos')) pos.line X.env=pure false):PS X (.Assign [.Attribute o f pos'] value pos) (sX1 X.K ta tv f):=by
 intro pins s σ H D I h;refine plainObj_wpAny_Assign_Attribute (thn (hv pins s σ H _ I h) fun u s1 ⟨y,H1,I1,ry,q⟩=>thn (ha pins s1 σ H1 _ I1 q) fun ov s2 ⟨x,H2,I2,rx,a,C,d,fs,ex,ea,ed,hne,hl,c,n,q2⟩=>?_) hs;subst ex;obtain rfl:ov=Value.ref a:=rx;exact xset1 I2 ea ed hne hl c n ry fun s3 I3=>⟨σ,_,I3,q2⟩
end
noncomputable def xcIn(K:PySem.W.Frag)(C:Addr):Bool:=match K.lookup C with
 |some ⟨.type "type",_,.cls cd,sl⟩=>(match cd.mro,sl.toList with
  | .ref C'::bm,[_,_,_,_,some (.builtin n),_]=>C'==C&&n=="ValueError.__new__"&&!cd.hasDel&&PySem.W.tailIn K PySem.W.veMro bm
  |_,_=>false)
 |_=>false
theorem i0r{K:PySem.W.Frag}{h:Heap}{C:Addr}(X:K.In h)(q:xcIn K C=true):∃nm qn N bs bm hdct sn sub ab col dd k0 k1 k2 k3 k5,
 h.get? C=some (excClassObj nm qn C N bs bm hdct sn sub ab col dd k0 k1 k2 k3 k5 "ValueError.__new__")∧OwnTail h PySem.W.veMro bm:=by
 unfold xcIn at q;split at q
 ·rename_i dd cd sl ho;split at q
  ·rename_i C' bm k0 k1 k2 k3 n k5 hm hs;simp only[Bool.and_eq_true,beq_iff_eq,Bool.not_eq_true']at q;obtain ⟨⟨⟨rfl,rfl⟩,hdel⟩,ht⟩:=q;obtain ⟨nm,bs,mro,ns,qn,hd,sn,sub,ab,col,del⟩:=cd;dsimp only at hm hdel;subst hm hdel;have hsl:sl=#[k0,k1,k2,k3,some (.builtin "ValueError.__new__"),k5]:=by
    obtain ⟨l⟩:=sl;simp only at hs;rw[hs]
   subst hsl;exact ⟨nm,qn,ns,bs,bm,hd,sn,sub,ab,col,dd,k0,k1,k2,k3,k5,X _ _ ho,PySem.W.tail_of_in X ht⟩
  ·cases q
 ·cases q
structure XMk(K:PySem.W.Frag)(C f:Addr):Prop where
 sh:xcIn K C=true
 init:PySem.W.findIn K (.ref C) "__init__"=some (some (.ref f))
 fn:PySem.W.isFn K (.ref f)=true
 kp:PySem.W.keepIn K (.ref C)=true
section
variable{X:Cx}{CX:CXT}{k:Nat}{f C:Addr}{fd:FuncData}{ps:List Str}{sp:Sp}{E:XK}{x m:Str}{p pos apos:Pos}{e o:Expr}{es:List Expr}{ta:TE}{t:TA}
theorem Inv.madeX{pins:List (Addr×Obj)}{σ:St}{H:Hp}{s:Shared}{us:List Value}(I:Inv X pins σ H s):
 Inv X pins σ (upd H (s.heap.objs.size+1) (XO 1 (s.heap.objs.size+1) C none)) {s with heap:=(s.heap.push (PySem.W.xTup us)).push (PySem.W.xObj C s.heap.objs.size)}:=by
 have I1:=I.kept (h':=s.heap.push (PySem.W.xTup us)) (t':=s.toks) fun b o e=>Heap.get?_push_of_some _ e
 have e2:((s.heap.push (PySem.W.xTup us)).push (PySem.W.xObj C s.heap.objs.size)).get? (s.heap.objs.size+1)=some (PySem.W.xObj C s.heap.objs.size):=by
  have:=Heap.get?_push_size (s.heap.push (PySem.W.xTup us)) (o:=PySem.W.xObj C s.heap.objs.size) rfl
  rwa[Heap.size_push]at this
 exact I1.laid (a:=s.heap.objs.size+1) (o:=XO 1 (s.heap.objs.size+1) C none) (t':=s.toks) (fun b u q=>Heap.get?_push_of_some _ q) (Nat.le_of_eq (Heap.size_push _ _)) (XO.ok ⟨_,_,e2,rfl,rfl,rfl,⟨fun _=>⟨rfl,rfl⟩,fun _=>rfl⟩⟩)
theorem p0g{pins:List (Addr×Obj)}{σ:St}{H:Hp}{s:Shared}{Q:VK}{us:List Value}{vs:List V}(M:XMk X.K C f)(F:FnOk X.prog X.w X.K X.mg X.base CX k f fd ps sp)(hr:Room (k+1) X.A)(hb:Binds X.K fd ps [])
 (hx:d0g CX X E) (I:Inv X pins σ H s) (r:Vals vs us) (hz:vs.length≤sizeLine)
 (hq:sp (.ref (s.heap.objs.size+1)::vs) (upd H (s.heap.objs.size+1) (XO 1 (s.heap.objs.size+1) C none)) (fun v H2=>v=.non∧Q (.ref (s.heap.objs.size+1)) H2) E):
 wpAny (model X.prog X.w) X.A (call (.ref C) us) (fun u s'=>u=.ref (s.heap.objs.size+1)∧EP X pins σ Q u s') X.xe s:=by
 have I2:=Inv.madeX (C:=C) (us:=us) I;have r2:Vals (V.ref (s.heap.objs.size+1)::vs) (Value.ref (s.heap.objs.size+1)::us):=.cons rfl r;have hl:(Value.ref (s.heap.objs.size+1)::us++[]).length=ps.length:=by
  have e:=r2.length;rw[F.len _ _ _ _ hq]at e;rw[List.append_nil];exact e.symm
 obtain ⟨nm,qn,N,bs,bm,hdct,sn,sub,ab,col,dd,k0,k1,k2,k3,k5,hC,hT⟩:=i0r I.kIn M.sh;have hbd:=hb _ (Value.ref (s.heap.objs.size+1)::us) I2.kIn hl;rw[List.append_nil]at hbd;have hrun:=F.run _ X.stack _ _ ⟨Value.ref (s.heap.objs.size+1)::us,[]⟩ (Value.ref (s.heap.objs.size+1)::us) _ _ E (hr.make C us []) (I2.env0.make C us []) hbd r2 hq;obtain ⟨hh,g,d,tk,os⟩:=s;refine wpAny_call (PySem.W.type_call_x PySem.F.excBase_ValueError hT hC (PySem.W.looks_findIn I.kIn M.init) (fun self=>PySem.W.bind_fn I.kIn self (beq_iff_eq.mp M.fn)) (codeAny_mono hrun fun r s' hq'=>?_) (by rw[←r.length];exact hz));cases r with
 |error e=>exact hx pins σ _ _ e s' I2 hq'
 |ok fl=>
  cases fl with
  |ret u=>
   obtain ⟨v,H',I3,rv,ev,q3⟩:=I2.after hq';subst ev;exact ⟨rv,rfl,⟨V.ref (hh.objs.size+1),H',I3,rfl,q3⟩⟩
  |next=>exact False.elim hq'
  |brk=>exact False.elim hq'
  |cont=>exact False.elim hq'
structure XMk0(K:PySem.W.Frag)(C:Addr):Prop where
 ex:PySem.W.excIn K C PySem.W.veMro "ValueError.__new__"=true
 kp:PySem.W.keepIn K (.ref C)=true
theorem l0q{pins:List (Addr×Obj)}{σ:St}{H:Hp}{s:Shared}{Q:VK}{A:Around}{E:Value→Shared→Prop}(M:XMk0 X.K C)(I:Inv X pins σ H s)(h:Q (.ref (s.heap.objs.size+1)) (upd H (s.heap.objs.size+1) (XO 1 (s.heap.objs.size+1) C none))):
 wpAny (model X.prog X.w) A (call (.ref C) []) (EP X pins σ Q) E s:=by
 have q:=M.ex;unfold PySem.W.excIn at q;split at q
 ·rename_i dd cd sl ho;split at q
  ·rename_i C' bm k0 k1 k2 k3 n k5 hm hs;simp only[Bool.and_eq_true,beq_iff_eq,Bool.not_eq_true']at q;obtain ⟨⟨⟨⟨⟨rfl,rfl⟩,hdel⟩,ht⟩,hok⟩,hni⟩:=q;obtain ⟨nm,bs,mro,ns,qn,hd,sn,sub,ab,col,del⟩:=cd;dsimp only at hm hdel hok hni;subst hm hdel;have hsl:sl=#[k0,k1,k2,k3,some (.builtin "ValueError.__new__"),k5]:=by
    obtain ⟨l⟩:=sl;simp only at hs;rw[hs]
   subst hsl;obtain ⟨hh,g,d,tk,os⟩:=s;refine PySem.W.type_call_x0 PySem.F.excBase_ValueError (PySem.W.tail_of_in I.kIn ht) (I.kIn _ _ ho) (Heap.Ns.of_isNs (PySem.W.isNs_of_in I.kIn hok)) (PySem.W.nsMap_none_of_in I.kIn hok hni) (fun h' t2 kp hx=>?_);exact ⟨.ref (hh.objs.size+1),_,I.laidN (a:=hh.objs.size+1) (o:=XO 1 (hh.objs.size+1) C' none) (t':=tk) kp (Heap.get?_none_of_le (Nat.le_succ _)) (XO.ok ⟨_,_,hx,rfl,rfl,rfl,⟨fun _=>⟨rfl,rfl⟩,fun _=>rfl⟩⟩),rfl,h⟩
  ·cases q
 ·cases q
end
end L2
namespace L2
open PySem PySem.Spec PyProof.Rows
open PySem.W (XC)
inductive TyX(K:PySem.W.Frag)(H:Hp):V→Value→Prop where
 |of {x:V} {t:Value} (h:TyOf K H x t):TyX K H x t
 |exc {fr:Nat} {a C d:Addr} {fs:List (Str×V)} (e:H a=some (XO fr a C (some d))) (ed:H d=some (XD d fs)) (c:XC K C):TyX K H (.ref a) (.ref C)
 |exc0 {fr:Nat} {a C:Addr} (e:H a=some (XO fr a C none)) (c:XC K C):TyX K H (.ref a) (.ref C)
section
variable{X:Cx}
noncomputable def InstB(K:PySem.W.Frag)(H:Hp)(t:Value)(c:V)(b:Bool):Prop:=
 (∃n,c=.ty n∧PySem.W.kitOne K t (.type n)=some b)∨(∃C,c=.ref C∧PySem.W.kitOne K t (.ref C)=some b)∨∃(a:Addr) (cs:List String),c=.ref a∧H a=some (.tup (cs.map V.ty))∧PySem.W.kitAny K t (cs.map Value.type)=some b
noncomputable def rInst(K:PySem.W.Frag):List V→Hp→VK→Prop:=fun vs H Q=>∃x c t b,vs=[x,c]∧TyX K H x t∧InstB K H t c b∧Q (.bl b) H
theorem d0b:∀{cs:List String} {us:List Value},Vals (cs.map V.ty) us→us=cs.map Value.type
 | [],_,.nil=>rfl
 |c::cs,_,.cons r t=>by
  have e:_=Value.type c:=r;rw[e,d0b t];rfl
theorem u5{pins:List (Addr×Obj)}{s:Shared}{σ:St}{H:Hp}{Q:VK}{c:V}{u cv t:Value}{b:Bool}{HH:Heap→Prop}(I:Inv X pins σ H s)(Z:PySem.W.KitX X.K u t HH)(p:HH s.heap)(rc:RelV c cv)(e:InstB X.K H t c b)
 (hx:u≠.builtin "__main__.__loader__#opaque") (q:Q (.bl b) H):wpAny (model X.prog X.w) X.A (call (.builtin "isinstance") [u,cv]) (EP X pins σ Q) X.xe s:=by
 have fin:∀tk,EP X pins σ Q (.bool b) {s with toks:=tk}:=fun tk=>⟨.bl b,H,I.tok tk,rfl,q⟩
 rcases e with ⟨n,rfl,e⟩|⟨C,rfl,e⟩|⟨a,cs,rfl,ha,e⟩
 ·cases rc;exact PySem.W.kia_one Z I.kIn p e hx fin
 ·cases rc;exact PySem.W.kia_one Z I.kIn p e hx fin
 ·cases rc;obtain ⟨z,its,r,o,ho,hc,⟨n,hd⟩,_⟩:=(show ObjOk X.prog X.w H s.heap a (.tup (cs.map V.ty))from I.hok a _ ha);obtain rfl:=d0b r;obtain ⟨oc,od,odt,osl⟩:=o;dsimp only at hc hd;subst hc hd;exact PySem.W.kia_tup Z I.kIn p ho e hx fin
theorem p4:w0h X (.builtin "isinstance") (rInst X.K):=by
 intro pins s σ H xs us Q I rv h;obtain ⟨x,c,t,b,rfl,ty,e,q⟩:=h;obtain ⟨u,cv,rfl,rx,rc⟩:=Vals.two rv;cases ty with
 |exc ea ed c=>
  rename_i fr a C d fs;cases (show u=Value.ref a from rx);obtain ⟨mA,hn,_,_⟩:=XD.get I.hok ed;obtain ⟨od,hod,_⟩:=lookIn_ns hn;obtain ⟨ox,odo,J,k⟩:=XO.inst I ea fun d z=>by cases z;exact ⟨od,hod⟩
  exact u5 I (PySem.W.kitx_x c) J rc e (fun z=>nomatch z) q
 |exc0 ea c=>
  rename_i fr a C;cases (show u=Value.ref a from rx);obtain ⟨ox,odo,J,k⟩:=XO.inst I ea fun d z=>by cases z
  exact u5 I (PySem.W.kitx_x c) J rc e (fun z=>nomatch z) q
 |of ty=>
  cases ty with
  |non=>cases (show u=Value.none from rx);exact u5 I PySem.W.kitx_none True.intro rc e (fun z=>nomatch z) q
  |bl y=>cases (show u=Value.bool y from rx);exact u5 I PySem.W.kitx_bool True.intro rc e (fun z=>nomatch z) q
  |int i=>obtain ⟨t,z⟩:=(show ∃t,u=Value.int i t from rx);cases z;exact u5 I PySem.W.kitx_int True.intro rc e (fun z=>nomatch z) q
  |str y=>obtain ⟨t,z⟩:=(show ∃t,u=Value.str y t from rx);cases z;exact u5 I PySem.W.kitx_str True.intro rc e (fun z=>nomatch z) q
  |flt y=>obtain ⟨t,z⟩:=(show ∃t,u=Value.float y t from rx);cases z;exact u5 I PySem.W.kitx_float True.intro rc e (fun z=>nomatch z) q
  | @lst a xs ea=>
   cases (show u=Value.ref a from rx);obtain ⟨_,_,n,_,h1⟩:=(show ObjOk X.prog X.w H s.heap a (.lst xs)from I.hok a _ ea);exact u5 I PySem.W.kitx_list ⟨_,h1,rfl⟩ rc e (fun z=>nomatch z) q
  | @frz a ob xs ea=>
   cases (show u=Value.ref a from rx);obtain ⟨_,_,_,n,_,h1⟩:=(show ObjOk X.prog X.w H s.heap a (.frz ob (.lst xs))from I.hok a _ ea);exact u5 I PySem.W.kitx_list ⟨_,h1,rfl⟩ rc e (fun z=>nomatch z) q
  | @tup a xs ea=>
   cases (show u=Value.ref a from rx);obtain ⟨_,_,_,p⟩:=(show ObjOk X.prog X.w H s.heap a (.tup xs)from I.hok a _ ea);obtain ⟨o,h1,h2,_⟩:=p;exact u5 I PySem.W.kitx_tuple ⟨o,h1,h2⟩ rc e (fun z=>nomatch z) q
  | @dK a kvs ea=>
   cases (show u=Value.ref a from rx);obtain ⟨_,_,vs,_,p⟩:=(show ObjOk X.prog X.w H s.heap a (.dK kvs)from I.hok a _ ea);obtain ⟨o,es,ep,h1,h2,_⟩:=p;exact u5 I PySem.W.kitx_dict ⟨o,h1,h2.1⟩ rc e (fun z=>nomatch z) q
  | @dT a kvs ea=>
   cases (show u=Value.ref a from rx);obtain ⟨_,_,xs,_,o,es,ep,h1,h2,_⟩:=(show ObjOk X.prog X.w H s.heap a (.dT kvs)from I.hok a _ ea);exact u5 I PySem.W.kitx_dict ⟨o,h1,h2.1⟩ rc e (fun z=>nomatch z) q
  | @ins a C dx fs ea cl ha hn htk hm=>
   cases (show u=Value.ref a from rx);obtain ⟨mA,O,_⟩:=n0o I.hok ea;obtain ⟨od,J,_⟩:=O.look;exact u5 I (PySem.W.kitx_own (cl.get _) cl.hd ha hn htk hm) J rc e (fun z=>nomatch z) q
theorem n0k:OpR X (compareOp .IsNot) (fun x y H Q=>∃a b,x=.bl a∧y=.bl b∧Q (.bl (!(a==b))) H):=by
 intro pins s σ H x y v u Q I rx ry h;obtain ⟨a,b,rfl,rfl,q⟩:=h;cases (show v=Value.bool a from rx);cases (show u=Value.bool b from ry);exact isnot_bool ⟨.bl _,H,I,rfl,q⟩
noncomputable def rCount:V→List V→Hp→VK→Prop:=fun x vs H Q=>∃l xs y,x=.ref l∧vs=[y]∧H l=some (.lst xs)∧l9 y=true∧xs.all l9=true∧Q (.int ((xs.countP fun z=>eqV z y:Nat):Int)) H
theorem r0l{x:V}:∀{xs:List V} {us:List Value},Vals xs us→xs.all l9=true→us.countP (eqU x)=xs.countP fun y=>eqV y x
 |_,_,.nil,_=>rfl
 |y::xs,u::us,.cons r t,f=>by
  rw[List.all_cons,Bool.and_eq_true]at f;rw[List.countP_cons,List.countP_cons,r0l t f.2,d0f r f.1]
theorem f0h:MtM X "list.count" rCount:=by
 intro pins s σ H x vs v us Q I rx rv h;obtain ⟨l,xs,y,rfl,rfl,hH,fy,fs,q⟩:=h;cases rx;obtain ⟨u,rfl,ru⟩:=rv.one;obtain ⟨z,its,n,r,hl,e⟩:=I.lstM hH;refine call_meets F.slot_list_count ⟨_,e,rfl⟩ F.entry_list_count (F.args_list_count_2 _ _) (PySem.SeqAt.list_countAt l its.toArray n _ _ u (eqU y)) ⟨e,fun w hw=>l0s ru fy r fs w (by simpa using hw),?_⟩;have ec:its.toArray.toList.countP (eqU y)=xs.countP fun z=>eqV z y:=by rw[show its.toArray.toList=its by simp,r0l r fs]
 rw[ec];exact ⟨.int _,H,I.tok _,⟨s.toks,rfl⟩,q⟩
noncomputable def rAll(K:PySem.W.Frag):List V→Hp→VK→Prop:=fun vs H Q=>∃(a:Addr) (bs:List Bool),vs=[.ref a]∧SqL K H a (bs.map V.bl)∧Q (.bl (bs.all id)) H
theorem l0p:∀{bs:List Bool} {us:List Value},Vals (bs.map V.bl) us→PyProof.Rows.LSm.BoolsAre us bs
 | [],_,.nil=>.nil
 |b::bs,_,.cons r t=>by
  have e:_=Value.bool b:=r;subst e;exact .cons b (l0p t)
theorem f0g(hc:X.calm=true):w0h X (.builtin "all") (rAll X.K):=by
 intro pins s σ H xs us Q I rv h;obtain ⟨a,bs,rfl,hq,q⟩:=h;obtain ⟨u,rfl,ru⟩:=rv.one;cases (show u=Value.ref a from ru);obtain ⟨its,r,p,hz⟩:=I.list hq;have hl:=p.isList;have hb:=l0p r;have hlt:a<s.heap.objs.size:=by obtain ⟨_,e,_⟩:=hl;exact Heap.lt_size e
 refine call_all_walk (wpAny_pyIter_list hl ?_);refine ⟨s.heap.objs.size,[s.heap.objs.size,a],[s.heap.objs.size],its.toArray.size,_,_,fun i=>(bs[i]?).getD true,rfl,Walks.list (A:=X.A.in1) (I.ok.hd hc) _ a (Nat.ne_of_lt hlt) its.toArray,
  ⟨⟨_,Heap.get?_push_size _ rfl,rfl,rfl⟩,hl.push _⟩,fun i v s' Q' E' hP hQ=>?_,fun h' tk hk=>?_⟩
 ·obtain ⟨b,e,rfl⟩:=hb.get i v (by simpa using hP);simp only[e,Option.getD_some]at hQ;exact wpAny_truthy_bool hQ
 ·have e:((List.range its.toArray.size).all fun i=>(bs[i]?).getD true)=bs.all id:=by
   rw[List.size_toArray,hb.length];exact PyProof.Rows.LSm.range_all bs
  rw[e];exact ⟨.bl _,H,I.kept (PyProof.Rows.LSm.kept_iter hk),rfl,q⟩
end
end L2
namespace L2
open PySem PySem.Spec PyProof.Rows
theorem k0d{scope:Scope}{env:Env}(h:∀p∈scope.names,p.2=.free→∃c,env.cells.lookup p.1=some c):
 ∃cl,closureFor scope env=pure cl∧(∀y c,cl.lookup y=some c→env.cells.lookup y=some c)∧∀y,(y,NameKind.free)∈scope.names→∃c,cl.lookup y=some c:=by
 have key:∀(names:List (Str×NameKind)) (cs:List (Str×Addr)),(∀p∈names,p.2=.free→∃c,env.cells.lookup p.1=some c)→(∀y c,cs.lookup y=some c→env.cells.lookup y=some c)→
  ∃cl,(forIn names cs (fun (p:Str×NameKind) (r:List (Str×Addr))=>match p with |(name,kind)=>if (kind==NameKind.free)=true then cellOf env name >>= fun c=>pure (ForInStep.yield ((name,c)::r))else pure (ForInStep.yield r)):Sem (List (Str×Addr)))=pure cl∧
   (∀y c,cl.lookup y=some c→env.cells.lookup y=some c)∧(∀y,(y,NameKind.free)∈names→∃c,cl.lookup y=some c)∧∀y c,cs.lookup y=some c→∃c',cl.lookup y=some c':=by
  intro names
  induction names with
  |nil=>intro cs _ hc;exact ⟨cs,rfl,hc,(fun y hy=>by cases hy),fun y c e=>⟨c,e⟩⟩
  |cons p r ih=>
   intro cs hp hc;obtain ⟨pn,pk⟩:=p;rw[List.forIn_cons];dsimp only;by_cases hk:pk=.free
   ·obtain ⟨c,e⟩:=hp (pn,pk) List.mem_cons_self hk;have hco:cellOf env pn=pure c:=by
     unfold cellOf;dsimp only at e;rw[e]
    have hb:(pk==NameKind.free)=true:=by rw[hk];rfl
    obtain ⟨cl,h1,h2,h3,h4⟩:=ih ((pn,c)::cs) (fun q hq=>hp q (List.mem_cons_of_mem _ hq)) (fun y c' e'=>by
     rw[List.lookup_cons]at e';split at e'
     ·rename_i z;have:y=pn:=beq_iff_eq.mp z;subst this;cases e';exact e
     ·exact hc y c' e')
    refine ⟨cl,?_,h2,fun y hy=>?_,fun y c' e'=>?_⟩
    ·rw[if_pos hb,hco,pure_bind,pure_bind];exact h1
    ·rcases List.mem_cons.mp hy with z |z
     ·have:y=pn:=congrArg Prod.fst z;subst this;exact h4 _ c (by rw[List.lookup_cons];simp)
     ·exact h3 y z
    ·by_cases z:y=pn
     ·subst z;exact h4 _ c (by rw[List.lookup_cons];simp)
     ·exact h4 y c' (by rw[List.lookup_cons,beq_eq_false_iff_ne.mpr z];exact e')
   ·have hb:¬(pk==NameKind.free)=true:=by simpa using hk
    obtain ⟨cl,h1,h2,h3,h4⟩:=ih cs (fun q hq=>hp q (List.mem_cons_of_mem _ hq)) hc;refine ⟨cl,?_,h2,fun y hy=>?_,h4⟩
    ·rw[if_neg hb,pure_bind];exact h1
    ·rcases List.mem_cons.mp hy with z |z
     ·exact absurd (congrArg Prod.snd z).symm hk
     ·exact h3 y z
 obtain ⟨cl,h1,h2,h3,_⟩:=key scope.names [] h (fun y c e=>by cases e);refine ⟨cl,?_,h2,h3⟩;unfold closureFor;exact (bind_pure _).trans h1
theorem y0q{env:Env}:∀{names:List (Str×NameKind)} {x:Str} {k:NameKind},(names.map fun (n,k)=>if (k==NameKind.free&&env.scope.kind== .function&&env.kindOf n==some .cell)then (n,NameKind.cell)else (n,k)).lookup x=some k→
 k=.cell∨k=.free→(∀y∈names,y.2≠.cell)→(x,NameKind.free)∈names
 | [],_,_,h,_,_=>by simp at h
 |(n,k0)::r,x,k,h,hk,hc=>by
  have h:List.lookup x ((if (k0==NameKind.free&&env.scope.kind== .function&&env.kindOf n==some .cell)=true then (n,NameKind.cell)else (n,k0))::(r.map fun (n,k)=>if (k==NameKind.free&&env.scope.kind== .function&&env.kindOf n==some .cell)then (n,NameKind.cell)else (n,k)))=some k:=h;by_cases hx:x=n
  ·subst hx;by_cases hcnd:(k0==NameKind.free&&env.scope.kind== .function&&env.kindOf x==some .cell)=true
   ·have:k0=.free:=by
     rw[Bool.and_eq_true,Bool.and_eq_true]at hcnd;exact beq_iff_eq.mp hcnd.1.1
    rw[this];exact List.mem_cons_self
   ·rw[if_neg hcnd,List.lookup_cons,beq_self_eq_true]at h;have e:k0=k:=Option.some.inj h;subst e;rcases hk with e |e
    ·exact absurd e (hc (x,k0) List.mem_cons_self)
    ·rw[e];exact List.mem_cons_self
  ·refine List.mem_cons_of_mem _ (y0q (env:=env) (k:=k) ?_ hk fun y hy=>hc y (List.mem_cons_of_mem _ hy));have hb:(x==n)=false:=beq_eq_false_iff_ne.mpr hx;by_cases hcnd:(k0==NameKind.free&&env.scope.kind== .function&&env.kindOf n==some .cell)=true
   ·rw[if_pos hcnd,List.lookup_cons,hb]at h;exact h
   ·rw[if_neg hcnd,List.lookup_cons,hb]at h;exact h
structure CompOk(X:Cx)(x:Str)(js:List Nat)(scope:Scope):Prop where
 kind:scope.kind=.function
 cell:∀y∈scope.names,y.2≠.cell
 loc:∀y∈scope.names,y.2=.local→scope.names.lookup y.1=some .local
 xl:scope.names.lookup x=some .local
 free:∀y∈scope.names,y.2=.free→X.env.kindOf y.1=some .cell∨X.env.kindOf y.1=some .free
 caps:∀j∈js,scope.names.lookup (X.N.getD j x)=some .free
 nd:(x::js.map (fun j=>X.N.getD j x)).Nodup
section
variable{X:Cx}{pins:List (Addr×Obj)}{σ:St}{H:Hp}{s:Shared}
theorem p0f{scope:Scope}{env:Env}{y:Str}(h:scope.names.lookup y=some .free):(relabel scope env).names.lookup y=some .cell∨(relabel scope env).names.lookup y=some .free:=by
 unfold relabel;generalize scope.names=names at h;dsimp only
 induction names with
 |nil=>cases h
 |cons p r ih=>
  obtain ⟨n,k⟩:=p;rw[List.map_cons];dsimp only;by_cases hx:y=n
  ·subst hx;rw[List.lookup_cons,beq_self_eq_true]at h;have e:k=.free:=Option.some.inj h;subst e;by_cases hc:(NameKind.free==NameKind.free&&env.scope.kind== .function&&env.kindOf y==some .cell)=true
   ·rw[if_pos hc,List.lookup_cons,beq_self_eq_true];exact .inl rfl
   ·rw[if_neg hc,List.lookup_cons,beq_self_eq_true];exact .inr rfl
  ·have hb:(y==n)=false:=beq_eq_false_iff_ne.mpr hx;rw[List.lookup_cons,hb]at h;by_cases hc:(k==NameKind.free&&env.scope.kind== .function&&env.kindOf n==some .cell)=true
   ·rw[if_pos hc,List.lookup_cons,hb];exact ih h
   ·rw[if_neg hc,List.lookup_cons,hb];exact ih h
end
end L2
namespace L2
open PySem PySem.Spec PyProof.Rows
structure Loose(X:Cx)(pins:List (Addr×Obj))(H:Hp)(C:Addr):Prop where
 free:H C=none
 ne:C≠X.env.locals
 yng:X.s₀.heap.objs.size≤C
 cell:∀x c,X.env.cells.lookup x=some c→c≠C
 pin:∀p∈X.pn++pins,p.1≠C
section
variable{X:Cx}
end
end L2
namespace L2
open PySem PySem.Spec PyProof.Rows
open PySem.W (XC)
noncomputable def Fly(c:Bool)(h:Heap)(x C:Addr)(od T:Option Addr):Prop:=∃o vs,h.get? x=some o∧o.cls=.ref C∧o.dict=od∧o.data=.fields vs∧(1<vs.size∧(c=true→vs[2]?=some .none))∧
 match T with
 |none=>vs[1]?=some .none
 |some t=>vs[1]?=some (.ref t)∧t≠x∧∃ot ts,h.get? t=some ot∧ot.data=.fields ts∧3<ts.size
theorem s0d(o:Obj)(f):(o.mapFields f).dict=o.dict:=by
 obtain ⟨c,d,dt,sl⟩:=o;cases dt<;>rfl
section
variable{M:Model}{A:Around}{E:Value→Shared→Prop}{s:Shared}
theorem f0f{base:Heap}{env:Env}{outer:List Env}{L x:Addr}{oe:Obj}{vs:Array Value}{head:Value}{hadNext:Bool}{Q:Unit→Shared→Prop}
 (hfr:A.frames=some (env::outer)) (hl:s.heap.FunFrames base (env::outer)) (hf:env.frame=some L) (he:s.heap.get? x=some oe) (hd:oe.data=.fields vs) (hsz:1<vs.size)
 (h:∀h' T,(∀b o,b≠x→b∉frs (env::outer)→s.heap.get? b=some o→h'.get? b=some o)→(∀b o,s.heap.get? b=some o→b≠x→∃sl,h'.get? b=some {o with slots:=sl})→
  h'.get? x=some (oe.mapFields (·.setIfInBounds 1 (.ref T)))→s.heap.objs.size≤T→(∃ot ts,h'.get? T=some ot∧ot.data=.fields ts∧3<ts.size)→Q () {s with heap:=h'}):
 wpAny M A (do let a←frameOf env;let pl←entryPlaceOf L hadNext;let b←EntryCells.newEntry head a .none (rawInt L) .none pl;setField (.ref x) 1 b) Q E s:=by
 have hene:x∉(env::outer).filterMap (·.frame):=fun hm=>by
  obtain ⟨_,o,ho,hnf⟩:=hl.mem hm;rw[he]at ho;injection ho with ho
  subst ho;exact hnf vs hd
 refine wpAny_bind (wpAny_frameOf_fun hfr hl hf fun h₁ hs₁=>?_);refine wpAny_bind (wpAny_entryPlaceOf fun pl hpl=>?_);unfold EntryCells.newEntry newFields;refine wpAny_bind (wpAny_newObj_type ?_ (hpl.sizeOk5 _ _ _ _ _));have he₁:h₁.get? x=some oe:=(hs₁.2.1 x hene).trans he;generalize hO:({cls:=.type "traceback",dict:=none,data:=.fields ([head,.ref L,.none,rawInt L,.none]++(if pl.isEmpty then List.replicate 6 Value.none else pl)).toArray}:Obj)=ot;have hod:ot.data=.fields ([head,.ref L,.none,rawInt L,.none]++(if pl.isEmpty then List.replicate 6 Value.none else pl)).toArray:=by rw[←hO]
 have he₂:=Heap.get?_push_of_some (h:=h₁) ot he₁;refine wpAny_setField he₂ hd hsz ?_;have hTe:h₁.objs.size≠x:=Nat.ne_of_gt (Heap.lt_size he₁);have hd₃:=Obj.data_mapFields hd (·.setIfInBounds 1 (Value.ref h₁.objs.size));have hfree:ot.isFreed=false:=Obj.isFreed_of_fields hod;refine h _ h₁.objs.size (fun b o hbe hbf hb=>?_) (fun b o hb hbe=>?_) (Heap.get?_update_self _ he₂ (Obj.isFreed_of_fields hd₃)) (by rw[hs₁.1];exact Nat.le_refl _) ⟨ot,_,?_,hod,?_⟩
 ·rw[Heap.get?_update_other _ _ (Ne.symm hbe)];exact Heap.get?_push_of_some _ ((hs₁.2.1 b hbf).trans hb)
 ·obtain ⟨sl,e⟩:=hs₁.2.2 b o hb;exact ⟨sl,by rw[Heap.get?_update_other _ _ (Ne.symm hbe)];exact Heap.get?_push_of_some _ e⟩
 ·rw[Heap.get?_update_other _ _ (Ne.symm hTe)];exact Heap.get?_push_size h₁ hfree
 ·simp only[List.size_toArray,List.length_append,List.length_cons,List.length_nil];omega
end
noncomputable def Top(X:Cx):Prop:=X.stack=X.env::X.outer∧X.env.frame=some X.env.locals
section
variable{X:Cx}{pins:List (Addr×Obj)}{σ:St}{H:Hp}{s:Shared}{A:Around}{E:Value→Shared→Prop}{x C:Addr}{od T:Option Addr}{c:Bool}
theorem Inv.stir{h':Heap}{ch:List Addr}(I:Inv X pins σ H s)(hch:∀b∈ch,Loose X pins H b)(tp:Top X)
 (keep:∀b o,b∉ch→b∉frs X.stack→s.heap.get? b=some o→h'.get? b=some o) (slot:∀b o,b∉ch→s.heap.get? b=some o→∃sl,h'.get? b=some {o with slots:=sl})
 (nx:∀b∈ch,∃o,h'.get? b=some o):Inv X pins σ H {s with heap:=h'}:=by
 have mem:∀b,b≠X.env.locals→b∉X.fs→b∉frs X.stack:=fun b h1 h2 h3=>by
  rcases List.mem_cons.mp (I.stkSub b h3)with z |z
  ·exact h1 z
  ·exact h2 z
 refine I.step (g':=s.gens) (d':=s.drawn) (t':=s.toks) (ch:=ch) (fun b hb=>⟨.inr (hch b hb).yng,(hch b hb).ne,(hch b hb).cell,(hch b hb).pin⟩) (fun b o h1 h2 h3 e _=>keep b o h3 (mem b h1 h2) e) (fun b o _ _ h3 e _=>slot b o h3 e) (fun b o _ _ n=>n)
  (fun b o h3 e=>by obtain ⟨sl,q⟩:=slot b o h3 e;exact ⟨_,q⟩) (fun _ _ e=>e) (fun _ _ _ e=>e) (fun b ps e=>⟨#[],by rw[e];simp⟩) (fun m hm=>?_) (fun b u e=>?_) I.bare
 ·obtain ⟨o,es,ep,ho,r⟩:=hm;obtain ⟨sl,q⟩:=slot _ o (fun z=>(hch _ z).ne rfl) ho;exact ⟨_,es,ep,q,r⟩
 ·have nch:∀c v,H c=some v→c∉ch:=fun c v q z=>by rw[(hch c z).free]at q;cases q
  have nfr:∀c v,H c=some v→c∉frs X.stack:=fun c v q z=>by rw[I.stkFree c z]at q;cases q
  refine (I.hok b u e).stay (fun c v hc q=>?_) (fun _ q=>q) fun _ _ q=>q
  rcases hc with z |z
  ·subst z;exact keep c v (nch c _ e) (nfr c _ e) q
  ·exact keep c v (nch c _ z) (nfr c _ z) q
theorem Inv.loose_new(I:Inv X pins σ H s){t:Addr}(h:s.heap.objs.size≤t):Loose X pins H t:=
 ⟨I.hok.fresh h,Nat.ne_of_gt (Nat.lt_of_lt_of_le I.lt h),Nat.le_trans I.sz h,fun y c e=>by obtain ⟨v,z⟩:=I.cell y c e;exact Nat.ne_of_lt (Nat.lt_of_lt_of_le z.lt h),fun p hp=>Nat.ne_of_lt (Nat.lt_of_lt_of_le (Heap.lt_size (I.pin p hp).1) h)⟩
theorem l0o{M:Model}{Q:Unit→Shared→Prop}{head:Value}{hadNext:Bool}(I:Inv X pins σ H s)(tp:Top X)(hA:A.frames=some X.stack)(f:Fly c s.heap x C od T)(lx:Loose X pins H x)
 (h:∀s' t,Inv X pins σ H s'→Fly c s'.heap x C od (some t)→Loose X pins H t→Q () s'):
 wpAny M A (do let a←frameOf X.env;let pl←entryPlaceOf X.env.locals hadNext;let b←EntryCells.newEntry head a .none (rawInt X.env.locals) .none pl;setField (.ref x) 1 b) Q E s:=by
 obtain ⟨t1,tf⟩:=id tp;rw[t1]at hA;have hlF:s.heap.FunFrames X.base (X.env::X.outer):=t1▸I.stack;obtain ⟨o,vs,hx,hc,hd,hdat,hsz,_⟩:=f;refine f0f hA hlF tf hx hdat hsz.1 fun h' t k1 k2 k3 k4 ⟨ot,ts,k5,k6,k7⟩=>h _ t ?_ ?_ (I.loose_new k4)
 ·refine I.stir (ch:=[x]) (fun b hb=>by rw[List.mem_singleton.mp hb];exact lx) tp (fun b o hb hf e=>k1 b o (fun z=>hb (by simp[z])) (by rw[←t1];exact hf) e) (fun b o hb e=>k2 b o e fun z=>hb (by simp[z])) (fun b hb=>by rw[List.mem_singleton.mp hb];exact ⟨_,k3⟩)
 ·have hne:t≠x:=Nat.ne_of_gt (Nat.lt_of_lt_of_le (Heap.lt_size hx) k4);refine ⟨_,_,k3,(Obj.cls_mapFields _ _).trans hc,(s0d _ _).trans hd,Obj.data_mapFields hdat _,⟨by simpa using hsz.1,fun z=>by simpa using hsz.2 z⟩,by simp[hsz.1],hne,ot,ts,k5,k6,k7⟩
theorem n0j{M:Model}{Q:Unit→Shared→Prop}(I:Inv X pins σ H s)(tp:Top X)(hA:A.frames=some X.stack)(f:Fly c s.heap x C od T)(lx:Loose X pins H x)(lt:∀t,T=some t→Loose X pins H t)
 (h:∀s' t,Inv X pins σ H s'→Fly c s'.heap x C od (some t)→Loose X pins H t→Q () s'):wpAny M A (noteFrame (.ref x) X.env) Q E s:=by
 obtain ⟨o,vs,hx,hc,hd,hdat,hsz,hT⟩:=id f;unfold noteFrame;simp only[tp.2];cases T with
 |none=>
  refine wpAny_bind (wpAny_field hx hdat hT ?_);rw[if_neg (by decide)];exact l0o I tp hA f lx h
 |some t=>
  obtain ⟨h1,hne,ot,ts,ht,htd,hts⟩:=hT;have lt:=lt t rfl;refine wpAny_bind (wpAny_field hx hdat h1 ?_);rw[if_pos (show (Value.ref t !=Value.none)=true from by simp)];have h3:ts[3]?=some ts[3]:=by simp[hts]
  refine wpAny_bind (wpAny_field ht htd h3 ?_);by_cases q:(ts[3]==rawInt X.env.locals)=true
  ·rw[if_pos q];exact wpAny_pure (h s t I f lt)
  ·rw[if_neg q];refine wpAny_bind (wpAny_setField ht htd hts ?_);have other:∀b,b≠t→(s.heap.update t (Obj.mapFields (·.setIfInBounds 3 Value.none))).get? b=s.heap.get? b:=fun b hb=>Heap.get?_update_other _ _ (Ne.symm hb)
   have ht':=Heap.get?_update_self (Obj.mapFields (·.setIfInBounds 3 Value.none)) ht (Obj.isFreed_of_fields (Obj.data_mapFields htd _));have I1:Inv X pins σ H {s with heap:=s.heap.update t (Obj.mapFields (·.setIfInBounds 3 Value.none))}:=
    I.stir (ch:=[t]) (fun b hb=>by rw[List.mem_singleton.mp hb];exact lt) tp (fun b o hb hf e=>(other b fun z=>hb (by simp[z])).trans e) (fun b o hb e=>⟨o.slots,(other b fun z=>hb (by simp[z])).trans e⟩) (fun b hb=>by rw[List.mem_singleton.mp hb];exact ⟨_,ht'⟩)
   exact l0o (T:=some t) I1 tp hA ⟨o,vs,(other x (Ne.symm hne)).trans hx,hc,hd,hdat,hsz,h1,hne,_,_,ht',Obj.data_mapFields htd _,by simpa using hts⟩ lx h
theorem w0u{M:Model}{fr:Option Addr}{Q:Unit→Shared→Prop}(I:Inv X pins σ H s)(tp:Top X)(f:Fly c s.heap x C od T)(lt:∀t,T=some t→Loose X pins H t)
 (h:∀s',Inv X pins σ H s'→Fly c s'.heap x C od T→Q () s'):wpAny M A (setFlight (.ref x) fr) Q E s:=by
 obtain ⟨o,vs,hx,hc,hd,hdat,hsz,hT⟩:=id f;unfold setFlight;cases T with
 |none=>
  refine wpAny_bind (wpAny_field hx hdat hT ?_);rw[if_neg (by decide)];exact wpAny_pure (h s I f)
 |some t=>
  obtain ⟨h1,hne,ot,ts,ht,htd,hts⟩:=hT;have lt:=lt t rfl;refine wpAny_bind (wpAny_field hx hdat h1 ?_);rw[if_pos (show (Value.ref t !=Value.none)=true from by simp)];refine wpAny_setField ht htd hts (h _ ?_ ?_)
  ·have other:∀b,b≠t→(s.heap.update t (Obj.mapFields (·.setIfInBounds 3 (fr.elim Value.none fun f=>rawInt f)))).get? b=s.heap.get? b:=fun b hb=>Heap.get?_update_other _ _ (Ne.symm hb)
   have ht':=Heap.get?_update_self (Obj.mapFields (·.setIfInBounds 3 (fr.elim Value.none fun f=>rawInt f))) ht (Obj.isFreed_of_fields (Obj.data_mapFields htd _));exact I.stir (ch:=[t]) (fun b hb=>by rw[List.mem_singleton.mp hb];exact lt) tp (fun b o hb hf e=>(other b fun z=>hb (by simp[z])).trans e) (fun b o hb e=>⟨o.slots,(other b fun z=>hb (by simp[z])).trans e⟩) (fun b hb=>by rw[List.mem_singleton.mp hb];exact ⟨_,ht'⟩)
  ·have ht':=Heap.get?_update_self (Obj.mapFields (·.setIfInBounds 3 (fr.elim Value.none fun f=>rawInt f))) ht (Obj.isFreed_of_fields (Obj.data_mapFields htd _));exact ⟨o,vs,(Heap.get?_update_other _ _ hne).trans hx,hc,hd,hdat,hsz,h1,hne,_,_,ht',Obj.data_mapFields htd _,by simpa using hts⟩
end
end L2
namespace L2
open PySem PySem.Spec PyProof.Rows
open PySem.W (XC)
noncomputable abbrev XW:=Addr→Option Addr→St→Hp→Prop
noncomputable def f0e(X:Cx)(pins:List (Addr×Obj))(W:XW)(e:Value)(s:Shared):Prop:=
 ∃x C od T σ H,e=.ref x∧Inv X pins σ H s∧Fly X.fl s.heap x C od T∧Loose X pins H x∧(∀t,T=some t→Loose X pins H t)∧W C od σ H
noncomputable def h8(X:Cx)(W:XW):Prop:=∀pins e s,f0e X pins W e s→X.xe e s
noncomputable def CXc(c:Bool)(P:Program)(w:World):CXT:=fun outer H s E e s'=>
 ∃x C od T H',e=.ref x∧s'.os=s.os∧AllBare s'.gens∧Un (frs outer) [] H H' s.heap s'.heap∧HOk P w H' s'.heap∧Fly c s'.heap x C od T∧H' x=none∧s.heap.objs.size≤x∧(∀t,T=some t→H' t=none∧s.heap.objs.size≤t)∧E (.ref C) od H'
noncomputable abbrev CX1(P:Program)(w:World):CXT:=CXc true P w
theorem Fly.weak{h:Heap}{x C:Addr}{od T:Option Addr}{c:Bool}(f:Fly true h x C od T):Fly c h x C od T:=by
 obtain ⟨o,vs,hx,hc,hd,hdat,hsz,hT⟩:=f;exact ⟨o,vs,hx,hc,hd,hdat,⟨hsz.1,fun _=>hsz.2 rfl⟩,hT⟩
section
variable{X:Cx}{pins:List (Addr×Obj)}{σ:St}{H:Hp}{s:Shared}{A:Around}{E:Value→Shared→Prop}
theorem r0b{W:XW}{e:Value}{s':Shared}(I:Inv X pins σ H s)(h:CX1 X.prog X.w X.stack H s (fun Cv od H'=>∃C,Cv=.ref C∧W C od σ H') e s'):f0e X pins W e s':=by
 obtain ⟨x,C,od,T,H',rfl,os,bare,un,hok,f,hx,hy,ht,C',ec,q⟩:=h;cases ec;have I':Inv X pins σ H' s':=I.call' (ch:=[]) os un hok bare fun b z=>by cases z
 have ls:∀t,H' t=none→s.heap.objs.size≤t→Loose X pins H' t:=fun t h0 hz=>by
  have l:=I.loose_new hz;exact ⟨h0,l.ne,l.yng,l.cell,l.pin⟩
 exact ⟨x,C,od,T,σ,H',rfl,I',f.weak,ls x hx hy,fun t e=>ls t (ht t e).1 (ht t e).2,q⟩
noncomputable def p0e(sp:Sp)(W:XW)(t:TA):TE:=fun σ H Q=>t σ H fun vs H1=>sp vs H1 Q fun Cv od H'=>∃C,Cv=.ref C∧W C od σ H'
theorem b0h{k:Nat}{f:Addr}{fd:FuncData}{ps:List Str}{sp:Sp}{W:XW}{Q:VK}{us:List Value}{vs:List V}(F:FnOk X.prog X.w X.K X.mg X.base (CX1 X.prog X.w) k f fd ps sp)(hr:Room k X.A)(hb:Binds X.K fd ps [])(hf:h8 X W)
 (I:Inv X pins σ H s) (r:Vals vs us) (h:sp vs H Q fun Cv od H'=>∃C,Cv=.ref C∧W C od σ H'):wpAny (model X.prog X.w) X.A (call (.ref f) us) (EP X pins σ Q) X.xe s:=by
 have hl:(us++[]).length=ps.length:=by rw[List.append_nil,← r.length];exact F.len _ _ _ _ h
 have hbd:=hb s us I.kIn hl;rw[List.append_nil]at hbd;refine wpAny_call (codeAny_mono (F.run X.A X.stack s H ⟨us,[]⟩ us vs Q _ hr I.env0 hbd r h) fun r s' hq=>?_);cases r with
 |error e=>exact hf pins e s' (r0b I hq)
 |ok fl=>
  cases fl with
  |ret u=>exact I.after hq
  |next=>exact False.elim hq
  |brk=>exact False.elim hq
  |cont=>exact False.elim hq
theorem f0d{k:Nat}{f:Addr}{fd:FuncData}{ps:List Str}{sp:Sp}{W:XW}{x:Str}{p pos:Pos}{e:Expr}{es:List Expr}{t:TA}(F:FnOk X.prog X.w X.K X.mg X.base (CX1 X.prog X.w) k f fd ps sp)(hr:Room k X.A)(hg:Gl X x)(hm:X.mg x=some (.ref f))
 (hk:PySem.W.keepIn X.K (.ref f)=true) (hb:Binds X.K fd ps []) (hf:h8 X W)
 (ha:PA X (e::es) t) (hdb:(x==("__debug__":Str))=false:=by decide) (he:starEach (e::es) X.env=(false,eval e X.env)::starEach es X.env:=by rfl) (hpl:(backTo pos (starEach es X.env)).any (·.1)=false:=by rfl):
 PE X (.Call (.Name x p) (e::es) [] pos) (p0e sp W t):=by
 intro pins s σ H Q I h;refine wpAny_Call_Name_kw (z0v I hg hm ?_ hdb);refine PySem.W.callWith_K (h₀:=X.base) I.ok.mod.kin hk (thn (ha pos pins s σ H _ I h) fun us s1 ⟨vs,H1,I1,r,q⟩=>⟨I1.kIn,?_⟩) he hpl;exact b0h F hr hb hf I1 r q
noncomputable def tMakeX(C:Addr)(sp:Sp)(W:XW)(t:TA):TE:=fun σ H Q=>t σ H fun vs H1=>∀x dx,H1 x=none→H1 dx=none→dx≠x→
 sp (.ref x::vs) (upd (upd H1 dx (.own x)) x (.ins C dx [])) (fun v H2=>v=.non∧Q (.ref x) H2) fun Cv od H'=>∃C,Cv=.ref C∧W C od σ H'
theorem f0c{k:Nat}{f C:Addr}{fd:FuncData}{ps:List Str}{sp:Sp}{W:XW}{x:Str}{p pos:Pos}{e:Expr}{es:List Expr}{t:TA}(M:Mk X.K C f)(F:FnOk X.prog X.w X.K X.mg X.base (CX1 X.prog X.w) k f fd ps sp)(hr:Room (k+1) X.A)(hg:Gl X x)
 (hm:X.mg x=some (.ref C)) (hb:Binds X.K fd ps []) (hf:h8 X W)
 (ha:PA X (e::es) t) (hdb:(x==("__debug__":Str))=false:=by decide) (he:starEach (e::es) X.env=(false,eval e X.env)::starEach es X.env:=by rfl) (hpl:(backTo pos (starEach es X.env)).any (·.1)=false:=by rfl):
 PE X (.Call (.Name x p) (e::es) [] pos) (tMakeX C sp W t):=by
 intro pins s σ H Q I h;refine wpAny_Call_Name_kw (z0v I hg hm ?_ hdb);refine PySem.W.callWith_K (h₀:=X.base) I.ok.mod.kin M.kp (thn (ha pos pins s σ H _ I h) fun us s1 ⟨vs,H1,I1,r,q⟩=>⟨I1.kIn,?_⟩) he hpl;have hq:=q (s1.heap.objs.size+1) s1.heap.objs.size (I1.hok.fresh (Nat.le_succ _)) (I1.hok.fresh (Nat.le_refl _)) (Nat.ne_of_lt (Nat.lt_succ_self _));have I2:=Inv.made (C:=C) I1;have r2:Vals (V.ref (s1.heap.objs.size+1)::vs) (Value.ref (s1.heap.objs.size+1)::us):=.cons rfl r;have hl:(Value.ref (s1.heap.objs.size+1)::us++[]).length=ps.length:=by
  have e:=r2.length;rw[F.len _ _ _ _ hq]at e;rw[List.append_nil];exact e.symm
 have hbd:=hb _ (Value.ref (s1.heap.objs.size+1)::us) I2.kIn hl;rw[List.append_nil]at hbd;refine wpAny_call (f0p (f:=f) I1.kIn M.makes M.init (beq_iff_eq.mp M.fn) (codeAny_mono (F.run _ X.stack _ _ ⟨Value.ref (s1.heap.objs.size+1)::us,[]⟩ (Value.ref (s1.heap.objs.size+1)::us) _ _ _ (hr.make C us [])
  (I2.env0.make C us []) hbd r2 hq) fun r s' hq'=>?_))
 cases r with
 |error e=>exact hf pins e s' (r0b I2 hq')
 |ok fl=>
  cases fl with
  |ret u=>
   obtain ⟨v,H',I3,rv,ev,q3⟩:=I2.after hq';subst ev;exact ⟨rv,⟨V.ref (s1.heap.objs.size+1),H',I3,rfl,q3⟩⟩
  |next=>exact False.elim hq'
  |brk=>exact False.elim hq'
  |cont=>exact False.elim hq'
end
section
variable{P:Program}{w:World}{K:PySem.W.Frag}{mg:Str→Option Value}{base:Heap}
noncomputable abbrev cxX(P:Program)(w:World)(K:PySem.W.Frag)(mg:Str→Option Value)(base:Heap)(N:List Str)(qual:Str)(scope:Scope)(f:Addr)(cd:Value)(A:Around)(outer:List Env)(s:Shared)(H:Hp)(E:XK):Cx:=
 cxOf (CX1 P w) P w K mg base N qual scope f cd A outer s H E
theorem j0{N:List Str}{qual:Str}{scope:Scope}{f:Addr}{cd:Value}{A:Around}{outer:List Env}{s:Shared}{H:Hp}{E:XK}:h8 (cxX P w K mg base N qual scope f cd A outer s H E) fun C od _ H'=>E (.ref C) od H':=by
 intro pins e s' h;obtain ⟨x,C,od,T,σ,H',rfl,I,ff,lx,lt,q⟩:=h;have tp:Top (cxX P w K mg base N qual scope f cd A outer s H E):=⟨rfl,rfl⟩;show wpAny _ _ (leaving _ (.ref x)) _ _ _;unfold leaving;refine wpAny_bind (n0j I tp I.ok.frames ff lx lt fun s1 t I1 f1 l1=>w0u I1 tp f1 (fun t' e=>by cases e;exact l1) fun s2 I2 f2=>?_);exact ⟨x,C,od,some t,H',rfl,I2.os,I2.bare,I2.base,I2.hok,f2,lx.free,lx.yng,fun t' e=>by cases e;exact ⟨l1.free,l1.yng⟩,q⟩
theorem Fun.okX{x qual:Str}{st:Stmt}{f:Addr}{fd:FuncData}{N ps:List Str}{k:Nat}{sp:Sp}(F:Fun K x qual st f fd)(S:FnScope N ps (defScope st))(len:∀vs H Q E,sp vs H Q E→vs.length=ps.length)
 (hbody:∀(cdv:Value) (A:Around) (outer:List Env) (s:Shared) (H:Hp) (vs:List V) (Q:VK) (E:XK),Room k (A.deeper (envOfC qual (defScope st) s.heap.objs.size f cdv))→sp vs H Q E→
  ∃t,PSs (cxX P w K mg base N qual (defScope st) f cdv A outer s H E) (defBody st) t∧t {nx:=fun _ H'=>Q .non H',rt:=Q} (start N vs) H):FnOk P w K mg base (CX1 P w) (k+1) f fd ps sp:=by
 obtain ⟨oc,od,kV,doc,pm,an,cdv,ct,osl,rfl,lk,hcd⟩:=F.ex;exact fn_of lk hcd S len fun A outer s H vs Q E hr hsp=>hbody cdv A outer s H vs Q E hr hsp
end
section
variable{X:Cx}{pins:List (Addr×Obj)}{σ:St}{H:Hp}{s:Shared}
noncomputable def drop(H:Hp)(x:Addr):Hp:=fun b=>if b=x then none else H b
theorem y0p{H:Hp}{x b:Addr}(h:b≠x):drop H x b=H b:=if_neg h
theorem a9{H:Hp}{x:Addr}:drop H x x=none:=if_pos rfl
theorem Inv.drop{φ:Heap→Prop}{x:Addr}(I:Inv X pins σ H s)(e:H x=some (.ext φ)):Inv X pins σ (drop H x) s:=by
 have ne:∀b u,H b=some u→(∀ ψ,u≠.ext ψ)→b≠x:=fun b u q n z=>by rw[z,e]at q;exact n φ (Option.some.inj q).symm
 have nn:∀b,H b=none→L2.drop H x b=none:=fun b q=>by
  by_cases z:b=x
  ·rw[z];exact a9
  ·rw[y0p z];exact q
 have hown:∀b a,H b=some (.own a)→L2.drop H x b=some (.own a):=fun b a q=>by rw[y0p (ne b _ q fun ψ z=>by cases z)];exact q
 have htup:∀b xs,H b=some (.tup xs)→L2.drop H x b=some (.tup xs):=fun b xs q=>by rw[y0p (ne b _ q fun ψ z=>by cases z)];exact q
 refine ⟨I.ok,I.os,I.bare,⟨I.base.keep,I.base.slot,fun b o q n hx=>nn b (I.base.free b o q n hx),I.base.there,fun b xs q=>htup b xs (I.base.tups b xs q),fun b o u q=>?_,fun b ps q=>?_⟩,I.loc,I.cell,nn _ I.free,fun y c q=>nn c (I.freeC y c q),fun p hp=>?_,fun b u q=>?_,I.len⟩
 ·have z:=I.base.frzs b o u q;rw[y0p (ne b _ z fun ψ z=>by cases z)];exact z
 ·obtain ⟨m,z⟩:=I.base.tbls b ps q;exact ⟨m,by rw[y0p (ne b _ z fun ψ z=>by cases z)];exact z⟩
 ·obtain ⟨a,b,c⟩:=I.pin p hp;exact ⟨a,nn _ b,c⟩
 ·have hb:b≠x:=fun z=>by rw[z,a9]at q;cases q
  rw[y0p hb]at q;exact (I.hok b u q).stay (fun _ _ _ z=>z) (fun c z=>hown c _ z) fun c xs z=>htup c xs z
theorem p0d{M:Model}{A:Around}{E:Value→Shared→Prop}{env:Env}{xt:Sem Value}{Q:Flow→Shared→Prop}{C:Addr}{s:Shared}(hh:A.handled=none)
 (h:wpAny M A xt (fun v s1=>∃e od vs nm qn N bs bm hdct sn sub ab col dd k0 k1 k2 k3 k5 nid,v=.ref e∧s1.heap.get? C=some (excClassObj nm qn C N bs bm hdct sn sub ab col dd k0 k1 k2 k3 k5 nid)∧bm.contains (.type "BaseException")=true∧
  s1.heap.get? e=some ⟨.ref C,od,.fields vs,#[]⟩∧vs[1]?=some .none∧E (.ref e) s1) E s):
 wpAny M A (raiseStmt env (some xt) none) Q E s:=by
 unfold raiseStmt;refine wpAny_bind (wpAny_mono h (fun v s1 h1=>?_) fun _ _ x=>x);obtain ⟨e,od,vs,nm,qn,N,bs,bm,hdct,sn,sub,ab,col,dd,k0,k1,k2,k3,k5,nid,rfl,hC,hb,he,hv,hE⟩:=h1;have hcB:(Value.ref C::bm).contains (.type "BaseException")=true:=by rw[List.contains_cons,hb,Bool.or_true]
 obtain ⟨hp,g,d,tk,os⟩:=s1
 repeat (first |with_reducible refine wpAny_loadPart_at he ?_ |with_reducible refine wpAny_loadPart_at hC ?_ |(with_reducible refine wpAny_isSubtype_exc hC ?_;rw[hcB])|wp_step)
 rw[hv];refine wpAny_pure ?_;rw[if_neg (by decide)];exact wpAny_pure (wpAny_raiseNew_none hh hE)
theorem l0n{M:Model}{C x:Addr}{od:Option Addr}{W:XW}(hf:h8 X W)(I:Inv X pins σ H s)(e:H x=some (XO 1 x C od))(hK:xcIn X.K C=true)(hy:X.s₀.heap.objs.size≤x)(q:W C od σ (L2.drop H x)):
 ∃e' od' vs nm qn N bs bm hdct sn sub ab col dd k0 k1 k2 k3 k5 nid,Value.ref x=.ref e'∧s.heap.get? C=some (excClassObj nm qn C N bs bm hdct sn sub ab col dd k0 k1 k2 k3 k5 nid)∧bm.contains (.type "BaseException")=true∧
  s.heap.get? e'=some ⟨.ref C,od',.fields vs,#[]⟩∧vs[1]?=some .none∧X.xe (.ref e') s:=by
 obtain ⟨o,vs,hx,h1,h2,h3,h40⟩:=XO.get I.hok e;obtain ⟨h4,h5⟩:=h40.1 rfl;have h6:=h40.2;clear h40;obtain ⟨nm,qn,N,bs,bm,hdct,sn,sub,ab,col,dd,k0,k1,k2,k3,k5,hC,hT⟩:=i0r I.kIn hK;have I':=Inv.drop I e;obtain ⟨oc,odd,odt,osl⟩:=o;dsimp only at h1 h2 h3 h4;subst h1 h2 h3 h4;refine ⟨x,odd,vs,nm,qn,N,bs,bm,hdct,sn,sub,ab,col,dd,k0,k1,k2,k3,k5,_,rfl,hC,hT.hasType rfl,hx,h5,?_⟩;refine hf pins _ _ ⟨x,C,odd,none,σ,_,rfl,I',⟨_,vs,hx,rfl,rfl,rfl,⟨(Array.getElem?_eq_some_iff.mp h5).1,fun _=>h6 (by decide)⟩,h5⟩,⟨a9,fun z=>?_,hy,fun y c q z=>?_,fun p hp z=>?_⟩,(fun t z=>by cases z),q⟩
 ·have:=I.free;rw[←z,e]at this;cases this
 ·have:=I.freeC y c q;rw[z,e]at this;cases this
 ·have:=(I.pin p hp).2.1;rw[z,e]at this;cases this
noncomputable def i0q(C:Addr)(sp:Sp)(W:XW)(t:TA):TS:=fun _ σ H=>t σ H fun vs H1=>vs.length≤sizeLine∧∀x,H1 x=none→
 sp (.ref x::vs) (upd H1 x (XO 1 x C none)) (fun v H2=>v=.non∧∃od,H2 x=some (XO 1 x C od)∧W C od σ (L2.drop H2 x)) E0
noncomputable def b0g(C:Addr)(W:XW):TS:=fun _ σ H=>∀x,H x=none→W C none σ (L2.drop (upd H x (XO 1 x C none)) x)
theorem i0p{k:Nat}{f C:Addr}{fd:FuncData}{ps:List Str}{sp:Sp}{W:XW}{x:Str}{p cpos pos:Pos}{e:Expr}{es:List Expr}{t:TA}(hc:X.calm=true)(hf:h8 X W)(M:XMk X.K C f)(F:FnOk X.prog X.w X.K X.mg X.base CX0 k f fd ps sp)(hr:Room (k+1) X.A)
 (hg:Gl X x) (hm:X.mg x=some (.ref C)) (hb:Binds X.K fd ps [])
 (ha:PA X (e::es) t) (hdb:(x==("__debug__":Str))=false:=by decide) (he:starEach (e::es) X.env=(false,eval e X.env)::starEach es X.env:=by rfl) (hpl:(backTo cpos (starEach es X.env)).any (·.1)=false:=by rfl):
 PS X (.Raise (some (.Call (.Name x p) (e::es) [] cpos)) none pos) (i0q C sp W t):=by
 intro pins s σ H D I h;show wpAny _ _ (do standAt pos;raiseStmt X.env (some (do let v←eval (.Call (.Name x p) (e::es) [] cpos) X.env;standAt pos;pure v)) none) _ _ _;refine wpAny_bind (wpAny_standAt (p0d (C:=C) (I.ok.hd hc) (wpAny_bind (thn (Q:=fun v s1=>∃x H2 od,v=.ref x∧X.s₀.heap.objs.size≤x∧Inv X pins σ H2 s1∧H2 x=some (XO 1 x C od)∧W C od σ (L2.drop H2 x)) ?_ fun v s1 ⟨x,H2,od,ev,hy,I2,e2,q2⟩=>wpAny_bind (wpAny_standAt (wpAny_pure ?_))))))
 ·refine wpAny_Call_Name_kw (z0v I hg hm ?_ hdb);refine PySem.W.callWith_K (h₀:=X.base) I.ok.mod.kin M.kp (thn (ha cpos pins s σ H _ I h) fun us s1 ⟨vs,H1,I1,r,hz,q⟩=>⟨I1.kIn,?_⟩) he hpl;refine thn (p0g (Q:=fun v H2=>∃od,H2 (s1.heap.objs.size+1)=some (XO 1 (s1.heap.objs.size+1) C od)∧W C od σ (L2.drop H2 (s1.heap.objs.size+1))) M F hr hb (pass0 (X:=X)) I1 r hz (q _ (I1.hok.fresh (Nat.le_succ _)))) fun v s2 ⟨ev,y,H2,I2,ry,od,q1,q2⟩=>?_
  exact ⟨_,H2,od,ev,Nat.le_trans I1.sz (Nat.le_succ _),I2,q1,q2⟩
 ·subst ev;exact l0n (M:=model X.prog X.w) hf I2 e2 M.sh hy q2
theorem i0o{C:Addr}{W:XW}{x:Str}{p cpos pos:Pos}(hc:X.calm=true)(hf:h8 X W)(M:XMk0 X.K C)(hK:xcIn X.K C=true)(hg:Gl X x)(hm:X.mg x=some (.ref C))(hdb:(x==("__debug__":Str))=false:=by decide):
 PS X (.Raise (some (.Call (.Name x p) [] [] cpos)) none pos) (b0g C W):=by
 intro pins s σ H D I h;show wpAny _ _ (do standAt pos;raiseStmt X.env (some (do let v←eval (.Call (.Name x p) [] [] cpos) X.env;standAt pos;pure v)) none) _ _ _;refine wpAny_bind (wpAny_standAt (p0d (C:=C) (I.ok.hd hc) (wpAny_bind (thn (Q:=fun v s1=>∃x H2,v=.ref x∧X.s₀.heap.objs.size≤x∧Inv X pins σ H2 s1∧H2 x=some (XO 1 x C none)∧W C none σ (L2.drop H2 x)) ?_ fun v s1 ⟨x,H2,ev,hy,I2,e2,q2⟩=>wpAny_bind (wpAny_standAt (wpAny_pure ?_))))))
 ·refine wpAny_Call_Name_kw (z0v I hg hm ?_ hdb);refine PySem.W.callWith_K0 I.kIn M.kp (thn (l0q (Q:=fun v H2=>v=.ref (s.heap.objs.size+1)∧H2 (s.heap.objs.size+1)=some (XO 1 (s.heap.objs.size+1) C none)∧W C none σ (L2.drop H2 (s.heap.objs.size+1))) M I ⟨rfl,o3,h _ (I.hok.fresh (Nat.le_succ _))⟩) fun v s2 ⟨y,H2,I2,ry,ey,q1,q2⟩=>?_);subst ey;exact ⟨_,H2,ry,Nat.le_trans I.sz (Nat.le_succ _),I2,q1,q2⟩
 ·subst ev;exact l0n (M:=model X.prog X.w) hf I2 e2 hK hy q2
end
end L2
namespace L2
open PySem PySem.Spec PyProof.Rows
open PySem.W (XC)
section
variable{X:Cx}{pins:List (Addr×Obj)}{σ:St}{H:Hp}{s:Shared}
theorem r0a{M:Model}{A:Around}{E:Value→Shared→Prop}{i:Nat}{n:Str}{pos:Pos}{Q:Unit→Shared→Prop}(I:Inv X pins σ H s)(hN:X.N.Nodup)(hi:X.N[i]?=some n)(hk:X.env.scope.names.lookup n=some .local)
 (h:∀s',Inv X pins (σ.set i none) H s'→Q () s'):wpAny M A (do bindName X.env n .none;unbindBehindTheSuite X.env n pos) Q E s:=by
 have hcls:(X.env.scope.kind== .class||(X.env.scope.kind== .module&&X.env.locals !=X.env.globals))=false:=by rw[I.ok.kind];rfl
 refine wpAny_bind (wpAny_bindName (w0v (v:=.non) I hN hi (.inl hk) rfl (fun s1 I1=>?_) (.inr hk)));unfold unbindBehindTheSuite;refine wpAny_onRaise ?_;obtain ⟨m,hn,hl⟩:=id I1.loc;have hiσ:i<σ.length:=by rw[I.len];exact (List.getElem?_eq_some_iff.mp hi).1
 obtain ⟨u,ru,l⟩:=hl i n .non hi (List.getElem?_set_self hiσ) (.inl hk);have hm:m n=some u:=by
  rcases l with ⟨_,z⟩|⟨z,_⟩
  ·exact z
  ·have z':X.env.scope.names.lookup n=some .cell∨X.env.scope.names.lookup n=some .free:=z;rw[hk]at z';rcases z' with z' |z'<;>cases z'
 refine wpAny_unbindName_local hk hn hm hcls fun h' w hn' hs=>h _ ?_
 have cne:=I1.cne;obtain ⟨oL,_,_,hoL,_⟩:=id hn;have up:∀b,X.s₀.heap.objs.size≤X.env.locals→∀o,X.s₀.heap.get? b=some o→b≠X.env.locals:=fun b hz o e=>Nat.ne_of_lt (Nat.lt_of_lt_of_le (Heap.lt_size e) hz)
 refine ⟨I1.ok,I1.os,I1.bare,⟨fun b o e n hb hx=>?_,fun b o e n hb hx=>?_,I1.base.free,fun b o e hx=>?_,I1.base.tups,I1.base.frzs,I1.base.tbls⟩,⟨_,hn',fun j y v' e1 e2 e3=>?_⟩,fun y c e=>?_,I1.free,I1.freeC,fun p hp=>?_,fun b ob e=>?_,?_⟩
 ·exact (hs.2 b (up b I1.ok.above o e)).trans (I1.base.keep b o e n hb hx)
 ·obtain ⟨sl,q⟩:=I1.base.slot b o e n hb hx;exact ⟨sl,(hs.2 b (up b I1.ok.above o e)).trans q⟩
 ·obtain ⟨o',q⟩:=I1.base.there b o e hx;exact ⟨o',(hs.2 b (up b I1.ok.above o e)).trans q⟩
 ·by_cases hj:j=i
  ·subst hj;rw[List.getElem?_set_self hiσ]at e2;cases e2
  ·rw[List.getElem?_set_ne (Ne.symm hj)]at e2;obtain ⟨u',r',q⟩:=hl j y v' e1 (by rw[List.getElem?_set_ne (Ne.symm hj)];exact e2) e3;refine ⟨u',r',?_⟩;rcases q with ⟨k,e⟩|⟨k,c,e,z⟩
   ·refine .inl ⟨k,?_⟩;have:y≠n:=fun e=>hj (r0d hN e1 (e▸hi))
    simp[this,e]
   ·exact .inr ⟨k,c,e,z.sameBut hs (cne y c e)⟩
 ·obtain ⟨w',z⟩:=I1.cell y c e;exact ⟨w',z.sameBut hs (cne y c e)⟩
 ·obtain ⟨e,n,ne,nf,d⟩:=I1.pin p hp;exact ⟨(hs.2 p.1 ne).trans e,n,ne,nf,d⟩
 ·refine (I1.hok b ob e).stay (fun c w' hc q=>(hs.2 c ?_).trans q) (fun _ q=>q) fun _ _ q=>q
  intro z;have fr:=I1.free;rw[←z]at fr;rcases hc with hc |hc
  ·rw[hc,e]at fr;cases fr
  ·rw[hc]at fr;cases fr
 ·rw[List.length_set];exact I.len
noncomputable abbrev Cx.more(X:Cx)(pins:List (Addr×Obj)):Cx:={X with pn:=X.pn++pins}
noncomputable abbrev Cx.tr(X:Cx)(pins:List (Addr×Obj))(W:XW):Cx:={X with pn:=X.pn++pins,xe:=fun e s'=>f0e (X.more pins) [] W e s'}
noncomputable abbrev Cx.hdl(X:Cx)(x:Addr):Cx:={X with A:=X.A.mark (some (.ref x)),calm:=false,fl:=false,xe:=fun _ _=>False}
theorem okMore(ok:X.Ok):(X.more pins).Ok:=⟨ok.mod,ok.kind,ok.glob,ok.blt,ok.above,ok.inj,ok.has,ok.cab,ok.hd,ok.frames,ok.stk,ok.exf,ok.bs,ok.bsz,ok.noex,ok.exfs,ok.funs,ok.frf⟩
theorem Inv.tr{W:XW}(I:Inv X pins σ H s):Inv (X.tr pins W) [] σ H s:=
 ⟨⟨I.ok.mod,I.ok.kind,I.ok.glob,I.ok.blt,I.ok.above,I.ok.inj,I.ok.has,I.ok.cab,I.ok.hd,I.ok.frames,I.ok.stk,I.ok.exf,I.ok.bs,I.ok.bsz,I.ok.noex,I.ok.exfs,I.ok.funs,I.ok.frf⟩,I.os,I.bare,I.base,I.loc,I.cell,I.free,I.freeC,fun p hp=>I.pin p (by simpa using hp),I.hok,I.len⟩
theorem Inv.untr{pins':List (Addr×Obj)}{Y:Cx}{W:XW}(hY:Y=X.tr pins W∨Y=X.more pins)(I:Inv Y pins' σ H s):Inv X pins σ H s:=by
 rcases hY with rfl |rfl
 ·exact ⟨⟨I.ok.mod,I.ok.kind,I.ok.glob,I.ok.blt,I.ok.above,I.ok.inj,I.ok.has,I.ok.cab,I.ok.hd,I.ok.frames,I.ok.stk,I.ok.exf,I.ok.bs,I.ok.bsz,I.ok.noex,I.ok.exfs,I.ok.funs,I.ok.frf⟩,I.os,I.bare,I.base,I.loc,I.cell,I.free,I.freeC,fun p hp=>I.pin p (List.mem_append_left _ hp),I.hok,I.len⟩
 ·exact ⟨⟨I.ok.mod,I.ok.kind,I.ok.glob,I.ok.blt,I.ok.above,I.ok.inj,I.ok.has,I.ok.cab,I.ok.hd,I.ok.frames,I.ok.stk,I.ok.exf,I.ok.bs,I.ok.bsz,I.ok.noex,I.ok.exfs,I.ok.funs,I.ok.frf⟩,I.os,I.bare,I.base,I.loc,I.cell,I.free,I.freeC,fun p hp=>I.pin p (List.mem_append_left _ hp),I.hok,I.len⟩
theorem Inv.hdl{x:Addr}(I:Inv X pins σ H s):Inv (X.hdl x) pins σ H s:=
 ⟨⟨I.ok.mod,I.ok.kind,I.ok.glob,I.ok.blt,I.ok.above,I.ok.inj,I.ok.has,I.ok.cab,(fun z=>by cases z),I.ok.frames,I.ok.stk,I.ok.exf,I.ok.bs,I.ok.bsz,I.ok.noex,I.ok.exfs,I.ok.funs,I.ok.frf⟩,I.os,I.bare,I.base,I.loc,I.cell,I.free,I.freeC,I.pin,I.hok,I.len⟩
theorem Inv.unhdl{x:Addr}(ok:X.Ok)(I:Inv (X.hdl x) pins σ H s):Inv X pins σ H s:=⟨ok,I.os,I.bare,I.base,I.loc,I.cell,I.free,I.freeC,I.pin,I.hok,I.len⟩
theorem u0k{W:XW}:h8 (X.tr pins W) W:=by
 intro pins' e s' h;obtain ⟨x,C,od,T,σ,H',rfl,I,f,lx,lt,q⟩:=h;have ls:∀t,Loose (X.tr pins W) pins' H' t→Loose (X.more pins) [] H' t:=fun t l=>⟨l.free,l.ne,l.yng,l.cell,fun p hp=>l.pin p (List.mem_append_left _ (by simpa using hp))⟩
 have I0:Inv X pins σ H' s':=I.untr (W:=W) (.inl rfl);exact ⟨x,C,od,T,σ,H',rfl,⟨okMore I0.ok,I.os,I.bare,I.base,I.loc,I.cell,I.free,I.freeC,fun p hp=>I0.pin p (by simpa using hp),I.hok,I.len⟩,f,ls x lx,fun t e=>ls t (lt t e),q⟩
theorem SP.untr{W:XW}{D:Ends}{f:Flow}{s':Shared}(h:SP (X.tr pins W) [] D f s'):SP X pins D f s':=by
 cases f with
 |next=>obtain ⟨σ',H',I,q⟩:=h;exact ⟨σ',H',I.untr (W:=W) (.inl rfl),q⟩
 |brk=>obtain ⟨σ',H',I,q⟩:=h;exact ⟨σ',H',I.untr (W:=W) (.inl rfl),q⟩
 |cont=>obtain ⟨σ',H',I,q⟩:=h;exact ⟨σ',H',I.untr (W:=W) (.inl rfl),q⟩
 |ret u=>obtain ⟨v,σ',H',I,r,q⟩:=h;exact ⟨v,σ',H',I.untr (W:=W) (.inl rfl),r,q⟩
theorem SP.unhdl{x:Addr}{D:Ends}{f:Flow}{s':Shared}(ok:X.Ok)(h:SP (X.hdl x) pins D f s'):SP X pins D f s':=by
 cases f with
 |next=>obtain ⟨σ',H',I,q⟩:=h;exact ⟨σ',H',I.unhdl ok,q⟩
 |brk=>obtain ⟨σ',H',I,q⟩:=h;exact ⟨σ',H',I.unhdl ok,q⟩
 |cont=>obtain ⟨σ',H',I,q⟩:=h;exact ⟨σ',H',I.unhdl ok,q⟩
 |ret u=>obtain ⟨v,σ',H',I,r,q⟩:=h;exact ⟨v,σ',H',I.unhdl ok,r,q⟩
noncomputable abbrev XTS:=Addr→Option Addr→TS
noncomputable def PH(X:Cx)(hs:List ExceptHandler)(t:XTS):Prop:=∀(pins:List (Addr×Obj)) (x C:Addr) (od T:Option Addr) (s:Shared) (σ:St) (H:Hp) (D:Ends),Inv X pins σ H s→Fly X.fl s.heap x C od T→Loose X pins H x→(∀t,T=some t→Loose X pins H t)→t C od D σ H→
 wpAny (model X.prog X.w) X.A (handleBy (.ref x) X.env hs) (SP X pins D) X.xe s
theorem ph_nil:PH X [] fun _ _ _ _ _=>False:=fun _ _ _ _ _ _ _ _ _ _ _ _ _ h=>h.elim
structure XHd(K:PySem.W.Frag)(D:Addr):Prop where
 ty:PySem.W.typeIn K (.ref D)=some (.type "type")
 cl:(PySem.W.clsIn K D).isSome=true
 sub:PySem.W.mroIn K D (.type "BaseException")=some true
theorem i0n{A:Around}{E:Value→Shared→Prop}{x C D:Addr}{od T:Option Addr}{b:Bool}{Q:Bool→Shared→Prop}(I:Inv X pins σ H s)(f:Fly X.fl s.heap x C od T)(d:XHd X.K D)(hb:PySem.W.mroIn X.K C (.ref D)=some b)(q:Q b s):
 wpAny (model X.prog X.w) A (excMatches (.ref x) (.ref D)) Q E s:=by
 obtain ⟨o,vs,hx,hc,_⟩:=f;have L1:=PySem.W.looks_typeIn (M:=model X.prog X.w) I.kIn d.ty;have L2:=PySem.W.looks_mroIn (M:=model X.prog X.w) I.kIn d.sub;have L3:=PySem.W.looks_mroIn (M:=model X.prog X.w) I.kIn hb;have L0:PySem.W.Looks (model X.prog X.w) s.heap (typeOf (.ref x)) (.ref C):=hc▸(PySem.W.Looks.ld hx).andThen .now;have L4:PySem.W.Looks (model X.prog X.w) s.heap (isType (.ref D)) true:=by
  have z:=d.cl;unfold PySem.W.clsIn at z;split at z
  ·rename_i ho;intro A' Q' E' s' k q;unfold isType loadHead;exact wpAny_bind (wpAny_loadPart (k _ _ (I.kIn _ _ ho)) (wpAny_pure q))
  ·cases z
 have LT:PySem.W.Looks (model X.prog X.w) s.heap (isInstance (.ref D) (.type "tuple")) false:=L1.andThen (PySem.W.Looks.of_pure tc_notTuple);have LE:PySem.W.Looks (model X.prog X.w) s.heap (isExcClass (.ref D)) true:=L4.andThen L2;unfold excMatches;refine wpAny_bind (LT.here ?_);dsimp only;rw[if_neg Bool.false_ne_true];refine wpAny_bind (wpAny_pure ?_);simp only[List.forIn_cons,List.forIn_nil];refine wpAny_bind (wpAny_bind (wpAny_bind (LE.here ?_)));rw[if_neg (by decide)];refine wpAny_pure (wpAny_pure (wpAny_bind (L0.here (wpAny_bind (wpAny_bind (wpAny_bind (L3.here ?_)))))));cases b with
 |true=>
  rw[if_pos rfl];exact wpAny_pure (wpAny_pure (wpAny_pure q))
 |false=>
  rw[if_neg Bool.false_ne_true];exact wpAny_pure (wpAny_pure (wpAny_pure q))
theorem Inv.track{x C:Addr}{od T:Option Addr}(I:Inv X pins σ H s)(l:Loose X pins H x)(f:Fly X.fl s.heap x C od T):Inv X pins σ (upd H x (XO (bif X.fl then 2 else 0) x C od)) s:=by
 obtain ⟨o,vs,hx,h1,h2,h3,h4,_⟩:=f;have nx:∀b u,H b=some u→b≠x:=fun b u q z=>by rw[z,l.free]at q;cases q
 refine ⟨I.ok,I.os,I.bare,⟨I.base.keep,I.base.slot,fun b ob q n hx=>?_,I.base.there,fun b xs q=>?_,fun b ob u q=>?_,fun b ps q=>?_⟩,I.loc,I.cell,?_,fun y c q=>?_,fun p hp=>?_,fun b u q=>?_,I.len⟩
 ·rw[u0 (Nat.ne_of_lt (Nat.lt_of_lt_of_le (Heap.lt_size q) l.yng))];exact I.base.free b ob q n hx
 ·have z:=I.base.tups b xs q;rw[u0 (nx b _ z)];exact z
 ·have z:=I.base.frzs b ob u q;rw[u0 (nx b _ z)];exact z
 ·obtain ⟨m,z⟩:=I.base.tbls b ps q;exact ⟨m,by rw[u0 (nx b _ z)];exact z⟩
 ·rw[u0 l.ne.symm];exact I.free
 ·rw[u0 (l.cell y c q)];exact I.freeC y c q
 ·obtain ⟨a,b,c⟩:=I.pin p hp;exact ⟨a,by rw[u0 (l.pin p hp)];exact b,c⟩
 ·by_cases z:b=x
  ·subst z;rw[o3]at q;cases q;exact XO.ok ⟨o,vs,hx,h1,h2,h3,(fun z=>by cases hc:X.fl<;>rw[hc]at z<;>cases z),fun z=>h4.2 (by cases hc:X.fl with |true=>rfl |false=>rw[hc]at z;exact absurd rfl z)⟩
  ·rw[u0 z]at q;exact (I.hok b u q).stay (fun _ _ _ w=>w) (fun c w=>by rw[u0 (nx c _ w)];exact w) fun c xs w=>by rw[u0 (nx c _ w)];exact w
theorem ph_as{D:Addr}{y n:Str}{i:Nat}{np pos:Pos}{b₀:Stmt}{suite:List Stmt}{rest:List ExceptHandler}{ts:Addr→TS}{tr:XTS}(tp:Top X)(d:XHd X.K D)(hg:Gl X y)(hm:X.mg y=some (.ref D))(hN:X.N.Nodup)(hi:X.N[i]?=some n)(hk:X.env.scope.names.lookup n=some .local)
 (hs:∀x,PSs (X.hdl x) (b₀::suite) (ts x)) (hr:PH X rest tr) (hdb:(y==("__debug__":Str))=false:=by decide):
 PH X (.ExceptHandler (some (.Name y np)) (some n) (b₀::suite) pos::rest) (fun C od E σ H=>∃b,PySem.W.mroIn X.K C (.ref D)=some b∧if b=true then
  (∀x,H x=none→ts x {nx:=fun σ' H'=>E.nx (σ'.set i none) H',rt:=E.rt,bk:=fun σ' H'=>E.bk (σ'.set i none) H',ct:=fun σ' H'=>E.ct (σ'.set i none) H'} (σ.set i (some (.ref x))) (upd H x (XO (bif X.fl then 2 else 0) x C od)))else tr C od E σ H):=by
 intro pins x C od T s σ H E I f lx lt ⟨b,hb,q⟩;refine wpAny_handleBy_cons (codeAny_handlers_test (z0v (X:=X.hdl x) I.hdl hg hm ?_ hdb)) (by intro z;cases z);refine i0n I f d hb ?_;cases b with
 |true=>
  rw[if_pos rfl]at q;refine codeAny_handlers_suite_as (w0u I tp f lt fun s1 I1 f1=>?_);have I2:Inv X pins σ (upd H x (XO (bif X.fl then 2 else 0) x C od)) s1:=I1.track lx f1;refine w0v (v:=.ref x) I2 hN hi (.inl hk) rfl (fun s2 I3=>?_) (.inr hk);refine wpAny_mono (hs x pins s2 _ _ _ I3.hdl (q x lx.free)) (fun fl s3 z=>?_) fun _ _ z=>z.elim
  have z:=z.unhdl I.ok;cases fl with
  |next=>obtain ⟨σ',H',I4,q4⟩:=z;exact r0a I4 hN hi hk fun s4 I5=>⟨_,H',I5,q4⟩
  |brk=>obtain ⟨σ',H',I4,q4⟩:=z;exact r0a I4 hN hi hk fun s4 I5=>⟨_,H',I5,q4⟩
  |cont=>obtain ⟨σ',H',I4,q4⟩:=z;exact r0a I4 hN hi hk fun s4 I5=>⟨_,H',I5,q4⟩
  |ret u=>obtain ⟨v,σ',H',I4,r4,q4⟩:=z;exact r0a I4 hN hi hk fun s4 I5=>⟨v,_,H',I5,r4,q4⟩
 |false=>
  rw[if_neg Bool.false_ne_true]at q;exact hr pins x C od T s σ H E I f lx lt q
noncomputable def tTry(tb:XW→TS)(th:XTS):TS:=fun D σ H=>∃W:XW,tb W D σ H∧∀C od σ' H',W C od σ' H'→th C od D σ' H'
theorem ps_try{body:List Stmt}{h₀:ExceptHandler}{hs:List ExceptHandler}{pos:Pos}{tb:XW→TS}{th:XTS}(tp:Top X)(hb:∀pins W,PSs (X.tr pins W) body (tb W))(hh:PH X (h₀::hs) th):PS X (.Try body (h₀::hs) [] [] pos) (tTry tb th):=by
 intro pins s σ H D I ⟨W,q,hW⟩;refine wpAny_Try_except (wpAny_mono (hb pins W [] s σ H D I.tr q) (fun f s1 z=>?_) fun e s1 z=>?_)
 ·have z:=z.untr;cases f with
  |next=>exact wpAny_execs_nil z
  |brk=>exact z
  |cont=>exact z
  |ret u=>exact z
 ·obtain ⟨x,C,od,T,σ',H',rfl,I1,f,lx,lt,q1⟩:=z;have I0:Inv X pins σ' H' s1:=I1.untr (W:=W) (.inr rfl);have ls:∀t,Loose (X.more pins) [] H' t→Loose X pins H' t:=fun t l=>⟨l.free,l.ne,l.yng,l.cell,fun p hp=>l.pin p (List.mem_append_left _ hp)⟩
  refine n0j I0 tp I0.ok.frames f (ls x lx) (fun t e=>ls t (lt t e)) fun s2 t I2 f2 l2=>?_
  refine w0u I2 tp f2 (fun t' e=>by cases e;exact l2) fun s3 I3 f3=>?_
  exact hh pins x C od (some t) s3 σ' H' D I3 f3 (ls x lx) (fun t' e=>by cases e;exact l2) (hW C od σ' H' q1)
end
end L2
namespace L2
open PySem PySem.Spec PyProof.Rows
open PySem.W (XC)
structure DefAt(K:PySem.W.Frag)(mg:Str→Option Value)(x:Str)(st:Stmt)(ps:List Str)(f:Addr)(fd:FuncData):Prop where
 F:Fun K x x st f fd
 m:mg x=some (.ref f)
 b:Binds K fd ps []
structure FnAt(P:Program)(w:World)(K:PySem.W.Frag)(mg:Str→Option Value)(base:Heap)(CX:CXT)(x:Str)(k:Nat)(ps:List Str)(sp:Sp):Prop where
 ex:∃f fd,FnOk P w K mg base CX k f fd ps sp∧mg x=some (.ref f)∧PySem.W.keepIn K (.ref f)=true∧Binds K fd ps []
theorem DefAt.at{P:Program}{w:World}{K:PySem.W.Frag}{mg:Str→Option Value}{base:Heap}{CX:CXT}{x:Str}{st:Stmt}{ps:List Str}{f:Addr}{fd:FuncData}{k:Nat}{sp:Sp}(D:DefAt K mg x st ps f fd)(F:FnOk P w K mg base CX k f fd ps sp):FnAt P w K mg base CX x k ps sp:=
 ⟨f,fd,F,D.m,D.F.kp,D.b⟩
section
variable{X:Cx}{x:Str}{p pos:Pos}{e:Expr}{es:List Expr}{t:TA}{k:Nat}{ps:List Str}{sp:Sp}
theorem pe_cX{W:XW}(G:FnAt X.prog X.w X.K X.mg X.base (CX1 X.prog X.w) x k ps sp)(hr:Room k X.A)(hf:h8 X W)(ha:PA X (e::es) t)(hg:Gl X x:=by rfl)(hdb:(x==("__debug__":Str))=false:=by decide)
 (he:starEach (e::es) X.env=(false,eval e X.env)::starEach es X.env:=by rfl) (hpl:(backTo pos (starEach es X.env)).any (·.1)=false:=by rfl):PE X (.Call (.Name x p) (e::es) [] pos) (p0e sp W t):=by
 obtain ⟨f,fd,F,m,kp,b⟩:=G.ex;exact f0d F hr hg m kp b hf ha hdb he hpl
theorem pty(n:String){y:Str}(hm:X.mg y=none)(hv:bootBuiltins y=some (.type n))(hg:Gl X y:=by rfl)(hn:y≠"__name__":=by decide)(hd:(y==("__debug__":Str))=false:=by decide):PE X (.Name y pos) (tC (.ty n)):=c0d hg hm hv rfl hn hd
end
theorem l0m:bootBuiltins "len"=some (.builtin "len"):=by kernel_rfl
theorem bt_abs:bootBuiltins "abs"=some (.builtin "abs"):=by kernel_rfl
theorem bt_all:bootBuiltins "all"=some (.builtin "all"):=by kernel_rfl
theorem d0a:bootBuiltins "min"=some (.builtin "min"):=by kernel_rfl
theorem m3:bootBuiltins "isinstance"=some (.builtin "isinstance"):=by kernel_rfl
theorem l0l:bootBuiltins "int"=some (.type "int"):=by kernel_rfl
theorem i0m:bootBuiltins "bool"=some (.type "bool"):=by kernel_rfl
theorem t0s:bootBuiltins "list"=some (.type "list"):=by kernel_rfl
theorem w0t:bootBuiltins "tuple"=some (.type "tuple"):=by kernel_rfl
theorem q0z:bootBuiltins "ValueError"=some (.type "ValueError"):=by kernel_rfl
noncomputable def Scr(K:PySem.W.Frag)(H:Hp)(S:Addr):Prop:=∃ns:List Int,SqL K H S (ns.map V.int)∧ns.length≤63
structure Deck(H:Hp)(D S:Addr)(n:Nat):Prop where
 ex:∃c k:Int,H D=some (.lst [.ref S,.int c,.int k])∧0≤c∧0≤k∧k≤n
noncomputable def spCell(K:PySem.W.Frag):Sp:=fun vs H Q _=>∃(S:Addr) (k:Int),vs=[.ref S,.int k]∧Scr K H S∧0≤k∧∀r:Int,0≤r→Q (.int r) H
noncomputable def spDraw(K:PySem.W.Frag):Sp:=fun vs H Q _=>∃(S:Addr) (k m:Int),vs=[.ref S,.int k,.int m]∧Scr K H S∧0≤k∧k<2^40∧0<m∧∀r:Int,0≤r→r<m→Q (.int r) H
noncomputable def spDeck(K:PySem.W.Frag):Sp:=fun vs H Q _=>∃(S:Addr),vs=[.ref S]∧Scr K H S∧∀(D:Addr) (c:Int),H D=none→0≤c→Q (.ref D) (upd H D (.lst [.ref S,.int c,.int 0]))
noncomputable def spTake(K:PySem.W.Frag):Sp:=fun vs H Q _=>∃(D S:Addr) (n:Nat) (m:Int),vs=[.ref D,.int m]∧Deck H D S n∧Scr K H S∧n<2^30∧0<m∧m<2^30∧
 ∀(d c k:Int),0≤d→d<m→0≤c→0≤k→k≤n+1→Q (.int d) (upd H D (.lst [.ref S,.int c,.int k]))
end L2
namespace L2
open PySem PySem.Spec PyProof.Rows
end L2
namespace L2
theorem b0f{α:Type}{xs:List α}{k:Int}(h:0<xs.length):∃v,atI xs (k%(xs.length:Nat))=some v∧v∈xs:=by
 have h1:=Int.emod_nonneg k (b:=(xs.length:Int)) (by omega);have h2:=Int.emod_lt_of_pos k (b:=(xs.length:Int)) (by omega);have hj:(k%(xs.length:Nat)).toNat<xs.length:=by omega
 refine ⟨xs[(k%(xs.length:Nat)).toNat],?_,List.getElem_mem hj⟩;have e:k%(xs.length:Nat)=(((k%(xs.length:Nat)).toNat:Nat):Int):=by omega
 have q:∀z:Int,z=k%(xs.length:Nat)→z=((z.toNat:Nat):Int)→∀hz:z.toNat<xs.length,atI xs z=some xs[z.toNat]:=by
  intro z _ hz2 hz3;generalize z.toNat=j at hz2 hz3;subst hz2;exact t0u (List.getElem?_eq_getElem hz3)
 exact q _ rfl e hj
end L2
set_option maxHeartbeats 8000000
namespace L2
open PySem PySem.Spec PyProof.Rows
noncomputable def BT:List String:=["NoneType","bool","int","str","list","tuple","dict"]
theorem kt_all(K:PySem.W.Frag){n:String}(h:n∈BT):PySem.W.kitOne K (.type n) (.type "bool")=some (n=="bool")∧PySem.W.kitOne K (.type n) (.type "int")=some (n=="int"||n=="bool")∧
 PySem.W.kitOne K (.type n) (.type "list")=some (n=="list")∧PySem.W.kitOne K (.type n) (.type "tuple")=some (n=="tuple")∧PySem.W.kitAny K (.type n) [.type "list",.type "tuple"]=some (n=="list"||n=="tuple"):=by
 simp only[BT,List.mem_cons,List.not_mem_nil,or_false]at h;rcases h with rfl |rfl |rfl |rfl |rfl |rfl |rfl
 ·exact ⟨by kernel_rfl,by kernel_rfl,by kernel_rfl,by kernel_rfl,by kernel_rfl⟩
 ·exact ⟨by kernel_rfl,by kernel_rfl,by kernel_rfl,by kernel_rfl,by kernel_rfl⟩
 ·exact ⟨by kernel_rfl,by kernel_rfl,by kernel_rfl,by kernel_rfl,by kernel_rfl⟩
 ·exact ⟨by kernel_rfl,by kernel_rfl,by kernel_rfl,by kernel_rfl,by kernel_rfl⟩
 ·exact ⟨by kernel_rfl,by kernel_rfl,by kernel_rfl,by kernel_rfl,by kernel_rfl⟩
 ·exact ⟨by kernel_rfl,by kernel_rfl,by kernel_rfl,by kernel_rfl,by kernel_rfl⟩
 ·exact ⟨by kernel_rfl,by kernel_rfl,by kernel_rfl,by kernel_rfl,by kernel_rfl⟩
structure Thing(K:PySem.W.Frag)(H:Hp)(x:V)(n:String):Prop where
 ty:TyOf K H x (.type n)
 mem:n∈BT
noncomputable def numV(x y:V):Bool:=match x,y with
 | .int i,.int j=>decide (i=j)
 |_,_=>false
noncomputable def f0b(K:PySem.W.Frag):Sp:=fun vs H Q _=>∃(x:V) (j:Int) (n:String),vs=[x,.int j]∧Thing K H x n∧Q (.bl (numV x (.int j))) H
end L2
set_option maxHeartbeats 8000000
namespace L2
open PySem PySem.Spec PyProof.Rows
open PySem.W (XC veMro)
structure ErrC(K:PySem.W.Frag)(W C:Addr):Prop where
 mro:(PySem.W.clsIn K C).map (·.mro)=some (.ref C:: .ref W::veMro)
 ty:PySem.W.typeIn K (.ref C)=some (.type "type")
 xc:XC K C
theorem ErrC.mroIn{K:PySem.W.Frag}{W C:Addr}(c:ErrC K W C)(b:Value):PySem.W.mroIn K C b=some ((Value.ref C:: .ref W::veMro).contains b):=by
 obtain ⟨cd,h1,h2⟩:=Option.map_eq_some_iff.mp c.mro;unfold PySem.W.mroIn;rw[h1,Option.bind_some,h2];rfl
theorem ErrC.own{K:PySem.W.Frag}{W C D:Addr}(c:ErrC K W C)(d:ErrC K W D)(hw:D≠W):PySem.W.kitOne K (.ref C) (.ref D)=some (decide (D=C)):=by
 unfold PySem.W.kitOne;by_cases h:D=C
 ·subst h;rw[if_pos (beq_self_eq_true _)];simp
 ·have hb:¬(Value.ref C==Value.ref D)=true:=fun z=>h (Value.ref.inj (beq_iff_eq.mp z)).symm
  rw[if_neg hb];obtain ⟨cd,h1,h2⟩:=Option.map_eq_some_iff.mp d.mro;show (if ((PySem.W.clsIn K D).isSome&&PySem.W.typeIn K (.ref D)==some (.type "type"))=true then PySem.W.subIn K (.ref C) (.ref D)else none)=_;rw[if_pos (by rw[h1,d.ty];rfl)];show PySem.W.mroIn K C (.ref D)=_;rw[c.mroIn];have e:(Value.ref C:: .ref W::veMro).contains (.ref D)=false:=by
   simp[List.contains_cons,h,hw]
  rw[e,decide_eq_false h]
theorem ErrC.top{K:PySem.W.Frag}{W C:Addr}(c:ErrC K W C)(hc:C≠W)(hw:(PySem.W.clsIn K W).isSome=true)(ht:PySem.W.typeIn K (.ref W)=some (.type "type")):PySem.W.kitOne K (.ref C) (.ref W)=some true:=by
 unfold PySem.W.kitOne;have hb:¬(Value.ref C==Value.ref W)=true:=fun z=>hc (Value.ref.inj (beq_iff_eq.mp z))
 rw[if_neg hb];show (if ((PySem.W.clsIn K W).isSome&&PySem.W.typeIn K (.ref W)==some (.type "type"))=true then PySem.W.subIn K (.ref C) (.ref W)else none)=_;rw[if_pos (by rw[hw,ht];rfl)];show PySem.W.mroIn K C (.ref W)=_;rw[c.mroIn];simp[List.contains_cons]
theorem k0c:PySem.W.kitMeta "ValueError"=true:=by kernel_rfl
theorem ErrC.value{K:PySem.W.Frag}{W C:Addr}(c:ErrC K W C):PySem.W.kitOne K (.ref C) (.type "ValueError")=some true:=by
 unfold PySem.W.kitOne;rw[if_neg (by intro z;cases beq_iff_eq.mp z)];show (if PySem.W.kitMeta "ValueError"=true then PySem.W.subIn K (.ref C) (.type "ValueError")else none)=_;rw[if_pos k0c];show PySem.W.mroIn K C (.type "ValueError")=_;rw[c.mroIn];simp[List.contains_cons]
theorem Same.new{H:Hp}{p:Addr}{o:HO}(h:H p=none):Same H (upd H p o):=fun b u e=>by rw[u0 (l0 e h)];exact e
noncomputable def spXI(C:Addr)(a:Str):Sp:=fun vs H Q _=>∃(x:Addr) (v:V),vs=[.ref x,v]∧H x=some (XO 1 x C none)∧∀d,H d=none→d≠x→Q .non (upd (upd H d (XD d [(a,v)])) x (XO 1 x C (some d)))
noncomputable def spXI2(C:Addr)(a b:Str):Sp:=fun vs H Q _=>∃(x:Addr) (v u:V),vs=[.ref x,v,u]∧H x=some (XO 1 x C none)∧∀d,H d=none→d≠x→Q .non (upd (upd (upd H d (XD d [(a,v)])) x (XO 1 x C (some d))) d (XD d (putF b u [(a,v)])))
end L2
namespace L2
open PySem PySem.Spec PyProof.Rows
open PySem.W (XC veMro)
structure MkE(P:Program)(w:World)(K:PySem.W.Frag)(mg:Str→Option Value)(base:Heap)(x:Str)(C:Addr)(k:Nat)(ps:List Str)(sp:Sp):Prop where
 ex:∃f fd,XMk K C f∧FnOk P w K mg base CX0 k f fd ps sp∧Binds K fd ps []
 m:mg x=some (.ref C)
theorem i0l{X:Cx}{W:XW}{x:Str}{C:Addr}{k:Nat}{ps:List Str}{sp:Sp}{p cpos pos:Pos}{e:Expr}{es:List Expr}{t:TA}(hc:X.calm=true)(hf:h8 X W)(M:MkE X.prog X.w X.K X.mg X.base x C k ps sp)(hr:Room (k+1) X.A)(ha:PA X (e::es) t)(hg:Gl X x:=by rfl)
 (hdb:(x==("__debug__":Str))=false:=by decide) (he:starEach (e::es) X.env=(false,eval e X.env)::starEach es X.env:=by rfl) (hpl:(backTo cpos (starEach es X.env)).any (·.1)=false:=by rfl):
 PS X (.Raise (some (.Call (.Name x p) (e::es) [] cpos)) none pos) (i0q C sp W t):=by
 obtain ⟨f,fd,h1,h2,h3⟩:=M.ex;exact i0p hc hf h1 h2 hr hg M.m h3 ha hdb he hpl
theorem sz1{a:V}:[a].length≤PySem.sizeLine:=by show 1≤PySem.sizeLine;decide
end L2
namespace DL
open PySem PySem.Spec L2
open PySem.W (XC)
inductive D where
 |non |bl (b:Bool)|int (i:Int)|str (x:Str)
 |lst (xs:List D)|tup (xs:List D)|scr (xs:List D)|dic (kvs:List (Key×D))|dwk (kvs:List (Key×D))
 |ins (C:Addr) (fs:List (Str×D))|exc (C:Addr) (fs:List (Str×D))
 |ref (a:Addr)|ty (n:String)
noncomputable abbrev Frag:=PySem.W.Frag
mutual
noncomputable def Rep(K:Frag)(F:Hp):D→V→Prop
 | .non,v=>v=.non
 | .bl b,v=>v=.bl b
 | .int i,v=>v=.int i
 | .str x,v=>v=.str x
 | .lst ds,v=>∃a vs,v=.ref a∧F a=some (.lst vs)∧Reps K F ds vs
 | .tup ds,v=>∃a vs,v=.ref a∧F a=some (.tup vs)∧Reps K F ds vs
 | .scr ds,v=>∃a vs,v=.ref a∧SqL K F a vs∧Reps K F ds vs
 | .dic kvs,v=>∃a us,v=.ref a∧F a=some (.dK us)∧RepK K F kvs us
 | .dwk kvs,v=>∃a o us,v=.ref a∧F a=some (.frz o (.dK us))∧RepK K F kvs us
 | .ins C fs,v=>∃a dx us,v=.ref a∧F a=some (.ins C dx us)∧F dx=some (.own a)∧RepF K F fs us
 | .exc C fs,v=>∃a fr,v=.ref a∧((fs=[]∧F a=some (XO fr a C none))∨∃d us,F a=some (XO fr a C (some d))∧F d=some (XD d us)∧RepF K F fs us)
 | .ref a,v=>v=.ref a
 | .ty n,v=>v=.ty n
noncomputable def Reps(K:Frag)(F:Hp):List D→List V→Prop
 | [],vs=>vs=[]
 |d::ds,vs=>∃v r,vs=v::r∧Rep K F d v∧Reps K F ds r
noncomputable def RepF(K:Frag)(F:Hp):List (Str×D)→List (Str×V)→Prop
 | [],vs=>vs=[]
 |(x,d)::ds,vs=>∃v r,vs=(x,v)::r∧Rep K F d v∧RepF K F ds r
noncomputable def RepK(K:Frag)(F:Hp):List (Key×D)→List (Key×V)→Prop
 | [],vs=>vs=[]
 |(x,d)::ds,vs=>∃v r,vs=(x,v)::r∧Rep K F d v∧RepK K F ds r
end
theorem _root_.L2.Same.rd{F F':Hp}{a:Addr}{u:HO}(s:Same F F')(h:Rd F a u):Rd F' a u:=by
 rcases h with h |⟨o,h⟩
 ·exact .inl (s _ _ h)
 ·exact .inr ⟨o,s _ _ h⟩
theorem _root_.L2.Same.sqL{K:Frag}{F F':Hp}{a:Addr}{xs:List V}(s:Same F F')(h:SqL K F a xs):SqL K F' a xs:=h.imp s.rd id
theorem _root_.L2.Same.sqT{K:Frag}{F F':Hp}{a:Addr}{xs:List V}(s:Same F F')(h:SqT K F a xs):SqT K F' a xs:=h.imp s.rd id
mutual
theorem Rep.mono{K:Frag}{F F':Hp}(s:Same F F'):∀{d:D} {v:V},Rep K F d v→Rep K F' d v
 | .non,v,h=>by unfold Rep at h ⊢; exact h
 | .bl b,v,h=>by unfold Rep at h ⊢; exact h
 | .int i,v,h=>by unfold Rep at h ⊢; exact h
 | .str x,v,h=>by unfold Rep at h ⊢; exact h
 | .lst ds,v,h=>by unfold Rep at h ⊢; obtain ⟨a,vs,e,q,r⟩:=h;exact ⟨a,vs,e,s _ _ q,Reps.mono s r⟩
 | .tup ds,v,h=>by unfold Rep at h ⊢; obtain ⟨a,vs,e,q,r⟩:=h;exact ⟨a,vs,e,s _ _ q,Reps.mono s r⟩
 | .scr ds,v,h=>by unfold Rep at h ⊢; obtain ⟨a,vs,e,q,r⟩:=h;exact ⟨a,vs,e,s.sqL q,Reps.mono s r⟩
 | .dic ds,v,h=>by unfold Rep at h ⊢; obtain ⟨a,vs,e,q,r⟩:=h;exact ⟨a,vs,e,s _ _ q,RepK.mono s r⟩
 | .dwk ds,v,h=>by unfold Rep at h ⊢; obtain ⟨a,o,vs,e,q,r⟩:=h;exact ⟨a,o,vs,e,s _ _ q,RepK.mono s r⟩
 | .ins C fs,v,h=>by unfold Rep at h ⊢; obtain ⟨a,dx,vs,e,q,q2,r⟩:=h;exact ⟨a,dx,vs,e,s _ _ q,s _ _ q2,RepF.mono s r⟩
 | .exc C fs,v,h=>by
  unfold Rep at h ⊢;obtain ⟨a,fr,e,h⟩:=h;refine ⟨a,fr,e,?_⟩;rcases h with ⟨e1,q⟩|⟨d,us,q,q2,r⟩
  ·exact .inl ⟨e1,s _ _ q⟩
  ·exact .inr ⟨d,us,s _ _ q,s _ _ q2,RepF.mono s r⟩
 | .ref a,v,h=>by unfold Rep at h ⊢; exact h
 | .ty n,v,h=>by unfold Rep at h ⊢; exact h
theorem Reps.mono{K:Frag}{F F':Hp}(s:Same F F'):∀{ds:List D} {vs:List V},Reps K F ds vs→Reps K F' ds vs
 | [],vs,h=>by unfold Reps at h ⊢; exact h
 |d::ds,vs,h=>by unfold Reps at h ⊢; obtain ⟨v,r,e,q,z⟩:=h;exact ⟨v,r,e,Rep.mono s q,Reps.mono s z⟩
theorem RepF.mono{K:Frag}{F F':Hp}(s:Same F F'):∀{ds:List (Str×D)} {vs:List (Str×V)},RepF K F ds vs→RepF K F' ds vs
 | [],vs,h=>by unfold RepF at h ⊢; exact h
 |(x,d)::ds,vs,h=>by unfold RepF at h ⊢; obtain ⟨v,r,e,q,z⟩:=h;exact ⟨v,r,e,Rep.mono s q,RepF.mono s z⟩
theorem RepK.mono{K:Frag}{F F':Hp}(s:Same F F'):∀{ds:List (Key×D)} {vs:List (Key×V)},RepK K F ds vs→RepK K F' ds vs
 | [],vs,h=>by unfold RepK at h ⊢; exact h
 |(x,d)::ds,vs,h=>by unfold RepK at h ⊢; obtain ⟨v,r,e,q,z⟩:=h;exact ⟨v,r,e,Rep.mono s q,RepK.mono s z⟩
end
section
variable{K:Frag}{F H:Hp}
theorem rep_non{v:V}:Rep K F .non v↔v=.non:=by unfold Rep;exact Iff.rfl
theorem rep_bl{b:Bool}{v:V}:Rep K F (.bl b) v↔v=.bl b:=by unfold Rep;exact Iff.rfl
theorem rep_int{i:Int}{v:V}:Rep K F (.int i) v↔v=.int i:=by unfold Rep;exact Iff.rfl
theorem rep_str{x:Str}{v:V}:Rep K F (.str x) v↔v=.str x:=by unfold Rep;exact Iff.rfl
theorem rep_ref{a:Addr}{v:V}:Rep K F (.ref a) v↔v=.ref a:=by unfold Rep;exact Iff.rfl
theorem rep_ty{n:String}{v:V}:Rep K F (.ty n) v↔v=.ty n:=by unfold Rep;exact Iff.rfl
theorem rep_lst{ds:List D}{v:V}:Rep K F (.lst ds) v↔∃a vs,v=.ref a∧F a=some (.lst vs)∧Reps K F ds vs:=by rw[Rep]
theorem rep_tup{ds:List D}{v:V}:Rep K F (.tup ds) v↔∃a vs,v=.ref a∧F a=some (.tup vs)∧Reps K F ds vs:=by rw[Rep]
theorem rep_scr{ds:List D}{v:V}:Rep K F (.scr ds) v↔∃a vs,v=.ref a∧SqL K F a vs∧Reps K F ds vs:=by rw[Rep]
theorem rep_dwk{ds:List (Key×D)}{v:V}:Rep K F (.dwk ds) v↔∃a o us,v=.ref a∧F a=some (.frz o (.dK us))∧RepK K F ds us:=by rw[Rep]
theorem rep_dic{ds:List (Key×D)}{v:V}:Rep K F (.dic ds) v↔∃a us,v=.ref a∧F a=some (.dK us)∧RepK K F ds us:=by rw[Rep]
theorem rep_ins{C:Addr}{fs:List (Str×D)}{v:V}:Rep K F (.ins C fs) v↔∃a dx us,v=.ref a∧F a=some (.ins C dx us)∧F dx=some (.own a)∧RepF K F fs us:=by rw[Rep]
theorem rep_exc{C:Addr}{fs:List (Str×D)}{v:V}:Rep K F (.exc C fs) v↔∃a fr,v=.ref a∧((fs=[]∧F a=some (XO fr a C none))∨∃d us,F a=some (XO fr a C (some d))∧F d=some (XD d us)∧RepF K F fs us):=by rw[Rep]
theorem reps_nil{vs:List V}:Reps K F [] vs↔vs=[]:=by rw[Reps]
theorem reps_cons{d:D}{ds:List D}{vs:List V}:Reps K F (d::ds) vs↔∃v r,vs=v::r∧Rep K F d v∧Reps K F ds r:=by rw[Reps]
theorem Reps.cons{d:D}{ds:List D}{v:V}{vs:List V}(h:Rep K F d v)(t:Reps K F ds vs):Reps K F (d::ds) (v::vs):=reps_cons.mpr ⟨v,vs,rfl,h,t⟩
theorem Reps.nil:Reps K F [] []:=reps_nil.mpr rfl
theorem Reps.length:∀{ds:List D} {vs:List V},Reps K F ds vs→vs.length=ds.length
 | [],vs,h=>by rw[reps_nil.mp h];rfl
 |d::ds,vs,h=>by obtain ⟨v,r,rfl,_,z⟩:=reps_cons.mp h;rw[List.length_cons,List.length_cons,Reps.length z]
theorem Reps.append:∀{ds es:List D} {vs us:List V},Reps K F ds vs→Reps K F es us→Reps K F (ds++es) (vs++us)
 | [],es,vs,us,h,h'=>by rw[reps_nil.mp h];exact h'
 |d::ds,es,vs,us,h,h'=>by obtain ⟨v,r,rfl,q,z⟩:=reps_cons.mp h;exact Reps.cons q (Reps.append z h')
theorem Reps.get:∀{ds:List D} {vs:List V} {i:Nat} {d:D},Reps K F ds vs→ds[i]?=some d→∃v,vs[i]?=some v∧Rep K F d v
 | [],vs,i,d,h,e=>by simp at e
 |d::ds,vs,0,d',h,e=>by obtain ⟨v,r,rfl,q,z⟩:=reps_cons.mp h;simp at e;subst e;exact ⟨v,rfl,q⟩
 |d::ds,vs,i+1,d',h,e=>by obtain ⟨v,r,rfl,q,z⟩:=reps_cons.mp h;simp at e;obtain ⟨u,a,b⟩:=Reps.get z e;exact ⟨u,by simpa using a,b⟩
theorem Reps.set{d:D}{v:V}(q:Rep K F d v):∀{ds:List D} {vs:List V} (i:Nat),Reps K F ds vs→Reps K F (ds.set i d) (vs.set i v)
 | [],vs,i,h=>by rw[reps_nil.mp h];exact Reps.nil
 |e::ds,vs,0,h=>by obtain ⟨u,r,rfl,_,z⟩:=reps_cons.mp h;exact Reps.cons q z
 |e::ds,vs,i+1,h=>by obtain ⟨u,r,rfl,p,z⟩:=reps_cons.mp h;exact Reps.cons p (Reps.set q i z)
theorem Reps.take:∀{ds:List D} {vs:List V} (n:Nat),Reps K F ds vs→Reps K F (ds.take n) (vs.take n)
 | [],vs,n,h=>by rw[reps_nil.mp h];simp;exact Reps.nil
 |d::ds,vs,0,h=>by simp;exact Reps.nil
 |d::ds,vs,n+1,h=>by obtain ⟨u,r,rfl,p,z⟩:=reps_cons.mp h;simp;exact Reps.cons p (Reps.take n z)
theorem Reps.drop:∀{ds:List D} {vs:List V} (n:Nat),Reps K F ds vs→Reps K F (ds.drop n) (vs.drop n)
 | [],vs,n,h=>by rw[reps_nil.mp h];simp;exact Reps.nil
 |d::ds,vs,0,h=>by simpa using h
 |d::ds,vs,n+1,h=>by obtain ⟨u,r,rfl,p,z⟩:=reps_cons.mp h;simp;exact Reps.drop n z
theorem Reps.dropLast{ds:List D}{vs:List V}(h:Reps K F ds vs):Reps K F ds.dropLast vs.dropLast:=by
 rw[List.dropLast_eq_take,List.dropLast_eq_take,h.length];exact h.take _
theorem Reps.atI{ds:List D}{vs:List V}{i:Int}{d:D}(h:Reps K F ds vs)(e:L2.atI ds i=some d):∃v,L2.atI vs i=some v∧Rep K F d v:=by
 unfold L2.atI at e ⊢;rw[h.length];cases hj:ixN ds.length i with
 |none=>rw[hj]at e;cases e
 |some j=>
  rw[hj]at e;obtain ⟨v,a,b⟩:=h.get e;exact ⟨v,a,b⟩
end
end DL
namespace DL
open PySem PySem.Spec L2
open PySem.W (XC)
noncomputable abbrev Dk:=Option (Addr×List D)
inductive Cell where
 |no |val (d:D)|own (ds:List D)|obj (C:Addr) (fs:List (Str×D))|ownD (kvs:List (Key×D))
noncomputable abbrev En:=List Cell
noncomputable def CellOk(K:Frag)(F H H₀:Hp)(sf:Option Addr):Cell→Option V→Prop
 | .no,_=>True
 | .val d,v=>∃u,v=some u∧Rep K F d u
 | .own ds,v=>∃a vs,v=some (.ref a)∧H a=some (.lst vs)∧F a=none∧H₀ a=none∧Reps K F ds vs
 | .obj C fs,v=>∃a dx us,v=some (.ref a)∧sf=some a∧H a=some (.ins C dx us)∧H dx=some (.own a)∧F a=none∧F dx=none∧H₀ a=none∧H₀ dx=none∧RepF K F fs us
 | .ownD kvs,v=>∃a us,v=some (.ref a)∧H a=some (.dK us)∧F a=none∧H₀ a=none∧RepK K F kvs us
noncomputable def Off(δ:Dk)(b:Addr):Prop:=∀a ds,δ=some (a,ds)→b≠a
noncomputable def DkOk(K:Frag)(F H:Hp)(δ:Dk):Prop:=∀a ds,δ=some (a,ds)→F a=none∧∃vs,H a=some (.lst vs)∧Reps K F ds vs
noncomputable def DkTo(H₀:Hp)(δ₀ δ:Dk):Prop:=(∀a ds,δ₀=some (a,ds)→∃es,δ=some (a,es))∧∀a ds,δ=some (a,ds)→δ₀=none→H₀ a=none
structure Ran(K:Frag)(F₀ H₀:Hp)(δ₀:Dk)(F H:Hp)(δ:Dk):Prop where
 sub:Same F H
 dk:DkOk K F H δ
 keep:∀b o,H₀ b=some o→Off δ₀ b→H b=some o
 f0:Same F₀ F
 fnew:∀b o,F b=some o→F₀ b=some o∨H₀ b=none
 dto:DkTo H₀ δ₀ δ
structure Y2 where
 F₀:Hp
 H₀:Hp
 δ₀:Dk
 sf:Option Addr:=none
noncomputable def h7(ρ:En)(σ:St)(i:Nat)(a:Addr):Prop:=((∃ds,ρ[i]?=some (.own ds))∨(∃C fs,ρ[i]?=some (.obj C fs))∨∃kvs,ρ[i]?=some (.ownD kvs))∧σ[i]?=some (some (.ref a))
structure I2(K:Frag)(Y:Y2)(F H:Hp)(σ:St)(ρ:En)(δ:Dk):Prop where
 ran:Ran K Y.F₀ Y.H₀ Y.δ₀ F H δ
 env:∀(i:Nat) (c:Cell),ρ[i]?=some c→CellOk K F H Y.H₀ Y.sf c (σ[i]?).join
 len:ρ.length=σ.length
 apart:∀(i j:Nat) (a:Addr),i≠j→h7 ρ σ i a→h7 ρ σ j a→False
 off:∀(i:Nat) (a:Addr),h7 ρ σ i a→Off δ a
section
variable{K:Frag}{Y:Y2}{F H F' H':Hp}{σ:St}{ρ:En}{δ:Dk}
theorem I2.sub(I:I2 K Y F H σ ρ δ):Same F H:=I.ran.sub
theorem v4{σ:St}{i:Nat}{v:V}(h:(σ[i]?).join=some v):σ[i]?=some (some v):=by
 cases e:σ[i]? with
 |none=>rw[e]at h;cases h
 |some o=>rw[e]at h;exact congrArg some h
theorem Ran.fresh(R:Ran K Y.F₀ Y.H₀ Y.δ₀ F H δ){p:Addr}(h:H p=none):Y.H₀ p=none:=by
 cases q:Y.H₀ p with
 |none=>rfl
 |some o=>
  by_cases z:∃ds,Y.δ₀=some (p,ds)
  ·obtain ⟨ds,z⟩:=z;obtain ⟨es,z2⟩:=R.dto.1 p ds z;obtain ⟨_,vs,z3,_⟩:=R.dk p es z2;rw[h]at z3;cases z3
  ·have:=R.keep p o q (fun a ds e w=>z ⟨ds,by rw[e,w]⟩);rw[h]at this;cases this
theorem Ran.alloc{o:HO}{p:Addr}(R:Ran K Y.F₀ Y.H₀ Y.δ₀ F H δ)(h:H p=none):Ran K Y.F₀ Y.H₀ Y.δ₀ (upd F p o) (upd H p o) δ:=by
 have hF:F p=none:=R.sub.free h;have h0:=R.fresh h;refine ⟨fun b u e=>?_,fun a ds e=>?_,fun b u e f=>?_,fun b u e=>?_,fun b u e=>?_,R.dto⟩
 ·by_cases z:b=p
  ·subst z;rw[o3]at e ⊢; exact e
  ·rw[u0 z]at e ⊢; exact R.sub _ _ e
 ·obtain ⟨q,vs,q2,r⟩:=R.dk a ds e;have z:a≠p:=l0 q2 h;exact ⟨by rw[u0 z];exact q,vs,by rw[u0 z];exact q2,r.mono (Same.new hF)⟩
 ·rw[u0 (l0 (R.keep b u e f) h)];exact R.keep b u e f
 ·rw[u0 (l0 (R.f0 b u e) hF)];exact R.f0 b u e
 ·by_cases z:b=p
  ·subst z;exact .inr h0
  ·rw[u0 z]at e;exact R.fnew b u e
theorem CellOk.alloc{o:HO}{p:Addr}{c:Cell}{v:Option V}{H₀:Hp}{sf:Option Addr}(s:Same F H)(h:H p=none)(x:CellOk K F H H₀ sf c v):CellOk K (upd F p o) (upd H p o) H₀ sf c v:=by
 have hF:F p=none:=s.free h;cases c with
 |no=>trivial
 |val d=>obtain ⟨u,e,r⟩:=x;exact ⟨u,e,r.mono (Same.new hF)⟩
 |own ds=>
  obtain ⟨a,vs,e,q,f,g,r⟩:=x;have z:=l0 q h;exact ⟨a,vs,e,by rw[u0 z];exact q,by rw[u0 z];exact f,g,r.mono (Same.new hF)⟩
 |obj C fs=>
  obtain ⟨a,dx,us,e,es,q,q2,f,f2,g,g2,r⟩:=x;have z:=l0 q h;have z2:=l0 q2 h;exact ⟨a,dx,us,e,es,by rw[u0 z];exact q,by rw[u0 z2];exact q2,by rw[u0 z];exact f,by rw[u0 z2];exact f2,g,g2,r.mono (Same.new hF)⟩
 |ownD kvs=>
  obtain ⟨a,us,e,q,f,g,r⟩:=x;have z:=l0 q h;exact ⟨a,us,e,by rw[u0 z];exact q,by rw[u0 z];exact f,g,r.mono (Same.new hF)⟩
theorem I2.alloc{o:HO}{p:Addr}(I:I2 K Y F H σ ρ δ)(h:H p=none):I2 K Y (upd F p o) (upd H p o) σ ρ δ:=
 ⟨I.ran.alloc h,fun i c e=>(I.env i c e).alloc I.sub h,I.len,I.apart,I.off⟩
theorem I2.lst{ds:List D}{vs:List V}{p:Addr}(I:I2 K Y F H σ ρ δ)(h:H p=none)(r:Reps K F ds vs):Rep K (upd F p (.lst vs)) (.lst ds) (.ref p):=
 rep_lst.mpr ⟨p,vs,rfl,o3,r.mono (Same.new (I.sub.free h))⟩
theorem I2.tup{ds:List D}{vs:List V}{p:Addr}(I:I2 K Y F H σ ρ δ)(h:H p=none)(r:Reps K F ds vs):Rep K (upd F p (.tup vs)) (.tup ds) (.ref p):=
 rep_tup.mpr ⟨p,vs,rfl,o3,r.mono (Same.new (I.sub.free h))⟩
theorem I2.grow{o:HO}{p:Addr}(I:I2 K Y F H σ ρ δ)(h:H p=none):Same F (upd F p o):=Same.new (I.sub.free h)
theorem I2.put{i:Nat}{v:V}{d:D}(I:I2 K Y F H σ ρ δ)(r:Rep K F d v):I2 K Y F H (σ.set i (some v)) (ρ.set i (.val d)) δ:=by
 have key:∀j a,h7 (ρ.set i (.val d)) (σ.set i (some v)) j a→j≠i∧h7 ρ σ j a:=fun j a o=>by
  by_cases z:j=i
  ·subst z;rcases o.1 with ⟨ds,q⟩|⟨C,fs,q⟩|⟨kvs,q⟩<;>
   ·rw[List.getElem?_set]at q;simp at q
  ·refine ⟨z,?_⟩;obtain ⟨o1,o2⟩:=o;simp only[List.getElem?_set_ne (Ne.symm z)]at o1 o2;exact ⟨o1,o2⟩
 refine ⟨I.ran,fun j c e=>?_,by simp[I.len],fun a b c n o1 o2=>I.apart a b c n (key a c o1).2 (key b c o2).2,fun j a o=>I.off j a (key j a o).2⟩;by_cases z:j=i
 ·subst z;rw[List.getElem?_set]at e;by_cases hl:j<ρ.length
  ·simp[hl]at e;subst e;refine ⟨v,?_,r⟩;rw[List.getElem?_set];simp[I.len▸hl]
  ·simp[hl]at e
 ·rw[List.getElem?_set_ne (Ne.symm z)]at e ⊢;exact I.env j c e
theorem I2.gone{i:Nat}(I:I2 K Y F H σ ρ δ):I2 K Y F H (σ.set i none) (ρ.set i .no) δ:=by
 have key:∀j a,h7 (ρ.set i .no) (σ.set i none) j a→j≠i∧h7 ρ σ j a:=fun j a o=>by
  by_cases z:j=i
  ·subst z;rcases o.1 with ⟨ds,q⟩|⟨C,fs,q⟩|⟨kvs,q⟩<;>
   ·rw[List.getElem?_set]at q;simp at q
  ·refine ⟨z,?_⟩;obtain ⟨o1,o2⟩:=o;simp only[List.getElem?_set_ne (Ne.symm z)]at o1 o2;exact ⟨o1,o2⟩
 refine ⟨I.ran,fun j c e=>?_,by simp[I.len],fun a b c n o1 o2=>I.apart a b c n (key a c o1).2 (key b c o2).2,fun j a o=>I.off j a (key j a o).2⟩;by_cases z:j=i
 ·subst z;rw[List.getElem?_set]at e;by_cases hl:j<ρ.length
  ·simp[hl]at e;subst e;trivial
  ·simp[hl]at e
 ·rw[List.getElem?_set_ne (Ne.symm z)]at e ⊢;exact I.env j c e
theorem I2.freeze{i:Nat}{ds:List D}(I:I2 K Y F H σ ρ δ)(e:ρ[i]?=some (.own ds)):
 ∃a vs,σ[i]?=some (some (.ref a))∧F a=none∧I2 K Y (upd F a (.lst vs)) H σ (ρ.set i (.val (.lst ds))) δ∧Rep K (upd F a (.lst vs)) (.lst ds) (.ref a):=by
 obtain ⟨a,vs,q,h,f,g,r⟩:=I.env i _ e;have hs:=v4 q;have ho:h7 ρ σ i a:=⟨.inl ⟨ds,e⟩,hs⟩;have rr:Rep K (upd F a (.lst vs)) (.lst ds) (.ref a):=rep_lst.mpr ⟨a,vs,rfl,o3,r.mono (Same.new f)⟩;refine ⟨a,vs,hs,f,?_,rr⟩;have key:∀j b,h7 (ρ.set i (.val (.lst ds))) σ j b→j≠i∧h7 ρ σ j b:=fun j b o=>by
  by_cases z:j=i
  ·subst z;rcases o.1 with ⟨ds,q⟩|⟨C,fs,q⟩|⟨kvs,q⟩<;>
   ·rw[List.getElem?_set]at q;simp at q
  ·refine ⟨z,?_⟩;obtain ⟨o1,o2⟩:=o;simp only[List.getElem?_set_ne (Ne.symm z)]at o1;exact ⟨o1,o2⟩
 refine ⟨⟨fun b u e=>?_,fun b es e=>?_,I.ran.keep,fun b u e=>?_,fun b u e=>?_,I.ran.dto⟩,fun j c e'=>?_,by simp[I.len],fun x y b n o1 o2=>I.apart x y b n (key x b o1).2 (key y b o2).2,fun j b o=>I.off j b (key j b o).2⟩
 ·by_cases z:b=a
  ·subst z;rw[o3]at e;cases e;exact h
  ·rw[u0 z]at e;exact I.sub _ _ e
 ·obtain ⟨q1,us,q2,q3⟩:=I.ran.dk b es e;exact ⟨by rw[u0 (Ne.symm (I.off i a ho b es e))];exact q1,us,q2,q3.mono (Same.new f)⟩
 ·rw[u0 (l0 (I.ran.f0 b u e) f)];exact I.ran.f0 b u e
 ·by_cases z:b=a
  ·subst z;exact .inr g
  ·rw[u0 z]at e;exact I.ran.fnew b u e
 ·by_cases z:j=i
  ·subst z;rw[List.getElem?_set]at e';by_cases hl:j<ρ.length
   ·simp[hl]at e';subst e';exact ⟨_,q,rr⟩
   ·simp[hl]at e'
  ·rw[List.getElem?_set_ne (Ne.symm z)]at e';have w:=I.env j c e';cases c with
   |no=>trivial
   |val d=>obtain ⟨u,e1,r1⟩:=w;exact ⟨u,e1,r1.mono (Same.new f)⟩
   |own es=>
    obtain ⟨b,us,e1,h1,f1,g1,r1⟩:=w;have nb:b≠a:=fun w=>I.apart j i a z ⟨.inl ⟨es,e'⟩,by rw[←w];exact v4 e1⟩ ho
    exact ⟨b,us,e1,h1,by rw[u0 nb];exact f1,g1,r1.mono (Same.new f)⟩
   |obj C fs=>
    obtain ⟨b,dx,us,e1,es1,h1,h2,f1,f2,g1,g2,r1⟩:=w;have nb:b≠a:=fun w=>by rw[w,h]at h1;cases h1
    have nd:dx≠a:=fun w=>by rw[w,h]at h2;cases h2
    exact ⟨b,dx,us,e1,es1,h1,h2,by rw[u0 nb];exact f1,by rw[u0 nd];exact f2,g1,g2,r1.mono (Same.new f)⟩
   |ownD kvs=>
    obtain ⟨b,us,e1,h1,f1,g1,r1⟩:=w;have nb:b≠a:=fun w=>by rw[w,h]at h1;cases h1
    exact ⟨b,us,e1,h1,by rw[u0 nb];exact f1,g1,r1.mono (Same.new f)⟩
end
end DL
namespace DL
open PySem PySem.Spec L2
open PySem.W (XC)
noncomputable abbrev XK2:=Addr→List (Str×D)→En→Dk→Prop
noncomputable abbrev K2:=D→En→Dk→Prop
noncomputable abbrev TE2:=XK2→En→Dk→K2→Prop
noncomputable abbrev TT2:=XK2→En→Dk→(Bool→En→Dk→Prop)→Prop
noncomputable abbrev TA2:=XK2→En→Dk→(List D→En→Dk→Prop)→Prop
noncomputable def XRep(K:Frag)(F:Hp)(od:Option Addr)(fs:List (Str×D)):Prop:=match od with
 |none=>fs=[]
 |some d=>∃us,F d=some (XD d us)∧RepF K F fs us
noncomputable def XR(K:Frag)(Y:Y2)(W:XW)(F:Hp)(x:XK2):Prop:=∀C od fs σ' F' H' ρ' δ',I2 K Y F' H' σ' ρ' δ'→Same F F'→XRep K F' od fs→x C fs ρ' δ'→W C od σ' H'
theorem XR.mono{K:Frag}{Y:Y2}{W:XW}{F F1:Hp}{x:XK2}(h:XR K Y W F x)(s:Same F F1):XR K Y W F1 x:=fun C od fs σ' F' H' ρ' δ' I s'=>h C od fs σ' F' H' ρ' δ' I (s.trans s')
noncomputable def upE(K:Frag)(Y:Y2)(W:XW)(t:TE2):TE:=fun σ H Q=>∃F ρ δ x q,I2 K Y F H σ ρ δ∧t x ρ δ q∧(∀d v F' H' ρ' δ',I2 K Y F' H' σ ρ' δ'→Same F F'→Rep K F' d v→q d ρ' δ'→Q v H')∧XR K Y W F x
noncomputable def upT(K:Frag)(Y:Y2)(W:XW)(t:TT2):TT:=fun σ H Q=>∃F ρ δ x q,I2 K Y F H σ ρ δ∧t x ρ δ q∧(∀b F' H' ρ' δ',I2 K Y F' H' σ ρ' δ'→Same F F'→q b ρ' δ'→Q b H')∧XR K Y W F x
noncomputable def upA(K:Frag)(Y:Y2)(W:XW)(t:TA2):TA:=fun σ H Q=>∃F ρ δ x q,I2 K Y F H σ ρ δ∧t x ρ δ q∧(∀ds vs F' H' ρ' δ',I2 K Y F' H' σ ρ' δ'→Same F F'→Reps K F' ds vs→q ds ρ' δ'→Q vs H')∧XR K Y W F x
structure PE2(X:Cx)(Y:Y2)(W:XW)(e:Expr)(t:TE2):Prop where
 go:PE X e (upE X.K Y W t)
structure PT2(X:Cx)(Y:Y2)(W:XW)(e:Expr)(t:TT2):Prop where
 go:PT X e (upT X.K Y W t)
structure PW2(X:Cx)(Y:Y2)(W:XW)(e:Expr)(t:TT2):Prop where
 go:PW X e (upT X.K Y W t)
structure PA2(X:Cx)(Y:Y2)(W:XW)(es:List Expr)(t:TA2):Prop where
 go:PA X es (upA X.K Y W t)
theorem b0e{X:Cx}{e:Expr}{t t':TE}(h:PE X e t)(k:∀ σ H Q,t' σ H Q→t σ H Q):PE X e t':=fun pins s σ H Q I q=>h pins s σ H Q I (k σ H Q q)
theorem b0d{X:Cx}{e:Expr}{t t':TT}(h:PT X e t)(k:∀ σ H Q,t' σ H Q→t σ H Q):PT X e t':=fun pins s σ H Q I q=>h pins s σ H Q I (k σ H Q q)
theorem b0c{X:Cx}{e:Expr}{t t':TT}(h:PW X e t)(k:∀ σ H Q,t' σ H Q→t σ H Q):PW X e t':=fun w pins s σ H Q I q=>h w pins s σ H Q I (k σ H Q q)
theorem b0b{X:Cx}{es:List Expr}{t t':TA}(h:PA X es t)(k:∀ σ H Q,t' σ H Q→t σ H Q):PA X es t':=fun p pins s σ H Q I q=>h p pins s σ H Q I (k σ H Q q)
noncomputable def c0z:Expr→Bool | .Starred _ _=>false |_=>true
theorem x6{e:Expr}{es:List Expr}{env:Env}(h:c0z e=true):starEach (e::es) env=(false,eval e env)::starEach es env:=by
 cases e<;>first |rfl |cases h
theorem l7{pos:Pos}{env:Env}:∀{es:List Expr},es.all c0z=true→(backTo pos (starEach es env)).any (·.1)=false
 | [],_=>rfl
 |e::es,h=>by
  rw[List.all_cons,Bool.and_eq_true]at h;rw[x6 h.1];show (false||(backTo pos (starEach es env)).any (·.1))=false;rw[l7 h.2];rfl
theorem pe2{X:Cx}{Y:Y2}{W:XW}{e:Expr}{t:TE}{u:TE2}(h:PE X e t)(k:∀ σ H Q,upE X.K Y W u σ H Q→t σ H Q):PE2 X Y W e u:=⟨b0e h k⟩
theorem pt2{X:Cx}{Y:Y2}{W:XW}{e:Expr}{t:TT}{u:TT2}(h:PT X e t)(k:∀ σ H Q,upT X.K Y W u σ H Q→t σ H Q):PT2 X Y W e u:=⟨b0d h k⟩
theorem pw2{X:Cx}{Y:Y2}{W:XW}{e:Expr}{t:TT}{u:TT2}(h:PW X e t)(k:∀ σ H Q,upT X.K Y W u σ H Q→t σ H Q):PW2 X Y W e u:=⟨b0c h k⟩
theorem pa2{X:Cx}{Y:Y2}{W:XW}{es:List Expr}{t:TA}{u:TA2}(h:PA X es t)(k:∀ σ H Q,upA X.K Y W u σ H Q→t σ H Q):PA2 X Y W es u:=⟨b0b h k⟩
section
variable{X:Cx}{Y:Y2}{W:XW}{a b c:Expr}{ta tb tc:TE2}{pos:Pos}
noncomputable def t2C(d:D):TE2:=fun _ ρ δ q=>q d ρ δ
theorem e2_c{e:Expr}{v:V}{d:D}(h:PE X e (tC v))(r:∀F,Rep X.K F d v):PE2 X Y W e (t2C d):=pe2 h fun σ H Q ⟨F,ρ,δ,x,q,I,h,k,kx⟩=>k d v F H ρ δ I (Same.refl F) (r F) h
theorem o0{i j pos}:PE2 X Y W (.Constant (.int i) j pos) (t2C (.int i)):=e2_c pe_int fun F=>rep_int.mpr rfl
theorem i5{i j pos}:PE2 X Y W (.Constant (.bool i) j pos) (t2C (.bl i)):=e2_c pe_bl fun F=>rep_bl.mpr rfl
theorem v9{j pos}:PE2 X Y W (.Constant .none j pos) (t2C .non):=e2_c pe_non fun F=>rep_non.mpr rfl
theorem t0r{i j pos}:PE2 X Y W (.Constant (.str i) j pos) (t2C (.str i)):=e2_c pe_str fun F=>rep_str.mpr rfl
noncomputable def rdV(ρ:En)(i:Nat)(k:D→En→Prop):Prop:=match ρ[i]? with
 |some (.val d)=>k d ρ
 |some (.own ds)=>k (.lst ds) (ρ.set i (.val (.lst ds)))
 |_=>False
noncomputable def t2V(i:Nat):TE2:=fun _ ρ δ q=>rdV ρ i fun d ρ'=>q d ρ' δ
theorem c0y{K:Frag}{F H:Hp}{σ:St}{ρ:En}{δ:Dk}{i:Nat}{k:D→En→Prop}(I:I2 K Y F H σ ρ δ)(h:rdV ρ i k):
 ∃d v F' ρ',σ[i]?=some (some v)∧I2 K Y F' H σ ρ' δ∧Same F F'∧Rep K F' d v∧k d ρ':=by
 unfold rdV at h;split at h
 ·rename_i d e;obtain ⟨v,q,r⟩:=I.env i _ e;exact ⟨d,v,F,ρ,v4 q,I,Same.refl F,r,h⟩
 ·rename_i ds e;obtain ⟨a,vs,q,f,I',r⟩:=I.freeze e;exact ⟨_,_,_,_,q,I',Same.new f,r,h⟩
 ·exact h.elim
theorem e2_v(i:Nat){x:Str}{pos:Pos}(hN:X.N[i]?=some x:=by rfl)(hv:Vis X.env.scope x:=by walk_at "v3")(hd:(x==("__debug__":Str))=false:=by decide)
 (hcd:(x==("__classdict__":Str))=false:=by decide):PE2 X Y W (.Name x pos) (t2V i):=pe2 (t0z hN hv hd hcd) fun σ H Q ⟨F,ρ,δ,x,q,I,h,k,kx⟩=>by
 obtain ⟨d,v,F',ρ',e,I',s,r,h'⟩:=c0y I h;exact ⟨v,e,k d v F' H ρ' δ I' s r h'⟩
theorem e2_gi{x:Str}{n:Int}{u:Value}(hm:X.mg x=some u)(r:∃t,u=.int n t)(hg:Gl X x:=by rfl)(hd:(x==("__debug__":Str))=false:=by decide):PE2 X Y W (.Name x pos) (t2C (.int n)):=e2_c (j0j (v:=.int n) hg hm r hd) fun F=>rep_int.mpr rfl
theorem y0o{x:Str}{C:Addr}(hm:X.mg x=some (.ref C))(hg:Gl X x:=by rfl)(hd:(x==("__debug__":Str))=false:=by decide):PE2 X Y W (.Name x pos) (t2C (.ref C)):=e2_c (j0j (v:=.ref C) hg hm rfl hd) fun F=>rep_ref.mpr rfl
theorem k0b(n:String){y:Str}(hm:X.mg y=none)(hv:bootBuiltins y=some (.type n))(hg:Gl X y:=by rfl)(hn:y≠"__name__":=by decide)(hd:(y==("__debug__":Str))=false:=by decide):PE2 X Y W (.Name y pos) (t2C (.ty n)):=
 e2_c (pty n hm hv hg hn hd) fun F=>rep_ty.mpr rfl
noncomputable def i0k:TA2:=fun _ ρ δ q=>q [] ρ δ
noncomputable def t0q(te:TE2)(tr:TA2):TA2:=fun x ρ δ q=>te x ρ δ fun d ρ1 δ1=>tr x ρ1 δ1 fun ds ρ2 δ2=>q (d::ds) ρ2 δ2
theorem y0:PA2 X Y W [] i0k:=pa2 d0i fun σ H Q ⟨F,ρ,δ,x,q,I,h,k,kx⟩=>k [] [] F H ρ δ I (Same.refl F) Reps.nil h
theorem z0{e:Expr}{es:List Expr}{te:TE2}{t:TA2}(ha:PE2 X Y W e te)(hr:PA2 X Y W es t)(hs:starEach (e::es) X.env=(false,eval e X.env)::starEach es X.env:=by exact x6 rfl):PA2 X Y W (e::es) (t0q te t):=
 pa2 (j0a ha.go hr.go hs) fun σ H Q ⟨F,ρ,δ,x,q,I,h,k,kx⟩=>⟨F,ρ,δ,x,_,I,h,fun d1 v1 F1 H1 ρ1 δ1 I1 s1 r1 h1=>⟨F1,ρ1,δ1,x,_,I1,h1,fun ds vs F2 H2 ρ2 δ2 I' s2 r2 h2=>
  k (d1::ds) (v1::vs) F2 H2 ρ2 δ2 I' (s1.trans s2) (Reps.cons (r1.mono s2) r2) h2,kx.mono s1⟩,kx⟩
theorem n0i{n:Nat}(h:n≤1000):n≤PySem.sizeLine:=Nat.le_trans h (by decide)
noncomputable def f0a(t:TA2):TE2:=fun x ρ δ q=>t x ρ δ fun ds ρ1 δ1=>ds.length≤1000∧q (.lst ds) ρ1 δ1
noncomputable def e0z(t:TA2):TE2:=fun x ρ δ q=>t x ρ δ fun ds ρ1 δ1=>ds.length≤1000∧q (.tup ds) ρ1 δ1
theorem j3{es:List Expr}{t:TA2}(h:PA2 X Y W es t):PE2 X Y W (.List es pos) (f0a t):=pe2 (d0h h.go) fun σ H Q ⟨F,ρ,δ,x,q,I,h,k,kx⟩=>
 ⟨F,ρ,δ,x,_,I,h,fun ds vs F1 H1 ρ1 δ1 I1 s1 r1 h1=>⟨n0i (by rw[r1.length];exact h1.1),fun p hp=>k _ _ _ _ ρ1 δ1 (I1.alloc hp) (s1.trans (I1.grow hp)) (I1.lst hp r1) h1.2⟩,kx⟩
theorem y0n{x1}{es:List Expr}{t:TA2}(h:PA2 X Y W es t):PE2 X Y W (.Tuple es x1 pos) (e0z t):=pe2 (pe_tup h.go) fun σ H Q ⟨F,ρ,δ,x,q,I,h,k,kx⟩=>
 ⟨F,ρ,δ,x,_,I,h,fun ds vs F1 H1 ρ1 δ1 I1 s1 r1 h1=>⟨n0i (by rw[r1.length];exact h1.1),fun p hp=>k _ _ _ _ ρ1 δ1 (I1.alloc hp) (s1.trans (I1.grow hp)) (I1.tup hp r1) h1.2⟩,kx⟩
noncomputable abbrev F2:=D→D→(D→Prop)→Prop
noncomputable def OpD(K:Frag)(r:R2)(f:F2):Prop:=∀(Y:Y2) (F H:Hp) (σ:St) (ρ:En) (δ:Dk) (x y:V) (d1 d2:D) (Q1:VK) (q:D→Prop),I2 K Y F H σ ρ δ→Rep K F d1 x→Rep K F d2 y→f d1 d2 q→
 (∀d v F' H',I2 K Y F' H' σ ρ δ→Same F F'→Rep K F' d v→q d→Q1 v H')→r x y H Q1
noncomputable def t2Op(f:F2)(ta tb:TE2):TE2:=fun x ρ δ q=>ta x ρ δ fun d1 ρ1 δ1=>tb x ρ1 δ1 fun d2 ρ2 δ2=>f d1 d2 fun d=>q d ρ2 δ2
theorem e0y{r:R2}{f:F2}(hf:OpD X.K r f){σ:St}{H:Hp}{Q:VK}(h:upE X.K Y W (t2Op f ta tb) σ H Q):tOp r (upE X.K Y W ta) (upE X.K Y W tb) σ H Q:=by
 obtain ⟨F,ρ,δ,x,q,I,h,k,kx⟩:=h;exact ⟨F,ρ,δ,x,_,I,h,fun d1 v1 F1 H1 ρ1 δ1 I1 s1 r1 h1=>⟨F1,ρ1,δ1,x,_,I1,h1,fun d2 v2 F2 H2 ρ2 δ2 I' s2 r2 h2=>
  hf Y F2 H2 σ ρ2 δ2 v1 v2 d1 d2 _ _ I' (r1.mono s2) r2 h2 fun d v F' H' I' s' r' q'=>k d v F' H' ρ2 δ2 I' ((s1.trans s2).trans s') r' q',kx.mono s1⟩,kx⟩
theorem u2{op:Operator}{r:R2}{f:F2}(ho:OpR X (binaryOp op) r)(hf:OpD X.K r f)(ha:PE2 X Y W a ta)(hb:PE2 X Y W b tb):PE2 X Y W (.BinOp a op b pos) (t2Op f ta tb):=pe2 (pe_op ho ha.go hb.go) fun σ H Q h=>e0y hf h
theorem y0m{op:CmpOp}{r:R2}{f:F2}(ho:OpR X (compareOp op) r)(hf:OpD X.K r f)(ha:PE2 X Y W a ta)(hb:PE2 X Y W b tb)(hm:behindInMarks op b=false):PE2 X Y W (.Compare a [op] [b] pos) (t2Op f ta tb):=pe2 (b0u ho ha.go hb.go hm) fun σ H Q h=>e0y hf h
theorem b0a{r:R2}{f:F2}(hr:IxR X r)(hf:OpD X.K r f)(ha:PE2 X Y W a ta)(hb:PE2 X Y W b tb)(hs:n0m b:=by exact fun _ _=>rfl):PE2 X Y W (.Subscript a b pos) (t2Op f ta tb):=pe2 (pe_ix hr ha.go hb.go hs) fun σ H Q h=>e0y hf h
noncomputable def t2B(t:TE2):TT2:=fun x ρ δ q=>t x ρ δ fun d ρ1 δ1=>match d with | .bl k=>q k ρ1 δ1 |_=>False
theorem n0h{t:TE2}{σ:St}{H:Hp}{Q:Bool→Hp→Prop}(h:upT X.K Y W (t2B t) σ H Q):upE X.K Y W t σ H fun x H1=>∃c,x=.bl c∧Q c H1:=by
 obtain ⟨F,ρ,δ,x,q,I,h,k,kx⟩:=h;refine ⟨F,ρ,δ,x,_,I,h,fun d v F' H' ρ' δ' I' s' r' h'=>?_,kx⟩;cases d with
 |bl b=>exact ⟨b,rep_bl.mp r',k b F' H' ρ' δ' I' s' h'⟩
 |_=>exact h'.elim
theorem p5{e:Expr}{t:TE2}(h:PE2 X Y W e t)(he:∀whole,isTrue e X.env whole=(do let v←whole;standAt e.pos;holding [v] (truthy v)):=by intro _;rfl):PT2 X Y W e (t2B t):=pt2 (pt_val h.go he) fun σ H Q h=>n0h h
theorem z6{op:CmpOp}{r:R2}{f:F2}(ho:OpR X (compareOp op) r)(hf:OpD X.K r f)(ha:PE2 X Y W a ta)(hb:PE2 X Y W b tb)(hm:behindInMarks op b=false):PT2 X Y W (.Compare a [op] [b] pos) (t2B (t2Op f ta tb)):=
 pt2 (b0t ho ha.go hb.go hm) fun σ H Q h=>e0y hf (n0h h)
noncomputable def e0x(t:TT2):TT2:=fun x ρ δ q=>t x ρ δ fun k ρ1 δ1=>q (!k) ρ1 δ1
theorem b4{t:TT2}(h:PT2 X Y W a t):PT2 X Y W (.UnaryOp .Not a pos) (e0x t):=pt2 (pt_not h.go) fun σ H Q ⟨F,ρ,δ,x,q,I,h,k,kx⟩=>⟨F,ρ,δ,x,_,I,h,fun b F' H' ρ' δ' I' s' h'=>k _ F' H' ρ' δ' I' s' h',kx⟩
noncomputable def e0w(t u:TT2):TT2:=fun x ρ δ q=>t x ρ δ fun k ρ1 δ1=>if k=true then u x ρ1 δ1 q else q false ρ1 δ1
noncomputable def t2Or(t u:TT2):TT2:=fun x ρ δ q=>t x ρ δ fun k ρ1 δ1=>if k=true then q true ρ1 δ1 else u x ρ1 δ1 q
variable{tA tB':TT2}{rest:List Expr}
theorem i0j(ha:PT2 X Y W a tA):PW2 X Y W (.BoolOp .And [a] pos) tA:=⟨c0c ha.go⟩
theorem p0c(ha:PT2 X Y W a tA):PW2 X Y W (.BoolOp .Or [a] pos) tA:=⟨pw_or1 ha.go⟩
theorem c0x(ha:PT2 X Y W a tA)(hb:PW2 X Y W (.BoolOp .And (b::rest) pos) tB'):PW2 X Y W (.BoolOp .And (a::b::rest) pos) (e0w tA tB'):=pw2 (pw_and ha.go hb.go) fun σ H Q ⟨F,ρ,δ,x,q,I,h,k,kx⟩=>by
 refine ⟨F,ρ,δ,x,_,I,h,fun b F' H' ρ' δ' I' s' h'=>?_,kx⟩;cases b with
 |true=>rw[if_pos rfl]at h' ⊢; exact ⟨F',ρ',δ',x,q,I',h',fun b F2 H2 ρ2 δ2 I2 s2 h2=>k b F2 H2 ρ2 δ2 I2 (s'.trans s2) h2,kx.mono s'⟩
 |false=>rw[if_neg Bool.false_ne_true]at h' ⊢; exact k false F' H' ρ' δ' I' s' h'
theorem k0a(ha:PT2 X Y W a tA)(hb:PW2 X Y W (.BoolOp .Or (b::rest) pos) tB'):PW2 X Y W (.BoolOp .Or (a::b::rest) pos) (t2Or tA tB'):=pw2 (pw_or ha.go hb.go) fun σ H Q ⟨F,ρ,δ,x,q,I,h,k,kx⟩=>by
 refine ⟨F,ρ,δ,x,_,I,h,fun b F' H' ρ' δ' I' s' h'=>?_,kx⟩;cases b with
 |true=>rw[if_pos rfl]at h' ⊢; exact k true F' H' ρ' δ' I' s' h'
 |false=>rw[if_neg Bool.false_ne_true]at h' ⊢; exact ⟨F',ρ',δ',x,q,I',h',fun b F2 H2 ρ2 δ2 I2 s2 h2=>k b F2 H2 ρ2 δ2 I2 (s'.trans s2) h2,kx.mono s'⟩
theorem PW2.pt(h:PW2 X Y W a tA):PT2 X Y W a tA:=⟨PW.pt h.go⟩
noncomputable def l0k(ta tb:TE2):TE2:=fun x ρ δ q=>ta x ρ δ fun d ρ1 δ1=>match d with | .bl k=>if k=true then tb x ρ1 δ1 q else q (.bl false) ρ1 δ1 |_=>False
noncomputable def t2OrV(ta tb:TE2):TE2:=fun x ρ δ q=>ta x ρ δ fun d ρ1 δ1=>match d with | .bl k=>if k=true then q (.bl true) ρ1 δ1 else tb x ρ1 δ1 q |_=>False
noncomputable def l0j(ta:TE2):TE2:=fun x ρ δ q=>ta x ρ δ fun d ρ1 δ1=>match d with | .bl k=>q (.bl (!k)) ρ1 δ1 |_=>False
theorem p0b{op}(h:PE2 X Y W a ta):PE2 X Y W (.BoolOp op [a] pos) ta:=⟨pe_one h.go⟩
theorem p0a(ha:PE2 X Y W a ta)(hb:PE2 X Y W (.BoolOp .And (b::rest) pos) tb):PE2 X Y W (.BoolOp .And (a::b::rest) pos) (l0k ta tb):=pe2 (pe_and ha.go hb.go) fun σ H Q ⟨F,ρ,δ,x,q,I,h,k,kx⟩=>by
 refine ⟨F,ρ,δ,x,_,I,h,fun d v F' H' ρ' δ' I' s' r' h'=>?_,kx⟩;cases d with
 |bl b=>
  refine ⟨b,rep_bl.mp r',?_⟩;cases b with
  |true=>dsimp only at h';rw[if_pos rfl]at h' ⊢; exact ⟨F',ρ',δ',x,q,I',h',fun d v F2 H2 ρ2 δ2 I2 s2 r2 h2=>k d v F2 H2 ρ2 δ2 I2 (s'.trans s2) r2 h2,kx.mono s'⟩
  |false=>dsimp only at h';rw[if_neg Bool.false_ne_true]at h' ⊢; exact k _ _ F' H' ρ' δ' I' s' (rep_bl.mpr rfl) h'
 |_=>exact h'.elim
theorem e2_not(ha:PE2 X Y W a ta):PE2 X Y W (.UnaryOp .Not a pos) (l0j ta):=pe2 (pe_not ha.go) fun σ H Q ⟨F,ρ,δ,x,q,I,h,k,kx⟩=>by
 refine ⟨F,ρ,δ,x,_,I,h,fun d v F' H' ρ' δ' I' s' r' h'=>?_,kx⟩;cases d with
 |bl b=>exact ⟨b,rep_bl.mp r',k _ _ F' H' ρ' δ' I' s' (rep_bl.mpr rfl) h'⟩
 |_=>exact h'.elim
noncomputable def t2If(t:TT2)(ta tb:TE2):TE2:=fun x ρ δ q=>t x ρ δ fun k ρ1 δ1=>if k=true then ta x ρ1 δ1 q else tb x ρ1 δ1 q
noncomputable def w0f(f f':F2)(ta tb tc:TE2):TE2:=fun x ρ δ q=>ta x ρ δ fun d1 ρ1 δ1=>tb x ρ1 δ1 fun d2 ρ2 δ2=>f d1 d2 fun d=>match d with
 | .bl k=>if k=true then tc x ρ2 δ2 fun d3 ρ3 δ3=>f' d2 d3 fun d=>q d ρ3 δ3 else q (.bl false) ρ2 δ2
 |_=>False
theorem l0i{r r':R2}{f f':F2}(hf:OpD X.K r f)(hf':OpD X.K r' f'){σ:St}{H:Hp}{Q:VK}(h:upE X.K Y W (w0f f f' ta tb tc) σ H Q):j0c r r' (upE X.K Y W ta) (upE X.K Y W tb) (upE X.K Y W tc) σ H Q:=by
 obtain ⟨F,ρ,δ,x,q,I,h,k,kx⟩:=h;refine ⟨F,ρ,δ,x,_,I,h,fun d1 v1 F1 H1 ρ1 δ1 I1 s1 r1 h1=>⟨F1,ρ1,δ1,x,_,I1,h1,fun d2 v2 F2 H2 ρ2 δ2 I2 s2 r2 h2=>?_,kx.mono s1⟩,kx⟩;refine hf Y F2 H2 σ ρ2 δ2 v1 v2 d1 d2 _ _ I2 (r1.mono s2) r2 h2 fun d v F' H' I' s' r' q'=>?_
 cases d with
 |bl b=>
  refine ⟨b,rep_bl.mp r',?_⟩;have s3:=(s1.trans s2).trans s';cases b with
  |true=>
   dsimp only at q';rw[if_pos rfl]at q' ⊢;exact ⟨F',ρ2,δ2,x,_,I',q',fun d3 v3 F3 H3 ρ3 δ3 I3 s4 r3 h3=>hf' Y F3 H3 σ ρ3 δ3 v2 v3 d2 d3 _ _ I3 (r2.mono (s'.trans s4)) r3 h3 fun d v F4 H4 I4 s5 r4 q4=>k d v F4 H4 ρ3 δ3 I4 ((s3.trans s4).trans s5) r4 q4,kx.mono s3⟩
  |false=>
   dsimp only at q';rw[if_neg Bool.false_ne_true]at q' ⊢;exact k _ _ F' H' ρ2 δ2 I' s3 (rep_bl.mpr rfl) q'
 |_=>exact q'.elim
theorem e0v{op op':CmpOp}{r r':R2}{f f':F2}(ho:OpR X (compareOp op) r)(ho':OpR X (compareOp op') r')(hf:OpD X.K r f)(hf':OpD X.K r' f')(ha:PE2 X Y W a ta)(hb:PE2 X Y W b tb)(hc:PE2 X Y W c tc)
 (hm:lastMarks [op,op'] [b,c]=false:=by with_unfolding_all rfl):PE2 X Y W (.Compare a [op,op'] [b,c] pos) (w0f f f' ta tb tc):=pe2 (f0s ho ho' ha.go hb.go hc.go hm) fun σ H Q h=>l0i hf hf' h
theorem e0u{op op':CmpOp}{r r':R2}{f f':F2}(ho:OpR X (compareOp op) r)(ho':OpR X (compareOp op') r')(hf:OpD X.K r f)(hf':OpD X.K r' f')(ha:PE2 X Y W a ta)(hb:PE2 X Y W b tb)(hc:PE2 X Y W c tc)
 (hm:lastMarks [op,op'] [b,c]=false:=by with_unfolding_all rfl):PT2 X Y W (.Compare a [op,op'] [b,c] pos) (t2B (w0f f f' ta tb tc)):=pt2 (f0r ho ho' ha.go hb.go hc.go hm) fun σ H Q h=>l0i hf hf' (n0h h)
noncomputable abbrev F1:=List D→(D→Prop)→Prop
noncomputable def u0s(K:Frag)(r:List V→Hp→VK→Prop)(f:F1):Prop:=∀(Y:Y2) (F H:Hp) (σ:St) (ρ:En) (δ:Dk) (vs:List V) (ds:List D) (Q1:VK) (q:D→Prop),I2 K Y F H σ ρ δ→Reps K F ds vs→f ds q→
 (∀d v F' H',I2 K Y F' H' σ ρ δ→Same F F'→Rep K F' d v→q d→Q1 v H')→r vs H Q1
noncomputable def t2Bi(f:F1)(t:TA2):TE2:=fun x ρ δ q=>t x ρ δ fun ds ρ1 δ1=>f ds fun d=>q d ρ1 δ1
theorem up_bi{r:List V→Hp→VK→Prop}{f:F1}{t:TA2}(hf:u0s X.K r f){σ:St}{H:Hp}{Q:VK}(h:upE X.K Y W (t2Bi f t) σ H Q):tCB r (upA X.K Y W t) σ H Q:=by
 obtain ⟨F,ρ,δ,x,q,I,h,k,kx⟩:=h;exact ⟨F,ρ,δ,x,_,I,h,fun ds vs F1 H1 ρ1 δ1 I1 s1 r1 h1=>hf Y F1 H1 σ ρ1 δ1 vs ds _ _ I1 r1 h1 fun d v F' H' I' s' r' q'=>k d v F' H' ρ1 δ1 I' (s1.trans s') r' q',kx⟩
variable{x:Str}{e:Expr}{es:List Expr}{t:TA2}{p:Pos}
theorem e2_b{id:String}{r:List V→Hp→VK→Prop}{f:F1}(hc:w0h X (.builtin id) r)(hf:u0s X.K r f)(hm:X.mg x=none)(hv:bootBuiltins x=some (.builtin id))(ha:PA2 X Y W (e::es) t)(hg:Gl X x:=by rfl)(hn:x≠"__name__":=by decide)(hdb:(x==("__debug__":Str))=false:=by decide)
 (he:starEach (e::es) X.env=(false,eval e X.env)::starEach es X.env:=by exact x6 rfl) (hpl:(backTo pos (starEach es X.env)).any (·.1)=false:=by exact l7 rfl):PE2 X Y W (.Call (.Name x p) (e::es) [] pos) (t2Bi f t):=pe2 (l0u hc hg hm hv ha.go hn hdb he hpl) fun σ H Q h=>up_bi hf h
theorem t0p{T:String}{r:List V→Hp→VK→Prop}{f:F1}(hc:w0h X (.type T) r)(hf:u0s X.K r f)(hm:X.mg x=none)(hv:bootBuiltins x=some (.type T))(ha:PA2 X Y W (e::es) t)(hg:Gl X x:=by rfl)(hn:x≠"__name__":=by decide)(hdb:(x==("__debug__":Str))=false:=by decide)
 (he:starEach (e::es) X.env=(false,eval e X.env)::starEach es X.env:=by exact x6 rfl) (hpl:(backTo pos (starEach es X.env)).any (·.1)=false:=by exact l7 rfl):PE2 X Y W (.Call (.Name x p) (e::es) [] pos) (t2Bi f t):=pe2 (i0z hc hg hm hv ha.go hn hdb he hpl) fun σ H Q h=>up_bi hf h
noncomputable def t2Un(f:D→(D→Prop)→Prop)(ta:TE2):TE2:=fun x ρ δ q=>ta x ρ δ fun d ρ1 δ1=>f d fun d=>q d ρ1 δ1
theorem r0k(ha:PE2 X Y W a ta):PE2 X Y W (.UnaryOp .USub a pos) (t2Un (fun d q=>match d with | .int i=>q (.int (-i))|_=>False) ta):=pe2 (pe_un un_neg ha.go) fun σ H Q ⟨F,ρ,δ,x,q,I,h,k,kx⟩=>by
 refine ⟨F,ρ,δ,x,_,I,h,fun d v F' H' ρ' δ' I' s' r' h'=>?_,kx⟩;cases d with
 |int i=>exact ⟨i,rep_int.mp r',k _ _ F' H' ρ' δ' I' s' (rep_int.mpr rfl) h'⟩
 |_=>exact h'.elim
end
end DL
namespace DL
open PySem PySem.Spec L2
open PySem.W (XC)
section
variable{X:Cx}{K:Frag}
theorem i0i{f:Value→Value→Sem Value}{r r':R2}(h:OpR X f r)(h':OpR X f r'):OpR X f (fun x y H Q=>r x y H Q∨r' x y H Q):=by
 intro pins s σ H x y v u Q I rx ry q;rcases q with q |q
 ·exact h pins s σ H x y v u Q I rx ry q
 ·exact h' pins s σ H x y v u Q I rx ry q
noncomputable def fI(C:Int→Int→Prop)(g:Int→Int→D):F2:=fun d1 d2 q=>match d1,d2 with
 | .int i,.int j=>C i j∧q (g i j)
 |_,_=>False
theorem dI{C:Int→Int→Prop}{g:Int→Int→V}{g':Int→Int→D}(h:∀F i j,Rep K F (g' i j) (g i j)):OpD K (rI C g) (fI C g'):=by
 intro Y F H σ ρ δ x y d1 d2 Q1 q I r1 r2 h' k;unfold fI at h';split at h'
 ·rename_i i j;exact ⟨i,j,rep_int.mp r1,rep_int.mp r2,h'.1,k _ _ F H I (Same.refl F) (h F i j) h'.2⟩
 ·exact h'.elim
noncomputable def fI0(g:Int→Int→D):F2:=fun d1 d2 q=>match d1,d2 with
 | .int i,.int j=>q (g i j)
 |_,_=>False
theorem dI0{g:Int→Int→V}{g':Int→Int→D}(h:∀F i j,Rep K F (g' i j) (g i j)):OpD K (rI0 g) (fI0 g'):=by
 intro Y F H σ ρ δ x y d1 d2 Q1 q I r1 r2 h' k;unfold fI0 at h';split at h'
 ·rename_i i j;exact ⟨i,j,rep_int.mp r1,rep_int.mp r2,k _ _ F H I (Same.refl F) (h F i j) h'⟩
 ·exact h'.elim
noncomputable def a0z(K:Frag):R2:=fun x y H Q=>rI0 (fun i j=>.int (i+j)) x y H Q∨rCat x y H Q
noncomputable def addF:F2:=fun d1 d2 q=>match d1,d2 with
 | .int i,.int j=>q (.int (i+j))
 | .lst xs,.lst ys=>xs.length+ys.length≤1000∧q (.lst (xs++ys))
 |_,_=>False
theorem a0y:OpR X (binaryOp .Add) (a0z X.K):=i0i op_add r0m
theorem d_add:OpD K (a0z K) addF:=by
 intro Y F H σ ρ δ x y d1 d2 Q1 q I r1 r2 h' k;unfold addF at h';split at h'
 ·rename_i i j;exact .inl ⟨i,j,rep_int.mp r1,rep_int.mp r2,k _ _ F H I (Same.refl F) (rep_int.mpr rfl) h'⟩
 ·rename_i xs ys;obtain ⟨a,vs,rfl,e1,z1⟩:=rep_lst.mp r1;obtain ⟨b,us,rfl,e2,z2⟩:=rep_lst.mp r2;refine .inr ⟨a,b,vs,us,rfl,rfl,I.sub _ _ e1,I.sub _ _ e2,n0i (by rw[z1.length,z2.length];exact h'.1),fun p hp=>k _ _ _ _ (I.alloc hp) (I.grow hp) (I.lst hp (z1.append z2)) h'.2⟩
 ·exact h'.elim
noncomputable abbrev subF:F2:=fI0 fun i j=>.int (i-j)
noncomputable abbrev mulF:F2:=fI CMul fun i j=>.int (i*j)
noncomputable abbrev e0t:F2:=fI CDiv fun i j=>.int (i/j)
noncomputable abbrev modF:F2:=fI (fun _ j=>0<j) fun i j=>.int (i%j)
noncomputable abbrev powF:F2:=fI CPow fun i j=>.int (i^j.toNat)
noncomputable abbrev ltF:F2:=fI0 fun i j=>.bl (decide (i<j))
noncomputable abbrev leF:F2:=fI0 fun i j=>.bl (decide (i≤j))
noncomputable abbrev gtF:F2:=fI0 fun i j=>.bl (decide (j<i))
noncomputable abbrev geF:F2:=fI0 fun i j=>.bl (decide (j≤i))
theorem w0e:OpD K (rI0 fun i j=>.int (i-j)) subF:=dI0 fun _ _ _=>rep_int.mpr rfl
theorem n0g:OpD K (rI CMul fun i j=>.int (i*j)) mulF:=dI fun _ _ _=>rep_int.mpr rfl
theorem r0j:OpD K (rI CDiv fun i j=>.int (i/j)) e0t:=dI fun _ _ _=>rep_int.mpr rfl
theorem d6:OpD K (rI (fun _ j=>0<j) fun i j=>.int (i%j)) modF:=dI fun _ _ _=>rep_int.mpr rfl
theorem d_pow:OpD K (rI CPow fun i j=>.int (i^j.toNat)) powF:=dI fun _ _ _=>rep_int.mpr rfl
theorem d_lt:OpD K (rI0 fun i j=>.bl (decide (i<j))) ltF:=dI0 fun _ _ _=>rep_bl.mpr rfl
theorem d_le:OpD K (rI0 fun i j=>.bl (decide (i≤j))) leF:=dI0 fun _ _ _=>rep_bl.mpr rfl
theorem d_gt:OpD K (rI0 fun i j=>.bl (decide (j<i))) gtF:=dI0 fun _ _ _=>rep_bl.mpr rfl
theorem d_ge:OpD K (rI0 fun i j=>.bl (decide (j≤i))) geF:=dI0 fun _ _ _=>rep_bl.mpr rfl
noncomputable def repF:F2:=fun d1 d2 q=>match d1,d2 with
 | .lst xs,.int k=>xs.length*k.toNat≤1000∧0≤k∧k≤1000∧q (.lst (List.replicate k.toNat xs).flatten)
 |_,_=>False
theorem Reps.rep{F:Hp}{ds:List D}{vs:List V}(h:Reps K F ds vs):∀n:Nat,Reps K F (List.replicate n ds).flatten (List.replicate n vs).flatten
 | 0=>by simp;exact Reps.nil
 |n+1=>by rw[List.replicate_succ,List.replicate_succ,List.flatten_cons,List.flatten_cons];exact h.append (Reps.rep h n)
theorem a0x:OpD K rRep repF:=by
 intro Y F H σ ρ δ x y d1 d2 Q1 q I r1 r2 h' k;unfold repF at h';split at h'
 ·rename_i xs n;obtain ⟨a,vs,rfl,e1,z1⟩:=rep_lst.mp r1;obtain ⟨h1,h2,h3,h4⟩:=h';refine ⟨a,n,vs,rfl,rep_int.mp r2,I.sub _ _ e1,by omega,by omega,n0i (by rw[z1.length];exact h1),fun p hp=>k _ _ _ _ (I.alloc hp) (I.grow hp) (I.lst hp (z1.rep _)) h4⟩
 ·exact h'.elim
noncomputable def eqD:D→D→Option Bool
 | .int i,.int j=>some (decide (i=j))
 | .bl i,.bl j=>some (decide (i=j))
 | .str i,.str j=>some (decide (i=j))
 | .non,.non=>some true
 | .non,.int _=>some false | .non,.bl _=>some false | .non,.str _=>some false
 | .int _,.non=>some false | .bl _,.non=>some false | .str _,.non=>some false
 | .int _,.str _=>some false | .bl _,.str _=>some false
 | .str _,.int _=>some false | .str _,.bl _=>some false
 |_,_=>none
noncomputable def eqF:F2:=fun d1 d2 q=>match eqD d1 d2 with |some b=>q (.bl b)|none=>False
noncomputable def neF:F2:=fun d1 d2 q=>match eqD d1 d2 with |some b=>q (.bl (!b))|none=>False
theorem eqD_v{F:Hp}{d1 d2:D}{x y:V}{b:Bool}(h:eqD d1 d2=some b)(r1:Rep K F d1 x)(r2:Rep K F d2 y):scal x y=true∧decide (x=y)=b:=by
 unfold eqD at h;split at h<;>first |cases h |skip
 all_goals
  first
   |(rw[rep_int.mp r1,rep_int.mp r2];exact ⟨rfl,by simp⟩)
   |(rw[rep_bl.mp r1,rep_bl.mp r2];exact ⟨rfl,by simp⟩)
   |(rw[rep_str.mp r1,rep_str.mp r2];exact ⟨rfl,by simp⟩)
   |(rw[rep_non.mp r1,rep_non.mp r2];exact ⟨rfl,by simp⟩)
   |(rw[rep_non.mp r1,rep_int.mp r2];exact ⟨rfl,by simp⟩)
   |(rw[rep_non.mp r1,rep_bl.mp r2];exact ⟨rfl,by simp⟩)
   |(rw[rep_non.mp r1,rep_str.mp r2];exact ⟨rfl,by simp⟩)
   |(rw[rep_int.mp r1,rep_non.mp r2];exact ⟨rfl,by simp⟩)
   |(rw[rep_bl.mp r1,rep_non.mp r2];exact ⟨rfl,by simp⟩)
   |(rw[rep_str.mp r1,rep_non.mp r2];exact ⟨rfl,by simp⟩)
   |(rw[rep_int.mp r1,rep_str.mp r2];exact ⟨rfl,by simp⟩)
   |(rw[rep_bl.mp r1,rep_str.mp r2];exact ⟨rfl,by simp⟩)
   |(rw[rep_str.mp r1,rep_int.mp r2];exact ⟨rfl,by simp⟩)
   |(rw[rep_str.mp r1,rep_bl.mp r2];exact ⟨rfl,by simp⟩)
theorem d_eq:OpD K rEq eqF:=by
 intro Y F H σ ρ δ x y d1 d2 Q1 q I r1 r2 h' k;unfold eqF at h';split at h'
 ·rename_i b e;obtain ⟨s,e2⟩:=eqD_v e r1 r2;exact ⟨s,by rw[e2];exact k _ _ F H I (Same.refl F) (rep_bl.mpr rfl) h'⟩
 ·exact h'.elim
noncomputable def r0i:D→Bool | .non=>true |_=>false
noncomputable def isNF:F2:=fun d1 d2 q=>match d2 with | .non=>q (.bl (r0i d1))|_=>False
noncomputable def notNF:F2:=fun d1 d2 q=>match d2 with | .non=>q (.bl (!r0i d1))|_=>False
theorem a0w{F:Hp}{d:D}{x:V}(r:Rep K F d x):decide (x=.non)=r0i d:=by
 cases d with
 |non=>rw[rep_non.mp r];rfl
 |bl b=>rw[rep_bl.mp r];rfl
 |int b=>rw[rep_int.mp r];rfl
 |str b=>rw[rep_str.mp r];rfl
 |lst b=>obtain ⟨a,vs,rfl,_⟩:=rep_lst.mp r;rfl
 |tup b=>obtain ⟨a,vs,rfl,_⟩:=rep_tup.mp r;rfl
 |scr b=>obtain ⟨a,vs,rfl,_⟩:=rep_scr.mp r;rfl
 |dic b=>obtain ⟨a,vs,rfl,_⟩:=rep_dic.mp r;rfl
 |dwk b=>obtain ⟨a,o,vs,rfl,_⟩:=rep_dwk.mp r;rfl
 |ins C b=>obtain ⟨a,dx,vs,rfl,_⟩:=rep_ins.mp r;rfl
 |exc C b=>obtain ⟨a,fr,rfl,_⟩:=rep_exc.mp r;rfl
 |ref a=>rw[rep_ref.mp r];rfl
 |ty a=>rw[rep_ty.mp r];rfl
theorem d_isN:OpD K (fun x y H Q=>y=.non∧Q (.bl (decide (x=.non))) H) isNF:=by
 intro Y F H σ ρ δ x y d1 d2 Q1 q I r1 r2 h' k;cases d2 with
 |non=>exact ⟨rep_non.mp r2,by rw[a0w r1];exact k _ _ F H I (Same.refl F) (rep_bl.mpr rfl) h'⟩
 |_=>exact h'.elim
noncomputable def isBF:F2:=fun d1 d2 q=>match d1,d2 with | .bl i,.bl j=>q (.bl (i==j))|_,_=>False
noncomputable def i0h:F2:=fun d1 d2 q=>match d1,d2 with | .bl i,.bl j=>q (.bl (!(i==j)))|_,_=>False
theorem d_notB:OpD K (fun x y H Q=>∃a b,x=.bl a∧y=.bl b∧Q (.bl (!(a==b))) H) i0h:=by
 intro Y F H σ ρ δ x y d1 d2 Q1 q I r1 r2 h' k;unfold i0h at h';split at h'
 ·exact ⟨_,_,rep_bl.mp r1,rep_bl.mp r2,k _ _ F H I (Same.refl F) (rep_bl.mpr rfl) h'⟩
 ·exact h'.elim
noncomputable def seqD:D→Option (List D)
 | .lst xs=>some xs | .tup xs=>some xs | .scr xs=>some xs |_=>none
noncomputable def ixF:F2:=fun d1 d2 q=>match seqD d1,d2 with
 |some xs,.int i=>match atI xs i with |some d=>q d |none=>False
 |_,_=>False
theorem o0z{F H:Hp}{d:D}{xs:List D}{x:V}(s:Same F H)(h:seqD d=some xs)(r:Rep K F d x):∃a vs,x=.ref a∧(SqL K H a vs∨SqT K H a vs)∧Reps K F xs vs:=by
 cases d with
 |lst ys=>cases h;obtain ⟨a,vs,rfl,e,z⟩:=rep_lst.mp r;exact ⟨a,vs,rfl,.inl (SqL.of (s _ _ e)),z⟩
 |tup ys=>cases h;obtain ⟨a,vs,rfl,e,z⟩:=rep_tup.mp r;exact ⟨a,vs,rfl,.inr (SqT.of (s _ _ e)),z⟩
 |scr ys=>cases h;obtain ⟨a,vs,rfl,e,z⟩:=rep_scr.mp r;exact ⟨a,vs,rfl,.inl (s.sqL e),z⟩
 |_=>cases h
theorem d_ix:OpD K (rIx K) ixF:=by
 intro Y F H σ ρ δ x y d1 d2 Q1 q I r1 r2 h' k;unfold ixF at h';split at h'
 ·rename_i xs i e;split at h'
  ·rename_i d ed;obtain ⟨a,vs,rfl,sq,z⟩:=o0z I.sub e r1;obtain ⟨v,ev,rv⟩:=z.atI ed;have fin:=k d v F H I (Same.refl F) rv h';rcases sq with sq |sq
   ·exact .inl ⟨a,vs,i,v,rfl,rep_int.mp r2,sq,ev,fin⟩
   ·exact .inr (.inl ⟨a,vs,i,v,rfl,rep_int.mp r2,sq,ev,fin⟩)
  ·exact h'.elim
 ·exact h'.elim
noncomputable def m7:D→Bool | .non=>true | .bl _=>true | .int _=>true | .str _=>true |_=>false
noncomputable def toV:D→V | .bl b=>.bl b | .int i=>.int i | .str x=>.str x |_=>.non
theorem c0w{F:Hp}{d:D}{x:V}(h:m7 d=true)(r:Rep K F d x):x=toV d∧l9 x=true:=by
 cases d with
 |non=>rw[rep_non.mp r];exact ⟨rfl,rfl⟩
 |bl b=>rw[rep_bl.mp r];exact ⟨rfl,rfl⟩
 |int b=>rw[rep_int.mp r];exact ⟨rfl,rfl⟩
 |str b=>rw[rep_str.mp r];exact ⟨rfl,rfl⟩
 |_=>cases h
theorem k9{F:Hp}:∀{ds:List D} {xs:List V},ds.all m7=true→Reps K F ds xs→xs=ds.map toV∧xs.all l9=true
 | [],xs,_,r=>by rw[reps_nil.mp r];exact ⟨rfl,rfl⟩
 |d::ds,xs,h,r=>by
  obtain ⟨v,vs,rfl,r1,r2⟩:=reps_cons.mp r;rw[List.all_cons,Bool.and_eq_true]at h;obtain ⟨e1,e2⟩:=c0w h.1 r1;obtain ⟨e3,e4⟩:=k9 h.2 r2;rw[List.all_cons,e2,e4,List.map_cons,← e1,← e3];exact ⟨rfl,rfl⟩
noncomputable def inD(d:D)(xs:List D):Bool:=xs.any fun e=>eqV (toV e) (toV d)
noncomputable def inF:F2:=fun d1 d2 q=>match seqD d2 with |some xs=>(m7 d1&&xs.all m7)=true∧q (.bl (inD d1 xs))|none=>False
noncomputable def notInF:F2:=fun d1 d2 q=>match seqD d2 with |some xs=>(m7 d1&&xs.all m7)=true∧q (.bl (!inD d1 xs))|none=>False
noncomputable def lenF:F1:=fun ds q=>match ds with | [d]=>(match seqD d with |some xs=>q (.int (xs.length:Nat))|none=>False)|_=>False
theorem y0u{F:Hp}{d:D}{vs:List V}(r:Reps K F [d] vs):∃v,vs=[v]∧Rep K F d v:=by
 obtain ⟨v,l,rfl,r1,r2⟩:=reps_cons.mp r;rw[reps_nil.mp r2];exact ⟨v,rfl,r1⟩
theorem a0v{F:Hp}{d e:D}{vs:List V}(r:Reps K F [d,e] vs):∃v u,vs=[v,u]∧Rep K F d v∧Rep K F e u:=by
 obtain ⟨v,l,rfl,r1,r2⟩:=reps_cons.mp r;obtain ⟨u,rfl,r3⟩:=y0u r2;exact ⟨v,u,rfl,r1,r3⟩
theorem a0u:u0s K (fun xs H Q=>∃p ys,xs=[.ref p]∧(SqL K H p ys∨SqT K H p ys)∧Q (.int ys.length) H) lenF:=by
 intro Y F H σ ρ δ vs ds Q1 q I r h' k;unfold lenF at h';split at h'
 ·split at h'
  ·rename_i xs e;obtain ⟨v,rfl,r1⟩:=y0u r;obtain ⟨a,us,rfl,sq,z⟩:=o0z I.sub e r1;exact ⟨a,us,rfl,sq,by rw[z.length];exact k _ _ F H I (Same.refl F) (rep_int.mpr rfl) h'⟩
  ·exact h'.elim
 ·exact h'.elim
noncomputable def absF:F1:=fun ds q=>match ds with | [.int i]=>q (.int (if i<0 then -i else i))|_=>False
theorem d_abs:u0s K (fun xs H Q=>∃i,xs=[.int i]∧Q (.int (if i<0 then -i else i)) H) absF:=by
 intro Y F H σ ρ δ vs ds Q1 q I r h' k;unfold absF at h';split at h'
 ·obtain ⟨v,rfl,r1⟩:=y0u r;rw[rep_int.mp r1];exact ⟨_,rfl,k _ _ F H I (Same.refl F) (rep_int.mpr rfl) h'⟩
 ·exact h'.elim
noncomputable def minF:F1:=fun ds q=>match ds with | [.int i,.int j]=>q (.int (if j<i then j else i))|_=>False
noncomputable def maxF:F1:=fun ds q=>match ds with | [.int i,.int j]=>q (.int (if j>i then j else i))|_=>False
theorem d_min:u0s K (fun xs H Q=>∃i j,xs=[.int i,.int j]∧Q (.int (if j<i then j else i)) H) minF:=by
 intro Y F H σ ρ δ vs ds Q1 q I r h' k;unfold minF at h';split at h'
 ·obtain ⟨v,u,rfl,r1,r2⟩:=a0v r;rw[rep_int.mp r1,rep_int.mp r2];exact ⟨_,_,rfl,k _ _ F H I (Same.refl F) (rep_int.mpr rfl) h'⟩
 ·exact h'.elim
noncomputable def intF:F1:=fun ds q=>match ds with | [.int i]=>q (.int i)| [.bl k]=>q (.int (if k then 1 else 0))|_=>False
theorem a0t:u0s K (fun xs H Q=>(∃i,xs=[.int i]∧Q (.int i) H)∨∃k,xs=[.bl k]∧Q (.int (if k then 1 else 0)) H) intF:=by
 intro Y F H σ ρ δ vs ds Q1 q I r h' k;unfold intF at h';split at h'
 ·obtain ⟨v,rfl,r1⟩:=y0u r;rw[rep_int.mp r1];exact .inl ⟨_,rfl,k _ _ F H I (Same.refl F) (rep_int.mpr rfl) h'⟩
 ·obtain ⟨v,rfl,r1⟩:=y0u r;rw[rep_bl.mp r1];exact .inr ⟨_,rfl,k _ _ F H I (Same.refl F) (rep_int.mpr rfl) h'⟩
 ·exact h'.elim
noncomputable def i0g:F1:=fun ds q=>match ds with | [d]=>(match seqD d with |some xs=>q (.lst xs)|none=>False)|_=>False
theorem i0f:u0s K (fun xs H Q=>∃p ys,xs=[.ref p]∧(SqL K H p ys∨SqT K H p ys)∧∀l,H l=none→Q (.ref l) (upd H l (.lst ys))) i0g:=by
 intro Y F H σ ρ δ vs ds Q1 q I r h' k;unfold i0g at h';split at h'
 ·split at h'
  ·rename_i xs e;obtain ⟨v,rfl,r1⟩:=y0u r;obtain ⟨a,us,rfl,sq,z⟩:=o0z I.sub e r1;exact ⟨a,us,rfl,sq,fun l hl=>k _ _ _ _ (I.alloc hl) (I.grow hl) (I.lst hl z) h'⟩
  ·exact h'.elim
 ·exact h'.elim
noncomputable def o0y:F1:=fun ds q=>match ds with | [.lst xs]=>q (.tup xs)| [.scr xs]=>q (.tup xs)| [.tup xs]=>q (.tup xs)|_=>False
theorem q0y:u0s K (fun xs H Q=>∃p ys,xs=[.ref p]∧((SqL K H p ys∧∀l,H l=none→Q (.ref l) (upd H l (.tup ys)))∨(SqT K H p ys∧Q (.ref p) H))) o0y:=by
 intro Y F H σ ρ δ vs ds Q1 q I r h' k;unfold o0y at h';split at h'
 ·obtain ⟨v,rfl,r1⟩:=y0u r;obtain ⟨a,us,rfl,e,z⟩:=rep_lst.mp r1;exact ⟨a,us,rfl,.inl ⟨SqL.of (I.sub _ _ e),fun l hl=>k _ _ _ _ (I.alloc hl) (I.grow hl) (I.tup hl z) h'⟩⟩
 ·obtain ⟨v,rfl,r1⟩:=y0u r;obtain ⟨a,us,rfl,e,z⟩:=rep_scr.mp r1;exact ⟨a,us,rfl,.inl ⟨I.sub.sqL e,fun l hl=>k _ _ _ _ (I.alloc hl) (I.grow hl) (I.tup hl z) h'⟩⟩
 ·obtain ⟨v,rfl,r1⟩:=y0u r;obtain ⟨a,us,rfl,e,z⟩:=rep_tup.mp r1;exact ⟨a,us,rfl,.inr ⟨SqT.of (I.sub _ _ e),k _ _ F H I (Same.refl F) (rep_tup.mpr ⟨a,us,rfl,e,z⟩) h'⟩⟩
 ·exact h'.elim
noncomputable def blsD:List D→Option (List Bool)
 | []=>some []
 | .bl b::r=>(blsD r).map (b::·)
 |_=>none
theorem bls_v{F:Hp}:∀{ds:List D} {bs:List Bool} {vs:List V},blsD ds=some bs→Reps K F ds vs→vs=bs.map V.bl
 | [],bs,vs,h,r=>by cases h;rw[reps_nil.mp r];rfl
 |d::ds,bs,vs,h,r=>by
  obtain ⟨v,l,rfl,r1,r2⟩:=reps_cons.mp r;cases d with
  |bl b=>
   unfold blsD at h;obtain ⟨cs,e1,rfl⟩:=Option.map_eq_some_iff.mp h;rw[rep_bl.mp r1,bls_v e1 r2];rfl
  |_=>cases h
noncomputable def allF:F1:=fun ds q=>match ds with | [.lst xs]=>(match blsD xs with |some bs=>q (.bl (bs.all id))|none=>False)|_=>False
theorem d_all:u0s K (rAll K) allF:=by
 intro Y F H σ ρ δ vs ds Q1 q I r h' k;unfold allF at h';split at h'
 ·split at h'
  ·rename_i xs _ bs e;obtain ⟨v,rfl,r1⟩:=y0u r;obtain ⟨a,us,rfl,e2,z⟩:=rep_lst.mp r1;exact ⟨a,bs,rfl,SqL.of (by rw[←bls_v e z];exact I.sub _ _ e2),k _ _ F H I (Same.refl F) (rep_bl.mpr rfl) h'⟩
  ·exact h'.elim
 ·exact h'.elim
structure ClsI(K:Frag)(C:Addr):Prop where
 cl:Cls K C
 ha:PySem.W.findIn K (.ref C) "__class__"=some (some (.builtin "object.__class__"))
 hn:PySem.W.specialIn K (.builtin "object.__class__") "__get__"=some (some (.builtin "getset_descriptor.__get__"))
 htk:PySem.W.takesIn K (.builtin "object.__class__")=some true
 hm:PySem.W.mroIn K C (.type "object")=some true
noncomputable def tyD:D→Value
 | .non=>.type "NoneType" | .bl _=>.type "bool" | .int _=>.type "int" | .str _=>.type "str" | .lst _=>.type "list" | .scr _=>.type "list" | .tup _=>.type "tuple" | .dic _=>.type "dict"
 | .ins C _=>.ref C | .exc C _=>.ref C |_=>.none
noncomputable def TyD(K:Frag):D→Prop
 | .ins C _=>ClsI K C | .exc C _=>XC K C | .ref _=>False | .ty _=>False | .scr _=>False | .dwk _=>False |_=>True
theorem tyD_v{F H:Hp}{d:D}{x:V}(s:Same F H)(t:TyD K d)(r:Rep K F d x):TyX K H x (tyD d):=by
 cases d with
 |non=>rw[rep_non.mp r];exact .of .non
 |bl b=>rw[rep_bl.mp r];exact .of (.bl b)
 |int b=>rw[rep_int.mp r];exact .of (.int b)
 |str b=>rw[rep_str.mp r];exact .of (.str b)
 |lst b=>obtain ⟨a,vs,rfl,e,_⟩:=rep_lst.mp r;exact .of (.lst (s _ _ e))
 |tup b=>obtain ⟨a,vs,rfl,e,_⟩:=rep_tup.mp r;exact .of (.tup (s _ _ e))
 |scr b=>exact t.elim
 |dic b=>obtain ⟨a,vs,rfl,e,_⟩:=rep_dic.mp r;exact .of (.dK (s _ _ e))
 |dwk b=>exact t.elim
 |ins C b=>obtain ⟨a,dx,vs,rfl,e,_⟩:=rep_ins.mp r;exact .of (.ins (s _ _ e) t.cl t.ha t.hn t.htk t.hm)
 |exc C b=>
  obtain ⟨a,fr,rfl,h⟩:=rep_exc.mp r;rcases h with ⟨_,e⟩|⟨d,us,e,e2,_⟩
  ·exact .exc0 (s _ _ e) t
  ·exact .exc (s _ _ e) (s _ _ e2) t
 |ref a=>exact t.elim
 |ty a=>exact t.elim
noncomputable def tysD:List D→Option (List String)
 | []=>some []
 | .ty n::r=>(tysD r).map (n::·)
 |_=>none
theorem tys_v{F:Hp}:∀{ds:List D} {ns:List String} {vs:List V},tysD ds=some ns→Reps K F ds vs→vs=ns.map V.ty
 | [],bs,vs,h,r=>by cases h;rw[reps_nil.mp r];rfl
 |d::ds,bs,vs,h,r=>by
  obtain ⟨v,l,rfl,r1,r2⟩:=reps_cons.mp r;cases d with
  |ty b=>
   unfold tysD at h;obtain ⟨cs,e1,rfl⟩:=Option.map_eq_some_iff.mp h;rw[rep_ty.mp r1,tys_v e1 r2];rfl
  |_=>cases h
noncomputable def s0c(K:Frag)(d c:D):Option Bool:=match c with
 | .ty n=>PySem.W.kitOne K (tyD d) (.type n)
 | .ref C=>PySem.W.kitOne K (tyD d) (.ref C)
 | .tup cs=>match tysD cs with |some ns=>PySem.W.kitAny K (tyD d) (ns.map Value.type)|none=>none
 |_=>none
noncomputable def i0e(K:Frag):F1:=fun ds q=>match ds with | [d,c]=>TyD K d∧(match s0c K d c with |some b=>q (.bl b)|none=>False)|_=>False
theorem p6:u0s K (rInst K) (i0e K):=by
 intro Y F H σ ρ δ vs ds Q1 q I r h' k;unfold i0e at h';split at h'
 ·rename_i d c;obtain ⟨ht,h'⟩:=h';obtain ⟨v,u,rfl,r1,r2⟩:=a0v r;split at h'
  ·rename_i b e;refine ⟨v,u,_,b,rfl,tyD_v I.sub ht r1,?_,k _ _ F H I (Same.refl F) (rep_bl.mpr rfl) h'⟩;unfold s0c at e;split at e
   ·exact .inl ⟨_,rep_ty.mp r2,e⟩
   ·exact .inr (.inl ⟨_,rep_ref.mp r2,e⟩)
   ·split at e
    ·rename_i ns en;obtain ⟨a,us,rfl,e2,z⟩:=rep_tup.mp r2;exact .inr (.inr ⟨a,ns,rfl,by rw[←tys_v en z];exact I.sub _ _ e2,e⟩)
    ·cases e
   ·cases e
  ·exact h'.elim
 ·exact h'.elim
end
end DL
namespace DL
open PySem PySem.Spec L2
open PySem.W (XC)
structure End2 where
 nx:En→Dk→Prop
 rt:D→Dk→Prop
 xc:XK2
 bk:En→Dk→Prop:=fun _ _=>False
 ct:En→Dk→Prop:=fun _ _=>False
noncomputable abbrev TS2:=End2→En→Dk→Prop
structure ER(K:Frag)(Y:Y2)(W:XW)(F:Hp)(E2:End2)(E1:Ends):Prop where
 nx:∀ σ' F' H' ρ' δ',I2 K Y F' H' σ' ρ' δ'→Same F F'→E2.nx ρ' δ'→E1.nx σ' H'
 rt:∀d v σ' F' H' ρ' δ',I2 K Y F' H' σ' ρ' δ'→Same F F'→Rep K F' d v→E2.rt d δ'→E1.rt v H'
 xc:XR K Y W F E2.xc
 bk:∀ σ' F' H' ρ' δ',I2 K Y F' H' σ' ρ' δ'→Same F F'→E2.bk ρ' δ'→E1.bk σ' H'
 ct:∀ σ' F' H' ρ' δ',I2 K Y F' H' σ' ρ' δ'→Same F F'→E2.ct ρ' δ'→E1.ct σ' H'
theorem ER.mono{K:Frag}{Y:Y2}{W:XW}{F F1:Hp}{E2:End2}{E1:Ends}(h:ER K Y W F E2 E1)(s:Same F F1):ER K Y W F1 E2 E1:=
 ⟨fun σ' F' H' ρ' δ' I s'=>h.nx σ' F' H' ρ' δ' I (s.trans s'),fun d v σ' F' H' ρ' δ' I s'=>h.rt d v σ' F' H' ρ' δ' I (s.trans s'),h.xc.mono s,fun σ' F' H' ρ' δ' I s'=>h.bk σ' F' H' ρ' δ' I (s.trans s'),fun σ' F' H' ρ' δ' I s'=>h.ct σ' F' H' ρ' δ' I (s.trans s')⟩
noncomputable def upS(K:Frag)(Y:Y2)(W:XW)(t:TS2):TS:=fun E1 σ H=>∃F ρ δ E2,I2 K Y F H σ ρ δ∧t E2 ρ δ∧ER K Y W F E2 E1
structure PS2(X:Cx)(Y:Y2)(W:XW)(st:Stmt)(t:TS2):Prop where
 go:PS X st (upS X.K Y W t)
structure PSs2(X:Cx)(Y:Y2)(W:XW)(st:List Stmt)(t:TS2):Prop where
 go:PSs X st (upS X.K Y W t)
theorem a0s{X:Cx}{st:Stmt}{t t':TS}(h:PS X st t)(k:∀D σ H,t' D σ H→t D σ H):PS X st t':=fun pins s σ H D I q=>h pins s σ H D I (k D σ H q)
theorem l0h{X:Cx}{st:List Stmt}{t t':TS}(h:PSs X st t)(k:∀D σ H,t' D σ H→t D σ H):PSs X st t':=fun pins s σ H D I q=>h pins s σ H D I (k D σ H q)
theorem ps2{X:Cx}{Y:Y2}{W:XW}{st:Stmt}{t:TS}{u:TS2}(h:PS X st t)(k:∀D σ H,upS X.K Y W u D σ H→t D σ H):PS2 X Y W st u:=⟨a0s h k⟩
theorem pss2{X:Cx}{Y:Y2}{W:XW}{st:List Stmt}{t:TS}{u:TS2}(h:PSs X st t)(k:∀D σ H,upS X.K Y W u D σ H→t D σ H):PSs2 X Y W st u:=⟨l0h h k⟩
section
variable{X:Cx}{Y:Y2}{W:XW}{st:Stmt}{rest:List Stmt}{t u:TS2}{e:Expr}{te:TE2}{pos:Pos}
noncomputable def l0g:TS2:=fun E ρ δ=>E.nx ρ δ
noncomputable def e0s(t u:TS2):TS2:=fun E ρ δ=>t {E with nx:=u E} ρ δ
theorem o4:PSs2 X Y W [] l0g:=pss2 c0b fun E1 σ H ⟨F,ρ,δ,E2,I,h,er⟩=>er.nx σ F H ρ δ I (Same.refl F) h
theorem v0(h1:PS2 X Y W st t)(h2:PSs2 X Y W rest u):PSs2 X Y W (st::rest) (e0s t u):=pss2 (l0y h1.go h2.go) fun E1 σ H ⟨F,ρ,δ,E2,I,h,er⟩=>
 ⟨F,ρ,δ,{E2 with nx:=u E2},I,h,⟨fun σ' F' H' ρ' δ' I' s' h'=>⟨F',ρ',δ',E2,I',h',er.mono s'⟩,er.rt,er.xc,er.bk,er.ct⟩⟩
theorem i0(h1:PS2 X Y W st t):PSs2 X Y W [st] t:=⟨y0t h1.go⟩
noncomputable def q0x:TS2:=fun E ρ δ=>E.bk ρ δ
noncomputable def t2Cont:TS2:=fun E ρ δ=>E.ct ρ δ
theorem e0r:PS2 X Y W (.Break pos) q0x:=ps2 f0u fun E1 σ H ⟨F,ρ,δ,E2,I,h,er⟩=>er.bk σ F H ρ δ I (Same.refl F) h
noncomputable def l0f(te:TE2):TS2:=fun E ρ δ=>te E.xc ρ δ fun _ ρ1 δ1=>E.nx ρ1 δ1
theorem j4(he:PE2 X Y W e te)(hs:swapsWith e none pos.line X.env=pure false:=by rfl):PS2 X Y W (.Expr e pos) (l0f te):=ps2 (c0a he.go hs) fun E1 σ H ⟨F,ρ,δ,E2,I,h,er⟩=>
 ⟨F,ρ,δ,E2.xc,_,I,h,fun d v F' H' ρ' δ' I' s' r' h'=>er.nx σ F' H' ρ' δ' I' s' h',er.xc⟩
noncomputable def e0q(te:TE2):TS2:=fun E ρ δ=>te E.xc ρ δ fun d _ δ1=>E.rt d δ1
theorem a3(he:PE2 X Y W e te):PS2 X Y W (.Return (some e) pos) (e0q te):=ps2 (d0k he.go) fun E1 σ H ⟨F,ρ,δ,E2,I,h,er⟩=>
 ⟨F,ρ,δ,E2.xc,_,I,h,fun d v F' H' ρ' δ' I' s' r' h'=>er.rt d v σ F' H' ρ' δ' I' s' r' h',er.xc⟩
noncomputable def t2RetN:TS2:=fun E _ δ=>E.rt .non δ
noncomputable def e0p(c:TT2)(t u:TS2):TS2:=fun E ρ δ=>c E.xc ρ δ fun b ρ1 δ1=>if b=true then t E ρ1 δ1 else u E ρ1 δ1
theorem z5{c:Expr}{a b:List Stmt}{tc:TT2}(hc:PT2 X Y W c tc)(ha:PSs2 X Y W a t)(hb:PSs2 X Y W b u):PS2 X Y W (.If c a b pos) (e0p tc t u):=ps2 (ps_if hc.go ha.go hb.go) fun E1 σ H ⟨F,ρ,δ,E2,I,h,er⟩=>by
 refine ⟨F,ρ,δ,E2.xc,_,I,h,fun b F' H' ρ' δ' I' s' h'=>?_,er.xc⟩;cases b with
 |true=>rw[if_pos rfl]at h' ⊢; exact ⟨F',ρ',δ',E2,I',h',er.mono s'⟩
 |false=>rw[if_neg Bool.false_ne_true]at h' ⊢; exact ⟨F',ρ',δ',E2,I',h',er.mono s'⟩
variable{i:Nat}{x:Str}{pos' p:Pos}
noncomputable def e0o(i:Nat)(te:TE2):TS2:=fun E ρ δ=>te E.xc ρ δ fun d ρ1 δ1=>E.nx (ρ1.set i (.val d)) δ1
theorem b3(i:Nat)(hN:X.N.Nodup)(he:PE2 X Y W e te)(hi:X.N[i]?=some x:=by rfl)(hx:Loc X.env.scope x:=by walk_at "v2")(hs:swapsWith e (some (.Name x pos')) pos.line X.env=pure false:=by rfl)
 (hf:X.fn x=true∨X.env.scope.names.lookup x=some .local:=by walk_at "v1"):PS2 X Y W (.Assign [.Name x pos'] e pos) (e0o i te):=ps2 (j0h (i:=i) hN hi hx he.go hs hf) fun E1 σ H ⟨F,ρ,δ,E2,I,h,er⟩=>
 ⟨F,ρ,δ,E2.xc,_,I,h,fun d v F' H' ρ' δ' I' s' r' h'=>er.nx _ F' H' _ δ' (I'.put r') s' h',er.xc⟩
theorem I2.own{K:Frag}{F H:Hp}{σ:St}{ρ:En}{δ:Dk}{i:Nat}{p:Addr}{ds:List D}{vs:List V}(I:I2 K Y F H σ ρ δ)(h:H p=none)(r:Reps K F ds vs):I2 K Y F (upd H p (.lst vs)) (σ.set i (some (.ref p))) (ρ.set i (.own ds)) δ:=by
 have hF:F p=none:=I.sub.free h;have h0:=I.ran.fresh h;have key:∀j a,h7 (ρ.set i (.own ds)) (σ.set i (some (.ref p))) j a→(j=i∧a=p)∨(j≠i∧h7 ρ σ j a):=fun j a o=>by
  by_cases z:j=i
  ·subst z;have:=o.2;rw[List.getElem?_set]at this;by_cases hl:j<σ.length
   ·simp[hl]at this;exact .inl ⟨rfl,this.symm⟩
   ·simp[hl]at this
  ·obtain ⟨o1,o2⟩:=o;simp only[List.getElem?_set_ne (Ne.symm z)]at o1 o2;exact .inr ⟨z,o1,o2⟩
 have addr:∀j a,h7 ρ σ j a→a≠p:=fun j a o=>by
  rcases o.1 with ⟨ds,q⟩|⟨C,fs,q⟩|⟨kvs,q⟩
  ·obtain ⟨b,us,e,hb,_⟩:=I.env j _ q;rw[o.2]at e;cases e;exact l0 hb h
  ·obtain ⟨b,dx,us,e,es0,hb,_⟩:=I.env j _ q;rw[o.2]at e;cases e;exact l0 hb h
  ·obtain ⟨b,us,e,hb,_⟩:=I.env j _ q;rw[o.2]at e;cases e;exact l0 hb h
 refine ⟨⟨fun b u e=>?_,fun a es e=>?_,fun b u e f=>?_,I.ran.f0,I.ran.fnew,I.ran.dto⟩,fun j c e=>?_,by simp[I.len],fun a b c n o1 o2=>?_,fun j a o=>?_⟩
 ·rw[u0 (l0 e hF)];exact I.sub _ _ e
 ·obtain ⟨q,us,q2,r2⟩:=I.ran.dk a es e;exact ⟨q,us,by rw[u0 (l0 q2 h)];exact q2,r2⟩
 ·rw[u0 (l0 (I.ran.keep b u e f) h)];exact I.ran.keep b u e f
 ·by_cases z:j=i
  ·subst z;rw[List.getElem?_set]at e;by_cases hl:j<ρ.length
   ·simp[hl]at e;subst e;refine ⟨p,vs,?_,o3,hF,h0,r⟩;rw[List.getElem?_set];simp[I.len▸hl]
   ·simp[hl]at e
  ·rw[List.getElem?_set_ne (Ne.symm z)]at e ⊢;have w:=I.env j c e;cases c with
   |no=>trivial
   |val d=>exact w
   |own es=>
    obtain ⟨b,us,e1,h1,f1,g1,r1⟩:=w;exact ⟨b,us,e1,by rw[u0 (l0 h1 h)];exact h1,f1,g1,r1⟩
   |obj C fs=>
    obtain ⟨b,dx,us,e1,es1,h1,h2,f1,f2,g1,g2,r1⟩:=w;exact ⟨b,dx,us,e1,es1,by rw[u0 (l0 h1 h)];exact h1,by rw[u0 (l0 h2 h)];exact h2,f1,f2,g1,g2,r1⟩
   |ownD kvs=>
    obtain ⟨b,us,e1,h1,f1,g1,r1⟩:=w;exact ⟨b,us,e1,by rw[u0 (l0 h1 h)];exact h1,f1,g1,r1⟩
 ·rcases key a c o1 with ⟨z1,z2⟩|⟨z1,z2⟩
  ·rcases key b c o2 with ⟨y1,y2⟩|⟨y1,y2⟩
   ·exact n (z1.trans y1.symm)
   ·exact addr b c y2 z2
  ·rcases key b c o2 with ⟨y1,y2⟩|⟨y1,y2⟩
   ·exact addr a c z2 y2
   ·exact I.apart a b c n z2 y2
 ·rcases key j a o with ⟨z1,z2⟩|⟨z1,z2⟩
  ·intro b es eb w;obtain ⟨_,us,q2,_⟩:=I.ran.dk b es eb;rw[←w,z2,h]at q2;cases q2
  ·exact I.off j a z2
noncomputable def e0n(i:Nat)(ta:TA2):TS2:=fun E ρ δ=>ta E.xc ρ δ fun ds ρ1 δ1=>ds.length≤1000∧E.nx (ρ1.set i (.own ds)) δ1
theorem t0o(i:Nat){es:List Expr}{ta:TA2}{lpos:Pos}(hN:X.N.Nodup)(ha:PA2 X Y W es ta)(hi:X.N[i]?=some x:=by rfl)(hx:Loc X.env.scope x:=by walk_at "v2")(hs:swapsWith (.List es lpos) (some (.Name x pos')) pos.line X.env=pure false:=by rfl)
 (hf:X.fn x=true∨X.env.scope.names.lookup x=some .local:=by walk_at "v1"):PS2 X Y W (.Assign [.Name x pos'] (.List es lpos) pos) (e0n i ta):=ps2 (j0h (i:=i) hN hi hx (d0h ha.go) hs hf) fun E1 σ H ⟨F,ρ,δ,E2,I,h,er⟩=>
 ⟨F,ρ,δ,E2.xc,_,I,h,fun ds vs F1 H1 ρ1 δ1 I1 s1 r1 h1=>⟨n0i (by rw[r1.length];exact h1.1),fun p hp=>er.nx _ F1 _ _ δ1 (I1.own hp r1) s1 h1.2⟩,er.xc⟩
noncomputable def i0d(i:Nat)(ta:TA2):TS2:=fun E ρ δ=>ta E.xc ρ δ fun ds ρ1 δ1=>match ds with | [d]=>(match seqD d with |some xs=>E.nx (ρ1.set i (.own xs)) δ1 |none=>False)|_=>False
noncomputable def hasV(ρ:En)(i:Nat):Bool:=match ρ[i]? with |some .no=>false |none=>false |_=>true
theorem has_v{K:Frag}{F H:Hp}{σ:St}{ρ:En}{δ:Dk}(I:I2 K Y F H σ ρ δ)(h:hasV ρ i=true):∃v,σ[i]?=some (some v):=by
 unfold hasV at h;split at h
 ·cases h
 ·cases h
 ·rename_i o n1 n2;cases e:ρ[i]? with
  |none=>exact absurd e n2
  |some c=>
   have w:=I.env i c e;cases c with
   |no=>exact absurd e n1
   |val d=>obtain ⟨v,q,_⟩:=w;exact ⟨v,v4 q⟩
   |own ds=>obtain ⟨a,vs,q,_⟩:=w;exact ⟨_,v4 q⟩
   |obj C fs=>obtain ⟨a,dx,vs,q,_⟩:=w;exact ⟨_,v4 q⟩
   |ownD kvs=>obtain ⟨a,vs,q,_⟩:=w;exact ⟨_,v4 q⟩
noncomputable def seqV(ρ:En)(δ:Dk)(i:Nat):Option (List D):=match ρ[i]? with
 |some (.own ds)=>some ds
 |some (.val (.ref a))=>(match δ with |some (b,ds)=>if a=b then some ds else none |none=>none)
 |some (.val d)=>seqD d
 |_=>none
theorem seq_v{K:Frag}{F H:Hp}{σ:St}{ρ:En}{δ:Dk}{ds:List D}(I:I2 K Y F H σ ρ δ)(h:seqV ρ δ i=some ds):∃a vs,σ[i]?=some (some (.ref a))∧(SqL K H a vs∨SqT K H a vs)∧Reps K F ds vs:=by
 unfold seqV at h;split at h
 ·rename_i es e;cases h;obtain ⟨a,vs,q,hh,_,_,r⟩:=I.env i _ e;exact ⟨a,vs,v4 q,.inl (SqL.of hh),r⟩
 ·rename_i a e;split at h
  ·rename_i b es;by_cases z:a=b
   ·subst z;simp at h;subst h;obtain ⟨u,q,r⟩:=I.env i _ e;rw[rep_ref.mp r]at q;obtain ⟨_,vs,hh,rr⟩:=I.ran.dk a es rfl;exact ⟨a,vs,v4 q,.inl (SqL.of hh),rr⟩
   ·simp[z]at h
  ·cases h
 ·rename_i d _ e;obtain ⟨u,q,r⟩:=I.env i _ e;obtain ⟨a,vs,rfl,sq,z⟩:=o0z I.sub h r;exact ⟨a,vs,v4 q,sq,z⟩
 ·cases h
variable{a b:Expr}{ta tb:TE2}
noncomputable def ixQ(o:Option (List D))(d:D):Option D:=match o,d with |some xs,.int j=>atI xs j |_,_=>none
noncomputable def e0m(i:Nat)(tb:TE2):TE2:=fun x ρ δ q=>hasV ρ i=true∧tb x ρ δ fun d ρ1 δ1=>match ixQ (seqV ρ1 δ1 i) d with |some e=>q e ρ1 δ1 |none=>False
theorem n4(i:Nat)(hb:PE2 X Y W b tb)(hN:X.N[i]?=some x:=by rfl)(hv:Vis X.env.scope x:=by walk_at "v3")(hd:(x==("__debug__":Str))=false:=by decide)
 (hcd:(x==("__classdict__":Str))=false:=by decide) (hs:n0m b:=by exact fun _ _=>rfl):PE2 X Y W (.Subscript (.Name x p) b pos) (e0m i tb):=pe2 (pe_ix l0t (t0z hN hv hd hcd) hb.go hs) fun σ H Q ⟨F,ρ,δ,x,q,I,h,k,kx⟩=>by
 obtain ⟨v,ev⟩:=has_v I h.1;refine ⟨v,ev,F,ρ,δ,x,_,I,h.2,fun d w F' H' ρ' δ' I' s' r' h'=>?_,kx⟩;split at h'
 ·rename_i e ee;unfold ixQ at ee;split at ee
  ·rename_i xs j es;obtain ⟨a,vs,ea,sq,z⟩:=seq_v I' es;rw[ev]at ea;cases ea;obtain ⟨v2,e2,r2⟩:=z.atI ee;have fin:=k e v2 F' H' ρ' δ' I' s' r2 h';rcases sq with sq |sq
   ·exact .inl ⟨a,vs,j,v2,rfl,rep_int.mp r',sq,e2,fin⟩
   ·exact .inr (.inl ⟨a,vs,j,v2,rfl,rep_int.mp r',sq,e2,fin⟩)
  ·cases ee
 ·exact h'.elim
noncomputable def o0x(i:Nat):TE2:=fun x ρ δ q=>match seqV ρ δ i with |some xs=>q (.int (xs.length:Nat)) ρ δ |none=>False
theorem y0l(i:Nat){np:Pos}(hm:X.mg "len"=none)(hg:Gl X "len":=by rfl)(hN:X.N[i]?=some x:=by rfl)(hv:Vis X.env.scope x:=by walk_at "v3")(hd:(x==("__debug__":Str))=false:=by decide)
 (hcd:(x==("__classdict__":Str))=false:=by decide) (hst:starEach [.Name x p] X.env=[(false,eval (.Name x p) X.env)]:=by rfl) (hpl:(backTo pos (starEach [] X.env)).any (·.1)=false:=by exact l7 rfl):
 PE2 X Y W (.Call (.Name "len" np) [.Name x p] [] pos) (o0x i):=pe2 (l0u q9 hg hm l0m (j0a (t0z hN hv hd hcd) d0i hst) (by decide) (by decide) hst hpl) fun σ H Q ⟨F,ρ,δ,x,q,I,h,k,kx⟩=>by
 unfold o0x at h;split at h
 ·rename_i xs e;obtain ⟨a,vs,ea,sq,z⟩:=seq_v I e;exact ⟨_,ea,a,vs,rfl,sq,by rw[z.length];exact k _ _ F H ρ δ I (Same.refl F) (rep_int.mpr rfl) h⟩
 ·exact h.elim
noncomputable def mutV(ρ:En)(δ:Dk)(i:Nat):Option (List D×(List D→En×Dk)):=match ρ[i]? with
 |some (.own ds)=>some (ds,fun es=>(ρ.set i (.own es),δ))
 |some (.val (.ref a))=>(match δ with |some (b,ds)=>if a=b then some (ds,fun es=>(ρ,some (b,es)))else none |none=>none)
 |_=>none
theorem a0r{K:Frag}{F H:Hp}{σ:St}{ρ:En}{δ:Dk}{ds:List D}{put:List D→En×Dk}(I:I2 K Y F H σ ρ δ)(h:mutV ρ δ i=some (ds,put)):
 ∃a vs,σ[i]?=some (some (.ref a))∧H a=some (.lst vs)∧Reps K F ds vs∧∀es us,Reps K F es us→I2 K Y F (upd H a (.lst us)) σ (put es).1 (put es).2:=by
 unfold mutV at h;split at h
 ·rename_i es e;cases h;obtain ⟨a,vs,q,hh,hF,h0,r⟩:=I.env i _ e;have hs:=v4 q;have ho:h7 ρ σ i a:=⟨.inl ⟨_,e⟩,hs⟩;refine ⟨a,vs,hs,hh,r,fun es us r2=>?_⟩;have key:∀j b,h7 (ρ.set i (.own es)) σ j b→h7 ρ σ j b:=fun j b o=>by
   by_cases z:j=i
   ·subst z;exact ⟨ho.1,o.2⟩
   ·obtain ⟨o1,o2⟩:=o;simp only[List.getElem?_set_ne (Ne.symm z)]at o1;exact ⟨o1,o2⟩
  refine ⟨⟨fun b u e=>?_,fun b fs e=>?_,fun b u e f=>?_,I.ran.f0,I.ran.fnew,I.ran.dto⟩,fun j c e'=>?_,by simp[I.len],fun x y b n o1 o2=>I.apart x y b n (key x b o1) (key y b o2),fun j b o=>I.off j b (key j b o)⟩
  ·rw[u0 (l0 e hF)];exact I.sub _ _ e
  ·obtain ⟨q1,ws,q2,q3⟩:=I.ran.dk b fs e;exact ⟨q1,ws,by rw[u0 (Ne.symm (I.off i a ho b fs e))];exact q2,q3⟩
  ·rw[u0 (l0 e h0)];exact I.ran.keep b u e f
  ·by_cases z:j=i
   ·subst z;rw[List.getElem?_set]at e';by_cases hl:j<ρ.length
    ·simp[hl]at e';subst e';exact ⟨a,us,q,o3,hF,h0,r2⟩
    ·simp[hl]at e'
   ·rw[List.getElem?_set_ne (Ne.symm z)]at e';have w:=I.env j c e';cases c with
    |no=>trivial
    |val d=>exact w
    |own fs=>
     obtain ⟨b,ws,e1,h1,f1,g1,r1⟩:=w;have nb:b≠a:=fun w=>I.apart j i a z ⟨.inl ⟨fs,e'⟩,by rw[←w];exact v4 e1⟩ ho
     exact ⟨b,ws,e1,by rw[u0 nb];exact h1,f1,g1,r1⟩
    |obj C fs=>
     obtain ⟨b,dx,ws,e1,es1,h1,h2,f1,f2,g1,g2,r1⟩:=w;have nb:b≠a:=fun w=>by rw[w,hh]at h1;cases h1
     have nd:dx≠a:=fun w=>by rw[w,hh]at h2;cases h2
     exact ⟨b,dx,ws,e1,es1,by rw[u0 nb];exact h1,by rw[u0 nd];exact h2,f1,f2,g1,g2,r1⟩
    |ownD kvs=>
     obtain ⟨b,ws,e1,h1,f1,g1,r1⟩:=w;have nb:b≠a:=fun w=>by rw[w,hh]at h1;cases h1
     exact ⟨b,ws,e1,by rw[u0 nb];exact h1,f1,g1,r1⟩
 ·rename_i a e;split at h
  ·rename_i b es;by_cases z:a=b
   ·subst z;simp at h;obtain ⟨rfl,rfl⟩:=h;obtain ⟨u,q,r⟩:=I.env i _ e;rw[rep_ref.mp r]at q;obtain ⟨hF,vs,hh,rr⟩:=I.ran.dk a es rfl;refine ⟨a,vs,v4 q,hh,rr,fun fs us r2=>?_⟩;refine ⟨⟨fun b u e=>?_,fun b gs e=>?_,fun b u eb fb=>?_,I.ran.f0,I.ran.fnew,⟨fun b gs e=>?_,fun b gs e n=>?_⟩⟩,fun j c e'=>?_,I.len,I.apart,fun j b o c gs e=>?_⟩
    ·rw[u0 (l0 e hF)];exact I.sub _ _ e
    ·cases e;exact ⟨hF,us,o3,r2⟩
    ·have nb:b≠a:=by
      intro w;subst w;cases hd:Y.δ₀ with
      |none=>
       have:=I.ran.dto.2 b es rfl hd;rw[eb]at this;cases this
      |some p0=>
       obtain ⟨c,gs⟩:=p0;obtain ⟨es',w2⟩:=I.ran.dto.1 c gs hd;cases w2;exact fb b gs hd rfl
     rw[u0 nb];exact I.ran.keep b u eb fb
    ·obtain ⟨es',w⟩:=I.ran.dto.1 b gs e;cases w;exact ⟨_,rfl⟩
    ·cases e;exact I.ran.dto.2 a es rfl n
    ·have w:=I.env j c e';cases c with
     |no=>trivial
     |val d=>exact w
     |own fs=>
      obtain ⟨b,ws,e1,h1,f1,g1,r1⟩:=w;have nb:b≠a:=I.off j b ⟨.inl ⟨fs,e'⟩,v4 e1⟩ a es rfl;exact ⟨b,ws,e1,by rw[u0 nb];exact h1,f1,g1,r1⟩
     |obj C fs=>
      obtain ⟨b,dx,ws,e1,es1,h1,h2,f1,f2,g1,g2,r1⟩:=w;have nb:b≠a:=fun w=>by rw[w,hh]at h1;cases h1
      have nd:dx≠a:=fun w=>by rw[w,hh]at h2;cases h2
      exact ⟨b,dx,ws,e1,es1,by rw[u0 nb];exact h1,by rw[u0 nd];exact h2,f1,f2,g1,g2,r1⟩
     |ownD kvs=>
      obtain ⟨b,ws,e1,h1,f1,g1,r1⟩:=w;have nb:b≠a:=fun w=>by rw[w,hh]at h1;cases h1
      exact ⟨b,ws,e1,by rw[u0 nb];exact h1,f1,g1,r1⟩
    ·cases e;exact I.off j b o a es rfl
   ·simp[z]at h
  ·cases h
 ·cases h
noncomputable def t2SetV(i:Nat)(tj te:TE2):TS2:=fun E ρ δ=>te E.xc ρ δ fun d ρ1 δ1=>hasV ρ1 i=true∧tj E.xc ρ1 δ1 fun dj ρ2 δ2=>match mutV ρ2 δ2 i,dj with
 |some (ds,put),.int j=>(match ixN ds.length j with |some m=>E.nx (put (ds.set m d)).1 (put (ds.set m d)).2 |none=>False)
 |_,_=>False
noncomputable abbrev FM:=List D→List D→(D→List D→Prop)→Prop
noncomputable def MtD(K:Frag)(r:V→List V→Hp→VK→Prop)(m:FM):Prop:=∀(F H:Hp) (a:Addr) (vs us:List V) (ds es:List D) (Q:VK) (q:D→List D→Prop),H a=some (.lst vs)→Reps K F ds vs→Reps K F es us→m ds es q→
 (∀d v ds' vs',Rep K F d v→Reps K F ds' vs'→q d ds'→Q v (upd H a (.lst vs')))→r (.ref a) us H Q
noncomputable def t2MV(i:Nat)(m:FM)(ta:TA2):TE2:=fun x ρ δ q=>(mutV ρ δ i).isSome=true∧ta x ρ δ fun es ρ1 δ1=>match mutV ρ1 δ1 i with
 |some (ds,put)=>m ds es fun d ds'=>q d (put ds').1 (put ds').2
 |none=>False
theorem u0r(i:Nat){name:Str}{id:String}{r:V→List V→Hp→VK→Prop}{m:FM}{es:List Expr}{t:TA2}{apos cpos:Pos}(slot:Slot "list" name id)(hty:typeOf (.builtin id)=pure (.type "method_descriptor"))(hm:MtM X id r)(hd2:MtD X.K r m)(hta:PA2 X Y W (e::es) t)
 (hN:X.N[i]?=some x:=by rfl) (hv:Vis X.env.scope x:=by walk_at "v3") (hd:(x==("__debug__":Str))=false:=by decide) (hcd:(x==("__classdict__":Str))=false:=by decide)
 (hbase:attributeBase (.Name x p) name X.env (eval (.Name x p) X.env)=eval (.Name x p) X.env:=by rfl)
 (hfew:((backTo cpos (starEach (e::es) X.env)).all (fun x=>!x.1)&&(backToKw cpos (keywordEach [] X.env)).all (fun x=>x.1.isSome)
  &&decide ((e::es).length+([]:List Keyword).length+(if ([]:List Keyword).isEmpty then 0 else 1)<30))=true:=by rfl)
 (hline:(apos.endLine==cpos.line)=true:=by rfl) (hs:starEach (e::es) X.env=(false,eval e X.env)::starEach es X.env:=by exact x6 rfl) (hplain:(backTo cpos (starEach es X.env)).any (·.1)=false:=by exact l7 rfl):
 PE2 X Y W (.Call (.Attribute (.Name x p) name apos) (e::es) [] cpos) (t2MV i m t):=pe2 (pe_bm PySem.F.plainAttrs_list slot hty hm (t0z hN hv hd hcd) hta.go hbase hfew hline hs hplain) fun σ H Q ⟨F,ρ,δ,x,q,I,h,k,kx⟩=>by
 obtain ⟨h0,h⟩:=h;obtain ⟨⟨ds0,put0⟩,e0⟩:=Option.isSome_iff_exists.mp h0;obtain ⟨a,vs,ea,hh,z,up⟩:=a0r I e0;refine ⟨_,ea,.inl ⟨rfl,vs,SqL.of hh⟩,F,ρ,δ,x,_,I,h,fun es us F1 H1 ρ1 δ1 I1 s1 r1 h1=>?_,kx⟩;split at h1
 ·rename_i ds put em;obtain ⟨a',vs',ea',hh',z',up'⟩:=a0r I1 em;rw[ea]at ea';cases ea';exact hd2 F1 H1 a vs' us ds es _ _ hh' z' r1 h1 fun d v ds' ws r2 r3 q'=>k d v F1 _ _ _ (up' _ _ r3) s1 r2 q'
 ·exact h1.elim
noncomputable def i0c(i:Nat)(m:FM):TE2:=fun x ρ δ q=>match mutV ρ δ i with
 |some (ds,put)=>m ds [] fun d ds'=>q d (put ds').1 (put ds').2
 |none=>False
theorem c0v(i:Nat){name:Str}{id:String}{r:V→List V→Hp→VK→Prop}{m:FM}{apos cpos:Pos}(slot:Slot "list" name id)(hty:typeOf (.builtin id)=pure (.type "method_descriptor"))(hm:MtM X id r)(hd2:MtD X.K r m)
 (hN:X.N[i]?=some x:=by rfl) (hv:Vis X.env.scope x:=by walk_at "v3") (hd:(x==("__debug__":Str))=false:=by decide) (hcd:(x==("__classdict__":Str))=false:=by decide)
 (hbase:attributeBase (.Name x p) name X.env (eval (.Name x p) X.env)=eval (.Name x p) X.env:=by rfl) (hline:(apos.endLine==cpos.line)=true:=by rfl):
 PE2 X Y W (.Call (.Attribute (.Name x p) name apos) [] [] cpos) (i0c i m):=pe2 (pe_bm0 PySem.F.plainAttrs_list slot hty hm (t0z hN hv hd hcd) hbase hline) fun σ H Q ⟨F,ρ,δ,x,q,I,h,k,kx⟩=>by
 unfold i0c at h;split at h
 ·rename_i ds put em;obtain ⟨a,vs,ea,hh,z,up⟩:=a0r I em;exact ⟨_,ea,.inl ⟨rfl,vs,SqL.of hh⟩,hd2 F H a vs [] ds [] _ _ hh z Reps.nil h fun d v ds' ws r2 r3 q'=>k d v F _ _ _ (up _ _ r3) (Same.refl F) r2 q'⟩
 ·exact h.elim
noncomputable def t0n:FM:=fun ds es q=>match es with | [e]=>ds.length<1000∧q .non (ds++[e])|_=>False
theorem i6{K:Frag}:MtD K i0w t0n:=by
 intro F H a vs us ds es Q q hh z r h k;unfold t0n at h;split at h
 ·obtain ⟨v,rfl,r1⟩:=y0u r;exact ⟨a,vs,v,rfl,rfl,hh,Nat.lt_of_lt_of_le (by rw[z.length];exact h.1) (show 1000≤PySem.sizeLine by decide),k _ _ _ _ (rep_non.mpr rfl) (z.append (Reps.cons r1 Reps.nil)) h.2⟩
 ·exact h.elim
noncomputable def popM:FM:=fun ds es q=>match es,ds.getLast? with | [],some d=>q d ds.dropLast |_,_=>False
theorem m_pop{K:Frag}:MtD K rPop popM:=by
 intro F H a vs us ds es Q q hh z r h k;unfold popM at h;split at h
 ·rename_i d e;rw[reps_nil.mp r];rw[List.getLast?_eq_getElem?]at e;obtain ⟨v,ev,rv⟩:=z.get e;exact ⟨a,vs,v,rfl,rfl,hh,by rw[z.length];exact ev,k _ _ _ _ rv z.dropLast h⟩
 ·exact h.elim
noncomputable def e0l(i:Nat)(f:F2)(te:TE2):TS2:=fun E ρ δ=>rdV ρ i fun d1 ρ0=>te E.xc ρ0 δ fun d2 ρ1 δ1=>f d1 d2 fun d=>E.nx (ρ1.set i (.val d)) δ1
theorem s2_aug(i:Nat){op:Operator}{g:Int→Int→Int}(hN:X.N.Nodup)(ho:PIp X op (ipI g))(he:PE2 X Y W e te)(hi:X.N[i]?=some x:=by rfl)(hx:Loc X.env.scope x:=by walk_at "v2")
 (hf:X.fn x=true∨X.env.scope.names.lookup x=some .local:=by walk_at "v1"):PS2 X Y W (.AugAssign (.Name x pos') op e pos) (e0l i (fI0 fun a b=>.int (g a b)) te):=ps2 (ps_aug (i:=i) hN hi hx he.go ho hf) fun E1 σ H ⟨F,ρ,δ,E2,I,h,er⟩=>by
 obtain ⟨d1,v1,F0,ρ0,e1,I0,s0,r1,h⟩:=c0y I h;refine ⟨v1,e1,F0,ρ0,δ,E2.xc,_,I0,h,fun d2 v2 F1 H1 ρ1 δ1 I1 s1 r2 h1=>?_,er.xc.mono s0⟩;unfold fI0 at h1;split at h1
 ·exact ⟨_,_,rep_int.mp r1,rep_int.mp r2,er.nx _ F1 H1 _ δ1 (I1.put (rep_int.mpr rfl)) (s0.trans s1) h1⟩
 ·exact h1.elim
noncomputable def i0b(K:Frag)(f:Str)(ta:TE2):TE2:=fun x ρ δ q=>ta x ρ δ fun d ρ1 δ1=>match d with
 | .ins C fs=>(Cls K C∧NoAttr K C f)∧(match fs.lookup f with |some e=>q e ρ1 δ1 |none=>False)
 |_=>False
theorem RepF.look{K:Frag}{F:Hp}{f:Str}:∀{fs:List (Str×D)} {us:List (Str×V)} {d:D},RepF K F fs us→fs.lookup f=some d→∃v,us.lookup f=some v∧Rep K F d v
 | [],us,d,r,e=>by cases e
 |(g,c)::fs,us,d,r,e=>by
  unfold RepF at r;obtain ⟨v,l,rfl,r1,r2⟩:=r;rw[List.lookup_cons]at e ⊢;split at e
  ·cases e;exact ⟨v,rfl,r1⟩
  ·exact RepF.look r2 e
theorem e2_fld{f:Str}(ha:PE2 X Y W a ta)(hb:attributeBase a f X.env (eval a X.env)=eval a X.env:=by rfl):PE2 X Y W (.Attribute a f pos) (i0b X.K f ta):=pe2 (pe_fld ha.go hb) fun σ H Q ⟨F,ρ,δ,x,q,I,h,k,kx⟩=>by
 refine ⟨F,ρ,δ,x,_,I,h,fun d v F' H' ρ' δ' I' s' r' h'=>?_,kx⟩;cases d with
 |ins C fs=>
  obtain ⟨⟨c,n⟩,h'⟩:=h';obtain ⟨a,dx,us,rfl,e1,e2,rf⟩:=rep_ins.mp r';split at h'
  ·rename_i e ee;obtain ⟨v,ev,rv⟩:=rf.look ee;exact ⟨a,C,dx,us,v,rfl,I'.sub _ _ e1,c,n,ev,k e v F' H' ρ' δ' I' s' rv h'⟩
  ·exact h'.elim
 |_=>exact h'.elim
noncomputable def t2XFld(K:Frag)(f:Str)(ta:TE2):TE2:=fun x ρ δ q=>ta x ρ δ fun d ρ1 δ1=>match d with
 | .exc C fs=>(XC K C∧NoAttr K C f)∧(match fs.lookup f with |some e=>q e ρ1 δ1 |none=>False)
 |_=>False
noncomputable def q0w(f:Str)(v:D):List (Str×D)→List (Str×D)
 | []=>[(f,v)]
 |(g,u)::r=>if g=f then (g,v)::r else (g,u)::q0w f v r
theorem RepF.put{K:Frag}{F:Hp}{f:Str}{d:D}{v:V}(q:Rep K F d v):∀{fs:List (Str×D)} {us:List (Str×V)},RepF K F fs us→RepF K F (q0w f d fs) (putF f v us)
 | [],us,r=>by
  unfold RepF at r;subst r;unfold q0w putF RepF;exact ⟨v,[],rfl,q,by unfold RepF;rfl⟩
 |(g,c)::fs,us,r=>by
  unfold RepF at r;obtain ⟨w,l,rfl,r1,r2⟩:=r;unfold q0w putF;by_cases z:g=f
  ·rw[if_pos z,if_pos z];unfold RepF;exact ⟨v,l,rfl,q,r2⟩
  ·rw[if_neg z,if_neg z];unfold RepF;exact ⟨w,_,rfl,r1,RepF.put q r2⟩
theorem RepF.length{K:Frag}{F:Hp}:∀{fs:List (Str×D)} {us:List (Str×V)},RepF K F fs us→us.length=fs.length
 | [],us,r=>by unfold RepF at r;subst r;rfl
 |(g,c)::fs,us,r=>by
  unfold RepF at r;obtain ⟨w,l,rfl,r1,r2⟩:=r;rw[List.length_cons,List.length_cons,RepF.length r2]
noncomputable def o0w(K:Frag)(i:Nat)(f:Str)(te:TE2):TS2:=fun E ρ δ=>te E.xc ρ δ fun d ρ1 δ1=>match ρ1[i]? with
 |some (.obj C fs)=>(Cls K C∧NoAttr K C f)∧fs.length<1000∧E.nx (ρ1.set i (.obj C (q0w f d fs))) δ1
 |_=>False
theorem I2.self{K:Frag}{F H:Hp}{σ:St}{ρ:En}{δ:Dk}{C:Addr}{fs:List (Str×D)}(I:I2 K Y F H σ ρ δ)(e:ρ[i]?=some (.obj C fs)):
 ∃a dx us,σ[i]?=some (some (.ref a))∧H a=some (.ins C dx us)∧RepF K F fs us∧∀gs ws,RepF K F gs ws→I2 K Y F (upd H a (.ins C dx ws)) σ (ρ.set i (.obj C gs)) δ:=by
 obtain ⟨a,dx,us,q,es0,hh,hd,hF,hF2,h0,h02,r⟩:=I.env i _ e;have hs:=v4 q;have ho:h7 ρ σ i a:=⟨.inr (.inl ⟨_,_,e⟩),hs⟩;refine ⟨a,dx,us,hs,hh,r,fun gs ws r2=>?_⟩;have ndx:dx≠a:=fun w=>by rw[w,hh]at hd;cases hd
 have key:∀j b,h7 (ρ.set i (.obj C gs)) σ j b→h7 ρ σ j b:=fun j b o=>by
  by_cases z:j=i
  ·subst z;exact ⟨ho.1,o.2⟩
  ·obtain ⟨o1,o2⟩:=o;simp only[List.getElem?_set_ne (Ne.symm z)]at o1;exact ⟨o1,o2⟩
 refine ⟨⟨fun b u e=>?_,fun b fs e=>?_,fun b u e f=>?_,I.ran.f0,I.ran.fnew,I.ran.dto⟩,fun j c e'=>?_,by simp[I.len],fun x y b n o1 o2=>I.apart x y b n (key x b o1) (key y b o2),fun j b o=>I.off j b (key j b o)⟩
 ·rw[u0 (l0 e hF)];exact I.sub _ _ e
 ·obtain ⟨q1,ys,q2,q3⟩:=I.ran.dk b fs e;exact ⟨q1,ys,by rw[u0 (Ne.symm (I.off i a ho b fs e))];exact q2,q3⟩
 ·rw[u0 (l0 e h0)];exact I.ran.keep b u e f
 ·by_cases z:j=i
  ·subst z;rw[List.getElem?_set]at e';by_cases hl:j<ρ.length
   ·simp[hl]at e';subst e';exact ⟨a,dx,ws,q,es0,o3,by rw[u0 ndx];exact hd,hF,hF2,h0,h02,r2⟩
   ·simp[hl]at e'
  ·rw[List.getElem?_set_ne (Ne.symm z)]at e';have w:=I.env j c e';cases c with
   |no=>trivial
   |val d=>exact w
   |own fs=>
    obtain ⟨b,ys,e1,h1,f1,g1,r1⟩:=w;have nb:b≠a:=fun w=>by rw[w,hh]at h1;cases h1
    exact ⟨b,ys,e1,by rw[u0 nb];exact h1,f1,g1,r1⟩
   |obj C' fs=>
    obtain ⟨b,dy,ys,e1,es1,h1,h2,f1,f2,g1,g2,r1⟩:=w;have nb:b≠a:=fun w=>I.apart j i a z ⟨.inr (.inl ⟨_,_,e'⟩),by rw[←w];exact v4 e1⟩ ho
    have nd:dy≠a:=fun w=>by rw[w,hh]at h2;cases h2
    exact ⟨b,dy,ys,e1,es1,by rw[u0 nb];exact h1,by rw[u0 nd];exact h2,f1,f2,g1,g2,r1⟩
   |ownD kvs=>
    obtain ⟨b,ys,e1,h1,f1,g1,r1⟩:=w;have nb:b≠a:=fun w=>by rw[w,hh]at h1;cases h1
    exact ⟨b,ys,e1,by rw[u0 nb];exact h1,f1,g1,r1⟩
theorem a0q(i:Nat){f:Str}{tpos:Pos}(he:PE2 X Y W e te)(hN:X.N[i]?=some x:=by rfl)(hv:Vis X.env.scope x:=by walk_at "v3")(hd:(x==("__debug__":Str))=false:=by decide)(hcd:(x==("__classdict__":Str))=false:=by decide)
 (hs:swapsWith e (some (.Attribute (.Name x p) f tpos)) pos.line X.env=pure false:=by rfl):PS2 X Y W (.Assign [.Attribute (.Name x p) f tpos] e pos) (o0w X.K i f te):=ps2 (ps_fld (t0z hN hv hd hcd) he.go hs) fun E1 σ H ⟨F,ρ,δ,E2,I,h,er⟩=>by
 refine ⟨F,ρ,δ,E2.xc,_,I,h,fun d v F1 H1 ρ1 δ1 I1 s1 r1 h1=>?_,er.xc⟩;split at h1
 ·rename_i C fs ee;obtain ⟨⟨c,n⟩,hl,h1⟩:=h1;obtain ⟨a,dx,us,ea,hh,rf,up⟩:=I1.self ee;exact ⟨_,ea,a,C,dx,us,rfl,hh,c,n,by rw[rf.length];exact hl,er.nx σ F1 _ _ δ1 (up _ _ (rf.put r1)) s1 h1⟩
 ·exact h1.elim
end
end DL
namespace DL
open PySem PySem.Spec L2
open PySem.W (XC)
open PyProof.Rows (envOfC)
noncomputable abbrev Sp2:=List D→Dk→(D→Dk→Prop)→(Addr→List (Str×D)→Dk→Prop)→Prop
noncomputable def upF(K:Frag)(sp:Sp2):Sp:=fun vs H Q E=>∃F ds δ q x,Same F H∧DkOk K F H δ∧Reps K F ds vs∧sp ds δ q x∧
 (∀d v F' H' δ',Ran K F H δ F' H' δ'→Rep K F' d v→q d δ'→Q v H')∧∀C od fs F' H' δ',Ran K F H δ F' H' δ'→XRep K F' od fs→x C fs δ'→E (.ref C) od H'
noncomputable abbrev Fun2(P:Program)(w:World)(K:Frag)(mg:Str→Option Value)(base:Heap)(x:Str)(k:Nat)(ps:List Str)(sp:Sp2):Prop:=FnAt P w K mg base (CX1 P w) x k ps (upF K sp)
section
variable{K:Frag}{Y:Y2}{F H F' H':Hp}{σ:St}{ρ:En}{δ δ':Dk}
theorem Ran.trans{F₀ H₀:Hp}{δ₀:Dk}(R:Ran K F₀ H₀ δ₀ F H δ)(S:Ran K F H δ F' H' δ'):Ran K F₀ H₀ δ₀ F' H' δ':=by
 have offs:∀b o,H₀ b=some o→Off δ₀ b→Off δ b:=fun b o e f a ds q w=>by
  subst w;cases hd:δ₀ with
  |none=>have:=R.dto.2 b ds q hd;rw[e]at this;cases this
  |some p=>
   obtain ⟨c,gs⟩:=p;obtain ⟨es,z⟩:=R.dto.1 c gs hd;rw[q]at z;cases z;exact f b gs hd rfl
 have fr:∀p,H p=none→H₀ p=none:=fun p h=>(Ran.fresh (Y:=⟨F₀,H₀,δ₀,none⟩) R h)
 refine ⟨S.sub,S.dk,fun b o e f=>S.keep b o (R.keep b o e f) (offs b o e f),R.f0.trans S.f0,fun b o e=>?_,⟨fun a ds e=>?_,fun a ds e n=>?_⟩⟩
 ·rcases S.fnew b o e with z |z
  ·exact R.fnew b o z
  ·exact .inr (fr b z)
 ·obtain ⟨es,z⟩:=R.dto.1 a ds e;exact S.dto.1 a es z
 ·cases hd:δ with
  |none=>exact fr a (S.dto.2 a ds e hd)
  |some p=>
   obtain ⟨c,gs⟩:=p;obtain ⟨es,z⟩:=S.dto.1 c gs hd;rw[e]at z;cases z;exact R.dto.2 a gs hd n
theorem I2.call(I:I2 K Y F H σ ρ δ)(S:Ran K F H δ F' H' δ'):I2 K Y F' H' σ ρ δ':=by
 have fno:∀a o,H a=some o→F a=none→F' a=none:=fun a o h f=>by
  cases q:F' a with
  |none=>rfl
  |some u=>
   rcases S.fnew a u q with z |z
   ·rw[f]at z;cases z
   ·rw[h]at z;cases z
 have addr:∀j a,h7 ρ σ j a→∃o,H a=some o:=fun j a o=>by
  rcases o.1 with ⟨ds,q⟩|⟨C,fs,q⟩|⟨kvs,q⟩
  ·obtain ⟨b,us,e,hb,_⟩:=I.env j _ q;rw[o.2]at e;cases e;exact ⟨_,hb⟩
  ·obtain ⟨b,dx,us,e,es0,hb,_⟩:=I.env j _ q;rw[o.2]at e;cases e;exact ⟨_,hb⟩
  ·obtain ⟨b,us,e,hb,_⟩:=I.env j _ q;rw[o.2]at e;cases e;exact ⟨_,hb⟩
 refine ⟨I.ran.trans S,fun i c e=>?_,I.len,I.apart,fun j a o b ds e w=>?_⟩
 ·have w:=I.env i c e;cases c with
  |no=>trivial
  |val d=>obtain ⟨u,e1,r⟩:=w;exact ⟨u,e1,r.mono S.f0⟩
  |own ds=>
   obtain ⟨a,vs,e1,h1,f1,g1,r1⟩:=w;have of:=I.off i a ⟨.inl ⟨ds,e⟩,v4 e1⟩;exact ⟨a,vs,e1,S.keep a _ h1 of,fno a _ h1 f1,g1,r1.mono S.f0⟩
  |obj C fs=>
   obtain ⟨a,dx,us,e1,es1,h1,h2,f1,f2,g1,g2,r1⟩:=w;have of:=I.off i a ⟨.inr (.inl ⟨C,fs,e⟩),v4 e1⟩;have od:Off δ dx:=fun b ds q w=>by
    obtain ⟨_,vs,q2,_⟩:=I.ran.dk b ds q;rw[←w,h2]at q2;cases q2
   exact ⟨a,dx,us,e1,es1,S.keep a _ h1 of,S.keep dx _ h2 od,fno a _ h1 f1,fno dx _ h2 f2,g1,g2,r1.mono S.f0⟩
  |ownD ds=>
   obtain ⟨a,vs,e1,h1,f1,g1,r1⟩:=w;have of:=I.off i a ⟨.inr (.inr ⟨ds,e⟩),v4 e1⟩;exact ⟨a,vs,e1,S.keep a _ h1 of,fno a _ h1 f1,g1,r1.mono S.f0⟩
 ·subst w;obtain ⟨u,hu⟩:=addr j a o;cases hd:δ with
  |none=>have:=S.dto.2 a ds e hd;rw[hu]at this;cases this
  |some p=>
   obtain ⟨c,gs⟩:=p;obtain ⟨es,z⟩:=S.dto.1 c gs hd;rw[e]at z;cases z;exact I.off j a o a gs hd rfl
theorem Ran.refl(s:Same F H)(d:DkOk K F H δ):Ran K F H δ F H δ:=⟨s,d,fun _ _ e _=>e,Same.refl F,fun _ _ e=>.inl e,fun a ds e=>⟨ds,e⟩,fun a ds e n=>by rw[n]at e;cases e⟩
end
section
variable{X:Cx}{Y:Y2}{W:XW}{x:Str}{p pos:Pos}{e:Expr}{es:List Expr}{t:TA2}{k:Nat}{ps:List Str}{sp:Sp2}
noncomputable def w0s(sp:Sp2)(t:TA2):TE2:=fun x ρ δ q=>t x ρ δ fun ds ρ1 δ1=>sp ds δ1 (fun d δ2=>q d ρ1 δ2) fun C fs δ2=>x C fs ρ1 δ2
theorem i0a{σ:St}{H:Hp}{Q:VK}(h:upE X.K Y W (w0s sp t) σ H Q):p0e (upF X.K sp) W (upA X.K Y W t) σ H Q:=by
 obtain ⟨F,ρ,δ,x,q,I,h,k,kx⟩:=h;refine ⟨F,ρ,δ,x,_,I,h,fun ds vs F1 H1 ρ1 δ1 I1 s1 r1 h1=>⟨F1,ds,δ1,_,_,I1.sub,I1.ran.dk,r1,h1,fun d v F' H' δ' R r' q'=>?_,fun C od fs F' H' δ' R r' q'=>?_⟩,kx⟩
 ·exact k d v F' H' ρ1 δ' (I1.call R) (s1.trans R.f0) r' q'
 ·exact ⟨C,rfl,kx C od fs σ F' H' ρ1 δ' (I1.call R) (s1.trans R.f0) r' q'⟩
theorem d0(G:Fun2 X.prog X.w X.K X.mg X.base x k ps sp)(hr:Room k X.A)(hf:h8 X W)(ha:PA2 X Y W (e::es) t)(hg:Gl X x:=by rfl)(hdb:(x==("__debug__":Str))=false:=by decide)
 (he:starEach (e::es) X.env=(false,eval e X.env)::starEach es X.env:=by exact x6 rfl) (hpl:(backTo pos (starEach es X.env)).any (·.1)=false:=by exact l7 rfl):PE2 X Y W (.Call (.Name x p) (e::es) [] pos) (w0s sp t):=pe2 (pe_cX G hr hf ha.go hg hdb he hpl) fun σ H Q h=>i0a h
theorem v0i:h8 X (fun _ _ _ _=>False):=fun pins e s ⟨_,_,_,_,_,_,_,_,_,_,_,q⟩=>q.elim
end
noncomputable def x4(N:List Str)(ds:List D):En:=ds.map .val++List.replicate (N.length-ds.length) .no
theorem x0l{K:Frag}{F H H₀:Hp}{sf:Option Addr}:∀{ds:List D} {vs:List V},Reps K F ds vs→∀(n i:Nat) (c:Cell),(ds.map Cell.val++List.replicate n Cell.no)[i]?=some c→CellOk K F H H₀ sf c ((vs.map some++List.replicate n none:St)[i]?).join
 | [],vs,r,n,i,c,e=>by
  rw[List.map_nil,List.nil_append,List.getElem?_replicate]at e;split at e
  ·cases e;trivial
  ·cases e
 |d::ds,vs,r,n,0,c,e=>by
  obtain ⟨v,l,rfl,r1,r2⟩:=reps_cons.mp r;cases e;exact ⟨v,rfl,r1⟩
 |d::ds,vs,r,n,i+1,c,e=>by
  obtain ⟨v,l,rfl,r1,r2⟩:=reps_cons.mp r;exact x0l r2 n i c e
theorem z0z{ds:List D}{n i:Nat}{c:Cell}(e:(ds.map Cell.val++List.replicate n Cell.no)[i]?=some c):(∃d,c=.val d)∨c=.no:=by
 have m:=List.mem_of_getElem? e;rcases List.mem_append.mp m with m |m
 ·obtain ⟨d,_,rfl⟩:=List.mem_map.mp m;exact .inl ⟨d,rfl⟩
 ·exact .inr (List.mem_replicate.mp m).2
theorem I2.start{K:Frag}{F H:Hp}{δ:Dk}{ds:List D}{vs:List V}{N:List Str}(s:Same F H)(dk:DkOk K F H δ)(r:Reps K F ds vs):I2 K ⟨F,H,δ,none⟩ F H (L2.start N vs) (x4 N ds) δ:=by
 have no:∀i a,¬h7 (x4 N ds) (L2.start N vs) i a:=fun i a o=>by
  rcases o.1 with ⟨es,q⟩|⟨C,fs,q⟩|⟨kvs,q⟩
  ·rcases z0z q with ⟨d,z⟩|z<;>cases z
  ·rcases z0z q with ⟨d,z⟩|z<;>cases z
  ·rcases z0z q with ⟨d,z⟩|z<;>cases z
 refine ⟨Ran.refl s dk,fun i c e=>?_,?_,fun i j a _ o _=>no i a o,fun i a o=>absurd o (no i a)⟩
 ·unfold L2.start;rw[r.length];exact x0l r _ i c e
 ·unfold L2.start x4;simp[r.length]
section
variable{P:Program}{w:World}{K:Frag}{mg:Str→Option Value}{base:Heap}
theorem def2F{x:Str}{st:Stmt}{f:Addr}{fd:FuncData}{N ps:List Str}{k:Nat}{sp:Sp2}(D:DefAt K mg x st ps f fd)(S:FnScope N ps (defScope st))(len:∀ds δ q x,sp ds δ q x→ds.length=ps.length)
 (hbody:∀(cdv:Value) (A:Around) (outer:List Env) (s:Shared) (H:Hp) (E:XK) (Y:Y2),Room k (A.deeper (envOfC x (defScope st) s.heap.objs.size f cdv))→
  ∃t,PSs2 (cxX P w K mg base N x (defScope st) f cdv A outer s H E) Y (fun C od _ H'=>E (.ref C) od H') (defBody st) t∧
   ∀ds δ q x,sp ds δ q x→t {nx:=fun _ δ=>q .non δ,rt:=q,xc:=fun C fs _ δ=>x C fs δ} (x4 N ds) δ):FnOk P w K mg base (CX1 P w) (k+1) f fd ps (upF K sp):=by
 refine D.F.okX S (fun vs H Q E h=>?_) fun cdv A outer s H vs Q E hr h=>?_
 ·obtain ⟨F,ds,δ,q,x,_,_,r,h,_⟩:=h;rw[r.length];exact len ds δ q x h
 ·obtain ⟨F,ds,δ,q,x,s1,dk,r,h,kq,kx⟩:=h;obtain ⟨t,ht,rd⟩:=hbody cdv A outer s H E ⟨F,H,δ,none⟩ hr;refine ⟨_,ht.go,F,x4 N ds,δ,_,I2.start s1 dk r,rd ds δ q x h,⟨fun σ' F' H' ρ' δ' I' s' h'=>?_,fun d v σ' F' H' ρ' δ' I' s' r' h'=>?_,fun C od fs σ' F' H' ρ' δ' I' s' r' h'=>?_,fun _ _ _ _ _ _ _ z=>z.elim,fun _ _ _ _ _ _ _ z=>z.elim⟩⟩
  ·exact kq .non .non F' H' δ' I'.ran (rep_non.mpr rfl) h'
  ·exact kq d v F' H' δ' I'.ran r' h'
  ·exact kx C od fs F' H' δ' I'.ran r' h'
theorem def2{x:Str}{st:Stmt}{f:Addr}{fd:FuncData}{N ps:List Str}{k:Nat}{sp:Sp2}(D:DefAt K mg x st ps f fd)(S:FnScope N ps (defScope st))(len:∀ds δ q x,sp ds δ q x→ds.length=ps.length)
 (hbody:∀(cdv:Value) (A:Around) (outer:List Env) (s:Shared) (H:Hp) (E:XK) (Y:Y2),Room k (A.deeper (envOfC x (defScope st) s.heap.objs.size f cdv))→
  ∃t,PSs2 (cxX P w K mg base N x (defScope st) f cdv A outer s H E) Y (fun C od _ H'=>E (.ref C) od H') (defBody st) t∧
   ∀ds δ q x,sp ds δ q x→t {nx:=fun _ δ=>q .non δ,rt:=q,xc:=fun C fs _ δ=>x C fs δ} (x4 N ds) δ):Fun2 P w K mg base x (k+1) ps sp:=D.at (def2F D S len hbody)
noncomputable def upI(K:Frag)(C:Addr)(sp:Sp2):Sp:=fun vs H Q E=>∃p dx us H1 F ds δ q x,vs=.ref p::us∧H=upd (upd H1 dx (.own p)) p (.ins C dx [])∧H1 p=none∧H1 dx=none∧dx≠p∧Same F H1∧DkOk K F H1 δ∧Reps K F ds us∧sp ds δ q x∧
 (∀fs F' H' δ',Ran K F H1 δ F' H' δ'→Rep K F' (.ins C fs) (.ref p)→q (.ins C fs) δ'→Q .non H')∧∀C od fs F' H' δ',Ran K F H1 δ F' H' δ'→XRep K F' od fs→x C fs δ'→E (.ref C) od H'
structure Make2(P:Program)(w:World)(K:Frag)(mg:Str→Option Value)(base:Heap)(x:Str)(k:Nat)(sp:Sp2):Prop where
 ex:∃C f fd ps,Mk K C f∧FnOk P w K mg base (CX1 P w) k f fd ps (upI K C sp)∧mg x=some (.ref C)∧Binds K fd ps []
end
section
variable{X:Cx}{Y:Y2}{W:XW}{x:Str}{p pos:Pos}{e:Expr}{es:List Expr}{t:TA2}{k:Nat}{sp:Sp2}
theorem h0z(G:Make2 X.prog X.w X.K X.mg X.base x k sp)(hr:Room (k+1) X.A)(hf:h8 X W)(ha:PA2 X Y W (e::es) t)(hg:Gl X x:=by rfl)(hdb:(x==("__debug__":Str))=false:=by decide)
 (he:starEach (e::es) X.env=(false,eval e X.env)::starEach es X.env:=by exact x6 rfl) (hpl:(backTo pos (starEach es X.env)).any (·.1)=false:=by exact l7 rfl):PE2 X Y W (.Call (.Name x p) (e::es) [] pos) (w0s sp t):=by
 obtain ⟨C,f,fd,ps,M,F,m,b⟩:=G.ex;refine pe2 (f0c M F hr hg m b hf ha.go hdb he hpl) fun σ H Q h=>?_
 obtain ⟨F,ρ,δ,x,q,I,h,k,kx⟩:=h;refine ⟨F,ρ,δ,x,_,I,h,fun ds vs F1 H1 ρ1 δ1 I1 s1 r1 h1=>fun y dx hy hdx ne=>⟨y,dx,vs,H1,F1,ds,δ1,_,_,rfl,rfl,hy,hdx,ne,I1.sub,I1.ran.dk,r1,h1,fun fs F' H' δ' R r' q'=>⟨rfl,?_⟩,fun C od fs F' H' δ' R r' q'=>?_⟩,kx⟩
 ·exact k _ _ F' H' ρ1 δ' (I1.call R) (s1.trans R.f0) r' q'
 ·exact ⟨C,rfl,kx C od fs σ F' H' ρ1 δ' (I1.call R) (s1.trans R.f0) r' q'⟩
end
theorem I2.startO{K:Frag}{F H1:Hp}{δ:Dk}{ds:List D}{us:List V}{N:List Str}{C p dx:Addr}(s:Same F H1)(dk:DkOk K F H1 δ)(r:Reps K F ds us)(hp:H1 p=none)(hdx:H1 dx=none)(ne:dx≠p):
 I2 K ⟨F,H1,δ,some p⟩ F (upd (upd H1 dx (.own p)) p (.ins C dx [])) (some (.ref p)::L2.start N us) (.obj C []::x4 N ds) δ:=by
 have own:∀i a,h7 (.obj C []::x4 N ds) (some (.ref p)::L2.start N us) i a→i=0∧a=p:=fun i a o=>by
  cases i with
  |zero=>have z:=o.2;cases z;exact ⟨rfl,rfl⟩
  |succ i=>
   rcases o.1 with ⟨es,q⟩|⟨C,fs,q⟩|⟨kvs,q⟩
   ·rcases z0z (show (ds.map Cell.val++List.replicate _ Cell.no)[i]?=some _ from q)with ⟨d,z⟩|z<;>cases z
   ·rcases z0z (show (ds.map Cell.val++List.replicate _ Cell.no)[i]?=some _ from q)with ⟨d,z⟩|z<;>cases z
   ·rcases z0z (show (ds.map Cell.val++List.replicate _ Cell.no)[i]?=some _ from q)with ⟨d,z⟩|z<;>cases z
 have kp:∀b o,H1 b=some o→upd (upd H1 dx (.own p)) p (.ins C dx []) b=some o:=fun b o e=>by
  rw[u0 (l0 e hp),u0 (l0 e hdx)];exact e
 refine ⟨⟨fun b o e=>kp b o (s b o e),fun a ds e=>?_,fun b o e _=>kp b o e,Same.refl F,fun b o e=>.inl e,fun a ds e=>⟨ds,e⟩,fun a ds e n=>by rw[show δ=none from n]at e;cases e⟩,fun i c e=>?_,?_,fun i j a n o1 o2=>n ((own i a o1).1.trans (own j a o2).1.symm),fun i a o b ds e w=>?_⟩
 ·obtain ⟨q,vs,q2,r⟩:=dk a ds e;exact ⟨q,vs,kp a _ q2,r⟩
 ·cases i with
  |zero=>
   cases e;refine ⟨p,dx,[],rfl,rfl,o3,by rw[u0 ne,o3],s.free hp,s.free hdx,hp,hdx,?_⟩;unfold RepF;rfl
  |succ i=>
   show CellOk K F _ _ _ c ((L2.start N us)[i]?).join;unfold L2.start;rw[r.length];exact x0l r _ i c e
 ·unfold L2.start x4;simp[r.length]
 ·obtain ⟨_,rfl⟩:=own i a o;obtain ⟨_,vs,q2,_⟩:=dk b ds e;rw[←w,hp]at q2;cases q2
section
variable{P:Program}{w:World}{K:Frag}{mg:Str→Option Value}{base:Heap}
theorem init2{x qual cn:Str}{st:Stmt}{f C:Addr}{fd:FuncData}{N ps:List Str}{k:Nat}{sp:Sp2}(Fn:Fun K x qual st f fd)(M:Mk K C f)(hm:mg cn=some (.ref C))(b:Binds K fd ("self"::ps) [])(S:FnScope ("self"::N) ("self"::ps) (defScope st))(len:∀ds δ q x,sp ds δ q x→ds.length=ps.length)
 (hbody:∀(cdv:Value) (A:Around) (outer:List Env) (s:Shared) (H:Hp) (E:XK) (Y:Y2),Room k (A.deeper (envOfC qual (defScope st) s.heap.objs.size f cdv))→
  ∃t,PSs2 (cxX P w K mg base ("self"::N) qual (defScope st) f cdv A outer s H E) Y (fun C od _ H'=>E (.ref C) od H') (defBody st) t∧
   ∀ds δ q x,sp ds δ q x→t {nx:=fun ρ δ=>∃fs,ρ[0]?=some (.obj C fs)∧q (.ins C fs) δ,rt:=fun _ _=>False,xc:=fun C fs _ δ=>x C fs δ} (.obj C []::x4 N ds) δ):Make2 P w K mg base cn (k+1) sp:=by
 refine ⟨C,f,fd,_,M,Fn.okX S (fun vs H Q E h=>?_) (fun cdv A outer s H vs Q E hr h=>?_),hm,b⟩
 ·obtain ⟨p,dx,us,H1,F,ds,δ,q,x,rfl,_,_,_,_,_,_,r,h,_⟩:=h;rw[List.length_cons,List.length_cons,r.length,len ds δ q x h]
 ·obtain ⟨p,dx,us,H1,F,ds,δ,q,x,rfl,rfl,hp,hdx,ne,s1,dk,r,h,kq,kx⟩:=h;obtain ⟨t,ht,rd⟩:=hbody cdv A outer s _ E ⟨F,H1,δ,some p⟩ hr;have es:L2.start ("self"::N) (V.ref p::us)=some (.ref p)::L2.start N us:=by unfold L2.start;simp
  refine ⟨_,ht.go,?_⟩;rw[es];refine ⟨F,_,δ,_,I2.startO s1 dk r hp hdx ne,rd ds δ q x h,⟨fun σ' F' H' ρ' δ' I' s' h'=>?_,fun d v σ' F' H' ρ' δ' I' s' r' h'=>h'.elim,fun C od fs σ' F' H' ρ' δ' I' s' r' h'=>?_,fun _ _ _ _ _ _ _ z=>z.elim,fun _ _ _ _ _ _ _ z=>z.elim⟩⟩
  ·obtain ⟨fs,e0,hq⟩:=h';obtain ⟨a,dy,ws,e1,es1,h1,h2,f1,f2,g1,g2,r1⟩:=I'.env 0 _ e0;cases (show some p=some a from es1);have nd:dy≠p:=fun w=>by rw[w,h1]at h2;cases h2
   have sF:Same F' (upd (upd F' dy (.own p)) p (.ins C dy ws)):=fun b o e=>by rw[u0 (l0 e f1),u0 (l0 e f2)];exact e
   have R:=I'.ran;refine kq fs (upd (upd F' dy (.own p)) p (.ins C dy ws)) H' δ' ⟨fun b o e=>?_,fun a ds e=>?_,R.keep,R.f0.trans sF,fun b o e=>?_,R.dto⟩ (rep_ins.mpr ⟨p,dy,ws,rfl,o3,by rw[u0 nd,o3],r1.mono sF⟩) hq
   ·by_cases z:b=p
    ·subst z;rw[o3]at e;cases e;exact h1
    ·rw[u0 z]at e;by_cases z2:b=dy
     ·subst z2;rw[o3]at e;cases e;exact h2
     ·rw[u0 z2]at e;exact R.sub _ _ e
   ·obtain ⟨q1,vs,q2,q3⟩:=R.dk a ds e;have n1:a≠p:=fun w=>by rw[w,h1]at q2;cases q2
    have n2:a≠dy:=fun w=>by rw[w,h2]at q2;cases q2
    exact ⟨by rw[u0 n1,u0 n2];exact q1,vs,q2,q3.mono sF⟩
   ·by_cases z:b=p
    ·subst z;exact .inr g1
    ·rw[u0 z]at e;by_cases z2:b=dy
     ·subst z2;exact .inr g2
     ·rw[u0 z2]at e;exact R.fnew b o e
  ·exact kx C od fs F' H' δ' I'.ran r' h'
end
section
variable{X:Cx}{Y:Y2}{W:XW}{x:Str}{p pos cpos:Pos}{e:Expr}{es:List Expr}{t:TA2}{k:Nat}{ps:List Str}{C:Addr}{f g:Str}
theorem e0k{H:Hp}{x d:Addr}{o o1 o2:HO}(hx:H x=none)(ne:d≠x):L2.drop (upd (upd (upd H x o1) d o) x o2) x=upd H d o:=by
 funext b;by_cases z:b=x
 ·subst z;rw[a9,u0 (Ne.symm ne)];exact hx.symm
 ·rw[y0p z,u0 z];by_cases z2:b=d
  ·subst z2;rw[o3,o3]
  ·rw[u0 z2,u0 z2,u0 z]
theorem o0v{H:Hp}{x:Addr}{o:HO}(hx:H x=none):L2.drop (upd H x o) x=H:=by
 funext b;by_cases z:b=x
 ·subst z;rw[a9];exact hx.symm
 ·rw[y0p z,u0 z]
theorem repF1{K:Frag}{F:Hp}{f:Str}{d:D}{v:V}(r:Rep K F d v):RepF K F [(f,d)] [(f,v)]:=by
 unfold RepF;exact ⟨v,[],rfl,r,by unfold RepF;rfl⟩
noncomputable def u0j(C:Addr)(f:Str)(t:TA2):TS2:=fun E ρ δ=>t E.xc ρ δ fun ds ρ1 δ1=>match ds with | [d]=>E.xc C [(f,d)] ρ1 δ1 |_=>False
theorem w0r(hc:X.calm=true)(hf:h8 X W)(M:MkE X.prog X.w X.K X.mg X.base x C k ps (spXI C f))(hr:Room (k+1) X.A)(ha:PA2 X Y W (e::es) t)(hg:Gl X x:=by rfl)(hdb:(x==("__debug__":Str))=false:=by decide)
 (he:starEach (e::es) X.env=(false,eval e X.env)::starEach es X.env:=by exact x6 rfl) (hpl:(backTo cpos (starEach es X.env)).any (·.1)=false:=by exact l7 rfl):
 PS2 X Y W (.Raise (some (.Call (.Name x p) (e::es) [] cpos)) none pos) (u0j C f t):=ps2 (i0l hc hf M hr ha.go hg hdb he hpl) fun E1 σ H ⟨F,ρ,δ,E2,I,h,er⟩=>by
 refine ⟨F,ρ,δ,E2.xc,_,I,h,fun ds vs F1 H1 ρ1 δ1 I1 s1 r1 h1=>?_,er.xc⟩;split at h1
 ·rename_i d;obtain ⟨v,rfl,r2⟩:=y0u r1;refine ⟨sz1,fun y hy=>⟨y,v,rfl,o3,fun dx hdx ne=>⟨rfl,some dx,o3,?_⟩⟩⟩;rw[e0k hy ne];have hd:H1 dx=none:=by rw[u0 ne]at hdx;exact hdx
  exact er.xc C (some dx) _ σ _ _ ρ1 δ1 (I1.alloc hd) (s1.trans (I1.grow hd)) ⟨_,o3,(repF1 r2).mono (I1.grow hd)⟩ h1
 ·exact h1.elim
noncomputable def e0j(C:Addr)(f g:Str)(t:TA2):TS2:=fun E ρ δ=>t E.xc ρ δ fun ds ρ1 δ1=>match ds with | [d,d']=>E.xc C (q0w g d' [(f,d)]) ρ1 δ1 |_=>False
noncomputable def w0q(C:Addr):TS2:=fun E ρ δ=>E.xc C [] ρ δ
theorem w0p(hc:X.calm=true)(hf:h8 X W)(M:XMk0 X.K C)(hK:xcIn X.K C=true)(hm:X.mg x=some (.ref C))(hg:Gl X x:=by rfl)(hdb:(x==("__debug__":Str))=false:=by decide):
 PS2 X Y W (.Raise (some (.Call (.Name x p) [] [] cpos)) none pos) (w0q C):=ps2 (i0o hc hf M hK hg hm hdb) fun E1 σ H ⟨F,ρ,δ,E2,I,h,er⟩=>by
 intro y hy;rw[o0v hy];exact er.xc C none [] σ F H ρ δ I (Same.refl F) rfl h
noncomputable def t2Exc1(C:Addr)(f:Str)(t:TA2):TE2:=fun x ρ δ q=>t x ρ δ fun ds ρ1 δ1=>match ds with | [d]=>q (.exc C [(f,d)]) ρ1 δ1 |_=>False
noncomputable def t2Exc2(C:Addr)(f g:Str)(t:TA2):TE2:=fun x ρ δ q=>t x ρ δ fun ds ρ1 δ1=>match ds with | [d,d']=>q (.exc C (q0w g d' [(f,d)])) ρ1 δ1 |_=>False
noncomputable abbrev XTS2:=Addr→List (Str×D)→TS2
noncomputable def upH(K:Frag)(Y:Y2)(W:XW)(t:XTS2):XTS:=fun C od E1 σ H=>∃F ρ δ E2 fs,I2 K Y F H σ ρ δ∧XRep K F od fs∧t C fs E2 ρ δ∧ER K Y W F E2 E1
structure PH2(X:Cx)(Y:Y2)(W:XW)(hs:List ExceptHandler)(t:XTS2):Prop where
 go:PH X hs (upH X.K Y W t)
theorem h0y{hs:List ExceptHandler}{t t':XTS}(h:PH X hs t)(k:∀C od D σ H,t' C od D σ H→t C od D σ H):PH X hs t':=fun pins x C od T s σ H D I f l lt q=>h pins x C od T s σ H D I f l lt (k C od D σ H q)
noncomputable def t2H0:XTS2:=fun _ _ _ _ _=>False
theorem l0e:PH2 X Y W [] t2H0:=⟨h0y ph_nil fun C od D σ H ⟨F,ρ,δ,E2,fs,I,r,h,er⟩=>h.elim⟩
theorem ph2{hs:List ExceptHandler}{t:XTS}{u:XTS2}(h:PH X hs t)(k:∀C od D σ H,upH X.K Y W u C od D σ H→t C od D σ H):PH2 X Y W hs u:=⟨h0y h k⟩
noncomputable abbrev W0:XW:=fun _ _ _ _=>False
noncomputable def noX(E:End2):End2:={E with xc:=fun _ _ _ _=>False}
noncomputable def t2H(K:Frag)(D:Addr)(ts:TS2)(tr:XTS2):XTS2:=fun C fs E ρ δ=>match PySem.W.mroIn K C (.ref D)with |some b=>if b=true then ts (noX E) ρ δ else tr C fs E ρ δ |none=>False
variable{D:Addr}{y n:Str}{np:Pos}{b₀:Stmt}{suite:List Stmt}{rest:List ExceptHandler}{ts:TS2}{tr:XTS2}
noncomputable def asE(i:Nat)(E:End2):End2:={nx:=fun ρ δ=>E.nx (ρ.set i .no) δ,rt:=E.rt,xc:=fun _ _ _ _=>False,bk:=fun ρ δ=>E.bk (ρ.set i .no) δ,ct:=fun ρ δ=>E.ct (ρ.set i .no) δ}
noncomputable def o0u(K:Frag)(i:Nat)(D:Addr)(ts:TS2)(tr:XTS2):XTS2:=fun C fs E ρ δ=>match PySem.W.mroIn K C (.ref D)with |some b=>if b=true then ts (asE i E) (ρ.set i (.val (.exc C fs))) δ else tr C fs E ρ δ |none=>False
theorem h2_as(i:Nat)(tp:Top X)(d:XHd X.K D)(hm:X.mg y=some (.ref D))(hN:X.N.Nodup)(hs:∀x,PSs2 (X.hdl x) Y W0 (b₀::suite) ts)(hr:PH2 X Y W rest tr)(hi:X.N[i]?=some n:=by rfl)(hk:X.env.scope.names.lookup n=some .local:=by rfl)(hg:Gl X y:=by rfl)(hdb:(y==("__debug__":Str))=false:=by decide):
 PH2 X Y W (.ExceptHandler (some (.Name y np)) (some n) (b₀::suite) pos::rest) (o0u X.K i D ts tr):=ph2 (ph_as (ts:=fun _=>upS X.K Y W0 ts) tp d hg hm hN hi hk (fun x=>(hs x).go) hr.go hdb) fun C od E1 σ H ⟨F,ρ,δ,E2,fs,I,r,h,er⟩=>by
 unfold o0u at h;split at h
 ·rename_i b e;refine ⟨b,e,?_⟩;cases b with
  |true=>
   rw[if_pos rfl]at h ⊢;intro y hy;have s1:=I.grow (o:=XO (bif X.fl then 2 else 0) y C od) hy;have rr:Rep X.K (upd F y (XO (bif X.fl then 2 else 0) y C od)) (.exc C fs) (.ref y):=by
    refine rep_exc.mpr ⟨y,(bif X.fl then 2 else 0),rfl,?_⟩;cases od with
    |none=>exact .inl ⟨r,o3⟩
    |some dx=>
     obtain ⟨us,e1,rf⟩:=r;refine .inr ⟨dx,us,o3,?_,rf.mono s1⟩;rw[u0 (l0 (I.sub _ _ e1) hy)];exact e1
   refine ⟨_,_,δ,asE i E2,(I.alloc hy).put rr,h,⟨fun σ' F' H' ρ' δ' I' s' h'=>?_,fun d v σ' F' H' ρ' δ' I' s'=>er.rt d v σ' F' H' ρ' δ' I' (s1.trans s'),fun _ _ _ _ _ _ _ _ _ _ _ z=>z,fun σ' F' H' ρ' δ' I' s' h'=>?_,fun σ' F' H' ρ' δ' I' s' h'=>?_⟩⟩
   ·exact er.nx _ F' H' _ δ' I'.gone (s1.trans s') h'
   ·exact er.bk _ F' H' _ δ' I'.gone (s1.trans s') h'
   ·exact er.ct _ F' H' _ δ' I'.gone (s1.trans s') h'
  |false=>rw[if_neg Bool.false_ne_true]at h ⊢; exact ⟨F,ρ,δ,E2,fs,I,r,h,er⟩
 ·exact h.elim
noncomputable def e0i(tb:TS2)(th:XTS2):TS2:=fun E ρ δ=>tb {E with xc:=fun C fs ρ' δ'=>th C fs E ρ' δ'} ρ δ
theorem l0d{body:List Stmt}{h₀:ExceptHandler}{hs:List ExceptHandler}{tb:TS2}{th:XTS2}(tp:Top X)(hb:∀pins W',PSs2 (X.tr pins W') Y W' body tb)(hh:PH2 X Y W (h₀::hs) th):PS2 X Y W (.Try body (h₀::hs) [] [] pos) (e0i tb th):=
 ps2 (ps_try (tb:=fun W'=>upS X.K Y W' tb) tp (fun p W'=>(hb p W').go) hh.go) fun E1 σ H ⟨F,ρ,δ,E2,I,h,er⟩=>
  ⟨fun C od σ' H'=>∃F' ρ' δ' fs,I2 X.K Y F' H' σ' ρ' δ'∧Same F F'∧XRep X.K F' od fs∧th C fs E2 ρ' δ',
   ⟨F,ρ,δ,_,I,h,⟨er.nx,er.rt,fun C od fs σ' F' H' ρ' δ' I' s' r' h'=>⟨F',ρ',δ',fs,I',s',r',h'⟩,er.bk,er.ct⟩⟩,
   fun C od σ' H' ⟨F',ρ',δ',fs,I',s',r',h'⟩=>⟨F',ρ',δ',E2,fs,I',r',h',er.mono s'⟩⟩
end
end DL
namespace DL
open PySem PySem.Spec L2
open PySem.W (XC)
noncomputable def c0u(K:Frag)(F H:Hp)(d:D)(v:V)(H':Hp):Prop:=(H'=H∧Rep K F d v)∨∃p vs es,H p=none∧H'=upd H p (.tup vs)∧v=.ref p∧d=.tup es∧Reps K F es vs
structure SrcOk(K:Frag)(J:It)(F:Hp)(ds:List D):Prop where
 item:∀(i:Nat) (d:D) (F' H:Hp),ds[i]?=some d→Same F F'→Same F' H→J.go i H∧∀v H',J.yld i H v H'→c0u K F' H d v H'
 stop:∀(F' H:Hp),Same F F'→Same F' H→J.stop ds.length H
theorem I2.yld{K:Frag}{Y:Y2}{F H H':Hp}{σ:St}{ρ:En}{δ:Dk}{d:D}{v:V}(I:I2 K Y F H σ ρ δ)(y:c0u K F H d v H'):∃F',I2 K Y F' H' σ ρ δ∧Same F F'∧Rep K F' d v∧∀D u,H D=some u→F D=none→F' D=none:=by
 rcases y with ⟨rfl,r⟩|⟨p,vs,es,hp,rfl,rfl,rfl,r⟩
 ·exact ⟨F,I,Same.refl F,r,fun _ _ _ z=>z⟩
 ·exact ⟨_,I.alloc hp,I.grow hp,I.tup hp r,fun D u h z=>by rw[u0 (l0 h hp)];exact z⟩
noncomputable abbrev TI2:=XK2→En→Dk→(List D→En→Dk→Prop)→Prop
noncomputable def upI2(K:Frag)(Y:Y2)(W:XW)(t:TI2):TI:=fun σ H R=>∃F ρ δ x q,I2 K Y F H σ ρ δ∧t x ρ δ q∧(∀ds J F' H' ρ' δ',I2 K Y F' H' σ ρ' δ'→Same F F'→SrcOk K J F' ds→q ds ρ' δ'→R J H')∧XR K Y W F x
structure PI2(X:Cx)(Y:Y2)(W:XW)(tg iter:Expr)(t:TI2):Prop where
 go:PI X tg iter (upI2 X.K Y W t)
theorem a0p{X:Cx}{tg iter:Expr}{t t':TI}(h:PI X tg iter t)(k:∀ σ H R,t' σ H R→t σ H R):PI X tg iter t':=fun pins s σ H R I q=>h pins s σ H R I (k σ H R q)
theorem pi2{X:Cx}{Y:Y2}{W:XW}{tg iter:Expr}{t:TI}{u:TI2}(h:PI X tg iter t)(k:∀ σ H R,upI2 X.K Y W u σ H R→t σ H R):PI2 X Y W tg iter u:=⟨a0p h k⟩
section
variable{X:Cx}{Y:Y2}{W:XW}{tg:Expr}{K:Frag}
theorem a0o{F:Hp}{a:Addr}{xs:List V}{ds:List D}(h:SqT K F a xs)(r:Reps K F ds xs):SrcOk K (Itt K a) F ds:=by
 refine ⟨fun i d F' H e s1 s2=>?_,fun F' H s1 s2=>?_⟩
 ·obtain ⟨v,ev,rv⟩:=r.get e;have hs:=(s1.trans s2).sqT h;refine ⟨⟨xs,v,hs,ev⟩,fun u H' y=>?_⟩;obtain ⟨rfl,y⟩:=y;have:=y xs hs;rw[ev]at this;cases this;exact .inl ⟨rfl,rv.mono s1⟩
 ·exact ⟨xs,(s1.trans s2).sqT h,by rw[r.length];exact Nat.le_refl _⟩
theorem h0x{F:Hp}{a:Addr}{xs:List V}{ds:List D}(h:SqL K F a xs)(r:Reps K F ds xs):SrcOk K (Itl K a) F ds:=by
 refine ⟨fun i d F' H e s1 s2=>?_,fun F' H s1 s2=>?_⟩
 ·obtain ⟨v,ev,rv⟩:=r.get e;have hs:=(s1.trans s2).sqL h;refine ⟨⟨xs,v,hs,ev⟩,fun u H' y=>?_⟩;obtain ⟨rfl,y⟩:=y;have:=y xs hs;rw[ev]at this;cases this;exact .inl ⟨rfl,rv.mono s1⟩
 ·exact ⟨xs,(s1.trans s2).sqL h,by rw[r.length];exact Nat.le_refl _⟩
noncomputable def rngD(lo:Int)(n:Nat):List D:=(List.range n).map fun (k:Nat)=>D.int (lo+(k:Int))
theorem u0i{lo:Int}{n i:Nat}{d:D}(e:(rngD lo n)[i]?=some d):i<n∧d=.int (lo+(i:Int)):=by
 unfold rngD at e;rw[List.getElem?_map,Option.map_eq_some_iff]at e;obtain ⟨k,ek,rfl⟩:=e;obtain ⟨h1,h2⟩:=List.getElem?_eq_some_iff.mp ek;rw[List.length_range]at h1;rw[List.getElem_range]at h2;subst h2;exact ⟨h1,rfl⟩
theorem w0o{lo:Int}{n:Nat}:(rngD lo n).length=n:=by unfold rngD;simp
theorem h0w{F:Hp}{lo:Int}{n:Nat}:SrcOk K (Itr lo n) F (rngD lo n):=by
 refine ⟨fun i d F' H e s1 s2=>?_,fun F' H s1 s2=>?_⟩
 ·obtain ⟨hi,rfl⟩:=u0i e;refine ⟨hi,fun v H' y=>?_⟩;obtain ⟨rfl,rfl⟩:=y;exact .inl ⟨rfl,rep_int.mpr rfl⟩
 ·show n≤_;rw[w0o];exact Nat.le_refl _
noncomputable def iSeq(K:Frag)(tl:TE):TI:=fun σ H R=>tl σ H fun x H1=>∃a,x=.ref a∧(((∃xs,SqL K H1 a xs)∧R (Itl K a) H1)∨((∃xs,SqT K H1 a xs)∧R (Itt K a) H1))
theorem pi_seq{l:Expr}{tl:TE}(hl:PE X l tl):PI X tg l (iSeq X.K tl):=by
 intro pins s σ H R I h;refine thn (hl pins s σ H _ I h) fun v s1 ⟨x,H1,I1,r1,q1⟩=>?_
 obtain ⟨a,e,q⟩:=q1;subst e;cases r1;rcases q with ⟨⟨xs,hq⟩,q⟩|⟨⟨xs,hq⟩,q⟩
 ·obtain ⟨its,rv,p,hz⟩:=I1.list hq;refine wpAny_pyIter_list p.isList ?_;refine ⟨s1.heap.objs.size,[s1.heap.objs.size],_,_,H1,rfl,I1.kept (t':=s1.toks) fun b o e=>Heap.get?_push_of_some _ e,j0g a _,⟨_,Heap.get?_push_size _ rfl,rfl,rfl⟩,fun b hb=>?_,q⟩;have e:b=s1.heap.objs.size:=by simpa using hb
  subst e;exact I1.fpOk (Nat.le_refl _) (I1.hok.fresh (Nat.le_refl _))
 ·obtain ⟨its,rv,p,hz⟩:=I1.tuple hq;refine wpAny_pyIter_tuple (show s1.heap.IsTuple a its.toArray from p) ?_;refine ⟨s1.heap.objs.size,[s1.heap.objs.size],_,_,H1,rfl,I1.kept (t':=s1.toks) fun b o e=>Heap.get?_push_of_some _ e,k0n a _,⟨_,Heap.get?_push_size _ rfl,rfl,rfl⟩,fun b hb=>?_,q⟩;have e:b=s1.heap.objs.size:=by simpa using hb
  subst e;exact I1.fpOk (Nat.le_refl _) (I1.hok.fresh (Nat.le_refl _))
noncomputable def t2Is(te:TE2):TI2:=fun x ρ δ q=>te x ρ δ fun d ρ1 δ1=>match seqD d with |some ds=>q ds ρ1 δ1 |none=>False
theorem c0t{F:Hp}{d:D}{xs:List D}{x:V}(h:seqD d=some xs)(r:Rep K F d x):∃a vs,x=.ref a∧(SqL K F a vs∨SqT K F a vs)∧Reps K F xs vs:=o0z (Same.refl F) h r
theorem z0y{l:Expr}{te:TE2}(hl:PE2 X Y W l te):PI2 X Y W tg l (t2Is te):=pi2 (pi_seq hl.go) fun σ H R ⟨F,ρ,δ,x,q,I,h,k,kx⟩=>by
 refine ⟨F,ρ,δ,x,_,I,h,fun d v F' H' ρ' δ' I' s' r' h'=>?_,kx⟩;split at h'
 ·rename_i ds e;obtain ⟨a,vs,rfl,sq,z⟩:=c0t e r';refine ⟨a,rfl,?_⟩;rcases sq with sq |sq
  ·exact .inl ⟨⟨vs,I'.sub.sqL sq⟩,k ds _ F' H' ρ' δ' I' s' (h0x sq z) h'⟩
  ·exact .inr ⟨⟨vs,I'.sub.sqT sq⟩,k ds _ F' H' ρ' δ' I' s' (a0o sq z) h'⟩
 ·exact h'.elim
variable{a b:Expr}{ta:TA2}{p pos:Pos}
noncomputable def t2R1(ta:TA2):TI2:=fun x ρ δ q=>ta x ρ δ fun ds ρ1 δ1=>match ds with | [.int j]=>(-(2^62)≤j∧j<2^62)∧q (rngD 0 j.toNat) ρ1 δ1 |_=>False
theorem h0v(hm:X.mg "range"=none)(ha:PA2 X Y W [a] ta)(hg:Gl X "range":=by rfl)(hs:starEach [a] X.env=[(false,eval a X.env)]:=by rfl):PI2 X Y W tg (.Call (.Name "range" p) [a] [] pos) (t2R1 ta):=pi2 (j0f hg hm ha.go hs) fun σ H R ⟨F,ρ,δ,x,q,I,h,k,kx⟩=>by
 refine ⟨F,ρ,δ,x,_,I,h,fun ds vs F' H' ρ' δ' I' s' r' h'=>?_,kx⟩;split at h'
 ·rename_i j;obtain ⟨v,rfl,r1⟩:=y0u r';rw[rep_int.mp r1];exact ⟨j,rfl,h'.1.1,h'.1.2,k _ _ F' H' ρ' δ' I' s' h0w h'.2⟩
 ·exact h'.elim
noncomputable def t2R2(ta:TA2):TI2:=fun x ρ δ q=>ta x ρ δ fun ds ρ1 δ1=>match ds with | [.int i,.int j]=>(-(2^62)≤i∧i<2^62∧-(2^62)≤j∧j<2^62)∧q (rngD i (j-i).toNat) ρ1 δ1 |_=>False
theorem y0k(hm:X.mg "range"=none)(ha:PA2 X Y W [a,b] ta)(hg:Gl X "range":=by rfl)(hs:starEach [a,b] X.env=[(false,eval a X.env),(false,eval b X.env)]:=by rfl)(hs2:starEach [b] X.env=[(false,eval b X.env)]:=by rfl):
 PI2 X Y W tg (.Call (.Name "range" p) [a,b] [] pos) (t2R2 ta):=pi2 (j0e hg hm ha.go hs hs2) fun σ H R ⟨F,ρ,δ,x,q,I,h,k,kx⟩=>by
 refine ⟨F,ρ,δ,x,_,I,h,fun ds vs F' H' ρ' δ' I' s' r' h'=>?_,kx⟩;split at h'
 ·rename_i i j;obtain ⟨v,u,rfl,r1,r2⟩:=a0v r';rw[rep_int.mp r1,rep_int.mp r2];exact ⟨i,j,rfl,h'.1,k _ _ F' H' ρ' δ' I' s' h0w h'.2⟩
 ·exact h'.elim
end
noncomputable abbrev G2:=D→En→Option En
noncomputable def TgD(K:Frag)(g:TG)(g2:G2):Prop:=∀(Y:Y2) (F H:Hp) (σ:St) (ρ ρ':En) (δ:Dk) (d:D) (v:V) (Q:St→Hp→Prop),I2 K Y F H σ ρ δ→Rep K F d v→g2 d ρ=some ρ'→(∀ σ',I2 K Y F H σ' ρ' δ→Q σ' H)→g v σ H Q
noncomputable def g2N(i:Nat):G2:=fun d ρ=>some (ρ.set i (.val d))
theorem j7{K:Frag}{i:Nat}:TgD K (j0i i) (g2N i):=fun Y F H σ ρ ρ' δ d v Q I r e k=>by cases e;exact k _ (I.put r)
noncomputable def t0m:List Nat→List D→En→Option En
 | [],[],ρ=>some ρ
 |i::is,d::ds,ρ=>t0m is ds (ρ.set i (.val d))
 |_,_,_=>none
noncomputable def g2T(is:List Nat):G2:=fun d ρ=>match d with | .tup ds=>t0m is ds ρ |_=>none
noncomputable def gAll:List Nat→TGs
 | []=>gNil
 |i::is=>gCons (j0i i) (gAll is)
theorem h0u{K:Frag}:∀{is:List Nat} {ds:List D} {vs:List V} {Y:Y2} {F H:Hp} {σ:St} {ρ ρ':En} {δ:Dk} {Q:St→Hp→Prop},I2 K Y F H σ ρ δ→Reps K F ds vs→t0m is ds ρ=some ρ'→(∀ σ',I2 K Y F H σ' ρ' δ→Q σ' H)→gAll is vs σ H Q∧vs.length=is.length
 | [],[],vs,Y,F,H,σ,ρ,ρ',δ,Q,I,r,e,k=>by cases e;rw[reps_nil.mp r];exact ⟨⟨rfl,k σ I⟩,rfl⟩
 |i::is,d::ds,vs,Y,F,H,σ,ρ,ρ',δ,Q,I,r,e,k=>by
  obtain ⟨v,l,rfl,r1,r2⟩:=reps_cons.mp r;obtain ⟨h1,h2⟩:=h0u (I.put (i:=i) r1) r2 e k;exact ⟨⟨v,l,rfl,h1⟩,by rw[List.length_cons,List.length_cons,h2]⟩
 | [],d::ds,vs,Y,F,H,σ,ρ,ρ',δ,Q,I,r,e,k=>by cases e
 |i::is,[],vs,Y,F,H,σ,ρ,ρ',δ,Q,I,r,e,k=>by cases e
theorem c0s{K:Frag}{is:List Nat}{n:Nat}(hn:is.length=n):TgD K (gTup K n (gAll is)) (g2T is):=fun Y F H σ ρ ρ' δ d v Q I r e k=>by
 unfold g2T at e;split at e
 ·rename_i ds;obtain ⟨a,vs,rfl,ea,z⟩:=rep_tup.mp r;obtain ⟨h1,h2⟩:=h0u I z e k;exact ⟨a,vs,rfl,SqT.of (I.sub _ _ ea),by rw[h2,hn],h1⟩
 ·cases e
noncomputable def forL(g:G2)(body:TS2)(E:End2):List D→En→Dk→Prop
 | [],ρ,δ=>E.nx ρ δ
 |d::ds,ρ,δ=>match g d ρ with
  |some ρ'=>body {E with nx:=forL g body E ds,ct:=forL g body E ds,bk:=E.nx} ρ' δ
  |none=>False
noncomputable def e0h(ti:TI2)(g:G2)(body:TS2):TS2:=fun E ρ δ=>ti E.xc ρ δ fun ds ρ1 δ1=>forL g body E ds ρ1 δ1
section
variable{X:Cx}{Y:Y2}{W:XW}{tg iter:Expr}{pos:Pos}
theorem n8{body:List Stmt}{ti:TI2}{g:TG}{g2:G2}{tb:TS2}(hp:PassesOwn (model X.prog X.w) X.A X.env X.xe)(hc:X.calm=true)(hi:PI2 X Y W tg iter ti)(hg:PG X tg g)(hd:TgD X.K g g2)(hb:PSs2 X Y W body tb)
 (hs:∀x,foldedSetIterable iter X.env x=pure x:=by intro _;rfl):PS2 X Y W (.For tg iter body [] pos) (e0h ti g2 tb):=ps2 (ps_for hp hc hi.go hg hb.go hs) fun E1 σ H ⟨F,ρ,δ,E2,I,h,er⟩=>by
 refine ⟨F,ρ,δ,E2.xc,_,I,h,fun ds J F1 H1 ρ1 δ1 I1 s1 src h1=>?_,er.xc⟩;refine ⟨fun i m σ H=>∃F' ρ' δ',I2 X.K Y F' H σ ρ' δ'∧Same F1 F'∧forL g2 tb E2 (ds.drop i) ρ' δ'∧i≤ds.length∧m=ds.length-i,⟨ds.length,F1,ρ1,δ1,I1,Same.refl F1,by simpa using h1,Nat.zero_le _,by simp⟩,?_⟩;rintro i m σ' H' ⟨F',ρ',δ',I',s',h',hi,rfl⟩;cases e:ds[i]? with
 |none=>
  have hl:ds.length≤i:=List.getElem?_eq_none_iff.mp e;have ei:i=ds.length:=by omega
  subst ei;rw[List.drop_length]at h';exact .inl ⟨src.stop F' H' s' I'.sub,er.nx σ' F' H' ρ' δ' I' (s1.trans s') h'⟩
 |some d=>
  have hl:i<ds.length:=(List.getElem?_eq_some_iff.mp e).1;obtain ⟨go,yl⟩:=src.item i d F' H' e s' I'.sub;refine .inr ⟨go,fun σ2 H2=>∃F2 ρ2 δ2,I2 X.K Y F2 H2 σ2 ρ2 δ2∧Same F1 F2∧forL g2 tb E2 (ds.drop (i+1)) ρ2 δ2,fun σ2 H2 ⟨F2,ρ2,δ2,I2',s2,h2⟩=>⟨ds.length-(i+1),by omega,F2,ρ2,δ2,I2',s2,h2,hl,rfl⟩,fun x H2 y=>?_⟩;obtain ⟨F2,I2',s2,r2,_⟩:=I'.yld (yl x H2 y);have ed:ds.drop i=d::ds.drop (i+1):=by rw[List.drop_eq_getElem_cons hl];congr 1;exact (List.getElem?_eq_some_iff.mp e).2
  rw[ed]at h';unfold forL at h';split at h'
  ·rename_i ρ3 e3;refine hd Y F2 H2 σ' ρ' ρ3 δ' d x _ I2' r2 e3 fun σ3 I3=>?_
   have sa:Same F1 F2:=s'.trans s2;refine ⟨F2,ρ3,δ',_,I3,h',⟨fun σ4 F4 H4 ρ4 δ4 I4 s4 h4=>⟨F4,ρ4,δ4,I4,sa.trans s4,h4⟩,fun d v σ4 F4 H4 ρ4 δ4 I4 s4=>er.rt d v σ4 F4 H4 ρ4 δ4 I4 ((s1.trans sa).trans s4),er.xc.mono (s1.trans sa),fun σ4 F4 H4 ρ4 δ4 I4 s4 h4=>er.nx σ4 F4 H4 ρ4 δ4 I4 ((s1.trans sa).trans s4) h4,fun σ4 F4 H4 ρ4 δ4 I4 s4 h4=>⟨F4,ρ4,δ4,I4,sa.trans s4,h4⟩⟩⟩
  ·exact h'.elim
noncomputable def v0h(tc:TT2)(tb:TS2)(E:End2):Nat→En→Dk→Prop
 | 0,_,_=>False
 |n+1,ρ,δ=>tc E.xc ρ δ fun b ρ1 δ1=>if b=true then tb {E with nx:=v0h tc tb E n,ct:=v0h tc tb E n,bk:=E.nx} ρ1 δ1 else E.nx ρ1 δ1
noncomputable def a0n(tc:TT2)(tb:TS2):TS2:=fun E ρ δ=>∃n,v0h tc tb E n ρ δ
theorem l0c{c:Expr}{body:List Stmt}{tc:TT2}{tb:TS2}(hp:PassesOwn (model X.prog X.w) X.A X.env X.xe)(hc:PT2 X Y W c tc)(hb:PSs2 X Y W body tb):PS2 X Y W (.While c body [] pos) (a0n tc tb):=ps2 (f0t hp hc.go hb.go) fun E1 σ H ⟨F,ρ,δ,E2,I,h,er⟩=>by
 obtain ⟨n,h⟩:=h;refine ⟨fun m σ H=>∃F' ρ' δ',I2 X.K Y F' H σ ρ' δ'∧Same F F'∧v0h tc tb E2 m ρ' δ',⟨n,F,ρ,δ,I,Same.refl F,h⟩,?_⟩;rintro m σ' H' ⟨F',ρ',δ',I',s',h'⟩;cases m with
 |zero=>exact h'.elim
 |succ m=>
  refine ⟨F',ρ',δ',E2.xc,_,I',h',fun b F2 H2 ρ2 δ2 I2' s2 h2=>?_,er.xc.mono s'⟩;have sa:=s'.trans s2;cases b with
  |false=>dsimp only at h2 ⊢; rw[if_neg Bool.false_ne_true]at h2 ⊢; exact er.nx σ' F2 H2 ρ2 δ2 I2' sa h2
  |true=>
   dsimp only at h2 ⊢;rw[if_pos rfl]at h2 ⊢;refine ⟨fun σ3 H3=>∃F3 ρ3 δ3,I2 X.K Y F3 H3 σ3 ρ3 δ3∧Same F F3∧v0h tc tb E2 m ρ3 δ3,fun σ3 H3 h3=>⟨m,Nat.lt_succ_self m,h3⟩,?_⟩;exact ⟨F2,ρ2,δ2,_,I2',h2,⟨fun σ4 F4 H4 ρ4 δ4 I4 s4 h4=>⟨F4,ρ4,δ4,I4,sa.trans s4,h4⟩,fun d v σ4 F4 H4 ρ4 δ4 I4 s4=>er.rt d v σ4 F4 H4 ρ4 δ4 I4 (sa.trans s4),er.xc.mono sa,fun σ4 F4 H4 ρ4 δ4 I4 s4 h4=>er.nx σ4 F4 H4 ρ4 δ4 I4 (sa.trans s4) h4,fun σ4 F4 H4 ρ4 δ4 I4 s4 h4=>⟨F4,ρ4,δ4,I4,sa.trans s4,h4⟩⟩⟩
end
section
variable{K:Frag}{Y:Y2}{F H:Hp}{σ:St}{ρ:En}{δ:Dk}
theorem I2.side{D:Addr}{o:HO}(I:I2 K Y F H σ ρ δ)(hF:F D=none)(h0:Y.H₀ D=none)(hd:Off δ D)(hD:∃vs,H D=some (.lst vs))(no:∀j a,h7 ρ σ j a→a≠D):I2 K Y F (upd H D o) σ ρ δ:=by
 obtain ⟨vs,hD⟩:=hD;refine ⟨⟨fun b u e=>?_,fun b fs e=>?_,fun b u e f=>?_,I.ran.f0,I.ran.fnew,I.ran.dto⟩,fun j c e=>?_,I.len,I.apart,I.off⟩
 ·rw[u0 (l0 e hF)];exact I.sub _ _ e
 ·obtain ⟨q1,ws,q2,q3⟩:=I.ran.dk b fs e;exact ⟨q1,ws,by rw[u0 (Ne.symm (hd b fs e))];exact q2,q3⟩
 ·rw[u0 (l0 e h0)];exact I.ran.keep b u e f
 ·have w:=I.env j c e;cases c with
  |no=>trivial
  |val d=>exact w
  |own fs=>
   obtain ⟨b,ws,e1,h1,f1,g1,r1⟩:=w;exact ⟨b,ws,e1,by rw[u0 (no j b ⟨.inl ⟨fs,e⟩,v4 e1⟩)];exact h1,f1,g1,r1⟩
  |obj C fs=>
   obtain ⟨b,dx,ws,e1,es1,h1,h2,f1,f2,g1,g2,r1⟩:=w;have nd:dx≠D:=fun w=>by rw[w,hD]at h2;cases h2
   exact ⟨b,dx,ws,e1,es1,by rw[u0 (no j b ⟨.inr (.inl ⟨C,fs,e⟩),v4 e1⟩)];exact h1,by rw[u0 nd];exact h2,f1,f2,g1,g2,r1⟩
  |ownD fs=>
   obtain ⟨b,ws,e1,h1,f1,g1,r1⟩:=w;exact ⟨b,ws,e1,by rw[u0 (no j b ⟨.inr (.inr ⟨fs,e⟩),v4 e1⟩)];exact h1,f1,g1,r1⟩
theorem I2.ice{D:Addr}{vs:List V}(I:I2 K Y F H σ ρ δ)(hF:F D=none)(h0:Y.H₀ D=none)(hd:Off δ D)(hD:H D=some (.lst vs))(no:∀j a,h7 ρ σ j a→a≠D):I2 K Y (upd F D (.lst vs)) H σ ρ δ:=by
 refine ⟨⟨fun b u e=>?_,fun b fs e=>?_,I.ran.keep,fun b u e=>?_,fun b u e=>?_,I.ran.dto⟩,fun j c e=>?_,I.len,I.apart,I.off⟩
 ·by_cases z:b=D
  ·subst z;rw[o3]at e;cases e;exact hD
  ·rw[u0 z]at e;exact I.sub _ _ e
 ·obtain ⟨q1,ws,q2,q3⟩:=I.ran.dk b fs e;exact ⟨by rw[u0 (Ne.symm (hd b fs e))];exact q1,ws,q2,q3.mono (Same.new hF)⟩
 ·rw[u0 (l0 (I.ran.f0 b u e) hF)];exact I.ran.f0 b u e
 ·by_cases z:b=D
  ·subst z;exact .inr h0
  ·rw[u0 z]at e;exact I.ran.fnew b u e
 ·have w:=I.env j c e;cases c with
  |no=>trivial
  |val d=>obtain ⟨u,e1,r1⟩:=w;exact ⟨u,e1,r1.mono (Same.new hF)⟩
  |own fs=>
   obtain ⟨b,ws,e1,h1,f1,g1,r1⟩:=w;exact ⟨b,ws,e1,h1,by rw[u0 (no j b ⟨.inl ⟨fs,e⟩,v4 e1⟩)];exact f1,g1,r1.mono (Same.new hF)⟩
  |obj C fs=>
   obtain ⟨b,dx,ws,e1,es1,h1,h2,f1,f2,g1,g2,r1⟩:=w;have nd:dx≠D:=fun w=>by rw[w,hD]at h2;cases h2
   exact ⟨b,dx,ws,e1,es1,h1,h2,by rw[u0 (no j b ⟨.inr (.inl ⟨C,fs,e⟩),v4 e1⟩)];exact f1,by rw[u0 nd];exact f2,g1,g2,r1.mono (Same.new hF)⟩
  |ownD fs=>
   obtain ⟨b,ws,e1,h1,f1,g1,r1⟩:=w;exact ⟨b,ws,e1,h1,by rw[u0 (no j b ⟨.inr (.inr ⟨fs,e⟩),v4 e1⟩)];exact f1,g1,r1.mono (Same.new hF)⟩
theorem I2.ownAddr{j:Nat}{a:Addr}(I:I2 K Y F H σ ρ δ)(o:h7 ρ σ j a):∃u,H a=some u:=by
 rcases o.1 with ⟨ds,q⟩|⟨C,fs,q⟩|⟨kvs,q⟩
 rotate_left 2
 ·obtain ⟨b,us,e,hb,_⟩:=I.env j _ q;rw[o.2]at e;cases e;exact ⟨_,hb⟩
 ·obtain ⟨b,us,e,hb,_⟩:=I.env j _ q;rw[o.2]at e;cases e;exact ⟨_,hb⟩
 ·obtain ⟨b,dx,us,e,es0,hb,_⟩:=I.env j _ q;rw[o.2]at e;cases e;exact ⟨_,hb⟩
noncomputable def o0t:Option Cell→Cell |some (.val d)=>.val d |_=>.no
noncomputable def capt(ρ:En)(js:List Nat):En:=js.map fun j=>o0t ρ[j]?
noncomputable def w0d(te:TE2)(js:List Nat)(ρ:En)(q:List D→Dk→Prop):List D→List D→Dk→Prop
 | [],acc,δ=>q acc δ
 |d::ds,acc,δ=>te (fun _ _ _ _=>False) (.val d::capt ρ js) δ fun e _ δ1=>acc.length<1000∧w0d te js ρ q ds (acc++[e]) δ1
end
section
variable{X:Cx}{Y:Y2}{W:XW}{x:Str}{px pos:Pos}{elt iter:Expr}{js:List Nat}{scope:Scope}{te:TE2}{ti:TI2}
noncomputable def teY(K:Frag)(te:TE2):TE:=fun σ H Q=>∃Y',upE K Y' W0 te σ H Q
variable{i:Nat}{y:Str}{py spos:Pos}
noncomputable def t2Comp(ti:TI2)(js:List Nat)(te:TE2):TE2:=fun x ρ δ q=>ti x ρ δ fun ds ρ1 δ1=>w0d te js ρ1 (fun acc δ2=>q (.lst acc) ρ1 δ2) ds [] δ1
noncomputable def t2OwnC(i:Nat)(ti:TI2)(js:List Nat)(te:TE2):TS2:=fun E ρ δ=>ti E.xc ρ δ fun ds ρ1 δ1=>w0d te js ρ1 (fun acc δ2=>E.nx (ρ1.set i (.own acc)) δ2) ds [] δ1
end
section
variable{X:Cx}{Y:Y2}{W:XW}{pos:Pos}
theorem I2.deck{K:Frag}{F H:Hp}{σ:St}{ρ:En}{p:Addr}{ds:List D}{vs:List V}(I:I2 K Y F H σ ρ none)(h:H p=none)(r:Reps K F ds vs):I2 K Y F (upd H p (.lst vs)) σ ρ (some (p,ds)):=by
 have hF:F p=none:=I.sub.free h;have h0:=I.ran.fresh h;have n0:Y.δ₀=none:=by
  cases hd:Y.δ₀ with
  |none=>rfl
  |some q=>
   obtain ⟨a,gs⟩:=q;obtain ⟨es,z⟩:=I.ran.dto.1 a gs hd;cases z
 refine ⟨⟨fun b u e=>by rw[u0 (l0 e hF)];exact I.sub _ _ e,fun a es e=>(by cases e;exact ⟨hF,vs,o3,r⟩),fun b u e f=>by rw[u0 (l0 e h0)];exact I.ran.keep b u e f,I.ran.f0,I.ran.fnew,⟨fun a gs e=>(by rw[n0]at e;cases e),fun a gs e _=>(by cases e;exact h0)⟩⟩,fun j c e=>?_,I.len,I.apart,fun j a o b es e=>?_⟩
 ·have w:=I.env j c e;cases c with
  |no=>trivial
  |val d=>exact w
  |own fs=>
   obtain ⟨b,ws,e1,h1,f1,g1,r1⟩:=w;exact ⟨b,ws,e1,by rw[u0 (l0 h1 h)];exact h1,f1,g1,r1⟩
  |obj C fs=>
   obtain ⟨b,dx,ws,e1,es1,h1,h2,f1,f2,g1,g2,r1⟩:=w;exact ⟨b,dx,ws,e1,es1,by rw[u0 (l0 h1 h)];exact h1,by rw[u0 (l0 h2 h)];exact h2,f1,f2,g1,g2,r1⟩
  |ownD fs=>
   obtain ⟨b,ws,e1,h1,f1,g1,r1⟩:=w;exact ⟨b,ws,e1,by rw[u0 (l0 h1 h)];exact h1,f1,g1,r1⟩
 ·cases e;obtain ⟨u,hu⟩:=I.ownAddr o;exact l0 hu h
noncomputable def a0m(ta:TA2):TS2:=fun E ρ δ=>ta E.xc ρ δ fun ds ρ1 δ1=>δ1=none∧ds.length≤1000∧∀p,E.rt (.ref p) (some (p,ds))
theorem e2_new{e:Expr}{o:HO}{d:D}(h:PE X e (fun σ H Q=>∀p,H p=none→Q (.ref p) (upd H p o)))(r:∀F p,Rep X.K (upd F p o) d (.ref p)):PE2 X Y W e (t2C d):=pe2 h fun σ H Q ⟨F,ρ,δ,x,q,I,h,k,kx⟩=>fun p hp=>
 k _ _ _ _ ρ δ (I.alloc hp) (I.grow hp) (r F p) h
noncomputable def o0s(xs:List D)(y:D):Nat:=xs.countP fun z=>eqV (toV z) (toV y)
noncomputable def q0v(ta:TE2)(t:TA2):TE2:=fun x ρ δ q=>ta x ρ δ fun d ρ1 δ1=>match d with
 | .lst xs=>t x ρ1 δ1 fun es ρ2 δ2=>(match es with | [y]=>(m7 y&&xs.all m7)=true∧q (.int (o0s xs y:Nat)) ρ2 δ2 |_=>False)
 |_=>False
theorem e0g{o e:Expr}{es:List Expr}{ta:TE2}{t:TA2}{apos cpos:Pos}(ho:PE2 X Y W o ta)(ha:PA2 X Y W (e::es) t)(hbase:attributeBase o "count" X.env (eval o X.env)=eval o X.env:=by rfl)
 (hfew:((backTo cpos (starEach (e::es) X.env)).all (fun x=>!x.1)&&(backToKw cpos (keywordEach [] X.env)).all (fun x=>x.1.isSome)
  &&decide ((e::es).length+([]:List Keyword).length+(if ([]:List Keyword).isEmpty then 0 else 1)<30))=true:=by rfl)
 (hline:(apos.endLine==cpos.line)=true:=by rfl) (hs:starEach (e::es) X.env=(false,eval e X.env)::starEach es X.env:=by exact x6 rfl) (hplain:(backTo cpos (starEach es X.env)).any (·.1)=false:=by exact l7 rfl):
 PE2 X Y W (.Call (.Attribute o "count" apos) (e::es) [] cpos) (q0v ta t):=pe2 (pe_bm PySem.F.plainAttrs_list PySem.F.slot_list_count PySem.F.type_list_count f0h ho.go ha.go hbase hfew hline hs hplain) fun σ H Q ⟨F,ρ,δ,x,q,I,h,k,kx⟩=>by
 refine ⟨F,ρ,δ,x,_,I,h,fun d v F1 H1 ρ1 δ1 I1 s1 r1 h1=>?_,kx⟩;cases d with
 |lst xs=>
  obtain ⟨a,vs,rfl,ea,z⟩:=rep_lst.mp r1;refine ⟨.inl ⟨rfl,vs,SqL.of (I1.sub _ _ ea)⟩,F1,ρ1,δ1,x,_,I1,h1,fun es us F2 H2 ρ2 δ2 I2' s2 r2 h2=>?_,kx.mono s1⟩;split at h2
  ·rename_i y;obtain ⟨hf,h2⟩:=h2;rw[Bool.and_eq_true]at hf;obtain ⟨u,rfl,ru⟩:=y0u r2;obtain ⟨e1,e2⟩:=c0w hf.1 ru;obtain ⟨e3,e4⟩:=k9 hf.2 (z.mono s2);refine ⟨a,vs,u,rfl,rfl,I2'.sub _ _ (s2 _ _ ea),e2,e4,?_⟩;have ec:(vs.countP fun z=>eqV z u)=o0s xs y:=by rw[e1,e3,List.countP_map];rfl
   rw[ec];exact k _ _ F2 H2 ρ2 δ2 I2' (s1.trans s2) (rep_int.mpr rfl) h2
  ·exact h2.elim
 |_=>exact h1.elim
end
end DL
namespace DL
open PySem PySem.Spec L2
open PySem.W (XC)
section
variable{X:Cx}{Y:Y2}{W:XW}{pos:Pos}
theorem n0f:PE2 X Y W (.Dict [] [] pos) (t2C (.dic [])):=e2_new f0j fun F p=>rep_dic.mpr ⟨p,[],rfl,o3,by unfold RepK;rfl⟩
end
section
variable(K:Frag)
open PySem.W (kitOne kitAny)
theorem ko{n:String}(h:n∈BT):kitOne K (.type n) (.type "bool")=some (n=="bool")∧kitOne K (.type n) (.type "int")=some (n=="int"||n=="bool")∧
 kitOne K (.type n) (.type "list")=some (n=="list")∧kitOne K (.type n) (.type "tuple")=some (n=="tuple")∧kitAny K (.type n) [.type "list",.type "tuple"]=some (n=="list"||n=="tuple"):=kt_all K h
theorem h0t{d:D}(h:TyD K d)(hp:∀C fs,d≠.ins C fs∧d≠.exc C fs):s0c K d (.ty "bool")=some (match d with | .bl _=>true |_=>false):=by
 cases d with
 |non=>exact (ko K (n:="NoneType") (by decide)).1
 |bl b=>exact (ko K (n:="bool") (by decide)).1
 |int b=>exact (ko K (n:="int") (by decide)).1
 |str b=>exact (ko K (n:="str") (by decide)).1
 |lst b=>exact (ko K (n:="list") (by decide)).1
 |tup b=>exact (ko K (n:="tuple") (by decide)).1
 |scr b=>exact h.elim
 |dic b=>exact (ko K (n:="dict") (by decide)).1
 |dwk b=>exact h.elim
 |ins C b=>exact absurd rfl (hp C b).1
 |exc C b=>exact absurd rfl (hp C b).2
 |ref a=>exact h.elim
 |ty a=>exact h.elim
theorem ko_int{d:D}(h:TyD K d)(hp:∀C fs,d≠.ins C fs∧d≠.exc C fs):s0c K d (.ty "int")=some (match d with | .bl _=>true | .int _=>true |_=>false):=by
 cases d with
 |non=>exact (ko K (n:="NoneType") (by decide)).2.1
 |bl b=>exact (ko K (n:="bool") (by decide)).2.1
 |int b=>exact (ko K (n:="int") (by decide)).2.1
 |str b=>exact (ko K (n:="str") (by decide)).2.1
 |lst b=>exact (ko K (n:="list") (by decide)).2.1
 |tup b=>exact (ko K (n:="tuple") (by decide)).2.1
 |scr b=>exact h.elim
 |dic b=>exact (ko K (n:="dict") (by decide)).2.1
 |dwk b=>exact h.elim
 |ins C b=>exact absurd rfl (hp C b).1
 |exc C b=>exact absurd rfl (hp C b).2
 |ref a=>exact h.elim
 |ty a=>exact h.elim
theorem ko_row{d:D}(h:TyD K d)(hp:∀C fs,d≠.ins C fs∧d≠.exc C fs):s0c K d (.tup [.ty "list",.ty "tuple"])=some (match d with | .lst _=>true | .tup _=>true |_=>false):=by
 cases d with
 |non=>exact (ko K (n:="NoneType") (by decide)).2.2.2.2
 |bl b=>exact (ko K (n:="bool") (by decide)).2.2.2.2
 |int b=>exact (ko K (n:="int") (by decide)).2.2.2.2
 |str b=>exact (ko K (n:="str") (by decide)).2.2.2.2
 |lst b=>exact (ko K (n:="list") (by decide)).2.2.2.2
 |tup b=>exact (ko K (n:="tuple") (by decide)).2.2.2.2
 |scr b=>exact h.elim
 |dic b=>exact (ko K (n:="dict") (by decide)).2.2.2.2
 |dwk b=>exact h.elim
 |ins C b=>exact absurd rfl (hp C b).1
 |exc C b=>exact absurd rfl (hp C b).2
 |ref a=>exact h.elim
 |ty a=>exact h.elim
end
noncomputable def u4:D→Bool
 | .non=>true | .bl _=>true | .int _=>true | .str _=>true | .lst _=>true | .tup _=>true | .dic _=>true |_=>false
theorem l0b{K:Frag}{d:D}(h:u4 d=true):TyD K d∧∀C fs,d≠.ins C fs∧d≠.exc C fs:=by
 cases d with
 |scr b=>cases h
 |dwk b=>cases h
 |ins C b=>cases h
 |exc C b=>cases h
 |ref a=>cases h
 |ty a=>cases h
 |_=>exact ⟨trivial,fun C fs=>⟨(by intro z;cases z),(by intro z;cases z)⟩⟩
noncomputable def u3:D→Int→Int→Bool
 | .int i,lo,hi=>decide (lo≤i)&&decide (i≤hi)
 |_,_,_=>false
end DL
namespace DL
open PySem PySem.Spec L2
section
variable{X:Cx}{Y:Y2}{W:XW}{pos:Pos}{a:Expr}{ta:TE2}
theorem a0l{x:Str}{n:Int}(hm:∃t,X.mg x=some (.int n t))(hg:Gl X x:=by rfl)(hd:(x==("__debug__":Str))=false:=by decide):PE2 X Y W (.Name x pos) (t2C (.int n)):=by
 obtain ⟨t,hm⟩:=hm;exact e2_gi hm ⟨t,rfl⟩ hg hd
theorem w0c(K:Frag){f:Str}(ha:PE2 X Y W a ta)(hK:X.K=K:=by rfl)(hb:attributeBase a f X.env (eval a X.env)=eval a X.env:=by rfl):PE2 X Y W (.Attribute a f pos) (i0b K f ta):=hK▸e2_fld ha hb
variable{x:Str}{p:Pos}{e:Expr}{te:TE2}
theorem u0h(K:Frag)(i:Nat){f:Str}{tpos:Pos}(he:PE2 X Y W e te)(hK:X.K=K:=by rfl)(hN:X.N[i]?=some x:=by rfl)(hv:Vis X.env.scope x:=by walk_at "v3")(hd:(x==("__debug__":Str))=false:=by decide)(hcd:(x==("__classdict__":Str))=false:=by decide)
 (hs:swapsWith e (some (.Attribute (.Name x p) f tpos)) pos.line X.env=pure false:=by rfl):PS2 X Y W (.Assign [.Attribute (.Name x p) f tpos] e pos) (o0w K i f te):=hK▸a0q i he hN hv hd hcd hs
variable{D:Addr}{y n:Str}{np:Pos}{b₀:Stmt}{suite:List Stmt}{rest:List ExceptHandler}{ts:TS2}{tr:XTS2}
theorem h0s(K:Frag)(i:Nat)(tp:Top X)(d:XHd K D)(hm:X.mg y=some (.ref D))(hN:X.N.Nodup)(hs:∀x,PSs2 (X.hdl x) Y W0 (b₀::suite) ts)(hr:PH2 X Y W rest tr)(hK:X.K=K:=by rfl)(hi:X.N[i]?=some n:=by rfl)(hk:X.env.scope.names.lookup n=some .local:=by rfl)(hg:Gl X y:=by rfl)(hdb:(y==("__debug__":Str))=false:=by decide):
 PH2 X Y W (.ExceptHandler (some (.Name y np)) (some n) (b₀::suite) pos::rest) (o0u K i D ts tr):=by subst hK;exact h2_as i tp d hm hN hs hr hi hk hg hdb
end
end DL
namespace DL
open L2
theorem n0e{α:Type}(l:List α)(k:Nat):atI l (no_index (OfNat.ofNat k))=l[k]?:=by
 have e:(OfNat.ofNat k:Int)=((k:Nat):Int):=rfl;rw[e];unfold atI ixN;rw[if_pos (by omega)];by_cases h:k<l.length
 ·rw[if_pos (by omega)];show l[((k:Nat):Int).toNat]?=_;rw[Int.toNat_natCast]
 ·rw[if_neg (by omega),List.getElem?_eq_none (by omega)];rfl
end DL
namespace DL
open PySem PySem.Spec L2
noncomputable def z0t(g:G2)(body:TS2)(E:End2)(rest:En→Dk→Prop)(d:D)(ρ:En)(δ:Dk):Prop:=match g d ρ with
 |some ρ'=>body {E with nx:=rest,ct:=rest,bk:=E.nx} ρ' δ
 |none=>False
theorem w6{g:G2}{body:TS2}{E:End2}{ρ:En}{δ:Dk}{ds:List D}(P:Nat→En→Dk→Prop)(h0:P 0 ρ δ)
 (step:∀(i:Nat) (d:D) (ρ:En) (δ:Dk) (rest:En→Dk→Prop),ds[i]?=some d→P i ρ δ→(∀ ρ' δ',P (i+1) ρ' δ'→rest ρ' δ')→z0t g body E rest d ρ δ) (fin:∀ ρ δ,P ds.length ρ δ→E.nx ρ δ):forL g body E ds ρ δ:=by
 have key:∀(k i:Nat) (ρ:En) (δ:Dk),i+k=ds.length→P i ρ δ→forL g body E (ds.drop i) ρ δ:=by
  intro k
  induction k with
  |zero=>
   intro i ρ δ hi p;rw[List.drop_eq_nil_of_le (by omega)];have:i=ds.length:=by omega
   subst this;exact fin ρ δ p
  |succ k ih=>
   intro i ρ δ hi p;have hl:i<ds.length:=by omega
   rw[List.drop_eq_getElem_cons hl];have:=step i ds[i] ρ δ (forL g body E (ds.drop (i+1))) (by simp[hl]) p fun ρ' δ' p'=>ih (i+1) ρ' δ' (by omega) p'
   unfold z0t at this;unfold forL;exact this
 have:=key ds.length 0 ρ δ (by omega) h0
 rwa[List.drop_zero]at this
theorem l0a{te:TE2}{js:List Nat}{ρ:En}{q:List D→Dk→Prop}{ds:List D}{acc:List D}{δ:Dk}(P:Nat→List D→Dk→Prop)(h0:P 0 acc δ)
 (step:∀(i:Nat) (d:D) (acc:List D) (δ:Dk) (rest:List D→Dk→Prop),ds[i]?=some d→P i acc δ→(∀acc' δ',P (i+1) acc' δ'→rest acc' δ')→te (fun _ _ _ _=>False) (.val d::capt ρ js) δ fun e _ δ1=>acc.length<1000∧rest (acc++[e]) δ1)
 (fin:∀acc δ,P ds.length acc δ→q acc δ):w0d te js ρ q ds acc δ:=by
 have key:∀(k i:Nat) (acc:List D) (δ:Dk),i+k=ds.length→P i acc δ→w0d te js ρ q (ds.drop i) acc δ:=by
  intro k
  induction k with
  |zero=>
   intro i acc δ hi p;rw[List.drop_eq_nil_of_le (by omega)];have:i=ds.length:=by omega
   subst this;exact fin acc δ p
  |succ k ih=>
   intro i acc δ hi p;have hl:i<ds.length:=by omega
   rw[List.drop_eq_getElem_cons hl];unfold w0d;exact step i ds[i] acc δ (fun acc' δ'=>w0d te js ρ q (ds.drop (i+1)) acc' δ') (by simp[hl]) p fun acc' δ' p'=>ih (i+1) acc' δ' (by omega) p'
 have:=key ds.length 0 acc δ (by omega) h0
 rwa[List.drop_zero]at this
theorem o0r{K:Frag}{F:Hp}:∀ns:List Int,Reps K F (ns.map D.int) (ns.map V.int)
 | []=>Reps.nil
 |n::ns=>Reps.cons (rep_int.mpr rfl) (o0r ns)
noncomputable def j0z:Sp2:=fun ds δ q _=>∃ns:List Int,ds=[.scr (ns.map D.int)]∧ns.length≤63∧δ=none∧∀ δ',q (.bl true) δ'
theorem walk2{l:PySem.W.OpenLaw}{k:Nat}{q:Program}{loose:List Str}{XP:(Str→Option Value)→Heap→Prop}{YP:World→Heap→Prop}{d:DefRec}{K:Params→PySem.W.Frag}{x:Str}(hn:l.most=some 63)(hdf:d.params.defaults=[])(hr:Room k callerA)
 (hY:∀(w:World) (h:Heap),YP w h→(K w.params).In h)
 (F:∀(w:World) (mg:Str→Option Value) (fa:Addr) (h:Heap),(K w.params).In h→h.Ns mainGlobals mg→mg d.name=some (.ref fa)→
  ∃fd:FuncData,(∀(s:Shared) (u:Value),BindsTo s fd ⟨[u],[]⟩ [(x,u)])∧∀base:Heap,(K w.params).In base→base.Ns mainGlobals mg→FnOk l.prog w (K w.params) mg base (CX1 l.prog w) k fa fd [x] (upF (K w.params) j0z)):
 PySem.W.WalkO q loose XP YP l.row.toRowW d [] (fun f vs=>PySem.call f vs):=
 L2.walk_of (n:=63) (k:=k) (x:=x) (CX:=fun w=>CX1 l.prog w) (sp:=fun w=>upF (K w.params) j0z) hn (by decide) hdf hr hY F
  (fun w H a ns hl _ hS=>⟨H,[.scr (ns.map D.int)],none,fun d _=>d=.bl true,fun _ _ _=>False,Same.refl H,fun a ds e=>(by cases e),Reps.cons (rep_scr.mpr ⟨a,_,rfl,hS,o0r ns⟩) Reps.nil,⟨ns,rfl,hl,rfl,fun _=>rfl⟩,
   fun d v F' H' δ' R r e=>(by subst e;exact rep_bl.mp r),fun _ _ _ _ _ _ _ _ z=>z⟩)
  fun w H s e s' ⟨_,_,_,_,_,_,_,_,_,_,_,_,_,_,z⟩=>z
end DL
namespace L2
open PySem PySem.Spec PyProof.Rows
section
variable{prog:Program}{w:World}{A:Around}{E:Value→Shared→Prop}{s:Shared}
theorem nx_tup{j t:Addr}{i:Nat}{xs:Array Value}{x:Value}{Q:Value→Shared→Prop}(hj:s.heap.IsTupleIter j t i)(ht:s.heap.IsTuple t xs)(hx:xs[i]?=some x)
 (hQ:∀h',h'.IsTupleIter j t (i+1)→Heap.SameBut j s.heap h'→Q x {s with heap:=h'}):wpAny (model prog w) A (Builtin.SmallTypes.nextOf (.ref j)) Q E s:=by
 obtain ⟨o,ho,hc,hd⟩:=id hj;obtain ⟨ot,hot,_,nt,hdt⟩:=ht;unfold Builtin.SmallTypes.nextOf;refine wpAny_bind (wpAny_callSpecial?_slot (name:=Str.ofString "__next__") hj.typeIs F.slot_tuple_iterator_next (wpAny_call_entry F.slot_tuple_iterator_next hj.typeIs F.entry_tuple_iterator_next ?_ (F.args_tuple_iterator_next_1 _)));show wpAny _ _ (field (.ref j) 0 >>= _) _ _ s;refine wpAny_bind (wpAny_field ho hd (x:=.ref t) rfl ?_);show wpAny _ _ (if ((Value.ref t)==Value.none)=true then _ else _) _ _ s;rw[if_neg (show ¬(((Value.ref t)==Value.none)=true)from Bool.false_ne_true)];show wpAny _ _ (field (.ref j) 1 >>= _) _ _ s;refine wpAny_bind (wpAny_field ho hd (x:=(.int i 0)) rfl ?_);refine wpAny_bind (m:=seqItems? (.ref t)) (wpAny_seqItems hot hdt ?_);simp only[Int.toNat_natCast,hx];refine wpAny_bind (wpAny_setField ho hd (by simp) (wpAny_pure ⟨x,rfl,wpAny_pure (hQ _ ⟨_,Heap.get?_update_self _ ho (Obj.isFreed_of_fields (Obj.data_mapFields hd _)),(Obj.cls_mapFields ..).trans hc,?_⟩ (Heap.SameBut.update ..))⟩));rw[Obj.data_mapFields hd];simp[rawInt]
theorem j0y{j t:Addr}{i:Nat}{xs:Array Value}{Q:Value→Shared→Prop}(hh:A.handled=none)(hj:s.heap.IsTupleIter j t i)(ht:s.heap.IsTuple t xs)(hx:xs[i]?=none)
 (hE:∀h' e,Heap.ExtBut j s.heap h'→(∃o,h'.get? e=some o∧o.cls=.type "StopIteration")→E (.ref e) {s with heap:=h'}):wpAny (model prog w) A (Builtin.SmallTypes.nextOf (.ref j)) Q E s:=by
 obtain ⟨o,ho,hc,hd⟩:=id hj;obtain ⟨ot,hot,_,nt,hdt⟩:=ht;unfold Builtin.SmallTypes.nextOf;refine wpAny_bind (wpAny_callSpecial?_slot (name:=Str.ofString "__next__") hj.typeIs F.slot_tuple_iterator_next (wpAny_call_entry F.slot_tuple_iterator_next hj.typeIs F.entry_tuple_iterator_next ?_ (F.args_tuple_iterator_next_1 _)));show wpAny _ _ (field (.ref j) 0 >>= _) _ _ s;refine wpAny_bind (wpAny_field ho hd (x:=.ref t) rfl ?_);show wpAny _ _ (if ((Value.ref t)==Value.none)=true then _ else _) _ _ s;rw[if_neg (show ¬(((Value.ref t)==Value.none)=true)from Bool.false_ne_true)];show wpAny _ _ (field (.ref j) 1 >>= _) _ _ s;refine wpAny_bind (wpAny_field ho hd (x:=(.int i 0)) rfl ?_);refine wpAny_bind (m:=seqItems? (.ref t)) (wpAny_seqItems hot hdt ?_);simp only[Int.toNat_natCast,hx];refine wpAny_bind (wpAny_rule (wpAny_bind (wpAny_setField ho hd (by simp) (wpAny_bind ?_))));simp only[newExc,newTuple];refine wpAny_bind (wpAny_newObj_type (wpAny_bind (m:=firstArgMember _ _) (wpAny_of_eq (a:=Value.none) (by first |rfl |(simp only[firstArgMember];rfl)) (wpAny_newObj_type ?_ (by size_fits)))) (by size_fits));simp only[raiseNew];refine wpAny_bind (wpAny_handled ?_)
 first |rw[show A.in1.handled=none from hh]|rw[hh]
 exact wpAny_bind (wpAny_pure (wpAny_throw (hE _ _ (((Heap.SameBut.update ..).extBut.push _).push _) ⟨_,Heap.get?_push_size _ rfl,rfl⟩)))
end
theorem h0r{prog:Program}{w:World}{A:Around}(hh:A.handled=none)(j t:Addr)(ne:t≠j)(xs:Array Value):
 Draws prog w A j [j,t] xs.size (fun i v=>xs[i]?=some v) (fun i h=>h.IsTupleIter j t i∧h.IsTuple t xs)where
 live:=fun _ _ st=>let ⟨o,ho,_⟩:=st.1;⟨o,ho⟩
 frame:=fun _ _ _ st k=>⟨st.1.at fun o e=>k j (by simp) o e,let ⟨o,e,r⟩:=st.2;⟨o,k t (by simp) o e,r⟩⟩
 item:=fun i s Q E hi st hQ=>nx_tup st.1 st.2 (x:=xs[i]) (by simp[hi]) fun h' st' sb=>hQ _ h' s.toks (by simp[hi]) ⟨st',let ⟨o,e,r⟩:=st.2;⟨o,sb.extBut _ _ ne e,r⟩⟩ sb
 done:=fun s Q E st hE=>j0y hh st.1 st.2 (by simp) hE
noncomputable def SqAt(b:Bool)(h:Heap)(l:Addr)(xs:Array Value):Prop:=match b with |true=>h.IsTuple l xs |false=>h.IsList l xs
noncomputable def ItAt(b:Bool)(h:Heap)(j l:Addr)(i:Nat):Prop:=match b with |true=>h.IsTupleIter j l i |false=>h.IsListIter j l i
noncomputable def itN(b:Bool):String:=match b with |true=>"tuple_iterator" |false=>"list_iterator"
theorem k0z(b:Bool){prog:Program}{w:World}{A:Around}(hh:A.handled=none)(j l:Addr)(ne:l≠j)(xs:Array Value):
 Draws prog w A j [j,l] xs.size (fun i v=>xs[i]?=some v) (fun i h=>ItAt b h j l i∧SqAt b h l xs):=by
 cases b
 ·exact Draws.list hh j l ne xs
 ·exact h0r hh j l ne xs
theorem ItAt.obj{b:Bool}{h:Heap}{j l:Addr}{i:Nat}(q:ItAt b h j l i):∃o,h.get? j=some o∧o.cls=.type (itN b)∧o.data=.fields #[.ref l,.int i 0]:=by
 cases b
 ·obtain ⟨o,e,c,d⟩:=q;exact ⟨o,e,c,d⟩
 ·obtain ⟨o,e,c,d⟩:=q;exact ⟨o,e,c,d⟩
theorem ItAt.of{b:Bool}{h:Heap}{j l:Addr}{i:Nat}{o:Obj}(e:h.get? j=some o)(c:o.cls=.type (itN b))(d:o.data=.fields #[.ref l,.int i 0]):ItAt b h j l i:=by
 cases b
 ·exact ⟨o,e,c,d⟩
 ·exact ⟨o,e,c,d⟩
theorem ItAt.stay{b:Bool}{h h':Heap}{j l:Addr}{i:Nat}(q:ItAt b h j l i)(k:∀o,h.get? j=some o→h'.get? j=some o):ItAt b h' j l i:=by
 obtain ⟨o,e,c,d⟩:=q.obj;exact .of (k o e) c d
theorem SqAt.obj{b:Bool}{h:Heap}{l:Addr}{xs:Array Value}(q:SqAt b h l xs):∃o,h.get? l=some o∧o.cls=.type (if b=true then "tuple" else "list")∧∃n,o.data=.seq xs n:=by
 cases b
 ·obtain ⟨o,e,c,n,d⟩:=q;exact ⟨o,e,c,n,d⟩
 ·obtain ⟨o,e,c,n,d⟩:=q;exact ⟨o,e,c,n,d⟩
theorem SqAt.stay{b:Bool}{h h':Heap}{l:Addr}{xs:Array Value}(q:SqAt b h l xs)(k:∀o,h.get? l=some o→h'.get? l=some o):SqAt b h' l xs:=by
 cases b
 ·obtain ⟨o,e,c,n,d⟩:=q;exact ⟨o,k o e,c,n,d⟩
 ·obtain ⟨o,e,c,n,d⟩:=q;exact ⟨o,k o e,c,n,d⟩
theorem a0k{b:Bool}{prog:Program}{w:World}{A:Around}{E:Value→Shared→Prop}{s:Shared}{l:Addr}{xs:Array Value}{Q:Value→Shared→Prop}(hl:SqAt b s.heap l xs)
 (h:Q (.ref s.heap.objs.size) {s with heap:=s.heap.push {cls:=.type (itN b),data:=.fields #[.ref l,.int 0 0]}}):wpAny (model prog w) A (pyIter (.ref l)) Q E s:=by
 cases b
 ·exact wpAny_pyIter_list hl h
 ·exact wpAny_pyIter_tuple hl h
end L2
namespace L2
open PySem PySem.Spec PyProof.Rows
open AutoSeq1 (wpAny_loadPart')
noncomputable abbrev enH(b:Bool)(h:Heap)(l:Addr):Heap:=h.push {cls:=.type (itN b),data:=.fields #[.ref l,.int 0 0]}
theorem h0q(l:Addr)(xs:Array Value)(n:Nat)(dct:Option Addr)(sl:Array (Option Value)):
 Meets (Builtin.«enumerate.__new__» ⟨[.type "enumerate",.ref l],[]⟩) (fun _ R s=>s.heap.get? l=some {cls:=.type "tuple",dict:=dct,data:=.seq xs n,slots:=sl}∧
  R (.ok (.ret (.ref (enH true s.heap l).objs.size))) {s with heap:=(enH true s.heap l).push {cls:=.type "enumerate",data:=.fields #[.none,.bool false,.ref s.heap.objs.size,rawInt 0,.none,.none]}}):=
 .of_wp fun prog w A R s h=>by
  obtain ⟨hp,g,d,tk,os⟩:=s;obtain ⟨hl,h⟩:=h;have hsub:=sub_enumerate;have hT:Heap.IsTuple (Shared.heap ⟨hp,g,d,tk,os⟩) l xs:=⟨_,hl,rfl,n,rfl⟩
  wp_walk using wpAny_loadPart' hl
  refine wpAny_stack_any fun st=>wpAny_pure ?_
  split
  ·rename_i c _ _ _ _ _;cases (c==Value.type "enumerate")<;>(wp_walk using wpAny_loadPart' hl,wpAny_pyIter_tuple hT;exact ⟨_,rfl,h⟩)
  ·wp_walk using wpAny_loadPart' hl,wpAny_pyIter_tuple hT
   exact ⟨_,rfl,h⟩
section
variable{prog:Program}{w:World}{A:Around}{E:Value→Shared→Prop}{s:Shared}
theorem e0f{l:Addr}{xs:Array Value}{Q:Value→Shared→Prop}(hT:s.heap.IsTuple l xs)
 (h:∀h',IsEnum h' (s.heap.objs.size+1) s.heap.objs.size 0 .none→h'.IsTupleIter s.heap.objs.size l 0→(∀b o,s.heap.get? b=some o→h'.get? b=some o)→Q (.ref (s.heap.objs.size+1)) {s with heap:=h'}):
 wpAny (model prog w) A (call (.type "enumerate") [.ref l]) Q E s:=by
 obtain ⟨⟨c,dct,dt,sl⟩,hl,hc,n,hd⟩:=hT;cases (show c=.type "tuple" from hc);cases (show dt=.seq xs n from hd);refine callType_new F.called_enumerate (by decide) (F.typeCall_enumerate_1 _) (F.newCall_enumerate_1 _) (fun obj=>F.args_object_init_2 obj _) F.entry_enumerate_new (h0q l xs n dct sl) ⟨hl,?_⟩;have hz:(enH true s.heap l).objs.size=s.heap.objs.size+1:=Heap.size_push ..;have he:=Heap.get?_push_size (enH true s.heap l) (o:={cls:=.type "enumerate",data:=.fields #[.none,.bool false,.ref s.heap.objs.size,rawInt 0,.none,.none]}) rfl;show _∧_;rw[hz]at he ⊢;exact ⟨⟨_,he,rfl⟩,h _ he ⟨_,Heap.get?_push_of_some _ (Heap.get?_push_size _ rfl),rfl,rfl⟩ fun b o x=>Heap.get?_push_of_some _ (Heap.get?_push_of_some _ x)⟩
theorem a0j{b:Bool}{l:Addr}{xs:Array Value}{Q:Value→Shared→Prop}(hq:SqAt b s.heap l xs)
 (h:∀h',IsEnum h' (s.heap.objs.size+1) s.heap.objs.size 0 .none→ItAt b h' s.heap.objs.size l 0→(∀b o,s.heap.get? b=some o→h'.get? b=some o)→Q (.ref (s.heap.objs.size+1)) {s with heap:=h'}):
 wpAny (model prog w) A (call (.type "enumerate") [.ref l]) Q E s:=by
 cases b
 ·exact call_enumerate_list hq fun h' a1 a2 _ a4=>h h' a1 a2 a4
 ·exact e0f hq fun h' a1 a2 a4=>h h' a1 a2 a4
end
section
variable{prog:Program}{w:World}{A:Around}{E:Value→Shared→Prop}{s:Shared}
structure ZA(z TI TO j1 j2:Addr):Prop where
 a:TI≠z
 b:TO≠z
 c:j1≠z
 d:j2≠z
 e:TI≠TO
 f:TI≠j1
 g:TI≠j2
 h:TO≠j1
 i:TO≠j2
 j:j1≠j2
end
end L2
namespace L2
open PySem PySem.Spec PyProof.Rows
section
variable{prog:Program}{w:World}{A:Around}{E:Value→Shared→Prop}{s:Shared}
end
theorem Inv.turnedL{X:Cx}{pins:List (Addr×Obj)}{σ:List (Option V)}{H:Hp}{s:Shared}{h':Heap}{t':Nat}{ch:List Addr}(I:Inv X pins σ H s)(k:∀b o,b∉ch→s.heap.get? b=some o→h'.get? b=some o)(hf:∀b∈ch,FpOk X pins H b):
 Inv X pins σ H {s with heap:=h',toks:=t'}:=by
 have nit:∀b u,H b=some u→b∉ch:=fun b u e z=>by rw[(hf b z).1]at e;cases e
 refine I.step (g':=s.gens) (d':=s.drawn) (ch:=ch) (fun b hb=>?_) (fun b o _ _ hc e _=>k b o hc e) (fun b o _ _ hc e _=>⟨o.slots,k b o hc e⟩) (fun _ _ _ _ n=>n)
  (fun b o hc e=>⟨o,k b o hc e⟩) (fun _ _ e=>e) (fun _ _ _ e=>e) (fun b ps e=>⟨#[],by rw[e];simp⟩) (fun m hm=>?_) (fun b u e=>?_) I.bare
 ·obtain ⟨_,f1,_,f3,f4,f5⟩:=hf b hb;exact ⟨f3,f1,f4,f5⟩
 ·obtain ⟨o,es,ep,ho,r⟩:=hm;exact ⟨o,es,ep,k _ o (fun z=>(hf _ z).2.1 rfl) ho,r⟩
 ·refine (I.hok b u e).stay (fun c v hc q=>k c v ?_ q) (fun _ q=>q) fun _ _ q=>q
  rcases hc with z |z
  ·rw[z];exact nit b u e
  ·exact nit c _ z
noncomputable def Sq(K:PySem.W.Frag)(b:Bool)(H:Hp)(a:Addr)(xs:List V):Prop:=match b with |true=>SqT K H a xs |false=>SqL K H a xs
theorem Inv.sq{b:Bool}{X:Cx}{pins:List (Addr×Obj)}{σ:List (Option V)}{H:Hp}{s:Shared}{a:Addr}{xs:List V}(I:Inv X pins σ H s)(h:Sq X.K b H a xs):∃its:List Value,Vals xs its∧SqAt b s.heap a its.toArray∧xs.length≤sizeLine:=by
 cases b
 ·obtain ⟨its,r,p,z⟩:=I.list h;exact ⟨its,r,p.isList,z⟩
 ·obtain ⟨its,r,p,z⟩:=I.tuple h;exact ⟨its,r,p,z⟩
theorem Inv.sq_inj{b:Bool}{X:Cx}{pins:List (Addr×Obj)}{σ:List (Option V)}{H:Hp}{s:Shared}{a:Addr}{xs ys:List V}(I:Inv X pins σ H s)(h:Sq X.K b H a xs)(h':Sq X.K b H a ys):xs=ys:=by
 cases b
 ·exact I.list_inj h h'
 ·exact I.tuple_inj h h'
end L2
namespace L2
open PySem PySem.Spec PyProof.Rows
noncomputable def Ite(K:PySem.W.Frag)(b:Bool)(a:Addr):It:=
 ⟨fun i H=>∃xs x,Sq K b H a xs∧xs[i]?=some x,
  fun i H v H'=>∃p x,H p=none∧v=.ref p∧H'=upd H p (.tup [.int i,x])∧∀xs,Sq K b H a xs→xs[i]?=some x,
  fun i H=>∃xs,Sq K b H a xs∧xs.length=i⟩
noncomputable def enumT(b:Bool)(a e j:Addr)(i:Nat)(h:Heap):Prop:=(∃old,IsEnum h e j (i:Int) old)∧ItAt b h j a i
theorem h0p{P:Program}{w:World}{K:PySem.W.Frag}{elts:List Expr}{x1}{pos:Pos}(b:Bool)(a e j:Addr)(hej:e≠j)(na:a≠e∧a≠j):
 Turn P w K (.Tuple elts x1 pos) (Ite K b a) [e,j] e (enumT b a e j)where
 mem:=by simp
 obj:=fun i h st c hc=>by
  obtain ⟨⟨old,he⟩,h1⟩:=st;have hc':c=e∨c=j:=by simpa using hc
  rcases hc' with rfl |rfl
  ·exact ⟨_,he,fun v q=>by simp at q⟩
  ·obtain ⟨o,e,_,d⟩:=h1.obj;exact ⟨o,e,fun v q=>by rw[d]at q;cases q⟩
 keep:=fun i h h' st k=>by
  obtain ⟨⟨old,he⟩,h1⟩:=st;exact ⟨⟨old,k e (by simp) _ he⟩,h1.stay fun o e=>k j (by simp) o e⟩
 item:=by
  intro X hP hw hK hc i pins s σ H E I hf st hg;subst hP hw hK;obtain ⟨xs,x,q1,e1⟩:=hg;obtain ⟨its1,r1,p1,z1⟩:=I.sq q1;obtain ⟨u1,g1,v1⟩:=r1.get e1;obtain ⟨⟨old,he⟩,h1⟩:=st;have l1:=(List.getElem?_eq_some_iff.mp g1).1;have hh:X.A.in1.handled=none:=I.ok.hd hc;have D1:=k0z b (prog:=X.prog) (w:=X.w) hh j a na.2 its1.toArray;refine wpAny_pyNext_enum_itemD D1 he ⟨h1,p1⟩ (by simpa using l1) hej (by simp[hej,na.1.symm]) fun x' h' tk px ho st1 hT' hsz kk=>⟨_,rfl,?_⟩
  have ex:x'=u1:=by
   have px':its1.toArray[i]?=some x':=px;rw[List.getElem?_toArray,g1]at px';exact (Option.some.inj px').symm
  subst ex;refine wpAny_letOwnedTupleGo_enum (s:={s with heap:=h',toks:=tk+1}) ho fun h₂ he₂ hs₂=>?_
  replace hs₂:Heap.SameBut e h' h₂:=hs₂;have hfr:H s.heap.objs.size=none:=I.hok.fresh (Nat.le_refl _);have Il:Inv X pins σ (upd H s.heap.objs.size (.tup [.int i,x])) {s with heap:=s.heap.push {cls:=.type "tuple",data:=.seq #[.int i tk,x']}}:=I.laid (t':=s.toks) (fun b u e=>Heap.get?_push_of_some _ e) (Nat.le_refl _)
   ⟨by show 2≤sizeLine;decide,[.int i tk,x'],.cons ⟨tk,rfl⟩ (.cons v1 .nil),⟨_,Heap.get?_push_size _ rfl,rfl,⟨_,rfl⟩,rfl⟩⟩
  have lt:∀{c o},s.heap.get? c=some o→c≠s.heap.objs.size:=fun e=>Nat.ne_of_lt (Heap.lt_size e)
  have nT:∀c∈[e,j],c≠s.heap.objs.size:=fun c hc=>by
   have hc':c=e∨c=j:=by simpa using hc
   rcases hc' with rfl |rfl
   ·exact lt he
   ·obtain ⟨o,e,_⟩:=h1.obj;exact lt e
  have hn2:∀c∈[e,j],upd H s.heap.objs.size (.tup [.int i,x]) c=none:=fun c hc=>by rw[u0 (nT c hc)];exact (hf c hc).1
  have If:Inv X pins σ (upd H s.heap.objs.size (.tup [.int i,x])) {s with heap:=h₂,toks:=tk+1}:=Inv.turnedL (s:={s with heap:=s.heap.push {cls:=.type "tuple",data:=.seq #[.int i tk,x']}}) (ch:=[e,j]) (h':=h₂) (t':=tk+1) Il (fun c o hc q=>by
   have hc':c≠e∧c≠j:=by simpa using hc
   rcases Heap.get?_push_cases q with ⟨rfl,rfl⟩|q
   ·exact hs₂.extBut _ _ hc'.1 hT'
   ·exact hs₂.extBut _ _ hc'.1 (kk c o hc'.1 hc'.2 q)) fun c hc=>⟨hn2 c hc,(hf c hc).2⟩
  refine ⟨.ref s.heap.objs.size,_,If,rfl,⟨s.heap.objs.size,x,hfr,rfl,rfl,fun zs hq=>by rw[I.sq_inj hq q1];exact e1⟩,?_,hn2⟩;exact ⟨⟨_,by simpa using he₂⟩,st1.1.stay fun o q=>hs₂.extBut _ _ hej.symm q⟩
 done:=by
  intro X hP hw hK hc i pins s σ H E I hf st hg;subst hP hw hK;obtain ⟨xs,q1,le⟩:=hg;obtain ⟨its1,r1,p1,z1⟩:=I.sq q1;obtain ⟨⟨old,he⟩,h1⟩:=st;have hh:X.A.in1.handled=none:=I.ok.hd hc;have D1:=k0z b (prog:=X.prog) (w:=X.w) hh j a na.2 its1.toArray;have len1:=r1.length;have en:its1.toArray.size=i:=by simp only[List.size_toArray];omega
  refine wpAny_pyNext_enum_endD D1 he ⟨by rw[en];exact h1,p1⟩ fun h' sb=>⟨rfl,?_⟩
  exact I.turnedL (ch:=[e,j]) (h':=h') (t':=s.toks) (fun c o hc q=>by
   have hc':c≠e∧c≠j:=by simpa using hc
   exact sb c o hc'.2 q) hf
 self:=fun A i s Q E st h=>let ⟨⟨_,he⟩,_⟩:=st;wpAny_pyIter_enum he h
theorem o0q:bootBuiltins "enumerate"=some (.type "enumerate"):=by decide +kernel
end L2
namespace L2
open PySem PySem.Spec PyProof.Rows
theorem o0p{prog:Program}{w:World}{A:Around}{R:Result→Shared→Prop}{s:Shared}{elt target iter:Expr}{ifs:List Expr}{scope:Scope}{pos:Pos}{it acc:Value}{env:Env}(I:Nat→Shared→Prop)
 (turn:∀n s,I n s→wpAny (model prog w) A (pyNext it) (fun r s₁=>match r with
  |none=>R (.ok .next) s₁
  |some v=>wpAny (model prog w) A (letOwnedTupleGo target it v) (fun _ s₁'=>wpAny (model prog w) A (assign target env v) (fun _ s₂=>
   wpAny (model prog w) A (forIn ifs true fun c r=>if r=true then do let ok←isTrue c env (eval c env);pure (ForInStep.yield ok)else pure (ForInStep.yield r)) (fun ok s₃=>
    if ok=true then wpAny (model prog w) A (eval elt env) (fun x s₄=>wpAny (model prog w) A (call (.builtin "list.append") [acc,x]) (fun _ s₅=>∃m,m<n∧I m s₅) (fun _ _=>False) s₄) (fun _ _=>False) s₃
    else ∃m,m<n∧I m s₃) (fun _ _=>False) s₂) (fun _ _=>False) s₁') (fun _ _=>False) s₁) (fun _ _=>False) s)
 (n:Nat) (h:I n s):codeAny (model prog w) A (.compLoop (.ListComp elt [⟨target,iter,ifs,0⟩] scope pos) 0 it acc env) R s:=by
 refine codeAny_loop rfl I (fun n s hI=>?_) n h;show wpAny _ _ ((compTurn (.ListComp elt [⟨target,iter,ifs,0⟩] scope pos) 0 it acc env).onRaise (fun y=>do noteFrame y env;theTreesLotGoes y)) _ _ s;refine wpAny_noted ?_;rw[compTurn_list];refine wpAny_bind (wpAny_standAt (wpAny_bind (wpAny_mono (turn n s hI) (fun r s₁ h₁=>?_) fun _ _ z=>z.elim)));cases r with
 |none=>exact wpAny_pure h₁
 |some v=>
  refine wpAny_bind (wpAny_mono h₁ (fun _ s₁' h₁'=>?_) fun _ _ z=>z.elim);refine wpAny_bind (wpAny_mono h₁' (fun _ s₂ h₂=>wpAny_bind (wpAny_mono h₂ (fun ok s₃ h₃=>?_) fun _ _ z=>z.elim)) fun _ _ z=>z.elim);cases ok with
  |false=>exact wpAny_pure ⟨rfl,h₃⟩
  |true=>exact wpAny_bind (wpAny_bind (wpAny_mono h₃ (fun x s₄ h₄=>wpAny_bind (wpAny_mono h₄ (fun _ s₅ h₅=>wpAny_pure (wpAny_pure ⟨rfl,h₅⟩)) fun _ _ z=>z.elim)) fun _ _ z=>z.elim))
noncomputable def Cx.compM(X:Cx)(xs:List Str)(js:List Nat)(scope:Scope)(cl:List (Str×Addr))(C:Addr)(s₀:Shared)(H₀:Hp)(fp:List Addr):Cx:=
 {X with N:=xs++js.map (fun j=>X.N.getD j ""),s₀:=s₀,H₀:=H₀,env:=compEnvC scope cl C X.env,outer:=X.stack,ex:=fp,fn:=fun _=>false,pn:=[],xe:=fun _ _=>False}
noncomputable def j9(σ:St)(js:List Nat):St:=js.map fun j=>(σ[j]?).join
structure CompOkM(X:Cx)(xs:List Str)(js:List Nat)(scope:Scope):Prop where
 kind:scope.kind=.function
 cell:∀y∈scope.names,y.2≠.cell
 loc:∀y∈scope.names,y.2=.local→scope.names.lookup y.1=some .local
 free:∀y∈scope.names,y.2=.free→X.env.kindOf y.1=some .cell∨X.env.kindOf y.1=some .free
 caps:∀j∈js,scope.names.lookup (X.N.getD j "")=some .free
 nd:(xs++js.map (fun j=>X.N.getD j "")).Nodup
noncomputable def k0y(names:List (Str×NameKind))(N xs:List Str)(js:List Nat)(scope:Scope):Bool:=
 (scope.kind== .function)&&(scope.names.all fun y=>(y.2 !=.cell)&&((y.2 !=.local)||scope.names.lookup y.1==some .local)&&((y.2 !=.free)||(names.lookup y.1==some .cell||names.lookup y.1==some .free)))&&
  (js.all fun j=>scope.names.lookup (N.getD j "")==some .free)&&decide ((xs++js.map (fun j=>N.getD j "")).Nodup)
theorem CompOkM.of{X:Cx}{scope:Scope}(xs:List Str)(js:List Nat)(h:k0y X.env.scope.names X.N xs js scope=true):CompOkM X xs js scope:=by
 unfold k0y at h;simp only[Bool.and_eq_true,List.all_eq_true,beq_iff_eq,bne_iff_ne,Bool.or_eq_true,decide_eq_true_eq]at h;obtain ⟨⟨⟨h1,h2⟩,h4⟩,h5⟩:=h;refine ⟨h1,fun y hy=>(h2 y hy).1.1,fun y hy e=>?_,fun y hy e=>?_,h4,h5⟩
 ·rcases (h2 y hy).1.2 with z |z
  ·exact absurd e z
  ·exact z
 ·rcases (h2 y hy).2 with z |z
  ·exact absurd e z
  ·exact z
section
variable{X:Cx}{pins:List (Addr×Obj)}{σ:St}{H:Hp}{s:Shared}
theorem h0o{xs:List Str}{js:List Nat}{scope:Scope}{cl:List (Str×Addr)}{fp:List Addr}{h':Heap}{tk:Nat}(I:Inv X pins σ H s)(S:CompOkM X xs js scope)
 (h1:∀y c,cl.lookup y=some c→X.env.cells.lookup y=some c) (h2:∀y,(y,NameKind.free)∈scope.names→∃c,cl.lookup y=some c)
 (hf:∀b∈fp,FpOk X pins H b) (hfl:∀b∈fp,b<s.heap.objs.size)
 (hn:h'.Ns s.heap.objs.size (fun _=>none)) (hk:∀b o,s.heap.get? b=some o→h'.get? b=some o):
 Inv (X.compM xs js scope cl s.heap.objs.size s H fp) [] (List.replicate xs.length none++j9 σ js) H {s with heap:=h',toks:=tk}:=by
 have e0:=I.env0;have hfree:H s.heap.objs.size=none:=I.hok.fresh (Nat.le_refl _);refine ⟨⟨I.ok.mod,S.kind,I.ok.glob,I.ok.blt,Nat.le_refl _,fun y z c a b=>I.ok.inj y z c (h1 y c a) (h1 z c b),fun y hy=>?_,(fun y c z=>by cases z),I.ok.hd,I.ok.frames,.inl rfl,fun b hb=>⟨Nat.ne_of_lt (hfl b hb),fun y c e=>(hf b hb).2.2.2.2.1 y c (h1 y c e)⟩,
  I.bs,Nat.le_trans I.ok.bsz I.sz,fun b o e hb=>?_,fun b hb z=>?_,I.stack,I.stkFree⟩,rfl,I.bare,Un.kept hk,⟨_,hn,fun i y v e1 e2 e3=>?_⟩,fun y c e=>?_,hfree,fun y c e=>I.freeC y c (h1 y c e),(fun p hp=>by cases hp),I.hok.kept hk,?_⟩
 ·have hy:(relabel scope X.env).names.lookup y=some .cell∨(relabel scope X.env).names.lookup y=some .free:=hy;rcases hy with hy |hy
  ·exact h2 y (y0q hy (.inl rfl) S.cell)
  ·exact h2 y (y0q hy (.inr rfl) S.cell)
 ·rcases (hf b hb).2.2.2.1 with z |z
  ·exact I.ok.noex b o e z
  ·exact absurd (Nat.lt_of_lt_of_le (Heap.lt_size e) (Nat.le_trans I.ok.bsz z)) (Nat.lt_irrefl _)
 ·have z:b∈frs X.stack:=z;rcases List.mem_cons.mp (I.stkSub b z)with q |q
  ·exact (hf b hb).2.1 q
  ·exact (hf b hb).2.2.1 q
 ·have e1:(xs++js.map (fun j=>X.N.getD j ""))[i]?=some y:=e1;by_cases hi:i<xs.length
  ·rw[List.getElem?_append_left (by simpa using hi),List.getElem?_replicate,if_pos hi]at e2;cases e2
  ·rw[List.getElem?_append_right (by omega)]at e1;rw[List.getElem?_append_right (by simp;omega)]at e2;simp only[List.length_replicate]at e2;generalize i-xs.length=i at e1 e2;unfold j9 at e2;rw[List.getElem?_map]at e1 e2;cases ej:js[i]? with
   |none=>rw[ej]at e1;cases e1
   |some j=>
    rw[ej]at e1 e2;have e1:X.N.getD j ""=y:=Option.some.inj e1;have e2:(σ[j]?).join=some v:=Option.some.inj e2;have hjm:j∈js:=List.mem_of_getElem? ej;have e2':σ[j]?=some (some v):=by
     cases q:σ[j]? with
     |none=>rw[q]at e2;cases e2
     |some o=>rw[q]at e2;cases o with
      |none=>cases e2
      |some v'=>cases e2;rfl
    have hjl:j<X.N.length:=by rw[←I.len];exact (List.getElem?_eq_some_iff.mp e2').1
    have eN:X.N[j]?=some y:=by
     rw[←e1,List.getD_eq_getElem?_getD,List.getElem?_eq_getElem hjl];rfl
    have hfr:scope.names.lookup y=some .free:=by rw[←e1];exact S.caps j hjm
    have hmem:(y,NameKind.free)∈scope.names:=PySem.mem_of_lookup hfr;obtain ⟨c,hc⟩:=h2 y hmem;have hXc:=h1 y c hc;have hkd:=S.free (y,.free) hmem rfl;obtain ⟨m,hm,hl⟩:=I.loc;have hvis:Vis X.env.scope y:=by rcases hkd with q |q;exact .inr (.inl q);exact .inr (.inr q)
    obtain ⟨u,r,l⟩:=hl j y v eN e2' hvis;refine ⟨u,r,.inr ⟨p0f hfr,c,hc,?_⟩⟩;rcases l with ⟨q,_⟩|⟨q,c',q1,q2⟩
    ·rcases hkd with z |z
     ·rw[z]at q;cases q
     ·rw[z]at q;cases q
    ·rw[hXc]at q1;cases q1;obtain ⟨o,ho,hd⟩:=q2;exact ⟨o,hk _ _ ho,hd⟩
 ·obtain ⟨v,o,ho,hd⟩:=I.cell y c (h1 y c e);exact ⟨v,o,hk _ _ ho,hd⟩
 ·show (List.replicate xs.length none++j9 σ js).length=(xs++js.map (fun j=>X.N.getD j "")).length;unfold j9;simp
end
noncomputable def tgV(K:PySem.W.Frag)(tup:Bool)(n:Nat)(v:V)(H:Hp)(k:List V→Prop):Prop:=match tup with
 |false=>k [v]
 |true=>∃a ws,v=.ref a∧SqT K H a ws∧ws.length=n∧k ws
structure TgM(K:PySem.W.Frag)(tup:Bool)(n:Nat)(g:TG):Prop where
 go:∀(caps:St) (v:V) (H:Hp) (Q:St→Hp→Prop),tgV K tup n v H (fun ws=>Q (ws.map some++caps) H)→g v (List.replicate n none++caps) H Q
theorem q0u{K:PySem.W.Frag}:TgM K false 1 (j0i 0):=⟨fun caps v H Q h=>h⟩
noncomputable def PIfs(X:Cx)(ifs:List Expr)(t:TT):Prop:=∀(pins:List (Addr×Obj)) (s:Shared) (σ:St) (H:Hp) (Q:Bool→Hp→Prop),Inv X pins σ H s→t σ H Q→
 wpAny (model X.prog X.w) X.A (forIn ifs true fun c r=>if r=true then do let ok←isTrue c X.env (eval c X.env);pure (ForInStep.yield ok)else pure (ForInStep.yield r)) (TP X pins σ Q) X.xe s
theorem e0e{X:Cx}:PIfs X [] (fun _ H Q=>Q true H):=fun pins s σ H Q I h=>wpAny_tests_nil ⟨H,I,h⟩
noncomputable def h0n(K:PySem.W.Frag)(J:It)(tup:Bool)(n:Nat)(caps:St)(D:Addr)(tc:TT)(te:TE)(H1:Hp)(Q:Hp→Prop):Prop:=∃P:Nat→Nat→List V→Hp→Prop,(∃m,P 0 m [] (upd H1 D (.lst [])))∧∀i m ys H2,P i m ys H2→H2 D=some (.lst ys)∧
 ((J.stop i H2∧Q H2)∨(J.go i H2∧∀v H3,J.yld i H2 v H3→tgV K tup n v H3 fun ws=>tc (ws.map some++caps) H3 fun ok H4=>
  if ok=true then te (ws.map some++caps) H4 fun y H5=>H5 D=some (.lst ys)∧ys.length<sizeLine∧∃m',m'<m∧P (i+1) m' (ys++[y]) (upd H5 D (.lst (ys++[y])))
  else ∃m',m'<m∧P (i+1) m' ys H4))
noncomputable def c0r(K:PySem.W.Frag)(wi:TI)(tup:Bool)(n:Nat)(js:List Nat)(tc:TT)(te:TE):TE:=fun σ H Q=>wi σ H fun J H1=>∀D,H1 D=none→h0n K J tup n (j9 σ js) D tc te H1 fun H2=>Q (.ref D) H2
section
variable{X:Cx}
theorem n0d{xs:List Str}{target elt iter:Expr}{ifs:List Expr}{js:List Nat}{scope:Scope}{cl:List (Str×Addr)}{pos:Pos}{tup:Bool}{g:TG}{tc:TT}{te:TE}{J:It}{fp:List Addr}{it:Addr}{tn:Nat→Heap→Prop}{pins:List (Addr×Obj)}{σ:St}{H1:Hp}{s1:Shared}
 {Q:V→Hp→Prop} {RR:Value→Addr→Result→Shared→Prop} {E:Value→Shared→Prop} (hc:X.calm=true) (S:CompOkM X xs js scope)
 (hg:∀C s₀ H₀ fp cl,PG (X.compM xs js scope cl C s₀ H₀ fp) target g) (gm:TgM X.K tup xs.length g) (ht:∀C s₀ H₀ fp cl,PIfs (X.compM xs js scope cl C s₀ H₀ fp) ifs tc)
 (he:∀C s₀ H₀ fp cl,PE (X.compM xs js scope cl C s₀ H₀ fp) elt te)
 (h1:∀y c,cl.lookup y=some c→X.env.cells.lookup y=some c) (h2:∀y,(y,NameKind.free)∈scope.names→∃c,cl.lookup y=some c)
 (I:Inv X pins σ H1 s1) (T:Turn X.prog X.w X.K target J fp it tn) (st:tn 0 s1.heap) (hf:∀b∈fp,FpOk X pins H1 b)
 (q:∀D,H1 D=none→h0n X.K J tup xs.length (j9 σ js) D tc te H1 fun H2=>Q (.ref D) H2)
 (hRR:∀D C H' s',Inv X pins σ H' s'→Loose X pins H' C→(∃m,s'.heap.Ns C m)→Q (.ref D) H'→RR (.ref D) C (.ok .next) s'):
 wpAny (model X.prog X.w) X.A (newList []) (fun acc s₃=>wpAny (model X.prog X.w) X.A (newFunctionEnv scope X.env.globals cl [] X.env.qual none .none (some X.env)) (fun cenv s₄=>
  codeAny (model X.prog X.w) X.A (.compStart (.ListComp elt [⟨target,iter,ifs,0⟩] scope pos) 0 (.ref it) acc {cenv with scope:=relabel scope X.env}) (RR acc cenv.locals) s₄) E s₃) E s1:=by
 have hfr:H1 s1.heap.objs.size=none:=I.hok.fresh (Nat.le_refl _);refine wpAny_newObj_type (wpAny_newFunctionEnv S.cell (by intro y hy;simp at hy) (fun h₁ hns₁ hsb₁=>?_) S.kind);dsimp only at hns₁ hsb₁ ⊢;have I3:=I.laid (a:=s1.heap.objs.size) (o:=.lst []) (h':=s1.heap.push {cls:=.type "list",dict:=none,data:=.seq ([]:List Value).toArray}) (t':=s1.toks) (fun b u e=>Heap.get?_push_of_some _ e) (Nat.le_refl _)
  ⟨by simp,[],0,.nil,Heap.get?_push_size _ rfl⟩
 generalize hD:s1.heap.objs.size=D at*
 generalize hH2:s1.heap.push {cls:=.type "list",dict:=none,data:=.seq ([]:List Value).toArray}=G at*
 have hGD:G.objs.size=D+1:=by rw[←hH2,Heap.size_push,hD]
 have hkG:∀b o,G.get? b=some o→h₁.get? b=some o:=fun b o e=>hsb₁.extBut b o (Nat.ne_of_lt (Heap.lt_size e)) (Heap.get?_push_of_some _ e)
 have hold:∀b o,s1.heap.get? b=some o→h₁.get? b=some o:=fun b o e=>hkG b o (by rw[←hH2];exact Heap.get?_push_of_some _ e)
 have hfpl:∀b∈fp,b<s1.heap.objs.size:=fun b hb=>by obtain ⟨o,e,_⟩:=T.obj _ _ st b hb;exact Heap.lt_size e
 have hf3:∀b∈fp,FpOk X pins (upd H1 D (.lst [])) b:=fun b hb=>⟨by rw[u0 (by rw[←hD];exact Nat.ne_of_lt (hfpl b hb))];exact (hf b hb).1,(hf b hb).2⟩
 have IC:=h0o (xs:=xs) (js:=js) (scope:=scope) (cl:=cl) (fp:=fp) (h':=h₁) (tk:=s1.toks+([]:List (Str×Value)).length) I3 S h1 h2 hf3 (fun b hb=>Nat.lt_of_lt_of_le (hfpl b hb) (by show s1.heap.objs.size≤G.objs.size;rw[hGD,hD];exact Nat.le_succ _)) hns₁ hkG;obtain ⟨P,⟨m0,p0⟩,turn⟩:=q D hfr;have loop:∀s':Shared,s'={s1 with heap:=h₁,toks:=s1.toks+([]:List (Str×Value)).length}→
  codeAny (model X.prog X.w) X.A (.compLoop (.ListComp elt [⟨target,iter,ifs,0⟩] scope pos) 0 (.ref it) (.ref D) (compEnvC scope cl G.objs.size X.env)) (RR (.ref D) G.objs.size) s':=by
  rintro s' rfl;refine o0p (fun n s'=>∃i ys H',Inv (X.compM xs js scope cl G.objs.size {s1 with heap:=G} (upd H1 D (.lst [])) fp) [] (List.replicate xs.length none++j9 σ js) H' s'∧tn i s'.heap∧(∀b∈fp,H' b=none)∧P i n ys H') ?_ m0 ⟨0,[],_,IC,T.keep _ _ _ st fun b hb o e=>hold b o e,fun b hb=>(hf3 b hb).1,p0⟩;rintro n s3 ⟨i,ys,H3,J3,st3,fr3,p3⟩;obtain ⟨hD3,tr⟩:=turn i n ys H3 p3;have stat:∀{H':Hp} {s':Shared} {σ':St},Inv (X.compM xs js scope cl G.objs.size {s1 with heap:=G} (upd H1 D (.lst [])) fp) [] σ' H' s'→(∀b∈fp,H' b=none)→∀b∈fp,FpOk (X.compM xs js scope cl G.objs.size {s1 with heap:=G} (upd H1 D (.lst [])) fp) [] H' b:=
   fun {H' s' σ'} JJ hn b hb=>⟨hn b hb,(JJ.ok.exf b hb).1,JJ.ok.exfs b hb,.inl hb,(JJ.ok.exf b hb).2,fun p hp=>by cases hp⟩
  rcases tr with ⟨stop,qn⟩|⟨go,step⟩
  ·refine wpAny_mono (T.done (X.compM xs js scope cl G.objs.size {s1 with heap:=G} (upd H1 D (.lst [])) fp) rfl rfl rfl hc i [] s3 _ H3 (fun _ _=>False) J3 (stat J3 fr3) st3 stop) (fun r s4 ⟨hr,J4⟩=>?_) fun _ _ z=>z
   subst hr;have I4:Inv X pins σ H3 s4:=by
    refine I3.call' (ch:=fp) (s':=s4) J4.os J4.base J4.hok J4.bare fun b hb=>?_
    obtain ⟨_,f1,f2,f3,f4,f5⟩:=hf3 b hb;exact ⟨f3,f1,f4,f5⟩
   refine hRR D G.objs.size H3 s4 I4 ⟨J4.free,?_,?_,?_,?_⟩ (let ⟨m,hm,_⟩:=J4.loc;⟨m,hm⟩) qn
   ·exact Nat.ne_of_gt I3.lt
   ·exact I3.sz
   ·exact fun y c e=>by obtain ⟨v,z⟩:=I3.cell y c e;exact Nat.ne_of_lt z.lt
   ·exact fun p hp=>Nat.ne_of_lt (Heap.lt_size (I3.pin p hp).1)
  ·refine wpAny_mono (T.item (X.compM xs js scope cl G.objs.size {s1 with heap:=G} (upd H1 D (.lst [])) fp) rfl rfl rfl hc i [] s3 _ H3 (fun _ _=>False) J3 (stat J3 fr3) st3 go) (fun r s4 ⟨u,hr,h4⟩=>?_) fun _ _ z=>z
   subst hr;refine wpAny_mono h4 (fun _ s5 ⟨v,H5,J5,r5,y5,st5,fr5⟩=>?_) fun _ _ z=>z
   have J5':=J5.pinned (stat J5 fr5) (T.obj _ _ st5);have back:∀{ws:List V} {H':Hp} {s':Shared} {pp},Inv (X.compM xs js scope cl G.objs.size {s1 with heap:=G} (upd H1 D (.lst [])) fp) pp (ws.map some++j9 σ js) H' s'→Inv (X.compM xs js scope cl G.objs.size {s1 with heap:=G} (upd H1 D (.lst [])) fp) pp (List.replicate xs.length none++j9 σ js) H' s':=
    fun {ws H' s' pp} JJ=>by
     have hl:(ws.map some++j9 σ js).length=(List.replicate xs.length none++j9 σ js).length:=by rw[JJ.len,← J3.len]
     have hw:ws.length=xs.length:=by simpa using hl
     refine JJ.weak hl.symm fun k v e=>?_
     by_cases hk:k<xs.length
     ·rw[List.getElem?_append_left (by simpa using hk),List.getElem?_replicate,if_pos hk]at e;cases e
     ·rw[List.getElem?_append_right (by simp;omega)]at e ⊢;simpa[hw]using e
   have seen:∀{H':Hp} {s':Shared} {σ':St},Inv (X.compM xs js scope cl G.objs.size {s1 with heap:=G} (upd H1 D (.lst [])) fp) ([]++p0s fp s5.heap) σ' H' s'→tn (i+1) s'.heap∧∀b∈fp,H' b=none:=fun {H' s' σ'} JJ=>by
    refine ⟨T.keep _ _ _ st5 fun b hb o e=>(JJ.pin (b,o) (List.mem_append_right _ (List.mem_append_right _ (x0z hb e)))).1,fun b hb=>?_⟩;obtain ⟨o,e,d⟩:=T.obj _ _ st5 b hb;exact (JJ.pin (b,o) (List.mem_append_right _ (List.mem_append_right _ (x0z hb e)))).2.1
   have st5':=step v H5 y5;refine wpAny_mono (hg G.objs.size {s1 with heap:=G} (upd H1 D (.lst [])) fp cl _ s5 _ H5 v u (fun σ' H'=>∃ws:List V,σ'=ws.map some++j9 σ js∧H'=H5∧tc (ws.map some++j9 σ js) H5 fun ok H4=>
    if ok=true then te (ws.map some++j9 σ js) H4 fun y H5=>H5 D=some (.lst ys)∧ys.length<sizeLine∧∃m',m'<n∧P (i+1) m' (ys++[y]) (upd H5 D (.lst (ys++[y])))else ∃m',m'<n∧P (i+1) m' ys H4) J5' r5 (gm.go _ _ _ _ ?_)) (fun _ s6 ⟨σ6,H6,J6,ws,e1,e2,h6⟩=>?_) fun _ _ z=>z
   ·unfold tgV at st5' ⊢;cases tup
    ·exact ⟨_,rfl,rfl,st5'⟩
    ·obtain ⟨a,ws,z1,z2,z3,z4⟩:=st5';exact ⟨a,ws,z1,z2,z3,ws,rfl,rfl,z4⟩
   subst e1 e2;refine wpAny_mono (ht G.objs.size {s1 with heap:=G} (upd H1 D (.lst [])) fp cl _ s6 _ _ _ J6 h6) (fun ok s7 ⟨H7,J7,q7⟩=>?_) fun _ _ z=>z
   cases ok with
   |false=>
    rw[if_neg Bool.false_ne_true]at q7 ⊢;obtain ⟨m',hm',p7⟩:=q7;obtain ⟨w1,w2⟩:=seen J7;exact ⟨m',hm',i+1,ys,H7,back J7.unpinned,w1,w2,p7⟩
   |true=>
    rw[if_pos rfl]at q7 ⊢;refine wpAny_mono (he G.objs.size {s1 with heap:=G} (upd H1 D (.lst [])) fp cl _ s7 _ H7 _ J7 q7) (fun y s8 ⟨yv,H8,J8,ry,hD8,hz8,m',hm',p8⟩=>?_) fun _ _ z=>z
    obtain ⟨z,its,nn,r,hl,e⟩:=J8.lstM hD8;refine call_meets F.slot_list_append ⟨_,e,rfl⟩ F.entry_list_append (F.args_list_append_2 _ _) (PySem.list_append D its.toArray nn y (by rw[List.size_toArray];omega)) ⟨e,?_⟩;have J9:=J8.lset (its':=its++[y]) (t':=s8.toks) hD8 e (f:=fun xs=>xs.push y) (by simp) (r.append (.cons ry .nil)) (by rw[List.length_append,List.length_singleton];omega);obtain ⟨w1,w2⟩:=seen J9;exact ⟨m',hm',i+1,ys++[yv],_,back J9.unpinned,w1,w2,p8⟩
 exact codeAny_compStart_list (loop _ rfl) (T.self X.A 0 _ _ _ (T.keep _ _ _ st fun b hb o e=>hold b o e) (loop _ rfl))
theorem e0d{xs:List Str}{target elt iter:Expr}{ifs:List Expr}{js:List Nat}{scope:Scope}{pos:Pos}{tup:Bool}{g:TG}{tc:TT}{te:TE}{wi:TI}(hc:X.calm=true)(S:CompOkM X xs js scope)(hi:PI X target iter wi)
 (hg:∀C s₀ H₀ fp cl,PG (X.compM xs js scope cl C s₀ H₀ fp) target g) (gm:TgM X.K tup xs.length g) (ht:∀C s₀ H₀ fp cl,PIfs (X.compM xs js scope cl C s₀ H₀ fp) ifs tc)
 (he:∀C s₀ H₀ fp cl,PE (X.compM xs js scope cl C s₀ H₀ fp) elt te) (hs:∀v,foldedSetIterable iter X.env v=pure v:=by intro _;rfl):
 PE X (.ListComp elt [⟨target,iter,ifs,0⟩] scope pos) (c0r X.K wi tup xs.length js tc te):=by
 intro pins s σ H Q I h;obtain ⟨cl,c0,c1,c2⟩:=k0d (scope:=scope) (env:=X.env) fun p hp hk=>I.ok.has p.1 (S.free p hp hk)
 rw[eval_ListComp];refine wpAny_comprehension_free (use:=none) rfl hs c0 S.kind S.loc (thn (hi pins s σ H _ I h) fun xv s₁ h₁=>thn h₁ fun itv s₂ h₂=>?_);obtain ⟨it,fp,tn,J,H',rfl,I2,T,st,hf,q⟩:=h₂;refine n0d (RR:=fun acc C=>compPost (model X.prog X.w) X.A X.xe none (EP X pins σ Q) acc C) hc S hg gm ht he c1 c2 I2 T st hf q ?_;rintro D C H' s' I' L ⟨m,hm⟩ qq;refine ⟨m,hm,fun h' hs'=>⟨.ref D,H',?_,rfl,qq⟩⟩;exact I'.turned (t':=s'.toks) (it:=C) (fun b o hb e=>hs'.extBut b o hb e) L.free L.ne (.inr L.yng) L.cell L.pin
end
section
variable{X:Cx}{elts:List Expr}{x1:Nat}{tpos:Pos}
noncomputable def iEnu(K:PySem.W.Frag)(ta:TA):TI:=fun σ H R=>ta σ H fun vs H1=>∃a b,vs=[.ref a]∧(∃xs,Sq K b H1 a xs)∧R (Ite K b a) H1
theorem a0i{a:Expr}{ta:TA}{p pos:Pos}(hg:Gl X "enumerate")(hm:X.mg "enumerate"=none)(ha:PA X [a] ta)(hs:starEach [a] X.env=[(false,eval a X.env)]:=by rfl):
 PI X (.Tuple elts x1 tpos) (.Call (.Name "enumerate" p) [a] [] pos) (iEnu X.K ta):=by
 intro pins s σ H R I h;refine Call_ (v0j I hg hm o0q (PyProof.Rows.callWith_type1 (thn (ha pos pins s σ H _ I h) fun us s1 ⟨vs,H1,I1,r1,q1⟩=>?_) hs rfl));obtain ⟨a1,b1,e,⟨xs,k1⟩,q⟩:=q1;subst e;cases r1 with
 |cons r rr=>
  cases rr;cases r;obtain ⟨its1,v1,p1,z1⟩:=I1.sq k1;have l1:a1<s1.heap.objs.size:=by obtain ⟨o,e,_⟩:=p1.obj;exact Heap.lt_size e
  refine a0j p1 fun h' he i1 kk=>wpAny_pyIter_enum (s:={s1 with heap:=h'}) he ?_
  refine ⟨_,[s1.heap.objs.size+1,s1.heap.objs.size],_,_,H1,rfl,I1.kept (t':=s1.toks) kk,h0p b1 a1 _ _ (Nat.succ_ne_self _) ⟨Nat.ne_of_lt (Nat.lt_succ_of_lt l1),Nat.ne_of_lt l1⟩,⟨⟨_,he⟩,i1⟩,fun c hc=>?_,q⟩;have hle:s1.heap.objs.size≤c:=by
   have hc':c=s1.heap.objs.size+1∨c=s1.heap.objs.size:=by simpa using hc
   rcases hc' with e |e<;>(rw[e];omega)
  exact I1.fpOk hle (I1.hok.fresh hle)
end
end L2
namespace L2
open PySem PySem.Spec PyProof.Rows
theorem t0l:∀{xs:List V} {us:List Value},xs.length=us.length→(∀(i:Nat) x u,xs[i]?=some x→us[i]?=some u→RelV x u)→Vals xs us
 | [],[],_,_=>.nil
 |x::xs,u::us,hl,h=>.cons (h 0 x u rfl rfl) (t0l (by simpa using hl) fun i x' u' e1 e2=>h (i+1) x' u' e1 e2)
 | [],_::_,hl,_=>by simp at hl
 |_::_,[],hl,_=>by simp at hl
section
variable{X:Cx}
theorem e0c(b:Bool){prog:Program}{w:World}{A:Around}(hh:A.handled=none)(j a:Addr)(ne:a≠j)(xs:Array Value):
 Walks prog w A j [j,a] [j] xs.size (fun i v=>xs[i]?=some v) (fun i h=>ItAt b h j a i∧SqAt b h a xs):=by
 cases b
 ·exact Walks.list hh j a ne xs
 ·exact Walks.tuple hh j a ne xs
noncomputable def rCatA(K:PySem.W.Frag):R2:=fun x y H Q=>∃a b xs ys,x=.ref a∧y=.ref b∧SqT K H a xs∧SqT K H b ys∧xs.length+ys.length≤sizeLine∧
 (xs=[]→Q (.ref b) H)∧(xs≠[]→ys=[]→Q (.ref a) H)∧(xs≠[]→ys≠[]→∀p,H p=none→Q (.ref p) (upd H p (.tup (xs++ys))))
theorem a0h:OpR X (binaryOp .Add) (rCatA X.K):=by
 intro pins s σ H x y v u Q I rx ry h;obtain ⟨a,b,xs,ys,rfl,rfl,ha,hb,hz,q0,q1,q2⟩:=h;by_cases hx:xs=[]
 ·cases rx;cases ry;obtain ⟨its,r1,p1,_⟩:=I.tuple ha;obtain ⟨its2,r2,p2,_⟩:=I.tuple hb;have hv:its=[]:=r1.nil_iff.mpr hx;obtain ⟨⟨cls,dd,data,sl⟩,ho,hc,n,hd⟩:=id p1;obtain ⟨⟨cls2,dd2,data2,sl2⟩,ho2,hc2,n2,hd2⟩:=id p2;simp only at hc hd hc2 hd2;subst hc hd hc2 hd2;exact concat_meets ⟨_,ho,rfl⟩ ⟨_,ho2,rfl⟩ noFill_tuple_add seq_tuple_add PySem.F.slot_tuple_add PySem.F.entry_tuple_add (PySem.F.args_tuple_add_2 _ _) (tuple_addW0 a b its.toArray its2.toArray n n2 dd dd2 sl sl2 (by simp[hv])) ⟨ho,ho2,.ref b,H,I,rfl,q0 hx⟩
 ·exact b0m pins s σ H _ _ v u Q I rx ry ⟨a,b,xs,ys,rfl,rfl,ha,hb,hx,hz,q1 hx,q2 hx⟩
end
end L2
namespace DL
open PySem PySem.Spec L2
open PySem.W (XC)
section
variable{X:Cx}{Y:Y2}{W:XW}{tg:Expr}{K:Frag}
noncomputable def sqb:D→Bool | .tup _=>true |_=>false
theorem seqD_q{F:Hp}{d:D}{xs:List D}{x:V}(h:seqD d=some xs)(r:Rep K F d x):∃a vs b,x=.ref a∧Sq K b F a vs∧Reps K F xs vs:=by
 obtain ⟨a,vs,e,sq,z⟩:=c0t h r;rcases sq with sq |sq
 ·exact ⟨a,vs,false,e,sq,z⟩
 ·exact ⟨a,vs,true,e,sq,z⟩
theorem _root_.L2.Same.sq{F F':Hp}{b:Bool}{a:Addr}{xs:List V}(s:Same F F')(h:Sq K b F a xs):Sq K b F' a xs:=by
 cases b
 ·exact s.sqL h
 ·exact s.sqT h
noncomputable def zipD(ds es:List D):List D:=List.zipWith (fun d e=>D.tup [d,e]) ds es
noncomputable def q0t(k:Nat)(ds:List D):List D:=match ds with | []=>[]|d::r=>.tup [.int (k:Int),d]::q0t (k+1) r
theorem o0o:∀(ds:List D) (k:Nat),(q0t k ds).length=ds.length
 | [],k=>rfl
 |d::r,k=>by unfold q0t;rw[List.length_cons,List.length_cons,o0o r]
theorem t0k:∀{ds:List D} {k i:Nat} {c:D},(q0t k ds)[i]?=some c→∃d,ds[i]?=some d∧c=.tup [.int ((k+i:Nat):Int),d]
 | [],k,i,c,h=>by unfold q0t at h;simp at h
 |d::r,k,0,c,h=>by unfold q0t at h;simp at h;exact ⟨d,rfl,h.symm⟩
 |d::r,k,i+1,c,h=>by
  unfold q0t at h;rw[List.getElem?_cons_succ]at h;obtain ⟨e,h1,h2⟩:=t0k h;exact ⟨e,by simpa using h1,by rw[h2,show k+1+i=k+(i+1)by omega]⟩
theorem e0b{F:Hp}{b:Bool}{a:Addr}{xs:List V}{ds:List D}(h:Sq K b F a xs)(r:Reps K F ds xs):SrcOk K (Ite K b a) F (q0t 0 ds):=by
 refine ⟨fun i c F' H e s1 s2=>?_,fun F' H s1 s2=>?_⟩
 ·obtain ⟨d,e1,rfl⟩:=t0k e;obtain ⟨v,ev,rv⟩:=r.get e1;have q1:=(s1.trans s2).sq h;refine ⟨⟨xs,v,q1,ev⟩,fun u H' y=>?_⟩;obtain ⟨p,x,hp,rfl,rfl,k1⟩:=y;have e3:=k1 xs q1;rw[ev]at e3;cases e3;rw[Nat.zero_add];exact .inr ⟨p,_,_,hp,rfl,rfl,rfl,Reps.cons (rep_int.mpr rfl) (Reps.cons (rv.mono s1) Reps.nil)⟩
 ·rw[o0o];exact ⟨xs,(s1.trans s2).sq h,r.length⟩
variable{a b:Expr}{ta:TA2}{p pos tpos:Pos}{elts:List Expr}{x1:Nat}
noncomputable def a0g(ta:TA2):TI2:=fun x ρ δ q=>ta x ρ δ fun ds ρ1 δ1=>match ds with | [d,e]=>(match seqD d,seqD e with |some xs,some ys=>q (zipD xs ys) ρ1 δ1 |_,_=>False)|_=>False
noncomputable def e0a(ta:TA2):TI2:=fun x ρ δ q=>ta x ρ δ fun ds ρ1 δ1=>match ds with | [d]=>(match seqD d with |some xs=>q (q0t 0 xs) ρ1 δ1 |none=>False)|_=>False
theorem a0f(hm:X.mg "enumerate"=none)(ha:PA2 X Y W [a] ta)(hg:Gl X "enumerate":=by rfl)(hs:starEach [a] X.env=[(false,eval a X.env)]:=by rfl):
 PI2 X Y W (.Tuple elts x1 tpos) (.Call (.Name "enumerate" p) [a] [] pos) (e0a ta):=pi2 (a0i hg hm ha.go hs) fun σ H R ⟨F,ρ,δ,x,q,I,h,k,kx⟩=>by
 refine ⟨F,ρ,δ,x,_,I,h,fun ds vs F' H' ρ' δ' I' s' r' h'=>?_,kx⟩;split at h'
 ·split at h'
  ·rename_i xs e1;obtain ⟨v,rfl,r1⟩:=y0u r';obtain ⟨a1,vs1,b1,rfl,q1,z1⟩:=seqD_q e1 r1;exact ⟨a1,b1,rfl,⟨_,I'.sub.sq q1⟩,k _ _ F' H' ρ' δ' I' s' (e0b q1 z1) h'⟩
  ·exact h'.elim
 ·exact h'.elim
end
noncomputable def tgD(tup:Bool)(n:Nat)(d:D):Option (List D):=match tup,d with
 |false,d=>some [d]
 |true,.tup ds=>if ds.length=n then some ds else none
 |true,_=>none
noncomputable def compM(tup:Bool)(n:Nat)(tc:TT2)(te:TE2)(js:List Nat)(ρ:En)(q:List D→Dk→Prop):List D→List D→Dk→Prop
 | [],acc,δ=>q acc δ
 |d::ds,acc,δ=>match tgD tup n d with
  |some es=>tc (fun _ _ _ _=>False) (es.map .val++capt ρ js) δ fun b ρ1 δ1=>if b=true then te (fun _ _ _ _=>False) ρ1 δ1 fun e _ δ2=>acc.length<1000∧compM tup n tc te js ρ q ds (acc++[e]) δ2 else compM tup n tc te js ρ q ds acc δ1
  |none=>False
section
variable{K:Frag}{Y:Y2}{F H:Hp}{σ:St}{ρ:En}{δ:Dk}
theorem o0n{H₀:Hp}{sf:Option Addr}{cs:En}{ss:St}(hc:∀(i:Nat) (c:Cell),cs[i]?=some c→CellOk K F H H₀ sf c (ss[i]?).join):∀{es:List D} {ws:List V},Reps K F es ws→∀(i:Nat) (c:Cell),(es.map Cell.val++cs)[i]?=some c→CellOk K F H H₀ sf c ((ws.map some++ss:St)[i]?).join
 | [],ws,r,i,c,e=>by rw[reps_nil.mp r];exact hc i c e
 |d::es,ws,r,0,c,e=>by
  obtain ⟨v,l,rfl,r1,r2⟩:=reps_cons.mp r;cases e;exact ⟨v,rfl,r1⟩
 |d::es,ws,r,i+1,c,e=>by
  obtain ⟨v,l,rfl,r1,r2⟩:=reps_cons.mp r;exact o0n hc r2 i c e
theorem I2.blockM{es:List D}{ws:List V}{js:List Nat}(I:I2 K Y F H σ ρ δ)(r:Reps K F es ws):I2 K ⟨F,H,δ,none⟩ F H (ws.map some++j9 σ js) (es.map .val++capt ρ js) δ:=by
 have vals:∀(i:Nat) c,(es.map Cell.val++capt ρ js)[i]?=some c→(∃e,c=.val e)∨c=.no:=fun i c e=>by
  have m:=List.mem_of_getElem? e;rcases List.mem_append.mp m with m |m
  ·obtain ⟨d,_,rfl⟩:=List.mem_map.mp m;exact .inl ⟨d,rfl⟩
  ·unfold capt at m;obtain ⟨j,_,rfl⟩:=List.mem_map.mp m;unfold o0t;split
   ·exact .inl ⟨_,rfl⟩
   ·exact .inr rfl
 have no:∀i a,¬h7 (es.map .val++capt ρ js) (ws.map some++j9 σ js) i a:=fun i a o=>by
  rcases o.1 with ⟨es,q⟩|⟨C,fs,q⟩|⟨kvs,q⟩
  ·rcases vals i _ q with ⟨d,z⟩|z<;>cases z
  ·rcases vals i _ q with ⟨d,z⟩|z<;>cases z
  ·rcases vals i _ q with ⟨d,z⟩|z<;>cases z
 refine ⟨Ran.refl I.sub I.ran.dk,o0n (fun i c e=>?_) r,by simp[j9,capt,r.length],fun i j a _ o _=>absurd o (no i a),fun i a o=>absurd o (no i a)⟩;unfold capt at e;rw[List.getElem?_map,Option.map_eq_some_iff]at e;obtain ⟨j,ej,rfl⟩:=e;unfold j9;rw[List.getElem?_map,ej];show CellOk K F H H none _ (σ[j]?).join;cases ec:ρ[j]? with
 |none=>trivial
 |some c=>
  have w:=I.env j c ec;cases c with
  |val e=>exact w
  |_=>trivial
end
section
variable{X:Cx}{Y:Y2}{W:XW}{px pos:Pos}{target elt iter:Expr}{ifs:List Expr}{xs:List Str}{js:List Nat}{scope:Scope}{tc:TT2}{te:TE2}{ti:TI2}{tup:Bool}{g:TG}
noncomputable def tcY(K:Frag)(tc:TT2):TT:=fun σ H Q=>∃Y',upT K Y' W0 tc σ H Q
theorem h0m{σ:St}{ρ1:En}{δ1:Dk}{F1 H1:Hp}{J:It}{n:Nat}{ds:List D}{q:List D→Dk→Prop}{Q:Addr→Hp→Prop}(I1:I2 X.K Y F1 H1 σ ρ1 δ1)(src:SrcOk X.K J F1 ds)(h1:compM tup n tc te js ρ1 q ds [] δ1)
 (k:∀D F' H' δ' acc vs,I2 X.K Y F' H' σ ρ1 δ'→Same F1 F'→H' D=some (.lst vs)→F' D=none→Y.H₀ D=none→Off δ' D→(∀j a,h7 ρ1 σ j a→a≠D)→Reps X.K F' acc vs→q acc δ'→Q D H'):
 ∀D,H1 D=none→h0n X.K J tup n (j9 σ js) D (tcY X.K tc) (teY X.K te) H1 fun H2=>Q D H2:=by
 intro D hD;have hF:F1 D=none:=I1.sub.free hD;have h0:=I1.ran.fresh hD;have no:∀j a,h7 ρ1 σ j a→a≠D:=fun j a o=>by
  obtain ⟨u,hu⟩:=I1.ownAddr o;exact l0 hu hD
 have off:Off δ1 D:=fun b es e w=>by
  obtain ⟨_,vs,q2,_⟩:=I1.ran.dk b es e;rw[←w,hD]at q2;cases q2
 have I0:I2 X.K Y F1 (upd H1 D (.lst [])) σ ρ1 δ1:=by
  refine ⟨⟨fun b u e=>by rw[u0 (l0 e hF)];exact I1.sub _ _ e,fun b fs e=>?_,fun b u e f=>by rw[u0 (l0 e h0)];exact I1.ran.keep b u e f,I1.ran.f0,I1.ran.fnew,I1.ran.dto⟩,fun j c e=>?_,I1.len,I1.apart,I1.off⟩
  ·obtain ⟨q1,ws,q2,q3⟩:=I1.ran.dk b fs e;exact ⟨q1,ws,by rw[u0 (Ne.symm (off b fs e))];exact q2,q3⟩
  ·have w:=I1.env j c e;cases c with
   |no=>trivial
   |val d=>exact w
   |own fs=>
    obtain ⟨b,ws,e1,h1,f1,g1,r1⟩:=w;exact ⟨b,ws,e1,by rw[u0 (l0 h1 hD)];exact h1,f1,g1,r1⟩
   |obj C fs=>
    obtain ⟨b,dx,ws,e1,es1,h1,h2,f1,f2,g1,g2,r1⟩:=w;exact ⟨b,dx,ws,e1,es1,by rw[u0 (l0 h1 hD)];exact h1,by rw[u0 (l0 h2 hD)];exact h2,f1,f2,g1,g2,r1⟩
   |ownD fs=>
    obtain ⟨b,ws,e1,h1,f1,g1,r1⟩:=w;exact ⟨b,ws,e1,by rw[u0 (l0 h1 hD)];exact h1,f1,g1,r1⟩
 refine ⟨fun i m ys H2=>∃F2 δ2 acc,I2 X.K Y F2 H2 σ ρ1 δ2∧Same F1 F2∧H2 D=some (.lst ys)∧F2 D=none∧Off δ2 D∧Reps X.K F2 acc ys∧compM tup n tc te js ρ1 q (ds.drop i) acc δ2∧i≤ds.length∧m=ds.length-i,⟨ds.length,F1,δ1,[],I0,Same.refl F1,o3,hF,off,Reps.nil,by simpa using h1,Nat.zero_le _,by simp⟩,?_⟩;rintro i m ys H2 ⟨F2,δ2,acc,I2',s2,hD2,hF2,of2,r2,h2,hi,rfl⟩;refine ⟨hD2,?_⟩;cases e:ds[i]? with
 |none=>
  have hl:ds.length≤i:=List.getElem?_eq_none_iff.mp e;have ei:i=ds.length:=by omega
  subst ei;rw[List.drop_length]at h2;exact .inl ⟨src.stop F2 H2 s2 I2'.sub,k D F2 H2 δ2 acc ys I2' s2 hD2 hF2 h0 of2 no r2 h2⟩
 |some d=>
  have hl:i<ds.length:=(List.getElem?_eq_some_iff.mp e).1;obtain ⟨go,yl⟩:=src.item i d F2 H2 e s2 I2'.sub;refine .inr ⟨go,fun v H3 y=>?_⟩;have hy:=yl v H3 y;obtain ⟨F3,I3,s3,r3,nf3⟩:=I2'.yld hy;have hD3:H3 D=some (.lst ys):=by
   rcases hy with ⟨rfl,_⟩|⟨p,vs,es,hp,rfl,_⟩
   ·exact hD2
   ·rw[u0 (l0 hD2 hp)];exact hD2
  have hF3:F3 D=none:=nf3 D _ hD2 hF2;have ed:ds.drop i=d::ds.drop (i+1):=by rw[List.drop_eq_getElem_cons hl];congr 1;exact (List.getElem?_eq_some_iff.mp e).2
  rw[ed]at h2;unfold compM at h2;split at h2
  ·rename_i es ees;have body:∀ws:List V,Reps X.K F3 es ws→tcY X.K tc (ws.map some++j9 σ js) H3 fun ok H4=>if ok=true then teY X.K te (ws.map some++j9 σ js) H4 fun y H5=>H5 D=some (.lst ys)∧ys.length<sizeLine∧∃m',m'<ds.length-i∧
    ∃F2 δ2 acc,I2 X.K Y F2 (upd H5 D (.lst (ys++[y]))) σ ρ1 δ2∧Same F1 F2∧upd H5 D (.lst (ys++[y])) D=some (.lst (ys++[y]))∧F2 D=none∧Off δ2 D∧Reps X.K F2 acc (ys++[y])∧compM tup n tc te js ρ1 q (ds.drop (i+1)) acc δ2∧i+1≤ds.length∧m'=ds.length-(i+1)
    else ∃m',m'<ds.length-i∧∃F2 δ2 acc,I2 X.K Y F2 H4 σ ρ1 δ2∧Same F1 F2∧H4 D=some (.lst ys)∧F2 D=none∧Off δ2 D∧Reps X.K F2 acc ys∧compM tup n tc te js ρ1 q (ds.drop (i+1)) acc δ2∧i+1≤ds.length∧m'=ds.length-(i+1):=by
    intro ws rw';have kept:∀{F4 H4 δ4},Ran X.K F3 H3 δ2 F4 H4 δ4→H4 D=some (.lst ys)∧F4 D=none∧Off δ4 D:=fun {F4 H4 δ4} R=>by
     refine ⟨R.keep D _ hD3 of2,?_,fun b es e w=>?_⟩
     ·cases z:F4 D with
      |none=>rfl
      |some u=>
       rcases R.fnew D u z with w |w
       ·rw[hF3]at w;cases w
       ·rw[hD3]at w;cases w
     ·cases hd:δ2 with
      |none=>have:=R.dto.2 b es e hd;rw[←w,hD3]at this;cases this
      |some p=>
       obtain ⟨c,gs⟩:=p;obtain ⟨es',z⟩:=R.dto.1 c gs hd;rw[e]at z;cases z;exact of2 b gs hd w
    refine ⟨⟨F3,H3,δ2,none⟩,F3,_,δ2,_,_,I3.blockM rw',h2,fun bb F4 H4 ρ4 δ4 I4 s4 h4=>?_,fun _ _ _ _ _ _ _ _ _ _ _ z=>z⟩;obtain ⟨hD4,hF4,of4⟩:=kept I4.ran;cases bb with
    |false=>
     rw[if_neg Bool.false_ne_true]at h4 ⊢;exact ⟨ds.length-(i+1),by omega,F4,δ4,acc,I3.call I4.ran,(s2.trans s3).trans s4,hD4,hF4,of4,r2.mono (s3.trans s4),h4,hl,rfl⟩
    |true=>
     rw[if_pos rfl]at h4 ⊢;refine ⟨⟨F3,H3,δ2,none⟩,F4,ρ4,δ4,_,_,I4,h4,fun d5 v5 F5 H5 ρ5 δ5 I5 s5 r5 h5=>?_,fun _ _ _ _ _ _ _ _ _ _ _ z=>z⟩;obtain ⟨hD5,hF5,of5⟩:=kept I5.ran;have hlen:acc.length<1000:=h5.1;have s35:Same F3 F5:=s4.trans s5;exact ⟨hD5,by rw[r2.length];exact Nat.lt_of_lt_of_le hlen (by decide),ds.length-(i+1),by omega,F5,δ5,acc++[d5],(I3.call I5.ran).side hF5 h0 of5 ⟨_,hD5⟩ no,(s2.trans s3).trans s35,o3,hF5,of5,(r2.mono (s3.trans s35)).append (Reps.cons r5 Reps.nil),h5.2,hl,rfl⟩
   unfold tgD at ees;split at ees
   ·cases ees;exact body [v] (Reps.cons r3 Reps.nil)
   ·rename_i _ es0;split at ees
    ·rename_i hn;cases ees;obtain ⟨a,vs,rfl,ea,z⟩:=rep_tup.mp r3;exact ⟨a,vs,rfl,SqT.of (I3.sub _ _ ea),by rw[z.length];exact hn,body vs z⟩
    ·cases ees
   ·cases ees
  ·exact h2.elim
structure PIf2(X:Cx)(Y:Y2)(W:XW)(ifs:List Expr)(t:TT2):Prop where
 go:PIfs X ifs (upT X.K Y W t)
noncomputable def t0j:TT2:=fun _ ρ δ q=>q true ρ δ
theorem n0c:PIf2 X Y W [] t0j:=⟨fun pins s σ H Q I ⟨F,ρ,δ,x,q,I2',h,k,kx⟩=>e0e pins s σ H Q I (k true F H ρ δ I2' (Same.refl F) h)⟩
variable{i:Nat}{y:Str}{py spos:Pos}
noncomputable def t0i(ti:TI2)(tup:Bool)(n:Nat)(js:List Nat)(tc:TT2)(te:TE2):TE2:=fun x ρ δ q=>ti x ρ δ fun ds ρ1 δ1=>compM tup n tc te js ρ1 (fun acc δ2=>q (.lst acc) ρ1 δ2) ds [] δ1
theorem d0z{n:Nat}{σ:St}{H:Hp}{Q:VK}(h:upE X.K Y W (t0i ti tup n js tc te) σ H Q):c0r X.K (upI2 X.K Y W ti) tup n js (tcY X.K tc) (teY X.K te) σ H Q:=by
 obtain ⟨F,ρ,δ,x,q,I,h,k,kx⟩:=h;refine ⟨F,ρ,δ,x,_,I,h,fun ds J F1 H1 ρ1 δ1 I1 s1 src h1=>h0m (Q:=fun D H2=>Q (.ref D) H2) I1 src h1 fun D F' H' δ' acc vs I' s' hD hF h0 of no r hq=>?_,kx⟩;exact k _ _ _ _ ρ1 δ' (I'.ice hF h0 of hD no) ((s1.trans s').trans (Same.new hF)) (rep_lst.mpr ⟨D,vs,rfl,o3,r.mono (Same.new hF)⟩) hq
variable(hc:X.calm=true)(S:CompOkM X xs js scope)(hi:PI2 X Y W target iter ti)(hg:(xs++js.map (fun j=>X.N.getD j "")).Nodup→∀C s₀ H₀ fp cl,PG (X.compM xs js scope cl C s₀ H₀ fp) target g)(gm:TgM X.K tup xs.length g)
 (ht:∀C s₀ H₀ fp cl Y',PIf2 (X.compM xs js scope cl C s₀ H₀ fp) Y' W0 ifs tc) (he:∀C s₀ H₀ fp cl Y',PE2 (X.compM xs js scope cl C s₀ H₀ fp) Y' W0 elt te)
include hc S hi hg gm ht he
theorem q0s(hs:∀v,foldedSetIterable iter X.env v=pure v:=by intro _;rfl):PE2 X Y W (.ListComp elt [⟨target,iter,ifs,0⟩] scope pos) (t0i ti tup xs.length js tc te):=
 pe2 (e0d (tc:=tcY X.K tc) (te:=teY X.K te) hc S hi.go (hg S.nd) gm (fun C s₀ H₀ fp cl pins s σ H Q I ⟨Y',h⟩=>(ht C s₀ H₀ fp cl Y').go pins s σ H Q I h) (fun C s₀ H₀ fp cl pins s σ H Q I ⟨Y',h⟩=>(he C s₀ H₀ fp cl Y').go pins s σ H Q I h) hs) fun σ H Q h=>d0z h
noncomputable def t2OwnM(i:Nat)(ti:TI2)(tup:Bool)(n:Nat)(js:List Nat)(tc:TT2)(te:TE2):TS2:=fun E ρ δ=>ti E.xc ρ δ fun ds ρ1 δ1=>compM tup n tc te js ρ1 (fun acc δ2=>E.nx (ρ1.set i (.own acc)) δ2) ds [] δ1
end
end DL
namespace DL
open PySem PySem.Spec L2
open PySem.W (XC)
mutual
noncomputable def lfD:D→Bool
 | .lst _=>false | .scr _=>false | .dic _=>false | .dwk _=>false
 | .tup xs=>lfDs xs
 | .ins _ fs=>lfFs fs | .exc _ fs=>lfFs fs
 |_=>true
noncomputable def lfDs:List D→Bool
 | []=>true
 |d::ds=>lfD d&&lfDs ds
noncomputable def lfFs:List (Str×D)→Bool
 | []=>true
 |(_,d)::ds=>lfD d&&lfFs ds
end
mutual
theorem Rep.lf{K:Frag}{F F':Hp}(s:∀b o,F b=some o→(∀vs,o≠.lst vs)→F' b=some o):∀{d:D} {v:V},lfD d=true→Rep K F d v→Rep K F' d v
 | .non,v,_,h=>by unfold Rep at h ⊢; exact h
 | .bl b,v,_,h=>by unfold Rep at h ⊢; exact h
 | .int i,v,_,h=>by unfold Rep at h ⊢; exact h
 | .str x,v,_,h=>by unfold Rep at h ⊢; exact h
 | .lst ds,v,l,h=>by unfold lfD at l;cases l
 | .tup ds,v,l,h=>by unfold Rep at h ⊢; unfold lfD at l;obtain ⟨a,vs,e,q,r⟩:=h;exact ⟨a,vs,e,s _ _ q (fun vs z=>by cases z),Reps.lf s l r⟩
 | .scr ds,v,l,h=>by unfold lfD at l;cases l
 | .dic ds,v,l,h=>by unfold lfD at l;cases l
 | .dwk ds,v,l,h=>by unfold lfD at l;cases l
 | .ins C fs,v,l,h=>by unfold Rep at h ⊢; unfold lfD at l;obtain ⟨a,dx,vs,e,q,q2,r⟩:=h;exact ⟨a,dx,vs,e,s _ _ q (fun vs z=>by cases z),s _ _ q2 (fun vs z=>by cases z),RepF.lf s l r⟩
 | .exc C fs,v,l,h=>by
  unfold Rep at h ⊢;unfold lfD at l;obtain ⟨a,fr,e,h⟩:=h;refine ⟨a,fr,e,?_⟩;rcases h with ⟨e1,q⟩|⟨d,us,q,q2,r⟩
  ·exact .inl ⟨e1,s _ _ q (fun vs z=>by cases z)⟩
  ·exact .inr ⟨d,us,s _ _ q (fun vs z=>by cases z),s _ _ q2 (fun vs z=>by cases z),RepF.lf s l r⟩
 | .ref a,v,_,h=>by unfold Rep at h ⊢; exact h
 | .ty n,v,_,h=>by unfold Rep at h ⊢; exact h
theorem Reps.lf{K:Frag}{F F':Hp}(s:∀b o,F b=some o→(∀vs,o≠.lst vs)→F' b=some o):∀{ds:List D} {vs:List V},lfDs ds=true→Reps K F ds vs→Reps K F' ds vs
 | [],vs,_,h=>by unfold Reps at h ⊢; exact h
 |d::ds,vs,l,h=>by
  unfold Reps at h ⊢;unfold lfDs at l;rw[Bool.and_eq_true]at l;obtain ⟨v,r,e,q,z⟩:=h;exact ⟨v,r,e,Rep.lf s l.1 q,Reps.lf s l.2 z⟩
theorem RepF.lf{K:Frag}{F F':Hp}(s:∀b o,F b=some o→(∀vs,o≠.lst vs)→F' b=some o):∀{ds:List (Str×D)} {vs:List (Str×V)},lfFs ds=true→RepF K F ds vs→RepF K F' ds vs
 | [],vs,_,h=>by unfold RepF at h ⊢; exact h
 |(x,d)::ds,vs,l,h=>by
  unfold RepF at h ⊢;unfold lfFs at l;rw[Bool.and_eq_true]at l;obtain ⟨v,r,e,q,z⟩:=h;exact ⟨v,r,e,Rep.lf s l.1 q,RepF.lf s l.2 z⟩
end
inductive BA where |v (d:D)|o (i:Nat)
noncomputable def RepB(K:Frag)(F:Hp)(σ:St):BA→V→Prop
 | .v d,v=>Rep K F d v
 | .o i,v=>σ[i]?=some (some v)
inductive RepsB(K:Frag)(F:Hp)(σ:St):List BA→List V→Prop
 |nil:RepsB K F σ [] []
 |cons {b v bs vs}:RepB K F σ b v→RepsB K F σ bs vs→RepsB K F σ (b::bs) (v::vs)
noncomputable abbrev TB2:=XK2→En→Dk→(List BA→En→Dk→Prop)→Prop
noncomputable def upB(K:Frag)(Y:Y2)(W:XW)(t:TB2):TA:=fun σ H Q=>∃F ρ δ x q,I2 K Y F H σ ρ δ∧t x ρ δ q∧(∀bs vs F' H' ρ' δ',I2 K Y F' H' σ ρ' δ'→Same F F'→RepsB K F' σ bs vs→q bs ρ' δ'→Q vs H')∧XR K Y W F x
structure PB2(X:Cx)(Y:Y2)(W:XW)(es:List Expr)(t:TB2):Prop where
 go:PA X es (upB X.K Y W t)
section
variable{X:Cx}{Y:Y2}{W:XW}{e:Expr}{es:List Expr}{te:TE2}{t:TB2}{x:Str}{p pos:Pos}
noncomputable def t2BNil:TB2:=fun _ ρ δ q=>q [] ρ δ
noncomputable def t2BV(te:TE2)(t:TB2):TB2:=fun x ρ δ q=>te x ρ δ fun d ρ1 δ1=>t x ρ1 δ1 fun bs ρ2 δ2=>q (.v d::bs) ρ2 δ2
noncomputable def t2BO(i:Nat)(t:TB2):TB2:=fun x ρ δ q=>hasV ρ i=true∧t x ρ δ fun bs ρ2 δ2=>q (.o i::bs) ρ2 δ2
noncomputable def argB(ρ:En):BA→Option D
 | .v d=>some d
 | .o i=>match ρ[i]? with |some (.own ds)=>some (.lst ds)|some (.val d)=>some d |_=>none
noncomputable def argsB(ρ:En):List BA→Option (List D)
 | []=>some []
 |b::bs=>match argB ρ b,argsB ρ bs with |some d,some ds=>some (d::ds)|_,_=>none
noncomputable def c0q(ρ:En)(σ:St)(b:Addr):Prop:=∃(i:Nat) (ds:List D),ρ[i]?=some (Cell.own ds)∧σ[i]?=some (some (V.ref b))
open Classical in
noncomputable def lend(ρ:En)(σ:St)(F H:Hp):Hp:=fun b=>if c0q ρ σ b then H b else F b
open Classical in
noncomputable def back(ρ:En)(σ:St)(F:Hp):Hp:=fun b=>if c0q ρ σ b then none else F b
section
variable{K:Frag}{F H F' H':Hp}{σ:St}{ρ:En}{δ δ':Dk}
end
noncomputable def a0e(sp:Sp2)(t:TB2):TE2:=fun x ρ δ q=>t x ρ δ fun bs ρ1 δ1=>match argsB ρ1 bs with
 |some ds=>sp ds none (fun d _=>lfD d=true∧q d ρ1 δ1) fun C fs _=>lfFs fs=true∧x C fs ρ1 δ1
 |none=>False
variable{k:Nat}{ps:List Str}{sp:Sp2}
end
end DL
namespace DL
open PySem PySem.Spec L2
open PySem.W (XC)
section
variable{X:Cx}{K:Frag}
noncomputable def n0b:List D→Option (List Int)
 | []=>some []
 | .int i::r=>(n0b r).map (i::·)
 |_=>none
noncomputable def fewD(ns:List Int):Prop:=ns.length≤1000∧∀n∈ns,-(2^40)≤n∧n≤2^40
noncomputable def sumF:F1:=fun ds q=>match ds with | [d]=>(match seqD d with |some xs=>(match n0b xs with |some ns=>fewD ns∧q (.int ns.sum)|none=>False)|none=>False)|_=>False
noncomputable def rAddE(K:Frag):R2:=fun x y H Q=>a0z K x y H Q∨rCatA K x y H Q
noncomputable def addG:F2:=fun d1 d2 q=>match d1,d2 with
 | .int i,.int j=>q (.int (i+j))
 | .lst xs,.lst ys=>xs.length+ys.length≤1000∧q (.lst (xs++ys))
 | .tup xs,.tup ys=>xs.length+ys.length≤1000∧q (.tup (xs++ys))
 |_,_=>False
theorem x3:OpR X (binaryOp .Add) (rAddE X.K):=i0i a0y a0h
theorem i3:OpD K (rAddE K) addG:=by
 intro Y F H σ ρ δ x y d1 d2 Q1 q I r1 r2 h' k;unfold addG at h';split at h'
 ·exact .inl (d_add Y F H σ ρ δ x y _ _ Q1 q I r1 r2 h' k)
 ·exact .inl (d_add Y F H σ ρ δ x y _ _ Q1 q I r1 r2 h' k)
 ·rename_i xs ys;have r1':=r1;have r2':=r2;obtain ⟨a,vs,rfl,e1,z1⟩:=rep_tup.mp r1;obtain ⟨b,us,rfl,e2,z2⟩:=rep_tup.mp r2;refine .inr ⟨a,b,vs,us,rfl,rfl,SqT.of (I.sub _ _ e1),SqT.of (I.sub _ _ e2),n0i (by rw[z1.length,z2.length];exact h'.1),fun hv=>?_,fun hv hu=>?_,fun _ _ p hp=>k _ _ _ _ (I.alloc hp) (I.grow hp) (I.tup hp (z1.append z2)) h'.2⟩
  ·have:xs=[]:=List.eq_nil_of_length_eq_zero (by rw[←z1.length,hv];rfl);subst this;exact k _ _ F H I (Same.refl F) r2' h'.2
  ·have:ys=[]:=List.eq_nil_of_length_eq_zero (by rw[←z2.length,hu];rfl);subst this;exact k _ _ F H I (Same.refl F) (by rw[List.append_nil];exact r1') h'.2
 ·exact h'.elim
noncomputable def a0d:FM:=fun ds es q=>match es with | [.int k,e]=>ds.length<1000∧(0≤k∧k≤1000)∧q .non (ds.take (min k.toNat ds.length)++[e]++ds.drop (min k.toNat ds.length))|_=>False
end
section
variable{X:Cx}{Y:Y2}{W:XW}{a:Expr}{ta:TA2}{p p2 pos pos2:Pos}{i:Nat}{x:Str}{pos':Pos}
noncomputable def lrQ(ds:List D)(q:List D→Prop):Prop:=match ds with | [.int n]=>(0≤n∧n≤1000)∧q (rngD 0 n.toNat)|_=>False
noncomputable def t2LR(ta:TA2):TE2:=fun x ρ δ q=>ta x ρ δ fun ds ρ1 δ1=>lrQ ds fun l=>q (.lst l) ρ1 δ1
noncomputable def a0c(i:Nat)(ta:TA2):TS2:=fun E ρ δ=>ta E.xc ρ δ fun ds ρ1 δ1=>lrQ ds fun l=>E.nx (ρ1.set i (.own l)) δ1
end
structure KNo(K:Frag)(C:Addr):Prop where
 n:PySem.W.kitOne K (.type "NoneType") (.ref C)=some false
 b:PySem.W.kitOne K (.type "bool") (.ref C)=some false
 i:PySem.W.kitOne K (.type "int") (.ref C)=some false
 s:PySem.W.kitOne K (.type "str") (.ref C)=some false
 l:PySem.W.kitOne K (.type "list") (.ref C)=some false
 t:PySem.W.kitOne K (.type "tuple") (.ref C)=some false
 d:PySem.W.kitOne K (.type "dict") (.ref C)=some false
end DL
namespace L2
open PySem PySem.Spec PyProof.Rows
section
variable{X:Cx}
noncomputable def eqVs:List V→List V→Bool
 | [],[]=>true
 |x::xs,y::ys=>eqV x y&&eqVs xs ys
 |_,_=>false
theorem q0r:∀(xs ys:List V),((List.range (min xs.length ys.length)).all (fun j=>match xs[j]?,ys[j]? with |some x,some y=>eqV x y |_,_=>false)&&xs.length==ys.length)=eqVs xs ys
 | [],[]=>rfl
 | [],_::_=>by simp[eqVs]
 |_::_,[]=>by simp[eqVs]
 |x::xs,y::ys=>by
  have ih:=q0r xs ys;have e:min (x::xs).length (y::ys).length=min xs.length ys.length+1:=by simp only[List.length_cons];omega
  rw[e,List.range_succ_eq_map,List.all_cons,List.all_map];unfold eqVs;rw[←ih,← Bool.and_assoc];simp only[List.length_cons,List.getElem?_cons_zero];congr 1;simp
noncomputable def rEqT(K:PySem.W.Frag)(neg:Bool):R2:=fun x y H Q=>∃a b xs ys,x=.ref a∧y=.ref b∧SqT K H a xs∧SqT K H b ys∧xs.all l9=true∧ys.all l9=true∧Q (.bl (if neg then !eqVs xs ys else eqVs xs ys)) H
theorem n0a{A:Around}{s:Shared}{xs ys:List V}{us ws:List Value}(r:Vals xs us)(r':Vals ys ws)(f:xs.all l9=true)(f':ys.all l9=true):∀j (h1:j<us.toArray.size) (h2:j<ws.toArray.size),SeqAt.EqAt A s us.toArray[j] ws.toArray[j] (match xs[j]?,ys[j]? with |some x,some y=>eqV x y |_,_=>false):=by
 intro j h1 h2;have l1:j<xs.length:=by rw[r.length];simpa using h1
 have l2:j<ys.length:=by rw[r'.length];simpa using h2
 obtain ⟨u,hu,ru⟩:=r.get (List.getElem?_eq_getElem l1);obtain ⟨w,hw,rw'⟩:=r'.get (List.getElem?_eq_getElem l2);have eu:us.toArray[j]=u:=by
  have:us[j]?=some us.toArray[j]:=by simp
  rw[hu]at this;exact (Option.some.inj this).symm
 have ew:ws.toArray[j]=w:=by
  have:ws[j]?=some ws.toArray[j]:=by simp
  rw[hw]at this;exact (Option.some.inj this).symm
 rw[eu,ew,List.getElem?_eq_getElem l1,List.getElem?_eq_getElem l2];exact i0x ru rw' (List.all_eq_true.mp f _ (List.getElem_mem l1)) (List.all_eq_true.mp f' _ (List.getElem_mem l2))
theorem op_eqT(hu:X.A.units<cLine):OpR X (compareOp .Eq) (rEqT X.K false):=by
 intro pins s σ H x y v u Q I rx ry h;obtain ⟨a,b,xs,ys,rfl,rfl,ha,hb,f1,f2,q⟩:=h;cases rx;cases ry;obtain ⟨its,r,p,_⟩:=I.tuple ha;obtain ⟨its2,r2,p2,_⟩:=I.tuple hb;refine SeqAt.eq_tupleAt p p2 hu (n0a r r2 f1 f2) ⟨.bl (eqVs xs ys),H,I,?_,q⟩;rw[←q0r,r.length,r2.length];simp only[List.size_toArray];rfl
end
end L2
namespace DL
open PySem PySem.Spec L2
open PySem.W (XC)
section
variable{X:Cx}{K:Frag}
noncomputable def rEqE(K:Frag):R2:=fun x y H Q=>rEq x y H Q∨rEqT K false x y H Q
theorem y0w(hu:X.A.units<cLine):OpR X (compareOp .Eq) (rEqE X.K):=i0i op_eq (op_eqT hu)
noncomputable def eqDs:List D→List D→Bool
 | [],[]=>true
 |x::xs,y::ys=>eqV (toV x) (toV y)&&eqDs xs ys
 |_,_=>false
theorem k0x:∀xs ys:List D,eqVs (xs.map toV) (ys.map toV)=eqDs xs ys
 | [],[]=>rfl
 | [],_::_=>rfl
 |_::_,[]=>rfl
 |x::xs,y::ys=>by rw[List.map_cons,List.map_cons];unfold eqVs eqDs;rw[k0x xs ys]
noncomputable def eqG:F2:=fun d1 d2 q=>match eqD d1 d2 with
 |some b=>q (.bl b)
 |none=>match d1,d2 with | .tup xs,.tup ys=>(xs.all m7&&ys.all m7)=true∧q (.bl (eqDs xs ys))|_,_=>False
noncomputable def neG:F2:=fun d1 d2 q=>match eqD d1 d2 with
 |some b=>q (.bl (!b))
 |none=>match d1,d2 with | .tup xs,.tup ys=>(xs.all m7&&ys.all m7)=true∧q (.bl (!eqDs xs ys))|_,_=>False
theorem u0q:OpD K (rEqE K) eqG:=by
 intro Y F H σ ρ δ x y d1 d2 Q1 q I r1 r2 h' k;unfold eqG at h';split at h'
 ·rename_i b e;exact .inl (d_eq Y F H σ ρ δ x y d1 d2 Q1 q I r1 r2 (by unfold eqF;rw[e];exact h') k)
 ·split at h'
  ·rename_i xs ys;obtain ⟨hf,h'⟩:=h';rw[Bool.and_eq_true]at hf;obtain ⟨a,vs,rfl,e1,z1⟩:=rep_tup.mp r1;obtain ⟨b,us,rfl,e2,z2⟩:=rep_tup.mp r2;obtain ⟨e3,e4⟩:=k9 hf.1 z1;obtain ⟨e5,e6⟩:=k9 hf.2 z2;refine .inr ⟨a,b,vs,us,rfl,rfl,SqT.of (I.sub _ _ e1),SqT.of (I.sub _ _ e2),e4,e6,?_⟩;rw[if_neg Bool.false_ne_true,e3,e5,k0x];exact k _ _ F H I (Same.refl F) (rep_bl.mpr rfl) h'
  ·exact h'.elim
noncomputable def cutD(xs:List D)(lo hi:Option Int):List D:=(xs.drop (HT.sIx xs.length 0 lo)).take (HT.sIx xs.length xs.length hi-HT.sIx xs.length 0 lo)
theorem Reps.cut{F:Hp}{ds:List D}{vs:List V}{lo hi:Option Int}(r:Reps K F ds vs):Reps K F (cutD ds lo hi) (cutV vs lo hi):=by
 unfold cutD cutV;rw[r.length];exact (r.drop _).take _
noncomputable abbrev TO2:=XK2→En→Dk→(Option Int→En→Dk→Prop)→Prop
variable{Y:Y2}{W:XW}{e lo hi:Expr}{te tl th:TE2}{pos p2:Pos}
noncomputable def upO(K:Frag)(Y:Y2)(W:XW)(t:TO2):TO:=fun σ H Q=>∃F ρ δ x q,I2 K Y F H σ ρ δ∧t x ρ δ q∧(∀o F' H' ρ' δ',I2 K Y F' H' σ ρ' δ'→Same F F'→q o ρ' δ'→Q o H')∧XR K Y W F x
structure PO2(X:Cx)(Y:Y2)(W:XW)(e:Option Expr)(t:TO2):Prop where
 go:PO X e (upO X.K Y W t)
noncomputable def t2ON:TO2:=fun _ ρ δ q=>q none ρ δ
noncomputable def t2OI(te:TE2):TO2:=fun x ρ δ q=>te x ρ δ fun d ρ1 δ1=>match d with | .int i=>q (some i) ρ1 δ1 |_=>False
theorem m8:PO2 X Y W none t2ON:=⟨fun pins s σ H Q I ⟨F,ρ,δ,x,q,I',h,k,kx⟩=>b0o pins s σ H Q I (k none F H ρ δ I' (Same.refl F) h)⟩
theorem l8(h:PE2 X Y W e te):PO2 X Y W (some e) (t2OI te):=⟨fun pins s σ H Q I ⟨F,ρ,δ,x,q,I',h',k,kx⟩=>b0n h.go pins s σ H Q I ⟨F,ρ,δ,x,_,I',h',fun d v F1 H1 ρ1 δ1 I1 s1 r1 h1=>by
 cases d with
 |int i=>exact ⟨i,rep_int.mp r1,k (some i) F1 H1 ρ1 δ1 I1 s1 h1⟩
 |_=>exact h1.elim,kx⟩⟩
noncomputable def slF(d:D)(l u:Option Int)(q:D→Prop):Prop:=match d with
 | .lst xs=>q (.lst (cutD xs l u))
 | .tup xs=>¬(HT.sIx xs.length 0 l=0∧HT.sIx xs.length xs.length u=xs.length)∧q (.tup (cutD xs l u))
 |_=>False
noncomputable def t2Sl(te:TE2)(tl th:TO2):TE2:=fun x ρ δ q=>te x ρ δ fun d ρ1 δ1=>tl x ρ1 δ1 fun l ρ2 δ2=>th x ρ2 δ2 fun u ρ3 δ3=>slF d l u fun e=>q e ρ3 δ3
theorem f6{lo hi:Option Expr}{tl th:TO2}(he:PE2 X Y W e te)(hl:PO2 X Y W lo tl)(hu:PO2 X Y W hi th):PE2 X Y W (.Subscript e (.Slice lo hi none p2) pos) (t2Sl te tl th):=pe2 (f0n (SlR.or b0k sl_tup) he.go hl.go hu.go) fun σ H Q ⟨F,ρ,δ,x,q,I,h,k,kx⟩=>by
 refine ⟨F,ρ,δ,x,_,I,h,fun d v F1 H1 ρ1 δ1 I1 s1 r1 h1=>⟨F1,ρ1,δ1,x,_,I1,h1,fun l F2 H2 ρ2 δ2 I2' s2 h2=>⟨F2,ρ2,δ2,x,_,I2',h2,fun u F3 H3 ρ3 δ3 I3 s3 h3=>?_,kx.mono (s1.trans s2)⟩,kx.mono s1⟩,kx⟩;have sa:=(s1.trans s2).trans s3;have r3:=r1.mono (s2.trans s3);unfold slF at h3;cases d with
 |lst xs=>
  obtain ⟨a,vs,rfl,ea,z⟩:=rep_lst.mp r3;exact .inl ⟨a,vs,rfl,SqL.of (I3.sub _ _ ea),fun p hp=>k _ _ _ _ ρ3 δ3 (I3.alloc hp) (sa.trans (I3.grow hp)) (I3.lst hp z.cut) h3⟩
 |tup xs=>
  obtain ⟨a,vs,rfl,ea,z⟩:=rep_tup.mp r3;exact .inr ⟨a,vs,rfl,SqT.of (I3.sub _ _ ea),by rw[z.length];exact h3.1,fun p hp=>k _ _ _ _ ρ3 δ3 (I3.alloc hp) (sa.trans (I3.grow hp)) (I3.tup hp z.cut) h3.2⟩
 |_=>exact h3.elim
end
theorem q0q{te:TE2}{js:List Nat}{ρ:En}{q:List D→Dk→Prop}:∀(ds acc:List D) (δ:Dk),compM false 1 t0j te js ρ q ds acc δ=w0d te js ρ q ds acc δ
 | [],acc,δ=>rfl
 |d::ds,acc,δ=>by
  show (te (fun _ _ _ _=>False) (.val d::capt ρ js) δ fun e _ δ2=>acc.length<1000∧compM false 1 t0j te js ρ q ds (acc++[e]) δ2)=te (fun _ _ _ _=>False) (.val d::capt ρ js) δ fun e _ δ1=>acc.length<1000∧w0d te js ρ q ds (acc++[e]) δ1
  congr 1;funext e ρ1 δ1;rw[q0q ds (acc++[e]) δ1]
end DL
namespace L2
open PySem PySem.Spec PyProof.Rows PySem.W PySem.SeqAt
open AutoSeq1 (wpAny_loadPart')
open MeetsSeq MeetsSeq2 MeetsSeq3 SeqRoads2
section
variable{prog:Program}{w:World}{A:Around}{E:Value→Shared→Prop}{s:Shared}
end
section
variable{B:Nat}
end
section
variable{prog:Program}{w:World}{A:Around}{E:Value→Shared→Prop}{s:Shared}
end
end L2
namespace L2
open PySem PySem.Spec PyProof.Rows PySem.W
section
variable{X:Cx}
end
end L2
namespace DL
open PySem PySem.Spec L2
end DL
namespace L2
open PySem PySem.Spec PyProof.Rows PySem.W
open AutoSeq1 (wpAny_loadPart')
section
variable{X:Cx}
end
end L2
namespace DL
open PySem PySem.Spec L2
end DL
namespace L2
end L2
namespace DL
open PySem PySem.Spec L2
end DL
namespace DL
open PySem PySem.Spec L2
theorem h0l{X:Cx}{Y:Y2}{W:XW}{ss:List Stmt}{t t':TS2}(h:PSs2 X Y W ss t)(k:∀E ρ δ,t' E ρ δ→t E ρ δ):PSs2 X Y W ss t':=⟨l0h h.go fun D σ H ⟨F,ρ,δ,E2,I,q,er⟩=>⟨F,ρ,δ,E2,I,k _ _ _ q,er⟩⟩
end DL
namespace L2
open PySem PySem.Spec PyProof.Rows PySem.W
end L2
namespace DL
open PySem PySem.Spec L2
section
variable{X:Cx}{Y:Y2}{W:XW}{x:Str}{p tpos pos:Pos}{e j:Expr}{te tj:TE2}
noncomputable def t2AugV(i:Nat)(g:Int→Int→Int)(tj te:TE2):TS2:=fun E ρ δ=>(mutV ρ δ i).isSome=true∧tj E.xc ρ δ fun dj ρ1 δ1=>match mutV ρ1 δ1 i,dj with
 |some (ds,_),.int j=>(match atI ds j with
  |some (.int a)=>te E.xc ρ1 δ1 fun d ρ2 δ2=>(match d,mutV ρ2 δ2 i with
   | .int b,some (ds',put)=>(match ixN ds'.length j with |some m=>E.nx (put (ds'.set m (.int (g a b)))).1 (put (ds'.set m (.int (g a b)))).2 |none=>False)
   |_,_=>False)
  |_=>False)
 |_,_=>False
end
end DL
namespace DL
open PySem PySem.Spec L2
theorem j0x{te:TE2}{js:List Nat}{ρ:En}{q:List D→Dk→Prop}{ds:List D}{δ:Dk}(I:Nat→Dk→Prop)(R:Nat→D→D→Prop)(hl:ds.length≤1000)(h0:I 0 δ)
 (step:∀(i:Nat) (d:D) (δ':Dk),ds[i]?=some d→I i δ'→∀Q:D→Dk→Prop,(∀e δ1,R i d e→I (i+1) δ1→Q e δ1)→te (fun _ _ _ _=>False) (.val d::capt ρ js) δ' fun e _ δ1=>Q e δ1)
 (fin:∀acc δ',acc.length=ds.length→(∀i d e,ds[i]?=some d→acc[i]?=some e→R i d e)→I ds.length δ'→q acc δ'):w0d te js ρ q ds [] δ:=by
 refine l0a (fun i acc δ'=>acc.length=i∧(∀j d e,ds[j]?=some d→acc[j]?=some e→R j d e)∧I i δ') ⟨rfl,fun j d e _ h=>(by simp at h),h0⟩ ?_ ?_
 ·rintro i d acc δ' rest hi ⟨rfl,hR,hI⟩ hrest;have hlt:=(List.getElem?_eq_some_iff.mp hi).1;refine step _ d δ' hi hI (fun e δ1=>acc.length<1000∧rest (acc++[e]) δ1) fun e δ1 hr hI1=>⟨by omega,hrest _ _ ⟨by rw[List.length_append];rfl,fun j d' e' h1 h2=>?_,hI1⟩⟩
  rcases Nat.lt_or_ge j acc.length with hj |hj
  ·rw[List.getElem?_append_left hj]at h2;exact hR j d' e' h1 h2
  ·rw[List.getElem?_append_right hj]at h2;have hj2:j-acc.length=0:=by
    have:=(List.getElem?_eq_some_iff.mp h2).1;simp at this;omega
   rw[hj2]at h2;have hj3:j=acc.length:=by omega
   subst hj3;rw[hi]at h1;cases h1;cases h2;exact hr
 ·rintro acc δ' ⟨h1,h2,h3⟩;exact fin acc δ' h1 h2 h3
theorem o0m{te:TE2}{js:List Nat}{ρ:En}{q:List D→Dk→Prop}{ds:List D}{δ:Dk}(f:D→D)(hl:ds.length≤1000)
 (step:∀d∈ds,∀Q:D→Dk→Prop,Q (f d) δ→te (fun _ _ _ _=>False) (.val d::capt ρ js) δ fun e _ δ1=>Q e δ1) (fin:q (ds.map f) δ):w0d te js ρ q ds [] δ:=by
 refine j0x (fun _ δ'=>δ'=δ) (fun _ d e=>e=f d) hl rfl (fun i d δ' hi h Q hQ=>?_) fun acc δ' h1 h2 h3=>?_
 ·subst h;exact step d (List.mem_of_getElem? hi) Q (hQ _ _ rfl rfl)
 ·subst h3;have:acc=ds.map f:=by
   apply List.ext_getElem?;intro i;rw[List.getElem?_map];cases e1:ds[i]? with
   |none=>
    rw[List.getElem?_eq_none_iff]at e1;rw[List.getElem?_eq_none (by omega)];rfl
   |some d=>
    have hi:=(List.getElem?_eq_some_iff.mp e1).1;have hi2:i<acc.length:=by omega
    rw[List.getElem?_eq_getElem hi2,h2 i d _ e1 (List.getElem?_eq_getElem hi2)];rfl
  rw[this];exact fin
end DL
namespace L2
open PySem PySem.Spec PyProof.Rows
section
variable{prog:Program}{w:World}{A:Around}{E:Value→Shared→Prop}{s:Shared}
end
section
variable{prog:Program}{w:World}{A:Around}{E:Value→Shared→Prop}{s:Shared}
end
section
variable{X:Cx}
end
end L2
namespace DL
open PySem PySem.Spec L2
section
variable{X:Cx}{Y:Y2}{W:XW}{a e tg:Expr}{ta:TA2}{te:TE2}{p p2 pos pos2:Pos}
noncomputable def t2TR(ta:TA2):TE2:=fun x ρ δ q=>ta x ρ δ fun ds ρ1 δ1=>lrQ ds fun l=>q (.tup l) ρ1 δ1
noncomputable def d0y(g:G2)(te:TE2):TS2:=fun E ρ δ=>te E.xc ρ δ fun d ρ1 δ1=>match g d ρ1 with |some ρ2=>E.nx ρ2 δ1 |none=>False
theorem t0h{g:TG}{g2:G2}(he:PE2 X Y W e te)(hg:PG X tg g)(hd:TgD X.K g g2)(hs:swapsWithSole [tg] e pos.line X.env=pure false:=by rfl)(hw:swappedStores [tg] e X.env=pure none:=by rfl)
 (h1:(assignEach [tg] X.env).map (·.2)=[assign tg X.env]:=by rfl):PS2 X Y W (.Assign [tg] e pos) (d0y g2 te):=ps2 (ps_asg he.go hg hs hw h1) fun E1 σ H ⟨F,ρ,δ,E2,I,h,er⟩=>by
 refine ⟨F,ρ,δ,E2.xc,_,I,h,fun d v F1 H1 ρ1 δ1 I1 s1 r1 h1=>?_,er.xc⟩;split at h1
 ·rename_i ρ2 e2;exact hd Y F1 H1 σ ρ1 ρ2 δ1 d v _ I1 r1 e2 fun σ' I'=>er.nx σ' F1 H1 ρ2 δ1 I' s1 h1
 ·exact h1.elim
end
end DL
namespace L2
open PySem PySem.Spec PyProof.Rows
section
variable{prog:Program}{w:World}{A:Around}{E:Value→Shared→Prop}{s:Shared}
end
noncomputable def sortZ(ns:List Int):List Int:=ns.mergeSort fun a b=>decide (a≤b)
section
variable{X:Cx}
end
end L2
namespace DL
open PySem PySem.Spec L2
noncomputable def sortIF:F1:=fun ds q=>match ds with
 | [d]=>(match seqD d with |some xs=>(match n0b xs with |some ns=>ns.length<64∧q (.lst ((sortZ ns).map D.int))|none=>False)|none=>False)
 |_=>False
end DL
namespace L2
open PySem PySem.Spec PyProof.Rows PySem.W
open AutoSeq1 (wpAny_loadPart')
section
variable{X:Cx}
end
end L2
namespace DL
open PySem PySem.Spec L2
noncomputable def a0b:F2:=fun d1 d2 q=>match d1,d2 with
 | .tup xs,.int k=>xs.length*k.toNat≤1000∧0≤k∧k≤1000∧xs≠[]∧q (.tup (List.replicate k.toNat xs).flatten)
 |_,_=>False
noncomputable def neL:F2:=fun d1 d2 q=>match d1,d2 with | .lst xs,.lst ys=>(xs.all m7&&ys.all m7)=true∧q (.bl (!eqDs xs ys))|_,_=>False
noncomputable def a0a:F1:=fun ds q=>match ds with | [d]=>(match seqD d with |some xs=>(match n0b xs with |some ns=>ns≠[]∧∀n∈ns,q (.int n)|none=>False)|none=>False)|_=>False
theorem bt_str:bootBuiltins "str"=some (.type "str"):=by kernel_rfl
noncomputable def strF:F1:=fun ds q=>match ds with | [.int i]=>i.natAbs.log2<1920∧q (.str (toString i))|_=>False
theorem d_str{K:PySem.W.Frag}:u0s K (fun xs H Q=>∃i,xs=[V.int i]∧i.natAbs.log2<1920∧Q (V.str (toString i)) H) strF:=by
 intro Y F H σ ρ δ vs ds Q1 q I r h' k;unfold strF at h';split at h'
 ·obtain ⟨v,rfl,r1⟩:=y0u r;rw[rep_int.mp r1];exact ⟨_,rfl,h'.1,k _ _ F H I (Same.refl F) (rep_str.mpr rfl) h'.2⟩
 ·exact h'.elim
noncomputable def addS:F2:=fun d1 d2 q=>match d1,d2 with
 | .str x,.str y=>x.length+y.length≤1000∧q (.str (x++y))
 |_,_=>False
noncomputable def addH:F2:=fun d1 d2 q=>match d1,d2 with
 | .lst xs,.lst ys=>xs.length+ys.length≤100000∧q (.lst (xs++ys))
 |_,_=>False
theorem k0w{K:PySem.W.Frag}:OpD K rCat addH:=by
 intro Y F H σ ρ δ x y d1 d2 Q1 q I r1 r2 h' k;unfold addH at h';split at h'
 ·rename_i xs ys;obtain ⟨a,vs,rfl,e1,z1⟩:=rep_lst.mp r1;obtain ⟨b,us,rfl,e2,z2⟩:=rep_lst.mp r2;exact ⟨a,b,vs,us,rfl,rfl,I.sub _ _ e1,I.sub _ _ e2,Nat.le_trans (by rw[z1.length,z2.length];exact h'.1) (by decide),fun p hp=>k _ _ _ _ (I.alloc hp) (I.grow hp) (I.lst hp (z1.append z2)) h'.2⟩
 ·exact h'.elim
section
variable{X:Cx}{Y:Y2}{W:XW}{a b:Expr}{ta tb:TE2}{x:Str}{pos pos' bpos:Pos}
noncomputable def d0x(i:Nat)(ta tb:TE2):TS2:=fun E ρ δ=>ta E.xc ρ δ fun d1 ρ1 δ1=>tb E.xc ρ1 δ1 fun d2 ρ2 δ2=>match d1,d2 with
 | .lst xs,.int k=>xs.length*k.toNat≤1000∧0≤k∧k≤1000∧E.nx (ρ2.set i (.own (List.replicate k.toNat xs).flatten)) δ2
 |_,_=>False
variable{i:Nat}{p:Pos}
noncomputable def t2MaxV(i:Nat):TE2:=fun x ρ δ q=>match seqV ρ δ i with |some xs=>(match n0b xs with |some ns=>ns≠[]∧∀n∈ns,q (.int n) ρ δ |none=>False)|none=>False
end
end DL
namespace L2
theorem Room.units1{k:Nat}{A:PySem.Around}(r:Room k A):A.units+1<PySem.cLine:=by have:=r.un;omega
end L2
namespace DL
open PySem PySem.Spec L2
noncomputable def valD(kvs:List (Key×D))(k:Key):Option D:=(kvs.find? fun kv=>decide (kv.1=k)).map (·.2)
noncomputable def putD(kvs:List (Key×D))(k:Key)(v:D):List (Key×D):=if (kvs.any fun kv=>decide (kv.1=k))=true then kvs.map (fun kv=>if kv.1=k then (kv.1,v)else kv)else kvs++[(k,v)]
section
variable{K:Frag}{F:Hp}
end
section
variable{X:Cx}{Y:Y2}{W:XW}{e j:Expr}{te tj tx:TE2}{x:Str}{i:Nat}{p pos pos' spos:Pos}
noncomputable def z1z(i:Nat):TS2:=fun E ρ δ=>E.nx (ρ.set i (.ownD [])) δ
noncomputable def t2PutD(i:Nat)(tj te:TE2):TS2:=fun E ρ δ=>te E.xc ρ δ fun d ρ1 δ1=>hasV ρ1 i=true∧tj E.xc ρ1 δ1 fun dj ρ2 δ2=>match ρ2[i]?,dj with
 |some (.ownD kvs),.int k=>kvs.length<1000∧E.nx (ρ2.set i (.ownD (putD kvs (.inl k) d))) δ2
 |_,_=>False
noncomputable def dicV(ρ:En)(i:Nat):Option (List (Key×D)):=match ρ[i]? with
 |some (.ownD kvs)=>some kvs
 |some (.val (.dwk kvs))=>some kvs
 |_=>none
noncomputable def t2GetD(i:Nat)(ty tx:TE2):TE2:=fun x ρ δ q=>(dicV ρ i).isSome=true∧ty x ρ δ fun dk ρ1 δ1=>tx x ρ1 δ1 fun dd ρ2 δ2=>match dicV ρ2 i,dk with
 |some kvs,.int k=>q ((valD kvs (.inl k)).getD dd) ρ2 δ2
 |_,_=>False
noncomputable def t2IxD(i:Nat)(ty:TE2):TE2:=fun x ρ δ q=>(dicV ρ i).isSome=true∧ty x ρ δ fun dk ρ1 δ1=>match dicV ρ1 i,dk with
 |some kvs,.int k=>(match valD kvs (.inl k)with |some d=>q d ρ1 δ1 |none=>False)
 |_,_=>False
end
end DL
namespace L2
open PySem PySem.Spec PyProof.Rows
section
variable{X:Cx}{pins:List (Addr×Obj)}{σ:St}{H:Hp}{s:Shared}{a:Addr}{kvs:List (Key×V)}
variable{tg:Expr}
end
end L2
namespace DL
open PySem PySem.Spec L2
section
variable{X:Cx}{Y:Y2}{W:XW}{tg e:Expr}{te:TE2}{x:Str}{i:Nat}{p pos:Pos}{K:Frag}
noncomputable def t2VD(i:Nat):TE2:=fun _ ρ δ q=>match ρ[i]? with |some (.ownD kvs)=>q (.dwk kvs) (ρ.set i (.val (.dwk kvs))) δ |_=>False
noncomputable def t2DicV(i:Nat)(v:Int):TE2:=fun _ ρ δ q=>match ρ[i]? with |some (.val (.int k))=>q (.dwk [(.inl k,.int v)]) ρ δ |_=>False
noncomputable def keyD:Key→D
 | .inl n=>.int n
 | .inr s=>.str s
noncomputable def t2Keys(te:TE2):TI2:=fun x ρ δ q=>te x ρ δ fun d ρ1 δ1=>match d with | .dwk kvs=>q (kvs.map fun kv=>keyD kv.1) ρ1 δ1 |_=>False
end
end DL
namespace L2
open PySem PySem.Spec PyProof.Rows
structure RoomU(k:Nat)(A:Around):Prop where
 dp:A.depth+3*k+5<recursionLimit
 un:A.units+16*k+200<cLine
theorem Room.u{k:Nat}{A:Around}(r:Room k A):RoomU k A:=⟨r.dp,r.un⟩
theorem RoomU.mono{j k:Nat}{A:Around}(r:RoomU k A)(h:j≤k):RoomU j A:=⟨by have:=r.dp;omega,by have:=r.un;omega⟩
theorem RoomU.deeper{k:Nat}{A:Around}(r:RoomU (k+1) A)(env:Env):RoomU k (A.deeper env):=
 ⟨by have:=r.dp;show A.depth+1+3*k+5<_;omega,by have:=r.un;show A.units+3+16*k+200<_;omega⟩
theorem RoomU.mark{k:Nat}{A:Around}(r:RoomU k A){v:Option Value}:RoomU k (A.mark v):=⟨r.dp,r.un⟩
theorem RoomU.units0{k:Nat}{A:Around}(r:RoomU k A):A.units<cLine:=by have:=r.un;omega
structure FnOkU(P:Program)(w:World)(K:PySem.W.Frag)(mg:Str→Option Value)(base:Heap)(CX:CXT)(k:Nat)(f:Addr)(fd:FuncData)(ps:List Str)(sp:Sp):Prop where
 len:∀vs H Q E,sp vs H Q E→vs.length=ps.length
 run:∀(A:Around) (outer:List Env) (s:Shared) (H:Hp) (args:Args) (us:List Value) (vs:List V) (Q:VK) (E:XK),RoomU k A→Env0 P w K mg base A outer s H→BindsTo s fd args (ps.zip us)→Vals vs us→sp vs H Q E→
  codeAny (model P w) A (.call (.ref f) args) (CR CX outer P w H s Q E) s
theorem FnOkU.calm{P:Program}{w:World}{K:PySem.W.Frag}{mg:Str→Option Value}{base:Heap}{CX:CXT}{k:Nat}{f:Addr}{fd:FuncData}{ps:List Str}{sp:Sp}(F:FnOkU P w K mg base CX k f fd ps sp):
 FnOk P w K mg base CX k f fd ps sp:=⟨F.len,fun A outer s H args us vs Q E hr=>F.run A outer s H args us vs Q E hr.u⟩
theorem r0h{CX:CXT}{P:Program}{w:World}{K:PySem.W.Frag}{mg:Str→Option Value}{base:Heap}{N ps:List Str}{qual:Str}{scope:Scope}{f:Addr}{cd:Value}{A:Around}{outer:List Env}{s s1:Shared}{H:Hp}{E:XK}{us:List Value}{vs:List V}
 (S:FnScope N ps scope) (e0:Env0 P w K mg base A outer s H) (hl:vs.length=ps.length) (r:Vals vs us)
 (x:InCallC s s.heap.objs.size (bindL (envOfC qual scope s.heap.objs.size f cd).kindOf (ps.zip us) fun _=>none) (cellsFrom (s.heap.objs.size+1) scope.names []) (bindC (envOfC qual scope s.heap.objs.size f cd).kindOf (ps.zip us) fun _=>none) s1):
 Inv {cxOf CX P w K mg base N qual scope f cd A outer s H E with calm:=false} [] (start N vs) H s1:=by
 have e1:Env0 P w K mg base {A with handled:=none} outer s H:=⟨e0.frames,e0.mod,e0.bs,e0.bsz,e0.funs,e0.frf,e0.hok,e0.bare⟩;have I:=p0l (CX:=CX) (qual:=qual) (f:=f) (cd:=cd) (E:=E) S rfl e1 hl r x;exact ⟨⟨I.ok.mod,I.ok.kind,I.ok.glob,I.ok.blt,I.ok.above,I.ok.inj,I.ok.has,I.ok.cab,(fun h=>nomatch h),Around.frames_deeper e0.frames,I.ok.stk,I.ok.exf,I.ok.bs,I.ok.bsz,I.ok.noex,I.ok.exfs,I.ok.funs,I.ok.frf⟩,I.os,I.bare,I.base,I.loc,I.cell,I.free,I.freeC,I.pin,I.hok,I.len⟩
theorem fn_ofU{CX:CXT}{P:Program}{w:World}{K:PySem.W.Frag}{mg:Str→Option Value}{base:Heap}{k:Nat}{f:Addr}{name qual:Str}{params:Arguments}{body:List Stmt}{scope:Scope}{dV kV doc pm cdv ct oc:Value}{an od:Option Addr}
 {osl:Array (Option Value)} {N ps:List Str} {sp:Sp} (lk:K.lookup f=some ⟨oc,od,.func (PySem.W.fnOf name qual params body scope dV kV doc pm an cdv ct),osl⟩) (hcd:PySem.W.codeIn K cdv qual=true) (S:FnScope N ps scope)
 (len:∀vs H Q E,sp vs H Q E→vs.length=ps.length)
 (hbody:∀(A:Around) (outer:List Env) (s:Shared) (H:Hp) (vs:List V) (Q:VK) (E:XK),RoomU k (A.deeper (envOfC qual scope s.heap.objs.size f cdv))→sp vs H Q E→
  ∃t,PSs {cxOf CX P w K mg base N qual scope f cdv A outer s H E with calm:=false} body t∧t {nx:=fun _ H'=>Q .non H',rt:=Q} (start N vs) H):
 FnOkU P w K mg base CX (k+1) f (PySem.W.fnOf name qual params body scope dV kV doc pm an cdv ct) ps sp:=by
 refine ⟨len,fun A outer s H args us vs Q E hr e0 hb r hsp=>?_⟩;have hl:=len _ _ _ _ hsp;have KX:K.In s.heap:=e0.mod.kin.keeps fun b o e=>(e0.bs b o e).1
 have lim:s.heap.NoLimit:=e0.mod.nolimit.keeps fun b o e=>(e0.bs b o e).1
 have hkind:∀y∈ps.zip us,scope.names.lookup y.1=some .local∨(scope.names.lookup y.1=some .cell∧((cellsFrom (s.heap.objs.size+1) scope.names []).lookup y.1).isSome=true):=fun ⟨n,v⟩ hy=>by
  rcases S.par n (List.of_mem_zip hy).1 with q |q
  ·exact .inl q
  ·exact .inr ⟨q,PySem.W.cellsFrom_some _ _ _ (.inl q)⟩
 refine codeAny_call_function (by have:=hr.dp;omega) (KX _ _ lk) rfl S.co S.gen rfl (PySem.W.codeRec_of KX hcd) (hb _ _ _ _ ?_);refine wpAny_newFunctionEnv_cells S.kind hkind fun env he s1 x=>?_
 subst he;refine ⟨lim.keeps x.toInCall.keep,codeAny_func ?_⟩;obtain ⟨t,ht,hq⟩:=hbody A outer s H vs Q E (hr.deeper _) hsp;have I:Inv {cxOf CX P w K mg base N qual scope f cdv A outer s H E with calm:=false} [] (start N vs) H s1:=r0h S e0 hl r x;refine wpAny_mono (ht [] s1 (start N vs) H _ I hq) (fun fl s' hs=>?_) fun e s' hs=>hs
 have fin:∀{σ':St} {H':Hp} {v:V} {u:Value},Inv {cxOf CX P w K mg base N qual scope f cdv A outer s H E with calm:=false} [] σ' H' s'→RelV v u→Q v H'→CE outer P w H s Q u s':=
  fun {σ' H' v u} J rv q=>⟨v,H',J.os,J.bare,J.base,J.hok,rv,q⟩
 cases fl with
 |ret u=>
  obtain ⟨v,σ',H',J,rv,q⟩:=hs;exact fin J rv q
 |next=>
  obtain ⟨σ',H',J,q⟩:=hs;exact fin (v:=V.non) (u:=Value.none) J rfl q
 |brk=>
  obtain ⟨_,_,_,q⟩:=hs;exact False.elim q
 |cont=>
  obtain ⟨_,_,_,q⟩:=hs;exact False.elim q
structure FnAtU(P:Program)(w:World)(K:PySem.W.Frag)(mg:Str→Option Value)(base:Heap)(CX:CXT)(x:Str)(k:Nat)(ps:List Str)(sp:Sp):Prop where
 ex:∃f fd,FnOkU P w K mg base CX k f fd ps sp∧mg x=some (.ref f)∧PySem.W.keepIn K (.ref f)=true∧Binds K fd ps []
theorem FnAtU.calm{P:Program}{w:World}{K:PySem.W.Frag}{mg:Str→Option Value}{base:Heap}{CX:CXT}{x:Str}{k:Nat}{ps:List Str}{sp:Sp}(G:FnAtU P w K mg base CX x k ps sp):FnAt P w K mg base CX x k ps sp:=
 let ⟨f,fd,F,r⟩:=G.ex
 ⟨f,fd,F.calm,r⟩
section
variable{X:Cx}{pins:List (Addr×Obj)}{σ:St}{H:Hp}{s:Shared}
theorem d0w{k:Nat}{f:Addr}{fd:FuncData}{ps:List Str}{sp:Sp}{W:XW}{Q:VK}{us:List Value}{vs:List V}(F:FnOkU X.prog X.w X.K X.mg X.base (CX1 X.prog X.w) k f fd ps sp)(hr:RoomU k X.A)(hb:Binds X.K fd ps [])(hf:h8 X W)
 (I:Inv X pins σ H s) (r:Vals vs us) (h:sp vs H Q fun Cv od H'=>∃C,Cv=.ref C∧W C od σ H'):wpAny (model X.prog X.w) X.A (call (.ref f) us) (EP X pins σ Q) X.xe s:=by
 have hl:(us++[]).length=ps.length:=by rw[List.append_nil,← r.length];exact F.len _ _ _ _ h
 have hbd:=hb s us I.kIn hl;rw[List.append_nil]at hbd;refine wpAny_call (codeAny_mono (F.run X.A X.stack s H ⟨us,[]⟩ us vs Q _ hr I.env0 hbd r h) fun r s' hq=>?_);cases r with
 |error e=>exact hf pins e s' (r0b I hq)
 |ok fl=>
  cases fl with
  |ret u=>exact I.after hq
  |next=>exact False.elim hq
  |brk=>exact False.elim hq
  |cont=>exact False.elim hq
theorem pe_cU{k:Nat}{ps:List Str}{sp:Sp}{x:Str}{p pos:Pos}{e:Expr}{es:List Expr}{t:TA}{W:XW}(G:FnAtU X.prog X.w X.K X.mg X.base (CX1 X.prog X.w) x k ps sp)(hr:RoomU k X.A)(hf:h8 X W)(ha:PA X (e::es) t)(hg:Gl X x:=by rfl)(hdb:(x==("__debug__":Str))=false:=by decide)
 (he:starEach (e::es) X.env=(false,eval e X.env)::starEach es X.env:=by rfl) (hpl:(backTo pos (starEach es X.env)).any (·.1)=false:=by rfl):PE X (.Call (.Name x p) (e::es) [] pos) (p0e sp W t):=by
 obtain ⟨f,fd,F,m,kp,b⟩:=G.ex;intro pins s σ H Q I h;refine wpAny_Call_Name_kw (z0v I hg m ?_ hdb);refine PySem.W.callWith_K (h₀:=X.base) I.ok.mod.kin kp (thn (ha pos pins s σ H _ I h) fun us s1 ⟨vs,H1,I1,r,q⟩=>⟨I1.kIn,?_⟩) he hpl;exact d0w F hr b hf I1 r q
end
end L2
namespace DL
open PySem PySem.Spec L2
open PySem.W (XC)
open PyProof.Rows (envOfC)
noncomputable abbrev m0z(P:Program)(w:World)(K:Frag)(mg:Str→Option Value)(base:Heap)(x:Str)(k:Nat)(ps:List Str)(sp:Sp2):Prop:=FnAtU P w K mg base (CX1 P w) x k ps (upF K sp)
section
variable{X:Cx}{Y:Y2}{W:XW}{x:Str}{p pos:Pos}{e:Expr}{es:List Expr}{t:TA2}{k:Nat}{ps:List Str}{sp:Sp2}
theorem p9(G:m0z X.prog X.w X.K X.mg X.base x k ps sp)(hr:RoomU k X.A)(hf:h8 X W)(ha:PA2 X Y W (e::es) t)(hg:Gl X x:=by rfl)(hdb:(x==("__debug__":Str))=false:=by decide)
 (he:starEach (e::es) X.env=(false,eval e X.env)::starEach es X.env:=by exact x6 rfl) (hpl:(backTo pos (starEach es X.env)).any (·.1)=false:=by exact l7 rfl):PE2 X Y W (.Call (.Name x p) (e::es) [] pos) (w0s sp t):=pe2 (pe_cU G hr hf ha.go hg hdb he hpl) fun σ H Q h=>i0a h
end
section
variable{P:Program}{w:World}{K:Frag}{mg:Str→Option Value}{base:Heap}
theorem h0k{x:Str}{st:Stmt}{f:Addr}{fd:FuncData}{N ps:List Str}{k:Nat}{sp:Sp2}(D:DefAt K mg x st ps f fd)(S:FnScope N ps (defScope st))(len:∀ds δ q x,sp ds δ q x→ds.length=ps.length)
 (hbody:∀(cdv:Value) (A:Around) (outer:List Env) (s:Shared) (H:Hp) (E:XK) (Y:Y2),RoomU k (A.deeper (envOfC x (defScope st) s.heap.objs.size f cdv))→
  ∃t,PSs2 {cxX P w K mg base N x (defScope st) f cdv A outer s H E with calm:=false} Y W0 (defBody st) t∧
   ∀ds δ q x,sp ds δ q x→t {nx:=fun _ δ=>q .non δ,rt:=q,xc:=fun _ _ _ _=>False} (x4 N ds) δ):m0z P w K mg base x (k+1) ps sp:=by
 obtain ⟨oc,od,kV,doc,pm,an,cdv,ct,osl,rfl,lk,hcd⟩:=D.F.ex;refine ⟨f,_,fn_ofU lk hcd S (fun vs H Q E h=>?_) fun A outer s H vs Q E hr h=>?_,D.m,D.F.kp,D.b⟩
 ·obtain ⟨F,ds,δ,q,x,_,_,r,h,_⟩:=h;rw[r.length];exact len ds δ q x h
 ·obtain ⟨F,ds,δ,q,x,s1,dk,r,h,kq,kx⟩:=h;obtain ⟨t,ht,rd⟩:=hbody cdv A outer s H E ⟨F,H,δ,none⟩ hr;refine ⟨_,ht.go,F,x4 N ds,δ,_,I2.start s1 dk r,rd ds δ q x h,⟨fun σ' F' H' ρ' δ' I' s' h'=>?_,fun d v σ' F' H' ρ' δ' I' s' r' h'=>?_,fun C od fs σ' F' H' ρ' δ' I' s' r' h'=>h'.elim,fun _ _ _ _ _ _ _ z=>z.elim,fun _ _ _ _ _ _ _ z=>z.elim⟩⟩
  ·exact kq .non .non F' H' δ' I'.ran (rep_non.mpr rfl) h'
  ·exact kq d v F' H' δ' I'.ran r' h'
end
end DL
namespace L2
open PySem PySem.Spec PyProof.Rows PySem.Calls
theorem j0w:typeLookup (.type "list_reverseiterator") "__len__"=pure none:=by rw[typeLookup_type,builtinLookup_eq_fast];kernel_rfl
theorem d0v:typeLookup (.type "list_reverseiterator") "__length_hint__"=pure (some (.builtin "list_reverseiterator.__length_hint__")):=by rw[typeLookup_type,builtinLookup_eq_fast];kernel_rfl
section
variable{prog:Program}{w:World}{A:Around}{E:Value→Shared→Prop}{s:Shared}{I l:Addr}{its:Array Value}
theorem d0u{Q:Bool→Shared→Prop}(t:s.TypeIs (.ref I) "list_reverseiterator")(q:Q false s):wpAny (model prog w) A (Builtin.List.listLengthHint (.ref I)) Q E s:=by
 unfold Builtin.List.listLengthHint;refine wpAny_bind (wpAny_specialOf t j0w ?_);refine wpAny_ite_split (fun z=>absurd z (by decide +kernel)) fun _=>?_
 refine wpAny_ite_split (fun z=>absurd z (by decide)) fun _=>?_
 refine wpAny_bind (wpAny_specialOf t d0v ?_);generalize hid:("list_reverseiterator.__length_hint__":String)=iz
 wp_delta
 rw[show splitId iz=some ("list_reverseiterator","__length_hint__")from by subst hid;decide +kernel];subst hid;refine wpAny_bind (wpAny_isInstance (T:="list_reverseiterator") (b:=true) t (by rw[isSubtype_type];kernel_rfl) ?_);refine wpAny_ite_split (fun z=>absurd z (by decide)) fun _=>?_
 refine wpAny_ite_split (fun _=>?_) fun z=>absurd (by decide +kernel) z
 refine wpAny_ite_split (fun z=>absurd z (by decide +kernel)) fun _=>?_
 exact wpAny_pure q
theorem q0p{Q:Value→Shared→Prop}(hh:A.handled=none)(hi:s.heap.IsRevIter I l ((its.size:Int)-1))(hl:s.heap.IsList l its)(ne:l≠I)(hn:its.size≤sizeLine)
 (hq:∀h' tk acc c,(∀b o,b≠I→s.heap.get? b=some o→h'.get? b=some o)→h'.get? s.heap.objs.size=some {cls:=.type "list",dict:=none,data:=.seq acc c,slots:=#[]}→ItemsOf (fun i v=>its[its.size-1-i]?=some v) acc its.size→Q (.ref s.heap.objs.size) {s with heap:=h',toks:=tk}):
 wpAny (model prog w) A (call (.type "list") [.ref I]) Q E s:=by
 have zi:I<s.heap.objs.size:=let ⟨_,e,_⟩:=hi;Heap.lt_size e
 have zl:l<s.heap.objs.size:=let ⟨_,e,_⟩:=hl;Heap.lt_size e
 refine callType_codes (Q₁:=fun d s₁=>d=.ref s.heap.objs.size∧s₁={s with heap:=s.heap.push {cls:=.type "list",data:=.seq #[]}}) PySem.F.called_list (PySem.F.typeCall_list_1 _) PySem.F.entry_list_init (code_list_new _ ⟨rfl,rfl⟩) fun d s₁ ⟨e1,e2⟩=>?_
 subst e1 e2;generalize hD:s.heap.objs.size=D at*
 have hDI:D≠I:=Nat.ne_of_gt zi;have hDl:D≠l:=Nat.ne_of_gt zl;have f0:(s.heap.push {cls:=.type "list",data:=.seq #[]}).get? D=some {cls:=.type "list",data:=.seq #[]}:=by rw[←hD];exact Heap.get?_push_size _ rfl
 have f1:=Heap.get?_update_self (Obj.mapSeq fun _=>(#[]:Array Value)) f0 rfl;have f2:=Heap.get?_update_self (Obj.mapSeq (·.push Value.none)) f1 rfl;have f3:=Heap.get?_update_self (Obj.mapSeq (·.pop)) f2 rfl;have k1:∀b o,s.heap.get? b=some o→((s.heap.push {cls:=.type "list",data:=.seq #[]}).update D (Obj.mapSeq fun _=>(#[]:Array Value))).get? b=some o:=fun b o e=>by
  rw[Heap.get?_update_other _ _ (Nat.ne_of_gt (hD▸Heap.lt_size e))];exact Heap.get?_push_of_some _ e
 have W:=(Walks.listRev (prog:=prog) (w:=w) (A:=A.in1.in1) hh I l ne its).toS;have go:∀h c tk,(∀b o,s.heap.get? b=some o→h.get? b=some o)→h.get? D=some {cls:=.type "list",data:=.seq #[] c}→
  codeAny (model prog w) A.in1 (.builtin "list.extend.loop" ⟨[.ref D,.ref I,.none],[]⟩) (wants (fun r s₂=>r=.none∧Q (.ref D) s₂) E) {s with heap:=h,toks:=tk}:=fun h c tk kp f=>by
  refine codeAny_extend_loopS W hn D (by simp[hDI,hDl]) .none its.size 0 _ #[] c rfl (Nat.zero_le _) ⟨Nat.zero_le _,?_,hl.at fun o e=>kp l o e⟩ f (ItemsOf.nil _) fun s' acc c' hm fe ha=>⟨rfl,?_⟩
  ·have z:(its.size:Int)-1-((0:Nat):Int)=(its.size:Int)-1:=by omega
   rw[z];exact hi.at fun o e=>kp I o e
  ·rw[Moved.eq_with hm];refine hq s'.heap s'.toks acc c' (fun b o hb e=>hm.heap b o (fun z=>?_) (kp b o e)) fe ha;have lt:b<D:=hD▸Heap.lt_size e;rcases List.mem_cons.mp z with z |z
   ·exact Nat.ne_of_lt lt z
   ·exact hb (List.mem_singleton.mp z)
 refine ⟨⟨_,f0,rfl⟩,PySem.F.args_list_init_2 _ _,?_⟩;show wpAny _ _ (do let old←Builtin.List.listItems (.ref D);Builtin.List.listUpdate (.ref D) (fun _=>#[]);letGo old.toList.reverse;Builtin.List.listExtendWith (.ref D) (.ref I) .none) _ _ _;refine wpAny_bind ?_;unfold Builtin.List.listItems;refine wpAny_bind (wpAny_seqItems f0 rfl (wpAny_pure ?_));show wpAny _ _ (updateSeq D (fun _=>#[]) >>= fun _=>letGo (#[]:Array Value).toList.reverse >>= fun _=>Builtin.List.listExtendWith (.ref D) (.ref I) .none) _ _ _;refine wpAny_bind (wpAny_updateSeq f0 rfl (wpAny_bind (wpAny_letGo ?_)));have ti:=hi.at (h':=(s.heap.push {cls:=.type "list",data:=.seq #[]}).update D (Obj.mapSeq fun _=>(#[]:Array Value))) fun o e=>k1 I o e
 unfold Builtin.List.listExtendWith;refine wpAny_bind (wpAny_typeOf (T:="list_reverseiterator") ti.typeIs ?_);have g1:Builtin.List.listSameRef (.ref D) (.ref I)=false:=by simp[Builtin.List.listSameRef,hDI]
 simp only[g1,show (Value.type "list_reverseiterator"==Value.type "list")=false by decide,show (Value.type "list_reverseiterator"==Value.type "tuple")=false by decide,Bool.or_false,Bool.false_eq_true,if_false];refine wpAny_bind (wpAny_pyIter_revIter ti ?_);refine wpAny_bind (wpAny_holding (d0u ti.typeIs ?_));refine wpAny_ite_split (fun _=>?_) fun _=>wpAny_pure ⟨plainId_quiet PySem.F.plain_extend_loop _,go _ _ _ k1 f1⟩
 refine wpAny_bind (wpAny_rule (wpAny_bind ?_));show wpAny _ _ (updateSeq D (·.push .none) >>= fun _=>updateSeq D (·.pop)) _ _ _;refine wpAny_bind (wpAny_updateSeq f1 rfl ?_);refine wpAny_updateSeq (hz:=by seq_fits) f2 rfl ?_;refine wpAny_pure ⟨plainId_quiet PySem.F.plain_extend_loop _,go _ _ _ (fun b o e=>?_) f3⟩;have lt:D≠b:=Nat.ne_of_gt (hD▸Heap.lt_size e);rw[Heap.get?_update_other _ _ lt,Heap.get?_update_other _ _ lt];exact k1 b o e
end
end L2
namespace L2
open PySem PySem.Spec PyProof.Rows PySem.Calls
section
variable{X:Cx}
noncomputable def tLRev(K:PySem.W.Frag)(ta:TA):TE:=fun σ H Q=>ta σ H fun vs H1=>∃a xs,vs=[.ref a]∧SqL K H1 a xs∧∀p,H1 p=none→Q (.ref p) (upd H1 p (.lst xs.reverse))
theorem r0g{a:Expr}{ta:TA}{p p2 pos pos2:Pos}(hc:X.calm=true)(hg:Gl X "reversed")(hm:X.mg "reversed"=none)(hg2:Gl X "list")(hm2:X.mg "list"=none)(ha:PA X [a] ta)(hs:starEach [a] X.env=[(false,eval a X.env)]:=by rfl)
 (hs2:starEach [.Call (.Name "reversed" p) [a] [] pos] X.env=[(false,eval (.Call (.Name "reversed" p) [a] [] pos) X.env)]:=by rfl):
 PE X (.Call (.Name "list" p2) [.Call (.Name "reversed" p) [a] [] pos] [] pos2) (tLRev X.K ta):=by
 intro pins s σ H Q I h;refine wpAny_Call_Name_kw (v0j I hg2 hm2 t0s (PyProof.Rows.callWith_type1 ?_ hs2 rfl) (by decide) (by decide));rw[hs2];refine Calls.spliced_cons ?_;refine Call_ (v0j I hg hm boot_reversed (PyProof.Rows.callWith_type1 (thn (ha pos pins s σ H _ I h) fun us s1 ⟨vs,H1,I1,r1,q1⟩=>?_) hs rfl));obtain ⟨b,xs,e,hq,q⟩:=q1;subst e;obtain ⟨u,rfl,ru⟩:=r1.one;cases (show u=Value.ref b from ru);obtain ⟨its,r,pl,hz⟩:=I1.list hq;have hlen:=r.length;obtain ⟨o,ho,hcl,n,hd⟩:=pl.isList;have hl:s1.heap.IsList b its.toArray:=⟨o,ho,hcl,n,hd⟩;refine call_reversed_list hl (Calls.spliced_nil ?_);have ne:b≠s1.heap.objs.size:=Nat.ne_of_lt (Heap.lt_size ho);refine q0p (A:=X.A) (I:=s1.heap.objs.size) (l:=b) (its:=its.toArray) (I1.ok.hd hc) ⟨_,Heap.get?_push_size _ rfl,rfl,rfl⟩ (hl.at fun o e=>Heap.get?_push_of_some _ e) ne (by rw[List.size_toArray];omega) fun h' tk acc c kp fe ha=>?_
 have rr:Vals xs.reverse acc.toList:=by
  refine t0l ?_ fun i x v e1 e2=>?_
  ·have z:=ha.1;have z2:acc.toList.length=acc.size:=Array.length_toList;have z3:its.toArray.size=its.length:=by simp
   rw[List.length_reverse];omega
  ·have e3:=ha.2 i v (by rw[←Array.getElem?_toList];exact e2);have li:=(List.getElem?_eq_some_iff.mp e1).1;rw[List.length_reverse]at li;rw[List.getElem?_reverse li]at e1;obtain ⟨v',e4,rv⟩:=r.get e1;have e5:its[its.length-1-i]?=some v:=by simpa using e3
   rw[←hlen,e4]at e5;cases e5;exact rv
 rw[Heap.size_push]at fe ⊢;exact ⟨.ref (s1.heap.objs.size+1),_,I1.laid (t':=tk) (fun b o e=>kp b o (Nat.ne_of_lt (Heap.lt_size e)) (Heap.get?_push_of_some _ e)) (Nat.le_succ _) (show ObjOk X.prog X.w _ h' _ (.lst xs.reverse)from ⟨by rw[List.length_reverse];exact hz,acc.toList,c,rr,by simpa using fe⟩),rfl,q _ (I1.hok.fresh (Nat.le_succ _))⟩
end
end L2
namespace DL
open PySem PySem.Spec L2
section
variable{X:Cx}{Y:Y2}{W:XW}{a:Expr}{ta:TA2}{p p2 pos pos2 spos:Pos}
noncomputable def u0g(ta:TA2):TS2:=fun E ρ δ=>ta E.xc ρ δ fun ds ρ1 δ1=>δ1=none∧match ds with | [d]=>(match d with | .lst xs=>∀p,E.rt (.ref p) (some (p,xs.reverse))|_=>False)|_=>False
theorem Reps.rev{K:Frag}{F:Hp}:∀{ds:List D} {vs:List V},Reps K F ds vs→Reps K F ds.reverse vs.reverse
 | [],vs,h=>by
  have:=h.length;cases vs with
  |nil=>exact Reps.nil
  |cons v vs=>simp at this
 |d::ds,vs,h=>by
  obtain ⟨v,l,rfl,r1,r2⟩:=reps_cons.mp h;rw[List.reverse_cons,List.reverse_cons];exact (Reps.rev r2).append (Reps.cons r1 Reps.nil)
theorem h0j(hc:X.calm=true)(hm:X.mg "reversed"=none)(hm2:X.mg "list"=none)(ha:PA2 X Y W [a] ta)(hg:Gl X "reversed":=by rfl)(hg2:Gl X "list":=by rfl)(hs:starEach [a] X.env=[(false,eval a X.env)]:=by rfl)
 (hs2:starEach [.Call (.Name "reversed" p) [a] [] pos] X.env=[(false,eval (.Call (.Name "reversed" p) [a] [] pos) X.env)]:=by rfl):
 PS2 X Y W (.Return (some (.Call (.Name "list" p2) [.Call (.Name "reversed" p) [a] [] pos] [] pos2)) spos) (u0g ta):=ps2 (d0k (r0g hc hg hm hg2 hm2 ha.go hs hs2)) fun E1 σ H ⟨F,ρ,δ,E2,I,h,er⟩=>by
 refine ⟨F,ρ,δ,E2.xc,_,I,h,fun ds vs F1 H1 ρ1 δ1 I1 s1 r1 h1=>?_,er.xc⟩;obtain ⟨rfl,h1⟩:=h1;split at h1
 ·split at h1
  ·rename_i xs;obtain ⟨v,rfl,r2⟩:=y0u r1;obtain ⟨a,us,rfl,e2,z⟩:=rep_lst.mp r2;exact ⟨a,us,rfl,SqL.of (I1.sub _ _ e2),fun p hp=>er.rt _ _ σ F1 _ ρ1 _ (I1.deck hp z.rev) s1 (rep_ref.mpr rfl) (h1 p)⟩
  ·exact h1.elim
 ·exact h1.elim
end
end DL
namespace L2
open PySem PySem.Spec PyProof.Rows PySem.Calls PySem.W
section
variable{X:Cx}
noncomputable def IsMin(ns:List Int)(m:Int):Prop:=m∈ns∧∀n∈ns,m≤n
end
end L2
namespace DL
open PySem PySem.Spec L2
section
variable{K:Frag}
noncomputable def minLF:F1:=fun ds q=>match ds with | [d]=>(match seqD d with |some xs=>(match n0b xs with |some ns=>ns≠[]∧∀m,IsMin ns m→q (.int m)|none=>False)|none=>False)|_=>False
end
section
variable{X:Cx}{Y:Y2}{W:XW}{x:Str}{p apos cpos p2 pos2:Pos}
noncomputable def z1y(i:Nat):TE2:=fun _ ρ δ q=>match dicV ρ i with |some kvs=>q (.lst (kvs.map (·.2))) ρ δ |none=>False
noncomputable def t2LenD(i:Nat):TE2:=fun _ ρ δ q=>match dicV ρ i with |some kvs=>q (.int (kvs.length:Nat)) ρ δ |none=>False
end
end DL
namespace DL
open PySem PySem.Spec L2
structure DI(l:List (Key×D))(g:Int→Int→Prop):Prop where
 nd:(l.map (·.1)).Nodup
 all:∀kv∈l,∃k v:Int,kv=(.inl k,.int v)∧g k v
end DL
namespace L2
open PySem PySem.Spec PyProof.Rows PySem.Calls
section
variable{prog:Program}{w:World}{A:Around}{E:Value→Shared→Prop}{I:Addr}{fp wr:List Addr}{n:Nat}{P:Nat→Value→Prop}{St:Nat→Heap→Prop}
theorem o0l(W:Walks prog w A I fp wr n P St):∀(k i:Nat) (s:Shared) (Q:List Value→Shared→Prop),St i s.heap→i+k≤n→
 (∀vs h' tk,vs.length=k→(∀(j:Nat) v,vs[j]?=some v→P (i+j) v)→St (i+k) h'→(∀b o,b∉wr→s.heap.get? b=some o→h'.get? b=some o)→Q vs {s with heap:=h',toks:=tk})→wpAny (model prog w) A (draw (.ref I) k) Q E s
 | 0,i,s,Q,st,_,q=>by
  show wpAny _ _ (pure []) Q E s;exact wpAny_pure (q [] s.heap s.toks rfl (fun j v e=>nomatch e) st fun b o _ e=>e)
 |k+1,i,s,Q,st,hk,q=>by
  show wpAny _ _ (pyNext (.ref I) >>= _) Q E s;refine wpAny_bind (W.item i s _ _ (by omega) st fun v h1 t1 hv st1 k1=>?_);refine wpAny_bind (wpAny_holding (o0l W k (i+1) _ _ st1 (by omega) fun vs h2 t2 hl hP st2 k2=>wpAny_pure ?_));refine q (v::vs) h2 t2 (by rw[List.length_cons,hl]) (fun j u e=>?_) (by rw[show i+(k+1)=i+1+k by omega];exact st2) fun b o hb e=>k2 b o hb (k1 b o hb e)
  cases j with
  |zero=>cases e;exact hv
  |succ j=>rw[show i+(j+1)=i+1+j by omega];exact hP j u e
end
section
variable{prog:Program}{w:World}{A:Around}{E:Value→Shared→Prop}{s:Shared}
theorem m0y{l:Addr}{its:Array Value}{ts:List (Bool×(Value→Sem Unit))}{Q:Unit→Shared→Prop}(hh:A.handled=none)(hl:s.heap.IsList l its)(p:SqAt false s.heap l its)(hn:ts.length=its.size)(hstar:ts.findIdx? (·.1)=none)
 (h:∀h' tk,(∀b o,s.heap.get? b=some o→h'.get? b=some o)→wpAny (model prog w) A (assignInOrder (ts.map (·.2)) its.toList) Q E {s with heap:=h',toks:=tk}):
 wpAny (model prog w) A (unpack (.ref l) ts) Q E s:=by
 have hlt:l<s.heap.objs.size:=by obtain ⟨_,e,_⟩:=p.obj;exact Heap.lt_size e
 unfold unpack;rw[hn,hstar];refine wpAny_bind (wpAny_holding ?_);unfold unpackItems;refine wpAny_bind ?_;unfold notIterableAtAll;refine wpAny_bind (wpAny_specialOf hl.typeIs PySem.F.slot_list_iter.lookup ?_);refine wpAny_pure ?_;simp only[Bool.false_eq_true,if_false];refine wpAny_bind (wpAny_holding (a0k p ?_));have W:=e0c (prog:=prog) (w:=w) false (A:=A) hh s.heap.objs.size l (Nat.ne_of_lt hlt) its;refine wpAny_bind (wpAny_holding (o0l W its.size 0 _ _ ⟨.of (Heap.get?_push_size _ rfl) rfl rfl,p.stay fun o e=>Heap.get?_push_of_some _ e⟩ (by omega) fun vs h1 t1 hlen hP st1 k1=>?_));have ev:vs=its.toList:=by
  apply List.ext_getElem?;intro j;by_cases z:j<vs.length
  ·have e1:=hP j _ (List.getElem?_eq_getElem z);rw[Nat.zero_add]at e1;rw[List.getElem?_eq_getElem z,Array.getElem?_toList,e1]
  ·rw[List.getElem?_eq_none (by omega),List.getElem?_eq_none (by simp;omega)]
 subst ev;rw[if_neg (by simp)];rw[Nat.zero_add]at st1;refine wpAny_bind (wpAny_holding (W.done _ _ _ st1 fun h2 t2 k2=>?_));simp only[Option.isSome_none,Bool.false_eq_true,if_false];refine wpAny_pure (h h2 t2 fun b o e=>?_);have nb:b∉ [s.heap.objs.size]:=fun z=>by
  have z':b=s.heap.objs.size:=by simpa using z
  subst z';exact absurd (Heap.lt_size e) (Nat.lt_irrefl _)
 exact k2 b o nb (k1 b o nb (Heap.get?_push_of_some _ e))
end
section
variable{X:Cx}{pos:Pos}
noncomputable def gLst(K:PySem.W.Frag)(n:Nat)(t:TGs):TG:=fun v σ H Q=>∃a xs,v=.ref a∧SqL K H a xs∧xs.length=n∧t xs σ H Q
theorem v0g{es:List Expr}{k:Nat}{t:TGs}{n:Nat}(hc:X.calm=true)(h:PGs X es t)
 (hn:(assignEach es X.env).length=n:=by rfl) (hst:(assignEach es X.env).findIdx? (·.1)=none:=by rfl):PG X (.Tuple es k pos) (gLst X.K n t):=by
 intro pins s σ H v u Q I r hw;obtain ⟨a,xs,e1,hq,hl,hw⟩:=hw;subst e1;cases r;obtain ⟨its,rv,pl,hz⟩:=I.list hq;have p:SqAt false s.heap a its.toArray:=pl.isList;rw[assign_Tuple];refine wpAny_bind (wpAny_standAt (m0y (I.ok.hd hc) pl.isList p (by simp[hn,← hl,rv.length]) hst fun h' tk hx=>?_));have I1:Inv X pins σ H {s with heap:=h',toks:=tk}:=I.kept fun b o e=>hx b o e
 exact h pins _ σ H xs _ Q I1 (by simpa using rv) hw
end
end L2
namespace DL
open PySem PySem.Spec L2
noncomputable def g2L(is:List Nat):G2:=fun d ρ=>match d with | .lst ds=>t0m is ds ρ |_=>none
theorem v0f{K:Frag}{is:List Nat}{n:Nat}(hn:is.length=n):TgD K (gLst K n (gAll is)) (g2L is):=fun Y F H σ ρ ρ' δ d v Q I r e k=>by
 unfold g2L at e;split at e
 ·rename_i ds;obtain ⟨a,vs,rfl,ea,z⟩:=rep_lst.mp r;obtain ⟨h1,h2⟩:=h0u I z e k;exact ⟨a,vs,rfl,SqL.of (I.sub _ _ ea),by rw[h2,hn],h1⟩
 ·cases e
end DL
namespace L2
open PySem PySem.Spec PyProof.Rows
section
variable{X:Cx}
end
end L2
namespace DL
open PySem PySem.Spec L2
noncomputable def eqL:F2:=fun d1 d2 q=>match d1,d2 with | .lst xs,.lst ys=>(xs.all m7&&ys.all m7)=true∧q (.bl (eqDs xs ys))|_,_=>False
theorem t0g:∀ns ms:List Int,eqDs (ns.map D.int) (ms.map D.int)=decide (ns=ms)
 | [],[]=>rfl
 | [],_::_=>rfl
 |_::_,[]=>rfl
 |n::ns,m::ms=>by
  rw[List.map_cons,List.map_cons];unfold eqDs;rw[t0g ns ms];show (decide (n=m)&&_)=_;by_cases h1:n=m<;>by_cases h2:ns=ms<;>simp[h1,h2]
end DL
namespace L2
open PySem PySem.Spec PyProof.Rows
section
variable{X:Cx}{pins:List (Addr×Obj)}{σ:St}{H:Hp}{s:Shared}
noncomputable def h0i(K:PySem.W.Frag)(b:Bool)(H:Hp)(x:V)(xs:List V):Prop:=(∃a,x=.ref a∧Sq K b H a xs)∧xs.all l9=true
noncomputable def EqV2(K:PySem.W.Frag)(H:Hp)(x y:V)(r:Bool):Prop:=(l9 x=true∧l9 y=true∧r=eqV x y)∨∃b xs ys,h0i K b H x xs∧h0i K b H y ys∧r=eqVs xs ys
theorem z1x{x y:V}{u:Value}(rx:RelV x u)(ry:RelV y u)(fx:l9 x=true)(fy:l9 y=true):eqV x y=true:=by
 cases x with
 |non=>
  cases rx;cases y with
  |non=>rfl
  |bl b=>cases ry
  |int b=>obtain ⟨t,e⟩:=ry;cases e
  |str b=>obtain ⟨t,e⟩:=ry;cases e
  |_=>cases fy
 |bl a=>
  cases rx;cases y with
  |non=>cases ry
  |bl b=>cases ry;simp[eqV]
  |int b=>obtain ⟨t,e⟩:=ry;cases e
  |str b=>obtain ⟨t,e⟩:=ry;cases e
  |_=>cases fy
 |int a=>
  obtain ⟨t,rfl⟩:=rx;cases y with
  |non=>cases ry
  |bl b=>cases ry
  |int b=>obtain ⟨t,e⟩:=ry;cases e;simp[eqV]
  |str b=>obtain ⟨t,e⟩:=ry;cases e
  |_=>cases fy
 |str a=>
  obtain ⟨t,rfl⟩:=rx;cases y with
  |non=>cases ry
  |bl b=>cases ry
  |int b=>obtain ⟨t,e⟩:=ry;cases e
  |str b=>obtain ⟨t,e⟩:=ry;cases e;simp[eqV]
  |_=>cases fy
 |_=>cases fx
theorem k0v:∀{xs ys:List V} {us:List Value},Vals xs us→Vals ys us→xs.all l9=true→ys.all l9=true→eqVs xs ys=true
 | [],[],_,_,_,_,_=>rfl
 |x::xs,y::ys,us,r1,r2,f1,f2=>by
  cases r1 with
  |cons h1 t1=>
   cases r2 with
   |cons h2 t2=>
    rw[List.all_cons,Bool.and_eq_true]at f1 f2;unfold eqVs;rw[z1x h1 h2 f1.1 f2.1,k0v t1 t2 f1.2 f2.2];rfl
 | [],_::_,us,r1,r2,_,_=>by cases r1;cases r2
 |_::_,[],us,r1,r2,_,_=>by cases r2;cases r1
theorem eqAt_2{A:Around}{x y:V}{u w:Value}{r:Bool}(I:Inv X pins σ H s)(hu:A.units<cLine)(h:EqV2 X.K H x y r)(rx:RelV x u)(ry:RelV y w):SeqAt.EqAt A s u w r:=by
 rcases h with ⟨f1,f2,rfl⟩|⟨b,xs,ys,⟨⟨a,rfl,ha⟩,f1⟩,⟨⟨c,rfl,hc⟩,f2⟩,rfl⟩
 ·exact i0x rx ry f1 f2
 ·cases rx;cases ry;obtain ⟨its,r1,p1,_⟩:=I.sq ha;obtain ⟨its2,r2,p2,_⟩:=I.sq hc;have e0:=q0r xs ys;by_cases hac:a=c
  ·subst hac;have:its=its2:=by
    cases b
    ·obtain ⟨o,ho,_,n,hd⟩:=(show s.heap.IsList a its.toArray from p1);obtain ⟨o2,ho2,_,n2,hd2⟩:=(show s.heap.IsList a its2.toArray from p2);rw[ho]at ho2;cases ho2;rw[hd]at hd2;cases hd2;rfl
    ·obtain ⟨o,ho,_,n,hd⟩:=(show s.heap.IsTuple a its.toArray from p1);obtain ⟨o2,ho2,_,n2,hd2⟩:=(show s.heap.IsTuple a its2.toArray from p2);rw[ho]at ho2;cases ho2;rw[hd]at hd2;cases hd2;rfl
   subst this;rw[k0v r1 r2 f1 f2];exact SeqAt.EqAt.same _
  ·refine SeqAt.EqAt.of_refs hac ?_;cases b
   ·by_cases hz:its.toArray.size=its2.toArray.size
    ·have:=SeqAt.RcAt.lists (A:=A) (show s.heap.IsList a its.toArray from p1) (show s.heap.IsList c its2.toArray from p2) hz hu (n0a r1 r2 f1 f2);rw[←e0,r1.length,r2.length];simp only[List.size_toArray]at hz this ⊢;rw[hz,Nat.min_self,beq_self_eq_true,Bool.and_true];rw[hz]at this;exact this
    ·have:=SeqAt.RcAt.lists_lengths (A:=A) (show s.heap.IsList a its.toArray from p1) (show s.heap.IsList c its2.toArray from p2) (by simpa using hz) hu;have e1:(xs.length==ys.length)=false:=by
      rw[r1.length,r2.length];simpa using hz
     rw[←e0,e1,Bool.and_false];exact this
   ·have:=SeqAt.RcAt.tuples (A:=A) (show s.heap.IsTuple a its.toArray from p1) (show s.heap.IsTuple c its2.toArray from p2) hu (n0a r1 r2 f1 f2);rw[←e0,r1.length,r2.length];simp only[List.size_toArray]at this;exact this
noncomputable def rEqR(K:PySem.W.Frag)(neg:Bool):R2:=fun x y H Q=>∃b a c xs ys,∃e:Nat→Bool,x=.ref a∧y=.ref c∧Sq K b H a xs∧Sq K b H c ys∧(∀(j:Nat) u w,xs[j]?=some u→ys[j]?=some w→EqV2 K H u w (e j))∧
 Q (.bl (if neg=true then !((List.range (min xs.length ys.length)).all e&&xs.length==ys.length)else (List.range (min xs.length ys.length)).all e&&xs.length==ys.length)) H
theorem h0h{A:Around}{xs ys:List V}{us ws:List Value}{e:Nat→Bool}(I:Inv X pins σ H s)(hu:A.units<cLine)(r:Vals xs us)(r':Vals ys ws)(he:∀(j:Nat) u w,xs[j]?=some u→ys[j]?=some w→EqV2 X.K H u w (e j)):
 ∀j (h1:j<us.toArray.size) (h2:j<ws.toArray.size),SeqAt.EqAt A s us.toArray[j] ws.toArray[j] (e j):=by
 intro j h1 h2;have l1:j<xs.length:=by rw[r.length];simpa using h1
 have l2:j<ys.length:=by rw[r'.length];simpa using h2
 obtain ⟨u,hu',ru⟩:=r.get (List.getElem?_eq_getElem l1);obtain ⟨w,hw,rw'⟩:=r'.get (List.getElem?_eq_getElem l2);have eu:us.toArray[j]=u:=by
  have:us[j]?=some us.toArray[j]:=by simp
  rw[hu']at this;exact (Option.some.inj this).symm
 have ew:ws.toArray[j]=w:=by
  have:ws[j]?=some ws.toArray[j]:=by simp
  rw[hw]at this;exact (Option.some.inj this).symm
 rw[eu,ew];exact eqAt_2 I hu (he j _ _ (List.getElem?_eq_getElem l1) (List.getElem?_eq_getElem l2)) ru rw'
theorem h0g(hu:X.A.units+1<cLine):OpR X (compareOp .NotEq) (rEqR X.K true):=by
 intro pins s σ H x y v u Q I rx ry h;obtain ⟨b,a,c,xs,ys,e,rfl,rfl,ha,hb,he,q⟩:=h;cases rx;cases ry;obtain ⟨its,r,p,_⟩:=I.sq ha;obtain ⟨its2,r2,p2,_⟩:=I.sq hb;have hu0:X.A.units<cLine:=by omega
 have hu1:X.A.in1.units<cLine:=hu;rw[if_pos rfl,r.length,r2.length]at q;cases b
 ·by_cases hz:its.toArray.size=its2.toArray.size
  ·refine SeqAt.RcNeAt.lists (show s.heap.IsList a its.toArray from p) (show s.heap.IsList c its2.toArray from p2) hz hu0 (h0h I hu1 r r2 he) X.prog X.w X.xe _ ⟨.bl _,H,I,rfl,?_⟩;simp only[List.size_toArray]at hz ⊢;rw[hz,Nat.min_self,beq_self_eq_true,Bool.and_true]at q;rw[hz];exact q
  ·refine SeqAt.RcNeAt.lists_lengths (show s.heap.IsList a its.toArray from p) (show s.heap.IsList c its2.toArray from p2) (by simpa using hz) hu0 X.prog X.w X.xe _ ⟨.bl _,H,I,rfl,?_⟩;have e1:(its.length==its2.length)=false:=by simpa using hz
   rw[e1,Bool.and_false]at q;exact q
 ·refine SeqAt.RcNeAt.tuples (show s.heap.IsTuple a its.toArray from p) (show s.heap.IsTuple c its2.toArray from p2) hu0 (h0h I hu1 r r2 he) X.prog X.w X.xe _ ⟨.bl _,H,I,rfl,?_⟩;simpa using q
end
end L2
namespace DL
open PySem PySem.Spec L2
noncomputable def eqR:D→D→Option Bool
 | .tup xs,.tup ys=>if (xs.all m7&&ys.all m7)=true then some (eqDs xs ys)else none
 | .lst xs,.lst ys=>if (xs.all m7&&ys.all m7)=true then some (eqDs xs ys)else none
 |x,y=>if (m7 x&&m7 y)=true then some (eqV (toV x) (toV y))else none
noncomputable def eqRs:List D→List D→Option Bool
 | [],[]=>some true
 |x::xs,y::ys=>match eqR x y,eqRs xs ys with |some a,some b=>some (a&&b)|_,_=>none
 | [],_::_=>some false
 |_::_,[]=>some false
theorem eqR_v{K:Frag}{F H:Hp}{x y:D}{v u:V}{r:Bool}(s:Same F H)(h:eqR x y=some r)(r1:Rep K F x v)(r2:Rep K F y u):EqV2 K H v u r:=by
 unfold eqR at h;split at h
 ·rename_i xs ys;split at h
  ·rename_i hf;cases h;rw[Bool.and_eq_true]at hf;obtain ⟨a,vs,rfl,e1,z1⟩:=rep_tup.mp r1;obtain ⟨b,us,rfl,e2,z2⟩:=rep_tup.mp r2;obtain ⟨e3,e4⟩:=k9 hf.1 z1;obtain ⟨e5,e6⟩:=k9 hf.2 z2;exact .inr ⟨true,vs,us,⟨⟨a,rfl,SqT.of (s _ _ e1)⟩,e4⟩,⟨⟨b,rfl,SqT.of (s _ _ e2)⟩,e6⟩,by rw[e3,e5,k0x]⟩
  ·cases h
 ·rename_i xs ys;split at h
  ·rename_i hf;cases h;rw[Bool.and_eq_true]at hf;obtain ⟨a,vs,rfl,e1,z1⟩:=rep_lst.mp r1;obtain ⟨b,us,rfl,e2,z2⟩:=rep_lst.mp r2;obtain ⟨e3,e4⟩:=k9 hf.1 z1;obtain ⟨e5,e6⟩:=k9 hf.2 z2;exact .inr ⟨false,vs,us,⟨⟨a,rfl,SqL.of (s _ _ e1)⟩,e4⟩,⟨⟨b,rfl,SqL.of (s _ _ e2)⟩,e6⟩,by rw[e3,e5,k0x]⟩
  ·cases h
 ·split at h
  ·rename_i hf;cases h;rw[Bool.and_eq_true]at hf;obtain ⟨e3,e4⟩:=k9 (ds:=[x]) (by simp[hf.1]) (Reps.cons r1 Reps.nil);obtain ⟨e5,e6⟩:=k9 (ds:=[y]) (by simp[hf.2]) (Reps.cons r2 Reps.nil);have q1:v=toV x:=by simpa using e3
   have q2:u=toV y:=by simpa using e5
   exact .inl ⟨by simpa using e4,by simpa using e6,by rw[q1,q2]⟩
  ·cases h
theorem h0f{K:Frag}{F H:Hp}(s:Same F H):∀{xs ys:List D} {vs us:List V} {r:Bool},eqRs xs ys=some r→Reps K F xs vs→Reps K F ys us→∃e:Nat→Bool,(∀(j:Nat) u w,vs[j]?=some u→us[j]?=some w→EqV2 K H u w (e j))∧((List.range (min vs.length us.length)).all e&&vs.length==us.length)=r
 | [],[],vs,us,r,h,r1,r2=>by
  cases h;rw[reps_nil.mp r1,reps_nil.mp r2];exact ⟨fun _=>true,(fun j u w e=>by rw[List.getElem?_nil]at e;cases e),rfl⟩
 |x::xs,y::ys,vs,us,r,h,r1,r2=>by
  obtain ⟨v,vs',rfl,q1,z1⟩:=reps_cons.mp r1;obtain ⟨u,us',rfl,q2,z2⟩:=reps_cons.mp r2;unfold eqRs at h;split at h
  ·rename_i a b ea eb;cases h;obtain ⟨e,he,hr⟩:=h0f s eb z1 z2;refine ⟨fun j=>match j with | 0=>a |j+1=>e j,fun j u' w' e1 e2=>?_,?_⟩
   ·cases j with
    |zero=>cases e1;cases e2;exact eqR_v s ea q1 q2
    |succ j=>exact he j u' w' e1 e2
   ·rw[←hr];have em:min (v::vs').length (u::us').length=min vs'.length us'.length+1:=by simp only[List.length_cons];omega
    rw[em,List.range_succ_eq_map,List.all_cons,List.all_map,← Bool.and_assoc];simp only[List.length_cons];congr 1;simp
  ·cases h
 | [],y::ys,vs,us,r,h,r1,r2=>by
  cases h;obtain ⟨u,us',rfl,q2,z2⟩:=reps_cons.mp r2;rw[reps_nil.mp r1];exact ⟨fun _=>true,(fun j u w e=>by rw[List.getElem?_nil]at e;cases e),by simp⟩
 |x::xs,[],vs,us,r,h,r1,r2=>by
  cases h;obtain ⟨v,vs',rfl,q1,z1⟩:=reps_cons.mp r1;rw[reps_nil.mp r2];exact ⟨fun _=>true,(fun j u w e1 e=>by rw[List.getElem?_nil]at e;cases e),by simp⟩
noncomputable def eqRF(neg:Bool):F2:=fun d1 d2 q=>match d1,d2 with
 | .lst xs,.lst ys=>(match eqRs xs ys with |some r=>q (.bl (if neg=true then !r else r))|none=>False)
 | .tup xs,.tup ys=>(match eqRs xs ys with |some r=>q (.bl (if neg=true then !r else r))|none=>False)
 |_,_=>False
theorem z1w{K:PySem.W.Frag}{neg:Bool}:OpD K (rEqR K neg) (eqRF neg):=by
 intro Y F H σ ρ δ x y d1 d2 Q1 q I r1 r2 h' k;unfold eqRF at h';split at h'
 ·rename_i xs ys;split at h'
  ·rename_i r er;obtain ⟨a,vs,rfl,e1,z1⟩:=rep_lst.mp r1;obtain ⟨b,us,rfl,e2,z2⟩:=rep_lst.mp r2;obtain ⟨e,he,hr⟩:=h0f I.sub er z1 z2;exact ⟨false,a,b,vs,us,e,rfl,rfl,SqL.of (I.sub _ _ e1),SqL.of (I.sub _ _ e2),he,by rw[hr];exact k _ _ F H I (Same.refl F) (rep_bl.mpr rfl) h'⟩
  ·exact h'.elim
 ·rename_i xs ys;split at h'
  ·rename_i r er;obtain ⟨a,vs,rfl,e1,z1⟩:=rep_tup.mp r1;obtain ⟨b,us,rfl,e2,z2⟩:=rep_tup.mp r2;obtain ⟨e,he,hr⟩:=h0f I.sub er z1 z2;exact ⟨true,a,b,vs,us,e,rfl,rfl,SqT.of (I.sub _ _ e1),SqT.of (I.sub _ _ e2),he,by rw[hr];exact k _ _ F H I (Same.refl F) (rep_bl.mpr rfl) h'⟩
  ·exact h'.elim
 ·exact h'.elim
theorem t0f:∀{xs:List D},(∀x∈xs,eqR x x=some true)→eqRs xs xs=some true
 | [],_=>rfl
 |x::xs,h=>by unfold eqRs;rw[h x (List.mem_cons_self ..),t0f fun y hy=>h y (List.mem_cons_of_mem _ hy)];rfl
end DL
namespace L2
open PySem PySem.Spec PyProof.Rows PySem.Calls
section
variable{X:Cx}
end
end L2
namespace DL
open PySem PySem.Spec L2
section
variable{X:Cx}{Y:Y2}{W:XW}{te:TE2}{K:Frag}
noncomputable def pairK(kv:Key×D):D:=.tup [keyD kv.1,kv.2]
noncomputable def z1v(te:TE2):TI2:=fun x ρ δ q=>te x ρ δ fun d ρ1 δ1=>match d with | .dwk kvs=>q (kvs.map pairK) ρ1 δ1 |_=>False
end
section
variable{K:Frag}
noncomputable def bigD(ns:List Int):Prop:=(∀n∈ns,0≤n)∧ns.sum<2^63
noncomputable def sumB:F1:=fun ds q=>match ds with | [d]=>(match seqD d with |some xs=>(match n0b xs with |some ns=>bigD ns∧q (.int ns.sum)|none=>False)|none=>False)|_=>False
end
section
variable{X:Cx}{Y:Y2}{W:XW}{e:Expr}{te:TE2}{x:Str}{pos pos':Pos}
noncomputable def t2AugM(i:Nat)(te:TE2):TS2:=fun E ρ δ=>rdV ρ i fun d1 ρ0=>te E.xc ρ0 δ fun d2 ρ1 δ1=>match d1,d2 with | .int a,.int b=>CMul a b∧E.nx (ρ1.set i (.val (.int (a*b)))) δ1 |_,_=>False
end
end DL
namespace DL
open PySem PySem.Spec L2
noncomputable def z1u:F1:=fun ds q=>match ds with | [.int i,.int j]=>CDiv i j∧q (.tup [.int (i/j),.int (i%j)])|_=>False
end DL
namespace DL
open PySem PySem.Spec L2
section
variable{X:Cx}{Y:Y2}{W:XW}{pos pos' bpos:Pos}{a b:Expr}{ta tb:TE2}{x:Str}
noncomputable def u0f(i:Nat)(ta tb:TE2):TS2:=fun E ρ δ=>ta E.xc ρ δ fun d1 ρ1 δ1=>tb E.xc ρ1 δ1 fun d2 ρ2 δ2=>match d1,d2 with
 | .lst xs,.lst ys=>xs.length+ys.length≤1000∧E.nx (ρ2.set i (.own (xs++ys))) δ2
 |_,_=>False
theorem o0k(i:Nat)(hN:X.N.Nodup)(ha:PE2 X Y W a ta)(hb:PE2 X Y W b tb)(hi:X.N[i]?=some x:=by rfl)(hx:Loc X.env.scope x:=by walk_at "v2")
 (hs:swapsWith (.BinOp a .Add b bpos) (some (.Name x pos')) pos.line X.env=pure false:=by rfl) (hf:X.fn x=true∨X.env.scope.names.lookup x=some .local:=by walk_at "v1"):
 PS2 X Y W (.Assign [.Name x pos'] (.BinOp a .Add b bpos) pos) (u0f i ta tb):=ps2 (j0h (i:=i) hN hi hx (pe_op r0m ha.go hb.go) hs hf) fun E1 σ H ⟨F,ρ,δ,E2,I,h,er⟩=>by
 refine ⟨F,ρ,δ,E2.xc,_,I,h,fun d1 v1 F1 H1 ρ1 δ1 I1 s1 r1 h1=>⟨F1,ρ1,δ1,E2.xc,_,I1,h1,fun d2 v2 F2 H2 ρ2 δ2 I2 s2 r2 h2=>?_,er.xc.mono s1⟩,er.xc⟩;split at h2
 ·rename_i xs ys;obtain ⟨l,vs,rfl,e1,z1⟩:=rep_lst.mp (r1.mono s2);obtain ⟨m,us,rfl,e2,z2⟩:=rep_lst.mp r2;exact ⟨l,m,vs,us,rfl,rfl,I2.sub _ _ e1,I2.sub _ _ e2,n0i (by rw[z1.length,z2.length];exact h2.1),fun p hp=>er.nx _ F2 _ _ δ2 (I2.own hp (z1.append z2)) (s1.trans s2) h2.2⟩
 ·exact h2.elim
end
end DL
namespace L2
open PySem PySem.Spec PyProof.Rows PySem.Calls PySem.W
section
variable{X:Cx}
variable{tg:Expr}
end
end L2
namespace DL
open PySem PySem.Spec L2
section
variable{X:Cx}{Y:Y2}{W:XW}{te:TE2}{K:Frag}{tg:Expr}
end
section
variable{X:Cx}{Y:Y2}{W:XW}{x:Str}{p apos cpos p2 pos2:Pos}
end
end DL
namespace L2
open PySem PySem.Spec PyProof.Rows
open AutoSeq1 (wpAny_loadPart')
section
variable{prog:Program}{w:World}{A:Around}{E:Value→Shared→Prop}{s:Shared}
end
section
variable{prog:Program}{w:World}{A:Around}{E:Value→Shared→Prop}{s:Shared}
end
section
variable{M:Model}{A:Around}{E:Value→Shared→Prop}{s:Shared}{env:Env}
end
section
variable{X:Cx}{elts:List Expr}{x1:Nat}{tpos:Pos}
end
end L2
namespace DL
open PySem PySem.Spec L2
section
variable{X:Cx}{Y:Y2}{W:XW}{K:Frag}
variable{a e:Expr}{ta:TA2}{te:TE2}{p pos tpos kp:Pos}{elts:List Expr}{x1:Nat}
end
end DL
namespace DL
open PySem PySem.Spec L2
open PySem.W (XC)
section
variable{K:Frag}{Y:Y2}{F H:Hp}{σ:St}{ρ:En}{δ:Dk}
end
section
variable{X:Cx}{Y:Y2}{W:XW}{px pos:Pos}{target elt iter:Expr}{xs:List Str}{js:List Nat}{scope:Scope}{te:TE2}{ti:TI2}{tup:Bool}{g:TG}
variable(hc:X.calm=true)(S:CompOkM X xs js scope)(hi:PI2 X Y W target iter ti)(hg:(xs++js.map (fun j=>X.N.getD j "")).Nodup→∀C s₀ H₀ fp cl,PG (X.compM xs js scope cl C s₀ H₀ fp) target g)(gm:TgM X.K tup xs.length g)
 (ht:∀C s₀ H₀ fp cl Y',PIf2 (X.compM xs js scope cl C s₀ H₀ fp) Y' W0 [] t0j) (he:∀C s₀ H₀ fp cl Y',PE2 (X.compM xs js scope cl C s₀ H₀ fp) Y' W0 elt te)
include hc S hi hg gm ht he
end
end DL
namespace DL
open PySem PySem.Spec L2
structure Tg{α:Type}(q:α):Type where
noncomputable def u0p(q:K2)(ρ:En)(_:Tg q):D→Dk→Prop:=fun d δ=>q d ρ δ
noncomputable def z1t(x:XK2)(ρ:En)(_:Tg x):Addr→List (Str×D)→Dk→Prop:=fun C fs δ=>x C fs ρ δ
section
variable{q:K2}{x:XK2}{ρ:En}{u:Tg q}{v:Tg x}{δ:Dk}
theorem h0e{d:D}:u0p q ρ u d δ=q d ρ δ:=rfl
theorem k_int{i:Int}:u0p q ρ u (.int i) δ=q (.int i) ρ δ:=rfl
theorem k_bl{i:Bool}:u0p q ρ u (.bl i) δ=q (.bl i) ρ δ:=rfl
theorem k_str{i:Str}:u0p q ρ u (.str i) δ=q (.str i) ρ δ:=rfl
theorem k_non:u0p q ρ u .non δ=q .non ρ δ:=rfl
theorem k_lst{i:List D}:u0p q ρ u (.lst i) δ=q (.lst i) ρ δ:=rfl
theorem k_tup{i:List D}:u0p q ρ u (.tup i) δ=q (.tup i) ρ δ:=rfl
theorem k_ins{C:Addr}{fs:List (Str×D)}:u0p q ρ u (.ins C fs) δ=q (.ins C fs) ρ δ:=rfl
theorem k_ref{i:Addr}:u0p q ρ u (.ref i) δ=q (.ref i) ρ δ:=rfl
theorem k_dwk{i:List (Key×D)}:u0p q ρ u (.dwk i) δ=q (.dwk i) ρ δ:=rfl
theorem k_dic{i:List (Key×D)}:u0p q ρ u (.dic i) δ=q (.dic i) ρ δ:=rfl
theorem x_nil{C:Addr}:z1t x ρ v C [] δ=x C [] ρ δ:=rfl
theorem x_cons{C:Addr}{a:Str×D}{fs:List (Str×D)}:z1t x ρ v C (a::fs) δ=x C (a::fs) ρ δ:=rfl
theorem call_s{sp:Sp2}{t:TA2}{q:K2}:w0s sp t x ρ δ q=t x ρ δ fun ds ρ1 δ1=>sp ds δ1 (u0p q ρ1 ⟨⟩) (z1t x ρ1 ⟨⟩):=rfl
end
end DL
namespace L2
open PySem PySem.Spec PyProof.Rows PySem.SeqAt
section
variable{X:Cx}
end
end L2
namespace DL
open PySem PySem.Spec L2
section
variable{X:Cx}{Y:Y2}{W:XW}{o e b:Expr}{es:List Expr}{ta tb:TE2}{t:TA2}{p pos apos cpos:Pos}
structure TopRow(K:Frag)(mg:Str→Option Value)(x:Str)(ds:List D):Prop where
 ex:∃a vs,mg x=some (.ref a)∧(∀H,SqT K H a vs)∧∀F,Reps K F ds vs
theorem topRow3{K:Frag}{mg:Str→Option Value}{x:Str}{a:Addr}{s1 s2 s3:Str}{t1 t2 t3:Tok}{n:Nat}{dd:Option Addr}{sl:Array (Option Value)}(hm:mg x=some (.ref a))(hk:K.lookup a=some {cls:=.type "tuple",dict:=dd,data:=.seq ⟨[.str s1 t1,.str s2 t2,.str s3 t3]⟩ n,slots:=sl}):TopRow K mg x [.str s1,.str s2,.str s3]:=
 ⟨a,[.str s1,.str s2,.str s3],hm,fun H=>.inr ⟨_,_,n,hk,rfl,rfl,by show 3≤sizeLine;decide,.cons ⟨t1,rfl⟩ (.cons ⟨t2,rfl⟩ (.cons ⟨t3,rfl⟩ .nil))⟩,fun F=>Reps.cons (rep_str.mpr rfl) (Reps.cons (rep_str.mpr rfl) (Reps.cons (rep_str.mpr rfl) Reps.nil))⟩
end
end DL
namespace L2
open PySem PySem.Spec PyProof.Rows PySem.Calls PySem.W
section
variable{X:Cx}
end
end L2
namespace DL
open PySem PySem.Spec L2
end DL
namespace L2
open PySem PySem.Spec PyProof.Rows PySem.Calls PySem.W
section
variable{prog:Program}{w:World}{A:Around}{E:Value→Shared→Prop}{s:Shared}
end
section
variable{X:Cx}
end
end L2
namespace DL
open PySem PySem.Spec L2
section
variable{X:Cx}{Y:Y2}{W:XW}{e:Expr}{te:TE2}{p p2 pos pos2:Pos}
end
end DL
namespace L2
open PySem PySem.Spec PyProof.Rows
open PySem.W (XC)
theorem q0o:entryFor table "proto.unchain"=some Builtin.«proto.unchain»:=entryFor_of_fast (by kernel_rfl)
theorem u0o{P:Program}{w:World}{A:Around}{E:Value→Shared→Prop}{s:Shared}{α:Type}{x hd:Addr}{ox oh:Obj}{vx vh:Array Value}{Q:α→Shared→Prop}(hh:A.handled=some (.ref hd))(ne:hd≠x)(ho:s.heap.get? hd=some oh)(hod:oh.data=.fields vh)(h2:vh[2]?=some .none)
 (hx:s.heap.get? x=some ox) (hxd:ox.data=.fields vx) (hz:2<vx.size) (h:E (.ref x) {s with heap:=s.heap.update x (Obj.mapFields (·.setIfInBounds 2 (.ref hd)))}):wpAny (model P w) A (raiseNew (.ref x):Sem α) Q E s:=by
 unfold raiseNew;refine wpAny_bind (wpAny_handled ?_);rw[hh];dsimp only;rw[if_pos (by simpa using ne)];have step:wpAny (model P w) A (holding [.ref x] (runValue (.builtin "proto.unchain" ⟨[.ref x,.ref hd,.ref hd,.bool false],[]⟩))) (fun _ s'=>s'=s) E s:=by
  refine wpAny_holding (wpAny_runValue (codeAny_builtin q0o ?_));show wpAny _ _ (do let context←field (.ref hd) 2;_) _ _ s;refine wpAny_bind (wpAny_field ho hod h2 ?_);rw[if_pos (by rfl)];exact wpAny_pure rfl
 refine wpAny_bind (wpAny_mono step (fun _ s' e=>?_) fun _ _ e=>e);subst e;exact wpAny_bind (wpAny_setField hx hxd hz (wpAny_throw h))
theorem j0v{P:Program}{w:World}{A:Around}{E:Value→Shared→Prop}{env:Env}{xt:Sem Value}{Q:Flow→Shared→Prop}{C hd:Addr}{s:Shared}(hh:A.handled=some (.ref hd))
 (h:wpAny (model P w) A xt (fun v s1=>∃e od vs nm qn N bs bm hdct sn sub ab col dd k0 k1 k2 k3 k5 nid,v=.ref e∧s1.heap.get? C=some (excClassObj nm qn C N bs bm hdct sn sub ab col dd k0 k1 k2 k3 k5 nid)∧bm.contains (.type "BaseException")=true∧
  s1.heap.get? e=some ⟨.ref C,od,.fields vs,#[]⟩∧vs[1]?=some .none∧(2<vs.size∧hd≠e∧∃oh vh,s1.heap.get? hd=some oh∧oh.data=.fields vh∧vh[2]?=some .none)∧E (.ref e) {s1 with heap:=s1.heap.update e (Obj.mapFields (·.setIfInBounds 2 (.ref hd)))}) E s):
 wpAny (model P w) A (raiseStmt env (some xt) none) Q E s:=by
 unfold raiseStmt;refine wpAny_bind (wpAny_mono h (fun v s1 h1=>?_) fun _ _ x=>x);obtain ⟨e,od,vs,nm,qn,N,bs,bm,hdct,sn,sub,ab,col,dd,k0,k1,k2,k3,k5,nid,rfl,hC,hb,he,hv,⟨hz,ne,oh,vh,ho,hod,h2⟩,hE⟩:=h1;have hcB:(Value.ref C::bm).contains (.type "BaseException")=true:=by rw[List.contains_cons,hb,Bool.or_true]
 obtain ⟨hp,g,d,tk,os⟩:=s1
 repeat (first |with_reducible refine wpAny_loadPart_at he ?_ |with_reducible refine wpAny_loadPart_at hC ?_ |(with_reducible refine wpAny_isSubtype_exc hC ?_;rw[hcB])|wp_step)
 rw[hv];refine wpAny_pure ?_;rw[if_neg (by decide)];exact wpAny_pure (u0o hh ne ho hod h2 he rfl hz hE)
section
variable{X:Cx}{pins:List (Addr×Obj)}{σ:St}{H:Hp}{s:Shared}
noncomputable def StrongAt(H:Hp)(h:Addr):Prop:=∃n C od,n≠0∧H h=some (XO n h C od)
theorem h0d{C x hd:Addr}{od:Option Addr}{W:XW}(tp:Top X)(hfl:X.fl=false)(hf:h8 X W)(I:Inv X pins σ H s)(e:H x=some (XO 1 x C od))(hK:xcIn X.K C=true)(hy:X.s₀.heap.objs.size≤x)(ne:hd≠x)(sa:StrongAt H hd)(q:W C od σ (L2.drop H x)):
 ∃e' od' vs nm qn N bs bm hdct sn sub ab col dd k0 k1 k2 k3 k5 nid,Value.ref x=.ref e'∧s.heap.get? C=some (excClassObj nm qn C N bs bm hdct sn sub ab col dd k0 k1 k2 k3 k5 nid)∧bm.contains (.type "BaseException")=true∧
  s.heap.get? e'=some ⟨.ref C,od',.fields vs,#[]⟩∧vs[1]?=some .none∧(2<vs.size∧hd≠e'∧∃oh vh,s.heap.get? hd=some oh∧oh.data=.fields vh∧vh[2]?=some .none)∧X.xe (.ref e') {s with heap:=s.heap.update e' (Obj.mapFields (·.setIfInBounds 2 (.ref hd)))}:=by
 obtain ⟨o,vs,hx,h1,h2,h3,h40⟩:=XO.get I.hok e;obtain ⟨h4,h5⟩:=h40.1 rfl;have h6:=h40.2 (by decide);clear h40;obtain ⟨n,C',od',n0,eh⟩:=sa;obtain ⟨oh,vh,ho,_,_,hod,hh0⟩:=XO.get I.hok eh;obtain ⟨nm,qn,N,bs,bm,hdct,sn,sub,ab,col,dd,k0,k1,k2,k3,k5,hC,hT⟩:=i0r I.kIn hK;have I':=Inv.drop I e;obtain ⟨oc,odd,odt,osl⟩:=o;dsimp only at h1 h2 h3 h4;subst h1 h2 h3 h4;have sz2:2<vs.size:=(Array.getElem?_eq_some_iff.mp h6).1;have lx:Loose X pins (L2.drop H x) x:=⟨a9,(fun z=>by have:=I.free;rw[←z,e]at this;cases this),hy,(fun y c q z=>by have:=I.freeC y c q;rw[z,e]at this;cases this),(fun p hp z=>by have:=(I.pin p hp).2.1;rw[z,e]at this;cases this)⟩;refine ⟨x,odd,vs,nm,qn,N,bs,bm,hdct,sn,sub,ab,col,dd,k0,k1,k2,k3,k5,_,rfl,hC,hT.hasType rfl,hx,h5,⟨sz2,ne,oh,vh,ho,hod,hh0.2 n0⟩,?_⟩;have hself:=Heap.get?_update_self (Obj.mapFields (·.setIfInBounds 2 (Value.ref hd))) hx (Obj.isFreed_of_fields (Obj.data_mapFields (vs:=vs) rfl _));have other:∀b,b≠x→(s.heap.update x (Obj.mapFields (·.setIfInBounds 2 (Value.ref hd)))).get? b=s.heap.get? b:=fun b hb=>Heap.get?_update_other _ _ (Ne.symm hb)
 have I2:Inv X pins σ (L2.drop H x) {s with heap:=s.heap.update x (Obj.mapFields (·.setIfInBounds 2 (Value.ref hd)))}:=
  I'.stir (ch:=[x]) (fun b hb=>by rw[List.mem_singleton.mp hb];exact lx) tp (fun b o hb hf e=>(other b fun z=>hb (by simp[z])).trans e) (fun b o hb e=>⟨o.slots,(other b fun z=>hb (by simp[z])).trans e⟩) (fun b hb=>by rw[List.mem_singleton.mp hb];exact ⟨_,hself⟩)
 refine hf pins _ _ ⟨x,C,odd,none,σ,_,rfl,I2,⟨_,_,hself,rfl,rfl,Obj.data_mapFields (vs:=vs) rfl _,⟨by simpa using (Array.getElem?_eq_some_iff.mp h5).1,fun z=>by rw[hfl]at z;cases z⟩,by simpa using h5⟩,lx,(fun t z=>by cases z),q⟩
noncomputable def d0t(C hd:Addr)(W:XW):TS:=fun _ σ H=>StrongAt H hd∧∀x,H x=none→W C none σ (L2.drop (upd H x (XO 1 x C none)) x)
theorem j0u{C hd:Addr}{W:XW}{x:Str}{p cpos pos:Pos}(tp:Top X)(hh:X.A.handled=some (.ref hd))(hfl:X.fl=false)(hf:h8 X W)(M:XMk0 X.K C)(hK:xcIn X.K C=true)(hg:Gl X x)(hm:X.mg x=some (.ref C))(hdb:(x==("__debug__":Str))=false:=by decide):
 PS X (.Raise (some (.Call (.Name x p) [] [] cpos)) none pos) (d0t C hd W):=by
 intro pins s σ H D I ⟨sa,h⟩;show wpAny _ _ (do standAt pos;raiseStmt X.env (some (do let v←eval (.Call (.Name x p) [] [] cpos) X.env;standAt pos;pure v)) none) _ _ _;have nn:∀y,H y=none→hd≠y:=fun y hy z=>by obtain ⟨n,C',od',_,eh⟩:=sa;rw[z,hy]at eh;cases eh
 refine wpAny_bind (wpAny_standAt (j0v (C:=C) hh (wpAny_bind (thn (Q:=fun v s1=>∃x H2,v=.ref x∧X.s₀.heap.objs.size≤x∧Inv X pins σ H2 s1∧H2 x=some (XO 1 x C none)∧hd≠x∧StrongAt H2 hd∧W C none σ (L2.drop H2 x)) ?_ fun v s1 ⟨x,H2,ev,hy,I2,e2,n2,sa2,q2⟩=>wpAny_bind (wpAny_standAt (wpAny_pure ?_))))))
 ·refine wpAny_Call_Name_kw (z0v I hg hm ?_ hdb);have fr:H (s.heap.objs.size+1)=none:=I.hok.fresh (Nat.le_succ _);refine PySem.W.callWith_K0 I.kIn M.kp (thn (l0q (Q:=fun v H2=>v=.ref (s.heap.objs.size+1)∧H2 (s.heap.objs.size+1)=some (XO 1 (s.heap.objs.size+1) C none)∧StrongAt H2 hd∧W C none σ (L2.drop H2 (s.heap.objs.size+1))) M I ⟨rfl,o3,?_,h _ fr⟩) fun v s2 ⟨y,H2,I2,ry,ey,q1,sa1,q2⟩=>?_)
  ·obtain ⟨n,C',od',n0,eh⟩:=sa;exact ⟨n,C',od',n0,by rw[u0 (nn _ fr)];exact eh⟩
  ·subst ey;exact ⟨_,H2,ry,Nat.le_trans I.sz (Nat.le_succ _),I2,q1,nn _ fr,sa1,q2⟩
 ·subst ev;exact h0d tp hfl hf I2 e2 hK hy n2 sa2 q2
end
end L2
namespace L2
open PySem PySem.Spec PyProof.Rows
structure FnOkH(P:Program)(w:World)(K:PySem.W.Frag)(mg:Str→Option Value)(base:Heap)(k:Nat)(f:Addr)(fd:FuncData)(ps:List Str)(sp:Addr→Sp):Prop where
 len:∀h vs H Q E,sp h vs H Q E→vs.length=ps.length
 run:∀(h:Addr) (A:Around) (outer:List Env) (s:Shared) (H:Hp) (args:Args) (us:List Value) (vs:List V) (Q:VK) (E:XK),A.handled=some (.ref h)→RoomU k A→Env0 P w K mg base A outer s H→BindsTo s fd args (ps.zip us)→Vals vs us→sp h vs H Q E→
  codeAny (model P w) A (.call (.ref f) args) (CR (CXc false P w) outer P w H s Q E) s
structure FnAtH(P:Program)(w:World)(K:PySem.W.Frag)(mg:Str→Option Value)(base:Heap)(x:Str)(k:Nat)(ps:List Str)(sp:Addr→Sp):Prop where
 ex:∃f fd,FnOkH P w K mg base k f fd ps sp∧mg x=some (.ref f)∧PySem.W.keepIn K (.ref f)=true∧Binds K fd ps []
section
variable{P:Program}{w:World}{K:PySem.W.Frag}{mg:Str→Option Value}{base:Heap}
noncomputable abbrev cxH(P:Program)(w:World)(K:PySem.W.Frag)(mg:Str→Option Value)(base:Heap)(N:List Str)(qual:Str)(scope:Scope)(f:Addr)(cd:Value)(A:Around)(outer:List Env)(s:Shared)(H:Hp)(E:XK):Cx:=
 {cxOf (CXc false P w) P w K mg base N qual scope f cd A outer s H E with calm:=false,fl:=false}
theorem w0n{N:List Str}{qual:Str}{scope:Scope}{f:Addr}{cd:Value}{A:Around}{outer:List Env}{s:Shared}{H:Hp}{E:XK}:h8 (cxH P w K mg base N qual scope f cd A outer s H E) fun C od _ H'=>E (.ref C) od H':=by
 intro pins e s' h;obtain ⟨x,C,od,T,σ,H',rfl,I,ff,lx,lt,q⟩:=h;have tp:Top (cxH P w K mg base N qual scope f cd A outer s H E):=⟨rfl,rfl⟩;show wpAny _ _ (leaving _ (.ref x)) _ _ _;unfold leaving;refine wpAny_bind (n0j I tp I.ok.frames ff lx lt fun s1 t I1 f1 l1=>w0u I1 tp f1 (fun t' e=>by cases e;exact l1) fun s2 I2 f2=>?_);exact ⟨x,C,od,some t,H',rfl,I2.os,I2.bare,I2.base,I2.hok,f2,lx.free,lx.yng,fun t' e=>by cases e;exact ⟨l1.free,l1.yng⟩,q⟩
theorem fn_ofH{k:Nat}{f:Addr}{name qual:Str}{params:Arguments}{body:List Stmt}{scope:Scope}{dV kV doc pm cdv ct oc:Value}{an od:Option Addr}
 {osl:Array (Option Value)} {N ps:List Str} {sp:Addr→Sp} (lk:K.lookup f=some ⟨oc,od,.func (PySem.W.fnOf name qual params body scope dV kV doc pm an cdv ct),osl⟩) (hcd:PySem.W.codeIn K cdv qual=true) (S:FnScope N ps scope)
 (len:∀h vs H Q E,sp h vs H Q E→vs.length=ps.length)
 (hbody:∀(h:Addr) (A:Around) (outer:List Env) (s:Shared) (H:Hp) (vs:List V) (Q:VK) (E:XK),(A.deeper (envOfC qual scope s.heap.objs.size f cdv)).handled=some (.ref h)→RoomU k (A.deeper (envOfC qual scope s.heap.objs.size f cdv))→sp h vs H Q E→
  ∃t,PSs (cxH P w K mg base N qual scope f cdv A outer s H E) body t∧t {nx:=fun _ H'=>Q .non H',rt:=Q} (start N vs) H):
 FnOkH P w K mg base (k+1) f (PySem.W.fnOf name qual params body scope dV kV doc pm an cdv ct) ps sp:=by
 refine ⟨len,fun hd A outer s H args us vs Q E hhd hr e0 hb r hsp=>?_⟩;have hl:=len _ _ _ _ _ hsp;have KX:K.In s.heap:=e0.mod.kin.keeps fun b o e=>(e0.bs b o e).1
 have lim:s.heap.NoLimit:=e0.mod.nolimit.keeps fun b o e=>(e0.bs b o e).1
 have hkind:∀y∈ps.zip us,scope.names.lookup y.1=some .local∨(scope.names.lookup y.1=some .cell∧((cellsFrom (s.heap.objs.size+1) scope.names []).lookup y.1).isSome=true):=fun ⟨n,v⟩ hy=>by
  rcases S.par n (List.of_mem_zip hy).1 with q |q
  ·exact .inl q
  ·exact .inr ⟨q,PySem.W.cellsFrom_some _ _ _ (.inl q)⟩
 refine codeAny_call_function (by have:=hr.dp;omega) (KX _ _ lk) rfl S.co S.gen rfl (PySem.W.codeRec_of KX hcd) (hb _ _ _ _ ?_);refine wpAny_newFunctionEnv_cells S.kind hkind fun env he s1 x=>?_
 subst he;refine ⟨lim.keeps x.toInCall.keep,codeAny_func ?_⟩;obtain ⟨t,ht,hq⟩:=hbody hd A outer s H vs Q E hhd (hr.deeper _) hsp;have I0:=r0h (CX:=CXc false P w) (qual:=qual) (f:=f) (cd:=cdv) (E:=E) S e0 hl r x;have I:Inv (cxH P w K mg base N qual scope f cdv A outer s H E) [] (start N vs) H s1:=⟨⟨I0.ok.mod,I0.ok.kind,I0.ok.glob,I0.ok.blt,I0.ok.above,I0.ok.inj,I0.ok.has,I0.ok.cab,I0.ok.hd,I0.ok.frames,I0.ok.stk,I0.ok.exf,I0.ok.bs,I0.ok.bsz,I0.ok.noex,I0.ok.exfs,I0.ok.funs,I0.ok.frf⟩,I0.os,I0.bare,I0.base,I0.loc,I0.cell,I0.free,I0.freeC,I0.pin,I0.hok,I0.len⟩;refine wpAny_mono (ht [] s1 (start N vs) H _ I hq) (fun fl s' hs=>?_) fun e s' hs=>hs
 have fin:∀{σ':St} {H':Hp} {v:V} {u:Value},Inv (cxH P w K mg base N qual scope f cdv A outer s H E) [] σ' H' s'→RelV v u→Q v H'→CE outer P w H s Q u s':=
  fun {σ' H' v u} J rv q=>⟨v,H',J.os,J.bare,J.base,J.hok,rv,q⟩
 cases fl with
 |ret u=>
  obtain ⟨v,σ',H',J,rv,q⟩:=hs;exact fin J rv q
 |next=>
  obtain ⟨σ',H',J,q⟩:=hs;exact fin (v:=V.non) (u:=Value.none) J rfl q
 |brk=>
  obtain ⟨_,_,_,q⟩:=hs;exact False.elim q
 |cont=>
  obtain ⟨_,_,_,q⟩:=hs;exact False.elim q
end
section
variable{X:Cx}{pins:List (Addr×Obj)}{σ:St}{H:Hp}{s:Shared}
theorem h0c{W:XW}{e:Value}{s':Shared}(hfl:X.fl=false)(I:Inv X pins σ H s)(h:CXc false X.prog X.w X.stack H s (fun Cv od H'=>∃C,Cv=.ref C∧W C od σ H') e s'):f0e X pins W e s':=by
 obtain ⟨x,C,od,T,H',rfl,os,bare,un,hok,f,hx,hy,ht,C',ec,q⟩:=h;cases ec;have I':Inv X pins σ H' s':=I.call' (ch:=[]) os un hok bare fun b z=>by cases z
 have ls:∀t,H' t=none→s.heap.objs.size≤t→Loose X pins H' t:=fun t h0 hz=>by
  have l:=I.loose_new hz;exact ⟨h0,l.ne,l.yng,l.cell,l.pin⟩
 exact ⟨x,C,od,T,σ,H',rfl,I',hfl▸f,ls x hx hy,fun t e=>ls t (ht t e).1 (ht t e).2,q⟩
theorem pe_cH{k:Nat}{ps:List Str}{hd:Addr}{sp:Addr→Sp}{x:Str}{p pos:Pos}{e:Expr}{es:List Expr}{t:TA}{W:XW}(G:FnAtH X.prog X.w X.K X.mg X.base x k ps sp)(hr:RoomU k X.A)(hh:X.A.handled=some (.ref hd))(hfl:X.fl=false)(hf:h8 X W)(ha:PA X (e::es) t)(hg:Gl X x:=by rfl)(hdb:(x==("__debug__":Str))=false:=by decide)
 (he:starEach (e::es) X.env=(false,eval e X.env)::starEach es X.env:=by rfl) (hpl:(backTo pos (starEach es X.env)).any (·.1)=false:=by rfl):PE X (.Call (.Name x p) (e::es) [] pos) (p0e (sp hd) W t):=by
 obtain ⟨f,fd,F,m,kp,b⟩:=G.ex;intro pins s σ H Q I h;refine wpAny_Call_Name_kw (z0v I hg m ?_ hdb);refine PySem.W.callWith_K (h₀:=X.base) I.ok.mod.kin kp (thn (ha pos pins s σ H _ I h) fun us s1 ⟨vs,H1,I1,r,q⟩=>⟨I1.kIn,?_⟩) he hpl;have hl:(us++[]).length=ps.length:=by rw[List.append_nil,← r.length];exact F.len _ _ _ _ _ q
 have hbd:=b s1 us I1.kIn hl;rw[List.append_nil]at hbd;refine wpAny_call (codeAny_mono (F.run hd X.A X.stack s1 H1 ⟨us,[]⟩ us vs Q _ hh hr I1.env0 hbd r q) fun r s' hq=>?_);cases r with
 |error e=>exact hf pins e s' (h0c hfl I1 hq)
 |ok fl=>
  cases fl with
  |ret u=>exact I1.after hq
  |next=>exact False.elim hq
  |brk=>exact False.elim hq
  |cont=>exact False.elim hq
theorem d0s{st:Stmt}{rest:List Stmt}{t:TS}(h1:PS X st t):PSs X (st::rest) fun D σ H=>t {D with nx:=fun _ _=>False} σ H:=by
 intro pins s σ H D I h;refine wpAny_execs_cons (thn (h1 pins s σ H {D with nx:=fun _ _=>False} I h) fun f s1 q=>?_);cases f with
 |next=>obtain ⟨_,_,_,q⟩:=q;exact q.elim
 |ret v=>exact q
 |brk=>exact q
 |cont=>exact q
end
end L2
namespace DL
open PySem PySem.Spec L2
open PySem.W (XC)
open PyProof.Rows (envOfC)
noncomputable def upFH(K:Frag)(sp:Sp2)(hd:Addr):Sp:=fun vs H Q E=>∃F ds δ q x,StrongAt F hd∧Same F H∧DkOk K F H δ∧Reps K F ds vs∧sp ds δ q x∧
 (∀d v F' H' δ',Ran K F H δ F' H' δ'→Rep K F' d v→q d δ'→Q v H')∧∀C od fs F' H' δ',Ran K F H δ F' H' δ'→XRep K F' od fs→x C fs δ'→E (.ref C) od H'
noncomputable abbrev h0b(P:Program)(w:World)(K:Frag)(mg:Str→Option Value)(base:Heap)(x:Str)(k:Nat)(ps:List Str)(sp:Sp2):Prop:=FnAtH P w K mg base x k ps (upFH K sp)
theorem _root_.L2.StrongAt.mono{F F':Hp}{h:Addr}(s:Same F F')(a:StrongAt F h):StrongAt F' h:=let ⟨n,C,od,n0,e⟩:=a;⟨n,C,od,n0,s _ _ e⟩
section
variable{X:Cx}{Y:Y2}{W:XW}{x:Str}{p pos cpos:Pos}{e:Expr}{es:List Expr}{t:TA2}{k:Nat}{ps:List Str}{sp:Sp2}{hd:Addr}
theorem q0n(G:h0b X.prog X.w X.K X.mg X.base x k ps sp)(hr:RoomU k X.A)(hh:X.A.handled=some (.ref hd))(hF:StrongAt Y.F₀ hd)(hfl:X.fl=false)(hf:h8 X W)(ha:PA2 X Y W (e::es) t)(hg:Gl X x:=by rfl)(hdb:(x==("__debug__":Str))=false:=by decide)
 (he:starEach (e::es) X.env=(false,eval e X.env)::starEach es X.env:=by exact x6 rfl) (hpl:(backTo pos (starEach es X.env)).any (·.1)=false:=by exact l7 rfl):PE2 X Y W (.Call (.Name x p) (e::es) [] pos) (w0s sp t):=pe2 (pe_cH G hr hh hfl hf ha.go hg hdb he hpl) fun σ H Q h=>by
 obtain ⟨F,ρ,δ,x,q,I,h,k,kx⟩:=h;refine ⟨F,ρ,δ,x,_,I,h,fun ds vs F1 H1 ρ1 δ1 I1 s1 r1 h1=>⟨F1,ds,δ1,_,_,hF.mono I1.ran.f0,I1.sub,I1.ran.dk,r1,h1,fun d v F' H' δ' R r' q'=>?_,fun C od fs F' H' δ' R r' q'=>?_⟩,kx⟩
 ·exact k d v F' H' ρ1 δ' (I1.call R) (s1.trans R.f0) r' q'
 ·exact ⟨C,rfl,kx C od fs σ F' H' ρ1 δ' (I1.call R) (s1.trans R.f0) r' q'⟩
theorem j0t{C:Addr}(tp:Top X)(hh:X.A.handled=some (.ref hd))(hF:StrongAt Y.F₀ hd)(hfl:X.fl=false)(hf:h8 X W)(M:XMk0 X.K C)(hK:xcIn X.K C=true)(hm:X.mg x=some (.ref C))(hg:Gl X x:=by rfl)(hdb:(x==("__debug__":Str))=false:=by decide):
 PS2 X Y W (.Raise (some (.Call (.Name x p) [] [] cpos)) none pos) (w0q C):=ps2 (j0u tp hh hfl hf M hK hg hm hdb) fun E1 σ H ⟨F,ρ,δ,E2,I,h,er⟩=>by
 refine ⟨(hF.mono I.ran.f0).mono I.sub,fun y hy=>?_⟩;rw[o0v hy];exact er.xc C none [] σ F H ρ δ I (Same.refl F) rfl h
noncomputable def k0u(t:TS2):TS2:=fun E ρ δ=>t {E with nx:=fun _ _=>False} ρ δ
theorem h0a{st:Stmt}{rest:List Stmt}{t:TS2}(h1:PS2 X Y W st t):PSs2 X Y W (st::rest) (k0u t):=pss2 (d0s h1.go) fun E1 σ H ⟨F,ρ,δ,E2,I,h,er⟩=>
 ⟨F,ρ,δ,_,I,h,⟨fun _ _ _ _ _ _ _ z=>z,er.rt,er.xc,er.bk,er.ct⟩⟩
end
section
variable{P:Program}{w:World}{K:Frag}{mg:Str→Option Value}{base:Heap}
theorem z1s{x:Str}{st:Stmt}{f:Addr}{fd:FuncData}{N ps:List Str}{k:Nat}{sp:Sp2}(D:DefAt K mg x st ps f fd)(S:FnScope N ps (defScope st))(len:∀ds δ q x,sp ds δ q x→ds.length=ps.length)
 (hbody:∀(cdv:Value) (A:Around) (outer:List Env) (s:Shared) (H:Hp) (E:XK) (Y:Y2) (hd:Addr),RoomU k (A.deeper (envOfC x (defScope st) s.heap.objs.size f cdv))→(A.deeper (envOfC x (defScope st) s.heap.objs.size f cdv)).handled=some (.ref hd)→StrongAt Y.F₀ hd→
  ∃t,PSs2 (cxH P w K mg base N x (defScope st) f cdv A outer s H E) Y (fun C od _ H'=>E (.ref C) od H') (defBody st) t∧
   ∀ds δ q x,sp ds δ q x→t {nx:=fun _ δ=>q .non δ,rt:=q,xc:=fun C fs _ δ=>x C fs δ} (x4 N ds) δ):h0b P w K mg base x (k+1) ps sp:=by
 obtain ⟨oc,od,kV,doc,pm,an,cdv,ct,osl,rfl,lk,hcd⟩:=D.F.ex;refine ⟨f,_,fn_ofH lk hcd S (fun h vs H Q E h=>?_) fun hd A outer s H vs Q E hhd hr h=>?_,D.m,D.F.kp,D.b⟩
 ·obtain ⟨F,ds,δ,q,x,_,_,_,r,h,_⟩:=h;rw[r.length];exact len ds δ q x h
 ·obtain ⟨F,ds,δ,q,x,sa,s1,dk,r,h,kq,kx⟩:=h;obtain ⟨t,ht,rd⟩:=hbody cdv A outer s H E ⟨F,H,δ,none⟩ hd hr hhd sa;refine ⟨_,ht.go,F,x4 N ds,δ,_,I2.start s1 dk r,rd ds δ q x h,⟨fun σ' F' H' ρ' δ' I' s' h'=>?_,fun d v σ' F' H' ρ' δ' I' s' r' h'=>?_,fun C od fs σ' F' H' ρ' δ' I' s' r' h'=>?_,fun _ _ _ _ _ _ _ z=>z.elim,fun _ _ _ _ _ _ _ z=>z.elim⟩⟩
  ·exact kq .non .non F' H' δ' I'.ran (rep_non.mpr rfl) h'
  ·exact kq d v F' H' δ' I'.ran r' h'
  ·exact kx C od fs F' H' δ' I'.ran r' h'
end
noncomputable def Y2.plus(Y:Y2)(x:Addr)(o:HO):Y2:=⟨upd Y.F₀ x o,upd Y.H₀ x o,Y.δ₀,Y.sf⟩
section
variable{K:Frag}{Y:Y2}{F H F' H':Hp}{σ:St}{ρ:En}{δ:Dk}{x:Addr}{o:HO}
theorem CellOk.base{H₀ H₁:Hp}{sf:Option Addr}{c:Cell}{v:Option V}(k:∀a,H₁ a=none→(∃u,H a=some u∧F a=none)→H₀ a=none)(h:CellOk K F H H₁ sf c v):CellOk K F H H₀ sf c v:=by
 cases c with
 |no=>trivial
 |val d=>exact h
 |own ds=>obtain ⟨a,vs,e1,h1,f1,g1,r1⟩:=h;exact ⟨a,vs,e1,h1,f1,k a g1 ⟨_,h1,f1⟩,r1⟩
 |obj C fs=>obtain ⟨a,dx,us,e1,es1,h1,h2,f1,f2,g1,g2,r1⟩:=h;exact ⟨a,dx,us,e1,es1,h1,h2,f1,f2,k a g1 ⟨_,h1,f1⟩,k dx g2 ⟨_,h2,f2⟩,r1⟩
 |ownD kvs=>obtain ⟨a,us,e1,h1,f1,g1,r1⟩:=h;exact ⟨a,us,e1,h1,f1,k a g1 ⟨_,h1,f1⟩,r1⟩
theorem I2.plus(I:I2 K Y F H σ ρ δ)(hx:H x=none):I2 K (Y.plus x o) (upd F x o) (upd H x o) σ ρ δ:=by
 have J:=I.alloc (o:=o) hx;have h0:=I.ran.fresh hx;refine ⟨⟨J.ran.sub,J.ran.dk,fun b u e f=>?_,fun b u e=>?_,fun b u e=>?_,⟨J.ran.dto.1,fun a ds e n=>?_⟩⟩,fun i c e=>(J.env i c e).base fun a g ⟨u,hu,fu⟩=>?_,J.len,J.apart,J.off⟩
 ·have e:upd Y.H₀ x o b=some u:=e;by_cases z:b=x
  ·subst z;rw[o3]at e ⊢; exact e
  ·rw[u0 z]at e ⊢; exact I.ran.keep b u e f
 ·have e:upd Y.F₀ x o b=some u:=e;by_cases z:b=x
  ·subst z;rw[o3]at e ⊢; exact e
  ·rw[u0 z]at e ⊢; exact I.ran.f0 b u e
 ·show upd Y.F₀ x o b=some u∨upd Y.H₀ x o b=none;by_cases z:b=x
  ·subst z;rw[o3]at e ⊢; exact .inl e
  ·rw[u0 z]at e;rw[u0 z,u0 z];exact I.ran.fnew b u e
 ·have h1:=J.ran.dto.2 a ds e n;obtain ⟨_,vs,h2,_⟩:=I.ran.dk a ds e;show upd Y.H₀ x o a=none;rw[u0 (l0 h2 hx)];exact h1
 ·have g:Y.H₀ a=none:=g;show upd Y.H₀ x o a=none;by_cases z:a=x
  ·subst z;rw[o3]at fu;cases fu
  ·rw[u0 z];exact g
theorem I2.unplus(hx:Y.H₀ x=none)(hF:Y.F₀ x=none)(I:I2 K (Y.plus x o) F H σ ρ δ):I2 K Y F H σ ρ δ:=by
 have ne:∀b u,Y.H₀ b=some u→b≠x:=fun b u e z=>by rw[z,hx]at e;cases e
 refine ⟨⟨I.ran.sub,I.ran.dk,fun b u e f=>I.ran.keep b u (by show upd Y.H₀ x o b=some u;rw[u0 (ne b u e)];exact e) f,fun b u e=>I.ran.f0 b u (by show upd Y.F₀ x o b=some u;rw[u0 (fun z=>by rw[z,hF]at e;cases e)];exact e),fun b u e=>?_,⟨I.ran.dto.1,fun a ds e n=>?_⟩⟩,fun i c e=>(I.env i c e).base fun a g _=>?_,I.len,I.apart,I.off⟩
 ·rcases I.ran.fnew b u e with z |z
  ·have z:upd Y.F₀ x o b=some u:=z;by_cases y:b=x
   ·subst y;exact .inr hx
   ·rw[u0 y]at z;exact .inl z
  ·have z:upd Y.H₀ x o b=none:=z;by_cases y:b=x
   ·subst y;exact .inr hx
   ·rw[u0 y]at z;exact .inr z
 ·have z:upd Y.H₀ x o a=none:=I.ran.dto.2 a ds e n;by_cases y:a=x
  ·subst y;exact hx
  ·rw[u0 y]at z;exact z
 ·have z:upd Y.H₀ x o a=none:=g;by_cases y:a=x
  ·subst y;exact hx
  ·rw[u0 y]at z;exact z
end
end DL
namespace DL
open PySem PySem.Spec L2
theorem m0x{Y:Y2}{x C:Addr}{od:Option Addr}:StrongAt (Y.plus x (XO 2 x C od)).F₀ x:=⟨2,C,od,by decide,o3⟩
section
variable{X:Cx}{Y:Y2}{W:XW}{D:Addr}{y n:Str}{np pos:Pos}{b₀:Stmt}{suite:List Stmt}{rest:List ExceptHandler}{ts:TS2}{tr:XTS2}
theorem h2_asH(K:Frag)(i:Nat)(tp:Top X)(d:XHd K D)(hm:X.mg y=some (.ref D))(hN:X.N.Nodup)(hs:∀x C od,PSs2 (X.hdl x) (Y.plus x (XO 2 x C od)) W0 (b₀::suite) ts)(hr:PH2 X Y W rest tr)(hfl:X.fl=true:=by rfl)(hK:X.K=K:=by rfl)(hi:X.N[i]?=some n:=by rfl)(hk:X.env.scope.names.lookup n=some .local:=by rfl)(hg:Gl X y:=by rfl)(hdb:(y==("__debug__":Str))=false:=by decide):
 PH2 X Y W (.ExceptHandler (some (.Name y np)) (some n) (b₀::suite) pos::rest) (o0u K i D ts tr):=by
 subst hK;refine ph2 (ph_as (ts:=fun x E σ H=>∃C od,upS X.K (Y.plus x (XO 2 x C od)) W0 ts E σ H) tp d hg hm hN hi hk (fun x pins s σ H E I ⟨C,od,q⟩=>(hs x C od).go pins s σ H E I q) hr.go hdb) fun C od E1 σ H ⟨F,ρ,δ,E2,fs,I,r,h,er⟩=>?_
 unfold o0u at h;split at h
 ·rename_i b e;refine ⟨b,e,?_⟩;cases b with
  |true=>
   rw[if_pos rfl]at h ⊢;intro y hy;rw[hfl];show ∃C' od',upS X.K (Y.plus y (XO 2 y C' od')) W0 ts _ _ (upd H y (XO 2 y C od));have s1:=I.grow (o:=XO 2 y C od) hy;have rr:Rep X.K (upd F y (XO 2 y C od)) (.exc C fs) (.ref y):=by
    refine rep_exc.mpr ⟨y,2,rfl,?_⟩;cases od with
    |none=>exact .inl ⟨r,o3⟩
    |some dx=>
     obtain ⟨us,e1,rf⟩:=r;refine .inr ⟨dx,us,o3,?_,rf.mono s1⟩;rw[u0 (l0 (I.sub _ _ e1) hy)];exact e1
   have h0:=I.ran.fresh hy;have f0:Y.F₀ y=none:=by
    cases q:Y.F₀ y with
    |none=>rfl
    |some u=>have:=I.sub _ _ (I.ran.f0 _ _ q);rw[hy]at this;cases this
   refine ⟨C,od,_,_,δ,asE i E2,(I.plus (o:=XO 2 y C od) hy).put rr,h,⟨fun σ' F' H' ρ' δ' I' s' h'=>?_,fun d v σ' F' H' ρ' δ' I' s'=>er.rt d v σ' F' H' ρ' δ' (I'.unplus h0 f0) (s1.trans s'),fun _ _ _ _ _ _ _ _ _ _ _ z=>z,fun σ' F' H' ρ' δ' I' s' h'=>?_,fun σ' F' H' ρ' δ' I' s' h'=>?_⟩⟩
   ·exact er.nx _ F' H' _ δ' (I'.unplus h0 f0).gone (s1.trans s') h'
   ·exact er.bk _ F' H' _ δ' (I'.unplus h0 f0).gone (s1.trans s') h'
   ·exact er.ct _ F' H' _ δ' (I'.unplus h0 f0).gone (s1.trans s') h'
  |false=>rw[if_neg Bool.false_ne_true]at h ⊢; exact ⟨F,ρ,δ,E2,fs,I,r,h,er⟩
 ·exact h.elim
end
end DL
namespace DL
open PySem PySem.Spec L2
section
variable{X:Cx}{Y:Y2}{W:XW}{a:Expr}{ta:TA2}{p p2 pos pos2:Pos}
noncomputable def g0z:List D→(D→Prop)→Prop:=fun ds q=>match ds with | [d]=>(match d with | .lst xs=>q (.lst xs.reverse)|_=>False)|_=>False
theorem z1r(hc:X.calm=true)(hm:X.mg "reversed"=none)(hm2:X.mg "list"=none)(ha:PA2 X Y W [a] ta)(hg:Gl X "reversed":=by rfl)(hg2:Gl X "list":=by rfl)(hs:starEach [a] X.env=[(false,eval a X.env)]:=by rfl)
 (hs2:starEach [.Call (.Name "reversed" p) [a] [] pos] X.env=[(false,eval (.Call (.Name "reversed" p) [a] [] pos) X.env)]:=by rfl):
 PE2 X Y W (.Call (.Name "list" p2) [.Call (.Name "reversed" p) [a] [] pos] [] pos2) (t2Bi g0z ta):=pe2 (r0g hc hg hm hg2 hm2 ha.go hs hs2) fun σ H Q ⟨F,ρ,δ,x,q,I,h,k,kx⟩=>by
 refine ⟨F,ρ,δ,x,_,I,h,fun ds vs F1 H1 ρ1 δ1 I1 s1 r1 h1=>?_,kx⟩;unfold g0z at h1;split at h1
 ·split at h1
  ·rename_i xs;obtain ⟨v,rfl,r2⟩:=y0u r1;obtain ⟨a,us,rfl,e2,z⟩:=rep_lst.mp r2;exact ⟨a,us,rfl,SqL.of (I1.sub _ _ e2),fun p hp=>k _ _ _ _ ρ1 δ1 (I1.alloc hp) (s1.trans (I1.grow hp)) (I1.lst hp z.rev) h1⟩
  ·exact h1.elim
 ·exact h1.elim
end
end DL
namespace HD
open PySem PySem.W PyProof.Rows PySem.Calls
noncomputable abbrev N:Value:=.none
noncomputable abbrev r(a:Nat):Value:=.ref a
noncomputable abbrev s(x:String)(t:Nat):Value:=.str (Str.ofString x) t
noncomputable abbrev i(n:Int)(t:Nat):Value:=.int n t
noncomputable abbrev b(x:Bool):Value:=.bool x
noncomputable abbrev ty(x:String):Value:=.type x
noncomputable abbrev bi(x:String):Value:=.builtin x
noncomputable abbrev ob(c:Value)(d:Data):Obj:={cls:=c,data:=d}
noncomputable abbrev tp(l:List Value):Obj:=ob (.type "tuple") (.seq ⟨l⟩)
noncomputable abbrev fl(c:Value)(l:List Value):Obj:=ob c (.fields ⟨l⟩)
noncomputable abbrev en(P:Params)(x:String)(t:Nat)(v:Value):DictEntry:=⟨PyData.keyHash P (Str.ofString x),.str (Str.ofString x) t,v⟩
noncomputable abbrev di(l:List DictEntry)(n:Nat):Obj:=ob (.type "dict") (.dict ⟨l⟩ n)
noncomputable abbrev fn(c:Value)(n q:String)(st:Stmt)(g:Nat)(m cd:Value):Obj:=
 ob c (.func {name:=Str.ofString n,qualname:=Str.ofString q,params:=L2.defArgs st,body:=.stmts (L2.defBody st),scope:=L2.defScope st,globals:=g,closure:=[],defaults:=.none,kwdefaults:=.none,pyModule:=m,code:=cd})
noncomputable abbrev co(n:String)(bs mro:List Value)(ns:Nat)(q:String)(hd hl:Bool)(subs:List Value)(sl:List (Option Value)):Obj:={cls:=.type "type",data:=.cls {name:=Str.ofString n,bases:=bs,mro:=mro,ns:=ns,qualname:=Str.ofString q,hasDict:=hd,hasDel:=hl,subclasses:=subs},slots:=⟨sl⟩}
noncomputable def x(g:Params→List Obj)(i:Nat)(P:Params):Obj:=(g P).getD i default
noncomputable def insT(t:BT):Nat→Obj→BT:=
 @BT.rec (fun _=>Nat→Obj→BT) (fun _ o=>.node o .nil .nil)
  (fun v l r ihl ihr i o=>@Bool.rec (fun _=>BT) (@Bool.rec (fun _=>BT) (.node v l (ihr (i/2-1) o)) (.node v (ihl (i/2) o) r) (Nat.beq (i%2) 1)) (.node o l r) (Nat.beq i 0)) t
noncomputable def insL(l:List Obj):Nat→BT→BT:=
 @List.rec Obj (fun _=>Nat→BT→BT) (fun _ t=>t) (fun o _ ih n t=>ih (Nat.succ n) (insT t n o)) l
noncomputable def setL(l:List (Nat×Obj)):BT→BT:=
 @List.rec (Nat×Obj) (fun _=>BT→BT) (fun t=>t) (fun p _ ih t=>ih (insT t p.1 p.2)) l
section
variable{p:Program}{w:World}{n₀:Nat}{ann:Option Value}{bb n:Nat}{st:SharedT}{l:List Stmt}{env:Env}{c:Code}{q:Pos}{B:List Frame}{rr:Option (Flow×SharedT×Code×Pos)}
theorem v6(h:PySem.W.Fast.tw10110043849684766642 PySem.W.Fast.tw14364793385576792824 p w n₀ ann bb n st ⟨(PySem.W.Fast.tw12563942051412417395 l env).wrap doneF deadEnd id id,c,q,B⟩=rr):
 segRunT treeTable p w n₀ ann bb n st (piecesOf l env c q B)=rr:=by
 unfold piecesOf;rw[PySem.W.Fast.te10110043849684766642,PySem.W.Fast.te14364793385576792824,PySem.W.Fast.te12563942051412417395];exact h
theorem turnGo{s:Shared}{t:Thread}{r:Option (Shared×Thread)}(h:PySem.W.Fast.tw15667345088766844465 PySem.W.Fast.tw14364793385576792824 p w n₀ ann n s t=r):topGo treeTable p w n₀ ann n s t=r:=by
 rw[PySem.W.Fast.te15667345088766844465,PySem.W.Fast.te14364793385576792824];exact h
theorem z1q{s:Shared}{t:Thread}{r:Option Shared}(h:PySem.W.Fast.tw14082659384304107361 PySem.W.Fast.tw14364793385576792824 p w n₀ ann n s t=r):topRun treeTable p w n₀ ann n s t=r:=by
 rw[PySem.W.Fast.te14082659384304107361,PySem.W.Fast.te14364793385576792824];exact h
theorem g0y{s:Shared}{r:Option (Flow×Shared×Code×Pos)}(h:PySem.W.Fast.tw14374325043358763698 PySem.W.Fast.tw14364793385576792824 p w n₀ ann bb n s ⟨(PySem.W.Fast.tw1066825118222455980 l env).wrap (fun _=>doneF .next) deadEnd id id,c,q,B⟩=r):
 segRun treeTable p w n₀ ann bb n s (blockOf l env c q B)=r:=by
 unfold blockOf;rw[PySem.W.Fast.te14374325043358763698,PySem.W.Fast.te14364793385576792824,PySem.W.Fast.te1066825118222455980];exact h
theorem o0j{N:Nat}{s s' r:Shared}{b b':List Stmt}{pos p' q:Pos}(e:b=b')(h:segRun treeTable p w n₀ ann 1 n s (blockOf b env c pos [topFrame q])=some (.next,s',c,p'))
 (k:topRun treeTable p w n₀ ann N s' (restOf b' env c p' [topFrame q])=some r):topRun treeTable p w n₀ ann (n+N) s ⟨denote treeTable (.body b env),c,pos,[topFrame q]⟩=some r:=by
 subst e;exact piece_block h k
end
noncomputable def FnF(K:PySem.W.Frag)(x:Str)(st:Stmt):Prop:=∃f fd,PySem.W.nsIn K mainGlobals x=some (some (.ref f))∧L2.Fun K x x st f fd
theorem FnF.at{K:PySem.W.Frag}{h:Heap}{mg:Str→Option Value}{x:Str}{st:Stmt}(F:FnF K x st)(X:K.In h)(G:h.Ns mainGlobals mg){ps:List Str}
 (b:∀(kV doc pm:Value) (an:Option Addr) (cdv ct:Value) (us:List Value),us.length=ps.length→bindArgs (PySem.W.fnOf x x (L2.defArgs st) (L2.defBody st) (L2.defScope st) .none kV doc pm an cdv ct) ⟨us,[]⟩=pure (ps.zip us)):∃f fd,L2.DefAt K mg x st ps f fd:=by
 obtain ⟨f,fd,a,u⟩:=F;exact ⟨f,fd,u,PySem.W.mg_of X G a,u.binds b⟩
noncomputable def XMkF(K:PySem.W.Frag)(C:Addr)(q:Str)(st:Stmt):Prop:=∃f fd,L2.XMk K C f∧L2.Fun K "__init__" q st f fd
noncomputable def MkF(K:PySem.W.Frag)(C:Addr)(q:Str)(st:Stmt):Prop:=∃f fd,L2.Mk K C f∧L2.Fun K "__init__" q st f fd
end HD
set_option maxHeartbeats 8000000
namespace K10
open PySem L2 DL
open PySem.W (XC)
local macro_rules | `(tactic|walk_at "dl")=>do
 let ids:=("n0e Nat.reduceAdd Nat.reduceLT Nat.reduceLeDiff Nat.reduceSub Nat.zero_add l0g e0s q0x l0f e0q e0p e0o e0n i0d e0m o0x t2MV i0c e0l i0b o0w w0s w0q u0j t2H0 t2H o0u e0i asE e0h forL w0d o0t capt List.map_cons List.map_nil t2Is t2R1 t2R2 q0v t2C t2V i0k t0q f0a e0z t2Op t2B e0x e0w t2Or l0k l0j w0f t2Bi t2Un rdV hasV seqV mutV ixQ seqD addF addG eqG t2Sl slF t2ON t2OI d0y a0g e0a t0i q0q t0j tgD fI fI0 eqF eqD isNF r0i isBF i0h ixF inF lenF absF minF intF i0g o0y allF i0e subF mulF e0t modF powF ltF leF gtF geF repF g2N g2T t0m t0n popM List.getElem?_cons_zero List.getElem?_cons_succ List.set_cons_zero List.set_cons_succ List.length_cons List.length_nil List.lookup_cons if_true if_false Bool.false_eq_true Bool.not_true Bool.not_false decide_eq_true_eq if_pos ite_true ite_false true_and and_true List.cons_append List.nil_append a0b a0a strF addH u0f neL k0u g0z u0g g2L eqRF".splitOn " ").toArray.map fun s=>Lean.mkIdent s.toName
 let args←ids.mapM fun i=>`(Lean.Parser.Tactic.simpLemma| $i:ident)
 `(tactic|simp only[reduceIte,↓reduceIte,$args,*])
local macro_rules | `(tactic|walk_at "dn")=>do
 let ids:=("n0e Nat.reduceAdd Nat.reduceLT Nat.reduceLeDiff Nat.reduceSub Nat.zero_add l0g e0s q0x l0f e0q e0p e0o e0n i0d e0m o0x t2MV i0c e0l i0b o0w w0s w0q u0j t2H0 t2H o0u e0i asE e0h o0t capt List.map_cons List.map_nil t2Is t2R1 t2R2 q0v t2C t2V i0k t0q f0a e0z t2Op t2B e0x e0w t2Or l0k l0j w0f t2Bi t2Un rdV hasV seqV mutV ixQ seqD addF addG eqG t2Sl slF t2ON t2OI d0y a0g e0a t0i q0q t0j tgD fI fI0 eqF eqD isNF r0i isBF i0h ixF inF lenF absF minF intF i0g o0y allF i0e subF mulF e0t modF powF ltF leF gtF geF repF g2N g2T t0m t0n popM List.getElem?_cons_zero List.getElem?_cons_succ List.set_cons_zero List.set_cons_succ List.length_cons List.length_nil List.lookup_cons if_true if_false Bool.false_eq_true Bool.not_true Bool.not_false decide_eq_true_eq if_pos ite_true ite_false true_and and_true List.cons_append List.nil_append a0b a0a strF addH u0f neL k0u g0z u0g g2L eqRF".splitOn " ").toArray.map fun s=>Lean.mkIdent s.toName
 let args←ids.mapM fun i=>`(Lean.Parser.Tactic.simpLemma| $i:ident)
 `(tactic|simp only[reduceIte,↓reduceIte,$args,*])
noncomputable def top(i:Nat):Stmt:=PySem.Challenge.pw_wearplan_k10_stretches_asked.main.body.getD i (.Pass ⟨0,0,0,0⟩)
noncomputable abbrev x0k:Stmt:=top 15
noncomputable abbrev w0b:Stmt:=top 16
noncomputable abbrev q0m:Stmt:=top 17
noncomputable abbrev i9:Stmt:=top 18
noncomputable abbrev g0x:Stmt:=top 23
noncomputable abbrev w0a:Stmt:=top 24
noncomputable abbrev f8:Stmt:=top 25
noncomputable abbrev z0s:Stmt:=top 26
noncomputable abbrev h9:Stmt:=top 27
noncomputable abbrev z0r:Stmt:=top 28
noncomputable abbrev b6:Stmt:=top 29
noncomputable abbrev f9:Stmt:=top 31
noncomputable abbrev m0w:Stmt:=top 32
noncomputable abbrev y0j:Stmt:=top 33
noncomputable abbrev y8:Stmt:=top 34
noncomputable abbrev x0j:Stmt:=top 36
noncomputable abbrev v0z:Stmt:=top 37
noncomputable abbrev v0y:Stmt:=top 38
noncomputable abbrev v0x:Stmt:=top 39
noncomputable abbrev v0w:Stmt:=top 40
noncomputable abbrev v0v:Stmt:=top 41
noncomputable abbrev x0i:Stmt:=top 42
noncomputable abbrev z0q:Stmt:=top 43
noncomputable abbrev z0p:Stmt:=top 44
noncomputable abbrev c0p:Stmt:=top 45
noncomputable abbrev x0h:Stmt:=top 46
noncomputable abbrev x0g:Stmt:=top 47
noncomputable abbrev x0f:Stmt:=top 48
noncomputable abbrev q0l:Stmt:=top 49
noncomputable abbrev t0e:Stmt:=top 50
noncomputable abbrev z0o:Stmt:=top 51
noncomputable abbrev v0u:Stmt:=top 52
noncomputable abbrev y0i:Stmt:=top 53
noncomputable abbrev t0d:Stmt:=top 54
noncomputable abbrev d7:Stmt:=top 55
noncomputable abbrev n6:Stmt:=top 56
noncomputable abbrev m6:Stmt:=top 57
noncomputable abbrev a6:Stmt:=top 58
noncomputable abbrev z0n:Stmt:=top 59
noncomputable abbrev z1p:Stmt:=top 60
noncomputable abbrev z0m:Stmt:=inClass (top 2) 0
noncomputable abbrev e9:Stmt:=inClass (top 3) 0
noncomputable abbrev z0l:Stmt:=inClass (top 6) 0
noncomputable abbrev x0e:Stmt:=inClass (top 7) 0
noncomputable abbrev y0h:Stmt:=inClass (top 8) 0
noncomputable abbrev u9:Stmt:=inClass (top 10) 0
noncomputable abbrev z0k:Stmt:=inClass (top 12) 0
noncomputable abbrev x0d:Stmt:=inClass (top 22) 0
structure Cs where
 W:Addr
 Part:Addr
 NoPart:Addr
 NoWorks:Addr
 NoStands:Addr
 NoRounds:Addr
 NoPlan:Addr
 Shut:Addr
 Falls:Addr
 NoneHolds:Addr
 TooGreat:Addr
 NoPaper:Addr
 NoText:Addr
 NotTold:Addr
noncomputable def Cs.ds(c:Cs):List Addr:=[c.NoPart,c.NoWorks,c.NoStands,c.NoRounds,c.NoPlan,c.Shut,c.Falls,c.NoneHolds,c.TooGreat,c.NoPaper,c.NoText,c.NotTold]
structure Txt(K:PySem.W.Frag)(mg:Str→Option Value)(cs:Cs):Prop where
 n_ValueError:mg "ValueError"=none
 n_abs:mg "abs"=none
 n_all:mg "all"=none
 n_bool:mg "bool"=none
 n_enumerate:mg "enumerate"=none
 n_int:mg "int"=none
 n_isinstance:mg "isinstance"=none
 n_len:mg "len"=none
 n_list:mg "list"=none
 n_min:mg "min"=none
 n_range:mg "range"=none
 n_reversed:mg "reversed"=none
 n_str:mg "str"=none
 n_tuple:mg "tuple"=none
 g_GREATEST_FIRST:∃t,mg "GREATEST_FIRST"=some (.int 47 t)
 g_MOST_ROUNDS:∃t,mg "MOST_ROUNDS"=some (.int 24 t)
 c_WearError:mg "WearError"=some (.ref cs.W)
 h_WearError:XHd K cs.W
 c_Part:mg "Part"=some (.ref cs.Part)
 cl_Part:ClsI K cs.Part
 kn_Part:KNo K cs.Part
 f_Part_full:NoAttr K cs.Part "full"
 f_Part_mark:NoAttr K cs.Part "mark"
 f_Part_wear:NoAttr K cs.Part "wear"
 f_Part_price:NoAttr K cs.Part "price"
 err:∀D∈cs.ds,ErrC K cs.W D
 ne:∀D∈cs.ds,D≠cs.W
 nd:cs.ds.Nodup
 c_NoPart:mg "NoPart"=some (.ref cs.NoPart)
 h_NoPart:XHd K cs.NoPart
 x_NoPart:xcIn K cs.NoPart=true
 a_NoPart_at:NoAttr K cs.NoPart "at"
 c_NoWorks:mg "NoWorks"=some (.ref cs.NoWorks)
 h_NoWorks:XHd K cs.NoWorks
 x_NoWorks:xcIn K cs.NoWorks=true
 a_NoWorks_at:NoAttr K cs.NoWorks "at"
 c_NoStands:mg "NoStands"=some (.ref cs.NoStands)
 h_NoStands:XHd K cs.NoStands
 x_NoStands:xcIn K cs.NoStands=true
 k_NoStands:XMk0 K cs.NoStands
 c_NoRounds:mg "NoRounds"=some (.ref cs.NoRounds)
 h_NoRounds:XHd K cs.NoRounds
 x_NoRounds:xcIn K cs.NoRounds=true
 k_NoRounds:XMk0 K cs.NoRounds
 c_NoPlan:mg "NoPlan"=some (.ref cs.NoPlan)
 h_NoPlan:XHd K cs.NoPlan
 x_NoPlan:xcIn K cs.NoPlan=true
 a_NoPlan_at:NoAttr K cs.NoPlan "at"
 c_Shut:mg "Shut"=some (.ref cs.Shut)
 h_Shut:XHd K cs.Shut
 x_Shut:xcIn K cs.Shut=true
 a_Shut_round_number:NoAttr K cs.Shut "round_number"
 c_Falls:mg "Falls"=some (.ref cs.Falls)
 h_Falls:XHd K cs.Falls
 x_Falls:xcIn K cs.Falls=true
 a_Falls_round_number:NoAttr K cs.Falls "round_number"
 a_Falls_part_number:NoAttr K cs.Falls "part_number"
 c_NoneHolds:mg "NoneHolds"=some (.ref cs.NoneHolds)
 h_NoneHolds:XHd K cs.NoneHolds
 x_NoneHolds:xcIn K cs.NoneHolds=true
 k_NoneHolds:XMk0 K cs.NoneHolds
 c_TooGreat:mg "TooGreat"=some (.ref cs.TooGreat)
 h_TooGreat:XHd K cs.TooGreat
 x_TooGreat:xcIn K cs.TooGreat=true
 a_TooGreat_most:NoAttr K cs.TooGreat "most"
 c_NoPaper:mg "NoPaper"=some (.ref cs.NoPaper)
 h_NoPaper:XHd K cs.NoPaper
 x_NoPaper:xcIn K cs.NoPaper=true
 k_NoPaper:XMk0 K cs.NoPaper
 c_NoText:mg "NoText"=some (.ref cs.NoText)
 h_NoText:XHd K cs.NoText
 x_NoText:xcIn K cs.NoText=true
 a_NoText_row:NoAttr K cs.NoText "row"
 c_NotTold:mg "NotTold"=some (.ref cs.NotTold)
 h_NotTold:XHd K cs.NotTold
 x_NotTold:xcIn K cs.NotTold=true
 k_NotTold:XMk0 K cs.NotTold
noncomputable def DkAt(p:Addr)(ns:List Int)(n:Nat)(δ:Dk):Prop:=∃c k:Int,δ=some (p,[.scr (ns.map D.int),.int c,.int k])∧0≤c∧0≤k∧k≤n
noncomputable def spCell:Sp2:=fun ds δ q _=>∃(ns:List Int) (k:Int),ds=[.scr (ns.map D.int),.int k]∧0≤k∧∀r:Int,0≤r→q (.int r) δ
noncomputable def spDraw:Sp2:=fun ds δ q _=>∃(ns:List Int) (k m:Int),ds=[.scr (ns.map D.int),.int k,.int m]∧0≤k∧k<2^40∧0<m∧∀r:Int,0≤r→r<m→q (.int r) δ
noncomputable def spDeck:Sp2:=fun ds δ q _=>∃(ns:List Int),ds=[.scr (ns.map D.int)]∧δ=none∧∀p δ',DkAt p ns 0 δ'→q (.ref p) δ'
noncomputable def spTake:Sp2:=fun ds δ q _=>∃(p:Addr) (ns:List Int) (n:Nat) (m:Int),ds=[.ref p,.int m]∧DkAt p ns n δ∧n<2^30∧0<m∧m<2^30∧∀(d:Int) δ',0≤d→d<m→DkAt p ns (n+1) δ'→q (.int d) δ'
noncomputable def g0w(d:D):Bool:=match d with | .int _=>true |_=>false
noncomputable def q0k:Sp2:=fun ds δ q _=>match ds with | [d]=>u4 d=true∧q (.bl (g0w d)) δ |_=>False
noncomputable def x0c:Sp2:=fun ds δ q _=>match ds with | [d,.int lo,.int hi]=>u4 d=true∧q (.bl (u3 d lo hi)) δ |_=>False
noncomputable def numD(d:D)(j:Int):Bool:=match d with | .int i=>decide (i=j)|_=>false
noncomputable def f0b:Sp2:=fun ds δ q _=>match ds with | [d,.int j]=>u4 d=true∧q (.bl (numD d j)) δ |_=>False
noncomputable def rowD:D→Option (List D)| .lst xs=>some xs | .tup xs=>some xs |_=>none
noncomputable def r0f(d:D):Bool:=(rowD d).isSome
noncomputable def y6(d:D):Bool:=u4 d&&(match rowD d with |some xs=>xs.all u4 |none=>true)
noncomputable def v0t(d:D)(a b lo hi:Int):Bool:=match rowD d with |some xs=>decide (a≤(xs.length:Int))&&decide ((xs.length:Int)≤b)&&xs.all (u3 · lo hi)|none=>false
noncomputable def d0r:Sp2:=fun ds δ q _=>match ds with | [d]=>u4 d=true∧q (.bl (r0f d)) δ |_=>False
noncomputable def k0t:Sp2:=fun ds δ q _=>match ds with | [d,.int a,.int b,.int lo,.int hi]=>y6 d=true∧b≤900∧q (.bl (v0t d a b lo hi)) δ |_=>False
theorem g0v{α:Type}(f:α→Bool):∀xs:List α,blsD (xs.map fun e=>D.bl (f e))=some (xs.map f)
 | []=>rfl
 |x::xs=>by rw[List.map_cons,List.map_cons];unfold blsD;rw[g0v f xs];rfl
theorem all_id(xs:List Bool):xs.all id=xs.all fun b=>b:=rfl
theorem t0c:(("full":Str)=="full")=true:=by decide +kernel
theorem t0b:(("full":Str)=="mark")=false:=by decide +kernel
theorem t0a:(("full":Str)="mark")=False:=eq_false (by decide +kernel)
theorem v0e:(("full":Str)=="price")=false:=by decide +kernel
theorem v0d:(("full":Str)="price")=False:=eq_false (by decide +kernel)
theorem s0z:(("full":Str)=="wear")=false:=by decide +kernel
theorem s0y:(("full":Str)="wear")=False:=eq_false (by decide +kernel)
theorem s0x:(("mark":Str)=="full")=false:=by decide +kernel
theorem m0v:(("mark":Str)="full")=False:=eq_false (by decide +kernel)
theorem s0w:(("mark":Str)=="mark")=true:=by decide +kernel
theorem v0c:(("mark":Str)=="price")=false:=by decide +kernel
theorem v0b:(("mark":Str)="price")=False:=eq_false (by decide +kernel)
theorem s0v:(("mark":Str)=="wear")=false:=by decide +kernel
theorem s0u:(("mark":Str)="wear")=False:=eq_false (by decide +kernel)
theorem v0a:(("price":Str)=="full")=false:=by decide +kernel
theorem o0i:(("price":Str)="full")=False:=eq_false (by decide +kernel)
theorem u0z:(("price":Str)=="mark")=false:=by decide +kernel
theorem o0h:(("price":Str)="mark")=False:=eq_false (by decide +kernel)
theorem w0m:(("price":Str)=="price")=true:=by decide +kernel
theorem u0y:(("price":Str)=="wear")=false:=by decide +kernel
theorem o0g:(("price":Str)="wear")=False:=eq_false (by decide +kernel)
theorem s0t:(("wear":Str)=="full")=false:=by decide +kernel
theorem m0u:(("wear":Str)="full")=False:=eq_false (by decide +kernel)
theorem s0s:(("wear":Str)=="mark")=false:=by decide +kernel
theorem m0t:(("wear":Str)="mark")=False:=eq_false (by decide +kernel)
theorem u0x:(("wear":Str)=="price")=false:=by decide +kernel
theorem u0w:(("wear":Str)="price")=False:=eq_false (by decide +kernel)
theorem s0r:(("wear":Str)=="wear")=true:=by decide +kernel
local macro_rules | `(tactic|walk_at "fl")=>do
 let ids:=("T.cl_Part.cl T.f_Part_full T.f_Part_mark T.f_Part_wear T.f_Part_price t0c t0b v0e s0z s0x s0w v0c s0v v0a u0z w0m u0y s0t s0s u0x s0r List.lookup_cons true_and".splitOn " ").toArray.map fun s=>Lean.mkIdent s.toName
 let args←ids.mapM fun i=>`(Lean.Parser.Tactic.simpLemma| $i:ident)
 `(tactic|simp only[reduceIte,↓reduceIte,$args,*])
local macro_rules | `(tactic|walk_at "ds")=>do
 let ids:=("n0e Nat.reduceAdd Nat.reduceLT Nat.reduceLeDiff Nat.reduceSub Nat.zero_add o0t capt List.map_cons List.map_nil t0m List.getElem?_cons_zero List.getElem?_cons_succ List.set_cons_zero List.set_cons_succ List.length_cons List.length_nil List.lookup_cons if_true if_false Bool.false_eq_true Bool.not_true Bool.not_false decide_eq_true_eq if_pos ite_true ite_false true_and and_true List.cons_append List.nil_append T.cl_Part.cl T.f_Part_full T.f_Part_mark T.f_Part_wear T.f_Part_price t0c t0b v0e s0z s0x s0w v0c s0v v0a u0z w0m u0y s0t s0s u0x s0r q0w t0a v0d s0y m0v v0b s0u o0i o0h o0g m0u m0t u0w".splitOn " ").toArray.map fun s=>Lean.mkIdent s.toName
 let jds:=("l0g e0s q0x t2Cont l0f e0q t2RetN e0p e0o e0n i0d e0m o0x t2SetV t2MV i0c e0l i0b t2XFld o0w call_s k_int k_bl k_str k_non k_lst k_tup k_ins k_ref k_dwk k_dic x_nil x_cons w0q u0j e0j t2Exc1 t2Exc2 t2H0 t2H o0u e0i noX asE e0h t2Is t2R1 t2R2 t2Comp t2OwnC a0m q0v t2C t2V i0k t0q f0a e0z t2Op t2B e0x e0w t2Or l0k t2OrV l0j t2If w0f t2Bi t2Un rdV hasV seqV mutV ixQ seqD addF addG sumF eqG neG t2Sl slF t2ON t2OI lrQ a0d t2LR a0c t2TR d0y sortIF a0g e0a t0i t2OwnM q0q t0j t2BNil t2BV t2BO a0e tgD fI fI0 eqF neF eqD isNF notNF r0i isBF i0h ixF inF notInF lenF absF minF maxF intF i0g o0y allF i0e subF mulF e0t modF powF ltF leF gtF geF repF g2N g2T t0n popM a0b a0a strF addS addH t2AugV d0x u0f t2MaxV neL k0u g0z z1z t2PutD t2GetD t2IxD dicV t2VD t2DicV t2Keys minLF z1y t2LenD u0g g2L eqL eqRF z1v sumB t2AugM z1u".splitOn " ").toArray.map fun s=>Lean.mkIdent s.toName
 let a←ids.mapM fun i=>`(Lean.Parser.Tactic.simpLemma| $i:ident)
 let b←jds.mapM fun i=>`(Lean.Parser.Tactic.simpLemma| ↓ $i:ident)
 let args:=a++b
 `(tactic|simp -dsimp -failIfUnchanged only[reduceIte,↓reduceIte,$args,*])
section
variable{P:Program}{w:World}{K:PySem.W.Frag}{mg:Str→Option Value}{base:Heap}{cs:Cs}
noncomputable abbrev z0j:List Str:=["thing"]
theorem sc_is_number:FnScope ["thing"] z0j (defScope x0k):=⟨rfl,rfl,rfl,by decide +kernel,rfl,by decide +kernel,by decide +kernel⟩
noncomputable abbrev x0b(P:Program)(w:World)(K:PySem.W.Frag)(mg:Str→Option Value)(base:Heap)(cs:Cs):Prop:=m0z P w K mg base "is_number" 1 z0j q0k
theorem o0f{f:Addr}{fd:FuncData}(Df:DefAt K mg "is_number" x0k z0j f fd)(T:Txt K mg cs):x0b P w K mg base cs:=by
 have nd:=sc_is_number.nd;refine h0k Df sc_is_number (fun ds δ q x h=>?_) (fun cdv A outer s H E Y hr=>⟨_,(i0 (a3 (p0a (e2_b p4 (p6 (K:=K)) T.n_isinstance m3 (z0 (e2_v 0) (z0 (k0b "int" T.n_int l0l) y0))) (p0b (e2_not (e2_b p4 (p6 (K:=K)) T.n_isinstance m3 (z0 (e2_v 0) (z0 (k0b "bool" T.n_bool i0m) y0)))))))),fun ds δ q x h=>?_⟩)
 ·unfold q0k at h;split at h
  ·rfl
  ·exact h.elim
 ·unfold q0k at h;split at h;rotate_left
  ·exact h.elim
  rename_i d;obtain ⟨hd,hq⟩:=h;rw[show x4 ["thing"] _=[.val _]from rfl];obtain ⟨t1,t2⟩:=l0b (K:=K) hd;walk_at "dl";simp only[h0t K t1 t2,ko_int K t1 t2,t1,true_and];cases d<;>first |cases hd |skip
  all_goals (walk_at "dl";exact hq)
noncomputable abbrev x0y:List Str:=["thing","least","most"]
theorem sc_is_whole:FnScope ["thing","least","most"] x0y (defScope w0b):=⟨rfl,rfl,rfl,by decide +kernel,rfl,by decide +kernel,by decide +kernel⟩
noncomputable abbrev u7(P:Program)(w:World)(K:PySem.W.Frag)(mg:Str→Option Value)(base:Heap)(cs:Cs):Prop:=m0z P w K mg base "is_whole" 2 x0y x0c
theorem m0s{f:Addr}{fd:FuncData}(Df:DefAt K mg "is_whole" w0b x0y f fd)(T:Txt K mg cs)(G_is_number:x0b P w K mg base cs):u7 P w K mg base cs:=by
 have nd:=sc_is_whole.nd;refine h0k Df sc_is_whole (fun ds δ q x h=>?_) (fun cdv A outer s H E Y hr=>⟨_,(i0 (a3 (p0a (p9 G_is_number (hr.mono (by decide)) v0i (z0 (e2_v 0) y0)) (p0b (e0v k0l k0l d_le d_le (e2_v 1) (e2_v 0) (e2_v 2)))))),fun ds δ q x h=>?_⟩)
 ·unfold x0c at h;split at h
  ·rfl
  ·exact h.elim
 ·unfold x0c at h;split at h;rotate_left
  ·exact h.elim
  rename_i d lo hi;obtain ⟨hd,hq⟩:=h;rw[show x4 ["thing","least","most"] _=[.val _,.val _,.val _]from rfl];walk_at "dl";simp only[q0k,hd,true_and];cases d<;>first |cases hd |skip
  all_goals first |(simp only[g0w];walk_at "dl";exact hq)|(simp only[g0w];walk_at "dl")
  simp only[u3]at hq;split
  ·rename_i h1;rw[decide_eq_true h1,Bool.true_and]at hq;exact hq
  ·rename_i h1;rw[decide_eq_false h1,Bool.false_and]at hq;exact hq
theorem b5{i lo hi:Int}(h1:lo≤i)(h2:i≤hi):u3 (.int i) lo hi=true:=by show (decide (lo≤i)&&decide (i≤hi))=true;rw[decide_eq_true h1,decide_eq_true h2];rfl
theorem q0j{i lo hi:Int}(h:i<lo∨hi<i):u3 (.int i) lo hi=false:=by
 show (decide (lo≤i)&&decide (i≤hi))=false;rw[Bool.and_eq_false_iff];rcases h with h |h
 ·exact .inl (decide_eq_false (by omega))
 ·exact .inr (decide_eq_false (by omega))
noncomputable abbrev u0e:List Str:=["thing"]
theorem sc_is_row:FnScope ["thing"] u0e (defScope q0m):=⟨rfl,rfl,rfl,by decide +kernel,rfl,by decide +kernel,by decide +kernel⟩
noncomputable abbrev u0d(P:Program)(w:World)(K:PySem.W.Frag)(mg:Str→Option Value)(base:Heap)(cs:Cs):Prop:=Fun2 P w K mg base "is_row" 2 u0e d0r
theorem g0u{f:Addr}{fd:FuncData}(Df:DefAt K mg "is_row" q0m u0e f fd)(T:Txt K mg cs):u0d P w K mg base cs:=by
 have nd:=sc_is_row.nd;refine def2 Df sc_is_row (fun ds δ q x h=>?_) (fun cdv A outer s H E Y hr=>⟨_,(i0 (a3 (e2_b p4 (p6 (K:=K)) T.n_isinstance m3 (z0 (e2_v 0) (z0 (y0n (z0 (k0b "list" T.n_list t0s) (z0 (k0b "tuple" T.n_tuple w0t) y0))) y0))))),fun ds δ q x h=>?_⟩)
 ·unfold d0r at h;split at h
  ·rfl
  ·exact h.elim
 ·unfold d0r at h;split at h;rotate_left
  ·exact h.elim
  rename_i d;obtain ⟨hd,hq⟩:=h;rw[show x4 ["thing"] _=[.val _]from rfl];obtain ⟨t1,t2⟩:=l0b (K:=K) hd;walk_at "dl";simp only[ko_row K t1 t2,t1,true_and];cases d
  all_goals first |exact hq |cases hd
noncomputable abbrev x8:List Str:=["thing","shortest","longest","least","most"]
theorem sc_is_whole_row:FnScope ["thing","shortest","longest","least","most"] x8 (defScope i9):=⟨rfl,rfl,rfl,by decide +kernel,rfl,by decide +kernel,by decide +kernel⟩
noncomputable abbrev w8(P:Program)(w:World)(K:PySem.W.Frag)(mg:Str→Option Value)(base:Heap)(cs:Cs):Prop:=Fun2 P w K mg base "is_whole_row" 3 x8 k0t
theorem s0q{f:Addr}{fd:FuncData}(Df:DefAt K mg "is_whole_row" i9 x8 f fd)(T:Txt K mg cs)(G_is_row:u0d P w K mg base cs)(G_is_whole:u7 P w K mg base cs):w8 P w K mg base cs:=by
 have nd:=sc_is_whole_row.nd;refine def2 Df sc_is_whole_row (fun ds δ q x h=>?_) (fun cdv A outer s H E Y hr=>⟨_,(v0 (z5 (PW2.pt (k0a (b4 (p5 (d0 G_is_row (hr.mono (by decide)) j0 (z0 (e2_v 0) y0)))) (p0c (b4 (e0u k0l k0l d_le d_le (e2_v 1) (y0l 0 T.n_len) (e2_v 2)))))) (i0 (a3 i5)) o4)
  (i0 (a3 (e2_b (f0g rfl) d_all T.n_all bt_all (z0 (q0s rfl (CompOkM.of ["entry"] [3,4] rfl) (z0y (e2_v 0)) (fun nd _ _ _ _ _=>(l3 (i:=0) nd rfl (by first |exact Or.inl rfl |exact Or.inr rfl))) q0u (fun _ _ _ _ _ _=>n0c) (fun _ _ _ _ _ _=>(d0 G_is_whole.calm (hr.mono (by decide)) v0i (z0 (e2_v 0) (z0 (e2_v 1) (z0 (e2_v 2) y0)))))) y0))))),fun ds δ q x h=>?_⟩)
 ·unfold k0t at h;split at h
  ·rfl
  ·exact h.elim
 ·unfold k0t at h;split at h;rotate_left
  ·exact h.elim
  rename_i d a b lo hi;obtain ⟨ht,hb,hq⟩:=h;rw[show x4 ["thing","shortest","longest","least","most"] _=[.val _,.val _,.val _,.val _,.val _]from rfl];have hp:u4 d=true:=by unfold y6 at ht;rw[Bool.and_eq_true]at ht;exact ht.1
  walk_at "dl";simp only[d0r,hp,true_and];cases e:rowD d with
  |none=>
   have e1:r0f d=false:=by unfold r0f;rw[e];rfl
   have e2:v0t d a b lo hi=false:=by unfold v0t;rw[e]
   rw[e2]at hq;simp only[e1,Bool.not_false,if_true];exact hq
  |some xs=>
   have e1:r0f d=true:=by unfold r0f;rw[e];rfl
   have e3:seqD d=some xs:=by cases d<;>first |(cases e;rfl)|cases e
   have hx:∀x∈xs,u4 x=true:=by
    unfold y6 at ht;rw[Bool.and_eq_true,e]at ht;exact List.all_eq_true.mp ht.2
   unfold v0t at hq;rw[e]at hq;dsimp only at hq;simp only[e1,Bool.not_true,Bool.false_eq_true,if_false];have main:∀ ρ:En,ρ[3]?=some (.val (.int lo))→ρ[4]?=some (.val (.int hi))→(xs.length:Int)≤b→q (.bl (xs.all (u3 · lo hi))) δ→w0d (w0s x0c (t0q (t2V 0) (t0q (t2V 1) (t0q (t2V 2) i0k)))) [3,4] ρ
    (fun acc δ2=>match blsD acc with |some bs=>q (D.bl (bs.all id)) δ2 |none=>False) xs [] δ:=by
    intro ρ r3 r4 hlen hq;refine l0a (fun i acc δ'=>acc=(xs.take i).map (fun z=>D.bl (u3 z lo hi))∧δ'=δ) ⟨rfl,rfl⟩ ?_ ?_
    ·rintro i z acc δ' rest hi ⟨rfl,rfl⟩ hrest;have hl:=(List.getElem?_eq_some_iff.mp hi).1;simp only[capt,o0t,List.map_cons,List.map_nil,r3,r4];walk_at "dl";simp only[x0c,hx z (List.mem_of_getElem? hi),true_and];refine ⟨by rw[List.length_map,List.length_take];omega,hrest _ _ ⟨?_,rfl⟩⟩;rw[List.take_succ,hi,List.map_append];rfl
    ·rintro acc δ' ⟨rfl,rfl⟩;rw[List.take_length,g0v];have:(xs.map fun z=>u3 z lo hi).all id=xs.all (u3 · lo hi):=by rw[List.all_map];rfl
     dsimp only;rw[this];exact hq
   cases d<;>first |(cases e;done)|skip
   all_goals
    cases e;dsimp only;split
    ·rename_i h1;split
     ·rename_i h2;rw[Bool.not_eq_true',decide_eq_false_iff_not]at h2;rw[decide_eq_true h1,decide_eq_false h2]at hq;exact hq
     ·rename_i h2;rw[Bool.not_eq_true',decide_eq_false_iff_not,Decidable.not_not]at h2;rw[decide_eq_true h1,decide_eq_true h2]at hq;exact main _ rfl rfl h2 hq
    ·rename_i h1;rw[decide_eq_false h1]at hq;exact hq
noncomputable def a5(cs:Cs)(full mark:Int)(ws:List Int)(price:Int):D:=.ins cs.Part [("full",.int full),("mark",.int mark),("wear",.tup (ws.map D.int)),("price",.int price)]
theorem o7{d:D}{lo hi:Int}(h:u3 d lo hi=true):∃i,d=.int i∧lo≤i∧i≤hi:=by
 cases d with
 |int i=>unfold u3 at h;rw[Bool.and_eq_true,decide_eq_true_eq,decide_eq_true_eq]at h;exact ⟨i,rfl,h.1,h.2⟩
 |_=>cases h
noncomputable def s0p(cs:Cs):Sp2:=fun ds δ q x=>match ds with
 | [a,m,w,p]=>(y6 a&&y6 m&&y6 w&&y6 p)=true∧(if u3 a 1 9=true then (match a with
  | .int i=>if u3 m 0 i=true then (if v0t w 1 6 0 9=true then (if u3 p 0 99=true then q (.ins cs.Part [("full",a),("mark",m),("wear",.tup ((rowD w).getD [])),("price",p)]) δ else x cs.NoPart [("at",.int 3)] δ)else x cs.NoPart [("at",.int 2)] δ)else x cs.NoPart [("at",.int 1)] δ
  |_=>False)else x cs.NoPart [("at",.int 0)] δ)
 |_=>False
theorem sc_Part_init:FnScope ["self","full","mark","wear","price"] ["self","full","mark","wear","price"] (defScope x0d):=⟨rfl,rfl,rfl,by decide +kernel,rfl,by decide +kernel,by decide +kernel⟩
theorem o0e{f:Addr}{fd:FuncData}(Fn:Fun K "__init__" "Part.__init__" x0d f fd)(M:Mk K cs.Part f)(bd:Binds K fd ["self","full","mark","wear","price"] [])(T:Txt K mg cs)(G_is_whole:u7 P w K mg base cs)(G_is_whole_row:w8 P w K mg base cs)(M_NoPart:MkE P w K mg base "NoPart" cs.NoPart 1 ["self","at"] (spXI cs.NoPart "at")):Make2 P w K mg base "Part" 4 (s0p cs):=by
 have nd:=sc_Part_init.nd;refine init2 Fn M T.c_Part bd sc_Part_init (fun ds δ q x h=>?_) (fun cdv A outer s H E Y hr=>⟨_,(v0 (z5 (b4 (p5 (d0 G_is_whole.calm (hr.mono (by decide)) j0 (z0 (e2_v 1) (z0 o0 (z0 o0 y0)))))) (i0 (w0r rfl j0 M_NoPart (hr.mono (by decide)) (z0 o0 y0))) o4)
  (v0 (z5 (b4 (p5 (d0 G_is_whole.calm (hr.mono (by decide)) j0 (z0 (e2_v 2) (z0 o0 (z0 (e2_v 1) y0)))))) (i0 (w0r rfl j0 M_NoPart (hr.mono (by decide)) (z0 o0 y0))) o4)
  (v0 (z5 (b4 (p5 (d0 G_is_whole_row (hr.mono (by decide)) j0 (z0 (e2_v 3) (z0 o0 (z0 o0 (z0 o0 (z0 o0 y0)))))))) (i0 (w0r rfl j0 M_NoPart (hr.mono (by decide)) (z0 o0 y0))) o4)
  (v0 (z5 (b4 (p5 (d0 G_is_whole.calm (hr.mono (by decide)) j0 (z0 (e2_v 4) (z0 o0 (z0 o0 y0)))))) (i0 (w0r rfl j0 M_NoPart (hr.mono (by decide)) (z0 o0 y0))) o4)
  (v0 (u0h K 0 (e2_v 1))
  (v0 (u0h K 0 (e2_v 2))
  (v0 (u0h K 0 (t0p i8 q0y T.n_tuple w0t (z0 (e2_v 3) y0)))
  (i0 (u0h K 0 (e2_v 4)))))))))),fun ds δ q x h=>?_⟩)
 ·unfold s0p at h;split at h
  ·rfl
  ·exact h.elim
 ·unfold s0p at h;split at h;rotate_left
  ·exact h.elim
  rename_i a m v p;rw[show x4 ["full","mark","wear","price"] _=[.val _,.val _,.val _,.val _]from rfl];obtain ⟨ht,hq⟩:=h;simp only[Bool.and_eq_true]at ht;obtain ⟨⟨⟨ta,tm⟩,tv⟩,tp⟩:=ht;have pl:∀{d:D},y6 d=true→u4 d=true:=fun {d} h=>by unfold y6 at h;rw[Bool.and_eq_true]at h;exact h.1
  walk_at "dl";simp only[x0c,pl ta,true_and];cases ea:u3 a 1 9 with
  |false=>
   rw[ea]at hq;simp only[Bool.not_false,if_true];exact hq
  |true=>
   rw[ea]at hq;obtain ⟨i,rfl,i1,i2⟩:=o7 ea;simp only[Bool.not_true,Bool.false_eq_true,if_false,pl tm,true_and,k0t,pl tp,tv,if_true]at hq ⊢;cases em:u3 m 0 i with
   |false=>
    rw[em]at hq;simp only[Bool.not_false,if_true];exact hq
   |true=>
    rw[em]at hq;simp only[Bool.not_true,Bool.false_eq_true,if_false,if_true]at hq ⊢;refine ⟨by decide,?_⟩;cases ev:v0t v 1 6 0 9 with
    |false=>
     rw[ev]at hq;simp only[Bool.not_false,if_true];exact hq
    |true=>
     rw[ev]at hq;simp only[Bool.not_true,Bool.false_eq_true,if_false,if_true]at hq ⊢;cases ep:u3 p 0 99 with
     |false=>
      rw[ep]at hq;simp only[Bool.not_false,if_true];exact hq
     |true=>
      rw[ep]at hq;simp only[Bool.not_true,Bool.false_eq_true,if_false,if_true]at hq ⊢;cases v<;>first |(cases ev;done)|skip
      all_goals
       simp only[T.cl_Part.cl,T.f_Part_full,T.f_Part_mark,T.f_Part_wear,T.f_Part_price,q0w,t0a,s0y,v0d,s0u,v0b,u0w,if_false,List.length_cons,List.length_nil,true_and]
       repeat (first |exact ⟨_,rfl,hq⟩|(refine ⟨by decide,?_⟩))
noncomputable def r9(ws:List Int)(r:Int):Int:=ws.getD (r%(ws.length:Int)).toNat 0
theorem g0t{ws:List Int}(r:Int)(h:0<ws.length):atI (ws.map D.int) (r%((ws.map D.int).length:Nat))=some (.int (r9 ws r)):=by
 rw[List.length_map];have h1:=Int.emod_nonneg r (b:=(ws.length:Int)) (by omega);have h2:=Int.emod_lt_of_pos r (b:=(ws.length:Int)) (by omega);unfold r9;generalize r%(ws.length:Int)=z at h1 h2;have hz:z=((z.toNat:Nat):Int):=by omega
 rw[hz,t0u (v:=D.int (ws.getD z.toNat 0))]
 ·rfl
 ·rw[List.getElem?_map,List.getElem?_eq_getElem (show z.toNat<ws.length by omega),List.getD_eq_getElem?_getD,List.getElem?_eq_getElem (show z.toNat<ws.length by omega)];rfl
noncomputable def g0s(cs:Cs):Sp2:=fun ds δ q _=>∃full mark ws price r,ds=[a5 cs full mark ws price,.int r]∧0<ws.length∧q (.int (r9 ws r)) δ
noncomputable def s0o(cs:Cs):Sp2:=fun ds δ q _=>∃full mark ws price d,ds=[a5 cs full mark ws price,d]∧u4 d=true∧q (.bl (u3 d mark full)) δ
noncomputable def y0g(cs:Cs):Sp2:=fun ds δ q x=>∃d,ds=[d]∧u4 d=true∧(u3 d 0 47=true→q .non δ)∧(u3 d 0 47=false→x cs.NoRounds [] δ)
noncomputable abbrev k0s:List Str:=["part","round_number"]
theorem sc_loss:FnScope ["part","round_number"] k0s (defScope g0x):=⟨rfl,rfl,rfl,by decide +kernel,rfl,by decide +kernel,by decide +kernel⟩
noncomputable abbrev g0r(P:Program)(w:World)(K:PySem.W.Frag)(mg:Str→Option Value)(base:Heap)(cs:Cs):Prop:=Fun2 P w K mg base "loss" 2 k0s (g0s cs)
theorem z1o{f:Addr}{fd:FuncData}(Df:DefAt K mg "loss" g0x k0s f fd)(T:Txt K mg cs):g0r P w K mg base cs:=by
 have nd:=sc_loss.nd;refine def2 Df sc_loss (fun ds δ q x h=>?_) (fun cdv A outer s H E Y hr=>⟨_,(i0 (a3 (b0a l0t d_ix (w0c K (e2_v 0)) (u2 i4 d6 (e2_v 1) (e2_b q9 a0u T.n_len l0m (z0 (w0c K (e2_v 0)) y0)))))),fun ds δ q x h=>?_⟩)
 ·unfold g0s at h;obtain ⟨full,mark,ws,price,r,rfl,hl,hq⟩:=h;rfl
 ·unfold g0s at h;obtain ⟨full,mark,ws,price,r,rfl,hl,hq⟩:=h;rw[show x4 ["part","round_number"] _=[.val _,.val _]from rfl];walk_at "dl"
  (try simp only[a5];walk_at "fl")
  exact ⟨by rw[List.length_map];omega,by rw[g0t r hl];exact hq⟩
noncomputable abbrev x0x:List Str:=["part","thing"]
theorem sc_is_stand:FnScope ["part","thing"] x0x (defScope w0a):=⟨rfl,rfl,rfl,by decide +kernel,rfl,by decide +kernel,by decide +kernel⟩
noncomputable abbrev x0w(P:Program)(w:World)(K:PySem.W.Frag)(mg:Str→Option Value)(base:Heap)(cs:Cs):Prop:=m0z P w K mg base "is_stand" 3 x0x (s0o cs)
theorem m0r{f:Addr}{fd:FuncData}(Df:DefAt K mg "is_stand" w0a x0x f fd)(T:Txt K mg cs)(G_is_whole:u7 P w K mg base cs):x0w P w K mg base cs:=by
 have nd:=sc_is_stand.nd;refine h0k Df sc_is_stand (fun ds δ q x h=>?_) (fun cdv A outer s H E Y hr=>⟨_,(i0 (a3 (p9 G_is_whole (hr.mono (by decide)) v0i (z0 (e2_v 1) (z0 (w0c K (e2_v 0)) (z0 (w0c K (e2_v 0)) y0)))))),fun ds δ q x h=>?_⟩)
 ·unfold s0o at h;obtain ⟨full,mark,ws,price,d,rfl,hd,hq⟩:=h;rfl
 ·unfold s0o at h;obtain ⟨full,mark,ws,price,d,rfl,hd,hq⟩:=h;rw[show x4 ["part","thing"] _=[.val _,.val _]from rfl];walk_at "dl"
  (try simp only[a5];walk_at "fl")
  exact ⟨hd,hq⟩
noncomputable abbrev d8:List Str:=["first"]
theorem sc_check_first:FnScope ["first"] d8 (defScope z0s):=⟨rfl,rfl,rfl,by decide +kernel,rfl,by decide +kernel,by decide +kernel⟩
noncomputable abbrev b8(P:Program)(w:World)(K:PySem.W.Frag)(mg:Str→Option Value)(base:Heap)(cs:Cs):Prop:=Fun2 P w K mg base "check_first" 3 d8 (y0g cs)
theorem s0b{f:Addr}{fd:FuncData}(Df:DefAt K mg "check_first" z0s d8 f fd)(T:Txt K mg cs)(G_is_whole:u7 P w K mg base cs):b8 P w K mg base cs:=by
 have nd:=sc_check_first.nd;refine def2 Df sc_check_first (fun ds δ q x h=>?_) (fun cdv A outer s H E Y hr=>⟨_,(i0 (z5 (b4 (p5 (d0 G_is_whole.calm (hr.mono (by decide)) j0 (z0 (e2_v 0) (z0 o0 (z0 (a0l T.g_GREATEST_FIRST) y0)))))) (i0 (w0p rfl j0 T.k_NoRounds T.x_NoRounds T.c_NoRounds)) o4)),fun ds δ q x h=>?_⟩)
 ·unfold y0g at h;obtain ⟨d,rfl,hd,hq,hx⟩:=h;rfl
 ·unfold y0g at h;obtain ⟨d,rfl,hd,hq,hx⟩:=h;rw[show x4 ["first"] _=[.val _]from rfl];walk_at "dl";simp only[x0c];refine ⟨hd,?_⟩;cases e:u3 d 0 47 with
  |true=>exact hq e
  |false=>exact hx e
noncomputable def DkM(p:Addr)(n:Nat)(δ:Dk):Prop:=∃ms:List Int,δ=some (p,ms.map D.int)∧n≤ms.length∧∀m∈ms,0≤m∧m<1000
theorem DkM.mono{p:Addr}{n m:Nat}{δ:Dk}(h:DkM p n δ)(l:m≤n):DkM p m δ:=by
 obtain ⟨ms,e,h1,h2⟩:=h;exact ⟨ms,e,by omega,h2⟩
theorem o0d{tc:TT2}{tb:TS2}{E:End2}(P:Nat→En→Dk→Prop)(step:∀(k:Nat) (ρ:En) (δ:Dk) (rest:En→Dk→Prop),P k ρ δ→(∀ ρ' δ',k≠0→P (k-1) ρ' δ'→rest ρ' δ')→
 tc E.xc ρ δ fun b ρ1 δ1=>if b=true then tb {E with nx:=rest,ct:=rest,bk:=E.nx} ρ1 δ1 else E.nx ρ1 δ1):∀(k:Nat) (ρ:En) (δ:Dk),P k ρ δ→v0h tc tb E (k+1) ρ δ:=by
 intro k
 induction k with
 |zero=>intro ρ δ p;unfold v0h;exact step 0 ρ δ _ p fun _ _ h _=>absurd rfl h
 |succ k ih=>intro ρ δ p;unfold v0h;exact step (k+1) ρ δ _ p fun ρ' δ' _ p'=>ih ρ' δ' p'
noncomputable def m0q:Sp2:=fun ds δ q _=>∃c k:Int,ds=[.int c,.int k]∧0≤k∧k<2^40∧∀r:Int,q (.int r) δ
noncomputable def m0p:Sp2:=fun ds δ q _=>∃(ns:List Int) (m:Int),ds=[.scr (ns.map D.int),.int m]∧δ=none∧ns.length≤63∧0≤m∧m≤900∧∀p δ',DkM p m.toNat δ'→q (.ref p) δ'
noncomputable def g0q:Sp2:=fun ds δ q _=>∃p n,ds=[.ref p]∧DkM p (n+1) δ∧∀(v:Int) δ',0≤v→v<1000→DkM p n δ'→q (.int v) δ'
noncomputable abbrev z0i:List Str:=["_law_cell","_law_k"]
theorem sc_law_mixed:FnScope ["_law_cell","_law_k","_law_number"] z0i (defScope x0j):=⟨rfl,rfl,rfl,by decide +kernel,rfl,by decide +kernel,by decide +kernel⟩
noncomputable abbrev x0a(P:Program)(w:World)(K:PySem.W.Frag)(mg:Str→Option Value)(base:Heap)(cs:Cs):Prop:=Fun2 P w K mg base "_law_mixed" 2 z0i m0q
theorem o0c{f:Addr}{fd:FuncData}(Df:DefAt K mg "_law_mixed" x0j z0i f fd)(T:Txt K mg cs):x0a P w K mg base cs:=by
 have nd:=sc_law_mixed.nd;refine def2 Df sc_law_mixed (fun ds δ q x h=>?_) (fun cdv A outer s H E Y hr=>⟨_,(v0 (b3 2 nd (u2 x3 i3 (u2 i4 d6 (e2_v 0) o0) (u2 t0y n0g (u2 t0y n0g (e2_v 1) (e2_v 1)) o0)))
  (v0 (b3 2 nd (u2 i4 d6 (u2 x3 i3 (u2 x3 i3 (e2_v 2) (u2 t0y n0g (e2_v 1) o0)) o0) o0))
  (v0 (b3 2 nd (u2 i4 d6 (u2 t0y n0g (e2_v 2) (e2_v 2)) o0))
  (v0 (b3 2 nd (u2 t0y n0g (u2 x3 i3 (u2 x3 i3 (e2_v 2) (u2 t0y n0g (e2_v 1) o0)) o0) o0))
  (v0 (b3 2 nd (u2 i4 d6 (e2_v 2) o0))
  (v0 (b3 2 nd (u2 i4 d6 (u2 t0y n0g (e2_v 2) (e2_v 2)) o0))
  (i0 (a3 (u2 w0g r0j (e2_v 2) o0))))))))),fun ds δ q x h=>?_⟩)
 ·unfold m0q at h;obtain ⟨c,k,rfl,hk,hk2,hq⟩:=h;rfl
 ·unfold m0q at h;obtain ⟨c,k,rfl,hk,hk2,hq⟩:=h;rw[show x4 ["_law_cell","_law_k","_law_number"] _=[.val _,.val _,.no]from rfl];walk_at "dl";have m1:=fun z:Int=>Int.emod_nonneg z (b:=2305843009213693951) (by decide)
  have m2:=fun z:Int=>Int.emod_lt_of_pos z (b:=2305843009213693951) (by decide)
  refine ⟨by decide,.inl ⟨by omega,by omega⟩,.inr ⟨by decide,by decide⟩,.inr ⟨by decide,by decide⟩,by decide,?_⟩;generalize (c%2305843009213693951+k*k*48271+k*9973+20021)=z;refine ⟨.inl ⟨by have:=m1 z;omega,by have:=m2 z;omega⟩,by decide,.inr ⟨by decide,by decide⟩,.inr ⟨by decide,by decide⟩,by decide,?_⟩;generalize ((z%2305843009213693951*(z%2305843009213693951)%2305843009213693951+k*16807+11)*48271)=y;exact ⟨.inl ⟨by have:=m1 y;omega,by have:=m2 y;omega⟩,by decide,⟨by decide,by decide⟩,hq _⟩
noncomputable abbrev x0v:List Str:=["_law_deck_here"]
theorem sc_law_next:FnScope ["_law_deck_here"] x0v (defScope v0y):=⟨rfl,rfl,rfl,by decide +kernel,rfl,by decide +kernel,by decide +kernel⟩
noncomputable abbrev b7(P:Program)(w:World)(K:PySem.W.Frag)(mg:Str→Option Value)(base:Heap)(cs:Cs):Prop:=Fun2 P w K mg base "_law_next" 2 x0v g0q
theorem m0o{f:Addr}{fd:FuncData}(Df:DefAt K mg "_law_next" v0y x0v f fd)(T:Txt K mg cs):b7 P w K mg base cs:=by
 have nd:=sc_law_next.nd;refine def2 Df sc_law_next (fun ds δ q x h=>?_) (fun cdv A outer s H E Y hr=>⟨_,(i0 (a3 (c0v 0 PySem.F.slot_list_pop PySem.F.type_list_pop d0d m_pop))),fun ds δ q x h=>?_⟩)
 ·unfold g0q at h;obtain ⟨p,n,rfl,hD,hq⟩:=h;rfl
 ·unfold g0q at h;obtain ⟨p,n,rfl,hD,hq⟩:=h;rw[show x4 ["_law_deck_here"] _=[.val _]from rfl];obtain ⟨ms,rfl,hl,hm⟩:=hD;walk_at "dl";have ne:ms≠[]:=by intro z;rw[z]at hl;simp at hl
  have e:(ms.map D.int).getLast?=some (.int (ms.getLast ne)):=by rw[List.getLast?_map,List.getLast?_eq_some_getLast ne];rfl
  rw[e];dsimp only;have hb:=hm _ (List.getLast_mem ne);exact hq _ _ hb.1 hb.2 ⟨ms.dropLast,by rw[List.map_dropLast],by rw[List.length_dropLast];omega,fun m h=>hm m (List.dropLast_subset ms h)⟩
noncomputable abbrev x0u:List Str:=["_law_script","_law_many"]
theorem sc_law_deck:FnScope ["_law_script","_law_many","_law_cells","_law_found","_law_k","_law_cell","_law_rest"] x0u (defScope v0z):=⟨rfl,rfl,rfl,by decide +kernel,rfl,by decide +kernel,by decide +kernel⟩
noncomputable abbrev v0s(P:Program)(w:World)(K:PySem.W.Frag)(mg:Str→Option Value)(base:Heap)(cs:Cs):Prop:=Fun2 P w K mg base "_law_deck" 3 x0u m0p
theorem m0n{f:Addr}{fd:FuncData}(Df:DefAt K mg "_law_deck" v0z x0u f fd)(T:Txt K mg cs)(G_law_mixed:x0a P w K mg base cs):v0s P w K mg base cs:=by
 have nd:=sc_law_deck.nd;refine def2 Df sc_law_deck (fun ds δ q x h=>?_) (fun cdv A outer s H E Y hr=>⟨_,(v0 (b3 2 nd (u2 x3 i3 (t0p y0r i0f T.n_list t0s (z0 (e2_v 0) y0)) (j3 (z0 (y0l 0 T.n_len) y0))))
  (v0 (t0o 3 nd y0)
  (v0 (b3 4 nd o0)
  (v0 (l0c PassesOwn.leaving (z6 u0u d_lt (y0l 3 T.n_len) (e2_v 1) (l4 _)) (v0 (b3 5 nd (e2_b f0q d_abs T.n_abs bt_abs (z0 (n4 2 (u2 i4 d6 (e2_v 4) (y0l 2 T.n_len))) y0)))
  (v0 (j4 (u0r 3 PySem.F.slot_list_append PySem.F.type_list_append l5 i6 (z0 (u2 i4 d6 (d0 G_law_mixed (hr.mono (by decide)) j0 (z0 (e2_v 5) (z0 (e2_v 4) y0))) o0) y0)))
  (v0 (z5 (PW2.pt (c0x (z6 u0u d_lt (e2_v 4) (y0l 2 T.n_len) (l4 _)) (i0j (z6 op_ge d_ge (e2_v 5) (u2 op_pow d_pow o0 o0) (l4 _))))) (v0 (j4 (c0v 3 PySem.F.slot_list_pop PySem.F.type_list_pop d0d m_pop))
  (v0 (b3 6 nd (e2_v 5))
  (i0 (l0c PassesOwn.leaving (PW2.pt (c0x (z6 b0v d_gt (e2_v 6) o0 (l4 _)) (i0j (z6 u0u d_lt (y0l 3 T.n_len) (e2_v 1) (l4 _))))) (v0 (j4 (u0r 3 PySem.F.slot_list_append PySem.F.type_list_append l5 i6 (z0 (u2 i4 d6 (e2_v 6) o0) y0)))
  (i0 (b3 6 nd (u2 w0g r0j (e2_v 6) o0)))))))) o4)
  (i0 (b3 4 nd (u2 x3 i3 (e2_v 4) o0)))))))
  (i0 (h0j rfl T.n_reversed T.n_list (z0 (e2_v 3) y0))))))),fun ds δ q x h=>?_⟩)
 ·unfold m0p at h;obtain ⟨ns,m,rfl,rfl,hn,m0,m1,hq⟩:=h;rfl
 ·unfold m0p at h;obtain ⟨ns,m,rfl,rfl,hn,m0,m1,hq⟩:=h;rw[show x4 ["_law_script","_law_many","_law_cells","_law_found","_law_k","_law_cell","_law_rest"] _=[.val _,.val _,.no,.no,.no,.no,.no]from rfl];walk_at "dl";refine ⟨(by rw[List.length_map];omega),m.toNat+1,?_⟩;have ecl:List.map D.int ns++[D.int ((List.map D.int ns).length:Nat)]=(ns++[(ns.length:Int)]).map D.int:=by rw[List.map_append,List.length_map];rfl
  rw[ecl];generalize hcl:ns++[(ns.length:Int)]=cl;have hcn:0<cl.length:=by rw[←hcl];simp
  clear ecl hcl;refine o0d (fun k ρ δ'=>∃(fs:List Int) (kk:Int) (c5 c6:Cell),ρ=[Cell.val (D.scr (List.map D.int ns)),Cell.val (D.int m),Cell.val (D.lst (cl.map D.int)),Cell.own (fs.map D.int),Cell.val (D.int kk),c5,c6]∧δ'=none∧
   (∀f∈fs,0≤f∧f<1000)∧(fs.length:Int)≤m∧m-fs.length≤(k:Int)∧0≤kk∧kk≤(fs.length:Int)) ?_ m.toNat _ none ⟨[],0,_,_,rfl,rfl,(fun f hf=>nomatch hf),(by simp;omega),(by simp;omega),by omega,by simp⟩
  rintro k ρ δ' rest ⟨fs,kk,c5,c6,rfl,rfl,hf,hl,hk,k1,k2⟩ hrest;walk_at "dl";simp only[List.length_map];by_cases hlt:(fs.length:Int)<m;rotate_left
  ·rw[if_neg hlt];exact fun p=>hq p _ ⟨fs.reverse,by rw[List.map_reverse],by rw[List.length_reverse];omega,fun z hz=>hf z (List.mem_reverse.mp hz)⟩
  ·rw[if_pos hlt];refine ⟨by omega,?_⟩;obtain ⟨v,hat,hv⟩:=b0f (xs:=cl.map D.int) (k:=kk) (by rw[List.length_map];exact hcn);rw[List.length_map]at hat
   obtain ⟨z,_,rfl⟩:=List.mem_map.mp hv;rw[hat];walk_at "dl";generalize (if z<0 then -z else z)=cell;refine ⟨rfl,_,kk,rfl,k1,by omega,fun r=>?_⟩;have r1:=Int.emod_nonneg r (b:=1000) (by decide);have r2:=Int.emod_lt_of_pos r (b:=1000) (by decide);have one:List.map D.int fs++[D.int (r%1000)]=(fs++[r%1000]).map D.int:=by rw[List.map_append];rfl
   have goon:∀c5 c6,rest [Cell.val (D.scr (List.map D.int ns)),Cell.val (D.int m),Cell.val (D.lst (List.map D.int cl)),Cell.own (List.map D.int fs++[D.int (r%1000)]),Cell.val (D.int (kk+1)),c5,c6] none:=fun c5 c6=>by
    rw[one];refine hrest _ _ (by omega) ⟨fs++[r%1000],kk+1,c5,c6,rfl,rfl,fun f h=>?_,by simp;omega,by simp;omega,by omega,by simp;omega⟩;rcases List.mem_append.mp h with h |h
    ·exact hf f h
    ·rw[List.mem_singleton.mp h];exact ⟨r1,r2⟩
   walk_at "dl";refine ⟨by decide,by omega,?_⟩;split
   ·refine ⟨⟨by decide,by decide,by decide⟩,?_⟩;split
    ·rename_i hbig;have hbig:1≤cell:=Int.le_trans (b:=10^Int.toNat 18) (by decide) hbig;rw[List.getLast?_concat,List.dropLast_concat];walk_at "dl";refine ⟨(m-fs.length).toNat+1,?_⟩;refine o0d (fun j ρ δ'=>∃(gs:List Int) (re:Int),ρ=[Cell.val (D.scr (List.map D.int ns)),Cell.val (D.int m),Cell.val (D.lst (List.map D.int cl)),Cell.own (gs.map D.int),Cell.val (D.int kk),Cell.val (.int cell),Cell.val (.int re)]∧δ'=none∧
      (∀f∈gs,0≤f∧f<1000)∧(gs.length:Int)≤m∧m-gs.length≤(j:Int)∧((gs=fs∧re=cell)∨fs.length<gs.length)) ?_ _ _ none ⟨fs,cell,rfl,rfl,hf,hl,by omega,.inl ⟨rfl,rfl⟩⟩
     rintro j ρ δ' rest2 ⟨gs,re,rfl,rfl,hg,gl,gk,gor⟩ hrest2;walk_at "dl";simp only[List.length_map];have fin:¬(0<re∧(gs.length:Int)<m)→rest [Cell.val (D.scr (List.map D.int ns)),Cell.val (D.int m),Cell.val (D.lst (List.map D.int cl)),Cell.own (gs.map D.int),Cell.val (D.int (kk+1)),Cell.val (.int cell),Cell.val (.int re)] none:=fun hno=>by
      have hlen:fs.length<gs.length:=by
       rcases gor with ⟨e1,e2⟩|h
       ·subst e1 e2;exact absurd ⟨by omega,hlt⟩ hno
       ·exact h
      exact hrest _ _ (by omega) ⟨gs,kk+1,_,_,rfl,rfl,hg,gl,by omega,by omega,by omega⟩
     by_cases h1:0<re
     ·by_cases h2:(gs.length:Int)<m
      ·rw[if_pos h1];simp only[h2,decide_true,if_true];have q1:=Int.emod_nonneg re (b:=1000) (by decide);have q2:=Int.emod_lt_of_pos re (b:=1000) (by decide);refine ⟨rfl,by decide,by omega,⟨by decide,by decide⟩,?_⟩;refine hrest2 _ _ (by omega) ⟨gs++[re%1000],_,by rw[List.map_append];rfl,rfl,fun f h=>?_,by simp;omega,by simp;omega,.inr ?_⟩
       ·rcases List.mem_append.mp h with h |h
        ·exact hg f h
        ·rw[List.mem_singleton.mp h];exact ⟨q1,q2⟩
       ·have:fs.length≤gs.length:=by
         rcases gor with ⟨e1,_⟩|h
         ·rw[e1];exact Nat.le_refl _
         ·omega
        simp;omega
      ·rw[if_pos h1];simp only[h2,decide_false,Bool.false_eq_true,if_false];exact fin (fun z=>h2 z.2)
     ·rw[if_neg h1];exact fin (fun z=>h1 z.1)
    ·exact goon _ _
   ·exact goon _ _
structure SpecOk(full mark:Int)(ws:List Int)(price:Int):Prop where
 f1:1≤full
 f2:full≤9
 m1:0≤mark
 m2:mark≤full
 l1:0<ws.length
 l2:ws.length≤6
 w:∀x∈ws,0≤x∧x≤9
 p1:0≤price
 p2:price≤99
theorem d0q{ws:List Int}(h:∀x∈ws,0≤x∧x≤9):(ws.map D.int).all (u3 · 0 9)=true:=by
 rw[List.all_eq_true];intro d hd;obtain ⟨x,hx,rfl⟩:=List.mem_map.mp hd;unfold u3;rw[Bool.and_eq_true,decide_eq_true_eq,decide_eq_true_eq];exact h x hx
theorem j0s{ws:List Int}:(ws.map D.int).all u4=true:=by
 rw[List.all_eq_true];intro d hd;obtain ⟨x,hx,rfl⟩:=List.mem_map.mp hd;rfl
theorem atL{xs:List D}{k:Int}(h0:0≤k)(h1:k<(xs.length:Int)):∃z,atI xs k=some z∧z∈xs:=by
 have hz:k=((k.toNat:Nat):Int):=by omega
 rw[hz];exact ⟨_,t0u (List.getElem?_eq_getElem (show k.toNat<xs.length by omega)),List.getElem_mem _⟩
noncomputable def rowL(full mark:Int)(ws:List Int)(price:Int):D:=.lst [.int full,.int mark,.lst (ws.map D.int),.int price]
noncomputable def m0m:Sp2:=fun ds δ q _=>∃p n,∃most wears:Int,ds=[.ref p,.int most,.int wears]∧1≤most∧most≤9∧1≤wears∧wears≤6∧DkM p (n+wears.toNat+4) δ∧∀full mark ws price δ',SpecOk full mark ws price→full≤most→(ws.length:Int)≤wears→DkM p n δ'→q (rowL full mark ws price) δ'
noncomputable abbrev x0t:List Str:=["_law_deck_here","_law_most","_law_wears"]
theorem sc_law_part:FnScope ["_law_deck_here","_law_most","_law_wears","_law_full","_law_number","_law_mark","_law_wear","_law_k","_law_gone"] x0t (defScope v0x):=⟨rfl,rfl,rfl,by decide +kernel,rfl,by decide +kernel,by decide +kernel⟩
noncomputable abbrev v0r(P:Program)(w:World)(K:PySem.W.Frag)(mg:Str→Option Value)(base:Heap)(cs:Cs):Prop:=Fun2 P w K mg base "_law_part" 3 x0t m0m
theorem m0l{f:Addr}{fd:FuncData}(Df:DefAt K mg "_law_part" v0x x0t f fd)(T:Txt K mg cs)(G_law_next:b7 P w K mg base cs):v0r P w K mg base cs:=by
 have nd:=sc_law_part.nd;refine def2 Df sc_law_part (fun ds δ q x h=>?_) (fun cdv A outer s H E Y hr=>⟨_,(v0 (b3 3 nd (u2 x3 i3 o0 (u2 i4 d6 (d0 G_law_next (hr.mono (by decide)) j0 (z0 (e2_v 0) y0)) (e2_v 1))))
  (v0 (b3 4 nd (d0 G_law_next (hr.mono (by decide)) j0 (z0 (e2_v 0) y0)))
  (v0 (b3 5 nd (b0a l0t d_ix (j3 (z0 o0 (z0 (u2 i4 d6 (u2 w0g r0j (e2_v 4) o0) (u2 x3 i3 (e2_v 3) o0)) (z0 (u2 i4 d6 (u2 w0g r0j (e2_v 4) o0) (u2 x3 i3 (u2 w0g r0j (e2_v 3) o0) o0)) y0)))) (u2 i4 d6 (e2_v 4) o0)))
  (v0 (t0o 6 nd y0)
  (v0 (n8 PassesOwn.leaving rfl (h0v T.n_range (z0 (u2 x3 i3 o0 (u2 i4 d6 (d0 G_law_next (hr.mono (by decide)) j0 (z0 (e2_v 0) y0)) (e2_v 2))) y0)) (l3 (i:=7) nd rfl (by first |exact Or.inl rfl |exact Or.inr rfl)) (j7 (i:=7)) (v0 (b3 4 nd (d0 G_law_next (hr.mono (by decide)) j0 (z0 (e2_v 0) y0)))
  (v0 (b3 8 nd (u2 i4 d6 (e2_v 4) (u2 x3 i3 (u2 b9 w0e (e2_v 3) (e2_v 5)) o0)))
  (v0 (z5 (z6 (y0w hr.units0) u0q (u2 i4 d6 (u2 w0g r0j (e2_v 4) o0) o0) o0 (l4 _)) (i0 (b3 8 nd (u2 i4 d6 (e2_v 4) o0))) o4)
  (i0 (j4 (u0r 6 PySem.F.slot_list_append PySem.F.type_list_append l5 i6 (z0 (e2_v 8) y0))))))))
  (i0 (a3 (j3 (z0 (e2_v 3) (z0 (e2_v 5) (z0 (e2_v 6) (z0 (u2 i4 d6 (d0 G_law_next (hr.mono (by decide)) j0 (z0 (e2_v 0) y0)) o0) y0)))))))))))),fun ds δ q x h=>?_⟩)
 ·unfold m0m at h;obtain ⟨p,n,most,wears,rfl,h1,h2,h3,h4,hD,hq⟩:=h;rfl
 ·unfold m0m at h;obtain ⟨p,n,most,wears,rfl,h1,h2,h3,h4,hD,hq⟩:=h;rw[show x4 ["_law_deck_here","_law_most","_law_wears","_law_full","_law_number","_law_mark","_law_wear","_law_k","_law_gone"] _=[.val _,.val _,.val _,.no,.no,.no,.no,.no,.no]from rfl];walk_at "dn";refine ⟨p,_,rfl,hD,fun a0 δ0 a1 a2 hD=>?_⟩;have b1:=Int.emod_nonneg a0 (b:=most) (by omega);have b2:=Int.emod_lt_of_pos a0 (b:=most) (by omega);generalize ha:a0%most=b0 at b1 b2;refine ⟨by omega,?_⟩;rw[ha];refine ⟨p,_,rfl,hD,fun c0 δ1 c1 c2 hD=>?_⟩;have d1:=Int.emod_nonneg c0 (b:=3) (by decide);have d2:=Int.emod_lt_of_pos c0 (b:=3) (by decide);have e1:=Int.emod_nonneg (c0/3) (b:=1+b0+1) (by omega);have e2:=Int.emod_lt_of_pos (c0/3) (b:=1+b0+1) (by omega);have g0:0≤(1+b0)/2∧(1+b0)/2≤1+b0:=by omega
  have g1:=Int.emod_nonneg (c0/3) (b:=(1+b0)/2+1) (by omega);have g2:=Int.emod_lt_of_pos (c0/3) (b:=(1+b0)/2+1) (by omega);refine ⟨⟨by decide,by decide⟩,by omega,⟨by decide,by decide⟩,⟨by decide,by decide⟩,by omega,by decide,?_⟩;obtain ⟨z,ez,hz⟩:=atL (xs:=[.int 0,.int (c0/3%(1+b0+1)),.int (c0/3%((1+b0)/2+1))]) d1 (by simpa using d2);obtain ⟨mk,rfl,mk1,mk2⟩:∃mk:Int,z=.int mk∧0≤mk∧mk≤1+b0:=by
   simp only[List.mem_cons,List.not_mem_nil,or_false]at hz;rcases hz with rfl |rfl |rfl
   ·exact ⟨_,rfl,by omega,by omega⟩
   ·exact ⟨_,rfl,by omega,by omega⟩
   ·exact ⟨_,rfl,by omega,by omega⟩
  rw[ez];dsimp only;refine ⟨p,_,rfl,hD,fun k0 δ2 k1 k2 hD=>?_⟩;walk_at "dn";have l1:=Int.emod_nonneg k0 (b:=wears) (by omega);have l2:=Int.emod_lt_of_pos k0 (b:=wears) (by omega);generalize hw:k0%wears=w0 at l1 l2;refine ⟨by omega,⟨by omega,by omega⟩,?_⟩;have hsz:(rngD 0 (1+w0).toNat).length=(1+w0).toNat:=w0o;refine w6 (fun i ρ δ'=>∃(ws:List Int) (c4 c7 c8:Cell),ρ=[Cell.val (D.ref p),Cell.val (D.int most),Cell.val (D.int wears),Cell.val (D.int (1+b0)),c4,Cell.val (.int mk),Cell.own (ws.map D.int),c7,c8]∧ws.length=i∧(∀x∈ws,0≤x∧x≤9)∧DkM p (n+1+((1+w0).toNat-i)) δ') ⟨[],_,_,_,rfl,rfl,(fun x hx=>nomatch hx),hD.mono (by omega)⟩ ?_ ?_
  ·rintro i d ρ δ' rest hi ⟨ws,c4,c7,c8,rfl,hwl,hws,hD⟩ hrest;have hlt:=(List.getElem?_eq_some_iff.mp hi).1;rw[hsz]at hlt;unfold z0t;walk_at "dl";refine ⟨p,n+((1+w0).toNat-i),rfl,hD.mono (by omega),fun x0 δ5 x1 x2 hD=>?_⟩;have y1:=Int.emod_nonneg x0 (b:=1+b0-mk+1) (by omega);have y2:=Int.emod_lt_of_pos x0 (b:=1+b0-mk+1) (by omega);have y3:=Int.emod_nonneg x0 (b:=10) (by decide);have y4:=Int.emod_lt_of_pos x0 (b:=10) (by decide);have put:∀g:Int,0≤g→g≤9→∀c4 c7 c8,rest [Cell.val (D.ref p),Cell.val (D.int most),Cell.val (D.int wears),Cell.val (D.int (1+b0)),c4,Cell.val (.int mk),Cell.own (ws.map D.int++[.int g]),c7,c8] δ5:=fun g g1 g2 c4 c7 c8=>by
    refine hrest _ _ ⟨ws++[g],c4,c7,c8,by rw[List.map_append];rfl,by rw[List.length_append,hwl];rfl,fun y hy=>?_,hD.mono (by omega)⟩;rcases List.mem_append.mp hy with hy |hy
    ·exact hws y hy
    ·rw[List.mem_singleton.mp hy];exact ⟨g1,g2⟩
   dsimp only;refine ⟨by omega,⟨by decide,by decide⟩,by decide,?_⟩;simp only[List.length_map];split
   ·exact ⟨by decide,rfl,by omega,put _ y3 (by omega) _ _ _⟩
   ·exact ⟨rfl,by omega,put _ y1 (by omega) _ _ _⟩
  ·rintro ρ δ' ⟨ws,c4,c7,c8,rfl,hwl,hws,hD⟩;rw[hsz]at hwl hD;walk_at "dl";refine ⟨p,n,rfl,hD.mono (by omega),fun x0 δ5 x1 x2 hD=>?_⟩;have y3:=Int.emod_nonneg x0 (b:=100) (by decide);have y4:=Int.emod_lt_of_pos x0 (b:=100) (by decide);walk_at "dl";exact ⟨by decide,hq _ _ ws _ _ ⟨by omega,by omega,mk1,mk2,by omega,by omega,hws,y3,by omega⟩ (by omega) (by omega) hD⟩
noncomputable def g0p:Sp2:=fun ds δ q _=>∃full mark ws price r,ds=[rowL full mark ws price,.int r]∧0<ws.length∧q (.int (r9 ws r)) δ
noncomputable def m0k(cs:Cs):Sp2:=fun ds δ q _=>∃full mark ws price sort,ds=[rowL full mark ws price,.int sort]∧SpecOk full mark ws price∧q (a5 cs full mark ws price) δ
theorem g0o{cs:Cs}{full mark:Int}{ws:List Int}{price:Int}{d:D}(h:SpecOk full mark ws price)(hd:rowD d=some (ws.map D.int)){δ:Dk}{q:D→Dk→Prop}{x:Addr→List (Str×D)→Dk→Prop}(hq:q (a5 cs full mark ws price) δ):s0p cs [.int full,.int mark,d,.int price] δ q x:=by
 unfold s0p;have e1:u3 (.int full) 1 9=true:=b5 h.f1 h.f2;have e2:u3 (.int mark) 0 full=true:=b5 h.m1 h.m2;have e3:u3 (.int price) 0 99=true:=b5 h.p1 h.p2;have e4:v0t d 1 6 0 9=true:=by
  unfold v0t;rw[hd];dsimp only;rw[d0q h.w,List.length_map,decide_eq_true (show (1:Int)≤(ws.length:Int)by have:=h.l1;omega),decide_eq_true (show (ws.length:Int)≤6 by have:=h.l2;omega)];rfl
 have e5:y6 d=true:=by
  unfold y6;rw[hd];dsimp only;rw[j0s];cases d<;>first |rfl |cases hd
 have e6:y6 (.int full)=true:=rfl;have e7:y6 (.int mark)=true:=rfl;have e8:y6 (.int price)=true:=rfl;simp only[e1,e2,e3,e4,e5,e6,e7,e8,hd,Option.getD_some,if_true];exact ⟨rfl,hq⟩
noncomputable abbrev x0s:List Str:=["_law_row_here","_law_number"]
theorem sc_law_lost:FnScope ["_law_row_here","_law_number"] x0s (defScope v0w):=⟨rfl,rfl,rfl,by decide +kernel,rfl,by decide +kernel,by decide +kernel⟩
noncomputable abbrev x0r(P:Program)(w:World)(K:PySem.W.Frag)(mg:Str→Option Value)(base:Heap)(cs:Cs):Prop:=Fun2 P w K mg base "_law_lost" 2 x0s g0p
theorem m0j{f:Addr}{fd:FuncData}(Df:DefAt K mg "_law_lost" v0w x0s f fd)(T:Txt K mg cs):x0r P w K mg base cs:=by
 have nd:=sc_law_lost.nd;refine def2 Df sc_law_lost (fun ds δ q x h=>?_) (fun cdv A outer s H E Y hr=>⟨_,(i0 (a3 (b0a l0t d_ix (n4 0 o0) (u2 i4 d6 (e2_v 1) (e2_b q9 a0u T.n_len l0m (z0 (n4 0 o0) y0)))))),fun ds δ q x h=>?_⟩)
 ·unfold g0p at h;obtain ⟨full,mark,ws,price,r,rfl,hl,hq⟩:=h;rfl
 ·unfold g0p at h;obtain ⟨full,mark,ws,price,r,rfl,hl,hq⟩:=h;rw[show x4 ["_law_row_here","_law_number"] _=[.val _,.val _]from rfl];unfold rowL;walk_at "dl";exact ⟨by rw[List.length_map];omega,by rw[g0t r hl];exact hq⟩
noncomputable abbrev x0q:List Str:=["_law_row_here","_law_sort"]
theorem sc_law_made:FnScope ["_law_row_here","_law_sort"] x0q (defScope v0v):=⟨rfl,rfl,rfl,by decide +kernel,rfl,by decide +kernel,by decide +kernel⟩
noncomputable abbrev v0q(P:Program)(w:World)(K:PySem.W.Frag)(mg:Str→Option Value)(base:Heap)(cs:Cs):Prop:=Fun2 P w K mg base "_law_made" 6 x0q (m0k cs)
theorem m0i{f:Addr}{fd:FuncData}(Df:DefAt K mg "_law_made" v0v x0q f fd)(T:Txt K mg cs)(M_Part:Make2 P w K mg base "Part" 4 (s0p cs)):v0q P w K mg base cs:=by
 have nd:=sc_law_made.nd;refine def2 Df sc_law_made (fun ds δ q x h=>?_) (fun cdv A outer s H E Y hr=>⟨_,(v0 (z5 (z6 (y0w hr.units0) u0q (u2 i4 d6 (e2_v 1) o0) o0 (l4 _)) (i0 (a3 (h0z M_Part (hr.mono (by decide)) j0 (z0 (n4 0 o0) (z0 (n4 0 o0) (z0 (t0p y0r i0f T.n_list t0s (z0 (n4 0 o0) y0)) (z0 (n4 0 o0) y0))))))) o4)
  (i0 (a3 (h0z M_Part (hr.mono (by decide)) j0 (z0 (n4 0 o0) (z0 (n4 0 o0) (z0 (t0p i8 q0y T.n_tuple w0t (z0 (n4 0 o0) y0)) (z0 (n4 0 o0) y0)))))))),fun ds δ q x h=>?_⟩)
 ·unfold m0k at h;obtain ⟨full,mark,ws,price,sort,rfl,h,hq⟩:=h;rfl
 ·unfold m0k at h;obtain ⟨full,mark,ws,price,sort,rfl,h,hq⟩:=h;rw[show x4 ["_law_row_here","_law_sort"] _=[.val _,.val _]from rfl];unfold rowL;walk_at "dl";refine ⟨by decide,?_⟩;split
  ·exact g0o h rfl hq
  ·exact g0o h rfl hq
theorem one_in{C:Addr}:∀{ds:List Addr},C∈ds→ds.Nodup→o0s (ds.map fun D=>DL.D.bl (decide (D=C))) (.bl true)=1:=by
 intro ds hC nd;unfold o0s;rw[List.countP_map];have e1:((fun z=>eqV (toV z) (toV (.bl true)))∘fun D=>DL.D.bl (decide (D=C)))=fun D=>D==C:=by
  funext D;show (decide (D=C)==true)=(D==C);by_cases h:D=C
  ·rw[decide_eq_true h,h];simp
  ·rw[decide_eq_false h,beq_eq_false_iff_ne.mpr h];rfl
 rw[e1];clear e1
 induction ds with
 |nil=>cases hC
 |cons a ds ih=>
  rw[List.nodup_cons]at nd;rw[List.countP_cons];by_cases h:a=C
  ·subst h;have z:List.countP (fun D=>D==a) ds=0:=List.countP_eq_zero.mpr fun b hb w=>nd.1 (by have:=beq_iff_eq.mp w;subst this;exact hb)
   rw[z];simp
  ·have hm:C∈ds:=by
    rcases List.mem_cons.mp hC with q |q
    ·exact absurd q.symm h
    ·exact q
   rw[ih hm nd.2,beq_eq_false_iff_ne.mpr h];rfl
noncomputable def m0h(cs:Cs):Sp2:=fun ds δ q _=>∃C fs,ds=[.exc C fs]∧C∈cs.ds∧q (.int 1) δ
noncomputable def g0n(cs:Cs):Sp2:=fun ds δ q _=>∃C fs b,ds=[.exc C fs,.bl b]∧C∈cs.ds∧q (.bl b) δ
noncomputable abbrev z0h:List Str:=["_law_error"]
theorem sc_law_kinds:FnScope ["_law_error","_law_found"] z0h (defScope x0i):=⟨rfl,rfl,rfl,by decide +kernel,rfl,by decide +kernel,by decide +kernel⟩
noncomputable abbrev w0z(P:Program)(w:World)(K:PySem.W.Frag)(mg:Str→Option Value)(base:Heap)(cs:Cs):Prop:=m0z P w K mg base "_law_kinds" 2 z0h (m0h cs)
theorem o0b{f:Addr}{fd:FuncData}(Df:DefAt K mg "_law_kinds" x0i z0h f fd)(T:Txt K mg cs):w0z P w K mg base cs:=by
 have nd:=sc_law_kinds.nd;refine h0k Df sc_law_kinds (fun ds δ q x h=>?_) (fun cdv A outer s H E Y hr=>⟨_,(v0 (b3 1 nd (j3 (z0 (e2_b p4 (p6 (K:=K)) T.n_isinstance m3 (z0 (e2_v 0) (z0 (y0o T.c_NoPart) y0))) (z0 (e2_b p4 (p6 (K:=K)) T.n_isinstance m3 (z0 (e2_v 0) (z0 (y0o T.c_NoWorks) y0))) y0))))
  (v0 (b3 1 nd (u2 x3 i3 (e2_v 1) (j3 (z0 (e2_b p4 (p6 (K:=K)) T.n_isinstance m3 (z0 (e2_v 0) (z0 (y0o T.c_NoStands) y0))) (z0 (e2_b p4 (p6 (K:=K)) T.n_isinstance m3 (z0 (e2_v 0) (z0 (y0o T.c_NoRounds) y0))) y0)))))
  (v0 (b3 1 nd (u2 x3 i3 (e2_v 1) (j3 (z0 (e2_b p4 (p6 (K:=K)) T.n_isinstance m3 (z0 (e2_v 0) (z0 (y0o T.c_NoPlan) y0))) (z0 (e2_b p4 (p6 (K:=K)) T.n_isinstance m3 (z0 (e2_v 0) (z0 (y0o T.c_Shut) y0))) y0)))))
  (v0 (b3 1 nd (u2 x3 i3 (e2_v 1) (j3 (z0 (e2_b p4 (p6 (K:=K)) T.n_isinstance m3 (z0 (e2_v 0) (z0 (y0o T.c_Falls) y0))) (z0 (e2_b p4 (p6 (K:=K)) T.n_isinstance m3 (z0 (e2_v 0) (z0 (y0o T.c_NoneHolds) y0))) y0)))))
  (v0 (b3 1 nd (u2 x3 i3 (e2_v 1) (j3 (z0 (e2_b p4 (p6 (K:=K)) T.n_isinstance m3 (z0 (e2_v 0) (z0 (y0o T.c_TooGreat) y0))) (z0 (e2_b p4 (p6 (K:=K)) T.n_isinstance m3 (z0 (e2_v 0) (z0 (y0o T.c_NoPaper) y0))) y0)))))
  (v0 (b3 1 nd (u2 x3 i3 (e2_v 1) (j3 (z0 (e2_b p4 (p6 (K:=K)) T.n_isinstance m3 (z0 (e2_v 0) (z0 (y0o T.c_NoText) y0))) (z0 (e2_b p4 (p6 (K:=K)) T.n_isinstance m3 (z0 (e2_v 0) (z0 (y0o T.c_NotTold) y0))) y0)))))
  (i0 (a3 (e0g (e2_v 1) (z0 i5 y0)))))))))),fun ds δ q x h=>?_⟩)
 ·unfold m0h at h;obtain ⟨C,fs,rfl,hC,hq⟩:=h;rfl
 ·unfold m0h at h;obtain ⟨C,fs,rfl,hC,hq⟩:=h;rw[show x4 ["_law_error","_law_found"] _=[.val _,.no]from rfl];have c:=T.err C hC;have ht:TyD K (D.exc C fs):=c.xc;have own:∀D∈cs.ds,s0c K (.exc C fs) (.ref D)=some (decide (D=C)):=fun D hD=>c.own (T.err D hD) (T.ne D hD)
  have cnt:=one_in hC T.nd;walk_at "dl";simp only[ht,true_and,own _ (show cs.NoPart∈cs.ds by simp[Cs.ds]),own _ (show cs.NoWorks∈cs.ds by simp[Cs.ds]),own _ (show cs.NoStands∈cs.ds by simp[Cs.ds]),own _ (show cs.NoRounds∈cs.ds by simp[Cs.ds]),own _ (show cs.NoPlan∈cs.ds by simp[Cs.ds]),own _ (show cs.Shut∈cs.ds by simp[Cs.ds]),own _ (show cs.Falls∈cs.ds by simp[Cs.ds]),own _ (show cs.NoneHolds∈cs.ds by simp[Cs.ds]),own _ (show cs.TooGreat∈cs.ds by simp[Cs.ds]),own _ (show cs.NoPaper∈cs.ds by simp[Cs.ds]),own _ (show cs.NoText∈cs.ds by simp[Cs.ds]),own _ (show cs.NotTold∈cs.ds by simp[Cs.ds])];refine ⟨rfl,?_⟩;change q (D.int ((o0s (List.map (fun D=>DL.D.bl (decide (D=C))) cs.ds) (D.bl true):Nat):Int)) δ;rw[cnt];exact hq
noncomputable abbrev a8:List Str:=["_law_error","_law_told"]
theorem sc_law_is_just:FnScope ["_law_error","_law_told"] a8 (defScope z0q):=⟨rfl,rfl,rfl,by decide +kernel,rfl,by decide +kernel,by decide +kernel⟩
noncomputable abbrev i7(P:Program)(w:World)(K:PySem.W.Frag)(mg:Str→Option Value)(base:Heap)(cs:Cs):Prop:=m0z P w K mg base "_law_is_just" 3 a8 (g0n cs)
theorem s0a{f:Addr}{fd:FuncData}(Df:DefAt K mg "_law_is_just" z0q a8 f fd)(T:Txt K mg cs)(G_law_kinds:w0z P w K mg base cs):i7 P w K mg base cs:=by
 have nd:=sc_law_is_just.nd;refine h0k Df sc_law_is_just (fun ds δ q x h=>?_) (fun cdv A outer s H E Y hr=>⟨_,(v0 (z5 (PW2.pt (k0a (b4 (p5 (e2_b p4 (p6 (K:=K)) T.n_isinstance m3 (z0 (e2_v 0) (z0 (y0o T.c_WearError) y0))))) (p0c (b4 (p5 (e2_b p4 (p6 (K:=K)) T.n_isinstance m3 (z0 (e2_v 0) (z0 (k0b "ValueError" T.n_ValueError q0z) y0)))))))) (i0 (a3 i5)) o4)
  (i0 (a3 (p0a (e2_v 1) (p0b (y0m (y0w hr.units0) u0q (p9 G_law_kinds (hr.mono (by decide)) v0i (z0 (e2_v 0) y0)) o0 (l4 _))))))),fun ds δ q x h=>?_⟩)
 ·unfold g0n at h;obtain ⟨C,fs,b,rfl,hC,hq⟩:=h;rfl
 ·unfold g0n at h;obtain ⟨C,fs,b,rfl,hC,hq⟩:=h;rw[show x4 ["_law_error","_law_told"] _=[.val _,.val _]from rfl];have c:=T.err C hC;have ht:TyD K (D.exc C fs):=c.xc;have top:s0c K (.exc C fs) (.ref cs.W)=some true:=c.top (T.ne C hC) T.h_WearError.cl T.h_WearError.ty;have val:s0c K (.exc C fs) (.ty "ValueError")=some true:=c.value;walk_at "dl";simp only[ht,top,val,true_and,Bool.not_true,Bool.false_eq_true,if_false];cases b with
  |false=>exact hq
  |true=>exact ⟨C,fs,rfl,hC,hq⟩
noncomputable def y0f(cs:Cs):Sp2:=fun ds δ q x=>∃full mark ws price d,ds=[a5 cs full mark ws price,d]∧u4 d=true∧(u3 d mark full=true→q .non δ)∧(u3 d mark full=false→x cs.NoStands [] δ)
noncomputable def z0g(cs:Cs):Sp2:=fun ds δ q x=>∃f r,ds=[f,r]∧u4 f=true∧u4 r=true∧(u3 f 0 47=true→u3 r 0 24=true→q .non δ)∧(u3 f 0 47=false∨u3 r 0 24=false→x cs.NoRounds [] δ)
noncomputable def v0p(cs:Cs):Sp2:=fun ds δ q x=>∃full mark ws price d f r,ds=[a5 cs full mark ws price,d,f,r]∧u4 d=true∧u4 f=true∧u4 r=true∧(u3 d mark full=false→x cs.NoStands [] δ)∧
 (u3 d mark full=true→u3 f 0 47=false∨u3 r 0 24=false→x cs.NoRounds [] δ)∧(u3 d mark full=true→u3 f 0 47=true→u3 r 0 24=true→q .non δ)
noncomputable abbrev u6:List Str:=["part","stand"]
theorem sc_check_stand:FnScope ["part","stand"] u6 (defScope f8):=⟨rfl,rfl,rfl,by decide +kernel,rfl,by decide +kernel,by decide +kernel⟩
noncomputable abbrev z9(P:Program)(w:World)(K:PySem.W.Frag)(mg:Str→Option Value)(base:Heap)(cs:Cs):Prop:=Fun2 P w K mg base "check_stand" 4 u6 (y0f cs)
theorem r0z{f:Addr}{fd:FuncData}(Df:DefAt K mg "check_stand" f8 u6 f fd)(T:Txt K mg cs)(G_is_stand:x0w P w K mg base cs):z9 P w K mg base cs:=by
 have nd:=sc_check_stand.nd;refine def2 Df sc_check_stand (fun ds δ q x h=>?_) (fun cdv A outer s H E Y hr=>⟨_,(i0 (z5 (b4 (p5 (d0 G_is_stand.calm (hr.mono (by decide)) j0 (z0 (e2_v 0) (z0 (e2_v 1) y0))))) (i0 (w0p rfl j0 T.k_NoStands T.x_NoStands T.c_NoStands)) o4)),fun ds δ q x h=>?_⟩)
 ·unfold y0f at h;obtain ⟨full,mark,ws,price,d,rfl,hd,hq,hx⟩:=h;rfl
 ·unfold y0f at h;obtain ⟨full,mark,ws,price,d,rfl,hd,hq,hx⟩:=h;rw[show x4 ["part","stand"] _=[.val _,.val _]from rfl];walk_at "dl";refine ⟨_,_,_,_,_,rfl,hd,?_⟩;cases e:u3 d mark full with
  |true=>exact hq e
  |false=>exact hx e
noncomputable abbrev v8:List Str:=["first","rounds"]
theorem sc_check_rounds:FnScope ["first","rounds"] v8 (defScope h9):=⟨rfl,rfl,rfl,by decide +kernel,rfl,by decide +kernel,by decide +kernel⟩
noncomputable abbrev d9(P:Program)(w:World)(K:PySem.W.Frag)(mg:Str→Option Value)(base:Heap)(cs:Cs):Prop:=Fun2 P w K mg base "check_rounds" 4 v8 (z0g cs)
theorem s0n{f:Addr}{fd:FuncData}(Df:DefAt K mg "check_rounds" h9 v8 f fd)(T:Txt K mg cs)(G_check_first:b8 P w K mg base cs)(G_is_whole:u7 P w K mg base cs):d9 P w K mg base cs:=by
 have nd:=sc_check_rounds.nd;refine def2 Df sc_check_rounds (fun ds δ q x h=>?_) (fun cdv A outer s H E Y hr=>⟨_,(v0 (j4 (d0 G_check_first (hr.mono (by decide)) j0 (z0 (e2_v 0) y0)))
  (i0 (z5 (b4 (p5 (d0 G_is_whole.calm (hr.mono (by decide)) j0 (z0 (e2_v 1) (z0 o0 (z0 (a0l T.g_MOST_ROUNDS) y0)))))) (i0 (w0p rfl j0 T.k_NoRounds T.x_NoRounds T.c_NoRounds)) o4))),fun ds δ q x h=>?_⟩)
 ·unfold z0g at h;obtain ⟨f',r,rfl,hf,hr',hq,hx⟩:=h;rfl
 ·unfold z0g at h;obtain ⟨f',r,rfl,hf,hr',hq,hx⟩:=h;rw[show x4 ["first","rounds"] _=[.val _,.val _]from rfl];walk_at "dl";refine ⟨_,rfl,hf,fun e1=>?_,fun e1=>hx (.inl e1)⟩;refine ⟨hr',?_⟩;cases e:u3 r 0 24 with
  |true=>exact hq e1 e
  |false=>exact hx (.inr e)
noncomputable abbrev a7:List Str:=["part","stand","first","rounds"]
theorem sc_check_run:FnScope ["part","stand","first","rounds"] a7 (defScope z0r):=⟨rfl,rfl,rfl,by decide +kernel,rfl,by decide +kernel,by decide +kernel⟩
noncomputable abbrev w0y(P:Program)(w:World)(K:PySem.W.Frag)(mg:Str→Option Value)(base:Heap)(cs:Cs):Prop:=Fun2 P w K mg base "check_run" 5 a7 (v0p cs)
theorem o0a{f:Addr}{fd:FuncData}(Df:DefAt K mg "check_run" z0r a7 f fd)(T:Txt K mg cs)(G_check_stand:z9 P w K mg base cs)(G_check_rounds:d9 P w K mg base cs):w0y P w K mg base cs:=by
 have nd:=sc_check_run.nd;refine def2 Df sc_check_run (fun ds δ q x h=>?_) (fun cdv A outer s H E Y hr=>⟨_,(v0 (j4 (d0 G_check_stand (hr.mono (by decide)) j0 (z0 (e2_v 0) (z0 (e2_v 1) y0))))
  (i0 (j4 (d0 G_check_rounds (hr.mono (by decide)) j0 (z0 (e2_v 2) (z0 (e2_v 3) y0)))))),fun ds δ q x h=>?_⟩)
 ·unfold v0p at h;obtain ⟨full,mark,ws,price,d,f',r,rfl,hd,hf,hr',h1,h2,hq⟩:=h;rfl
 ·unfold v0p at h;obtain ⟨full,mark,ws,price,d,f',r,rfl,hd,hf,hr',h1,h2,hq⟩:=h;rw[show x4 ["part","stand","first","rounds"] _=[.val _,.val _,.val _,.val _]from rfl];walk_at "dl";exact ⟨_,_,_,_,_,rfl,hd,fun e1=>⟨_,_,rfl,hf,hr',fun e2 e3=>hq e1 e2 e3,fun e2=>h2 e1 e2⟩,fun e1=>h1 e1⟩
noncomputable def v0o(cs:Cs):Sp2:=fun ds δ q x=>∃full mark ws price d,ds=[a5 cs full mark ws price,d]∧u4 d=true∧u3 d mark full=false∧x cs.NoStands [] δ
noncomputable def q0i(cs:Cs):Sp2:=fun ds δ q x=>∃full mark ws price d f r,ds=[a5 cs full mark ws price,d,f,r]∧u4 d=true∧u3 d mark full=false∧x cs.NoStands [] δ
noncomputable def q0h(cs:Cs):Sp2:=fun ds δ q x=>∃full mark ws price d f r l,ds=[a5 cs full mark ws price,d,f,r,l]∧u4 d=true∧u3 d mark full=false∧x cs.NoStands [] δ
noncomputable abbrev s9(P:Program)(w:World)(K:PySem.W.Frag)(mg:Str→Option Value)(base:Heap)(cs:Cs):Prop:=h0b P w K mg base "check_stand" 4 u6 (v0o cs)
theorem u0n{f:Addr}{fd:FuncData}(Df:DefAt K mg "check_stand" f8 u6 f fd)(T:Txt K mg cs)(G_is_stand:x0w P w K mg base cs):s9 P w K mg base cs:=by
 have nd:=sc_check_stand.nd;refine z1s Df sc_check_stand (fun ds δ q x h=>?_) (fun cdv A outer s H E Y hd hr hh hF=>⟨_,(i0 (z5 (b4 (p5 (p9 G_is_stand (hr.mono (by decide)) w0n (z0 (e2_v 0) (z0 (e2_v 1) y0))))) (i0 (j0t ⟨rfl,rfl⟩ hh hF rfl w0n T.k_NoStands T.x_NoStands T.c_NoStands)) o4)),fun ds δ q x h=>?_⟩)
 ·unfold v0o at h;obtain ⟨full,mark,ws,price,d,rfl,hd,hw,hx⟩:=h;rfl
 ·unfold v0o at h;obtain ⟨full,mark,ws,price,d,rfl,hd,hw,hx⟩:=h;rw[show x4 ["part","stand"] _=[.val _,.val _]from rfl];walk_at "dl";refine ⟨_,_,_,_,_,rfl,hd,?_⟩;rw[hw];exact hx
noncomputable abbrev z0f(P:Program)(w:World)(K:PySem.W.Frag)(mg:Str→Option Value)(base:Heap)(cs:Cs):Prop:=h0b P w K mg base "check_run" 5 a7 (q0i cs)
theorem r0y{f:Addr}{fd:FuncData}(Df:DefAt K mg "check_run" z0r a7 f fd)(T:Txt K mg cs)(G_check_stand_h:s9 P w K mg base cs):z0f P w K mg base cs:=by
 have nd:=sc_check_run.nd;refine z1s Df sc_check_run (fun ds δ q x h=>?_) (fun cdv A outer s H E Y hd hr hh hF=>⟨_,(h0a (j4 (q0n G_check_stand_h (hr.mono (by decide)) hh hF rfl w0n (z0 (e2_v 0) (z0 (e2_v 1) y0))))),fun ds δ q x h=>?_⟩)
 ·unfold q0i at h;obtain ⟨full,mark,ws,price,d,f',r,rfl,hd,hw,hx⟩:=h;rfl
 ·unfold q0i at h;obtain ⟨full,mark,ws,price,d,f',r,rfl,hd,hw,hx⟩:=h;rw[show x4 ["part","stand","first","rounds"] _=[.val _,.val _,.val _,.val _]from rfl];walk_at "dl";exact ⟨_,_,_,_,_,rfl,hd,hw,hx⟩
noncomputable def chgZ(full mark:Int)(ws:List Int):Nat→Int→Int→Option (List Int)
 | 0,_,_=>some []
 |n+1,s,f=>if s-r9 ws f<mark then (if full-r9 ws f<mark then none else (chgZ full mark ws n (full-r9 ws f) (f+1)).map (f::·))else chgZ full mark ws n (s-r9 ws f) (f+1)
theorem q0g{full mark:Int}{ws:List Int}{n:Nat}{s f:Int}:chgZ full mark ws (n+1) s f=if s-r9 ws f<mark then (if full-r9 ws f<mark then none else (chgZ full mark ws n (full-r9 ws f) (f+1)).map (f::·))else chgZ full mark ws n (s-r9 ws f) (f+1):=rfl
theorem g0m{f:Int}{n i:Nat}{d:D}(e:(rngD f n)[i]?=some d):i<n∧d=.int (f+(i:Int)):=u0i e
theorem z1n{o:Option (List Int)}{acc:List Int}{a:Int}:(o.map (a::·)).map (acc++·)=o.map ((acc++[a])++·):=by cases o<;>simp
noncomputable def lateQ(cs:Cs)(q:D→Dk→Prop)(x:Addr→List (Str×D)→Dk→Prop)(δ:Dk):Option (List Int)→Prop
 |some l=>q (.tup (l.map D.int)) δ
 |none=>x cs.NoneHolds [] δ
noncomputable def spLate(cs:Cs):Sp2:=fun ds δ q x=>∃full mark ws price d f r,ds=[a5 cs full mark ws price,d,f,r]∧0<ws.length∧u4 d=true∧u4 f=true∧u4 r=true∧(u3 d mark full=false→x cs.NoStands [] δ)∧
 (u3 d mark full=true→u3 f 0 47=false∨u3 r 0 24=false→x cs.NoRounds [] δ)∧(∀s f0 r0:Int,d=.int s→f=.int f0→r=.int r0→mark≤s→s≤full→0≤f0→f0≤47→0≤r0→r0≤24→lateQ cs q x δ (chgZ full mark ws r0.toNat s f0))
noncomputable def chgD:Option (List Int)→D |some l=>.lst (l.map D.int)|none=>.non
noncomputable def s0m:Sp2:=fun ds δ q _=>∃full mark ws price,∃s f r:Int,ds=[rowL full mark ws price,.int s,.int f,.int r]∧0<ws.length∧(0≤f∧f≤2^20)∧(0≤r∧r≤24)∧q (chgD (chgZ full mark ws r.toNat s f)) δ
noncomputable abbrev y9:List Str:=["_law_row_here","_law_stand","_law_first","_law_rounds"]
theorem sc_law_changes:FnScope ["_law_row_here","_law_stand","_law_first","_law_rounds","_law_found","_law_number","_law_gone"] y9 (defScope z0p):=⟨rfl,rfl,rfl,by decide +kernel,rfl,by decide +kernel,by decide +kernel⟩
noncomputable abbrev z0e(P:Program)(w:World)(K:PySem.W.Frag)(mg:Str→Option Value)(base:Heap)(cs:Cs):Prop:=Fun2 P w K mg base "_law_changes" 3 y9 s0m
theorem r0x{f:Addr}{fd:FuncData}(Df:DefAt K mg "_law_changes" z0p y9 f fd)(T:Txt K mg cs)(G_law_lost:x0r P w K mg base cs):z0e P w K mg base cs:=by
 have nd:=sc_law_changes.nd;refine def2 Df sc_law_changes (fun ds δ q x h=>?_) (fun cdv A outer s H E Y hr=>⟨_,(v0 (t0o 4 nd y0)
  (v0 (n8 PassesOwn.leaving rfl (y0k T.n_range (z0 (e2_v 2) (z0 (u2 x3 i3 (e2_v 2) (e2_v 3)) y0))) (l3 (i:=5) nd rfl (by first |exact Or.inl rfl |exact Or.inr rfl)) (j7 (i:=5)) (v0 (b3 6 nd (d0 G_law_lost (hr.mono (by decide)) j0 (z0 (e2_v 0) (z0 (e2_v 5) y0))))
  (v0 (z5 (z6 u0u d_lt (u2 b9 w0e (e2_v 1) (e2_v 6)) (n4 0 o0) (l4 _)) (v0 (j4 (u0r 4 PySem.F.slot_list_append PySem.F.type_list_append l5 i6 (z0 (e2_v 5) y0)))
  (i0 (b3 1 nd (n4 0 o0)))) o4)
  (v0 (b3 1 nd (u2 b9 w0e (e2_v 1) (e2_v 6)))
  (i0 (z5 (z6 u0u d_lt (e2_v 1) (n4 0 o0) (l4 _)) (i0 (a3 v9)) o4))))))
  (i0 (a3 (e2_v 4))))),fun ds δ q x h=>?_⟩)
 ·unfold s0m at h;obtain ⟨full,mark,ws,price,s,f0,r0,rfl,hl,⟨f1,f2⟩,⟨r1,r2⟩,hq⟩:=h;rfl
 ·unfold s0m at h;obtain ⟨full,mark,ws,price,s,f0,r0,rfl,hl,⟨f1,f2⟩,⟨r1,r2⟩,hq⟩:=h;rw[show x4 ["_law_row_here","_law_stand","_law_first","_law_rounds","_law_found","_law_number","_law_gone"] _=[.val _,.val _,.val _,.val _,.no,.no,.no]from rfl];have e:(f0+r0-f0).toNat=r0.toNat:=by rw[show f0+r0-f0=r0 by omega]
  walk_at "dn";refine ⟨⟨by omega,by omega,by omega,by omega⟩,?_⟩;rw[e];refine w6 (fun i ρ δ'=>∃(acc:List Int) (t:Int) (c5 c6:Cell),ρ=[Cell.val (rowL full mark ws price),Cell.val (D.int t),Cell.val (D.int f0),Cell.val (D.int r0),Cell.own (acc.map D.int),c5,c6]∧δ'=δ∧acc.length≤i∧chgZ full mark ws r0.toNat s f0=(chgZ full mark ws (r0.toNat-i) t (f0+(i:Int))).map (acc++·)) ⟨[],s,_,_,rfl,rfl,Nat.le_refl _,by simp⟩ ?_ ?_
  ·rintro i d ρ δ' rest hi ⟨acc,t,c5,c6,rfl,rfl,hla,hw⟩ hrest;obtain ⟨hi,rfl⟩:=g0m hi;obtain ⟨m,hm⟩:∃m,r0.toNat-i=m+1:=⟨r0.toNat-i-1,by omega⟩;have hm2:r0.toNat-(i+1)=m:=by omega
   rw[hm,q0g]at hw;unfold z0t;walk_at "dl";refine ⟨_,_,_,_,_,rfl,hl,?_⟩;unfold rowL;walk_at "dl";split
   ·rename_i h3;rw[if_pos h3]at hw;refine ⟨rfl,by rw[List.length_map];omega,?_⟩;split
    ·rename_i h4;rw[if_pos h4]at hw;rw[hw]at hq;exact hq
    ·rename_i h4;rw[if_neg h4,z1n]at hw;refine hrest _ _ ⟨acc++[f0+(i:Int)],_,_,_,by rw[List.map_append];rfl,rfl,by rw[List.length_append];show acc.length+1≤i+1;omega,?_⟩;rw[hm2,show f0+((i+1:Nat):Int)=f0+(i:Int)+1 by omega];exact hw
   ·rename_i h3;rw[if_neg h3]at hw;refine hrest _ _ ⟨acc,_,_,_,rfl,rfl,by omega,?_⟩;rw[hm2,show f0+((i+1:Nat):Int)=f0+(i:Int)+1 by omega];exact hw
  ·rintro ρ δ' ⟨acc,t,c5,c6,rfl,rfl,hla,hw⟩;rw[w0o]at hla hw;rw[Nat.sub_self]at hw;rw[hw]at hq;walk_at "dl";simpa[chgZ,chgD]using hq
noncomputable def y0e(ws:List Int)(mark:Int):Nat→Int→Int→Bool
 | 0,_,_=>false
 |n+1,s,f=>if s-r9 ws f<mark then true else y0e ws mark n (s-r9 ws f) (f+1)
theorem z0x{ws:List Int}{mark:Int}{n:Nat}{s f:Int}:y0e ws mark (n+1) s f=if s-r9 ws f<mark then true else y0e ws mark n (s-r9 ws f) (f+1):=rfl
theorem g0l{ws:List Int}{mark:Int}:∀{n:Nat} {s s' f:Int},s≤s'→y0e ws mark n s' f=true→y0e ws mark n s f=true
 | 0,s,s',f,_,h=>by cases h
 |n+1,s,s',f,hs,h=>by
  rw[z0x]at h ⊢;by_cases h1:s-r9 ws f<mark
  ·rw[if_pos h1]
  ·rw[if_neg h1];rw[if_neg (by omega)]at h;exact g0l (by omega) h
noncomputable def f7(full mark:Int)(ws:List Int)(s f a b:Int):Bool:=if f<a then y0e ws mark (b-a+2).toNat full (a-1)else y0e ws mark (b-f+1).toNat s f
noncomputable def n0z(p:Int×Int):D:=.tup [.int p.1,.int p.2]
noncomputable def y0v:Int→List Int→List (Int×Int)
 |_,[]=>[]
 |free,c::r=>(free,c)::y0v (c+1) r
noncomputable def strZ(need:Int→Int→Bool)(hi:Int):Int→List (Int×Int)→Bool
 |_,[]=>true
 |free,(a,b)::r=>decide (free≤a)&&decide (a≤b)&&decide (b≤hi)&&need a b&&strZ need hi (b+1) r
theorem k0r{need:Int→Int→Bool}{hi free a b:Int}{r:List (Int×Int)}:strZ need hi free ((a,b)::r)=true↔free≤a∧a≤b∧b≤hi∧need a b=true∧strZ need hi (b+1) r=true:=by
 show (decide (free≤a)&&decide (a≤b)&&decide (b≤hi)&&need a b&&strZ need hi (b+1) r)=true↔_;simp only[Bool.and_eq_true,decide_eq_true_eq,and_assoc]
noncomputable def g0k(cs:Cs):Sp2:=fun ds δ q _=>∃full mark ws price,∃s f n:Int,ds=[a5 cs full mark ws price,.int s,.int f,.int n]∧0<ws.length∧(-100≤f∧f≤200)∧(0≤n∧n≤900)∧∀xs:List D,decide ((xs.length:Int)≤n)=y0e ws mark n.toNat s f→q (.lst xs) δ
noncomputable def u0c(cs:Cs):Sp2:=fun ds δ q _=>∃full mark ws price,∃s f a b:Int,ds=[a5 cs full mark ws price,.int s,.int f,.int a,.int b]∧0<ws.length∧(0≤f∧f≤47)∧f≤a∧a≤b∧b≤100∧q (.bl (f7 full mark ws s f a b)) δ
noncomputable def spStretch:Sp2:=fun ds δ q _=>∃p:Int×Int,∃lo hi:Int,ds=[n0z p,.int lo,.int hi]∧q (.bl (decide (lo≤p.1)&&decide (p.1≤p.2)&&decide (p.2≤hi))) δ
noncomputable def spIsStr(cs:Cs):Sp2:=fun ds δ q _=>∃full mark ws price,∃s f r:Int,∃l:List (Int×Int),ds=[a5 cs full mark ws price,.int s,.int f,.int r,.tup (l.map n0z)]∧0<ws.length∧(mark≤s∧s≤full)∧(0≤f∧f≤47)∧(0≤r∧r≤24)∧strZ (f7 full mark ws s f) (f+r-1) f l=true∧q (.bl true) δ
noncomputable def strQ(cs:Cs)(f:Int)(q:D→Dk→Prop)(x:Addr→List (Str×D)→Dk→Prop)(δ:Dk):Option (List Int)→Prop
 |some l=>q (.tup ((y0v f l).map n0z)) δ
 |none=>x cs.NoneHolds [] δ
noncomputable def spStrs(cs:Cs):Sp2:=fun ds δ q x=>∃full mark ws price d f r,ds=[a5 cs full mark ws price,d,f,r]∧0<ws.length∧u4 d=true∧u4 f=true∧u4 r=true∧(u3 d mark full=false→x cs.NoStands [] δ)∧
 (u3 d mark full=true→u3 f 0 47=false∨u3 r 0 24=false→x cs.NoRounds [] δ)∧(∀s f0 r0:Int,d=.int s→f=.int f0→r=.int r0→mark≤s→s≤full→0≤f0→f0≤47→0≤r0→r0≤24→strQ cs f0 q x δ (chgZ full mark ws r0.toNat s f0))
theorem m0g{full mark:Int}{ws:List Int}:∀{n:Nat} {s f:Int} {l:List Int},chgZ full mark ws n s f=some l→l.length≤n
 | 0,s,f,l,h=>by cases h;exact Nat.le_refl _
 |n+1,s,f,l,h=>by
  rw[q0g]at h;split at h
  ·split at h
   ·cases h
   ·obtain ⟨l',e,rfl⟩:=Option.map_eq_some_iff.mp h;have:=m0g e;rw[List.length_cons];omega
  ·have:=m0g h;omega
noncomputable abbrev n5:List Str:=["part","stand","first","rounds"]
theorem sc_stands_until_fall:FnScope ["part","stand","first","rounds","stands","round_number"] n5 (defScope b6):=⟨rfl,rfl,rfl,by decide +kernel,rfl,by decide +kernel,by decide +kernel⟩
noncomputable abbrev z7(P:Program)(w:World)(K:PySem.W.Frag)(mg:Str→Option Value)(base:Heap)(cs:Cs):Prop:=Fun2 P w K mg base "stands_until_fall" 3 n5 (g0k cs)
theorem x0o{f:Addr}{fd:FuncData}(Df:DefAt K mg "stands_until_fall" b6 n5 f fd)(T:Txt K mg cs)(G_loss:g0r P w K mg base cs):z7 P w K mg base cs:=by
 have nd:=sc_stands_until_fall.nd;refine def2 Df sc_stands_until_fall (fun ds δ q x h=>?_) (fun cdv A outer s H E Y hr=>⟨_,(v0 (t0o 4 nd (z0 (e2_v 1) y0))
  (v0 (n8 PassesOwn.leaving rfl (y0k T.n_range (z0 (e2_v 2) (z0 (u2 x3 i3 (e2_v 2) (e2_v 3)) y0))) (l3 (i:=5) nd rfl (by first |exact Or.inl rfl |exact Or.inr rfl)) (j7 (i:=5)) (v0 (s2_aug 1 nd ip_sub (d0 G_loss (hr.mono (by decide)) j0 (z0 (e2_v 0) (z0 (e2_v 5) y0))))
  (v0 (z5 (z6 u0u d_lt (e2_v 1) (w0c K (e2_v 0)) (l4 _)) (i0 e0r) o4)
  (i0 (j4 (u0r 4 PySem.F.slot_list_append PySem.F.type_list_append l5 i6 (z0 (e2_v 1) y0)))))))
  (i0 (a3 (e2_v 4))))),fun ds δ q x h=>?_⟩)
 ·unfold g0k at h;obtain ⟨full,mark,ws,price,t,f',n,rfl,hl,⟨f1,f2⟩,⟨n1,n2⟩,hq⟩:=h;rfl
 ·unfold g0k at h;obtain ⟨full,mark,ws,price,t,f',n,rfl,hl,⟨f1,f2⟩,⟨n1,n2⟩,hq⟩:=h;rw[show x4 ["part","stand","first","rounds","stands","round_number"] _=[.val _,.val _,.val _,.val _,.no,.no]from rfl];walk_at "dn";refine ⟨⟨by omega,by omega,by omega,by omega⟩,?_⟩;have en:(f'+n-f').toNat=n.toNat:=by omega
  rw[en];refine w6 (fun i ρ δ'=>∃(done:List D) (z:Int) (c5:Cell),ρ=[.val (a5 cs full mark ws price),.val (.int z),.val (.int f'),.val (.int n),.own done,c5]∧δ'=δ∧i≤n.toNat∧done.length=i+1∧
   y0e ws mark n.toNat t f'=y0e ws mark (n.toNat-i) z (f'+(i:Int))) ⟨_,t,_,rfl,rfl,Nat.zero_le _,rfl,by simp⟩ ?_ ?_
  ·rintro i d ρ δ' rest hi ⟨done,z,c5,rfl,rfl,hin,hdn,hsuf⟩ hrest;obtain ⟨hi2,rfl⟩:=u0i hi;unfold z0t;walk_at "dl";refine ⟨full,mark,ws,price,f'+(i:Int),rfl,hl,?_⟩;walk_at "dl"
   (try simp only[a5];walk_at "fl")
   have hm:n.toNat-i=(n.toNat-(i+1))+1:=by omega
   rw[hm,z0x]at hsuf;split
   ·rename_i hlt;rw[if_pos hlt]at hsuf;refine hq _ ?_;rw[hsuf,decide_eq_true (by omega)]
   ·rename_i hlt;rw[if_neg hlt]at hsuf;refine ⟨rfl,by omega,hrest _ _ ⟨done++[.int (z-r9 ws (f'+(i:Int)))],_,_,rfl,rfl,by omega,by rw[List.length_append,hdn];rfl,?_⟩⟩;rw[hsuf,show f'+(i:Int)+1=f'+((i+1:Nat):Int)by omega]
  ·rintro ρ δ' ⟨done,z,c5,rfl,rfl,hin,hdn,hsuf⟩;rw[w0o]at hdn hsuf;rw[Nat.sub_self]at hsuf;walk_at "dl";refine hq _ ?_;rw[hsuf];exact decide_eq_false (by omega)
noncomputable abbrev u8:List Str:=["part","stand","first","a","b"]
theorem sc_needs_change:FnScope ["part","stand","first","a","b","start","rounds"] u8 (defScope f9):=⟨rfl,rfl,rfl,by decide +kernel,rfl,by decide +kernel,by decide +kernel⟩
noncomputable abbrev r8(P:Program)(w:World)(K:PySem.W.Frag)(mg:Str→Option Value)(base:Heap)(cs:Cs):Prop:=Fun2 P w K mg base "needs_change" 4 u8 (u0c cs)
theorem s0l{f:Addr}{fd:FuncData}(Df:DefAt K mg "needs_change" f9 u8 f fd)(T:Txt K mg cs)(G_stands_until_fall:z7 P w K mg base cs):r8 P w K mg base cs:=by
 have nd:=sc_needs_change.nd;refine def2 Df sc_needs_change (fun ds δ q x h=>?_) (fun cdv A outer s H E Y hr=>⟨_,(v0 (b3 5 nd (e2_v 2))
  (v0 (z5 (z6 b0v d_gt (e2_v 3) (e2_v 2) (l4 _)) (v0 (b3 5 nd (u2 b9 w0e (e2_v 3) o0))
  (i0 (b3 1 nd (w0c K (e2_v 0))))) o4)
  (v0 (b3 6 nd (u2 x3 i3 (u2 b9 w0e (e2_v 4) (e2_v 5)) o0))
  (i0 (a3 (y0m k0l d_le (e2_b q9 a0u T.n_len l0m (z0 (d0 G_stands_until_fall (hr.mono (by decide)) j0 (z0 (e2_v 0) (z0 (e2_v 1) (z0 (e2_v 5) (z0 (e2_v 6) y0))))) y0)) (e2_v 6) (l4 _))))))),fun ds δ q x h=>?_⟩)
 ·unfold u0c at h;obtain ⟨full,mark,ws,price,s,f',a,b,rfl,hl,⟨f1,f2⟩,h1,h2,h3,hq⟩:=h;rfl
 ·unfold u0c at h;obtain ⟨full,mark,ws,price,s,f',a,b,rfl,hl,⟨f1,f2⟩,h1,h2,h3,hq⟩:=h;rw[show x4 ["part","stand","first","a","b","start","rounds"] _=[.val _,.val _,.val _,.val _,.val _,.no,.no]from rfl];walk_at "dl";unfold f7 at hq;split
  ·rename_i h1;rw[if_pos h1]at hq
   (try simp only[a5];walk_at "fl")
   have e:b-(a-1)+1=b-a+2:=by omega
   refine ⟨full,mark,ws,price,full,a-1,b-(a-1)+1,rfl,hl,⟨by omega,by omega⟩,⟨by omega,by omega⟩,fun xs hx=>?_⟩;walk_at "dl";rw[e]at hx ⊢;rw[hx];exact hq
  ·rename_i h1;rw[if_neg h1]at hq;refine ⟨full,mark,ws,price,s,f',b-f'+1,rfl,hl,⟨by omega,by omega⟩,⟨by omega,by omega⟩,fun xs hx=>?_⟩;walk_at "dl";rw[hx];exact hq
noncomputable def twoD(d:D):Option (Int×Int):=match rowD d with |some [.int a,.int b]=>some (a,b)|_=>none
noncomputable def m0f(lo hi:Int)(d:D):Bool:=match twoD d with |some (a,b)=>decide (lo≤a)&&decide (a≤b)&&decide (b≤hi)|none=>false
noncomputable def r0w(need:Int→Int→Bool)(hi:Int):Int→List D→Bool
 |_,[]=>true
 |free,d::r=>match twoD d with |some (a,b)=>decide (free≤a)&&decide (a≤b)&&decide (b≤hi)&&need a b&&r0w need hi (b+1) r |none=>false
noncomputable def n0y(need:Int→Int→Bool)(hi f:Int)(d:D):Bool:=match rowD d with |some xs=>r0w need hi f xs |none=>false
noncomputable def u0v(d:D):Bool:=u4 d&&(match rowD d with |some xs=>xs.all y6 |none=>true)
theorem m0e{d:D}{a b:Int}(h:twoD d=some (a,b)):d=.lst [.int a,.int b]∨d=.tup [.int a,.int b]:=by
 unfold twoD at h;cases d<;>simp only[rowD]at h<;>try cases h
 all_goals
  split at h
  ·rename_i e;cases h;cases e
   first |exact .inl rfl |exact .inr rfl
  ·cases h
theorem d0p{d:D}{lo hi:Int}:v0t d 2 2 lo hi=(match twoD d with |some (a,b)=>decide (lo≤a)&&decide (a≤hi)&&(decide (lo≤b)&&decide (b≤hi))|none=>false):=by
 unfold v0t twoD;cases e:rowD d with
 |none=>rfl
 |some xs=>
  dsimp only
  match xs with
  | []=>rfl
  | [x]=>cases x<;>rfl
  |x::y::z::r=>
   have:decide (((x::y::z::r).length:Int)≤2)=false:=decide_eq_false (by simp only[List.length_cons];omega);rw[this,Bool.and_false,Bool.false_and];cases x<;>cases y<;>rfl
  | [x,y]=>
   have e1:(decide ((2:Int)≤(([x,y]:List D).length:Int))&&decide ((([x,y]:List D).length:Int)≤2))=true:=rfl;rw[e1,Bool.true_and,List.all_cons,List.all_cons,List.all_nil,Bool.and_true];cases x<;>cases y<;>simp[u3]
theorem j0r(lo hi:Int)(d:D):(m0f lo hi d=true∧v0t d 2 2 lo hi=true∧∃a b,twoD d=some (a,b)∧lo≤a∧a≤b∧b≤hi)∨(m0f lo hi d=false∧v0t d 2 2 lo hi=false)∨(m0f lo hi d=false∧v0t d 2 2 lo hi=true∧∃a b,twoD d=some (a,b)∧b<a):=by
 rw[d0p];unfold m0f;cases e:twoD d with
 |none=>exact .inr (.inl ⟨rfl,rfl⟩)
 |some p=>
  obtain ⟨a,b⟩:=p;dsimp only;by_cases h:lo≤a∧a≤hi∧lo≤b∧b≤hi
  ·obtain ⟨h1,h2,h3,h4⟩:=h;by_cases h5:a≤b
   ·exact .inl ⟨by simp[h1,h4,h5],by simp[h1,h2,h3,h4],a,b,rfl,h1,h5,h4⟩
   ·exact .inr (.inr ⟨by simp[h5],by simp[h1,h2,h3,h4],a,b,rfl,by omega⟩)
  ·refine .inr (.inl ⟨?_,?_⟩)
   ·rw[Bool.eq_false_iff];intro z;simp only[Bool.and_eq_true,decide_eq_true_eq]at z;omega
   ·rw[Bool.eq_false_iff];intro z;simp only[Bool.and_eq_true,decide_eq_true_eq]at z;omega
noncomputable def v0n:Sp2:=fun ds δ q _=>∃(d:D) (lo hi:Int),ds=[d,.int lo,.int hi]∧y6 d=true∧q (.bl (m0f lo hi d)) δ
noncomputable def q0f(cs:Cs):Sp2:=fun ds δ q x=>∃full mark ws price d f r l,ds=[a5 cs full mark ws price,d,f,r,l]∧0<ws.length∧u4 d=true∧u4 f=true∧u4 r=true∧u0v l=true∧(u3 d mark full=false→x cs.NoStands [] δ)∧
 (u3 d mark full=true→u3 f 0 47=false∨u3 r 0 24=false→x cs.NoRounds [] δ)∧(∀s f0 r0:Int,d=.int s→f=.int f0→r=.int r0→mark≤s→s≤full→0≤f0→f0≤47→0≤r0→r0≤24→q (.bl (n0y (f7 full mark ws s f0) (f0+r0-1) f0 l)) δ)
noncomputable def m0d(cs:Cs):Sp2:=fun ds δ q x=>∃full mark ws price d f a b,ds=[a5 cs full mark ws price,d,f,a,b]∧0<ws.length∧u4 d=true∧u4 f=true∧u4 a=true∧u4 b=true∧(u3 d mark full=false→x cs.NoStands [] δ)∧
 (u3 d mark full=true→u3 f 0 47=false→x cs.NoRounds [] δ)∧(∀s f0:Int,d=.int s→f=.int f0→mark≤s→s≤full→0≤f0→f0≤47→(u3 b f0 (f0+23)=false→x cs.NoRounds [] δ)∧∀b0:Int,b=.int b0→f0≤b0→b0≤f0+23→(u3 a f0 b0=false→x cs.NoRounds [] δ)∧∀a0:Int,a=.int a0→f0≤a0→a0≤b0→q (.bl (f7 full mark ws s f0 a0 b0)) δ)
noncomputable abbrev o9:List Str:=["thing","least","most"]
theorem sc_is_stretch:FnScope ["thing","least","most"] o9 (defScope y0j):=⟨rfl,rfl,rfl,by decide +kernel,rfl,by decide +kernel,by decide +kernel⟩
noncomputable abbrev y0d(P:Program)(w:World)(K:PySem.W.Frag)(mg:Str→Option Value)(base:Heap)(cs:Cs):Prop:=Fun2 P w K mg base "is_stretch" 4 o9 v0n
theorem q0e{f:Addr}{fd:FuncData}(Df:DefAt K mg "is_stretch" y0j o9 f fd)(T:Txt K mg cs)(G_is_whole_row:w8 P w K mg base cs):y0d P w K mg base cs:=by
 have nd:=sc_is_stretch.nd;refine def2 Df sc_is_stretch (fun ds δ q x h=>?_) (fun cdv A outer s H E Y hr=>⟨_,(i0 (a3 (p0a (d0 G_is_whole_row (hr.mono (by decide)) j0 (z0 (e2_v 0) (z0 o0 (z0 o0 (z0 (e2_v 1) (z0 (e2_v 2) y0)))))) (p0b (y0m k0l d_le (n4 0 o0) (n4 0 o0) (l4 _)))))),fun ds δ q x h=>?_⟩)
 ·unfold v0n at h;obtain ⟨d,lo,hi,rfl,hd,hq⟩:=h;rfl
 ·unfold v0n at h;obtain ⟨d,lo,hi,rfl,hd,hq⟩:=h;rw[show x4 ["thing","least","most"] _=[.val _,.val _,.val _]from rfl];walk_at "dl";refine ⟨hd,by decide,?_⟩;rcases j0r lo hi d with ⟨e1,e2,a,b,e3,h1,h2,h3⟩|⟨e1,e2⟩|⟨e1,e2,a,b,e3,h1⟩
  ·rw[e2];rw[e1]at hq;rcases m0e e3 with rfl |rfl
   ·walk_at "dl";simp only[h2,decide_true];exact hq
   ·walk_at "dl";simp only[h2,decide_true];exact hq
  ·rw[e2];rw[e1]at hq;walk_at "dl";exact hq
  ·rw[e2];rw[e1]at hq;have h2:¬a≤b:=by omega
   rcases m0e e3 with rfl |rfl
   ·walk_at "dl";simp only[h2,decide_false];exact hq
   ·walk_at "dl";simp only[h2,decide_false];exact hq
noncomputable abbrev j5:List Str:=["part","stand","first","rounds","thing"]
theorem sc_is_stretches:FnScope ["part","stand","first","rounds","thing","free","entry"] j5 (defScope y8):=⟨rfl,rfl,rfl,by decide +kernel,rfl,by decide +kernel,by decide +kernel⟩
noncomputable abbrev q8(P:Program)(w:World)(K:PySem.W.Frag)(mg:Str→Option Value)(base:Heap)(cs:Cs):Prop:=Fun2 P w K mg base "is_stretches" 6 j5 (q0f cs)
theorem s0k{f:Addr}{fd:FuncData}(Df:DefAt K mg "is_stretches" y8 j5 f fd)(T:Txt K mg cs)(G_check_run:w0y P w K mg base cs)(G_is_row:u0d P w K mg base cs)(G_is_stretch:y0d P w K mg base cs)(G_needs_change:r8 P w K mg base cs):q8 P w K mg base cs:=by
 have nd:=sc_is_stretches.nd;refine def2 Df sc_is_stretches (fun ds δ q x h=>?_) (fun cdv A outer s H E Y hr=>⟨_,(v0 (j4 (d0 G_check_run (hr.mono (by decide)) j0 (z0 (e2_v 0) (z0 (e2_v 1) (z0 (e2_v 2) (z0 (e2_v 3) y0))))))
  (v0 (z5 (b4 (p5 (d0 G_is_row (hr.mono (by decide)) j0 (z0 (e2_v 4) y0)))) (i0 (a3 i5)) o4)
  (v0 (b3 5 nd (e2_v 2))
  (v0 (n8 PassesOwn.leaving rfl (z0y (e2_v 4)) (l3 (i:=6) nd rfl (by first |exact Or.inl rfl |exact Or.inr rfl)) (j7 (i:=6)) (v0 (z5 (b4 (p5 (d0 G_is_stretch (hr.mono (by decide)) j0 (z0 (e2_v 6) (z0 (e2_v 5) (z0 (u2 b9 w0e (u2 x3 i3 (e2_v 2) (e2_v 3)) o0) y0)))))) (i0 (a3 i5)) o4)
  (v0 (z5 (b4 (p5 (d0 G_needs_change (hr.mono (by decide)) j0 (z0 (e2_v 0) (z0 (e2_v 1) (z0 (e2_v 2) (z0 (n4 6 o0) (z0 (n4 6 o0) y0)))))))) (i0 (a3 i5)) o4)
  (i0 (b3 5 nd (u2 x3 i3 (n4 6 o0) o0))))))
  (i0 (a3 i5)))))),fun ds δ q x h=>?_⟩)
 ·unfold q0f at h;obtain ⟨full,mark,ws,price,d,f',r,l,rfl,hl,hd,hf,hr',ht,h1,h2,hq⟩:=h;rfl
 ·unfold q0f at h;obtain ⟨full,mark,ws,price,d,f',r,l,rfl,hl,hd,hf,hr',ht,h1,h2,hq⟩:=h;rw[show x4 ["part","stand","first","rounds","thing","free","entry"] _=[.val _,.val _,.val _,.val _,.val _,.no,.no]from rfl];walk_at "dn";refine ⟨_,_,_,_,_,_,_,rfl,hd,hf,hr',h1,h2,fun e1 e2 e3=>?_⟩;obtain ⟨s,rfl,s1,s2⟩:=o7 e1;obtain ⟨f0,rfl,f1,f2⟩:=o7 e2;obtain ⟨r0,rfl,r1,r2⟩:=o7 e3;replace hq:=hq s f0 r0 rfl rfl rfl s1 s2 f1 f2 r1 r2;unfold u0v at ht;rw[Bool.and_eq_true]at ht;obtain ⟨t1,t2⟩:=ht;unfold n0y at hq
  try walk_at "dn"
  refine ⟨t1,?_⟩;unfold r0f;cases er:rowD l with
  |none=>
   rw[er]at hq;exact hq
  |some xs=>
   rw[er]at hq t2;simp only[Option.isSome_some,Bool.not_true,Bool.false_eq_true,if_false];dsimp only at hq t2;have el:l=.lst xs∨l=.tup xs:=by cases l<;>simp only[rowD]at er<;>cases er<;>first |exact .inl rfl |exact .inr rfl
   rcases el with rfl |rfl
   all_goals
    walk_at "dn";refine w6 (fun i ρ δ'=>∃(ll:D) (free:Int) (c6:Cell),ρ=[.val (a5 cs full mark ws price),.val (.int s),.val (.int f0),.val (.int r0),.val ll,.val (.int free),c6]∧δ'=δ∧f0≤free∧r0w (f7 full mark ws s f0) (f0+r0-1) f0 xs=r0w (f7 full mark ws s f0) (f0+r0-1) free (xs.drop i)) ⟨_,_,_,rfl,rfl,Int.le_refl _,by rw[List.drop_zero]⟩ ?_ ?_
    ·rintro i d ρ δ' rest hi ⟨ll,free,c6,rfl,rfl,hfr,hst⟩ hrest;have lt:=(List.getElem?_eq_some_iff.mp hi).1;have hdi:y6 d=true:=List.all_eq_true.mp t2 d (List.mem_of_getElem? hi);rw[List.drop_eq_getElem_cons lt,show xs[i]=d from (List.getElem?_eq_some_iff.mp hi).2]at hst;unfold z0t;walk_at "dl";refine ⟨d,free,_,rfl,hdi,?_⟩;have hcase:r0w (f7 full mark ws s f0) (f0+r0-1) free (d::xs.drop (i+1))=(match twoD d with |some (a,b)=>decide (free≤a)&&decide (a≤b)&&decide (b≤f0+r0-1)&&f7 full mark ws s f0 a b&&r0w (f7 full mark ws s f0) (f0+r0-1) (b+1) (xs.drop (i+1))|none=>false):=rfl;rw[hcase]at hst;cases e:twoD d with
     |none=>
      rw[e]at hst;rw[hst]at hq;unfold m0f;rw[e];exact hq
     |some p=>
      obtain ⟨a,b⟩:=p;rw[e]at hst;dsimp only at hst;unfold m0f;rw[e];dsimp only;cases e1:(decide (free≤a)&&decide (a≤b)&&decide (b≤f0+r0-1))with
      |false=>
       rw[e1,Bool.false_and,Bool.false_and]at hst;rw[hst]at hq;exact hq
      |true=>
       rw[e1,Bool.true_and]at hst;simp only[Bool.and_eq_true,decide_eq_true_eq]at e1;have next:u0c cs [a5 cs full mark ws price,.int s,.int f0,.int a,.int b] δ' (fun v δ2=>if (match v with | .bl z=>!z |_=>true)=true then q (.bl false) δ2 else rest [.val (a5 cs full mark ws price),.val (.int s),.val (.int f0),.val (.int r0),.val ll,.val (.int (b+1)),.val d] δ2) x:=by
        refine ⟨_,_,_,_,_,_,_,_,rfl,hl,⟨f1,f2⟩,by omega,e1.1.2,by omega,?_⟩;cases e2:f7 full mark ws s f0 a b with
        |false=>
         rw[e2,Bool.false_and]at hst;rw[hst]at hq;exact hq
        |true=>
         rw[e2,Bool.true_and]at hst;exact hrest _ _ ⟨_,_,_,rfl,rfl,by omega,hst⟩
       rcases m0e e with rfl |rfl
       all_goals
        walk_at "dl";exact next
    ·rintro ρ δ' ⟨ll,free,c6,rfl,rfl,hfr,hst⟩;rw[List.drop_length]at hst;rw[hst]at hq;exact hq
noncomputable abbrev k8(P:Program)(w:World)(K:PySem.W.Frag)(mg:Str→Option Value)(base:Heap)(cs:Cs):Prop:=h0b P w K mg base "is_stretches" 6 j5 (q0h cs)
theorem v0m{f:Addr}{fd:FuncData}(Df:DefAt K mg "is_stretches" y8 j5 f fd)(T:Txt K mg cs)(G_check_run_h:z0f P w K mg base cs):k8 P w K mg base cs:=by
 have nd:=sc_is_stretches.nd;refine z1s Df sc_is_stretches (fun ds δ q x h=>?_) (fun cdv A outer s H E Y hd hr hh hF=>⟨_,(h0a (j4 (q0n G_check_run_h (hr.mono (by decide)) hh hF rfl w0n (z0 (e2_v 0) (z0 (e2_v 1) (z0 (e2_v 2) (z0 (e2_v 3) y0))))))),fun ds δ q x h=>?_⟩)
 ·unfold q0h at h;obtain ⟨full,mark,ws,price,d,f',r,l,rfl,hd,hw,hx⟩:=h;rfl
 ·unfold q0h at h;obtain ⟨full,mark,ws,price,d,f',r,l,rfl,hd,hw,hx⟩:=h;rw[show x4 ["part","stand","first","rounds","thing","free","entry"] _=[.val _,.val _,.val _,.val _,.val _,.no,.no]from rfl];walk_at "dl";exact ⟨_,_,_,_,_,_,_,rfl,hd,hw,hx⟩
noncomputable abbrev q0d:List Str:=["part","stand","first","a","b"]
theorem sc_needs:FnScope ["part","stand","first","a","b"] q0d (defScope m0w):=⟨rfl,rfl,rfl,by decide +kernel,rfl,by decide +kernel,by decide +kernel⟩
noncomputable abbrev s0j(P:Program)(w:World)(K:PySem.W.Frag)(mg:Str→Option Value)(base:Heap)(cs:Cs):Prop:=Fun2 P w K mg base "needs" 6 q0d (m0d cs)
theorem d0o{f:Addr}{fd:FuncData}(Df:DefAt K mg "needs" m0w q0d f fd)(T:Txt K mg cs)(G_check_stand:z9 P w K mg base cs)(G_check_first:b8 P w K mg base cs)(G_is_whole:u7 P w K mg base cs)(G_needs_change:r8 P w K mg base cs):s0j P w K mg base cs:=by
 have nd:=sc_needs.nd;refine def2 Df sc_needs (fun ds δ q x h=>?_) (fun cdv A outer s H E Y hr=>⟨_,(v0 (j4 (d0 G_check_stand (hr.mono (by decide)) j0 (z0 (e2_v 0) (z0 (e2_v 1) y0))))
  (v0 (j4 (d0 G_check_first (hr.mono (by decide)) j0 (z0 (e2_v 2) y0)))
  (v0 (z5 (PW2.pt (k0a (b4 (p5 (d0 G_is_whole.calm (hr.mono (by decide)) j0 (z0 (e2_v 4) (z0 (e2_v 2) (z0 (u2 b9 w0e (u2 x3 i3 (e2_v 2) (a0l T.g_MOST_ROUNDS)) o0) y0)))))) (p0c (b4 (p5 (d0 G_is_whole.calm (hr.mono (by decide)) j0 (z0 (e2_v 3) (z0 (e2_v 2) (z0 (e2_v 4) y0))))))))) (i0 (w0p rfl j0 T.k_NoRounds T.x_NoRounds T.c_NoRounds)) o4)
  (i0 (a3 (d0 G_needs_change (hr.mono (by decide)) j0 (z0 (e2_v 0) (z0 (e2_v 1) (z0 (e2_v 2) (z0 (e2_v 3) (z0 (e2_v 4) y0))))))))))),fun ds δ q x h=>?_⟩)
 ·unfold m0d at h;obtain ⟨full,mark,ws,price,d,f',a,b,rfl,hl,hd,hf,ha,hb,h1,h2,hq⟩:=h;rfl
 ·unfold m0d at h;obtain ⟨full,mark,ws,price,d,f',a,b,rfl,hl,hd,hf,ha,hb,h1,h2,hq⟩:=h;rw[show x4 ["part","stand","first","a","b"] _=[.val _,.val _,.val _,.val _,.val _]from rfl];walk_at "dn";refine ⟨_,_,_,_,_,rfl,hd,fun e1=>?_,fun e1=>h1 e1⟩;obtain ⟨s,rfl,s1,s2⟩:=o7 e1;refine ⟨_,rfl,hf,fun e2=>?_,fun e2=>h2 e1 e2⟩;obtain ⟨f0,rfl,f1,f2⟩:=o7 e2;obtain ⟨h3,h4⟩:=hq s f0 rfl rfl s1 s2 f1 f2;walk_at "dn";rw[show f0+24-1=f0+23 by omega];refine ⟨hb,?_⟩;cases e3:u3 b f0 (f0+23)with
  |false=>exact h3 e3
  |true=>
   obtain ⟨b0,rfl,b1,b2⟩:=o7 e3;obtain ⟨h5,h6⟩:=h4 b0 rfl b1 b2;walk_at "dn";refine ⟨ha,?_⟩;cases e4:u3 a f0 b0 with
   |false=>exact h5 e4
   |true=>
    obtain ⟨a0,rfl,a1,a2⟩:=o7 e4;walk_at "dn";exact ⟨_,_,_,_,_,_,_,_,rfl,hl,⟨f1,f2⟩,a1,a2,by omega,h6 a0 rfl a1 a2⟩
noncomputable def q0c:Sp2:=fun ds δ q _=>∃full mark ws price,∃s a b:Int,ds=[rowL full mark ws price,.int s,.int a,.int b]∧0<ws.length∧(-100≤a∧a≤200)∧(-200≤b∧b≤200)∧q (.bl (y0e ws mark (b-a+1).toNat s a)) δ
noncomputable def q0b:Sp2:=fun ds δ q _=>∃full mark ws price,∃s f a b:Int,ds=[rowL full mark ws price,.int s,.int f,.int a,.int b]∧0<ws.length∧(0≤f∧f≤47)∧f≤a∧a≤b∧b≤100∧q (.bl (f7 full mark ws s f a b)) δ
noncomputable abbrev z0d:List Str:=["_law_row_here","_law_stand","_law_begin","_law_end"]
theorem sc_law_falls:FnScope ["_law_row_here","_law_stand","_law_begin","_law_end","_law_number"] z0d (defScope x0h):=⟨rfl,rfl,rfl,by decide +kernel,rfl,by decide +kernel,by decide +kernel⟩
noncomputable abbrev w0x(P:Program)(w:World)(K:PySem.W.Frag)(mg:Str→Option Value)(base:Heap)(cs:Cs):Prop:=Fun2 P w K mg base "_law_falls" 3 z0d q0c
theorem n0x{f:Addr}{fd:FuncData}(Df:DefAt K mg "_law_falls" x0h z0d f fd)(T:Txt K mg cs)(G_law_lost:x0r P w K mg base cs):w0x P w K mg base cs:=by
 have nd:=sc_law_falls.nd;refine def2 Df sc_law_falls (fun ds δ q x h=>?_) (fun cdv A outer s H E Y hr=>⟨_,(v0 (n8 PassesOwn.leaving rfl (y0k T.n_range (z0 (e2_v 2) (z0 (u2 x3 i3 (e2_v 3) o0) y0))) (l3 (i:=4) nd rfl (by first |exact Or.inl rfl |exact Or.inr rfl)) (j7 (i:=4)) (v0 (b3 1 nd (u2 b9 w0e (e2_v 1) (d0 G_law_lost (hr.mono (by decide)) j0 (z0 (e2_v 0) (z0 (e2_v 4) y0)))))
  (i0 (z5 (z6 u0u d_lt (e2_v 1) (n4 0 o0) (l4 _)) (i0 (a3 i5)) o4))))
  (i0 (a3 i5))),fun ds δ q x h=>?_⟩)
 ·unfold q0c at h;obtain ⟨full,mark,ws,price,s,a,b,rfl,hl,⟨a1,a2⟩,⟨b0,b1⟩,hq⟩:=h;rfl
 ·unfold q0c at h;obtain ⟨full,mark,ws,price,s,a,b,rfl,hl,⟨a1,a2⟩,⟨b0,b1⟩,hq⟩:=h;rw[show x4 ["_law_row_here","_law_stand","_law_begin","_law_end","_law_number"] _=[.val _,.val _,.val _,.val _,.no]from rfl];walk_at "dn";refine ⟨⟨by omega,by omega,by omega,by omega⟩,?_⟩;rw[show (b+1-a).toNat=(b-a+1).toNat by omega];generalize hn:(b-a+1).toNat=n at hq;refine w6 (fun i ρ δ'=>∃(z:Int) (c4:Cell),ρ=[.val (rowL full mark ws price),.val (.int z),.val (.int a),.val (.int b),c4]∧δ'=δ∧y0e ws mark n s a=y0e ws mark (n-i) z (a+(i:Int))) ⟨s,_,rfl,rfl,by simp⟩ ?_ ?_
  ·rintro i d ρ δ' rest hi ⟨z,c4,rfl,rfl,hf⟩ hrest;obtain ⟨hi2,rfl⟩:=u0i hi;unfold z0t;walk_at "dl";refine ⟨_,_,_,_,_,rfl,hl,?_⟩;unfold rowL;walk_at "dl";rw[show n-i=(n-(i+1))+1 by omega,z0x]at hf;split
   ·rename_i h1;rw[if_pos h1]at hf;rw[hf]at hq;exact hq
   ·rename_i h1;rw[if_neg h1]at hf;refine hrest _ _ ⟨_,_,rfl,rfl,?_⟩;rw[hf,show a+(i:Int)+1=a+((i+1:Nat):Int)by omega]
  ·rintro ρ δ' ⟨z,c4,rfl,rfl,hf⟩;rw[w0o,Nat.sub_self]at hf;rw[hf]at hq;exact hq
noncomputable abbrev z0c:List Str:=["_law_row_here","_law_stand","_law_first","_law_a","_law_b"]
theorem sc_law_needs:FnScope ["_law_row_here","_law_stand","_law_first","_law_a","_law_b"] z0c (defScope x0g):=⟨rfl,rfl,rfl,by decide +kernel,rfl,by decide +kernel,by decide +kernel⟩
noncomputable abbrev z0b(P:Program)(w:World)(K:PySem.W.Frag)(mg:Str→Option Value)(base:Heap)(cs:Cs):Prop:=Fun2 P w K mg base "_law_needs" 4 z0c q0b
theorem n0w{f:Addr}{fd:FuncData}(Df:DefAt K mg "_law_needs" x0g z0c f fd)(T:Txt K mg cs)(G_law_falls:w0x P w K mg base cs):z0b P w K mg base cs:=by
 have nd:=sc_law_needs.nd;refine def2 Df sc_law_needs (fun ds δ q x h=>?_) (fun cdv A outer s H E Y hr=>⟨_,(v0 (z5 (z6 (y0w hr.units0) u0q (e2_v 3) (e2_v 2) (l4 _)) (i0 (a3 (d0 G_law_falls (hr.mono (by decide)) j0 (z0 (e2_v 0) (z0 (e2_v 1) (z0 (e2_v 2) (z0 (e2_v 4) y0))))))) o4)
  (i0 (a3 (d0 G_law_falls (hr.mono (by decide)) j0 (z0 (e2_v 0) (z0 (n4 0 o0) (z0 (u2 b9 w0e (e2_v 3) o0) (z0 (e2_v 4) y0)))))))),fun ds δ q x h=>?_⟩)
 ·unfold q0b at h;obtain ⟨full,mark,ws,price,s,f',a,b,rfl,hl,⟨f1,f2⟩,h1,h2,h3,hq⟩:=h;rfl
 ·unfold q0b at h;obtain ⟨full,mark,ws,price,s,f',a,b,rfl,hl,⟨f1,f2⟩,h1,h2,h3,hq⟩:=h;rw[show x4 ["_law_row_here","_law_stand","_law_first","_law_a","_law_b"] _=[.val _,.val _,.val _,.val _,.val _]from rfl];walk_at "dl";unfold f7 at hq;split
  ·rename_i h4;rw[if_neg (by omega)]at hq;refine ⟨_,_,_,_,_,_,_,rfl,hl,⟨by omega,by omega⟩,⟨by omega,by omega⟩,hq⟩
  ·rename_i h4;rw[if_pos (by omega)]at hq;unfold rowL;walk_at "dl";refine ⟨_,_,_,_,_,_,_,rfl,hl,⟨by omega,by omega⟩,⟨by omega,by omega⟩,?_⟩;rw[show b-(a-1)+1=b-a+2 by omega];exact hq
noncomputable def o6(full mark:Int)(ws:List Int)(price s f r:Int):D:=.lst [rowL full mark ws price,.int s,.int f,.int r]
structure DrOk(full mark:Int)(ws:List Int)(price s f r:Int):Prop where
 ok:SpecOk full mark ws price
 s1:mark≤s
 s2:s≤full
 f1:0≤f
 f2:f≤47
 r1:0≤r
 r2:r≤24
noncomputable def d4(p:Int×Int):D:=.lst [.int p.1,.int p.2]
noncomputable def z0a(l:List (Int×Int)):D:=.lst (l.map d4)
noncomputable def m0c:Sp2:=fun ds δ q _=>∃p n,ds=[.ref p]∧DkM p (n+15) δ∧∀full mark ws price s f r δ',DrOk full mark ws price s f r→DkM p n δ'→q (o6 full mark ws price s f r) δ'
noncomputable def z1m:Sp2:=fun ds δ q _=>∃a b:Bool,ds=[.bl a,.bl b]∧q (.bl (a==b)) δ
noncomputable def g0j:Sp2:=fun ds δ q _=>∃full mark ws price s f r,∃l:List (Int×Int),ds=[o6 full mark ws price s f r,z0a l]∧DrOk full mark ws price s f r∧q (.bl (strZ (f7 full mark ws s f) (f+r-1) f l)) δ
noncomputable def q0a(k:Int)(l:List (Int×Int)):D:=if k%2=0 then .lst (l.map n0z)else .tup (l.map d4)
noncomputable def m0b:Sp2:=fun ds δ q _=>∃(l:List (Int×Int)) (k:Int),ds=[z0a l,.int k]∧l.length≤60∧q (q0a k l) δ
noncomputable def s0i:Sp2:=fun ds δ q _=>∃full mark ws price s f r,ds=[o6 full mark ws price s f r]∧DrOk full mark ws price s f r∧∀l:List (Int×Int),l.length≤24→strZ (f7 full mark ws s f) (f+r-1) f l=true→q (z0a l) δ
theorem n0v:∀(l:List Int) (free:Int),(y0v free l).length=l.length
 | [],_=>rfl
 |c::l,free=>by show (y0v (c+1) l).length+1=l.length+1;rw[n0v l (c+1)]
theorem p0z{full mark:Int}{ws:List Int}{s0 f0 hi:Int}:∀(n:Nat) (t f:Int) (l:List Int) (free bs bf:Int),chgZ full mark ws n t f=some l→bf≤f→free≤f→f0≤free→hi=f+(n:Int)-1→
 (∀m,y0e ws mark ((f-bf).toNat+m) bs bf=y0e ws mark m t f)→(∀b,f≤b→f7 full mark ws s0 f0 free b=y0e ws mark (b-bf+1).toNat bs bf)→strZ (f7 full mark ws s0 f0) hi free (y0v free l)=true
 | 0,t,f,l,free,bs,bf,h,_,_,_,_,_,_=>by cases h;rfl
 |n+1,t,f,l,free,bs,bf,h,h1,h2,h3,h4,hm,hn=>by
  rw[q0g]at h;by_cases c1:t-r9 ws f<mark
  ·rw[if_pos c1]at h;by_cases c2:full-r9 ws f<mark
   ·rw[if_pos c2]at h;cases h
   ·rw[if_neg c2,Option.map_eq_some_iff]at h;obtain ⟨l',e,rfl⟩:=h;show strZ _ hi free ((free,f)::y0v (f+1) l')=true;rw[k0r];refine ⟨Int.le_refl _,h2,by omega,?_,?_⟩
    ·rw[hn f (Int.le_refl _),show (f-bf+1).toNat=(f-bf).toNat+1 by omega,hm 1,z0x,if_pos c1]
    ·refine p0z n (full-r9 ws f) (f+1) l' (f+1) full f e (by omega) (Int.le_refl _) (by omega) (by omega) (fun m=>?_) fun b hb=>?_
     ·rw[show (f+1-f).toNat+m=m+1 by omega,z0x,if_neg c2]
     ·unfold f7;rw[if_pos (by omega),show b-(f+1)+2=b-f+1 by omega,show f+1-1=f by omega]
  ·rw[if_neg c1]at h;refine p0z n (t-r9 ws f) (f+1) l free bs bf h (by omega) (by omega) h3 (by omega) (fun m=>?_) fun b hb=>hn b (by omega)
   rw[show (f+1-bf).toNat+m=(f-bf).toNat+(m+1)by omega,hm (m+1),z0x,if_neg c1]
theorem g0i{full mark:Int}{ws:List Int}{s f:Int}{n:Nat}{l:List Int}(h:chgZ full mark ws n s f=some l):strZ (f7 full mark ws s f) (f+(n:Int)-1) f (y0v f l)=true:=by
 refine p0z n s f l f s f h (Int.le_refl _) (Int.le_refl _) (Int.le_refl _) rfl (fun m=>?_) fun b hb=>?_
 ·rw[Int.sub_self];show y0e ws mark (0+m) s f=_;rw[Nat.zero_add]
 ·unfold f7;rw[if_neg (by omega)]
theorem g0h{need:Int→Int→Bool}{hi:Int}:∀{l:List (Int×Int)} {free:Int},strZ need hi free l=true→∀p∈l,free≤p.1∧p.1≤p.2∧p.2≤hi∧need p.1 p.2=true
 | [],_,_,p,hp=>nomatch hp
 |(a,b)::r,free,h,p,hp=>by
  rw[k0r]at h;obtain ⟨h1,h2,h3,h4,h5⟩:=h;rcases List.mem_cons.mp hp with rfl |hp
  ·exact ⟨h1,h2,h3,h4⟩
  ·have:=g0h h5 p hp;exact ⟨by omega,this.2.1,this.2.2⟩
noncomputable abbrev y0z:List Str:=["_law_deck_here"]
theorem sc_law_drawn:FnScope ["_law_deck_here","_law_row_here","_law_stand","_law_rounds","_law_first"] y0z (defScope x0f):=⟨rfl,rfl,rfl,by decide +kernel,rfl,by decide +kernel,by decide +kernel⟩
noncomputable abbrev w0w(P:Program)(w:World)(K:PySem.W.Frag)(mg:Str→Option Value)(base:Heap)(cs:Cs):Prop:=Fun2 P w K mg base "_law_drawn" 4 y0z m0c
theorem n0u{f:Addr}{fd:FuncData}(Df:DefAt K mg "_law_drawn" x0f y0z f fd)(T:Txt K mg cs)(G_law_part:v0r P w K mg base cs)(G_law_next:b7 P w K mg base cs):w0w P w K mg base cs:=by
 have nd:=sc_law_drawn.nd;refine def2 Df sc_law_drawn (fun ds δ q x h=>?_) (fun cdv A outer s H E Y hr=>⟨_,(v0 (b3 1 nd (d0 G_law_part (hr.mono (by decide)) j0 (z0 (e2_v 0) (z0 o0 (z0 o0 y0)))))
  (v0 (b3 2 nd (u2 x3 i3 (n4 1 o0) (u2 i4 d6 (d0 G_law_next (hr.mono (by decide)) j0 (z0 (e2_v 0) y0)) (u2 x3 i3 (u2 b9 w0e (n4 1 o0) (n4 1 o0)) o0))))
  (v0 (b3 3 nd (u2 i4 d6 (d0 G_law_next (hr.mono (by decide)) j0 (z0 (e2_v 0) y0)) o0))
  (v0 (z5 (z6 (y0w hr.units0) u0q (u2 i4 d6 (d0 G_law_next (hr.mono (by decide)) j0 (z0 (e2_v 0) y0)) o0) o0 (l4 _)) (i0 (b3 3 nd o0)) o4)
  (v0 (b3 4 nd (u2 i4 d6 (d0 G_law_next (hr.mono (by decide)) j0 (z0 (e2_v 0) y0)) o0))
  (v0 (z5 (z6 (y0w hr.units0) u0q (u2 i4 d6 (d0 G_law_next (hr.mono (by decide)) j0 (z0 (e2_v 0) y0)) o0) o0 (l4 _)) (i0 (b3 4 nd (u2 i4 d6 (e2_v 4) o0))) o4)
  (i0 (a3 (j3 (z0 (e2_v 1) (z0 (e2_v 2) (z0 (e2_v 4) (z0 (e2_v 3) y0))))))))))))),fun ds δ q x h=>?_⟩)
 ·unfold m0c at h;obtain ⟨p,n,rfl,hD,hq⟩:=h;rfl
 ·unfold m0c at h;obtain ⟨p,n,rfl,hD,hq⟩:=h;rw[show x4 ["_law_deck_here","_law_row_here","_law_stand","_law_rounds","_law_first"] _=[.val _,.no,.no,.no,.no]from rfl];walk_at "dl";refine ⟨p,n+5,9,6,rfl,by decide,by decide,by decide,by decide,hD,fun full mark ws price δ1 ok _ _ hD=>?_⟩;unfold rowL;walk_at "dl";refine ⟨p,_,rfl,hD,fun a0 δ2 a1 a2 hD=>?_⟩;have hfm:=ok.m2;have b1:=Int.emod_nonneg a0 (b:=full-mark+1) (by omega);have b2:=Int.emod_lt_of_pos a0 (b:=full-mark+1) (by omega);walk_at "dl";refine ⟨by omega,?_⟩;refine ⟨p,_,rfl,hD,fun c0 δ3 c1 c2 hD=>?_⟩;have d1:=Int.emod_nonneg c0 (b:=25) (by decide);have d2:=Int.emod_lt_of_pos c0 (b:=25) (by decide);walk_at "dl";refine ⟨by decide,?_⟩;refine ⟨p,_,rfl,hD,fun e0 δ4 e1 e2 hD=>?_⟩;walk_at "dl";refine ⟨by decide,?_⟩;have last:∀r:Int,0≤r→r≤24→∀v:Int,0≤v→v≤47→∀ δ5,DkM p n δ5→q (D.lst [D.lst [D.int full,D.int mark,D.lst (List.map D.int ws),D.int price],D.int (mark+a0%(full-mark+1)),D.int v,D.int r]) δ5:=fun r r1 r2 v v1 v2 δ5 hD=>
   hq full mark ws price _ _ _ _ ⟨ok,by omega,by omega,v1,v2,r1,r2⟩ hD
  have more:∀r:Int,0≤r→r≤24→∀v:Int,∀ δ5,DkM p n δ5→q (D.lst [D.lst [D.int full,D.int mark,D.lst (List.map D.int ws),D.int price],D.int (mark+a0%(full-mark+1)),D.int (v%48),D.int r]) δ5∧q (D.lst [D.lst [D.int full,D.int mark,D.lst (List.map D.int ws),D.int price],D.int (mark+a0%(full-mark+1)),D.int (v%48%2),D.int r]) δ5:=fun r r1 r2 v δ5 hD=>by
   have g1:=Int.emod_nonneg v (b:=48) (by decide);have g2:=Int.emod_lt_of_pos v (b:=48) (by decide);exact ⟨last r r1 r2 _ g1 (by omega) δ5 hD,last r r1 r2 _ (by omega) (by omega) δ5 hD⟩
  split
  ·refine ⟨p,n+1,rfl,hD,fun g0 δ5 g1 g2 hD=>?_⟩;refine ⟨by decide,p,n,rfl,hD,fun k0 δ6 k1 k2 hD=>?_⟩;walk_at "dl";refine ⟨by decide,?_⟩;split
   ·exact ⟨by decide,(more _ (by decide) (by decide) _ _ hD).2⟩
   ·exact (more _ (by decide) (by decide) _ _ hD).1
  ·refine ⟨p,n+1,rfl,hD,fun g0 δ5 g1 g2 hD=>?_⟩;refine ⟨by decide,p,n,rfl,hD,fun k0 δ6 k1 k2 hD=>?_⟩;walk_at "dl";refine ⟨by decide,?_⟩;split
   ·exact ⟨by decide,(more _ d1 (by omega) _ _ hD).2⟩
   ·exact (more _ d1 (by omega) _ _ hD).1
noncomputable abbrev u0b:List Str:=["_law_found","_law_due"]
theorem sc_law_is:FnScope ["_law_found","_law_due"] u0b (defScope q0l):=⟨rfl,rfl,rfl,by decide +kernel,rfl,by decide +kernel,by decide +kernel⟩
noncomputable abbrev u0a(P:Program)(w:World)(K:PySem.W.Frag)(mg:Str→Option Value)(base:Heap)(cs:Cs):Prop:=Fun2 P w K mg base "_law_is" 2 u0b z1m
theorem g0g{f:Addr}{fd:FuncData}(Df:DefAt K mg "_law_is" q0l u0b f fd)(T:Txt K mg cs):u0a P w K mg base cs:=by
 have nd:=sc_law_is.nd;refine def2 Df sc_law_is (fun ds δ q x h=>?_) (fun cdv A outer s H E Y hr=>⟨_,(i0 (a3 (p0a (e2_b p4 (p6 (K:=K)) T.n_isinstance m3 (z0 (e2_v 0) (z0 (k0b "bool" T.n_bool i0m) y0))) (p0b (y0m (y0w hr.units0) u0q (e2_v 0) (e2_v 1) (l4 _)))))),fun ds δ q x h=>?_⟩)
 ·unfold z1m at h;obtain ⟨a,b,rfl,hq⟩:=h;rfl
 ·unfold z1m at h;obtain ⟨a,b,rfl,hq⟩:=h;rw[show x4 ["_law_found","_law_due"] _=[.val _,.val _]from rfl];have ty:s0c K (.bl a) (.ty "bool")=some true:=by rw[h0t K (d:=.bl a) trivial (fun C fs=>⟨(by intro z;cases z),(by intro z;cases z)⟩)]
  have tt:TyD K (.bl a):=trivial;walk_at "dl";simp only[ty,tt,true_and,if_true];cases a<;>cases b<;>exact hq
noncomputable abbrev w0l:List Str:=["_law_drawn_here","_law_told"]
theorem sc_law_are:FnScope ["_law_drawn_here","_law_told","_law_row_here","_law_stand","_law_first","_law_rounds","_law_low","_law_a","_law_b"] w0l (defScope t0e):=⟨rfl,rfl,rfl,by decide +kernel,rfl,by decide +kernel,by decide +kernel⟩
noncomputable abbrev s0h(P:Program)(w:World)(K:PySem.W.Frag)(mg:Str→Option Value)(base:Heap)(cs:Cs):Prop:=Fun2 P w K mg base "_law_are" 5 w0l g0j
theorem j0q{f:Addr}{fd:FuncData}(Df:DefAt K mg "_law_are" t0e w0l f fd)(T:Txt K mg cs)(G_law_needs:z0b P w K mg base cs):s0h P w K mg base cs:=by
 have nd:=sc_law_are.nd;refine def2 Df sc_law_are (fun ds δ q x h=>?_) (fun cdv A outer s H E Y hr=>⟨_,(v0 (t0h (e2_v 0) (v0g rfl (w4 (l3 (i:=2) nd rfl (by first |exact Or.inl rfl |exact Or.inr rfl)) (w4 (l3 (i:=3) nd rfl (by first |exact Or.inl rfl |exact Or.inr rfl)) (w4 (l3 (i:=4) nd rfl (by first |exact Or.inl rfl |exact Or.inr rfl)) (w4 (l3 (i:=5) nd rfl (by first |exact Or.inl rfl |exact Or.inr rfl)) m9))))) (v0f (is:=[2,3,4,5]) rfl))
  (v0 (b3 6 nd (e2_v 4))
  (v0 (n8 PassesOwn.leaving rfl (z0y (e2_v 1)) (v0g rfl (w4 (l3 (i:=7) nd rfl (by first |exact Or.inl rfl |exact Or.inr rfl)) (w4 (l3 (i:=8) nd rfl (by first |exact Or.inl rfl |exact Or.inr rfl)) m9))) (v0f (is:=[7,8]) rfl) (v0 (z5 (PW2.pt (k0a (z6 u0u d_lt (e2_v 7) (e2_v 6) (l4 _)) (k0a (z6 u0u d_lt (e2_v 8) (e2_v 7) (l4 _)) (p0c (z6 b0v d_gt (e2_v 8) (u2 b9 w0e (u2 x3 i3 (e2_v 4) (e2_v 5)) o0) (l4 _)))))) (i0 (a3 i5)) o4)
  (v0 (z5 (b4 (p5 (d0 G_law_needs (hr.mono (by decide)) j0 (z0 (e2_v 2) (z0 (e2_v 3) (z0 (e2_v 4) (z0 (e2_v 7) (z0 (e2_v 8) y0)))))))) (i0 (a3 i5)) o4)
  (i0 (b3 6 nd (u2 x3 i3 (e2_v 8) o0))))))
  (i0 (a3 i5))))),fun ds δ q x h=>?_⟩)
 ·unfold g0j at h;obtain ⟨full,mark,ws,price,s,f',r,l,rfl,h,hq⟩:=h;rfl
 ·unfold g0j at h;obtain ⟨full,mark,ws,price,s,f',r,l,rfl,h,hq⟩:=h;rw[show x4 ["_law_drawn_here","_law_told","_law_row_here","_law_stand","_law_first","_law_rounds","_law_low","_law_a","_law_b"] _=[.val _,.val _,.no,.no,.no,.no,.no,.no,.no]from rfl];have hf1:=h.f1;have hf2:=h.f2;have hr2:=h.r2;unfold o6 z0a;walk_at "dn";refine w6 (fun i ρ δ'=>∃(low:Int) (c7 c8:Cell),ρ=[.val (.lst [rowL full mark ws price,.int s,.int f',.int r]),.val (.lst (l.map d4)),.val (rowL full mark ws price),.val (.int s),.val (.int f'),.val (.int r),.val (.int low),c7,c8]∧δ'=δ∧f'≤low∧strZ (f7 full mark ws s f') (f'+r-1) f' l=strZ (f7 full mark ws s f') (f'+r-1) low (l.drop i)) ⟨_,_,_,rfl,rfl,Int.le_refl _,by rw[List.drop_zero]⟩ ?_ ?_
  ·rintro i d ρ δ' rest hi ⟨low,c7,c8,rfl,rfl,hfr,hst⟩ hrest;rw[List.getElem?_map,Option.map_eq_some_iff]at hi;obtain ⟨⟨a,b⟩,hp,rfl⟩:=hi;have lt:=(List.getElem?_eq_some_iff.mp hp).1;rw[List.drop_eq_getElem_cons lt,show l[i]=(a,b)from (List.getElem?_eq_some_iff.mp hp).2]at hst;have hcase:strZ (f7 full mark ws s f') (f'+r-1) low ((a,b)::l.drop (i+1))=(decide (low≤a)&&decide (a≤b)&&decide (b≤f'+r-1)&&f7 full mark ws s f' a b&&strZ (f7 full mark ws s f') (f'+r-1) (b+1) (l.drop (i+1))):=rfl;rw[hcase]at hst;have no:(decide (low≤a)&&decide (a≤b)&&decide (b≤f'+r-1))=false→q (.bl false) δ':=fun z=>by
    rw[z,Bool.false_and,Bool.false_and]at hst;rw[hst]at hq;exact hq
   unfold z0t d4;walk_at "dl";by_cases c1:a<low
   ·simp only[c1,if_true];exact no (by simp;omega)
   ·simp only[c1,if_false];by_cases c2:b<a
    ·simp only[c2,if_true];exact no (by simp;omega)
    ·simp only[c2,if_false];by_cases c3:b>f'+r-1
     ·simp only[c3,if_true];exact no (by simp;omega)
     ·simp only[c3,if_false];refine ⟨_,_,_,_,_,_,_,_,rfl,h.ok.l1,⟨hf1,hf2⟩,by omega,by omega,by omega,?_⟩;rw[decide_eq_true (show low≤a by omega),decide_eq_true (show a≤b by omega),decide_eq_true (show b≤f'+r-1 by omega)]at hst;cases e:f7 full mark ws s f' a b with
      |false=>
       rw[e]at hst;have hst:strZ (f7 full mark ws s f') (f'+r-1) f' l=false:=hst;rw[hst]at hq;exact hq
      |true=>
       rw[e]at hst;exact hrest _ _ ⟨_,_,_,rfl,rfl,by omega,hst⟩
  ·rintro ρ δ' ⟨low,c7,c8,rfl,rfl,hfr,hst⟩;rw[List.length_map,List.drop_length]at hst;rw[hst]at hq;exact hq
noncomputable abbrev x9:List Str:=["_law_drawn_here"]
theorem sc_law_between:FnScope ["_law_drawn_here","_law_row_here","_law_stand","_law_first","_law_rounds","_law_found","_law_begin","_law_changes_here","_law_number"] x9 (defScope z0o):=⟨rfl,rfl,rfl,by decide +kernel,rfl,by decide +kernel,by decide +kernel⟩
noncomputable abbrev y0y(P:Program)(w:World)(K:PySem.W.Frag)(mg:Str→Option Value)(base:Heap)(cs:Cs):Prop:=Fun2 P w K mg base "_law_between" 4 x9 s0i
theorem r0v{f:Addr}{fd:FuncData}(Df:DefAt K mg "_law_between" z0o x9 f fd)(T:Txt K mg cs)(G_law_changes:z0e P w K mg base cs):y0y P w K mg base cs:=by
 have nd:=sc_law_between.nd;refine def2 Df sc_law_between (fun ds δ q x h=>?_) (fun cdv A outer s H E Y hr=>⟨_,(v0 (t0h (e2_v 0) (v0g rfl (w4 (l3 (i:=1) nd rfl (by first |exact Or.inl rfl |exact Or.inr rfl)) (w4 (l3 (i:=2) nd rfl (by first |exact Or.inl rfl |exact Or.inr rfl)) (w4 (l3 (i:=3) nd rfl (by first |exact Or.inl rfl |exact Or.inr rfl)) (w4 (l3 (i:=4) nd rfl (by first |exact Or.inl rfl |exact Or.inr rfl)) m9))))) (v0f (is:=[1,2,3,4]) rfl))
  (v0 (t0o 5 nd y0)
  (v0 (b3 6 nd (e2_v 3))
  (v0 (b3 7 nd (d0 G_law_changes (hr.mono (by decide)) j0 (z0 (e2_v 1) (z0 (e2_v 2) (z0 (e2_v 3) (z0 (e2_v 4) y0))))))
  (v0 (z5 (z6 op_isN d_isN (e2_v 7) v9 (l4 _)) (i0 (a3 (j3 y0))) o4)
  (v0 (n8 PassesOwn.leaving rfl (z0y (e2_v 7)) (l3 (i:=8) nd rfl (by first |exact Or.inl rfl |exact Or.inr rfl)) (j7 (i:=8)) (v0 (j4 (u0r 5 PySem.F.slot_list_append PySem.F.type_list_append l5 i6 (z0 (j3 (z0 (e2_v 6) (z0 (e2_v 8) y0))) y0)))
  (i0 (b3 6 nd (u2 x3 i3 (e2_v 8) o0)))))
  (i0 (a3 (e2_v 5))))))))),fun ds δ q x h=>?_⟩)
 ·unfold s0i at h;obtain ⟨full,mark,ws,price,s,f',r,rfl,h,hq⟩:=h;rfl
 ·unfold s0i at h;obtain ⟨full,mark,ws,price,s,f',r,rfl,h,hq⟩:=h;rw[show x4 ["_law_drawn_here","_law_row_here","_law_stand","_law_first","_law_rounds","_law_found","_law_begin","_law_changes_here","_law_number"] _=[.val _,.no,.no,.no,.no,.no,.no,.no,.no]from rfl];have hf1:=h.f1;have hf2:=h.f2;have hr1:=h.r1;have hr2:=h.r2;unfold o6;walk_at "dn";refine ⟨_,_,_,_,_,_,_,rfl,h.ok.l1,⟨hf1,by omega⟩,⟨hr1,hr2⟩,?_⟩;cases ez:chgZ full mark ws r.toNat s f' with
  |none=>
   unfold chgD;walk_at "dn";exact hq [] (by simp) rfl
  |some l=>
   unfold chgD;walk_at "dn";have hst:strZ (f7 full mark ws s f') (f'+r-1) f' (y0v f' l)=true:=by have:=g0i ez;rw[show ((r.toNat:Nat):Int)=r by omega]at this;exact this
   have hll:=m0g ez;have hpl:=n0v l f';have hq:=hq (y0v f' l) (by omega) hst;refine w6 (fun i ρ δ'=>∃(free:Int) (acc:List (Int×Int)) (c8:Cell),ρ=[.val (.lst [rowL full mark ws price,.int s,.int f',.int r]),.val (rowL full mark ws price),.val (.int s),.val (.int f'),.val (.int r),.own (acc.map d4),.val (.int free),.val (.lst (l.map D.int)),c8]∧δ'=δ∧acc.length=i∧y0v f' l=acc++y0v free (l.drop i)) ⟨f',[],_,rfl,rfl,rfl,by rw[List.drop_zero];rfl⟩ ?_ ?_
   ·rintro i d ρ δ' rest hi ⟨free,acc,c8,rfl,rfl,ha,hp⟩ hrest;rw[List.getElem?_map,Option.map_eq_some_iff]at hi;obtain ⟨c,hc,rfl⟩:=hi;have lt:=(List.getElem?_eq_some_iff.mp hc).1;rw[List.drop_eq_getElem_cons lt,show l[i]=c from (List.getElem?_eq_some_iff.mp hc).2]at hp;unfold z0t;walk_at "dl";refine ⟨rfl,by rw[List.length_map];omega,hrest _ _ ⟨c+1,acc++[(free,c)],_,by rw[List.map_append];rfl,rfl,by rw[List.length_append,ha];rfl,?_⟩⟩;rw[hp,List.append_assoc];rfl
   ·rintro ρ δ' ⟨free,acc,c8,rfl,rfl,ha,hp⟩;rw[List.length_map,List.drop_length]at hp;walk_at "dl";rw[hp,show y0v free []=[]from rfl,List.append_nil]at hq;exact hq
noncomputable abbrev w0k:List Str:=["_law_told","_law_sort"]
theorem sc_law_row:FnScope ["_law_told","_law_sort"] w0k (defScope t0d):=⟨rfl,rfl,rfl,by decide +kernel,rfl,by decide +kernel,by decide +kernel⟩
noncomputable abbrev s0g(P:Program)(w:World)(K:PySem.W.Frag)(mg:Str→Option Value)(base:Heap)(cs:Cs):Prop:=Fun2 P w K mg base "_law_row" 2 w0k m0b
theorem j0p{f:Addr}{fd:FuncData}(Df:DefAt K mg "_law_row" t0d w0k f fd)(T:Txt K mg cs):s0g P w K mg base cs:=by
 have nd:=sc_law_row.nd;refine def2 Df sc_law_row (fun ds δ q x h=>?_) (fun cdv A outer s H E Y hr=>⟨_,(v0 (z5 (z6 (y0w hr.units0) u0q (u2 i4 d6 (e2_v 1) o0) o0 (l4 _)) (i0 (a3 (q0s rfl (CompOkM.of ["_law_one"] [] rfl) (z0y (e2_v 0)) (fun nd _ _ _ _ _=>(l3 (i:=0) nd rfl (by first |exact Or.inl rfl |exact Or.inr rfl))) q0u (fun _ _ _ _ _ _=>n0c) (fun _ _ _ _ _ _=>(t0p i8 q0y T.n_tuple w0t (z0 (e2_v 0) y0)))))) o4)
  (i0 (a3 (t0p i8 q0y T.n_tuple w0t (z0 (q0s rfl (CompOkM.of ["_law_one"] [] rfl) (z0y (e2_v 0)) (fun nd _ _ _ _ _=>(l3 (i:=0) nd rfl (by first |exact Or.inl rfl |exact Or.inr rfl))) q0u (fun _ _ _ _ _ _=>n0c) (fun _ _ _ _ _ _=>(t0p y0r i0f T.n_list t0s (z0 (e2_v 0) y0)))) y0))))),fun ds δ q x h=>?_⟩)
 ·unfold m0b at h;obtain ⟨l,k,rfl,hS,hq⟩:=h;rfl
 ·unfold m0b at h;obtain ⟨l,k,rfl,hS,hq⟩:=h;rw[show x4 ["_law_told","_law_sort"] _=[.val _,.val _]from rfl];unfold z0a;walk_at "dn";refine ⟨by decide,?_⟩;unfold q0a at hq;split
  ·rename_i e;rw[if_pos e]at hq;refine o0m (fun d=>match d with | .lst ys=>.tup ys |d=>d) (by rw[List.length_map];omega) (fun z hz Q hQ=>?_) ?_
   ·obtain ⟨s,hs,rfl⟩:=List.mem_map.mp hz;unfold d4 at hQ ⊢;simp only[capt,o0t,List.map_cons,List.map_nil];walk_at "dn";exact hQ
   ·rw[List.map_map];exact hq
  ·rename_i e;rw[if_neg e]at hq;refine o0m (fun d=>d) (by rw[List.length_map];omega) (fun z hz Q hQ=>?_) ?_
   ·obtain ⟨s,hs,rfl⟩:=List.mem_map.mp hz;unfold d4 at hQ ⊢;simp only[capt,o0t,List.map_cons,List.map_nil];walk_at "dn";exact hQ
   ·rw[List.map_id'];exact hq
noncomputable def spNR(cs:Cs):Sp2:=fun ds δ q _=>∃full mark ws price s f r,ds=[a5 cs full mark ws price,o6 full mark ws price s f r]∧DrOk full mark ws price s f r∧q (.bl true) δ
noncomputable def BadN(f a b:D):Prop:=u4 f=true∧u4 a=true∧u4 b=true∧(u3 f 0 47=false∨∃f0:Int,f=.int f0∧0≤f0∧f0≤47∧(u3 b f0 (f0+23)=false∨∃b0:Int,b=.int b0∧f0≤b0∧b0≤f0+23∧u3 a f0 b0=false))
noncomputable def spRR(cs:Cs):Sp2:=fun ds δ q _=>∃full mark ws price,∃s:Int,∃f a b,ds=[a5 cs full mark ws price,.int s,f,a,b]∧0<ws.length∧mark≤s∧s≤full∧BadN f a b∧q (.bl true) δ
noncomputable def spSR(cs:Cs):Sp2:=fun ds δ q _=>∃full mark ws price d s f r,ds=[a5 cs full mark ws price,d,o6 full mark ws price s f r]∧0<ws.length∧u4 d=true∧u3 d mark full=false∧q (.bl true) δ
noncomputable def spPR(cs:Cs):Sp2:=fun ds δ q _=>∃full mark ws price,∃s:Int,∃f r,ds=[a5 cs full mark ws price,.int s,f,r]∧0<ws.length∧mark≤s∧s≤full∧u4 f=true∧u4 r=true∧(u3 f 0 47=false∨u3 r 0 24=false)∧q (.bl true) δ
theorem z0w(T:Txt K mg cs){C:Addr}{fs:List (Str×D)}(h:C∈cs.ds):s0c K (.exc C fs) (.ref C)=some true:=((T.err C h).own (T.err C h) (T.ne C h)).trans (congrArg some (decide_eq_true rfl))
theorem mro_own{K:PySem.W.Frag}{W C D:Addr}(c:ErrC K W C)(hw:D≠W):PySem.W.mroIn K C (.ref D)=some (decide (D=C)):=by
 rw[c.mroIn];by_cases h:D=C
 ·subst h;simp[List.contains_cons]
 ·have e:(Value.ref C:: .ref W::PySem.W.veMro).contains (.ref D)=false:=by simp[List.contains_cons,h,hw]
  rw[e,decide_eq_false h]
theorem mro_W{K:PySem.W.Frag}{W C:Addr}(c:ErrC K W C):PySem.W.mroIn K C (.ref W)=some true:=by
 rw[c.mroIn];simp[List.contains_cons]
theorem nd_ne{l:List Addr}(h:l.Nodup)(i j:Nat){a b:Addr}(hi:l[i]?=some a)(hj:l[j]?=some b)(hij:i≠j):a≠b:=by
 intro e;subst e;obtain ⟨h1,e1⟩:=List.getElem?_eq_some_iff.mp hi;obtain ⟨h2,e2⟩:=List.getElem?_eq_some_iff.mp hj;have hp:=List.pairwise_iff_getElem.mp h;rcases Nat.lt_or_gt_of_ne hij with z |z
 ·exact hp i j h1 h2 z (e1.trans e2.symm)
 ·exact hp j i h2 h1 z (e2.trans e1.symm)
theorem y7{cs:Cs}:cs.NoStands∈cs.ds:=List.mem_of_getElem? (show cs.ds[2]?=some cs.NoStands from rfl)
theorem m4{cs:Cs}:cs.NoRounds∈cs.ds:=List.mem_of_getElem? (show cs.ds[3]?=some cs.NoRounds from rfl)
theorem x0m(T:Txt K mg cs):PySem.W.mroIn K cs.NoStands (.ref cs.W)=some true:=mro_W (T.err _ y7)
theorem o8(T:Txt K mg cs):PySem.W.mroIn K cs.NoRounds (.ref cs.W)=some true:=mro_W (T.err _ m4)
noncomputable abbrev r6:List Str:=["_law_part_here","_law_drawn_here"]
theorem sc_law_needs_right:FnScope ["_law_part_here","_law_drawn_here","_law_row_here","_law_stand","_law_first","_law_rounds","_law_a","_law_b","_law_due"] r6 (defScope d7):=⟨rfl,rfl,rfl,by decide +kernel,rfl,by decide +kernel,by decide +kernel⟩
noncomputable abbrev z8(P:Program)(w:World)(K:PySem.W.Frag)(mg:Str→Option Value)(base:Heap)(cs:Cs):Prop:=Fun2 P w K mg base "_law_needs_right" 7 r6 (spNR cs)
theorem w0j{f:Addr}{fd:FuncData}(Df:DefAt K mg "_law_needs_right" d7 r6 f fd)(T:Txt K mg cs)(G_law_needs:z0b P w K mg base cs)(G_law_is:u0a P w K mg base cs)(G_needs:s0j P w K mg base cs):z8 P w K mg base cs:=by
 have nd:=sc_law_needs_right.nd;refine def2 Df sc_law_needs_right (fun ds δ q x h=>?_) (fun cdv A outer s H E Y hr=>⟨_,(v0 (t0h (e2_v 1) (v0g rfl (w4 (l3 (i:=2) nd rfl (by first |exact Or.inl rfl |exact Or.inr rfl)) (w4 (l3 (i:=3) nd rfl (by first |exact Or.inl rfl |exact Or.inr rfl)) (w4 (l3 (i:=4) nd rfl (by first |exact Or.inl rfl |exact Or.inr rfl)) (w4 (l3 (i:=5) nd rfl (by first |exact Or.inl rfl |exact Or.inr rfl)) m9))))) (v0f (is:=[2,3,4,5]) rfl))
  (v0 (n8 PassesOwn.leaving rfl (y0k T.n_range (z0 (e2_v 4) (z0 (e2_b (p0r rfl) d_min T.n_min d0a (z0 (u2 x3 i3 (u2 x3 i3 (e2_v 4) (e2_v 5)) o0) (z0 (u2 x3 i3 (e2_v 4) o0) y0))) y0))) (l3 (i:=6) nd rfl (by first |exact Or.inl rfl |exact Or.inr rfl)) (j7 (i:=6)) (i0 (n8 PassesOwn.leaving rfl (y0k T.n_range (z0 (e2_v 6) (z0 (e2_b (p0r rfl) d_min T.n_min d0a (z0 (u2 x3 i3 (u2 x3 i3 (e2_v 4) (e2_v 5)) o0) (z0 (u2 x3 i3 (e2_v 4) o0) y0))) y0))) (l3 (i:=7) nd rfl (by first |exact Or.inl rfl |exact Or.inr rfl)) (j7 (i:=7)) (v0 (b3 8 nd (d0 G_law_needs (hr.mono (by decide)) j0 (z0 (e2_v 2) (z0 (e2_v 3) (z0 (e2_v 4) (z0 (e2_v 6) (z0 (e2_v 7) y0)))))))
  (i0 (z5 (b4 (p5 (d0 G_law_is (hr.mono (by decide)) j0 (z0 (d0 G_needs (hr.mono (by decide)) j0 (z0 (e2_v 0) (z0 (e2_v 3) (z0 (e2_v 4) (z0 (e2_v 6) (z0 (e2_v 7) y0)))))) (z0 (e2_v 8) y0))))) (i0 (a3 i5)) o4))))))
  (i0 (a3 i5)))),fun ds δ q x h=>?_⟩)
 ·unfold spNR at h;obtain ⟨full,mark,ws,price,s,f',r,rfl,h,hq⟩:=h;rfl
 ·unfold spNR at h;obtain ⟨full,mark,ws,price,s,f',r,rfl,h,hq⟩:=h;rw[show x4 ["_law_part_here","_law_drawn_here","_law_row_here","_law_stand","_law_first","_law_rounds","_law_a","_law_b","_law_due"] _=[.val _,.val _,.no,.no,.no,.no,.no,.no,.no]from rfl];have hf1:=h.f1;have hf2:=h.f2;have hr1:=h.r1;have hr2:=h.r2;unfold o6;walk_at "dn";obtain ⟨M,eM,M1,M2⟩:∃M:Int,(if f'+24<f'+r+4 then f'+24 else f'+r+4)=M∧f'≤M∧M≤f'+24:=⟨_,rfl,by split<;>omega,by split<;>omega⟩;rw[eM];refine ⟨⟨by omega,by omega,by omega,by omega⟩,?_⟩;refine w6 (fun i ρ δ'=>∃c6 c7 c8,ρ=[.val (a5 cs full mark ws price),.val (.lst [rowL full mark ws price,.int s,.int f',.int r]),.val (rowL full mark ws price),.val (.int s),.val (.int f'),.val (.int r),c6,c7,c8]∧δ'=δ) ⟨_,_,_,rfl,rfl⟩ ?_ ?_
  ·rintro i d ρ δ' rest hi ⟨c6,c7,c8,rfl,rfl⟩ hrest;obtain ⟨hi2,rfl⟩:=g0m hi;have ha:f'+(i:Int)<M:=by omega
   unfold z0t;walk_at "dn";rw[eM];refine ⟨⟨by omega,by omega,by omega,by omega⟩,?_⟩;refine w6 (fun j ρ δ2=>∃c7 c8,ρ=[.val (a5 cs full mark ws price),.val (.lst [rowL full mark ws price,.int s,.int f',.int r]),.val (rowL full mark ws price),.val (.int s),.val (.int f'),.val (.int r),.val (.int (f'+(i:Int))),c7,c8]∧δ2=δ') ⟨_,_,rfl,rfl⟩ ?_ ?_
   ·rintro j d ρ δ2 rest2 hj ⟨c7,c8,rfl,rfl⟩ hrest2;obtain ⟨hj2,rfl⟩:=g0m hj;have hb:f'+(i:Int)+(j:Int)<M:=by omega
    unfold z0t;walk_at "dn";refine ⟨_,_,_,_,_,_,_,_,rfl,h.ok.l1,⟨hf1,hf2⟩,by omega,by omega,by omega,?_⟩;walk_at "dn";refine ⟨_,_,_,_,_,_,_,_,rfl,h.ok.l1,rfl,rfl,rfl,rfl,fun e=>?_,fun _ e=>?_,fun s0 f0 e1 e2 _ _ _ _=>?_⟩
    ·rw[b5 h.s1 h.s2]at e;cases e
    ·rw[b5 h.f1 h.f2]at e;cases e
    cases e1;cases e2;refine ⟨fun e=>?_,fun b0 e3 _ _=>?_⟩
    ·rw[b5 (by omega) (by omega)]at e;cases e
    cases e3;refine ⟨fun e=>?_,fun a0 e4 _ _=>?_⟩
    ·rw[b5 (by omega) (by omega)]at e;cases e
    cases e4;refine ⟨_,_,rfl,?_⟩;rw[beq_self_eq_true];exact hrest2 _ _ ⟨_,_,rfl,rfl⟩
   ·rintro ρ δ2 ⟨c7,c8,rfl,rfl⟩;exact hrest _ _ ⟨_,_,_,rfl,rfl⟩
  ·rintro ρ δ' ⟨c6,c7,c8,rfl,rfl⟩;exact hq
noncomputable abbrev x5:List Str:=["_law_part_here","_law_stand","_law_first","_law_a","_law_b"]
theorem sc_law_rounds_refused:FnScope ["_law_part_here","_law_stand","_law_first","_law_a","_law_b","_law_error"] x5 (defScope n6):=⟨rfl,rfl,rfl,by decide +kernel,rfl,by decide +kernel,by decide +kernel⟩
noncomputable abbrev l6(P:Program)(w:World)(K:PySem.W.Frag)(mg:Str→Option Value)(base:Heap)(cs:Cs):Prop:=Fun2 P w K mg base "_law_rounds_refused" 7 x5 (spRR cs)
theorem y0c{f:Addr}{fd:FuncData}(Df:DefAt K mg "_law_rounds_refused" n6 x5 f fd)(T:Txt K mg cs)(G_needs:s0j P w K mg base cs)(G_law_is_just:i7 P w K mg base cs):l6 P w K mg base cs:=by
 have nd:=sc_law_rounds_refused.nd;refine def2 Df sc_law_rounds_refused (fun ds δ q x h=>?_) (fun cdv A outer s H E Y hr=>⟨_,(v0 (l0d ⟨rfl,rfl⟩ (fun _ _=>(i0 (j4 (d0 G_needs (hr.mono (by decide)) u0k (z0 (e2_v 0) (z0 (e2_v 1) (z0 (e2_v 2) (z0 (e2_v 3) (z0 (e2_v 4) y0))))))))) (h0s K 5 ⟨rfl,rfl⟩ T.h_WearError T.c_WearError nd (fun _=>(i0 (a3 (p9 G_law_is_just (hr.u.mono (by decide)).mark v0i (z0 (e2_v 5) (z0 (e2_b p4 (p6 (K:=K)) T.n_isinstance m3 (z0 (e2_v 5) (z0 (y0o T.c_NoRounds) y0))) y0)))))) l0e))
  (i0 (a3 i5))),fun ds δ q x h=>?_⟩)
 ·unfold spRR at h;obtain ⟨full,mark,ws,price,s,f',a,b,rfl,hl,s1,s2,hb,hq⟩:=h;rfl
 ·unfold spRR at h;obtain ⟨full,mark,ws,price,s,f',a,b,rfl,hl,s1,s2,hb,hq⟩:=h;rw[show x4 ["_law_part_here","_law_stand","_law_first","_law_a","_law_b","_law_error"] _=[.val _,.val _,.val _,.val _,.val _,.no]from rfl];obtain ⟨p1,p2,p3,hbad⟩:=hb;walk_at "dl";refine ⟨_,_,_,_,_,_,_,_,rfl,hl,rfl,p1,p2,p3,fun e=>?_,fun _ e=>?_,fun s0 f0 e1 e2 _ _ f1 f2=>⟨fun e=>?_,fun b0 e3 _ _=>⟨fun e=>?_,fun a0 e4 b1 b2=>?_⟩⟩⟩
  ·rw[b5 s1 s2]at e;cases e
  ·dsimp only;rw[o8 T];simp only[if_true,z0w T m4];exact ⟨(T.err _ m4).xc,_,_,_,rfl,m4,hq⟩
  ·dsimp only;rw[o8 T];simp only[if_true,z0w T m4];exact ⟨(T.err _ m4).xc,_,_,_,rfl,m4,hq⟩
  ·dsimp only;rw[o8 T];simp only[if_true,z0w T m4];exact ⟨(T.err _ m4).xc,_,_,_,rfl,m4,hq⟩
  ·exfalso;subst e2 e3 e4;rcases hbad with z |⟨f1',z,_,_,hb⟩
   ·rw[b5 f1 f2]at z;cases z
   ·cases z;rcases hb with z |⟨b1',z,_,_,ha⟩
    ·rw[b5 (by omega) (by omega)]at z;cases z
    ·cases z;rw[b5 b1 b2]at ha;cases ha
noncomputable abbrev w5:List Str:=["_law_part_here","_law_stand","_law_drawn_here"]
theorem sc_law_stands_refused:FnScope ["_law_part_here","_law_stand","_law_drawn_here","_law_row_here","_law_good","_law_first","_law_rounds","_law_error","second"] w5 (defScope m6):=⟨rfl,rfl,rfl,by decide +kernel,rfl,by decide +kernel,by decide +kernel⟩
noncomputable abbrev j6(P:Program)(w:World)(K:PySem.W.Frag)(mg:Str→Option Value)(base:Heap)(cs:Cs):Prop:=Fun2 P w K mg base "_law_stands_refused" 8 w5 (spSR cs)
theorem y0b{f:Addr}{fd:FuncData}(Df:DefAt K mg "_law_stands_refused" m6 w5 f fd)(T:Txt K mg cs)(G_needs:s0j P w K mg base cs)(G_law_is_just:i7 P w K mg base cs)(G_is_stretches_h:k8 P w K mg base cs):j6 P w K mg base cs:=by
 have nd:=sc_law_stands_refused.nd;refine def2 Df sc_law_stands_refused (fun ds δ q x h=>?_) (fun cdv A outer s H E Y hr=>⟨_,(v0 (t0h (e2_v 2) (v0g rfl (w4 (l3 (i:=3) nd rfl (by first |exact Or.inl rfl |exact Or.inr rfl)) (w4 (l3 (i:=4) nd rfl (by first |exact Or.inl rfl |exact Or.inr rfl)) (w4 (l3 (i:=5) nd rfl (by first |exact Or.inl rfl |exact Or.inr rfl)) (w4 (l3 (i:=6) nd rfl (by first |exact Or.inl rfl |exact Or.inr rfl)) m9))))) (v0f (is:=[3,4,5,6]) rfl))
  (v0 (l0d ⟨rfl,rfl⟩ (fun _ _=>(i0 (j4 (d0 G_needs (hr.mono (by decide)) u0k (z0 (e2_v 0) (z0 (e2_v 1) (z0 (r0k o0) (z0 v9 (z0 o0 y0))))))))) (h2_asH K 7 ⟨rfl,rfl⟩ T.h_WearError T.c_WearError nd (fun _ _ _=>(v0 (z5 (b4 (p5 (p9 G_law_is_just (hr.u.mono (by decide)).mark v0i (z0 (e2_v 7) (z0 (e2_b p4 (p6 (K:=K)) T.n_isinstance m3 (z0 (e2_v 7) (z0 (y0o T.c_NoStands) y0))) y0))))) (i0 (a3 i5)) o4)
  (i0 (l0d ⟨rfl,rfl⟩ (fun _ _=>(i0 (j4 (q0n G_is_stretches_h (hr.u.mono (by decide)).mark rfl m0x rfl u0k (z0 (e2_v 0) (z0 (e2_v 1) (z0 (r0k o0) (z0 o0 (z0 (j3 y0) y0))))))))) (h0s K 8 ⟨rfl,rfl⟩ T.h_WearError T.c_WearError nd (fun _=>(i0 (a3 (p9 G_law_is_just (hr.u.mono (by decide)).mark.mark v0i (z0 (e2_v 8) (z0 (e2_b p4 (p6 (K:=K)) T.n_isinstance m3 (z0 (e2_v 8) (z0 (y0o T.c_NoStands) y0))) y0)))))) l0e))))) l0e))
  (i0 (a3 i5)))),fun ds δ q x h=>?_⟩)
 ·unfold spSR at h;obtain ⟨full,mark,ws,price,d,s,f',r,rfl,hl,hd,hw,hq⟩:=h;rfl
 ·unfold spSR at h;obtain ⟨full,mark,ws,price,d,s,f',r,rfl,hl,hd,hw,hq⟩:=h;rw[show x4 ["_law_part_here","_law_stand","_law_drawn_here","_law_row_here","_law_good","_law_first","_law_rounds","_law_error","second"] _=[.val _,.val _,.val _,.no,.no,.no,.no,.no,.no]from rfl];unfold o6;walk_at "dl";refine ⟨_,_,_,_,_,_,_,_,rfl,hl,hd,rfl,rfl,rfl,fun _=>?_,fun e=>?_,fun s0 f0 e1 e2 s1 s2=>?_⟩
  ·dsimp only;rw[x0m T];simp only[if_true,z0w T y7];refine ⟨(T.err _ y7).xc,_,_,_,rfl,y7,?_⟩;walk_at "dl";refine ⟨_,_,_,_,_,_,_,_,rfl,hd,hw,?_⟩;dsimp only;rw[x0m T];simp only[if_true,z0w T y7];exact ⟨(T.err _ y7).xc,_,_,_,rfl,y7,hq⟩
  ·rw[hw]at e;cases e
  ·subst e1;rw[b5 s1 s2]at hw;cases hw
noncomputable abbrev m5:List Str:=["_law_part_here","_law_stand","_law_first","_law_rounds"]
theorem sc_law_paper_refused:FnScope ["_law_part_here","_law_stand","_law_first","_law_rounds","_law_error"] m5 (defScope a6):=⟨rfl,rfl,rfl,by decide +kernel,rfl,by decide +kernel,by decide +kernel⟩
noncomputable abbrev v7(P:Program)(w:World)(K:PySem.W.Frag)(mg:Str→Option Value)(base:Heap)(cs:Cs):Prop:=Fun2 P w K mg base "_law_paper_refused" 7 m5 (spPR cs)
theorem x0n{f:Addr}{fd:FuncData}(Df:DefAt K mg "_law_paper_refused" a6 m5 f fd)(T:Txt K mg cs)(G_is_stretches:q8 P w K mg base cs)(G_law_is_just:i7 P w K mg base cs):v7 P w K mg base cs:=by
 have nd:=sc_law_paper_refused.nd;refine def2 Df sc_law_paper_refused (fun ds δ q x h=>?_) (fun cdv A outer s H E Y hr=>⟨_,(v0 (l0d ⟨rfl,rfl⟩ (fun _ _=>(i0 (j4 (d0 G_is_stretches (hr.mono (by decide)) u0k (z0 (e2_v 0) (z0 (e2_v 1) (z0 (e2_v 2) (z0 (e2_v 3) (z0 v9 y0))))))))) (h0s K 4 ⟨rfl,rfl⟩ T.h_WearError T.c_WearError nd (fun _=>(i0 (a3 (p9 G_law_is_just (hr.u.mono (by decide)).mark v0i (z0 (e2_v 4) (z0 (e2_b p4 (p6 (K:=K)) T.n_isinstance m3 (z0 (e2_v 4) (z0 (y0o T.c_NoRounds) y0))) y0)))))) l0e))
  (i0 (a3 i5))),fun ds δ q x h=>?_⟩)
 ·unfold spPR at h;obtain ⟨full,mark,ws,price,s,f',r,rfl,hl,s1,s2,hf,hr',hb,hq⟩:=h;rfl
 ·unfold spPR at h;obtain ⟨full,mark,ws,price,s,f',r,rfl,hl,s1,s2,hf,hr',hb,hq⟩:=h;rw[show x4 ["_law_part_here","_law_stand","_law_first","_law_rounds","_law_error"] _=[.val _,.val _,.val _,.val _,.no]from rfl];walk_at "dl";refine ⟨_,_,_,_,_,_,_,_,rfl,hl,rfl,hf,hr',rfl,fun e=>?_,fun _ _=>?_,fun s0 f0 r0 e1 e2 e3 _ _ f1 f2 r1 r2=>?_⟩
  ·rw[b5 s1 s2]at e;cases e
  ·dsimp only;rw[o8 T];simp only[if_true,z0w T m4];exact ⟨(T.err _ m4).xc,_,_,_,rfl,m4,hq⟩
  ·exfalso;subst e2 e3;rcases hb with z |z
   ·rw[b5 f1 f2]at z;cases z
   ·rw[b5 r1 r2]at z;cases z
noncomputable def z1l(cs:Cs):Sp2:=fun ds δ q _=>∃full mark ws price s f r,ds=[a5 cs full mark ws price,o6 full mark ws price s f r]∧DrOk full mark ws price s f r∧q (.bl true) δ
theorem r0e{f b0:Int}{a:D}(h1:0≤f)(h2:f≤47)(h3:f≤b0)(h4:b0≤f+23)(p:u4 a=true)(h:u3 a f b0=false):BadN (.int f) a (.int b0):=⟨rfl,p,rfl,.inr ⟨f,rfl,h1,h2,.inr ⟨b0,rfl,h3,h4,h⟩⟩⟩
theorem k0q{f:Int}{a b:D}(h1:0≤f)(h2:f≤47)(p:u4 a=true)(p2:u4 b=true)(h:u3 b f (f+23)=false):BadN (.int f) a b:=⟨rfl,p,p2,.inr ⟨f,rfl,h1,h2,.inl h⟩⟩
noncomputable abbrev w9:List Str:=["_law_part_here","_law_drawn_here"]
theorem sc_law_refused:FnScope ["_law_part_here","_law_drawn_here","_law_row_here","_law_stand","_law_first","_law_rounds","_law_thing","_law_pairs","_law_a","_law_b"] w9 (defScope z0n):=⟨rfl,rfl,rfl,by decide +kernel,rfl,by decide +kernel,by decide +kernel⟩
noncomputable abbrev y0x(P:Program)(w:World)(K:PySem.W.Frag)(mg:Str→Option Value)(base:Heap)(cs:Cs):Prop:=Fun2 P w K mg base "_law_refused" 9 w9 (z1l cs)
theorem r0u{f:Addr}{fd:FuncData}(Df:DefAt K mg "_law_refused" z0n w9 f fd)(T:Txt K mg cs)(G_law_stands_refused:j6 P w K mg base cs)(G_law_rounds_refused:l6 P w K mg base cs)(G_law_paper_refused:v7 P w K mg base cs):y0x P w K mg base cs:=by
 have nd:=sc_law_refused.nd;refine def2 Df sc_law_refused (fun ds δ q x h=>?_) (fun cdv A outer s H E Y hr=>⟨_,(v0 (t0h (e2_v 1) (v0g rfl (w4 (l3 (i:=2) nd rfl (by first |exact Or.inl rfl |exact Or.inr rfl)) (w4 (l3 (i:=3) nd rfl (by first |exact Or.inl rfl |exact Or.inr rfl)) (w4 (l3 (i:=4) nd rfl (by first |exact Or.inl rfl |exact Or.inr rfl)) (w4 (l3 (i:=5) nd rfl (by first |exact Or.inl rfl |exact Or.inr rfl)) m9))))) (v0f (is:=[2,3,4,5]) rfl))
  (v0 (n8 PassesOwn.leaving rfl (z0y (j3 (z0 (u2 b9 w0e (n4 2 o0) o0) (z0 (u2 x3 i3 (n4 2 o0) o0) (z0 v9 (z0 i5 (z0 t0r (z0 (j3 y0) y0)))))))) (l3 (i:=6) nd rfl (by first |exact Or.inl rfl |exact Or.inr rfl)) (j7 (i:=6)) (i0 (z5 (b4 (p5 (d0 G_law_stands_refused (hr.mono (by decide)) j0 (z0 (e2_v 0) (z0 (e2_v 6) (z0 (e2_v 1) y0)))))) (i0 (a3 i5)) o4)))
  (v0 (b3 7 nd (j3 (z0 (y0n (z0 (u2 b9 w0e (e2_v 4) o0) (z0 (e2_v 4) y0))) (z0 (y0n (z0 (u2 x3 i3 (e2_v 4) o0) (z0 (e2_v 4) y0))) (z0 (y0n (z0 (e2_v 4) (z0 (u2 x3 i3 (e2_v 4) o0) y0))) (z0 (y0n (z0 (e2_v 4) (z0 v9 y0))) y0))))))
  (v0 (b3 7 nd (u2 r0m k0w (e2_v 7) (j3 (z0 (y0n (z0 v9 (z0 (e2_v 4) y0))) (z0 (y0n (z0 i5 (z0 (u2 x3 i3 (e2_v 4) o0) y0))) (z0 (y0n (z0 t0r (z0 (e2_v 4) y0))) (z0 (y0n (z0 (e2_v 4) (z0 (j3 (z0 (e2_v 4) y0)) y0))) y0)))))))
  (v0 (b3 7 nd (u2 r0m k0w (e2_v 7) (u2 i0v a0x (j3 (z0 (y0n (z0 (y0m (y0w hr.units0) u0q (e2_v 4) o0 (l4 _)) (z0 (e2_v 4) y0))) (z0 (y0n (z0 (e2_v 4) (z0 (y0m (y0w hr.units0) u0q (e2_v 4) o0 (l4 _)) y0))) y0))) (t0p t0x a0t T.n_int l0l (z0 (y0m u0u d_lt (e2_v 4) o0 (l4 _)) y0)))))
  (v0 (n8 PassesOwn.leaving rfl (z0y (e2_v 7)) (d0j rfl (w4 (l3 (i:=8) nd rfl (by first |exact Or.inl rfl |exact Or.inr rfl)) (w4 (l3 (i:=9) nd rfl (by first |exact Or.inl rfl |exact Or.inr rfl)) m9))) (c0s (is:=[8,9]) rfl) (i0 (z5 (b4 (p5 (d0 G_law_rounds_refused (hr.mono (by decide)) j0 (z0 (e2_v 0) (z0 (e2_v 3) (z0 (e2_v 4) (z0 (e2_v 8) (z0 (e2_v 9) y0)))))))) (i0 (a3 i5)) o4)))
  (v0 (n8 PassesOwn.leaving rfl (z0y (j3 (z0 (r0k o0) (z0 o0 (z0 v9 (z0 i5 (z0 t0r y0))))))) (l3 (i:=6) nd rfl (by first |exact Or.inl rfl |exact Or.inr rfl)) (j7 (i:=6)) (v0 (z5 (b4 (p5 (d0 G_law_rounds_refused (hr.mono (by decide)) j0 (z0 (e2_v 0) (z0 (e2_v 3) (z0 (e2_v 6) (z0 o0 (z0 o0 y0)))))))) (i0 (a3 i5)) o4)
  (i0 (z5 (b4 (p5 (d0 G_law_paper_refused (hr.mono (by decide)) j0 (z0 (e2_v 0) (z0 (e2_v 3) (z0 (e2_v 6) (z0 (e2_v 5) y0))))))) (i0 (a3 i5)) o4))))
  (v0 (n8 PassesOwn.leaving rfl (z0y (j3 (z0 (r0k o0) (z0 o0 (z0 v9 (z0 i5 (z0 t0r y0))))))) (l3 (i:=6) nd rfl (by first |exact Or.inl rfl |exact Or.inr rfl)) (j7 (i:=6)) (i0 (z5 (b4 (p5 (d0 G_law_paper_refused (hr.mono (by decide)) j0 (z0 (e2_v 0) (z0 (e2_v 3) (z0 (e2_v 4) (z0 (e2_v 6) y0))))))) (i0 (a3 i5)) o4)))
  (i0 (a3 i5)))))))))),fun ds δ q x h=>?_⟩)
 ·unfold z1l at h;obtain ⟨full,mark,ws,price,s,f',r,rfl,h,hq⟩:=h;rfl
 ·unfold z1l at h;obtain ⟨full,mark,ws,price,s,f',r,rfl,h,hq⟩:=h;rw[show x4 ["_law_part_here","_law_drawn_here","_law_row_here","_law_stand","_law_first","_law_rounds","_law_thing","_law_pairs","_law_a","_law_b"] _=[.val _,.val _,.no,.no,.no,.no,.no,.no,.no,.no]from rfl];have hf1:=h.f1;have hf2:=h.f2;have hr1:=h.r1;have hr2:=h.r2;unfold o6 rowL;walk_at "dn";refine w6 (fun i ρ δ1=>∃c6,ρ=[.val (a5 cs full mark ws price),.val (o6 full mark ws price s f' r),.val (rowL full mark ws price),.val (.int s),.val (.int f'),.val (.int r),c6,.no,.no,.no]∧δ1=δ) ⟨_,rfl,rfl⟩ ?_ ?_
  ·rintro i d ρ δ1 rest hi ⟨c6,rfl,rfl⟩ hrest;have hd:u4 d=true∧u3 d mark full=false:=by
    have hm:=List.mem_of_getElem? hi;simp only[List.mem_cons,List.not_mem_nil,or_false]at hm;have:=h.ok.m2;rcases hm with rfl |rfl |rfl |rfl |rfl |rfl
    all_goals first |exact ⟨rfl,rfl⟩|exact ⟨rfl,q0j (by omega)⟩
   unfold z0t;walk_at "dn";refine ⟨_,_,_,_,_,_,_,_,rfl,h.ok.l1,hd.1,hd.2,?_⟩;exact hrest _ _ ⟨_,rfl,rfl⟩
  rintro ρ δ1 ⟨c6,rfl,rfl⟩;walk_at "dn";have hJ:∀d∈(List.replicate (if f'<2 then 1 else 0:Int).toNat [D.tup [D.bl (decide (f'=1)),D.int f'],D.tup [D.int f',D.bl (decide (f'=1))]]).flatten,∃a b,d=.tup [a,b]∧BadN (.int f') a b:=by
   intro d hd;rw[List.mem_flatten]at hd;obtain ⟨xs,h1,h2⟩:=hd;rw[(List.mem_replicate.mp h1).2]at h2;simp only[List.mem_cons,List.not_mem_nil,or_false]at h2;rcases h2 with rfl |rfl
   ·exact ⟨_,_,rfl,r0e hf1 hf2 (by omega) (by omega) rfl rfl⟩
   ·exact ⟨_,_,rfl,k0q hf1 hf2 rfl rfl rfl⟩
  have hJl:(List.replicate (if f'<2 then 1 else 0:Int).toNat [D.tup [D.bl (decide (f'=1)),D.int f'],D.tup [D.int f',D.bl (decide (f'=1))]]).flatten.length≤2:=by
   split
   ·exact Nat.le_refl 2
   ·exact Nat.zero_le 2
  generalize (List.replicate (if f'<2 then 1 else 0:Int).toNat [D.tup [D.bl (decide (f'=1)),D.int f'],D.tup [D.int f',D.bl (decide (f'=1))]]).flatten=J at hJ hJl ⊢;refine ⟨by split<;>decide,by split<;>decide,by split<;>decide,by omega,?_⟩;refine w6 (fun i ρ δ2=>∃c6 c7 c8 c9,ρ=[.val (a5 cs full mark ws price),.val (o6 full mark ws price s f' r),.val (rowL full mark ws price),.val (.int s),.val (.int f'),.val (.int r),c6,c7,c8,c9]∧δ2=δ1) ⟨_,_,_,_,rfl,rfl⟩ ?_ ?_
  ·rintro i d ρ δ2 rest hi ⟨c6,c7,c8,c9,rfl,rfl⟩ hrest;obtain ⟨a,b,rfl,hbad⟩:∃a b,d=.tup [a,b]∧BadN (.int f') a b:=by
    have hm:=List.mem_of_getElem? hi;simp only[List.mem_cons]at hm;rcases hm with rfl |rfl |rfl |rfl |rfl |rfl |rfl |rfl |hm
    ·exact ⟨_,_,rfl,r0e hf1 hf2 (by omega) (by omega) rfl (q0j (by omega))⟩
    ·exact ⟨_,_,rfl,r0e hf1 hf2 (by omega) (by omega) rfl (q0j (by omega))⟩
    ·exact ⟨_,_,rfl,k0q hf1 hf2 rfl rfl (q0j (by omega))⟩
    ·exact ⟨_,_,rfl,k0q hf1 hf2 rfl rfl rfl⟩
    ·exact ⟨_,_,rfl,r0e hf1 hf2 (by omega) (by omega) rfl rfl⟩
    ·exact ⟨_,_,rfl,r0e hf1 hf2 (by omega) (by omega) rfl rfl⟩
    ·exact ⟨_,_,rfl,r0e hf1 hf2 (by omega) (by omega) rfl rfl⟩
    ·exact ⟨_,_,rfl,k0q hf1 hf2 rfl rfl rfl⟩
    ·exact hJ d hm
   unfold z0t;walk_at "dn";refine ⟨_,_,_,_,_,_,_,_,rfl,h.ok.l1,h.s1,h.s2,hbad,?_⟩;exact hrest _ _ ⟨_,_,_,_,rfl,rfl⟩
  rintro ρ δ2 ⟨c6,c7,c8,c9,rfl,rfl⟩;walk_at "dn";refine w6 (fun i ρ δ3=>∃c6,ρ=[.val (a5 cs full mark ws price),.val (o6 full mark ws price s f' r),.val (rowL full mark ws price),.val (.int s),.val (.int f'),.val (.int r),c6,c7,c8,c9]∧δ3=δ2) ⟨_,rfl,rfl⟩ ?_ ?_
  ·rintro i d ρ δ3 rest hi ⟨c6,rfl,rfl⟩ hrest;have hd:u4 d=true∧u3 d 0 47=false:=by
    have hm:=List.mem_of_getElem? hi;simp only[List.mem_cons,List.not_mem_nil,or_false]at hm;rcases hm with rfl |rfl |rfl |rfl |rfl
    all_goals exact ⟨rfl,rfl⟩
   unfold z0t;walk_at "dn";refine ⟨_,_,_,_,_,_,_,_,rfl,h.ok.l1,h.s1,h.s2,⟨hd.1,rfl,rfl,.inl hd.2⟩,?_⟩;walk_at "dn";refine ⟨_,_,_,_,_,_,_,rfl,h.ok.l1,h.s1,h.s2,hd.1,rfl,.inl hd.2,?_⟩;exact hrest _ _ ⟨_,rfl,rfl⟩
  rintro ρ δ3 ⟨c6,rfl,rfl⟩;walk_at "dn";refine w6 (fun i ρ δ4=>∃c6,ρ=[.val (a5 cs full mark ws price),.val (o6 full mark ws price s f' r),.val (rowL full mark ws price),.val (.int s),.val (.int f'),.val (.int r),c6,c7,c8,c9]∧δ4=δ3) ⟨_,rfl,rfl⟩ ?_ ?_
  ·rintro i d ρ δ4 rest hi ⟨c6,rfl,rfl⟩ hrest;have hd:u4 d=true∧u3 d 0 24=false:=by
    have hm:=List.mem_of_getElem? hi;simp only[List.mem_cons,List.not_mem_nil,or_false]at hm;rcases hm with rfl |rfl |rfl |rfl |rfl
    all_goals exact ⟨rfl,rfl⟩
   unfold z0t;walk_at "dn";refine ⟨_,_,_,_,_,_,_,rfl,h.ok.l1,h.s1,h.s2,rfl,hd.1,.inr hd.2,?_⟩;exact hrest _ _ ⟨_,rfl,rfl⟩
  rintro ρ δ4 ⟨c6,rfl,rfl⟩;walk_at "dn";exact hq
theorem k0p{xs:List D}{k:Nat}(h:k≤xs.length):cutD xs (some (k:Int)) none=xs.drop k:=by
 unfold cutD;rw[HT.sIx_nat,HT.sIx_none,Nat.min_eq_left h,List.take_of_length_le (by rw[List.length_drop];omega)]
theorem cut_to{xs:List D}{k:Nat}(h:k≤xs.length):cutD xs none (some (k:Int))=xs.take k:=by
 unfold cutD;rw[HT.sIx_nat,HT.sIx_none,Nat.min_eq_left h];rfl
theorem c0o{a:Int}(h:0≤a):∃k:Nat,a=(k:Int):=⟨a.toNat,by omega⟩
theorem n0t{l:List (Int×Int)}{k:Nat}(h:k≤l.length):cutD (l.map d4) (some (k:Int)) none=(l.drop k).map d4:=by rw[k0p (by rw[List.length_map];exact h),List.map_drop]
theorem m0a{l:List (Int×Int)}{k:Nat}(h:k≤l.length):cutD (l.map d4) none (some (k:Int))=(l.take k).map d4:=by rw[cut_to (by rw[List.length_map];exact h),List.map_take]
theorem g0f{l:List (Int×Int)}{k:Nat}(h:k<l.length):cutD (l.map d4) (some ((k:Int)+1)) none=(l.drop (k+1)).map d4:=by
 rw[show (k:Int)+1=((k+1:Nat):Int)by omega];exact n0t h
theorem cut_1{xs:List D}:cutD xs (some 1) none=xs.drop 1:=by
 cases xs with
 |nil=>rfl
 |cons x xs=>exact k0p (k:=1) (by simp)
theorem d0n{xs:List D}:cutD xs none (some (-1))=xs.dropLast:=by
 unfold cutD;have e:HT.sIx xs.length xs.length (some (-1))=xs.length-1:=by
  unfold HT.sIx;dsimp only;rw[if_pos (by decide)];omega
 rw[HT.sIx_none,e,List.drop_zero,Nat.sub_zero,List.dropLast_eq_take]
theorem g0e{l:List (Int×Int)}:eqRs (l.map d4) []=some (decide (l=[])):=by
 cases l with
 |nil=>rfl
 |cons a r=>rw[decide_eq_false (by simp)];rfl
noncomputable def Small(xs:List (List (Int×Int))):Prop:=∀l∈xs,l.length≤30
theorem Small.snoc{xs:List (List (Int×Int))}{l:List (Int×Int)}(h:Small xs)(hl:l.length≤30):Small (xs++[l]):=fun t ht=>(List.mem_append.mp ht).elim (h t) fun z=>by rw[List.mem_singleton.mp z];exact hl
theorem w0i{xs:List (List (Int×Int))}{l:List (Int×Int)}:xs.map z0a++[.lst (l.map d4)]=(xs++[l]).map z0a:=by rw[List.map_append];rfl
theorem p0y{l r:List (Int×Int)}{p:Int×Int}:l.map d4++[.lst [.int p.1,.int p.2]]++r.map d4=(l++[p]++r).map d4:=by rw[List.map_append,List.map_append];rfl
noncomputable def g0d:Sp2:=fun ds δ q _=>∃p n full mark ws price s f r,∃l:List (Int×Int),ds=[.ref p,o6 full mark ws price s f r,z0a l]∧l.length≤24∧DkM p (n+3) δ∧∀(xs:List (List (Int×Int))) δ',Small xs→xs.length≤20→DkM p n δ'→q (.lst (xs.map z0a)) δ'
noncomputable def bnT:TS2:=fun E ρ δ=>∃p dr f0,∃(l:List (Int×Int)) (pr:Int×Int) (k:Nat) (xs:List (List (Int×Int))) (c5 c6 c9:Cell),ρ=[.val (.ref p),.val dr,.val (.lst (l.map d4)),.val f0,.own (xs.map z0a),c5,c6,.val (.int (k:Int)),.val (.lst [.int pr.1,.int pr.2]),c9]∧l.length≤24∧k<l.length∧Small xs∧xs.length≤7∧
 ∀(ys:List (List (Int×Int))) c5 c6 c7 c8 c9,Small ys→ys.length≤20→E.nx [.val (.ref p),.val dr,.val (.lst (l.map d4)),.val f0,.own (ys.map z0a),c5,c6,c7,c8,c9] δ
noncomputable abbrev x0p:List Str:=["_law_deck_here","_law_drawn_here","_law_told"]
theorem sc_law_bent:FnScope ["_law_deck_here","_law_drawn_here","_law_told","_law_first","_law_found","_law_a","_law_b","_law_at","_law_one","_law_more"] x0p (defScope v0u):=⟨rfl,rfl,rfl,by decide +kernel,rfl,by decide +kernel,by decide +kernel⟩
noncomputable abbrev v0l(P:Program)(w:World)(K:PySem.W.Frag)(mg:Str→Option Value)(base:Heap)(cs:Cs):Prop:=Fun2 P w K mg base "_law_bent" 3 x0p g0d
theorem l0z{f:Addr}{fd:FuncData}(Df:DefAt K mg "_law_bent" v0u x0p f fd)(T:Txt K mg cs)(G_law_next:b7 P w K mg base cs):v0l P w K mg base cs:=by
 have nd:=sc_law_bent.nd;refine def2 Df sc_law_bent (fun ds δ q x h=>?_) (fun cdv A outer s H E Y hr=>⟨_,(v0 (b3 3 nd (n4 1 o0))
  (v0 (t0o 4 nd (z0 (e2_v 2) (z0 (j3 y0) (z0 (f6 (e2_v 2) (l8 o0) m8) (z0 (f6 (e2_v 2) m8 (l8 (r0k o0))) y0)))))
  (v0 (b3 5 nd (u2 x3 i3 (e2_v 3) (u2 i4 d6 (d0 G_law_next (hr.mono (by decide)) j0 (z0 (e2_v 0) y0)) o0)))
  (v0 (b3 6 nd (u2 x3 i3 (e2_v 5) (u2 i4 d6 (d0 G_law_next (hr.mono (by decide)) j0 (z0 (e2_v 0) y0)) o0)))
  (v0 (o0k 4 nd (e2_v 4) (j3 (z0 (j3 (z0 (j3 (z0 (e2_v 5) (z0 (e2_v 6) y0))) y0)) (z0 (u2 x3 i3 (e2_v 2) (j3 (z0 (j3 (z0 (e2_v 5) (z0 (e2_v 6) y0))) y0))) (z0 (u2 x3 i3 (j3 (z0 (j3 (z0 (e2_v 5) (z0 (e2_v 6) y0))) y0)) (e2_v 2)) y0)))))
  (v0 (z5 (z6 (h0g hr.units1) z1w (e2_v 2) (j3 y0) (l4 _)) (v0 (b3 7 nd (u2 i4 d6 (d0 G_law_next (hr.mono (by decide)) j0 (z0 (e2_v 0) y0)) (y0l 2 T.n_len)))
  (v0 (b3 8 nd (n4 2 (e2_v 7)))
  (h0l (t':=bnT) (v0 (j4 (u0r 4 PySem.F.slot_list_append PySem.F.type_list_append l5 i6 (z0 (u2 x3 i3 (u2 x3 i3 (f6 (e2_v 2) m8 (l8 (e2_v 7))) (j3 (z0 (e2_v 8) y0))) (f6 (e2_v 2) (l8 (e2_v 7)) m8)) y0)))
  (v0 (n8 PassesOwn.leaving rfl (z0y (j3 (z0 (r0k o0) (z0 o0 y0)))) (l3 (i:=9) nd rfl (by first |exact Or.inl rfl |exact Or.inr rfl)) (j7 (i:=9)) (v0 (j4 (u0r 4 PySem.F.slot_list_append PySem.F.type_list_append l5 i6 (z0 (u2 x3 i3 (u2 x3 i3 (f6 (e2_v 2) m8 (l8 (e2_v 7))) (j3 (z0 (j3 (z0 (u2 x3 i3 (n4 8 o0) (e2_v 9)) (z0 (n4 8 o0) y0))) y0))) (f6 (e2_v 2) (l8 (u2 x3 i3 (e2_v 7) o0)) m8)) y0)))
  (v0 (j4 (u0r 4 PySem.F.slot_list_append PySem.F.type_list_append l5 i6 (z0 (u2 x3 i3 (u2 x3 i3 (f6 (e2_v 2) m8 (l8 (e2_v 7))) (j3 (z0 (j3 (z0 (n4 8 o0) (z0 (u2 x3 i3 (n4 8 o0) (e2_v 9)) y0))) y0))) (f6 (e2_v 2) (l8 (u2 x3 i3 (e2_v 7) o0)) m8)) y0)))
  (i0 (j4 (u0r 4 PySem.F.slot_list_append PySem.F.type_list_append l5 i6 (z0 (u2 x3 i3 (u2 x3 i3 (f6 (e2_v 2) m8 (l8 (e2_v 7))) (j3 (z0 (j3 (z0 (u2 x3 i3 (n4 8 o0) (e2_v 9)) (z0 (u2 x3 i3 (n4 8 o0) (e2_v 9)) y0))) y0))) (f6 (e2_v 2) (l8 (u2 x3 i3 (e2_v 7) o0)) m8)) y0)))))))
  (i0 (j4 (u0r 4 PySem.F.slot_list_append PySem.F.type_list_append l5 i6 (z0 (z1r rfl T.n_reversed T.n_list (z0 (e2_v 2) y0)) y0)))))) (by
   rintro E ρ δ ⟨p,dr,f0,l,pr,k,xs,c5,c6,c9,rfl,hl,hk,hx,hxl,hq⟩;walk_at "dn";rw[m0a (Nat.le_of_lt hk),n0t (Nat.le_of_lt hk),p0y,w0i];simp only[List.length_append,List.length_map,List.length_take,List.length_drop,List.length_cons,List.length_nil];refine ⟨rfl,by omega,by omega,by omega,?_⟩;have len3:∀q:Int×Int,(l.take k++[q]++l.drop (k+1)).length≤30:=fun q=>by simp only[List.length_append,List.length_take,List.length_drop,List.length_cons,List.length_nil];omega
   have hy:Small (xs++[l.take k++[pr]++l.drop k]):=hx.snoc (by simp only[List.length_append,List.length_take,List.length_drop,List.length_cons,List.length_nil];omega);have hyl:(xs++[l.take k++[pr]++l.drop k]).length≤8:=by rw[List.length_append,List.length_singleton];omega
   generalize xs++[l.take k++[pr]++l.drop k]=ys at hy hyl ⊢;refine w6 (fun i ρ δ2=>∃(zs:List (List (Int×Int))) (c9:Cell),ρ=[.val (.ref p),.val dr,.val (.lst (l.map d4)),.val f0,.own (zs.map z0a),c5,c6,.val (.int (k:Int)),.val (.lst [.int pr.1,.int pr.2]),c9]∧δ2=δ∧Small zs∧zs.length≤8+3*i) ⟨ys,_,rfl,rfl,hy,hyl⟩ ?_ ?_
   ·rintro i d ρ δ2 rest hi ⟨zs,c9,rfl,rfl,hz,hzl⟩ hrest;have hi4:i<2:=(List.getElem?_eq_some_iff.mp hi).1;obtain ⟨mo,rfl⟩:∃mo:Int,d=.int mo:=by
     have:=List.mem_of_getElem? hi;simp only[List.mem_cons,List.not_mem_nil,or_false]at this;rcases this with rfl |rfl
     all_goals exact ⟨_,rfl⟩
    unfold z0t;walk_at "dn";rw[m0a (Nat.le_of_lt hk),g0f hk];have e1:=p0y (l:=l.take k) (r:=l.drop (k+1)) (p:=(pr.1+mo,pr.2));have e2:=p0y (l:=l.take k) (r:=l.drop (k+1)) (p:=(pr.1,pr.2+mo));have e3:=p0y (l:=l.take k) (r:=l.drop (k+1)) (p:=(pr.1+mo,pr.2+mo));dsimp only at e1 e2 e3;rw[e1,e2,e3,w0i,w0i,w0i];simp only[List.length_append,List.length_map,List.length_take,List.length_drop,List.length_cons,List.length_nil];refine ⟨rfl,by omega,by omega,by omega,rfl,by omega,by omega,by omega,rfl,by omega,by omega,by omega,?_⟩;refine hrest _ _ ⟨_,_,rfl,rfl,((hz.snoc (len3 _)).snoc (len3 _)).snoc (len3 _),?_⟩;simp only[List.length_append,List.length_cons,List.length_nil];omega
   ·rintro ρ δ2 ⟨zs,c9,rfl,rfl,hz,hzl⟩;have hzl:zs.length≤14:=hzl;walk_at "dn";rw[←List.map_reverse,w0i,List.length_map];refine ⟨rfl,by omega,?_⟩;exact hq _ _ _ _ _ _ (hz.snoc (by rw[List.length_reverse];omega)) (by rw[List.length_append,List.length_singleton];omega))))) o4)
  (i0 (a3 (e2_v 4))))))))),fun ds δ q x h=>?_⟩)
 ·unfold g0d at h;obtain ⟨p,n,full,mark,ws,price,s,f',r,l,rfl,hl,hD,hq⟩:=h;rfl
 ·unfold g0d at h;obtain ⟨p,n,full,mark,ws,price,s,f',r,l,rfl,hl,hD,hq⟩:=h;rw[show x4 ["_law_deck_here","_law_drawn_here","_law_told","_law_first","_law_found","_law_a","_law_b","_law_at","_law_one","_law_more"] _=[.val _,.val _,.val _,.no,.no,.no,.no,.no,.no,.no]from rfl];unfold o6 z0a;walk_at "dn";refine ⟨p,n+2,rfl,hD,fun a0 δ1 a1 a2 hD=>⟨by decide,p,n+1,rfl,hD,fun b0 δ2 b1 b2 hD=>⟨by decide,?_⟩⟩⟩;rw[g0e];dsimp only;rw[List.length_map];refine ⟨by omega,by omega,?_⟩;generalize f'+a0%24=A;generalize A+b0%6=B;have first:Small [l,[],l.drop 1,l.dropLast,[(A,B)],l++[(A,B)],(A,B)::l]:=fun s hs=>by
   simp only[List.mem_cons,List.not_mem_nil,or_false]at hs;rcases hs with rfl |rfl |rfl |rfl |rfl |rfl |rfl
   ·omega
   ·exact Nat.zero_le _
   ·rw[List.length_drop];omega
   ·rw[List.length_dropLast];omega
   ·exact (by decide:1≤30)
   ·rw[List.length_append,List.length_singleton];omega
   ·rw[List.length_cons];omega
  have ef:[D.lst (l.map d4),.lst [],.lst (cutD (l.map d4) (some 1) none),.lst (cutD (l.map d4) none (some (-1))),.lst [.lst [.int A,.int B]],.lst (l.map d4++[.lst [.int A,.int B]]),.lst (.lst [.int A,.int B]::l.map d4)]=[l,[],l.drop 1,l.dropLast,[(A,B)],l++[(A,B)],(A,B)::l].map z0a:=by
   rw[cut_1,d0n];simp only[List.map_cons,List.map_nil,z0a,List.map_append,List.map_drop,List.map_dropLast];rfl
  rw[ef];by_cases he:l=[]
  ·rw[decide_eq_true he];simp only[Bool.not_true,Bool.false_eq_true,if_false];exact hq _ _ first (by simp) (hD.mono (by omega))
  ·rw[decide_eq_false he];simp only[Bool.not_false,if_true];have hpos:0<l.length:=List.length_pos_iff.mpr he;refine ⟨p,n,rfl,hD,fun c0 δ3 c1 c2 hD=>?_⟩;have b1:=Int.emod_nonneg c0 (b:=(l.length:Int)) (by omega);have b2:=Int.emod_lt_of_pos c0 (b:=(l.length:Int)) (by omega);obtain ⟨k,hk⟩:=c0o b1;dsimp only;rw[hk]at b2 ⊢;have hk2:k<l.length:=by omega
   have hat:atI (l.map d4) (k:Int)=some (d4 l[k]):=t0u (by rw[List.getElem?_map,List.getElem?_eq_getElem hk2];rfl);rw[hat];refine ⟨by omega,?_⟩;exact ⟨p,_,_,l,l[k],k,_,_,_,_,rfl,hl,hk2,first,by simp,fun ys c5 c6 c7 c8 c9 h1 h2=>hq ys _ h1 h2 hD⟩
noncomputable def Odd(d:D):Prop:=u0v d=true∧∀need hi f,n0y need hi f d=false
noncomputable def Odds(xs:List D):Prop:=∀d∈xs,Odd d
theorem Odds.cons{xs:List D}{y:D}(hy:Odd y)(h:Odds xs):Odds (y::xs):=fun d hd=>(List.mem_cons.mp hd).elim (fun e=>by rw[e];exact hy) (h d)
theorem Odds.nil:Odds []:=fun d hd=>nomatch hd
theorem Odds.snoc{xs:List D}{y:D}(h:Odds xs)(hy:Odd y):Odds (xs++[y]):=fun d hd=>(List.mem_append.mp hd).elim (h d) fun e=>by rw[List.mem_singleton.mp e];exact hy
theorem n0s{y:D}(hp:u4 y=true)(hr:rowD y=none):Odd y:=by
 constructor
 ·unfold u0v;rw[hp,hr];rfl
 ·intro need hi f;unfold n0y;rw[hr]
theorem k0o{need:Int→Int→Bool}{hi:Int}{x:D}(h:twoD x=none):∀{xs:List D} {f:Int},x∈xs→r0w need hi f xs=false
 | [],f,hx=>nomatch hx
 |d::xs,f,hx=>by
  unfold r0w;rcases List.mem_cons.mp hx with rfl |hx
  ·rw[h]
  ·cases e:twoD d with
   |none=>rfl
   |some p=>
    obtain ⟨a,b⟩:=p;dsimp only;rw[k0o h hx,Bool.and_false]
theorem g0c{xs:List D}{x:D}(hx:x∈xs)(h:twoD x=none)(ht:∀y∈xs,y6 y=true):Odd (.lst xs):=by
 refine ⟨?_,fun need hi f=>k0o h hx⟩;unfold u0v rowD;dsimp only;rw[List.all_eq_true.mpr ht];rfl
theorem v0k{x:D}(h:twoD x=none)(ht:y6 x=true):Odd (.lst [x]):=g0c (List.mem_singleton.mpr rfl) h fun y hy=>by rw[List.mem_singleton.mp hy];exact ht
theorem g0b{a:Int}(h1:0≤a)(h2:a≤100):a.natAbs.log2<1920:=by
 have h:a.natAbs≤100:=by omega
 exact Nat.lt_of_le_of_lt (Nat.log2_le_self _) (by omega)
theorem g0a(c:Prop)[Decidable c](y:D):(List.replicate (if c then 1 else 0:Int).toNat [y]).flatten.length≤1∧∀d∈(List.replicate (if c then 1 else 0:Int).toNat [y]).flatten,d=y:=by
 split
 ·exact ⟨Nat.le_refl 1,fun d hd=>List.mem_singleton.mp hd⟩
 ·exact ⟨Nat.zero_le 1,fun d hd=>nomatch hd⟩
theorem thing_pair{p:Int×Int}:y6 (d4 p)=true:=rfl
theorem z1k{α}{l r:List α}{y x:α}(h:x∈l++[y]++r):x∈l∨x=y∨x∈r:=by
 rcases List.mem_append.mp h with h |h
 ·rcases List.mem_append.mp h with h |h
  ·exact .inl h
  ·exact .inr (.inl (List.mem_singleton.mp h))
 ·exact .inr (.inr h)
theorem z1j{α}{l r:List α}{y:α}:y∈l++[y]++r:=List.mem_append_left _ (List.mem_append_right _ (List.mem_singleton.mpr rfl))
theorem f0z{l r:List (Int×Int)}{y:D}(h:twoD y=none)(ht:y6 y=true):Odd (.lst (l.map d4++[y]++r.map d4)):=by
 refine g0c (x:=y) z1j h fun z hz=>?_
 rcases z1k hz with hz |rfl |hz
 ·obtain ⟨s,_,rfl⟩:=List.mem_map.mp hz;rfl
 ·exact ht
 ·obtain ⟨s,_,rfl⟩:=List.mem_map.mp hz;rfl
noncomputable def p0x:Sp2:=fun ds δ q _=>∃p n full mark ws price s f r,∃l:List (Int×Int),ds=[.ref p,o6 full mark ws price s f r,z0a l]∧l.length≤24∧(∀pr∈l,0≤pr.1∧pr.1≤100)∧DkM p (n+1) δ∧∀(xs:List D) δ',Odds xs→xs.length≤40→DkM p n δ'→q (.lst xs) δ'
noncomputable def otT:TS2:=fun E ρ δ=>∃p dr,∃(l:List (Int×Int)) (k:Nat) (a b:Int) (tw xs:List D) (c8:Cell),ρ=[.val (.ref p),.val dr,.val (.lst (l.map d4)),.own xs,.val (.int (k:Int)),.val (.int a),.val (.int b),.val (.lst tw),c8]∧l.length≤24∧k<l.length∧(0≤a∧a≤100)∧tw.length≤2∧(∀d∈tw,twoD d=none∧y6 d=true)∧Odds xs∧xs.length≤13∧
 ∀(ys:List D) c4 c5 c6 c7 c8,Odds ys→ys.length≤40→E.nx [.val (.ref p),.val dr,.val (.lst (l.map d4)),.own ys,c4,c5,c6,c7,c8] δ
noncomputable abbrev n9:List Str:=["_law_deck_here","_law_drawn_here","_law_told"]
theorem sc_law_others:FnScope ["_law_deck_here","_law_drawn_here","_law_told","_law_found","_law_at","_law_a","_law_b","_law_twins","_law_one"] n9 (defScope y0i):=⟨rfl,rfl,rfl,by decide +kernel,rfl,by decide +kernel,by decide +kernel⟩
noncomputable abbrev y0a(P:Program)(w:World)(K:PySem.W.Frag)(mg:Str→Option Value)(base:Heap)(cs:Cs):Prop:=Fun2 P w K mg base "_law_others" 3 n9 p0x
theorem p0w{f:Addr}{fd:FuncData}(Df:DefAt K mg "_law_others" y0i n9 f fd)(T:Txt K mg cs)(G_law_next:b7 P w K mg base cs):y0a P w K mg base cs:=by
 have nd:=sc_law_others.nd;refine def2 Df sc_law_others (fun ds δ q x h=>?_) (fun cdv A outer s H E Y hr=>⟨_,(v0 (t0o 3 nd (z0 v9 (z0 i5 (z0 o0 (z0 t0r (z0 n0f (z0 (j3 (z0 v9 y0)) (z0 (j3 (z0 t0r y0)) (z0 (j3 (z0 (j3 y0) y0)) (z0 (j3 (z0 (j3 (z0 (n4 1 o0) y0)) y0)) (z0 (j3 (z0 n0f y0)) y0)))))))))))
  (v0 (o0k 3 nd (e2_v 3) (j3 (z0 (u2 x3 i3 (e2_v 2) (j3 (z0 v9 y0))) (z0 (u2 x3 i3 (e2_v 2) (j3 (z0 (j3 (z0 i5 (z0 i5 y0))) y0))) (z0 (j3 (z0 (j3 (z0 v9 (z0 (n4 1 o0) y0))) y0)) y0)))))
  (v0 (z5 (z6 (h0g hr.units1) z1w (e2_v 2) (j3 y0) (l4 _)) (v0 (b3 4 nd (u2 i4 d6 (d0 G_law_next (hr.mono (by decide)) j0 (z0 (e2_v 0) y0)) (y0l 2 T.n_len)))
  (v0 (t0h (n4 2 (e2_v 4)) (v0g rfl (w4 (l3 (i:=5) nd rfl (by first |exact Or.inl rfl |exact Or.inr rfl)) (w4 (l3 (i:=6) nd rfl (by first |exact Or.inl rfl |exact Or.inr rfl)) m9))) (v0f (is:=[5,6]) rfl))
  (v0 (b3 7 nd (u2 r0m k0w (u2 i0v a0x (j3 (z0 (j3 (z0 (y0m (y0w hr.units0) u0q (e2_v 5) o0 (l4 _)) (z0 (e2_v 6) y0))) y0)) (t0p t0x a0t T.n_int l0l (z0 (y0m u0u d_lt (e2_v 5) o0 (l4 _)) y0))) (u2 i0v a0x (j3 (z0 (j3 (z0 (e2_v 5) (z0 (y0m (y0w hr.units0) u0q (e2_v 6) o0 (l4 _)) y0))) y0)) (t0p t0x a0t T.n_int l0l (z0 (y0m u0u d_lt (e2_v 6) o0 (l4 _)) y0)))))
  (h0l (t':=otT) (i0 (n8 PassesOwn.leaving rfl (z0y (u2 r0m k0w (j3 (z0 (j3 (z0 (e2_v 5) (z0 (e2_v 6) (z0 (e2_v 6) y0)))) (z0 (j3 (z0 (e2_v 5) y0)) (z0 (j3 (z0 (t0p p0q d_str T.n_str bt_str (z0 (e2_v 5) y0)) (z0 (e2_v 6) y0))) (z0 (j3 (z0 (e2_v 5) (z0 v9 y0))) (z0 (j3 (z0 (e2_v 5) (z0 (j3 (z0 (e2_v 6) y0)) y0))) (z0 (e2_v 5) (z0 v9 (z0 t0r (z0 n0f y0)))))))))) (e2_v 7))) (l3 (i:=8) nd rfl (by first |exact Or.inl rfl |exact Or.inr rfl)) (j7 (i:=8)) (i0 (j4 (u0r 3 PySem.F.slot_list_append PySem.F.type_list_append l5 i6 (z0 (u2 x3 i3 (u2 x3 i3 (f6 (e2_v 2) m8 (l8 (e2_v 4))) (j3 (z0 (e2_v 8) y0))) (f6 (e2_v 2) (l8 (u2 x3 i3 (e2_v 4) o0)) m8)) y0)))))) (by
   rintro E ρ δ ⟨p,dr,l,k,a,b,tw,xs,c8,rfl,hl,hk,⟨a1,a2⟩,htl,htw,hx,hxl,hq⟩;walk_at "dn";refine ⟨g0b a1 a2,by omega,?_⟩;refine w6 (fun i ρ δ2=>∃(zs:List D) (c8:Cell),ρ=[.val (.ref p),.val dr,.val (.lst (l.map d4)),.own zs,.val (.int (k:Int)),.val (.int a),.val (.int b),.val (.lst tw),c8]∧δ2=δ∧Odds zs∧zs.length≤13+i) ⟨xs,_,rfl,rfl,hx,hxl⟩ ?_ ?_
   ·rintro i d ρ δ2 rest hi ⟨zs,c8,rfl,rfl,hz,hzl⟩ hrest;have hi4:i<9+tw.length:=by have:=(List.getElem?_eq_some_iff.mp hi).1;simp only[List.length_cons]at this;omega
    have hd:twoD d=none∧y6 d=true:=by
     have hm:=List.mem_of_getElem? hi;simp only[List.mem_cons]at hm;rcases hm with rfl |rfl |rfl |rfl |rfl |rfl |rfl |rfl |rfl |hm
     ·exact ⟨rfl,rfl⟩
     ·exact ⟨rfl,rfl⟩
     ·exact ⟨rfl,rfl⟩
     ·exact ⟨rfl,rfl⟩
     ·exact ⟨rfl,rfl⟩
     ·exact ⟨rfl,rfl⟩
     ·exact ⟨rfl,rfl⟩
     ·exact ⟨rfl,rfl⟩
     ·exact ⟨rfl,rfl⟩
     ·exact htw d hm
    unfold z0t;walk_at "dn";rw[m0a (Nat.le_of_lt hk),g0f hk];simp only[List.length_append,List.length_map,List.length_take,List.length_drop,List.length_cons,List.length_nil];exact ⟨rfl,by omega,by omega,by omega,hrest _ _ ⟨_,_,rfl,rfl,hz.snoc (f0z hd.1 hd.2),by rw[List.length_append,List.length_singleton];omega⟩⟩
   ·rintro ρ δ2 ⟨zs,c8,rfl,rfl,hz,hzl⟩;exact hq zs _ _ _ _ _ hz (by simp only[List.length_cons]at hzl;omega)))))) o4)
  (i0 (a3 (e2_v 3)))))),fun ds δ q x h=>?_⟩)
 ·unfold p0x at h;obtain ⟨p,n,full,mark,ws,price,s,f',r,l,rfl,hl,hpr,hD,hq⟩:=h;rfl
 ·unfold p0x at h;obtain ⟨p,n,full,mark,ws,price,s,f',r,l,rfl,hl,hpr,hD,hq⟩:=h;rw[show x4 ["_law_deck_here","_law_drawn_here","_law_told","_law_found","_law_at","_law_a","_law_b","_law_twins","_law_one"] _=[.val _,.val _,.val _,.no,.no,.no,.no,.no,.no]from rfl];have first:Odds [D.non,D.bl true,D.int 5,D.str (Str.ofString "ab"),D.dic [],D.lst [D.non],D.lst [D.str (Str.ofString "ab")],D.lst [D.lst []],D.lst [D.lst [D.int f']],D.lst [D.dic []],D.lst (List.map d4 l++[D.non]),D.lst (List.map d4 l++[D.lst [D.bl true,D.bl true]]),D.lst [D.lst [D.non,D.int f']]]:=by
   have put:∀y:D,twoD y=none→y6 y=true→Odd (.lst (l.map d4++[y])):=fun y h1 h2=>by
    have:=f0z (l:=l) (r:=[]) h1 h2;rw[List.map_nil,List.append_nil]at this;exact this
   refine Odds.cons (n0s rfl rfl) (Odds.cons (n0s rfl rfl) (Odds.cons (n0s rfl rfl) (Odds.cons (n0s rfl rfl) (Odds.cons (n0s rfl rfl) ?_))));refine Odds.cons (v0k rfl rfl) (Odds.cons (v0k rfl rfl) (Odds.cons (v0k rfl rfl) (Odds.cons (v0k rfl rfl) (Odds.cons (v0k rfl rfl) ?_))));exact Odds.cons (put _ rfl rfl) (Odds.cons (put _ rfl rfl) (Odds.cons (v0k rfl rfl) Odds.nil))
  unfold o6 z0a;walk_at "dn";rw[g0e];dsimp only;rw[List.length_map];refine ⟨by omega,by omega,?_⟩;by_cases he:l=[]
  ·rw[decide_eq_true he];simp only[Bool.not_true,Bool.false_eq_true,if_false];exact hq _ _ first (by simp) (hD.mono (by omega))
  ·rw[decide_eq_false he];simp only[Bool.not_false,if_true];have hpos:0<l.length:=List.length_pos_iff.mpr he;refine ⟨p,n,rfl,hD,fun c0 δ3 c1 c2 hD=>?_⟩;have b1:=Int.emod_nonneg c0 (b:=(l.length:Int)) (by omega);have b2:=Int.emod_lt_of_pos c0 (b:=(l.length:Int)) (by omega);obtain ⟨k,hk⟩:=c0o b1;dsimp only;rw[hk]at b2 ⊢;have hk2:k<l.length:=by omega
   have hat:atI (l.map d4) (k:Int)=some (d4 l[k]):=t0u (by rw[List.getElem?_map,List.getElem?_eq_getElem hk2];rfl);rw[hat];refine ⟨by omega,?_⟩;obtain ⟨a1,a2⟩:=hpr l[k] (List.getElem_mem hk2);generalize l[k]=pr at a1 a2 ⊢;obtain ⟨a,b⟩:=pr;unfold d4;walk_at "dn";have l1:=g0a (a<2) (D.lst [D.bl (decide (a=1)),D.int b]);have l2:=g0a (b<2) (D.lst [D.int a,D.bl (decide (b=1))]);refine ⟨by split<;>decide,by split<;>decide,by split<;>decide,by split<;>decide,by split<;>decide,by split<;>decide,by omega,?_⟩;refine ⟨p,_,l,k,a,b,_,_,_,rfl,hl,hk2,⟨a1,a2⟩,by rw[List.length_append];omega,fun d hd=>?_,first,by simp,fun ys c4 c5 c6 c7 c8 h1 h2=>hq ys _ h1 h2 hD⟩;rcases List.mem_append.mp hd with hd |hd
   ·rw[l1.2 d hd];exact ⟨rfl,rfl⟩
   ·rw[l2.2 d hd];exact ⟨rfl,rfl⟩
theorem z1i(l:List (Int×Int)):eqRs (l.map n0z) (l.map n0z)=some true:=t0f fun x hx=>by
 obtain ⟨p,_,rfl⟩:=List.mem_map.mp hx;show (if ([D.int p.1,D.int p.2].all m7&& [D.int p.1,D.int p.2].all m7)=true then some (eqDs [D.int p.1,D.int p.2] [D.int p.1,D.int p.2])else none)=some true;rw[if_pos (show ([D.int p.1,D.int p.2].all m7&& [D.int p.1,D.int p.2].all m7)=true from rfl)];have:=t0g [p.1,p.2] [p.1,p.2];rw[decide_eq_true rfl]at this;exact congrArg some this
theorem d0m(l:List (Int×Int)):eqRs (l.map d4) (l.map d4)=some true:=t0f fun x hx=>by
 obtain ⟨p,_,rfl⟩:=List.mem_map.mp hx;show (if ([D.int p.1,D.int p.2].all m7&& [D.int p.1,D.int p.2].all m7)=true then some (eqDs [D.int p.1,D.int p.2] [D.int p.1,D.int p.2])else none)=some true;rw[if_pos (show ([D.int p.1,D.int p.2].all m7&& [D.int p.1,D.int p.2].all m7)=true from rfl)];have:=t0g [p.1,p.2] [p.1,p.2];rw[decide_eq_true rfl]at this;exact congrArg some this
theorem p0v{need:Int→Int→Bool}{hi:Int}{g:Int×Int→D}(hg:∀p,twoD (g p)=some p):∀(l:List (Int×Int)) (f:Int),r0w need hi f (l.map g)=strZ need hi f l
 | [],f=>rfl
 |(a,b)::l,f=>by
  rw[List.map_cons];unfold r0w strZ;rw[hg (a,b)];dsimp only;rw[p0v hg l (b+1)]
theorem z1h{need:Int→Int→Bool}{hi f k:Int}{l:List (Int×Int)}:n0y need hi f (q0a k l)=strZ need hi f l:=by
 unfold q0a;split
 ·exact p0v (fun p=>rfl) l f
 ·exact p0v (fun p=>rfl) l f
theorem j0o{k:Int}{l:List (Int×Int)}:u0v (q0a k l)=true:=by
 unfold q0a;split
 ·unfold u0v rowD;dsimp only;rw[List.all_eq_true.mpr (fun d hd=>by obtain ⟨s,_,rfl⟩:=List.mem_map.mp hd;rfl)];rfl
 ·unfold u0v rowD;dsimp only;rw[List.all_eq_true.mpr (fun d hd=>by obtain ⟨s,_,rfl⟩:=List.mem_map.mp hd;rfl)];rfl
noncomputable abbrev f0y:List Str:=["_law_script"]
theorem sc_law:FnScope ["_law_script","_law_deck_here","_law_drawn_here","_law_row_here","_law_stand","_law_first","_law_rounds","_law_part_here","_law_told","_law_k","_law_bent_here","_law_handed","_law_told_right","_law_thing"] f0y (defScope z1p):=⟨rfl,rfl,rfl,by decide +kernel,rfl,by decide +kernel,by decide +kernel⟩
theorem ok_law{f:Addr}{fd:FuncData}(Df:DefAt K mg "law" z1p f0y f fd)(T:Txt K mg cs)(G_law_deck:v0s P w K mg base cs)(G_law_drawn:w0w P w K mg base cs)(G_law_next:b7 P w K mg base cs)(G_law_made:v0q P w K mg base cs)(G_law_needs_right:z8 P w K mg base cs)(G_law_refused:y0x P w K mg base cs)(G_law_between:y0y P w K mg base cs)(G_law_bent:v0l P w K mg base cs)(G_law_row:s0g P w K mg base cs)(G_is_stretches:q8 P w K mg base cs)(G_law_is:u0a P w K mg base cs)(G_law_are:s0h P w K mg base cs)(G_law_others:y0a P w K mg base cs):FnOk P w K mg base (CX1 P w) 10 f fd f0y (upF K j0z):=by
 have nd:=sc_law.nd;refine def2F Df sc_law (fun ds δ q x h=>?_) (fun cdv A outer s H E Y hr=>⟨_,(v0 (b3 1 nd (d0 G_law_deck (hr.mono (by decide)) j0 (z0 (e2_v 0) (z0 o0 y0))))
  (v0 (b3 2 nd (d0 G_law_drawn (hr.mono (by decide)) j0 (z0 (e2_v 1) y0)))
  (v0 (t0h (e2_v 2) (v0g rfl (w4 (l3 (i:=3) nd rfl (by first |exact Or.inl rfl |exact Or.inr rfl)) (w4 (l3 (i:=4) nd rfl (by first |exact Or.inl rfl |exact Or.inr rfl)) (w4 (l3 (i:=5) nd rfl (by first |exact Or.inl rfl |exact Or.inr rfl)) (w4 (l3 (i:=6) nd rfl (by first |exact Or.inl rfl |exact Or.inr rfl)) m9))))) (v0f (is:=[3,4,5,6]) rfl))
  (v0 (b3 7 nd (d0 G_law_made (hr.mono (by decide)) j0 (z0 (e2_v 3) (z0 (d0 G_law_next (hr.mono (by decide)) j0 (z0 (e2_v 1) y0)) y0))))
  (v0 (z5 (PW2.pt (k0a (b4 (p5 (d0 G_law_needs_right (hr.mono (by decide)) j0 (z0 (e2_v 7) (z0 (e2_v 2) y0))))) (p0c (b4 (p5 (d0 G_law_refused (hr.mono (by decide)) j0 (z0 (e2_v 7) (z0 (e2_v 2) y0)))))))) (i0 (a3 i5)) o4)
  (v0 (b3 8 nd (d0 G_law_between (hr.mono (by decide)) j0 (z0 (e2_v 2) y0)))
  (v0 (n8 PassesOwn.leaving rfl (a0f T.n_enumerate (z0 (d0 G_law_bent (hr.mono (by decide)) j0 (z0 (e2_v 1) (z0 (e2_v 2) (z0 (e2_v 8) y0)))) y0)) (d0j rfl (w4 (l3 (i:=9) nd rfl (by first |exact Or.inl rfl |exact Or.inr rfl)) (w4 (l3 (i:=10) nd rfl (by first |exact Or.inl rfl |exact Or.inr rfl)) m9))) (c0s (is:=[9,10]) rfl) (v0 (b3 11 nd (d0 G_law_row (hr.mono (by decide)) j0 (z0 (e2_v 10) (z0 (e2_v 9) y0))))
  (v0 (b3 12 nd (d0 G_is_stretches (hr.mono (by decide)) j0 (z0 (e2_v 7) (z0 (e2_v 4) (z0 (e2_v 5) (z0 (e2_v 6) (z0 (e2_v 11) y0)))))))
  (v0 (z5 (b4 (p5 (d0 G_law_is (hr.mono (by decide)) j0 (z0 (e2_v 12) (z0 (d0 G_law_are (hr.mono (by decide)) j0 (z0 (e2_v 2) (z0 (e2_v 10) y0))) y0))))) (i0 (a3 i5)) o4)
  (i0 (z5 (z6 (h0g hr.units1) z1w (e2_v 11) (d0 G_law_row (hr.mono (by decide)) j0 (z0 (e2_v 10) (z0 (e2_v 9) y0))) (l4 _)) (i0 (a3 i5)) o4))))))
  (v0 (n8 PassesOwn.leaving rfl (z0y (d0 G_law_others (hr.mono (by decide)) j0 (z0 (e2_v 1) (z0 (e2_v 2) (z0 (e2_v 8) y0))))) (l3 (i:=13) nd rfl (by first |exact Or.inl rfl |exact Or.inr rfl)) (j7 (i:=13)) (i0 (z5 (z6 n0k d_notB (d0 G_is_stretches (hr.mono (by decide)) j0 (z0 (e2_v 7) (z0 (e2_v 4) (z0 (e2_v 5) (z0 (e2_v 6) (z0 (e2_v 13) y0)))))) i5 (l4 _)) (i0 (a3 i5)) o4)))
  (i0 (a3 i5)))))))))),fun ds δ q x h=>?_⟩)
 ·unfold j0z at h;obtain ⟨ns,rfl,hn,rfl,hq⟩:=h;rfl
 ·unfold j0z at h;obtain ⟨ns,rfl,hn,rfl,hq⟩:=h;rw[show x4 ["_law_script","_law_deck_here","_law_drawn_here","_law_row_here","_law_stand","_law_first","_law_rounds","_law_part_here","_law_told","_law_k","_law_bent_here","_law_handed","_law_told_right","_law_thing"] _=[.val _,.no,.no,.no,.no,.no,.no,.no,.no,.no,.no,.no,.no,.no]from rfl];walk_at "ds";refine ⟨ns,40,rfl,rfl,hn,by decide,by decide,fun p δ1 hD=>?_⟩;walk_at "ds";refine ⟨p,25,rfl,hD,fun full mark ws price s f' r δ2 ok hD=>?_⟩;rw[h0e];walk_at "ds";unfold o6;walk_at "ds";refine ⟨p,24,rfl,hD,fun v δ3 v1 v2 hD=>?_⟩;walk_at "ds";refine ⟨_,_,_,_,_,rfl,ok.ok,?_⟩;rw[h0e];walk_at "ds";refine ⟨_,_,_,_,_,_,_,rfl,ok,?_⟩;walk_at "ds";refine ⟨_,_,_,_,_,_,_,rfl,ok,?_⟩;walk_at "ds";refine ⟨_,_,_,_,_,_,_,rfl,ok,fun l hl hst=>?_⟩;rw[h0e];walk_at "ds";refine ⟨p,21,_,_,_,_,_,_,_,l,rfl,hl,hD,fun xs δ4 hx hxl hD=>?_⟩;walk_at "ds";have no1:u3 (.int s) mark full=false→False:=fun e=>by rw[b5 ok.s1 ok.s2]at e;cases e
  have no2:u3 (.int f') 0 47=false∨u3 (.int r) 0 24=false→False:=fun e=>by
   rcases e with e |e
   ·rw[b5 ok.f1 ok.f2]at e;cases e
   ·rw[b5 ok.r1 ok.r2]at e;cases e
  refine w6 (fun i ρ δ5=>∃c9 c10 c11 c12,ρ=[.val (D.scr (List.map D.int ns)),.val (.ref p),.val (o6 full mark ws price s f' r),.val (rowL full mark ws price),.val (.int s),.val (.int f'),.val (.int r),.val (a5 cs full mark ws price),.val (z0a l),c9,c10,c11,c12,.no]∧δ5=δ4) ⟨_,_,_,_,rfl,rfl⟩ ?_ ?_
  ·rintro i d ρ δ5 rest hi ⟨c9,c10,c11,c12,rfl,rfl⟩ hrest;obtain ⟨e,he,rfl⟩:=t0k hi;rw[List.getElem?_map,Option.map_eq_some_iff]at he;obtain ⟨t,ht,rfl⟩:=he;have htl:=hx t (List.mem_of_getElem? ht);unfold z0t;walk_at "ds";refine ⟨t,_,rfl,by omega,?_⟩;rw[h0e];walk_at "ds";refine ⟨_,_,_,_,_,_,_,_,rfl,ok.ok.l1,rfl,rfl,rfl,j0o,fun e=>(no1 e).elim,fun _ e=>(no2 e).elim,fun s0 f0 r0 e1 e2 e3 _ _ _ _ _ _=>?_⟩;cases e1;cases e2;cases e3;rw[z1h];walk_at "ds";refine ⟨_,_,_,_,_,_,_,t,rfl,ok,?_⟩;walk_at "ds";refine ⟨_,_,rfl,?_⟩;rw[beq_self_eq_true];walk_at "ds";refine ⟨t,_,rfl,by omega,?_⟩;rw[h0e];have fin:∀k:Int,eqRF true (q0a k t) (q0a k t)=fun q=>q (.bl false):=fun k=>by
    funext q;unfold q0a;split
    ·show (match eqRs (t.map n0z) (t.map n0z)with |some r=>q (.bl (if true=true then !r else r))|none=>False)=_;rw[z1i];rfl
    ·show (match eqRs (t.map d4) (t.map d4)with |some r=>q (.bl (if true=true then !r else r))|none=>False)=_;rw[d0m];rfl
   rw[fin];walk_at "ds";exact hrest _ _ ⟨_,_,_,_,rfl,rfl⟩
  rintro ρ δ5 ⟨c9,c10,c11,c12,rfl,rfl⟩;walk_at "ds";refine ⟨p,20,_,_,_,_,_,_,_,l,rfl,hl,fun pr hpr=>?_,hD,fun ys δ6 hy hyl hD=>?_⟩
  ·have h1:=g0h hst pr hpr;have h2:=ok.f1;have h3:=ok.f2;have h4:=ok.r2;omega
  walk_at "ds";refine w6 (fun i ρ δ7=>∃c13,ρ=[.val (D.scr (List.map D.int ns)),.val (.ref p),.val (o6 full mark ws price s f' r),.val (rowL full mark ws price),.val (.int s),.val (.int f'),.val (.int r),.val (a5 cs full mark ws price),.val (z0a l),c9,c10,c11,c12,c13]∧δ7=δ6) ⟨_,rfl,rfl⟩ ?_ ?_
  ·rintro i d ρ δ7 rest hi ⟨c13,rfl,rfl⟩ hrest;obtain ⟨o1,o2⟩:=hy d (List.mem_of_getElem? hi);unfold z0t;walk_at "ds";refine ⟨_,_,_,_,_,_,_,_,rfl,ok.ok.l1,rfl,rfl,rfl,o1,fun e=>(no1 e).elim,fun _ e=>(no2 e).elim,fun s0 f0 r0 e1 e2 e3 _ _ _ _ _ _=>?_⟩;rw[o2];walk_at "ds";exact hrest _ _ ⟨_,rfl,rfl⟩
  rintro ρ δ7 ⟨c13,rfl,rfl⟩;walk_at "ds";exact hq _
theorem r0t:FnScope ["self","at"] ["self","at"] (defScope z0m):=⟨rfl,rfl,rfl,by decide +kernel,rfl,by decide +kernel,by decide +kernel⟩
theorem r0s{f C:Addr}{fd:FuncData}(F:Fun K "__init__" "NoPart.__init__" z0m f fd)(xc:XC K C)(n0:NoAttr K C "at"):FnOk P w K mg base CX0 1 f fd ["self","at"] (spXI C "at"):=by
 refine F.ok r0t (fun vs H Q E h=>?_) (fun cdv A outer s H vs Q E hr h=>⟨_,y0t (n0l (pv 0) (pv 1) rfl),?_⟩)
 ·obtain ⟨x,v,rfl,_⟩:=h;rfl
 ·obtain ⟨x,v,rfl,hx,q⟩:=h;exact ⟨_,rfl,_,rfl,x,C,rfl,hx,xc,n0,fun d hd hne=>q d hd hne⟩
theorem s0f:FnScope ["self","at"] ["self","at"] (defScope e9):=⟨rfl,rfl,rfl,by decide +kernel,rfl,by decide +kernel,by decide +kernel⟩
theorem s0e{f C:Addr}{fd:FuncData}(F:Fun K "__init__" "NoWorks.__init__" e9 f fd)(xc:XC K C)(n0:NoAttr K C "at"):FnOk P w K mg base CX0 1 f fd ["self","at"] (spXI C "at"):=by
 refine F.ok s0f (fun vs H Q E h=>?_) (fun cdv A outer s H vs Q E hr h=>⟨_,y0t (n0l (pv 0) (pv 1) rfl),?_⟩)
 ·obtain ⟨x,v,rfl,_⟩:=h;rfl
 ·obtain ⟨x,v,rfl,hx,q⟩:=h;exact ⟨_,rfl,_,rfl,x,C,rfl,hx,xc,n0,fun d hd hne=>q d hd hne⟩
theorem r0r:FnScope ["self","at"] ["self","at"] (defScope z0l):=⟨rfl,rfl,rfl,by decide +kernel,rfl,by decide +kernel,by decide +kernel⟩
theorem r0q{f C:Addr}{fd:FuncData}(F:Fun K "__init__" "NoPlan.__init__" z0l f fd)(xc:XC K C)(n0:NoAttr K C "at"):FnOk P w K mg base CX0 1 f fd ["self","at"] (spXI C "at"):=by
 refine F.ok r0r (fun vs H Q E h=>?_) (fun cdv A outer s H vs Q E hr h=>⟨_,y0t (n0l (pv 0) (pv 1) rfl),?_⟩)
 ·obtain ⟨x,v,rfl,_⟩:=h;rfl
 ·obtain ⟨x,v,rfl,hx,q⟩:=h;exact ⟨_,rfl,_,rfl,x,C,rfl,hx,xc,n0,fun d hd hne=>q d hd hne⟩
theorem n0r:FnScope ["self","round_number"] ["self","round_number"] (defScope x0e):=⟨rfl,rfl,rfl,by decide +kernel,rfl,by decide +kernel,by decide +kernel⟩
theorem n0q{f C:Addr}{fd:FuncData}(F:Fun K "__init__" "Shut.__init__" x0e f fd)(xc:XC K C)(n0:NoAttr K C "round_number"):FnOk P w K mg base CX0 1 f fd ["self","round_number"] (spXI C "round_number"):=by
 refine F.ok n0r (fun vs H Q E h=>?_) (fun cdv A outer s H vs Q E hr h=>⟨_,y0t (n0l (pv 0) (pv 1) rfl),?_⟩)
 ·obtain ⟨x,v,rfl,_⟩:=h;rfl
 ·obtain ⟨x,v,rfl,hx,q⟩:=h;exact ⟨_,rfl,_,rfl,x,C,rfl,hx,xc,n0,fun d hd hne=>q d hd hne⟩
theorem p0u:FnScope ["self","round_number","part_number"] ["self","round_number","part_number"] (defScope y0h):=⟨rfl,rfl,rfl,by decide +kernel,rfl,by decide +kernel,by decide +kernel⟩
theorem p0t{f C:Addr}{fd:FuncData}(F:Fun K "__init__" "Falls.__init__" y0h f fd)(xc:XC K C)(n0:NoAttr K C "round_number")(n1:NoAttr K C "part_number"):FnOk P w K mg base CX0 1 f fd ["self","round_number","part_number"] (spXI2 C "round_number" "part_number"):=by
 refine F.ok p0u (fun vs H Q E h=>?_) (fun cdv A outer s H vs Q E hr h=>⟨_,l0y (n0l (pv 0) (pv 1) rfl) (y0t (ps_x1 (pv 0) (pv 2) rfl)),?_⟩)
 ·obtain ⟨x,v,u,rfl,_⟩:=h;rfl
 ·obtain ⟨x,v,u,rfl,hx,q⟩:=h;refine ⟨_,rfl,_,rfl,x,C,rfl,hx,xc,n0,fun d hd hne=>?_⟩;exact ⟨_,rfl,_,rfl,x,C,d,_,rfl,o3,by rw[u0 hne,o3],hne,by show 1<1000;decide,xc,n1,q d hd hne⟩
theorem u0m:FnScope ["self","most"] ["self","most"] (defScope u9):=⟨rfl,rfl,rfl,by decide +kernel,rfl,by decide +kernel,by decide +kernel⟩
theorem u0l{f C:Addr}{fd:FuncData}(F:Fun K "__init__" "TooGreat.__init__" u9 f fd)(xc:XC K C)(n0:NoAttr K C "most"):FnOk P w K mg base CX0 1 f fd ["self","most"] (spXI C "most"):=by
 refine F.ok u0m (fun vs H Q E h=>?_) (fun cdv A outer s H vs Q E hr h=>⟨_,y0t (n0l (pv 0) (pv 1) rfl),?_⟩)
 ·obtain ⟨x,v,rfl,_⟩:=h;rfl
 ·obtain ⟨x,v,rfl,hx,q⟩:=h;exact ⟨_,rfl,_,rfl,x,C,rfl,hx,xc,n0,fun d hd hne=>q d hd hne⟩
theorem r0p:FnScope ["self","row"] ["self","row"] (defScope z0k):=⟨rfl,rfl,rfl,by decide +kernel,rfl,by decide +kernel,by decide +kernel⟩
theorem r0o{f C:Addr}{fd:FuncData}(F:Fun K "__init__" "NoText.__init__" z0k f fd)(xc:XC K C)(n0:NoAttr K C "row"):FnOk P w K mg base CX0 1 f fd ["self","row"] (spXI C "row"):=by
 refine F.ok r0p (fun vs H Q E h=>?_) (fun cdv A outer s H vs Q E hr h=>⟨_,y0t (n0l (pv 0) (pv 1) rfl),?_⟩)
 ·obtain ⟨x,v,rfl,_⟩:=h;rfl
 ·obtain ⟨x,v,rfl,hx,q⟩:=h;exact ⟨_,rfl,_,rfl,x,C,rfl,hx,xc,n0,fun d hd hne=>q d hd hne⟩
@[elab_as_elim] theorem el0{α:Type}{motive:List α→Prop}(us:List α)(hl:us.length=0)(h:motive []):motive us:=match us,hl with
 | [],_=>h
@[elab_as_elim] theorem el1{α:Type}{motive:List α→Prop}(us:List α)(hl:us.length=1)(h:∀a,motive [a]):motive us:=match us,hl with
 | [a],_=>h a
@[elab_as_elim] theorem el2{α:Type}{motive:List α→Prop}(us:List α)(hl:us.length=2)(h:∀a b,motive [a,b]):motive us:=match us,hl with
 | [a,b],_=>h a b
@[elab_as_elim] theorem el3{α:Type}{motive:List α→Prop}(us:List α)(hl:us.length=3)(h:∀a b c,motive [a,b,c]):motive us:=match us,hl with
 | [a,b,c],_=>h a b c
@[elab_as_elim] theorem el4{α:Type}{motive:List α→Prop}(us:List α)(hl:us.length=4)(h:∀a b c d,motive [a,b,c,d]):motive us:=match us,hl with
 | [a,b,c,d],_=>h a b c d
@[elab_as_elim] theorem el5{α:Type}{motive:List α→Prop}(us:List α)(hl:us.length=5)(h:∀a b c d e,motive [a,b,c,d,e]):motive us:=match us,hl with
 | [a,b,c,d,e],_=>h a b c d e
@[elab_as_elim] theorem el6{α:Type}{motive:List α→Prop}(us:List α)(hl:us.length=6)(h:∀a b c d e f,motive [a,b,c,d,e,f]):motive us:=match us,hl with
 | [a,b,c,d,e,f],_=>h a b c d e f
@[elab_as_elim] theorem el7{α:Type}{motive:List α→Prop}(us:List α)(hl:us.length=7)(h:∀a b c d e f g,motive [a,b,c,d,e,f,g]):motive us:=match us,hl with
 | [a,b,c,d,e,f,g],_=>h a b c d e f g
@[elab_as_elim] theorem el8{α:Type}{motive:List α→Prop}(us:List α)(hl:us.length=8)(h:∀a b c d e f g i,motive [a,b,c,d,e,f,g,i]):motive us:=match us,hl with
 | [a,b,c,d,e,f,g,i],_=>h a b c d e f g i
theorem all_mk{l:PySem.W.OpenLaw}{w:World}{K:PySem.W.Frag}{h:Heap}{mg:Str→Option Value}{fa:Addr}{cs:Cs}(X:K.In h)(G:h.Ns mainGlobals mg)(hfa:mg "law"=some (.ref fa))(T:Txt K mg cs)(h_is_number:HD.FnF K "is_number" x0k)(h_is_whole:HD.FnF K "is_whole" w0b)(h_is_row:HD.FnF K "is_row" q0m)(h_is_whole_row:HD.FnF K "is_whole_row" i9)(h_loss:HD.FnF K "loss" g0x)(h_is_stand:HD.FnF K "is_stand" w0a)(h_check_stand:HD.FnF K "check_stand" f8)(h_check_first:HD.FnF K "check_first" z0s)(h_check_rounds:HD.FnF K "check_rounds" h9)(h_check_run:HD.FnF K "check_run" z0r)(h_stands_until_fall:HD.FnF K "stands_until_fall" b6)(h_needs_change:HD.FnF K "needs_change" f9)(h_needs:HD.FnF K "needs" m0w)(h_is_stretch:HD.FnF K "is_stretch" y0j)(h_is_stretches:HD.FnF K "is_stretches" y8)(h_law_mixed:HD.FnF K "_law_mixed" x0j)(h_law_deck:HD.FnF K "_law_deck" v0z)(h_law_next:HD.FnF K "_law_next" v0y)(h_law_part:HD.FnF K "_law_part" v0x)(h_law_lost:HD.FnF K "_law_lost" v0w)(h_law_made:HD.FnF K "_law_made" v0v)(h_law_kinds:HD.FnF K "_law_kinds" x0i)(h_law_is_just:HD.FnF K "_law_is_just" z0q)(h_law_changes:HD.FnF K "_law_changes" z0p)(h_law_falls:HD.FnF K "_law_falls" x0h)(h_law_needs:HD.FnF K "_law_needs" x0g)(h_law_drawn:HD.FnF K "_law_drawn" x0f)(h_law_is:HD.FnF K "_law_is" q0l)(h_law_are:HD.FnF K "_law_are" t0e)(h_law_between:HD.FnF K "_law_between" z0o)(h_law_bent:HD.FnF K "_law_bent" v0u)(h_law_others:HD.FnF K "_law_others" y0i)(h_law_row:HD.FnF K "_law_row" t0d)(h_law_needs_right:HD.FnF K "_law_needs_right" d7)(h_law_rounds_refused:HD.FnF K "_law_rounds_refused" n6)(h_law_stands_refused:HD.FnF K "_law_stands_refused" m6)(h_law_paper_refused:HD.FnF K "_law_paper_refused" a6)(h_law_refused:HD.FnF K "_law_refused" z0n)(h_law:HD.FnF K "law" z1p)(x_NoPart:HD.XMkF K cs.NoPart "NoPart.__init__" z0m)(x_NoWorks:HD.XMkF K cs.NoWorks "NoWorks.__init__" e9)(x_NoPlan:HD.XMkF K cs.NoPlan "NoPlan.__init__" z0l)(x_Shut:HD.XMkF K cs.Shut "Shut.__init__" x0e)(x_Falls:HD.XMkF K cs.Falls "Falls.__init__" y0h)(x_TooGreat:HD.XMkF K cs.TooGreat "TooGreat.__init__" u9)(x_NoText:HD.XMkF K cs.NoText "NoText.__init__" z0k)(o_Part:HD.MkF K cs.Part "Part.__init__" x0d):
 ∃fd:FuncData,(∀(s:Shared) (v:Value),BindsTo s fd ⟨[v],[]⟩ [("_law_script",v)])∧∀base:Heap,K.In base→base.Ns mainGlobals mg→FnOk l.prog w K mg base (CX1 l.prog w) 10 fa fd f0y (upF K j0z):=by
 obtain ⟨f_is_number,d_is_number,D_is_number⟩:=h_is_number.at X G (ps:=z0j) fun _ _ _ _ _ _ us hl=>el1 us hl (fun _=>rfl)
 obtain ⟨f_is_whole,d_is_whole,D_is_whole⟩:=h_is_whole.at X G (ps:=x0y) fun _ _ _ _ _ _ us hl=>el3 us hl (fun _ _ _=>rfl)
 obtain ⟨f_is_row,d_is_row,D_is_row⟩:=h_is_row.at X G (ps:=u0e) fun _ _ _ _ _ _ us hl=>el1 us hl (fun _=>rfl)
 obtain ⟨f_is_whole_row,d_is_whole_row,D_is_whole_row⟩:=h_is_whole_row.at X G (ps:=x8) fun _ _ _ _ _ _ us hl=>el5 us hl (fun _ _ _ _ _=>rfl)
 obtain ⟨f_loss,d_loss,D_loss⟩:=h_loss.at X G (ps:=k0s) fun _ _ _ _ _ _ us hl=>el2 us hl (fun _ _=>rfl)
 obtain ⟨f_is_stand,d_is_stand,D_is_stand⟩:=h_is_stand.at X G (ps:=x0x) fun _ _ _ _ _ _ us hl=>el2 us hl (fun _ _=>rfl)
 obtain ⟨f_check_stand,d_check_stand,D_check_stand⟩:=h_check_stand.at X G (ps:=u6) fun _ _ _ _ _ _ us hl=>el2 us hl (fun _ _=>rfl)
 obtain ⟨f_check_first,d_check_first,D_check_first⟩:=h_check_first.at X G (ps:=d8) fun _ _ _ _ _ _ us hl=>el1 us hl (fun _=>rfl)
 obtain ⟨f_check_rounds,d_check_rounds,D_check_rounds⟩:=h_check_rounds.at X G (ps:=v8) fun _ _ _ _ _ _ us hl=>el2 us hl (fun _ _=>rfl)
 obtain ⟨f_check_run,d_check_run,D_check_run⟩:=h_check_run.at X G (ps:=a7) fun _ _ _ _ _ _ us hl=>el4 us hl (fun _ _ _ _=>rfl)
 obtain ⟨f_stands_until_fall,d_stands_until_fall,D_stands_until_fall⟩:=h_stands_until_fall.at X G (ps:=n5) fun _ _ _ _ _ _ us hl=>el4 us hl (fun _ _ _ _=>rfl)
 obtain ⟨f_needs_change,d_needs_change,D_needs_change⟩:=h_needs_change.at X G (ps:=u8) fun _ _ _ _ _ _ us hl=>el5 us hl (fun _ _ _ _ _=>rfl)
 obtain ⟨f_needs,d_needs,D_needs⟩:=h_needs.at X G (ps:=q0d) fun _ _ _ _ _ _ us hl=>el5 us hl (fun _ _ _ _ _=>rfl)
 obtain ⟨f_is_stretch,d_is_stretch,D_is_stretch⟩:=h_is_stretch.at X G (ps:=o9) fun _ _ _ _ _ _ us hl=>el3 us hl (fun _ _ _=>rfl)
 obtain ⟨f_is_stretches,d_is_stretches,D_is_stretches⟩:=h_is_stretches.at X G (ps:=j5) fun _ _ _ _ _ _ us hl=>el5 us hl (fun _ _ _ _ _=>rfl)
 obtain ⟨f_law_mixed,d_law_mixed,D_law_mixed⟩:=h_law_mixed.at X G (ps:=z0i) fun _ _ _ _ _ _ us hl=>el2 us hl (fun _ _=>rfl)
 obtain ⟨f_law_deck,d_law_deck,D_law_deck⟩:=h_law_deck.at X G (ps:=x0u) fun _ _ _ _ _ _ us hl=>el2 us hl (fun _ _=>rfl)
 obtain ⟨f_law_next,d_law_next,D_law_next⟩:=h_law_next.at X G (ps:=x0v) fun _ _ _ _ _ _ us hl=>el1 us hl (fun _=>rfl)
 obtain ⟨f_law_part,d_law_part,D_law_part⟩:=h_law_part.at X G (ps:=x0t) fun _ _ _ _ _ _ us hl=>el3 us hl (fun _ _ _=>rfl)
 obtain ⟨f_law_lost,d_law_lost,D_law_lost⟩:=h_law_lost.at X G (ps:=x0s) fun _ _ _ _ _ _ us hl=>el2 us hl (fun _ _=>rfl)
 obtain ⟨f_law_made,d_law_made,D_law_made⟩:=h_law_made.at X G (ps:=x0q) fun _ _ _ _ _ _ us hl=>el2 us hl (fun _ _=>rfl)
 obtain ⟨f_law_kinds,d_law_kinds,D_law_kinds⟩:=h_law_kinds.at X G (ps:=z0h) fun _ _ _ _ _ _ us hl=>el1 us hl (fun _=>rfl)
 obtain ⟨f_law_is_just,d_law_is_just,D_law_is_just⟩:=h_law_is_just.at X G (ps:=a8) fun _ _ _ _ _ _ us hl=>el2 us hl (fun _ _=>rfl)
 obtain ⟨f_law_changes,d_law_changes,D_law_changes⟩:=h_law_changes.at X G (ps:=y9) fun _ _ _ _ _ _ us hl=>el4 us hl (fun _ _ _ _=>rfl)
 obtain ⟨f_law_falls,d_law_falls,D_law_falls⟩:=h_law_falls.at X G (ps:=z0d) fun _ _ _ _ _ _ us hl=>el4 us hl (fun _ _ _ _=>rfl)
 obtain ⟨f_law_needs,d_law_needs,D_law_needs⟩:=h_law_needs.at X G (ps:=z0c) fun _ _ _ _ _ _ us hl=>el5 us hl (fun _ _ _ _ _=>rfl)
 obtain ⟨f_law_drawn,d_law_drawn,D_law_drawn⟩:=h_law_drawn.at X G (ps:=y0z) fun _ _ _ _ _ _ us hl=>el1 us hl (fun _=>rfl)
 obtain ⟨f_law_is,d_law_is,D_law_is⟩:=h_law_is.at X G (ps:=u0b) fun _ _ _ _ _ _ us hl=>el2 us hl (fun _ _=>rfl)
 obtain ⟨f_law_are,d_law_are,D_law_are⟩:=h_law_are.at X G (ps:=w0l) fun _ _ _ _ _ _ us hl=>el2 us hl (fun _ _=>rfl)
 obtain ⟨f_law_between,d_law_between,D_law_between⟩:=h_law_between.at X G (ps:=x9) fun _ _ _ _ _ _ us hl=>el1 us hl (fun _=>rfl)
 obtain ⟨f_law_bent,d_law_bent,D_law_bent⟩:=h_law_bent.at X G (ps:=x0p) fun _ _ _ _ _ _ us hl=>el3 us hl (fun _ _ _=>rfl)
 obtain ⟨f_law_others,d_law_others,D_law_others⟩:=h_law_others.at X G (ps:=n9) fun _ _ _ _ _ _ us hl=>el3 us hl (fun _ _ _=>rfl)
 obtain ⟨f_law_row,d_law_row,D_law_row⟩:=h_law_row.at X G (ps:=w0k) fun _ _ _ _ _ _ us hl=>el2 us hl (fun _ _=>rfl)
 obtain ⟨f_law_needs_right,d_law_needs_right,D_law_needs_right⟩:=h_law_needs_right.at X G (ps:=r6) fun _ _ _ _ _ _ us hl=>el2 us hl (fun _ _=>rfl)
 obtain ⟨f_law_rounds_refused,d_law_rounds_refused,D_law_rounds_refused⟩:=h_law_rounds_refused.at X G (ps:=x5) fun _ _ _ _ _ _ us hl=>el5 us hl (fun _ _ _ _ _=>rfl)
 obtain ⟨f_law_stands_refused,d_law_stands_refused,D_law_stands_refused⟩:=h_law_stands_refused.at X G (ps:=w5) fun _ _ _ _ _ _ us hl=>el3 us hl (fun _ _ _=>rfl)
 obtain ⟨f_law_paper_refused,d_law_paper_refused,D_law_paper_refused⟩:=h_law_paper_refused.at X G (ps:=m5) fun _ _ _ _ _ _ us hl=>el4 us hl (fun _ _ _ _=>rfl)
 obtain ⟨f_law_refused,d_law_refused,D_law_refused⟩:=h_law_refused.at X G (ps:=w9) fun _ _ _ _ _ _ us hl=>el2 us hl (fun _ _=>rfl)
 obtain ⟨f_law,d_law,D_law⟩:=h_law.at X G (ps:=f0y) fun _ _ _ _ _ _ us hl=>el1 us hl (fun _=>rfl)
 obtain ⟨fi_NoPart,fd_NoPart,m_NoPart,F_NoPart⟩:=x_NoPart;have M_NoPart:∀base,MkE l.prog w K mg base "NoPart" cs.NoPart 1 ["self","at"] (spXI cs.NoPart "at"):=fun base=>⟨⟨fi_NoPart,_,m_NoPart,r0s F_NoPart (T.err _ (List.mem_of_getElem? (show cs.ds[0]?=some cs.NoPart from rfl))).xc T.a_NoPart_at,F_NoPart.binds (ps:=["self","at"]) fun _ _ _ _ _ _ us hl=>el2 us hl (fun _ _=>rfl)⟩,T.c_NoPart⟩
 obtain ⟨fi_NoWorks,fd_NoWorks,m_NoWorks,F_NoWorks⟩:=x_NoWorks;have M_NoWorks:∀base,MkE l.prog w K mg base "NoWorks" cs.NoWorks 1 ["self","at"] (spXI cs.NoWorks "at"):=fun base=>⟨⟨fi_NoWorks,_,m_NoWorks,s0e F_NoWorks (T.err _ (List.mem_of_getElem? (show cs.ds[1]?=some cs.NoWorks from rfl))).xc T.a_NoWorks_at,F_NoWorks.binds (ps:=["self","at"]) fun _ _ _ _ _ _ us hl=>el2 us hl (fun _ _=>rfl)⟩,T.c_NoWorks⟩
 obtain ⟨fi_NoPlan,fd_NoPlan,m_NoPlan,F_NoPlan⟩:=x_NoPlan;have M_NoPlan:∀base,MkE l.prog w K mg base "NoPlan" cs.NoPlan 1 ["self","at"] (spXI cs.NoPlan "at"):=fun base=>⟨⟨fi_NoPlan,_,m_NoPlan,r0q F_NoPlan (T.err _ (List.mem_of_getElem? (show cs.ds[4]?=some cs.NoPlan from rfl))).xc T.a_NoPlan_at,F_NoPlan.binds (ps:=["self","at"]) fun _ _ _ _ _ _ us hl=>el2 us hl (fun _ _=>rfl)⟩,T.c_NoPlan⟩
 obtain ⟨fi_Shut,fd_Shut,m_Shut,F_Shut⟩:=x_Shut;have M_Shut:∀base,MkE l.prog w K mg base "Shut" cs.Shut 1 ["self","round_number"] (spXI cs.Shut "round_number"):=fun base=>⟨⟨fi_Shut,_,m_Shut,n0q F_Shut (T.err _ (List.mem_of_getElem? (show cs.ds[5]?=some cs.Shut from rfl))).xc T.a_Shut_round_number,F_Shut.binds (ps:=["self","round_number"]) fun _ _ _ _ _ _ us hl=>el2 us hl (fun _ _=>rfl)⟩,T.c_Shut⟩
 obtain ⟨fi_Falls,fd_Falls,m_Falls,F_Falls⟩:=x_Falls;have M_Falls:∀base,MkE l.prog w K mg base "Falls" cs.Falls 1 ["self","round_number","part_number"] (spXI2 cs.Falls "round_number" "part_number"):=fun base=>⟨⟨fi_Falls,_,m_Falls,p0t F_Falls (T.err _ (List.mem_of_getElem? (show cs.ds[6]?=some cs.Falls from rfl))).xc T.a_Falls_round_number T.a_Falls_part_number,F_Falls.binds (ps:=["self","round_number","part_number"]) fun _ _ _ _ _ _ us hl=>el3 us hl (fun _ _ _=>rfl)⟩,T.c_Falls⟩
 obtain ⟨fi_TooGreat,fd_TooGreat,m_TooGreat,F_TooGreat⟩:=x_TooGreat
 have M_TooGreat:∀base,MkE l.prog w K mg base "TooGreat" cs.TooGreat 1 ["self","most"] (spXI cs.TooGreat "most"):=fun base=>⟨⟨fi_TooGreat,_,m_TooGreat,u0l F_TooGreat (T.err _ (List.mem_of_getElem? (show cs.ds[8]?=some cs.TooGreat from rfl))).xc T.a_TooGreat_most,F_TooGreat.binds (ps:=["self","most"]) fun _ _ _ _ _ _ us hl=>el2 us hl (fun _ _=>rfl)⟩,T.c_TooGreat⟩
 obtain ⟨fi_NoText,fd_NoText,m_NoText,F_NoText⟩:=x_NoText;have M_NoText:∀base,MkE l.prog w K mg base "NoText" cs.NoText 1 ["self","row"] (spXI cs.NoText "row"):=fun base=>⟨⟨fi_NoText,_,m_NoText,r0o F_NoText (T.err _ (List.mem_of_getElem? (show cs.ds[10]?=some cs.NoText from rfl))).xc T.a_NoText_row,F_NoText.binds (ps:=["self","row"]) fun _ _ _ _ _ _ us hl=>el2 us hl (fun _ _=>rfl)⟩,T.c_NoText⟩
 obtain ⟨fi_Part,fd_Part,m_Part,F_Part⟩:=o_Part;have G_law_mixed:∀base,x0a l.prog w K mg base cs:=fun base=>o0c D_law_mixed T
 have G_law_deck:∀base,v0s l.prog w K mg base cs:=fun base=>m0n D_law_deck T (G_law_mixed base)
 have G_law_next:∀base,b7 l.prog w K mg base cs:=fun base=>m0o D_law_next T
 have G_law_part:∀base,v0r l.prog w K mg base cs:=fun base=>m0l D_law_part T (G_law_next base)
 have G_law_drawn:∀base,w0w l.prog w K mg base cs:=fun base=>n0u D_law_drawn T (G_law_part base) (G_law_next base)
 have G_is_number:∀base,x0b l.prog w K mg base cs:=fun base=>o0f D_is_number T
 have G_is_whole:∀base,u7 l.prog w K mg base cs:=fun base=>m0s D_is_whole T (G_is_number base)
 have G_is_row:∀base,u0d l.prog w K mg base cs:=fun base=>g0u D_is_row T
 have G_is_whole_row:∀base,w8 l.prog w K mg base cs:=fun base=>s0q D_is_whole_row T (G_is_row base) (G_is_whole base)
 have M_Part:∀base,Make2 l.prog w K mg base "Part" 4 (s0p cs):=fun base=>o0e F_Part m_Part (F_Part.binds (ps:=["self","full","mark","wear","price"]) fun _ _ _ _ _ _ us hl=>el5 us hl (fun _ _ _ _ _=>rfl)) T (G_is_whole base) (G_is_whole_row base) (M_NoPart base)
 have G_law_made:∀base,v0q l.prog w K mg base cs:=fun base=>m0i D_law_made T (M_Part base)
 have G_law_lost:∀base,x0r l.prog w K mg base cs:=fun base=>m0j D_law_lost T
 have G_law_falls:∀base,w0x l.prog w K mg base cs:=fun base=>n0x D_law_falls T (G_law_lost base)
 have G_law_needs:∀base,z0b l.prog w K mg base cs:=fun base=>n0w D_law_needs T (G_law_falls base)
 have G_law_is:∀base,u0a l.prog w K mg base cs:=fun base=>g0g D_law_is T
 have G_is_stand:∀base,x0w l.prog w K mg base cs:=fun base=>m0r D_is_stand T (G_is_whole base)
 have G_check_stand:∀base,z9 l.prog w K mg base cs:=fun base=>r0z D_check_stand T (G_is_stand base)
 have G_check_first:∀base,b8 l.prog w K mg base cs:=fun base=>s0b D_check_first T (G_is_whole base)
 have G_loss:∀base,g0r l.prog w K mg base cs:=fun base=>z1o D_loss T
 have G_stands_until_fall:∀base,z7 l.prog w K mg base cs:=fun base=>x0o D_stands_until_fall T (G_loss base)
 have G_needs_change:∀base,r8 l.prog w K mg base cs:=fun base=>s0l D_needs_change T (G_stands_until_fall base)
 have G_needs:∀base,s0j l.prog w K mg base cs:=fun base=>d0o D_needs T (G_check_stand base) (G_check_first base) (G_is_whole base) (G_needs_change base)
 have G_law_needs_right:∀base,z8 l.prog w K mg base cs:=fun base=>w0j D_law_needs_right T (G_law_needs base) (G_law_is base) (G_needs base)
 have G_law_kinds:∀base,w0z l.prog w K mg base cs:=fun base=>o0b D_law_kinds T
 have G_law_is_just:∀base,i7 l.prog w K mg base cs:=fun base=>s0a D_law_is_just T (G_law_kinds base)
 have G_check_stand_h:∀base,s9 l.prog w K mg base cs:=fun base=>u0n D_check_stand T (G_is_stand base)
 have G_check_run_h:∀base,z0f l.prog w K mg base cs:=fun base=>r0y D_check_run T (G_check_stand_h base)
 have G_is_stretches_h:∀base,k8 l.prog w K mg base cs:=fun base=>v0m D_is_stretches T (G_check_run_h base)
 have G_law_stands_refused:∀base,j6 l.prog w K mg base cs:=fun base=>y0b D_law_stands_refused T (G_needs base) (G_law_is_just base) (G_is_stretches_h base)
 have G_law_rounds_refused:∀base,l6 l.prog w K mg base cs:=fun base=>y0c D_law_rounds_refused T (G_needs base) (G_law_is_just base)
 have G_check_rounds:∀base,d9 l.prog w K mg base cs:=fun base=>s0n D_check_rounds T (G_check_first base) (G_is_whole base)
 have G_check_run:∀base,w0y l.prog w K mg base cs:=fun base=>o0a D_check_run T (G_check_stand base) (G_check_rounds base)
 have G_is_stretch:∀base,y0d l.prog w K mg base cs:=fun base=>q0e D_is_stretch T (G_is_whole_row base)
 have G_is_stretches:∀base,q8 l.prog w K mg base cs:=fun base=>s0k D_is_stretches T (G_check_run base) (G_is_row base) (G_is_stretch base) (G_needs_change base)
 have G_law_paper_refused:∀base,v7 l.prog w K mg base cs:=fun base=>x0n D_law_paper_refused T (G_is_stretches base) (G_law_is_just base)
 have G_law_refused:∀base,y0x l.prog w K mg base cs:=fun base=>r0u D_law_refused T (G_law_stands_refused base) (G_law_rounds_refused base) (G_law_paper_refused base)
 have G_law_changes:∀base,z0e l.prog w K mg base cs:=fun base=>r0x D_law_changes T (G_law_lost base)
 have G_law_between:∀base,y0y l.prog w K mg base cs:=fun base=>r0v D_law_between T (G_law_changes base)
 have G_law_bent:∀base,v0l l.prog w K mg base cs:=fun base=>l0z D_law_bent T (G_law_next base)
 have G_law_row:∀base,s0g l.prog w K mg base cs:=fun base=>j0p D_law_row T
 have G_law_are:∀base,s0h l.prog w K mg base cs:=fun base=>j0q D_law_are T (G_law_needs base)
 have G_law_others:∀base,y0a l.prog w K mg base cs:=fun base=>p0w D_law_others T (G_law_next base)
 obtain ⟨_,_,_,_,_,_,_,_,_,rfl,_,_⟩:=D_law.F.ex;have e:=hfa.symm.trans D_law.m;cases e;exact ⟨_,fun s v=>.of_eq rfl,fun base _ _=>ok_law D_law T (G_law_deck base) (G_law_drawn base) (G_law_next base) (G_law_made base) (G_law_needs_right base) (G_law_refused base) (G_law_between base) (G_law_bent base) (G_law_row base) (G_is_stretches base) (G_law_is base) (G_law_are base) (G_law_others base)⟩
end
end K10
namespace HD10
open PySem PySem.W PyProof.Rows PySem.Calls HD
open K10 (top)
noncomputable abbrev PW:Program:=PySem.Challenge.pw_wearplan_k10_stretches_asked
noncomputable def env:Env:=⟨PW.main.scope,mainNs,mainNs,[],Str.empty,none,(r 13),some 14,0⟩
noncomputable def cE:Code:=.body (behindTheImports PW) env
noncomputable abbrev fp:Pos:=⟨0,0,0,0⟩
noncomputable abbrev BB:List Frame:=[topFrame fp]
noncomputable def life:Life:={}
noncomputable def drawn:Drawn:={}
noncomputable def o11_0(P:Params):Obj:=tp []
noncomputable def o12_0(P:Params):Obj:=fl N []
noncomputable def o13_0(P:Params):Obj:=fl (ty "code") [(s "<module>" 182),(s "<module>" 183),(s "/claim/cut.py" 184),(i 1 0),(i 0 0),(i 0 0),(i 0 0),(i 0 0),(r 11),(b false),(i 181 0),(r 12),N,N,N,N,(i 185 0),(i 1 0),(s "/claim/cut.py" 186)]
noncomputable def o14_0(P:Params):Obj:={cls:=(ty "frame"),slots:=⟨[some (r 13),some (r 3),some (r 3),none,some (s "__main__" 164),none,some (r 0)]⟩}
noncomputable def t0(P:Params):BT:=(.node (boot_o_0 P) (.node (boot_o_1 P) (.node (boot_o_3 P) (.node (boot_o_7 P) .nil .nil) (.node (o11_0 P) .nil .nil)) (.node (boot_o_5 P) (.node (boot_o_9 P) .nil .nil) (.node (o13_0 P) .nil .nil))) (.node (boot_o_2 P) (.node (boot_o_4 P) (.node (boot_o_8 P) .nil .nil) (.node (o12_0 P) .nil .nil)) (.node (boot_o_6 P) (.node (boot_o_10 P) .nil .nil) (.node (o14_0 P) .nil .nil))))
theorem pre(w:World)(os:OsState):topGo treeTable PW w 11 (some (r 6)) 12 ⟨boot_heap w.params,⟨[]⟩,boot_drawn,boot_toks,os⟩ (topStub PW)=some ((SharedT.abs ⟨t0 w.params,15,life,⟨[]⟩,drawn,187,os⟩),⟨denote treeTable cE,cE,⟨0,0,0,0⟩,BB⟩):=turnGo (by rw[PySem.W.Fast.te11892475500146522536,PySem.W.Fast.te14364793385576792824];kernel_rfl)
theorem blk(w:World)(os:OsState):segRun treeTable PW w 11 (some (r 6)) 1 1 (SharedT.abs ⟨t0 w.params,15,life,⟨[]⟩,drawn,187,os⟩) (blockOf (behindTheImports PW) env cE ⟨0,0,0,0⟩ BB)=some (.next,(SharedT.abs ⟨t0 w.params,15,life,⟨[]⟩,drawn,187,os⟩),cE,⟨0,0,0,0⟩):=g0y (by kernel_rfl)
noncomputable def sts1:List Stmt:=[top 0,top 1]
noncomputable def e3_0(P:Params):List DictEntry:=[en P "__name__" 165 (s "wearplan.errors" 187),en P "__doc__" 166 N,en P "__package__" 167 N,en P "__loader__" 168 (bi "__main__.__loader__#opaque"),en P "__spec__" 169 N,en P "__annotations__" 170 (r 6),en P "__builtins__" 171 (r 4),en P "__file__" 173 (s "/claim/cut.py" 172),en P "__cached__" 174 N,en P "WearError" 206 (r 24)]
noncomputable def o3_0(P:Params):Obj:=di (e3_0 P) 10
noncomputable def e12_1(P:Params):List Value:=[(i 2 0),(i 0 0),(r 20)]
noncomputable def o12_1(P:Params):Obj:=fl N (e12_1 P)
noncomputable def g1(P:Params):List Obj:=[tp [(ty "ValueError")],fl (ty "builtin_function_or_method") [(bi "type.__prepare__"),(ty "type")],di [en P "__module__" 196 (s "wearplan.errors" 187),en P "__qualname__" 198 (s "WearError" 197),en P "__firstlineno__" 200 (i 2 199),en P "__static_attributes__" 201 (r 22)] 4,tp [],fl N [],fl (ty "code") [(s "WearError" 191),(s "WearError" 192),(s "/claim/cut.py" 193),(i 2 0),(i 0 0),(i 0 0),(i 0 0),(i 0 0),(r 18),(b false),(i 181 0),(r 19),N,N,N,N,(i 194 0),(i 2 0),(s "/claim/cut.py" 195)],{cls:=(ty "frame"),slots:=⟨[some (r 20),some (r 3),some (r 17),none,some (s "wearplan.errors" 187),none,some (r 0)]⟩},tp [],di [en P "__module__" 196 (s "wearplan.errors" 187),en P "__firstlineno__" 200 (i 2 199),en P "__static_attributes__" 201 (r 22),en P "__weakref__" 203 (r 25),en P "__doc__" 204 N] 3,co "WearError" [(ty "ValueError")] [(r 24),(ty "ValueError"),(ty "Exception"),(ty "BaseException"),(ty "object")] 23 "WearError" true false [] [some (r 15),none,some (s "WearError" 189),some (s "WearError" 197),some (bi "ValueError.__new__"),some (b true)],fl (ty "getset_descriptor") [(s "__weakref__" 202),(r 24),(bi "ExceptionGroup.__weakref__"),N],fl (ty "super") [(r 24),(r 24),(r 24)],fl (ty "builtin_function_or_method") [(bi "object.__init_subclass__"),(r 24)]]
noncomputable def t1(P:Params):BT:=insL (g1 P) 15 (setL [(3,o3_0 P),(12,o12_1 P)] (t0 P))
theorem pc1(w:World)(os:OsState):segRun treeTable PW w 11 (some (r 6)) 1 196 (SharedT.abs ⟨t0 w.params,15,life,⟨[]⟩,drawn,187,os⟩) (piecesOf sts1 env cE ⟨0,0,0,0⟩ BB)=some (.next,(SharedT.abs ⟨t1 w.params,28,life,⟨[]⟩,drawn,207,os⟩),cE,⟨2,0,3,8⟩):=segRun_of (v6 (by kernel_rfl))
noncomputable def sts2:List Stmt:=[top 2]
noncomputable def e3_1(P:Params):List DictEntry:=(e3_0 P)++[en P "NoPart" 231 (r 44)]
noncomputable def o3_1(P:Params):Obj:=di (e3_1 P) 11
noncomputable def e12_2(P:Params):List Value:=e12_1 P++[(i 4 0),(i 0 0),(r 33)]
noncomputable def o12_2(P:Params):Obj:=fl N (e12_2 P)
noncomputable def o24_1(P:Params):Obj:=co "WearError" [(ty "ValueError")] [(r 24),(ty "ValueError"),(ty "Exception"),(ty "BaseException"),(ty "object")] 23 "WearError" true false [(r 44)] [some (r 15),none,some (s "WearError" 189),some (s "WearError" 197),some (bi "ValueError.__new__"),some (b true)]
noncomputable def g2(P:Params):List Obj:=[tp [(r 24)],fl (ty "builtin_function_or_method") [(bi "type.__prepare__"),(ty "type")],di [en P "__module__" 214 (s "wearplan.errors" 187),en P "__qualname__" 216 (s "NoPart" 215),en P "__firstlineno__" 218 (i 4 217),en P "__init__" 226 (r 41),en P "__static_attributes__" 228 (r 42)] 5,tp [],fl N [(i 6 0),(i 4 0),(r 40)],fl (ty "code") [(s "NoPart" 209),(s "NoPart" 210),(s "/claim/cut.py" 211),(i 4 0),(i 0 0),(i 0 0),(i 0 0),(i 0 0),(r 31),(b false),(i 181 0),(r 32),N,N,N,N,(i 212 0),(i 4 0),(s "/claim/cut.py" 213)],{cls:=(ty "frame"),slots:=⟨[some (r 33),some (r 3),some (r 30),none,some (s "wearplan.errors" 187),none,some (r 0)]⟩},tp [],fl N [],tp [(s "self" 222),(s "at" 223)],tp [],fn N "__init__" "NoPart.__init__" (L2.inClass (top 2) 0) 0 N N,fl (ty "code") [(s "__init__" 219),(s "NoPart.__init__" 220),(s "/claim/cut.py" 221),(i 6 0),(i 2 0),(i 0 0),(i 0 0),(i 3 0),(r 35),(b true),(i 181 0),(r 36),N,(r 37),(r 38),(r 39),(i 224 0),(i 6 0),(s "/claim/cut.py" 225)],fn (ty "function") "__init__" "NoPart.__init__" (L2.inClass (top 2) 0) 3 (s "wearplan.errors" 187) (r 40),tp [(s "at" 227)],di [en P "__module__" 214 (s "wearplan.errors" 187),en P "__firstlineno__" 218 (i 4 217),en P "__init__" 226 (r 41),en P "__static_attributes__" 228 (r 42),en P "__doc__" 229 N] 2,co "NoPart" [(r 24)] [(r 44),(r 24),(ty "ValueError"),(ty "Exception"),(ty "BaseException"),(ty "object")] 43 "NoPart" true false [] [some (r 28),none,some (s "NoPart" 207),some (s "NoPart" 215),some (bi "ValueError.__new__"),some (b true)],fl (ty "super") [(r 44),(r 44),(r 44)],fl (ty "builtin_function_or_method") [(bi "object.__init_subclass__"),(r 44)]]
noncomputable def t2(P:Params):BT:=insL (g2 P) 28 (setL [(3,o3_1 P),(12,o12_2 P),(24,o24_1 P)] (t1 P))
theorem pc2(w:World)(os:OsState):segRun treeTable PW w 11 (some (r 6)) 1 246 (SharedT.abs ⟨t1 w.params,28,life,⟨[]⟩,drawn,207,os⟩) (piecesOf sts2 env cE ⟨2,0,3,8⟩ BB)=some (.next,(SharedT.abs ⟨t2 w.params,47,life,⟨[]⟩,drawn,232,os⟩),cE,⟨4,0,7,20⟩):=segRun_of (v6 (by kernel_rfl))
noncomputable def sts3:List Stmt:=[top 3]
noncomputable def e3_2(P:Params):List DictEntry:=(e3_1 P)++[en P "NoWorks" 256 (r 63)]
noncomputable def o3_2(P:Params):Obj:=di (e3_2 P) 12
noncomputable def e12_3(P:Params):List Value:=e12_2 P++[(i 8 0),(i 0 0),(r 52)]
noncomputable def o12_3(P:Params):Obj:=fl N (e12_3 P)
noncomputable def o24_2(P:Params):Obj:=co "WearError" [(ty "ValueError")] [(r 24),(ty "ValueError"),(ty "Exception"),(ty "BaseException"),(ty "object")] 23 "WearError" true false [(r 44),(r 63)] [some (r 15),none,some (s "WearError" 189),some (s "WearError" 197),some (bi "ValueError.__new__"),some (b true)]
noncomputable def g3(P:Params):List Obj:=[tp [(r 24)],fl (ty "builtin_function_or_method") [(bi "type.__prepare__"),(ty "type")],di [en P "__module__" 239 (s "wearplan.errors" 187),en P "__qualname__" 241 (s "NoWorks" 240),en P "__firstlineno__" 243 (i 8 242),en P "__init__" 251 (r 60),en P "__static_attributes__" 253 (r 61)] 5,tp [],fl N [(i 10 0),(i 4 0),(r 59)],fl (ty "code") [(s "NoWorks" 234),(s "NoWorks" 235),(s "/claim/cut.py" 236),(i 8 0),(i 0 0),(i 0 0),(i 0 0),(i 0 0),(r 50),(b false),(i 181 0),(r 51),N,N,N,N,(i 237 0),(i 8 0),(s "/claim/cut.py" 238)],{cls:=(ty "frame"),slots:=⟨[some (r 52),some (r 3),some (r 49),none,some (s "wearplan.errors" 187),none,some (r 0)]⟩},tp [],fl N [],tp [(s "self" 247),(s "at" 248)],tp [],fn N "__init__" "NoWorks.__init__" (L2.inClass (top 3) 0) 0 N N,fl (ty "code") [(s "__init__" 244),(s "NoWorks.__init__" 245),(s "/claim/cut.py" 246),(i 10 0),(i 2 0),(i 0 0),(i 0 0),(i 3 0),(r 54),(b true),(i 181 0),(r 55),N,(r 56),(r 57),(r 58),(i 249 0),(i 10 0),(s "/claim/cut.py" 250)],fn (ty "function") "__init__" "NoWorks.__init__" (L2.inClass (top 3) 0) 3 (s "wearplan.errors" 187) (r 59),tp [(s "at" 252)],di [en P "__module__" 239 (s "wearplan.errors" 187),en P "__firstlineno__" 243 (i 8 242),en P "__init__" 251 (r 60),en P "__static_attributes__" 253 (r 61),en P "__doc__" 254 N] 2,co "NoWorks" [(r 24)] [(r 63),(r 24),(ty "ValueError"),(ty "Exception"),(ty "BaseException"),(ty "object")] 62 "NoWorks" true false [] [some (r 47),none,some (s "NoWorks" 232),some (s "NoWorks" 240),some (bi "ValueError.__new__"),some (b true)],fl (ty "super") [(r 63),(r 63),(r 63)],fl (ty "builtin_function_or_method") [(bi "object.__init_subclass__"),(r 63)]]
noncomputable def t3(P:Params):BT:=insL (g3 P) 47 (setL [(3,o3_2 P),(12,o12_3 P),(24,o24_2 P)] (t2 P))
theorem pc3(w:World)(os:OsState):segRun treeTable PW w 11 (some (r 6)) 1 246 (SharedT.abs ⟨t2 w.params,47,life,⟨[]⟩,drawn,232,os⟩) (piecesOf sts3 env cE ⟨4,0,7,20⟩ BB)=some (.next,(SharedT.abs ⟨t3 w.params,66,life,⟨[]⟩,drawn,257,os⟩),cE,⟨8,0,11,20⟩):=segRun_of (v6 (by kernel_rfl))
noncomputable def sts4:List Stmt:=[top 4]
noncomputable def e3_3(P:Params):List DictEntry:=(e3_2 P)++[en P "NoStands" 272 (r 75)]
noncomputable def o3_3(P:Params):Obj:=di (e3_3 P) 13
noncomputable def e12_4(P:Params):List Value:=e12_3 P++[(i 12 0),(i 0 0),(r 71)]
noncomputable def o12_4(P:Params):Obj:=fl N (e12_4 P)
noncomputable def o24_3(P:Params):Obj:=co "WearError" [(ty "ValueError")] [(r 24),(ty "ValueError"),(ty "Exception"),(ty "BaseException"),(ty "object")] 23 "WearError" true false [(r 44),(r 63),(r 75)] [some (r 15),none,some (s "WearError" 189),some (s "WearError" 197),some (bi "ValueError.__new__"),some (b true)]
noncomputable def g4(P:Params):List Obj:=[tp [(r 24)],fl (ty "builtin_function_or_method") [(bi "type.__prepare__"),(ty "type")],di [en P "__module__" 264 (s "wearplan.errors" 187),en P "__qualname__" 266 (s "NoStands" 265),en P "__firstlineno__" 268 (i 12 267),en P "__static_attributes__" 269 (r 73)] 4,tp [],fl N [],fl (ty "code") [(s "NoStands" 259),(s "NoStands" 260),(s "/claim/cut.py" 261),(i 12 0),(i 0 0),(i 0 0),(i 0 0),(i 0 0),(r 69),(b false),(i 181 0),(r 70),N,N,N,N,(i 262 0),(i 12 0),(s "/claim/cut.py" 263)],{cls:=(ty "frame"),slots:=⟨[some (r 71),some (r 3),some (r 68),none,some (s "wearplan.errors" 187),none,some (r 0)]⟩},tp [],di [en P "__module__" 264 (s "wearplan.errors" 187),en P "__firstlineno__" 268 (i 12 267),en P "__static_attributes__" 269 (r 73),en P "__doc__" 270 N] 2,co "NoStands" [(r 24)] [(r 75),(r 24),(ty "ValueError"),(ty "Exception"),(ty "BaseException"),(ty "object")] 74 "NoStands" true false [] [some (r 66),none,some (s "NoStands" 257),some (s "NoStands" 265),some (bi "ValueError.__new__"),some (b true)],fl (ty "super") [(r 75),(r 75),(r 75)],fl (ty "builtin_function_or_method") [(bi "object.__init_subclass__"),(r 75)]]
noncomputable def t4(P:Params):BT:=insL (g4 P) 66 (setL [(3,o3_3 P),(12,o12_4 P),(24,o24_3 P)] (t3 P))
theorem pc4(w:World)(os:OsState):segRun treeTable PW w 11 (some (r 6)) 1 214 (SharedT.abs ⟨t3 w.params,66,life,⟨[]⟩,drawn,257,os⟩) (piecesOf sts4 env cE ⟨8,0,11,20⟩ BB)=some (.next,(SharedT.abs ⟨t4 w.params,78,life,⟨[]⟩,drawn,273,os⟩),cE,⟨12,0,13,8⟩):=segRun_of (v6 (by kernel_rfl))
noncomputable def sts5:List Stmt:=[top 5]
noncomputable def e3_4(P:Params):List DictEntry:=(e3_3 P)++[en P "NoRounds" 288 (r 87)]
noncomputable def o3_4(P:Params):Obj:=di (e3_4 P) 14
noncomputable def e12_5(P:Params):List Value:=e12_4 P++[(i 14 0),(i 0 0),(r 83)]
noncomputable def o12_5(P:Params):Obj:=fl N (e12_5 P)
noncomputable def o24_4(P:Params):Obj:=co "WearError" [(ty "ValueError")] [(r 24),(ty "ValueError"),(ty "Exception"),(ty "BaseException"),(ty "object")] 23 "WearError" true false [(r 44),(r 63),(r 75),(r 87)] [some (r 15),none,some (s "WearError" 189),some (s "WearError" 197),some (bi "ValueError.__new__"),some (b true)]
noncomputable def g5(P:Params):List Obj:=[tp [(r 24)],fl (ty "builtin_function_or_method") [(bi "type.__prepare__"),(ty "type")],di [en P "__module__" 280 (s "wearplan.errors" 187),en P "__qualname__" 282 (s "NoRounds" 281),en P "__firstlineno__" 284 (i 14 283),en P "__static_attributes__" 285 (r 85)] 4,tp [],fl N [],fl (ty "code") [(s "NoRounds" 275),(s "NoRounds" 276),(s "/claim/cut.py" 277),(i 14 0),(i 0 0),(i 0 0),(i 0 0),(i 0 0),(r 81),(b false),(i 181 0),(r 82),N,N,N,N,(i 278 0),(i 14 0),(s "/claim/cut.py" 279)],{cls:=(ty "frame"),slots:=⟨[some (r 83),some (r 3),some (r 80),none,some (s "wearplan.errors" 187),none,some (r 0)]⟩},tp [],di [en P "__module__" 280 (s "wearplan.errors" 187),en P "__firstlineno__" 284 (i 14 283),en P "__static_attributes__" 285 (r 85),en P "__doc__" 286 N] 2,co "NoRounds" [(r 24)] [(r 87),(r 24),(ty "ValueError"),(ty "Exception"),(ty "BaseException"),(ty "object")] 86 "NoRounds" true false [] [some (r 78),none,some (s "NoRounds" 273),some (s "NoRounds" 281),some (bi "ValueError.__new__"),some (b true)],fl (ty "super") [(r 87),(r 87),(r 87)],fl (ty "builtin_function_or_method") [(bi "object.__init_subclass__"),(r 87)]]
noncomputable def t5(P:Params):BT:=insL (g5 P) 78 (setL [(3,o3_4 P),(12,o12_5 P),(24,o24_4 P)] (t4 P))
theorem pc5(w:World)(os:OsState):segRun treeTable PW w 11 (some (r 6)) 1 214 (SharedT.abs ⟨t4 w.params,78,life,⟨[]⟩,drawn,273,os⟩) (piecesOf sts5 env cE ⟨12,0,13,8⟩ BB)=some (.next,(SharedT.abs ⟨t5 w.params,90,life,⟨[]⟩,drawn,289,os⟩),cE,⟨14,0,15,8⟩):=segRun_of (v6 (by kernel_rfl))
noncomputable def sts6:List Stmt:=[top 6]
noncomputable def e3_5(P:Params):List DictEntry:=(e3_4 P)++[en P "NoPlan" 313 (r 106)]
noncomputable def o3_5(P:Params):Obj:=di (e3_5 P) 15
noncomputable def e12_6(P:Params):List Value:=e12_5 P++[(i 16 0),(i 0 0),(r 95)]
noncomputable def o12_6(P:Params):Obj:=fl N (e12_6 P)
noncomputable def o24_5(P:Params):Obj:=co "WearError" [(ty "ValueError")] [(r 24),(ty "ValueError"),(ty "Exception"),(ty "BaseException"),(ty "object")] 23 "WearError" true false [(r 44),(r 63),(r 75),(r 87),(r 106)] [some (r 15),none,some (s "WearError" 189),some (s "WearError" 197),some (bi "ValueError.__new__"),some (b true)]
noncomputable def g6(P:Params):List Obj:=[tp [(r 24)],fl (ty "builtin_function_or_method") [(bi "type.__prepare__"),(ty "type")],di [en P "__module__" 296 (s "wearplan.errors" 187),en P "__qualname__" 298 (s "NoPlan" 297),en P "__firstlineno__" 300 (i 16 299),en P "__init__" 308 (r 103),en P "__static_attributes__" 310 (r 104)] 5,tp [],fl N [(i 18 0),(i 4 0),(r 102)],fl (ty "code") [(s "NoPlan" 291),(s "NoPlan" 292),(s "/claim/cut.py" 293),(i 16 0),(i 0 0),(i 0 0),(i 0 0),(i 0 0),(r 93),(b false),(i 181 0),(r 94),N,N,N,N,(i 294 0),(i 16 0),(s "/claim/cut.py" 295)],{cls:=(ty "frame"),slots:=⟨[some (r 95),some (r 3),some (r 92),none,some (s "wearplan.errors" 187),none,some (r 0)]⟩},tp [],fl N [],tp [(s "self" 304),(s "at" 305)],tp [],fn N "__init__" "NoPlan.__init__" (L2.inClass (top 6) 0) 0 N N,fl (ty "code") [(s "__init__" 301),(s "NoPlan.__init__" 302),(s "/claim/cut.py" 303),(i 18 0),(i 2 0),(i 0 0),(i 0 0),(i 3 0),(r 97),(b true),(i 181 0),(r 98),N,(r 99),(r 100),(r 101),(i 306 0),(i 18 0),(s "/claim/cut.py" 307)],fn (ty "function") "__init__" "NoPlan.__init__" (L2.inClass (top 6) 0) 3 (s "wearplan.errors" 187) (r 102),tp [(s "at" 309)],di [en P "__module__" 296 (s "wearplan.errors" 187),en P "__firstlineno__" 300 (i 16 299),en P "__init__" 308 (r 103),en P "__static_attributes__" 310 (r 104),en P "__doc__" 311 N] 2,co "NoPlan" [(r 24)] [(r 106),(r 24),(ty "ValueError"),(ty "Exception"),(ty "BaseException"),(ty "object")] 105 "NoPlan" true false [] [some (r 90),none,some (s "NoPlan" 289),some (s "NoPlan" 297),some (bi "ValueError.__new__"),some (b true)],fl (ty "super") [(r 106),(r 106),(r 106)],fl (ty "builtin_function_or_method") [(bi "object.__init_subclass__"),(r 106)]]
noncomputable def t6(P:Params):BT:=insL (g6 P) 90 (setL [(3,o3_5 P),(12,o12_6 P),(24,o24_5 P)] (t5 P))
theorem pc6(w:World)(os:OsState):segRun treeTable PW w 11 (some (r 6)) 1 246 (SharedT.abs ⟨t5 w.params,90,life,⟨[]⟩,drawn,289,os⟩) (piecesOf sts6 env cE ⟨14,0,15,8⟩ BB)=some (.next,(SharedT.abs ⟨t6 w.params,109,life,⟨[]⟩,drawn,314,os⟩),cE,⟨16,0,19,20⟩):=segRun_of (v6 (by kernel_rfl))
noncomputable def sts7:List Stmt:=[top 7]
noncomputable def e3_6(P:Params):List DictEntry:=(e3_5 P)++[en P "Shut" 338 (r 125)]
noncomputable def o3_6(P:Params):Obj:=di (e3_6 P) 16
noncomputable def e12_7(P:Params):List Value:=e12_6 P++[(i 20 0),(i 0 0),(r 114)]
noncomputable def o12_7(P:Params):Obj:=fl N (e12_7 P)
noncomputable def o24_6(P:Params):Obj:=co "WearError" [(ty "ValueError")] [(r 24),(ty "ValueError"),(ty "Exception"),(ty "BaseException"),(ty "object")] 23 "WearError" true false [(r 44),(r 63),(r 75),(r 87),(r 106),(r 125)] [some (r 15),none,some (s "WearError" 189),some (s "WearError" 197),some (bi "ValueError.__new__"),some (b true)]
noncomputable def g7(P:Params):List Obj:=[tp [(r 24)],fl (ty "builtin_function_or_method") [(bi "type.__prepare__"),(ty "type")],di [en P "__module__" 321 (s "wearplan.errors" 187),en P "__qualname__" 323 (s "Shut" 322),en P "__firstlineno__" 325 (i 20 324),en P "__init__" 333 (r 122),en P "__static_attributes__" 335 (r 123)] 5,tp [],fl N [(i 22 0),(i 4 0),(r 121)],fl (ty "code") [(s "Shut" 316),(s "Shut" 317),(s "/claim/cut.py" 318),(i 20 0),(i 0 0),(i 0 0),(i 0 0),(i 0 0),(r 112),(b false),(i 181 0),(r 113),N,N,N,N,(i 319 0),(i 20 0),(s "/claim/cut.py" 320)],{cls:=(ty "frame"),slots:=⟨[some (r 114),some (r 3),some (r 111),none,some (s "wearplan.errors" 187),none,some (r 0)]⟩},tp [],fl N [],tp [(s "self" 329),(s "round_number" 330)],tp [],fn N "__init__" "Shut.__init__" (L2.inClass (top 7) 0) 0 N N,fl (ty "code") [(s "__init__" 326),(s "Shut.__init__" 327),(s "/claim/cut.py" 328),(i 22 0),(i 2 0),(i 0 0),(i 0 0),(i 3 0),(r 116),(b true),(i 181 0),(r 117),N,(r 118),(r 119),(r 120),(i 331 0),(i 22 0),(s "/claim/cut.py" 332)],fn (ty "function") "__init__" "Shut.__init__" (L2.inClass (top 7) 0) 3 (s "wearplan.errors" 187) (r 121),tp [(s "round_number" 334)],di [en P "__module__" 321 (s "wearplan.errors" 187),en P "__firstlineno__" 325 (i 20 324),en P "__init__" 333 (r 122),en P "__static_attributes__" 335 (r 123),en P "__doc__" 336 N] 2,co "Shut" [(r 24)] [(r 125),(r 24),(ty "ValueError"),(ty "Exception"),(ty "BaseException"),(ty "object")] 124 "Shut" true false [] [some (r 109),none,some (s "Shut" 314),some (s "Shut" 322),some (bi "ValueError.__new__"),some (b true)],fl (ty "super") [(r 125),(r 125),(r 125)],fl (ty "builtin_function_or_method") [(bi "object.__init_subclass__"),(r 125)]]
noncomputable def t7(P:Params):BT:=insL (g7 P) 109 (setL [(3,o3_6 P),(12,o12_7 P),(24,o24_6 P)] (t6 P))
theorem pc7(w:World)(os:OsState):segRun treeTable PW w 11 (some (r 6)) 1 246 (SharedT.abs ⟨t6 w.params,109,life,⟨[]⟩,drawn,314,os⟩) (piecesOf sts7 env cE ⟨16,0,19,20⟩ BB)=some (.next,(SharedT.abs ⟨t7 w.params,128,life,⟨[]⟩,drawn,339,os⟩),cE,⟨20,0,23,40⟩):=segRun_of (v6 (by kernel_rfl))
noncomputable def sts8:List Stmt:=[top 8]
noncomputable def e3_7(P:Params):List DictEntry:=(e3_6 P)++[en P "Falls" 365 (r 144)]
noncomputable def o3_7(P:Params):Obj:=di (e3_7 P) 17
noncomputable def e12_8(P:Params):List Value:=e12_7 P++[(i 24 0),(i 0 0),(r 133)]
noncomputable def o12_8(P:Params):Obj:=fl N (e12_8 P)
noncomputable def o24_7(P:Params):Obj:=co "WearError" [(ty "ValueError")] [(r 24),(ty "ValueError"),(ty "Exception"),(ty "BaseException"),(ty "object")] 23 "WearError" true false [(r 44),(r 63),(r 75),(r 87),(r 106),(r 125),(r 144)] [some (r 15),none,some (s "WearError" 189),some (s "WearError" 197),some (bi "ValueError.__new__"),some (b true)]
noncomputable def g8(P:Params):List Obj:=[tp [(r 24)],fl (ty "builtin_function_or_method") [(bi "type.__prepare__"),(ty "type")],di [en P "__module__" 346 (s "wearplan.errors" 187),en P "__qualname__" 348 (s "Falls" 347),en P "__firstlineno__" 350 (i 24 349),en P "__init__" 359 (r 141),en P "__static_attributes__" 362 (r 142)] 5,tp [],fl N [(i 26 0),(i 4 0),(r 140)],fl (ty "code") [(s "Falls" 341),(s "Falls" 342),(s "/claim/cut.py" 343),(i 24 0),(i 0 0),(i 0 0),(i 0 0),(i 0 0),(r 131),(b false),(i 181 0),(r 132),N,N,N,N,(i 344 0),(i 24 0),(s "/claim/cut.py" 345)],{cls:=(ty "frame"),slots:=⟨[some (r 133),some (r 3),some (r 130),none,some (s "wearplan.errors" 187),none,some (r 0)]⟩},tp [],fl N [],tp [(s "self" 354),(s "round_number" 355),(s "part_number" 356)],tp [],fn N "__init__" "Falls.__init__" (L2.inClass (top 8) 0) 0 N N,fl (ty "code") [(s "__init__" 351),(s "Falls.__init__" 352),(s "/claim/cut.py" 353),(i 26 0),(i 3 0),(i 0 0),(i 0 0),(i 3 0),(r 135),(b true),(i 181 0),(r 136),N,(r 137),(r 138),(r 139),(i 357 0),(i 26 0),(s "/claim/cut.py" 358)],fn (ty "function") "__init__" "Falls.__init__" (L2.inClass (top 8) 0) 3 (s "wearplan.errors" 187) (r 140),tp [(s "part_number" 360),(s "round_number" 361)],di [en P "__module__" 346 (s "wearplan.errors" 187),en P "__firstlineno__" 350 (i 24 349),en P "__init__" 359 (r 141),en P "__static_attributes__" 362 (r 142),en P "__doc__" 363 N] 2,co "Falls" [(r 24)] [(r 144),(r 24),(ty "ValueError"),(ty "Exception"),(ty "BaseException"),(ty "object")] 143 "Falls" true false [] [some (r 128),none,some (s "Falls" 339),some (s "Falls" 347),some (bi "ValueError.__new__"),some (b true)],fl (ty "super") [(r 144),(r 144),(r 144)],fl (ty "builtin_function_or_method") [(bi "object.__init_subclass__"),(r 144)]]
noncomputable def t8(P:Params):BT:=insL (g8 P) 128 (setL [(3,o3_7 P),(12,o12_8 P),(24,o24_7 P)] (t7 P))
theorem pc8(w:World)(os:OsState):segRun treeTable PW w 11 (some (r 6)) 1 248 (SharedT.abs ⟨t7 w.params,128,life,⟨[]⟩,drawn,339,os⟩) (piecesOf sts8 env cE ⟨20,0,23,40⟩ BB)=some (.next,(SharedT.abs ⟨t8 w.params,147,life,⟨[]⟩,drawn,366,os⟩),cE,⟨24,0,28,38⟩):=segRun_of (v6 (by kernel_rfl))
noncomputable def sts9:List Stmt:=[top 9]
noncomputable def e3_8(P:Params):List DictEntry:=(e3_7 P)++[en P "NoneHolds" 381 (r 156)]
noncomputable def o3_8(P:Params):Obj:=di (e3_8 P) 18
noncomputable def e12_9(P:Params):List Value:=e12_8 P++[(i 29 0),(i 0 0),(r 152)]
noncomputable def o12_9(P:Params):Obj:=fl N (e12_9 P)
noncomputable def o24_8(P:Params):Obj:=co "WearError" [(ty "ValueError")] [(r 24),(ty "ValueError"),(ty "Exception"),(ty "BaseException"),(ty "object")] 23 "WearError" true false [(r 44),(r 63),(r 75),(r 87),(r 106),(r 125),(r 144),(r 156)] [some (r 15),none,some (s "WearError" 189),some (s "WearError" 197),some (bi "ValueError.__new__"),some (b true)]
noncomputable def g9(P:Params):List Obj:=[tp [(r 24)],fl (ty "builtin_function_or_method") [(bi "type.__prepare__"),(ty "type")],di [en P "__module__" 373 (s "wearplan.errors" 187),en P "__qualname__" 375 (s "NoneHolds" 374),en P "__firstlineno__" 377 (i 29 376),en P "__static_attributes__" 378 (r 154)] 4,tp [],fl N [],fl (ty "code") [(s "NoneHolds" 368),(s "NoneHolds" 369),(s "/claim/cut.py" 370),(i 29 0),(i 0 0),(i 0 0),(i 0 0),(i 0 0),(r 150),(b false),(i 181 0),(r 151),N,N,N,N,(i 371 0),(i 29 0),(s "/claim/cut.py" 372)],{cls:=(ty "frame"),slots:=⟨[some (r 152),some (r 3),some (r 149),none,some (s "wearplan.errors" 187),none,some (r 0)]⟩},tp [],di [en P "__module__" 373 (s "wearplan.errors" 187),en P "__firstlineno__" 377 (i 29 376),en P "__static_attributes__" 378 (r 154),en P "__doc__" 379 N] 2,co "NoneHolds" [(r 24)] [(r 156),(r 24),(ty "ValueError"),(ty "Exception"),(ty "BaseException"),(ty "object")] 155 "NoneHolds" true false [] [some (r 147),none,some (s "NoneHolds" 366),some (s "NoneHolds" 374),some (bi "ValueError.__new__"),some (b true)],fl (ty "super") [(r 156),(r 156),(r 156)],fl (ty "builtin_function_or_method") [(bi "object.__init_subclass__"),(r 156)]]
noncomputable def t9(P:Params):BT:=insL (g9 P) 147 (setL [(3,o3_8 P),(12,o12_9 P),(24,o24_8 P)] (t8 P))
theorem pc9(w:World)(os:OsState):segRun treeTable PW w 11 (some (r 6)) 1 214 (SharedT.abs ⟨t8 w.params,147,life,⟨[]⟩,drawn,366,os⟩) (piecesOf sts9 env cE ⟨24,0,28,38⟩ BB)=some (.next,(SharedT.abs ⟨t9 w.params,159,life,⟨[]⟩,drawn,382,os⟩),cE,⟨29,0,30,8⟩):=segRun_of (v6 (by kernel_rfl))
noncomputable def sts10:List Stmt:=[top 10]
noncomputable def e3_9(P:Params):List DictEntry:=(e3_8 P)++[en P "TooGreat" 406 (r 175)]
noncomputable def o3_9(P:Params):Obj:=di (e3_9 P) 19
noncomputable def c0n(P:Params):List Value:=e12_9 P++[(i 31 0),(i 0 0),(r 164)]
noncomputable def o12_10(P:Params):Obj:=fl N (c0n P)
noncomputable def o24_9(P:Params):Obj:=co "WearError" [(ty "ValueError")] [(r 24),(ty "ValueError"),(ty "Exception"),(ty "BaseException"),(ty "object")] 23 "WearError" true false [(r 44),(r 63),(r 75),(r 87),(r 106),(r 125),(r 144),(r 156),(r 175)] [some (r 15),none,some (s "WearError" 189),some (s "WearError" 197),some (bi "ValueError.__new__"),some (b true)]
noncomputable def g10(P:Params):List Obj:=[tp [(r 24)],fl (ty "builtin_function_or_method") [(bi "type.__prepare__"),(ty "type")],di [en P "__module__" 389 (s "wearplan.errors" 187),en P "__qualname__" 391 (s "TooGreat" 390),en P "__firstlineno__" 393 (i 31 392),en P "__init__" 401 (r 172),en P "__static_attributes__" 403 (r 173)] 5,tp [],fl N [(i 33 0),(i 4 0),(r 171)],fl (ty "code") [(s "TooGreat" 384),(s "TooGreat" 385),(s "/claim/cut.py" 386),(i 31 0),(i 0 0),(i 0 0),(i 0 0),(i 0 0),(r 162),(b false),(i 181 0),(r 163),N,N,N,N,(i 387 0),(i 31 0),(s "/claim/cut.py" 388)],{cls:=(ty "frame"),slots:=⟨[some (r 164),some (r 3),some (r 161),none,some (s "wearplan.errors" 187),none,some (r 0)]⟩},tp [],fl N [],tp [(s "self" 397),(s "most" 398)],tp [],fn N "__init__" "TooGreat.__init__" (L2.inClass (top 10) 0) 0 N N,fl (ty "code") [(s "__init__" 394),(s "TooGreat.__init__" 395),(s "/claim/cut.py" 396),(i 33 0),(i 2 0),(i 0 0),(i 0 0),(i 3 0),(r 166),(b true),(i 181 0),(r 167),N,(r 168),(r 169),(r 170),(i 399 0),(i 33 0),(s "/claim/cut.py" 400)],fn (ty "function") "__init__" "TooGreat.__init__" (L2.inClass (top 10) 0) 3 (s "wearplan.errors" 187) (r 171),tp [(s "most" 402)],di [en P "__module__" 389 (s "wearplan.errors" 187),en P "__firstlineno__" 393 (i 31 392),en P "__init__" 401 (r 172),en P "__static_attributes__" 403 (r 173),en P "__doc__" 404 N] 2,co "TooGreat" [(r 24)] [(r 175),(r 24),(ty "ValueError"),(ty "Exception"),(ty "BaseException"),(ty "object")] 174 "TooGreat" true false [] [some (r 159),none,some (s "TooGreat" 382),some (s "TooGreat" 390),some (bi "ValueError.__new__"),some (b true)],fl (ty "super") [(r 175),(r 175),(r 175)],fl (ty "builtin_function_or_method") [(bi "object.__init_subclass__"),(r 175)]]
noncomputable def t10(P:Params):BT:=insL (g10 P) 159 (setL [(3,o3_9 P),(12,o12_10 P),(24,o24_9 P)] (t9 P))
theorem pc10(w:World)(os:OsState):segRun treeTable PW w 11 (some (r 6)) 1 246 (SharedT.abs ⟨t9 w.params,159,life,⟨[]⟩,drawn,382,os⟩) (piecesOf sts10 env cE ⟨29,0,30,8⟩ BB)=some (.next,(SharedT.abs ⟨t10 w.params,178,life,⟨[]⟩,drawn,407,os⟩),cE,⟨31,0,34,24⟩):=segRun_of (v6 (by kernel_rfl))
noncomputable def sts11:List Stmt:=[top 11]
noncomputable def e3_10(P:Params):List DictEntry:=(e3_9 P)++[en P "NoPaper" 422 (r 187)]
noncomputable def o3_10(P:Params):Obj:=di (e3_10 P) 20
noncomputable def c0m(P:Params):List Value:=c0n P++[(i 35 0),(i 0 0),(r 183)]
noncomputable def o12_11(P:Params):Obj:=fl N (c0m P)
noncomputable def o24_10(P:Params):Obj:=co "WearError" [(ty "ValueError")] [(r 24),(ty "ValueError"),(ty "Exception"),(ty "BaseException"),(ty "object")] 23 "WearError" true false [(r 44),(r 63),(r 75),(r 87),(r 106),(r 125),(r 144),(r 156),(r 175),(r 187)] [some (r 15),none,some (s "WearError" 189),some (s "WearError" 197),some (bi "ValueError.__new__"),some (b true)]
noncomputable def g11(P:Params):List Obj:=[tp [(r 24)],fl (ty "builtin_function_or_method") [(bi "type.__prepare__"),(ty "type")],di [en P "__module__" 414 (s "wearplan.errors" 187),en P "__qualname__" 416 (s "NoPaper" 415),en P "__firstlineno__" 418 (i 35 417),en P "__static_attributes__" 419 (r 185)] 4,tp [],fl N [],fl (ty "code") [(s "NoPaper" 409),(s "NoPaper" 410),(s "/claim/cut.py" 411),(i 35 0),(i 0 0),(i 0 0),(i 0 0),(i 0 0),(r 181),(b false),(i 181 0),(r 182),N,N,N,N,(i 412 0),(i 35 0),(s "/claim/cut.py" 413)],{cls:=(ty "frame"),slots:=⟨[some (r 183),some (r 3),some (r 180),none,some (s "wearplan.errors" 187),none,some (r 0)]⟩},tp [],di [en P "__module__" 414 (s "wearplan.errors" 187),en P "__firstlineno__" 418 (i 35 417),en P "__static_attributes__" 419 (r 185),en P "__doc__" 420 N] 2,co "NoPaper" [(r 24)] [(r 187),(r 24),(ty "ValueError"),(ty "Exception"),(ty "BaseException"),(ty "object")] 186 "NoPaper" true false [] [some (r 178),none,some (s "NoPaper" 407),some (s "NoPaper" 415),some (bi "ValueError.__new__"),some (b true)],fl (ty "super") [(r 187),(r 187),(r 187)],fl (ty "builtin_function_or_method") [(bi "object.__init_subclass__"),(r 187)]]
noncomputable def t11(P:Params):BT:=insL (g11 P) 178 (setL [(3,o3_10 P),(12,o12_11 P),(24,o24_10 P)] (t10 P))
theorem pc11(w:World)(os:OsState):segRun treeTable PW w 11 (some (r 6)) 1 214 (SharedT.abs ⟨t10 w.params,178,life,⟨[]⟩,drawn,407,os⟩) (piecesOf sts11 env cE ⟨31,0,34,24⟩ BB)=some (.next,(SharedT.abs ⟨t11 w.params,190,life,⟨[]⟩,drawn,423,os⟩),cE,⟨35,0,36,8⟩):=segRun_of (v6 (by kernel_rfl))
noncomputable def sts12:List Stmt:=[top 12]
noncomputable def e3_11(P:Params):List DictEntry:=(e3_10 P)++[en P "NoText" 447 (r 206)]
noncomputable def o3_11(P:Params):Obj:=di (e3_11 P) 21
noncomputable def c0l(P:Params):List Value:=c0m P++[(i 37 0),(i 0 0),(r 195)]
noncomputable def o12_12(P:Params):Obj:=fl N (c0l P)
noncomputable def o24_11(P:Params):Obj:=co "WearError" [(ty "ValueError")] [(r 24),(ty "ValueError"),(ty "Exception"),(ty "BaseException"),(ty "object")] 23 "WearError" true false [(r 44),(r 63),(r 75),(r 87),(r 106),(r 125),(r 144),(r 156),(r 175),(r 187),(r 206)] [some (r 15),none,some (s "WearError" 189),some (s "WearError" 197),some (bi "ValueError.__new__"),some (b true)]
noncomputable def g12(P:Params):List Obj:=[tp [(r 24)],fl (ty "builtin_function_or_method") [(bi "type.__prepare__"),(ty "type")],di [en P "__module__" 430 (s "wearplan.errors" 187),en P "__qualname__" 432 (s "NoText" 431),en P "__firstlineno__" 434 (i 37 433),en P "__init__" 442 (r 203),en P "__static_attributes__" 444 (r 204)] 5,tp [],fl N [(i 39 0),(i 4 0),(r 202)],fl (ty "code") [(s "NoText" 425),(s "NoText" 426),(s "/claim/cut.py" 427),(i 37 0),(i 0 0),(i 0 0),(i 0 0),(i 0 0),(r 193),(b false),(i 181 0),(r 194),N,N,N,N,(i 428 0),(i 37 0),(s "/claim/cut.py" 429)],{cls:=(ty "frame"),slots:=⟨[some (r 195),some (r 3),some (r 192),none,some (s "wearplan.errors" 187),none,some (r 0)]⟩},tp [],fl N [],tp [(s "self" 438),(s "row" 439)],tp [],fn N "__init__" "NoText.__init__" (L2.inClass (top 12) 0) 0 N N,fl (ty "code") [(s "__init__" 435),(s "NoText.__init__" 436),(s "/claim/cut.py" 437),(i 39 0),(i 2 0),(i 0 0),(i 0 0),(i 3 0),(r 197),(b true),(i 181 0),(r 198),N,(r 199),(r 200),(r 201),(i 440 0),(i 39 0),(s "/claim/cut.py" 441)],fn (ty "function") "__init__" "NoText.__init__" (L2.inClass (top 12) 0) 3 (s "wearplan.errors" 187) (r 202),tp [(s "row" 443)],di [en P "__module__" 430 (s "wearplan.errors" 187),en P "__firstlineno__" 434 (i 37 433),en P "__init__" 442 (r 203),en P "__static_attributes__" 444 (r 204),en P "__doc__" 445 N] 2,co "NoText" [(r 24)] [(r 206),(r 24),(ty "ValueError"),(ty "Exception"),(ty "BaseException"),(ty "object")] 205 "NoText" true false [] [some (r 190),none,some (s "NoText" 423),some (s "NoText" 431),some (bi "ValueError.__new__"),some (b true)],fl (ty "super") [(r 206),(r 206),(r 206)],fl (ty "builtin_function_or_method") [(bi "object.__init_subclass__"),(r 206)]]
noncomputable def t12(P:Params):BT:=insL (g12 P) 190 (setL [(3,o3_11 P),(12,o12_12 P),(24,o24_11 P)] (t11 P))
theorem pc12(w:World)(os:OsState):segRun treeTable PW w 11 (some (r 6)) 1 246 (SharedT.abs ⟨t11 w.params,190,life,⟨[]⟩,drawn,423,os⟩) (piecesOf sts12 env cE ⟨35,0,36,8⟩ BB)=some (.next,(SharedT.abs ⟨t12 w.params,209,life,⟨[]⟩,drawn,448,os⟩),cE,⟨37,0,40,22⟩):=segRun_of (v6 (by kernel_rfl))
noncomputable def sts13:List Stmt:=[top 13,top 14,top 15,top 16,top 17,top 18,top 19,top 20,top 21]
noncomputable def e3_12(P:Params):List DictEntry:=((e3_11 P).set 0 (en P "__name__" 165 (s "wearplan.parts" 495)))++[en P "NotTold" 463 (r 218),en P "is_number" 472 (r 227),en P "is_whole" 481 (r 234),en P "is_row" 488 (r 241),en P "is_whole_row" 494 (r 246),en P "GREATEST_FIRST" 498 (i 47 497),en P "MOST_ROUNDS" 500 (i 24 499)]
noncomputable def o3_12(P:Params):Obj:=di (e3_12 P) 28
noncomputable def c0k(P:Params):List Value:=c0l P++[(i 41 0),(i 0 0),(r 214),(i 44 0),(i 0 0),(r 226),(i 46 0),(i 0 0),(r 233),(i 48 0),(i 0 0),(r 240),(i 50 0),(i 0 0),(r 245)]
noncomputable def o12_13(P:Params):Obj:=fl N (c0k P)
noncomputable def f0x(P:Params):Obj:=co "WearError" [(ty "ValueError")] [(r 24),(ty "ValueError"),(ty "Exception"),(ty "BaseException"),(ty "object")] 23 "WearError" true false [(r 44),(r 63),(r 75),(r 87),(r 106),(r 125),(r 144),(r 156),(r 175),(r 187),(r 206),(r 218)] [some (r 15),none,some (s "WearError" 189),some (s "WearError" 197),some (bi "ValueError.__new__"),some (b true)]
noncomputable def g13(P:Params):List Obj:=[tp [(r 24)],fl (ty "builtin_function_or_method") [(bi "type.__prepare__"),(ty "type")],di [en P "__module__" 455 (s "wearplan.errors" 187),en P "__qualname__" 457 (s "NotTold" 456),en P "__firstlineno__" 459 (i 41 458),en P "__static_attributes__" 460 (r 216)] 4,tp [],fl N [],fl (ty "code") [(s "NotTold" 450),(s "NotTold" 451),(s "/claim/cut.py" 452),(i 41 0),(i 0 0),(i 0 0),(i 0 0),(i 0 0),(r 212),(b false),(i 181 0),(r 213),N,N,N,N,(i 453 0),(i 41 0),(s "/claim/cut.py" 454)],{cls:=(ty "frame"),slots:=⟨[some (r 214),some (r 3),some (r 211),none,some (s "wearplan.errors" 187),none,some (r 0)]⟩},tp [],di [en P "__module__" 455 (s "wearplan.errors" 187),en P "__firstlineno__" 459 (i 41 458),en P "__static_attributes__" 460 (r 216),en P "__doc__" 461 N] 2,co "NotTold" [(r 24)] [(r 218),(r 24),(ty "ValueError"),(ty "Exception"),(ty "BaseException"),(ty "object")] 217 "NotTold" true false [] [some (r 209),none,some (s "NotTold" 448),some (s "NotTold" 456),some (bi "ValueError.__new__"),some (b true)],fl (ty "super") [(r 218),(r 218),(r 218)],fl (ty "builtin_function_or_method") [(bi "object.__init_subclass__"),(r 218)],tp [],fl N [],tp [(s "thing" 469)],tp [],fn N "is_number" "is_number" (top 15) 0 N N,fl (ty "code") [(s "is_number" 466),(s "is_number" 467),(s "/claim/cut.py" 468),(i 44 0),(i 1 0),(i 0 0),(i 0 0),(i 3 0),(r 221),(b true),(i 181 0),(r 222),N,(r 223),(r 224),(r 225),(i 470 0),(i 44 0),(s "/claim/cut.py" 471)],fn (ty "function") "is_number" "is_number" (top 15) 3 (s "wearplan.signs" 464) (r 226),tp [],fl N [],tp [(s "thing" 476),(s "least" 477),(s "most" 478)],tp [],fn N "is_whole" "is_whole" (top 16) 0 N N,fl (ty "code") [(s "is_whole" 473),(s "is_whole" 474),(s "/claim/cut.py" 475),(i 46 0),(i 3 0),(i 0 0),(i 0 0),(i 3 0),(r 228),(b true),(i 181 0),(r 229),N,(r 230),(r 231),(r 232),(i 479 0),(i 46 0),(s "/claim/cut.py" 480)],fn (ty "function") "is_whole" "is_whole" (top 16) 3 (s "wearplan.signs" 464) (r 233),tp [],fl N [],tp [(s "thing" 485)],tp [],fn N "is_row" "is_row" (top 17) 0 N N,fl (ty "code") [(s "is_row" 482),(s "is_row" 483),(s "/claim/cut.py" 484),(i 48 0),(i 1 0),(i 0 0),(i 0 0),(i 3 0),(r 235),(b true),(i 181 0),(r 236),N,(r 237),(r 238),(r 239),(i 486 0),(i 48 0),(s "/claim/cut.py" 487)],fn (ty "function") "is_row" "is_row" (top 17) 3 (s "wearplan.signs" 464) (r 240),tp [],fl N [],fn N "is_whole_row" "is_whole_row" (top 18) 0 N N,fl (ty "code") [(s "is_whole_row" 489),(s "is_whole_row" 490),(s "/claim/cut.py" 491),(i 50 0),(i 5 0),(i 0 0),(i 0 0),(i 3 0),(r 242),(b true),(i 181 0),(r 243),N,N,N,(r 244),(i 492 0),(i 50 0),(s "/claim/cut.py" 493)],fn (ty "function") "is_whole_row" "is_whole_row" (top 18) 3 (s "wearplan.signs" 464) (r 245)]
noncomputable def t13(P:Params):BT:=insL (g13 P) 209 (setL [(3,o3_12 P),(12,o12_13 P),(24,f0x P)] (t12 P))
theorem pc13(w:World)(os:OsState):segRun treeTable PW w 11 (some (r 6)) 1 365 (SharedT.abs ⟨t12 w.params,209,life,⟨[]⟩,drawn,448,os⟩) (piecesOf sts13 env cE ⟨37,0,40,22⟩ BB)=some (.next,(SharedT.abs ⟨t13 w.params,247,life,⟨[]⟩,drawn,501,os⟩),cE,⟨56,0,56,11⟩):=segRun_of (v6 (by kernel_rfl))
noncomputable def sts14:List Stmt:=[top 22,top 23,top 24,top 25,top 26,top 27]
noncomputable def e3_13(P:Params):List DictEntry:=(e3_12 P)++[en P "Part" 535 (r 263),en P "loss" 543 (r 274),en P "is_stand" 551 (r 281),en P "check_stand" 559 (r 288),en P "check_first" 566 (r 295),en P "check_rounds" 574 (r 302)]
noncomputable def o3_13(P:Params):Obj:=di (e3_13 P) 34
noncomputable def c0j(P:Params):List Value:=c0k P++[(i 57 0),(i 0 0),(r 252),(i 72 0),(i 0 0),(r 273),(i 74 0),(i 0 0),(r 280),(i 76 0),(i 0 0),(r 287),(i 79 0),(i 0 0),(r 294),(i 82 0),(i 0 0),(r 301)]
noncomputable def o12_14(P:Params):Obj:=fl N (c0j P)
noncomputable def g14(P:Params):List Obj:=(tp []::fl (ty "builtin_function_or_method") [(bi "type.__prepare__"),(ty "type")]::di [en P "__module__" 508 (s "wearplan.parts" 495),en P "__qualname__" 510 (s "Part" 509),en P "__firstlineno__" 512 (i 57 511),en P "__init__" 523 (r 260),en P "__static_attributes__" 528 (r 261)] 5::tp []::fl N [(i 59 0),(i 4 0),(r 259)]::fl (ty "code") [(s "Part" 503),(s "Part" 504),(s "/claim/cut.py" 505),(i 57 0),(i 0 0),(i 0 0),(i 0 0),(i 0 0),(r 250),(b false),(i 181 0),(r 251),N,N,N,N,(i 506 0),(i 57 0),(s "/claim/cut.py" 507)]::{cls:=(ty "frame"),slots:=⟨[some (r 252),some (r 3),some (r 249),none,some (s "wearplan.parts" 495),none,some (r 0)]⟩}::tp []::fl N []::tp [(s "self" 516),(s "full" 517),(s "mark" 518),(s "wear" 519),(s "price" 520)]::tp []::fn N "__init__" "Part.__init__" (L2.inClass (top 22) 0) 0 N N::fl (ty "code") [(s "__init__" 513),(s "Part.__init__" 514),(s "/claim/cut.py" 515),(i 59 0),(i 5 0),(i 0 0),(i 0 0),(i 3 0),(r 254),(b true),(i 181 0),(r 255),N,(r 256),(r 257),(r 258),(i 521 0),(i 59 0),(s "/claim/cut.py" 522)]::fn (ty "function") "__init__" "Part.__init__" (L2.inClass (top 22) 0) 3 (s "wearplan.parts" 495) (r 259)::tp [(s "full" 524),(s "mark" 525),(s "price" 526),(s "wear" 527)]::di [en P "__module__" 508 (s "wearplan.parts" 495),en P "__firstlineno__" 512 (i 57 511),en P "__init__" 523 (r 260),en P "__static_attributes__" 528 (r 261),en P "__dict__" 530 (r 264),en P "__weakref__" 532 (r 265),en P "__doc__" 533 N] 4::co "Part" [(ty "object")] [(r 263),(ty "object")] 262 "Part" true false [] [none,none,some (s "Part" 501),some (s "Part" 509),some (bi "object.__new__"),some (b true)]::fl (ty "getset_descriptor") [(s "__dict__" 529),(r 263),(bi "function.__dict__"),(bi "function.__dict__#set")]::fl (ty "getset_descriptor") [(s "__weakref__" 531),(r 263),(bi "ExceptionGroup.__weakref__"),N]::fl (ty "super") [(r 263),(r 263),(r 263)]::fl (ty "builtin_function_or_method") [(bi "object.__init_subclass__"),(r 263)]::tp []::fl N []::tp [(s "part" 539),(s "round_number" 540)]::tp []::fn N "loss" "loss" (top 23) 0 N N::fl (ty "code") [(s "loss" 536),(s "loss" 537),(s "/claim/cut.py" 538),(i 72 0),(i 2 0),(i 0 0),(i 0 0),(i 3 0),(r 268),(b true),(i 181 0),(r 269),N,(r 270),(r 271),(r 272),(i 541 0),(i 72 0),(s "/claim/cut.py" 542)]::fn (ty "function") "loss" "loss" (top 23) 3 (s "wearplan.parts" 495) (r 273)::tp []::fl N []::tp [(s "part" 547),(s "thing" 548)]::tp []::fn N "is_stand" "is_stand" (top 24) 0 N N::fl (ty "code") [(s "is_stand" 544),(s "is_stand" 545),(s "/claim/cut.py" 546),(i 74 0),(i 2 0),(i 0 0),(i 0 0),(i 3 0),(r 275),(b true),(i 181 0),(r 276),N,(r 277),(r 278),(r 279),(i 549 0),(i 74 0),(s "/claim/cut.py" 550)]::fn (ty "function") "is_stand" "is_stand" (top 24) 3 (s "wearplan.parts" 495) (r 280)::tp []::fl N []::tp [(s "part" 555),(s "stand" 556)]::tp []::fn N "check_stand" "check_stand" (top 25) 0 N N::fl (ty "code") [(s "check_stand" 552),(s "check_stand" 553),(s "/claim/cut.py" 554),(i 76 0),(i 2 0),(i 0 0),(i 0 0),(i 3 0),(r 282),(b true),(i 181 0),(r 283),N,(r 284),(r 285),(r 286),(i 557 0),(i 76 0),(s "/claim/cut.py" 558)]::fn (ty "function") "check_stand" "check_stand" (top 25) 3 (s "wearplan.parts" 495) (r 287)::tp []::fl N []::tp [(s "first" 563)]::tp []::fn N "check_first" "check_first" (top 26) 0 N N::fl (ty "code") [(s "check_first" 560),(s "check_first" 561),(s "/claim/cut.py" 562),(i 79 0),(i 1 0),(i 0 0),(i 0 0),(i 3 0),(r 289),(b true),(i 181 0),(r 290),N,(r 291),(r 292),(r 293),(i 564 0),(i 79 0),(s "/claim/cut.py" 565)]::fn (ty "function") "check_first" "check_first" (top 26) 3 (s "wearplan.parts" 495) (r 294)::tp []::fl N []::tp [(s "first" 570),(s "rounds" 571)]::tp []::fn N "check_rounds" "check_rounds" (top 27) 0 N N::fl (ty "code") [(s "check_rounds" 567),(s "check_rounds" 568),(s "/claim/cut.py" 569),(i 82 0),(i 2 0),(i 0 0),(i 0 0),(i 3 0),(r 296),(b true),(i 181 0),(r 297),N,(r 298),(r 299),(r 300),(i 572 0),(i 82 0),(s "/claim/cut.py" 573)]::fn (ty "function") "check_rounds" "check_rounds" (top 27) 3 (s "wearplan.parts" 495) (r 301):: [])
noncomputable def t14(P:Params):BT:=insL (g14 P) 247 (setL [(3,o3_13 P),(12,o12_14 P)] (t13 P))
theorem pc14(w:World)(os:OsState):segRun treeTable PW w 11 (some (r 6)) 1 378 (SharedT.abs ⟨t13 w.params,247,life,⟨[]⟩,drawn,501,os⟩) (piecesOf sts14 env cE ⟨56,0,56,11⟩ BB)=some (.next,(SharedT.abs ⟨t14 w.params,303,life,⟨[]⟩,drawn,575,os⟩),cE,⟨82,0,85,24⟩):=segRun_of (v6 (by kernel_rfl))
noncomputable def sts15:List Stmt:=[top 28,top 29,top 30,top 31,top 32,top 33,top 34,top 35,top 36,top 37,top 38,top 39,top 40]
noncomputable def e3_14(P:Params):List DictEntry:=((e3_13 P).set 0 (en P "__name__" 165 (s "law_wearplan_k10_stretches_asked" 645)))++[en P "check_run" 584 (r 309),en P "stands_until_fall" 596 (r 316),en P "needs_change" 611 (r 323),en P "needs" 622 (r 330),en P "is_stretch" 631 (r 337),en P "is_stretches" 644 (r 344),en P "_law_mixed" 655 (r 351),en P "_law_deck" 668 (r 358),en P "_law_next" 675 (r 365),en P "_law_part" 690 (r 372),en P "_law_lost" 698 (r 379)]
noncomputable def o3_14(P:Params):Obj:=di (e3_14 P) 45
noncomputable def c0i(P:Params):List Value:=c0j P++[(i 86 0),(i 0 0),(r 308),(i 89 0),(i 0 0),(r 315),(i 98 0),(i 0 0),(r 322),(i 105 0),(i 0 0),(r 329),(i 111 0),(i 0 0),(r 336),(i 113 0),(i 0 0),(r 343),(i 126 0),(i 0 0),(r 350),(i 134 0),(i 0 0),(r 357),(i 149 0),(i 0 0),(r 364),(i 151 0),(i 0 0),(r 371),(i 163 0),(i 0 0),(r 378)]
noncomputable def o12_15(P:Params):Obj:=fl N (c0i P)
noncomputable def g15(P:Params):List Obj:=(tp []::fl N []::tp [(s "part" 578),(s "stand" 579),(s "first" 580),(s "rounds" 581)]::tp []::fn N "check_run" "check_run" (top 28) 0 N N::fl (ty "code") [(s "check_run" 575),(s "check_run" 576),(s "/claim/cut.py" 577),(i 86 0),(i 4 0),(i 0 0),(i 0 0),(i 3 0),(r 303),(b true),(i 181 0),(r 304),N,(r 305),(r 306),(r 307),(i 582 0),(i 86 0),(s "/claim/cut.py" 583)]::fn (ty "function") "check_run" "check_run" (top 28) 3 (s "wearplan.parts" 495) (r 308)::tp []::fl N []::tp [(s "part" 588),(s "stand" 589),(s "first" 590),(s "rounds" 591),(s "stands" 592),(s "round_number" 593)]::tp []::fn N "stands_until_fall" "stands_until_fall" (top 29) 0 N N::fl (ty "code") [(s "stands_until_fall" 585),(s "stands_until_fall" 586),(s "/claim/cut.py" 587),(i 89 0),(i 4 0),(i 0 0),(i 0 0),(i 3 0),(r 310),(b true),(i 181 0),(r 311),N,(r 312),(r 313),(r 314),(i 594 0),(i 89 0),(s "/claim/cut.py" 595)]::fn (ty "function") "stands_until_fall" "stands_until_fall" (top 29) 3 (s "wearplan.parts" 495) (r 315)::tp []::fl N []::tp [(s "part" 602),(s "stand" 603),(s "first" 604),(s "a" 605),(s "b" 606),(s "start" 607),(s "rounds" 608)]::tp []::fn N "needs_change" "needs_change" (top 31) 0 N N::fl (ty "code") [(s "needs_change" 599),(s "needs_change" 600),(s "/claim/cut.py" 601),(i 98 0),(i 5 0),(i 0 0),(i 0 0),(i 3 0),(r 317),(b true),(i 181 0),(r 318),N,(r 319),(r 320),(r 321),(i 609 0),(i 98 0),(s "/claim/cut.py" 610)]::fn (ty "function") "needs_change" "needs_change" (top 31) 3 (s "wearplan.ones" 597) (r 322)::tp []::fl N []::tp [(s "part" 615),(s "stand" 616),(s "first" 617),(s "a" 618),(s "b" 619)]::tp []::fn N "needs" "needs" (top 32) 0 N N::fl (ty "code") [(s "needs" 612),(s "needs" 613),(s "/claim/cut.py" 614),(i 105 0),(i 5 0),(i 0 0),(i 0 0),(i 3 0),(r 324),(b true),(i 181 0),(r 325),N,(r 326),(r 327),(r 328),(i 620 0),(i 105 0),(s "/claim/cut.py" 621)]::fn (ty "function") "needs" "needs" (top 32) 3 (s "wearplan.ones" 597) (r 329)::tp []::fl N []::tp [(s "thing" 626),(s "least" 627),(s "most" 628)]::tp []::fn N "is_stretch" "is_stretch" (top 33) 0 N N::fl (ty "code") [(s "is_stretch" 623),(s "is_stretch" 624),(s "/claim/cut.py" 625),(i 111 0),(i 3 0),(i 0 0),(i 0 0),(i 3 0),(r 331),(b true),(i 181 0),(r 332),N,(r 333),(r 334),(r 335),(i 629 0),(i 111 0),(s "/claim/cut.py" 630)]::fn (ty "function") "is_stretch" "is_stretch" (top 33) 3 (s "wearplan.ones" 597) (r 336)::tp []::fl N []::tp [(s "part" 635),(s "stand" 636),(s "first" 637),(s "rounds" 638),(s "thing" 639),(s "free" 640),(s "entry" 641)]::tp []::fn N "is_stretches" "is_stretches" (top 34) 0 N N::fl (ty "code") [(s "is_stretches" 632),(s "is_stretches" 633),(s "/claim/cut.py" 634),(i 113 0),(i 5 0),(i 0 0),(i 0 0),(i 3 0),(r 338),(b true),(i 181 0),(r 339),N,(r 340),(r 341),(r 342),(i 642 0),(i 113 0),(s "/claim/cut.py" 643)]::fn (ty "function") "is_stretches" "is_stretches" (top 34) 3 (s "wearplan.ones" 597) (r 343)::tp []::fl N []::tp [(s "_law_cell" 650),(s "_law_k" 651),(s "_law_number" 652)]::tp []::fn N "_law_mixed" "_law_mixed" (top 36) 0 N N::fl (ty "code") [(s "_law_mixed" 647),(s "_law_mixed" 648),(s "/claim/cut.py" 649),(i 126 0),(i 2 0),(i 0 0),(i 0 0),(i 3 0),(r 345),(b true),(i 181 0),(r 346),N,(r 347),(r 348),(r 349),(i 653 0),(i 126 0),(s "/claim/cut.py" 654)]::fn (ty "function") "_law_mixed" "_law_mixed" (top 36) 3 (s "law_wearplan_k10_stretches_asked" 645) (r 350)::tp []::fl N []::tp [(s "_law_script" 659),(s "_law_many" 660),(s "_law_cells" 661),(s "_law_found" 662),(s "_law_k" 663),(s "_law_cell" 664),(s "_law_rest" 665)]::tp []::fn N "_law_deck" "_law_deck" (top 37) 0 N N::fl (ty "code") [(s "_law_deck" 656),(s "_law_deck" 657),(s "/claim/cut.py" 658),(i 134 0),(i 2 0),(i 0 0),(i 0 0),(i 3 0),(r 352),(b true),(i 181 0),(r 353),N,(r 354),(r 355),(r 356),(i 666 0),(i 134 0),(s "/claim/cut.py" 667)]::fn (ty "function") "_law_deck" "_law_deck" (top 37) 3 (s "law_wearplan_k10_stretches_asked" 645) (r 357)::tp []::fl N []::tp [(s "_law_deck_here" 672)]::tp []::fn N "_law_next" "_law_next" (top 38) 0 N N::fl (ty "code") [(s "_law_next" 669),(s "_law_next" 670),(s "/claim/cut.py" 671),(i 149 0),(i 1 0),(i 0 0),(i 0 0),(i 3 0),(r 359),(b true),(i 181 0),(r 360),N,(r 361),(r 362),(r 363),(i 673 0),(i 149 0),(s "/claim/cut.py" 674)]::fn (ty "function") "_law_next" "_law_next" (top 38) 3 (s "law_wearplan_k10_stretches_asked" 645) (r 364)::tp []::fl N []::tp [(s "_law_deck_here" 679),(s "_law_most" 680),(s "_law_wears" 681),(s "_law_full" 682),(s "_law_number" 683),(s "_law_mark" 684),(s "_law_wear" 685),(s "_law_k" 686),(s "_law_gone" 687)]::tp []::fn N "_law_part" "_law_part" (top 39) 0 N N::fl (ty "code") [(s "_law_part" 676),(s "_law_part" 677),(s "/claim/cut.py" 678),(i 151 0),(i 3 0),(i 0 0),(i 0 0),(i 3 0),(r 366),(b true),(i 181 0),(r 367),N,(r 368),(r 369),(r 370),(i 688 0),(i 151 0),(s "/claim/cut.py" 689)]::fn (ty "function") "_law_part" "_law_part" (top 39) 3 (s "law_wearplan_k10_stretches_asked" 645) (r 371)::tp []::fl N []::tp [(s "_law_row_here" 694),(s "_law_number" 695)]::tp []::fn N "_law_lost" "_law_lost" (top 40) 0 N N::fl (ty "code") [(s "_law_lost" 691),(s "_law_lost" 692),(s "/claim/cut.py" 693),(i 163 0),(i 2 0),(i 0 0),(i 0 0),(i 3 0),(r 373),(b true),(i 181 0),(r 374),N,(r 375),(r 376),(r 377),(i 696 0),(i 163 0),(s "/claim/cut.py" 697)]::fn (ty "function") "_law_lost" "_law_lost" (top 40) 3 (s "law_wearplan_k10_stretches_asked" 645) (r 378):: [])
noncomputable def t15(P:Params):BT:=insL (g15 P) 303 (setL [(3,o3_14 P),(12,o12_15 P)] (t14 P))
theorem pc15(w:World)(os:OsState):segRun treeTable PW w 11 (some (r 6)) 1 381 (SharedT.abs ⟨t14 w.params,303,life,⟨[]⟩,drawn,575,os⟩) (piecesOf sts15 env cE ⟨82,0,85,24⟩ BB)=some (.next,(SharedT.abs ⟨t15 w.params,380,life,⟨[]⟩,drawn,699,os⟩),cE,⟨163,0,164,64⟩):=segRun_of (v6 (by kernel_rfl))
noncomputable def sts16:List Stmt:=[top 41,top 42,top 43,top 44,top 45,top 46,top 47,top 48,top 49,top 50,top 51]
noncomputable def e3_15(P:Params):List DictEntry:=(e3_14 P)++[en P "_law_made" 706 (r 386),en P "_law_kinds" 714 (r 393),en P "_law_is_just" 722 (r 400),en P "_law_changes" 735 (r 407),en P "_law_fewest" 753 (r 414),en P "_law_falls" 764 (r 421),en P "_law_needs" 775 (r 428),en P "_law_drawn" 786 (r 435),en P "_law_is" 794 (r 442),en P "_law_are" 809 (r 449),en P "_law_between" 824 (r 456)]
noncomputable def o3_15(P:Params):Obj:=di (e3_15 P) 56
noncomputable def c0h(P:Params):List Value:=c0i P++[(i 165 0),(i 0 0),(r 385),(i 169 0),(i 0 0),(r 392),(i 177 0),(i 0 0),(r 399),(i 181 0),(i 0 0),(r 406),(i 192 0),(i 0 0),(r 413),(i 204 0),(i 0 0),(r 420),(i 210 0),(i 0 0),(r 427),(i 214 0),(i 0 0),(r 434),(i 224 0),(i 0 0),(r 441),(i 226 0),(i 0 0),(r 448),(i 236 0),(i 0 0),(r 455)]
noncomputable def o12_16(P:Params):Obj:=fl N (c0h P)
noncomputable def g16(P:Params):List Obj:=(tp []::fl N []::tp [(s "_law_row_here" 702),(s "_law_sort" 703)]::tp []::fn N "_law_made" "_law_made" (top 41) 0 N N::fl (ty "code") [(s "_law_made" 699),(s "_law_made" 700),(s "/claim/cut.py" 701),(i 165 0),(i 2 0),(i 0 0),(i 0 0),(i 3 0),(r 380),(b true),(i 181 0),(r 381),N,(r 382),(r 383),(r 384),(i 704 0),(i 165 0),(s "/claim/cut.py" 705)]::fn (ty "function") "_law_made" "_law_made" (top 41) 3 (s "law_wearplan_k10_stretches_asked" 645) (r 385)::tp []::fl N []::tp [(s "_law_error" 710),(s "_law_found" 711)]::tp []::fn N "_law_kinds" "_law_kinds" (top 42) 0 N N::fl (ty "code") [(s "_law_kinds" 707),(s "_law_kinds" 708),(s "/claim/cut.py" 709),(i 169 0),(i 1 0),(i 0 0),(i 0 0),(i 3 0),(r 387),(b true),(i 181 0),(r 388),N,(r 389),(r 390),(r 391),(i 712 0),(i 169 0),(s "/claim/cut.py" 713)]::fn (ty "function") "_law_kinds" "_law_kinds" (top 42) 3 (s "law_wearplan_k10_stretches_asked" 645) (r 392)::tp []::fl N []::tp [(s "_law_error" 718),(s "_law_told" 719)]::tp []::fn N "_law_is_just" "_law_is_just" (top 43) 0 N N::fl (ty "code") [(s "_law_is_just" 715),(s "_law_is_just" 716),(s "/claim/cut.py" 717),(i 177 0),(i 2 0),(i 0 0),(i 0 0),(i 3 0),(r 394),(b true),(i 181 0),(r 395),N,(r 396),(r 397),(r 398),(i 720 0),(i 177 0),(s "/claim/cut.py" 721)]::fn (ty "function") "_law_is_just" "_law_is_just" (top 43) 3 (s "law_wearplan_k10_stretches_asked" 645) (r 399)::tp []::fl N []::tp [(s "_law_row_here" 726),(s "_law_stand" 727),(s "_law_first" 728),(s "_law_rounds" 729),(s "_law_found" 730),(s "_law_number" 731),(s "_law_gone" 732)]::tp []::fn N "_law_changes" "_law_changes" (top 44) 0 N N::fl (ty "code") [(s "_law_changes" 723),(s "_law_changes" 724),(s "/claim/cut.py" 725),(i 181 0),(i 4 0),(i 0 0),(i 0 0),(i 3 0),(r 401),(b true),(i 181 0),(r 402),N,(r 403),(r 404),(r 405),(i 733 0),(i 181 0),(s "/claim/cut.py" 734)]::fn (ty "function") "_law_changes" "_law_changes" (top 44) 3 (s "law_wearplan_k10_stretches_asked" 645) (r 406)::tp []::fl N []::tp [(s "_law_row_here" 739),(s "_law_stand" 740),(s "_law_first" 741),(s "_law_rounds" 742),(s "_law_counts" 743),(s "_law_number" 744),(s "_law_gone" 745),(s "_law_after" 746),(s "_law_here" 747),(s "_law_there" 748),(s "_law_many" 749),(s "_law_old" 750)]::tp []::fn N "_law_fewest" "_law_fewest" (top 45) 0 N N::fl (ty "code") [(s "_law_fewest" 736),(s "_law_fewest" 737),(s "/claim/cut.py" 738),(i 192 0),(i 4 0),(i 0 0),(i 0 0),(i 3 0),(r 408),(b true),(i 181 0),(r 409),N,(r 410),(r 411),(r 412),(i 751 0),(i 192 0),(s "/claim/cut.py" 752)]::fn (ty "function") "_law_fewest" "_law_fewest" (top 45) 3 (s "law_wearplan_k10_stretches_asked" 645) (r 413)::tp []::fl N []::tp [(s "_law_row_here" 757),(s "_law_stand" 758),(s "_law_begin" 759),(s "_law_end" 760),(s "_law_number" 761)]::tp []::fn N "_law_falls" "_law_falls" (top 46) 0 N N::fl (ty "code") [(s "_law_falls" 754),(s "_law_falls" 755),(s "/claim/cut.py" 756),(i 204 0),(i 4 0),(i 0 0),(i 0 0),(i 3 0),(r 415),(b true),(i 181 0),(r 416),N,(r 417),(r 418),(r 419),(i 762 0),(i 204 0),(s "/claim/cut.py" 763)]::fn (ty "function") "_law_falls" "_law_falls" (top 46) 3 (s "law_wearplan_k10_stretches_asked" 645) (r 420)::tp []::fl N []::tp [(s "_law_row_here" 768),(s "_law_stand" 769),(s "_law_first" 770),(s "_law_a" 771),(s "_law_b" 772)]::tp []::fn N "_law_needs" "_law_needs" (top 47) 0 N N::fl (ty "code") [(s "_law_needs" 765),(s "_law_needs" 766),(s "/claim/cut.py" 767),(i 210 0),(i 5 0),(i 0 0),(i 0 0),(i 3 0),(r 422),(b true),(i 181 0),(r 423),N,(r 424),(r 425),(r 426),(i 773 0),(i 210 0),(s "/claim/cut.py" 774)]::fn (ty "function") "_law_needs" "_law_needs" (top 47) 3 (s "law_wearplan_k10_stretches_asked" 645) (r 427)::tp []::fl N []::tp [(s "_law_deck_here" 779),(s "_law_row_here" 780),(s "_law_stand" 781),(s "_law_rounds" 782),(s "_law_first" 783)]::tp []::fn N "_law_drawn" "_law_drawn" (top 48) 0 N N::fl (ty "code") [(s "_law_drawn" 776),(s "_law_drawn" 777),(s "/claim/cut.py" 778),(i 214 0),(i 1 0),(i 0 0),(i 0 0),(i 3 0),(r 429),(b true),(i 181 0),(r 430),N,(r 431),(r 432),(r 433),(i 784 0),(i 214 0),(s "/claim/cut.py" 785)]::fn (ty "function") "_law_drawn" "_law_drawn" (top 48) 3 (s "law_wearplan_k10_stretches_asked" 645) (r 434)::tp []::fl N []::tp [(s "_law_found" 790),(s "_law_due" 791)]::tp []::fn N "_law_is" "_law_is" (top 49) 0 N N::fl (ty "code") [(s "_law_is" 787),(s "_law_is" 788),(s "/claim/cut.py" 789),(i 224 0),(i 2 0),(i 0 0),(i 0 0),(i 3 0),(r 436),(b true),(i 181 0),(r 437),N,(r 438),(r 439),(r 440),(i 792 0),(i 224 0),(s "/claim/cut.py" 793)]::fn (ty "function") "_law_is" "_law_is" (top 49) 3 (s "law_wearplan_k10_stretches_asked" 645) (r 441)::tp []::fl N []::tp [(s "_law_drawn_here" 798),(s "_law_told" 799),(s "_law_row_here" 800),(s "_law_stand" 801),(s "_law_first" 802),(s "_law_rounds" 803),(s "_law_low" 804),(s "_law_a" 805),(s "_law_b" 806)]::tp []::fn N "_law_are" "_law_are" (top 50) 0 N N::fl (ty "code") [(s "_law_are" 795),(s "_law_are" 796),(s "/claim/cut.py" 797),(i 226 0),(i 2 0),(i 0 0),(i 0 0),(i 3 0),(r 443),(b true),(i 181 0),(r 444),N,(r 445),(r 446),(r 447),(i 807 0),(i 226 0),(s "/claim/cut.py" 808)]::fn (ty "function") "_law_are" "_law_are" (top 50) 3 (s "law_wearplan_k10_stretches_asked" 645) (r 448)::tp []::fl N []::tp [(s "_law_drawn_here" 813),(s "_law_row_here" 814),(s "_law_stand" 815),(s "_law_first" 816),(s "_law_rounds" 817),(s "_law_found" 818),(s "_law_begin" 819),(s "_law_changes_here" 820),(s "_law_number" 821)]::tp []::fn N "_law_between" "_law_between" (top 51) 0 N N::fl (ty "code") [(s "_law_between" 810),(s "_law_between" 811),(s "/claim/cut.py" 812),(i 236 0),(i 1 0),(i 0 0),(i 0 0),(i 3 0),(r 450),(b true),(i 181 0),(r 451),N,(r 452),(r 453),(r 454),(i 822 0),(i 236 0),(s "/claim/cut.py" 823)]::fn (ty "function") "_law_between" "_law_between" (top 51) 3 (s "law_wearplan_k10_stretches_asked" 645) (r 455):: [])
noncomputable def t16(P:Params):BT:=insL (g16 P) 380 (setL [(3,o3_15 P),(12,o12_16 P)] (t15 P))
theorem pc16(w:World)(os:OsState):segRun treeTable PW w 11 (some (r 6)) 1 369 (SharedT.abs ⟨t15 w.params,380,life,⟨[]⟩,drawn,699,os⟩) (piecesOf sts16 env cE ⟨163,0,164,64⟩ BB)=some (.next,(SharedT.abs ⟨t16 w.params,457,life,⟨[]⟩,drawn,825,os⟩),cE,⟨236,0,246,21⟩):=segRun_of (v6 (by kernel_rfl))
noncomputable def sts17:List Stmt:=[top 52,top 53,top 54,top 55,top 56,top 57,top 58,top 59,top 60]
noncomputable def e3_16(P:Params):List DictEntry:=(e3_15 P)++[en P "_law_bent" 840 (r 463),en P "_law_others" 855 (r 470),en P "_law_row" 861 (r 475),en P "_law_needs_right" 876 (r 482),en P "_law_rounds_refused" 888 (r 489),en P "_law_stands_refused" 903 (r 496),en P "_law_paper_refused" 914 (r 503),en P "_law_refused" 930 (r 510),en P "law" 950 (r 517)]
noncomputable def z1g(P:Params):Obj:=di (e3_16 P) 65
noncomputable def e12_17(P:Params):List Value:=c0h P++[(i 247 0),(i 0 0),(r 462),(i 263 0),(i 0 0),(r 469),(i 273 0),(i 0 0),(r 474),(i 277 0),(i 0 0),(r 481),(i 285 0),(i 0 0),(r 488),(i 291 0),(i 0 0),(r 495),(i 303 0),(i 0 0),(r 502),(i 309 0),(i 0 0),(r 509),(i 329 0),(i 0 0),(r 516)]
noncomputable def c0g(P:Params):Obj:=fl N (e12_17 P)
noncomputable def g17(P:Params):List Obj:=(tp []::fl N []::tp [(s "_law_deck_here" 828),(s "_law_drawn_here" 829),(s "_law_told" 830),(s "_law_first" 831),(s "_law_found" 832),(s "_law_a" 833),(s "_law_b" 834),(s "_law_at" 835),(s "_law_one" 836),(s "_law_more" 837)]::tp []::fn N "_law_bent" "_law_bent" (top 52) 0 N N::fl (ty "code") [(s "_law_bent" 825),(s "_law_bent" 826),(s "/claim/cut.py" 827),(i 247 0),(i 3 0),(i 0 0),(i 0 0),(i 3 0),(r 457),(b true),(i 181 0),(r 458),N,(r 459),(r 460),(r 461),(i 838 0),(i 247 0),(s "/claim/cut.py" 839)]::fn (ty "function") "_law_bent" "_law_bent" (top 52) 3 (s "law_wearplan_k10_stretches_asked" 645) (r 462)::tp []::fl N []::tp [(s "_law_deck_here" 844),(s "_law_drawn_here" 845),(s "_law_told" 846),(s "_law_found" 847),(s "_law_at" 848),(s "_law_a" 849),(s "_law_b" 850),(s "_law_twins" 851),(s "_law_one" 852)]::tp []::fn N "_law_others" "_law_others" (top 53) 0 N N::fl (ty "code") [(s "_law_others" 841),(s "_law_others" 842),(s "/claim/cut.py" 843),(i 263 0),(i 3 0),(i 0 0),(i 0 0),(i 3 0),(r 464),(b true),(i 181 0),(r 465),N,(r 466),(r 467),(r 468),(i 853 0),(i 263 0),(s "/claim/cut.py" 854)]::fn (ty "function") "_law_others" "_law_others" (top 53) 3 (s "law_wearplan_k10_stretches_asked" 645) (r 469)::tp []::fl N []::fn N "_law_row" "_law_row" (top 54) 0 N N::fl (ty "code") [(s "_law_row" 856),(s "_law_row" 857),(s "/claim/cut.py" 858),(i 273 0),(i 2 0),(i 0 0),(i 0 0),(i 3 0),(r 471),(b true),(i 181 0),(r 472),N,N,N,(r 473),(i 859 0),(i 273 0),(s "/claim/cut.py" 860)]::fn (ty "function") "_law_row" "_law_row" (top 54) 3 (s "law_wearplan_k10_stretches_asked" 645) (r 474)::tp []::fl N []::tp [(s "_law_part_here" 865),(s "_law_drawn_here" 866),(s "_law_row_here" 867),(s "_law_stand" 868),(s "_law_first" 869),(s "_law_rounds" 870),(s "_law_a" 871),(s "_law_b" 872),(s "_law_due" 873)]::tp []::fn N "_law_needs_right" "_law_needs_right" (top 55) 0 N N::fl (ty "code") [(s "_law_needs_right" 862),(s "_law_needs_right" 863),(s "/claim/cut.py" 864),(i 277 0),(i 2 0),(i 0 0),(i 0 0),(i 3 0),(r 476),(b true),(i 181 0),(r 477),N,(r 478),(r 479),(r 480),(i 874 0),(i 277 0),(s "/claim/cut.py" 875)]::fn (ty "function") "_law_needs_right" "_law_needs_right" (top 55) 3 (s "law_wearplan_k10_stretches_asked" 645) (r 481)::tp []::fl N []::tp [(s "_law_part_here" 880),(s "_law_stand" 881),(s "_law_first" 882),(s "_law_a" 883),(s "_law_b" 884),(s "_law_error" 885)]::tp []::fn N "_law_rounds_refused" "_law_rounds_refused" (top 56) 0 N N::fl (ty "code") [(s "_law_rounds_refused" 877),(s "_law_rounds_refused" 878),(s "/claim/cut.py" 879),(i 285 0),(i 5 0),(i 0 0),(i 0 0),(i 3 0),(r 483),(b true),(i 181 0),(r 484),N,(r 485),(r 486),(r 487),(i 886 0),(i 285 0),(s "/claim/cut.py" 887)]::fn (ty "function") "_law_rounds_refused" "_law_rounds_refused" (top 56) 3 (s "law_wearplan_k10_stretches_asked" 645) (r 488)::tp []::fl N []::tp [(s "_law_part_here" 892),(s "_law_stand" 893),(s "_law_drawn_here" 894),(s "_law_row_here" 895),(s "_law_good" 896),(s "_law_first" 897),(s "_law_rounds" 898),(s "_law_error" 899),(s "second" 900)]::tp []::fn N "_law_stands_refused" "_law_stands_refused" (top 57) 0 N N::fl (ty "code") [(s "_law_stands_refused" 889),(s "_law_stands_refused" 890),(s "/claim/cut.py" 891),(i 291 0),(i 3 0),(i 0 0),(i 0 0),(i 3 0),(r 490),(b true),(i 181 0),(r 491),N,(r 492),(r 493),(r 494),(i 901 0),(i 291 0),(s "/claim/cut.py" 902)]::fn (ty "function") "_law_stands_refused" "_law_stands_refused" (top 57) 3 (s "law_wearplan_k10_stretches_asked" 645) (r 495)::tp []::fl N []::tp [(s "_law_part_here" 907),(s "_law_stand" 908),(s "_law_first" 909),(s "_law_rounds" 910),(s "_law_error" 911)]::tp []::fn N "_law_paper_refused" "_law_paper_refused" (top 58) 0 N N::fl (ty "code") [(s "_law_paper_refused" 904),(s "_law_paper_refused" 905),(s "/claim/cut.py" 906),(i 303 0),(i 4 0),(i 0 0),(i 0 0),(i 3 0),(r 497),(b true),(i 181 0),(r 498),N,(r 499),(r 500),(r 501),(i 912 0),(i 303 0),(s "/claim/cut.py" 913)]::fn (ty "function") "_law_paper_refused" "_law_paper_refused" (top 58) 3 (s "law_wearplan_k10_stretches_asked" 645) (r 502)::tp []::fl N []::tp [(s "_law_part_here" 918),(s "_law_drawn_here" 919),(s "_law_row_here" 920),(s "_law_stand" 921),(s "_law_first" 922),(s "_law_rounds" 923),(s "_law_thing" 924),(s "_law_pairs" 925),(s "_law_a" 926),(s "_law_b" 927)]::tp []::fn N "_law_refused" "_law_refused" (top 59) 0 N N::fl (ty "code") [(s "_law_refused" 915),(s "_law_refused" 916),(s "/claim/cut.py" 917),(i 309 0),(i 2 0),(i 0 0),(i 0 0),(i 3 0),(r 504),(b true),(i 181 0),(r 505),N,(r 506),(r 507),(r 508),(i 928 0),(i 309 0),(s "/claim/cut.py" 929)]::fn (ty "function") "_law_refused" "_law_refused" (top 59) 3 (s "law_wearplan_k10_stretches_asked" 645) (r 509)::tp []::fl N []::tp [(s "_law_script" 934),(s "_law_deck_here" 935),(s "_law_drawn_here" 936),(s "_law_row_here" 937),(s "_law_stand" 938),(s "_law_first" 939),(s "_law_rounds" 940),(s "_law_part_here" 941),(s "_law_told" 942),(s "_law_k" 943),(s "_law_bent_here" 944),(s "_law_handed" 945),(s "_law_told_right" 946),(s "_law_thing" 947)]::tp []::fn N "law" "law" (top 60) 0 N N::fl (ty "code") [(s "law" 931),(s "law" 932),(s "/claim/cut.py" 933),(i 329 0),(i 1 0),(i 0 0),(i 0 0),(i 3 0),(r 511),(b true),(i 181 0),(r 512),N,(r 513),(r 514),(r 515),(i 948 0),(i 329 0),(s "/claim/cut.py" 949)]::fn (ty "function") "law" "law" (top 60) 3 (s "law_wearplan_k10_stretches_asked" 645) (r 516):: [])
noncomputable def t17(P:Params):BT:=insL (g17 P) 457 (setL [(3,z1g P),(12,c0g P)] (t16 P))
theorem pc17(w:World)(os:OsState):segRun treeTable PW w 11 (some (r 6)) 1 323 (SharedT.abs ⟨t16 w.params,457,life,⟨[]⟩,drawn,825,os⟩) (piecesOf sts17 env cE ⟨236,0,246,21⟩ BB)=some (.next,(SharedT.abs ⟨t17 w.params,518,life,⟨[]⟩,drawn,951,os⟩),cE,⟨329,0,347,15⟩):=segRun_of (v6 (by kernel_rfl))
noncomputable def HF(P:Params):Heap:=⟨⟨[(boot_o_0 P),(boot_o_1 P),(boot_o_2 P),(z1g P),(boot_o_4 P),(boot_o_5 P),(boot_o_6 P),(boot_o_7 P),(boot_o_8 P),(boot_o_9 P),(boot_o_10 P),(o11_0 P),(c0g P),(o13_0 P),(o14_0 P)]++(((g1 P).set 9 (f0x P))++((g2 P)++((g3 P)++((g4 P)++((g5 P)++((g6 P)++((g7 P)++((g8 P)++((g9 P)++((g10 P)++((g11 P)++((g12 P)++((g13 P)++((g14 P)++((g15 P)++((g16 P)++((g17 P))))))))))))))))))⟩,life⟩
theorem fin(w:World)(os:OsState):topRun treeTable PW w 11 (some (r 6)) 2 (SharedT.abs ⟨t17 w.params,518,life,⟨[]⟩,drawn,951,os⟩) (restOf [] env cE ⟨329,0,347,15⟩ BB)=some ⟨HF w.params,⟨[]⟩,drawn,951,os⟩:=piece_nil (z1q (by kernel_rfl))
theorem z1f:behindTheImports PW=(sts1++(sts2++(sts3++(sts4++(sts5++(sts6++(sts7++(sts8++(sts9++(sts10++(sts11++(sts12++(sts13++(sts14++(sts15++(sts16++(sts17++[]))))))))))))))))):=by kernel_rfl
theorem run(w:World)(os:OsState):topRun treeTable PW w 11 (some (r 6)) (12+(1+(196+(246+(246+(214+(214+(246+(246+(248+(214+(246+(214+(246+(365+(378+(381+(369+(323+2))))))))))))))))))) ⟨boot_heap w.params,⟨[]⟩,boot_drawn,boot_toks,os⟩ (topStub PW)=some ⟨HF w.params,⟨[]⟩,drawn,951,os⟩:=
 go_top (pre w os) (o0j z1f (blk w os) (piece_app (pc1 w os) (piece_app (pc2 w os) (piece_app (pc3 w os) (piece_app (pc4 w os) (piece_app (pc5 w os) (piece_app (pc6 w os) (piece_app (pc7 w os) (piece_app (pc8 w os) (piece_app (pc9 w os) (piece_app (pc10 w os) (piece_app (pc11 w os) (piece_app (pc12 w os) (piece_app (pc13 w os) (piece_app (pc14 w os) (piece_app (pc15 w os) (piece_app (pc16 w os) (piece_app (pc17 w os) (fin w os)))))))))))))))))))
noncomputable def K(P:Params):Frag:=((nat_lit 2,boot_o_2 P)::(nat_lit 3,z1g P)::(nat_lit 15,x g1 0 P)::(nat_lit 22,x g1 7 P)::(nat_lit 23,x g1 8 P)::(nat_lit 24,f0x P)::(nat_lit 25,x g1 10 P)::(nat_lit 28,x g2 0 P)::(nat_lit 35,x g2 7 P)::(nat_lit 37,x g2 9 P)::(nat_lit 38,x g2 10 P)::(nat_lit 40,x g2 12 P)::(nat_lit 41,x g2 13 P)::(nat_lit 42,x g2 14 P)::(nat_lit 43,x g2 15 P)::(nat_lit 44,x g2 16 P)::(nat_lit 47,x g3 0 P)::(nat_lit 54,x g3 7 P)::(nat_lit 56,x g3 9 P)::(nat_lit 57,x g3 10 P)::(nat_lit 59,x g3 12 P)::(nat_lit 60,x g3 13 P)::(nat_lit 61,x g3 14 P)::(nat_lit 62,x g3 15 P)::(nat_lit 63,x g3 16 P)::(nat_lit 66,x g4 0 P)::(nat_lit 73,x g4 7 P)::(nat_lit 74,x g4 8 P)::(nat_lit 75,x g4 9 P)::(nat_lit 78,x g5 0 P)::(nat_lit 85,x g5 7 P)::(nat_lit 86,x g5 8 P)::(nat_lit 87,x g5 9 P)::(nat_lit 90,x g6 0 P)::(nat_lit 97,x g6 7 P)::(nat_lit 99,x g6 9 P)::(nat_lit 100,x g6 10 P)::(nat_lit 102,x g6 12 P)::(nat_lit 103,x g6 13 P)::(nat_lit 104,x g6 14 P)::(nat_lit 105,x g6 15 P)::(nat_lit 106,x g6 16 P)::(nat_lit 109,x g7 0 P)::(nat_lit 116,x g7 7 P)::(nat_lit 118,x g7 9 P)::(nat_lit 119,x g7 10 P)::(nat_lit 121,x g7 12 P)::(nat_lit 122,x g7 13 P)::(nat_lit 123,x g7 14 P)::(nat_lit 124,x g7 15 P)::(nat_lit 125,x g7 16 P)::(nat_lit 128,x g8 0 P)::(nat_lit 135,x g8 7 P)::(nat_lit 137,x g8 9 P)::(nat_lit 138,x g8 10 P)::(nat_lit 140,x g8 12 P)::(nat_lit 141,x g8 13 P)::(nat_lit 142,x g8 14 P)::(nat_lit 143,x g8 15 P)::(nat_lit 144,x g8 16 P)::(nat_lit 147,x g9 0 P)::(nat_lit 154,x g9 7 P)::(nat_lit 155,x g9 8 P)::(nat_lit 156,x g9 9 P)::(nat_lit 159,x g10 0 P)::(nat_lit 166,x g10 7 P)::(nat_lit 168,x g10 9 P)::(nat_lit 169,x g10 10 P)::(nat_lit 171,x g10 12 P)::(nat_lit 172,x g10 13 P)::(nat_lit 173,x g10 14 P)::(nat_lit 174,x g10 15 P)::(nat_lit 175,x g10 16 P)::(nat_lit 178,x g11 0 P)::(nat_lit 185,x g11 7 P)::(nat_lit 186,x g11 8 P)::(nat_lit 187,x g11 9 P)::(nat_lit 190,x g12 0 P)::(nat_lit 197,x g12 7 P)::(nat_lit 199,x g12 9 P)::(nat_lit 200,x g12 10 P)::(nat_lit 202,x g12 12 P)::(nat_lit 203,x g12 13 P)::(nat_lit 204,x g12 14 P)::(nat_lit 205,x g12 15 P)::(nat_lit 206,x g12 16 P)::(nat_lit 209,x g13 0 P)::(nat_lit 216,x g13 7 P)::(nat_lit 217,x g13 8 P)::(nat_lit 218,x g13 9 P)::(nat_lit 221,x g13 12 P)::(nat_lit 223,x g13 14 P)::(nat_lit 224,x g13 15 P)::(nat_lit 226,x g13 17 P)::(nat_lit 227,x g13 18 P)::(nat_lit 228,x g13 19 P)::(nat_lit 230,x g13 21 P)::(nat_lit 231,x g13 22 P)::(nat_lit 233,x g13 24 P)::(nat_lit 234,x g13 25 P)::(nat_lit 235,x g13 26 P)::(nat_lit 237,x g13 28 P)::(nat_lit 238,x g13 29 P)::(nat_lit 240,x g13 31 P)::(nat_lit 241,x g13 32 P)::(nat_lit 242,x g13 33 P)::(nat_lit 245,x g13 36 P)::(nat_lit 246,x g13 37 P)::(nat_lit 254,x g14 7 P)::(nat_lit 256,x g14 9 P)::(nat_lit 257,x g14 10 P)::(nat_lit 259,x g14 12 P)::(nat_lit 260,x g14 13 P)::(nat_lit 261,x g14 14 P)::(nat_lit 262,x g14 15 P)::(nat_lit 263,x g14 16 P)::(nat_lit 264,x g14 17 P)::(nat_lit 265,x g14 18 P)::(nat_lit 268,x g14 21 P)::(nat_lit 270,x g14 23 P)::(nat_lit 271,x g14 24 P)::(nat_lit 273,x g14 26 P)::(nat_lit 274,x g14 27 P)::(nat_lit 275,x g14 28 P)::(nat_lit 277,x g14 30 P)::(nat_lit 278,x g14 31 P)::(nat_lit 280,x g14 33 P)::(nat_lit 281,x g14 34 P)::(nat_lit 282,x g14 35 P)::(nat_lit 284,x g14 37 P)::(nat_lit 285,x g14 38 P)::(nat_lit 287,x g14 40 P)::(nat_lit 288,x g14 41 P)::(nat_lit 289,x g14 42 P)::(nat_lit 291,x g14 44 P)::(nat_lit 292,x g14 45 P)::(nat_lit 294,x g14 47 P)::(nat_lit 295,x g14 48 P)::(nat_lit 296,x g14 49 P)::(nat_lit 298,x g14 51 P)::(nat_lit 299,x g14 52 P)::(nat_lit 301,x g14 54 P)::(nat_lit 302,x g14 55 P)::(nat_lit 303,x g15 0 P)::(nat_lit 305,x g15 2 P)::(nat_lit 306,x g15 3 P)::(nat_lit 308,x g15 5 P)::(nat_lit 309,x g15 6 P)::(nat_lit 310,x g15 7 P)::(nat_lit 312,x g15 9 P)::(nat_lit 313,x g15 10 P)::(nat_lit 315,x g15 12 P)::(nat_lit 316,x g15 13 P)::(nat_lit 317,x g15 14 P)::(nat_lit 319,x g15 16 P)::(nat_lit 320,x g15 17 P)::(nat_lit 322,x g15 19 P)::(nat_lit 323,x g15 20 P)::(nat_lit 324,x g15 21 P)::(nat_lit 326,x g15 23 P)::(nat_lit 327,x g15 24 P)::(nat_lit 329,x g15 26 P)::(nat_lit 330,x g15 27 P)::(nat_lit 331,x g15 28 P)::(nat_lit 333,x g15 30 P)::(nat_lit 334,x g15 31 P)::(nat_lit 336,x g15 33 P)::(nat_lit 337,x g15 34 P)::(nat_lit 338,x g15 35 P)::(nat_lit 340,x g15 37 P)::(nat_lit 341,x g15 38 P)::(nat_lit 343,x g15 40 P)::(nat_lit 344,x g15 41 P)::(nat_lit 345,x g15 42 P)::(nat_lit 347,x g15 44 P)::(nat_lit 348,x g15 45 P)::(nat_lit 350,x g15 47 P)::(nat_lit 351,x g15 48 P)::(nat_lit 352,x g15 49 P)::(nat_lit 354,x g15 51 P)::(nat_lit 355,x g15 52 P)::(nat_lit 357,x g15 54 P)::(nat_lit 358,x g15 55 P)::(nat_lit 359,x g15 56 P)::(nat_lit 361,x g15 58 P)::(nat_lit 362,x g15 59 P)::(nat_lit 364,x g15 61 P)::(nat_lit 365,x g15 62 P)::(nat_lit 366,x g15 63 P)::(nat_lit 368,x g15 65 P)::(nat_lit 369,x g15 66 P)::(nat_lit 371,x g15 68 P)::(nat_lit 372,x g15 69 P)::(nat_lit 373,x g15 70 P)::(nat_lit 375,x g15 72 P)::(nat_lit 376,x g15 73 P)::(nat_lit 378,x g15 75 P)::(nat_lit 379,x g15 76 P)::(nat_lit 380,x g16 0 P)::(nat_lit 382,x g16 2 P)::(nat_lit 383,x g16 3 P)::(nat_lit 385,x g16 5 P)::(nat_lit 386,x g16 6 P)::(nat_lit 387,x g16 7 P)::(nat_lit 389,x g16 9 P)::(nat_lit 390,x g16 10 P)::(nat_lit 392,x g16 12 P)::(nat_lit 393,x g16 13 P)::(nat_lit 394,x g16 14 P)::(nat_lit 396,x g16 16 P)::(nat_lit 397,x g16 17 P)::(nat_lit 399,x g16 19 P)::(nat_lit 400,x g16 20 P)::(nat_lit 401,x g16 21 P)::(nat_lit 403,x g16 23 P)::(nat_lit 404,x g16 24 P)::(nat_lit 406,x g16 26 P)::(nat_lit 407,x g16 27 P)::(nat_lit 415,x g16 35 P)::(nat_lit 417,x g16 37 P)::(nat_lit 418,x g16 38 P)::(nat_lit 420,x g16 40 P)::(nat_lit 421,x g16 41 P)::(nat_lit 422,x g16 42 P)::(nat_lit 424,x g16 44 P)::(nat_lit 425,x g16 45 P)::(nat_lit 427,x g16 47 P)::(nat_lit 428,x g16 48 P)::(nat_lit 429,x g16 49 P)::(nat_lit 431,x g16 51 P)::(nat_lit 432,x g16 52 P)::(nat_lit 434,x g16 54 P)::(nat_lit 435,x g16 55 P)::(nat_lit 436,x g16 56 P)::(nat_lit 438,x g16 58 P)::(nat_lit 439,x g16 59 P)::(nat_lit 441,x g16 61 P)::(nat_lit 442,x g16 62 P)::(nat_lit 443,x g16 63 P)::(nat_lit 445,x g16 65 P)::(nat_lit 446,x g16 66 P)::(nat_lit 448,x g16 68 P)::(nat_lit 449,x g16 69 P)::(nat_lit 450,x g16 70 P)::(nat_lit 452,x g16 72 P)::(nat_lit 453,x g16 73 P)::(nat_lit 455,x g16 75 P)::(nat_lit 456,x g16 76 P)::(nat_lit 457,x g17 0 P)::(nat_lit 459,x g17 2 P)::(nat_lit 460,x g17 3 P)::(nat_lit 462,x g17 5 P)::(nat_lit 463,x g17 6 P)::(nat_lit 464,x g17 7 P)::(nat_lit 466,x g17 9 P)::(nat_lit 467,x g17 10 P)::(nat_lit 469,x g17 12 P)::(nat_lit 470,x g17 13 P)::(nat_lit 471,x g17 14 P)::(nat_lit 474,x g17 17 P)::(nat_lit 475,x g17 18 P)::(nat_lit 476,x g17 19 P)::(nat_lit 478,x g17 21 P)::(nat_lit 479,x g17 22 P)::(nat_lit 481,x g17 24 P)::(nat_lit 482,x g17 25 P)::(nat_lit 483,x g17 26 P)::(nat_lit 485,x g17 28 P)::(nat_lit 486,x g17 29 P)::(nat_lit 488,x g17 31 P)::(nat_lit 489,x g17 32 P)::(nat_lit 490,x g17 33 P)::(nat_lit 492,x g17 35 P)::(nat_lit 493,x g17 36 P)::(nat_lit 495,x g17 38 P)::(nat_lit 496,x g17 39 P)::(nat_lit 497,x g17 40 P)::(nat_lit 499,x g17 42 P)::(nat_lit 500,x g17 43 P)::(nat_lit 502,x g17 45 P)::(nat_lit 503,x g17 46 P)::(nat_lit 504,x g17 47 P)::(nat_lit 506,x g17 49 P)::(nat_lit 507,x g17 50 P)::(nat_lit 509,x g17 52 P)::(nat_lit 510,x g17 53 P)::(nat_lit 511,x g17 54 P)::(nat_lit 513,x g17 56 P)::(nat_lit 514,x g17 57 P)::(nat_lit 516,x g17 59 P)::(nat_lit 517,x g17 60 P):: [])
noncomputable def as:List Addr:=(nat_lit 2::nat_lit 3::nat_lit 15::nat_lit 22::nat_lit 23::nat_lit 24::nat_lit 25::nat_lit 28::nat_lit 35::nat_lit 37::nat_lit 38::nat_lit 40::nat_lit 41::nat_lit 42::nat_lit 43::nat_lit 44::nat_lit 47::nat_lit 54::nat_lit 56::nat_lit 57::nat_lit 59::nat_lit 60::nat_lit 61::nat_lit 62::nat_lit 63::nat_lit 66::nat_lit 73::nat_lit 74::nat_lit 75::nat_lit 78::nat_lit 85::nat_lit 86::nat_lit 87::nat_lit 90::nat_lit 97::nat_lit 99::nat_lit 100::nat_lit 102::nat_lit 103::nat_lit 104::nat_lit 105::nat_lit 106::nat_lit 109::nat_lit 116::nat_lit 118::nat_lit 119::nat_lit 121::nat_lit 122::nat_lit 123::nat_lit 124::nat_lit 125::nat_lit 128::nat_lit 135::nat_lit 137::nat_lit 138::nat_lit 140::nat_lit 141::nat_lit 142::nat_lit 143::nat_lit 144::nat_lit 147::nat_lit 154::nat_lit 155::nat_lit 156::nat_lit 159::nat_lit 166::nat_lit 168::nat_lit 169::nat_lit 171::nat_lit 172::nat_lit 173::nat_lit 174::nat_lit 175::nat_lit 178::nat_lit 185::nat_lit 186::nat_lit 187::nat_lit 190::nat_lit 197::nat_lit 199::nat_lit 200::nat_lit 202::nat_lit 203::nat_lit 204::nat_lit 205::nat_lit 206::nat_lit 209::nat_lit 216::nat_lit 217::nat_lit 218::nat_lit 221::nat_lit 223::nat_lit 224::nat_lit 226::nat_lit 227::nat_lit 228::nat_lit 230::nat_lit 231::nat_lit 233::nat_lit 234::nat_lit 235::nat_lit 237::nat_lit 238::nat_lit 240::nat_lit 241::nat_lit 242::nat_lit 245::nat_lit 246::nat_lit 254::nat_lit 256::nat_lit 257::nat_lit 259::nat_lit 260::nat_lit 261::nat_lit 262::nat_lit 263::nat_lit 264::nat_lit 265::nat_lit 268::nat_lit 270::nat_lit 271::nat_lit 273::nat_lit 274::nat_lit 275::nat_lit 277::nat_lit 278::nat_lit 280::nat_lit 281::nat_lit 282::nat_lit 284::nat_lit 285::nat_lit 287::nat_lit 288::nat_lit 289::nat_lit 291::nat_lit 292::nat_lit 294::nat_lit 295::nat_lit 296::nat_lit 298::nat_lit 299::nat_lit 301::nat_lit 302::nat_lit 303::nat_lit 305::nat_lit 306::nat_lit 308::nat_lit 309::nat_lit 310::nat_lit 312::nat_lit 313::nat_lit 315::nat_lit 316::nat_lit 317::nat_lit 319::nat_lit 320::nat_lit 322::nat_lit 323::nat_lit 324::nat_lit 326::nat_lit 327::nat_lit 329::nat_lit 330::nat_lit 331::nat_lit 333::nat_lit 334::nat_lit 336::nat_lit 337::nat_lit 338::nat_lit 340::nat_lit 341::nat_lit 343::nat_lit 344::nat_lit 345::nat_lit 347::nat_lit 348::nat_lit 350::nat_lit 351::nat_lit 352::nat_lit 354::nat_lit 355::nat_lit 357::nat_lit 358::nat_lit 359::nat_lit 361::nat_lit 362::nat_lit 364::nat_lit 365::nat_lit 366::nat_lit 368::nat_lit 369::nat_lit 371::nat_lit 372::nat_lit 373::nat_lit 375::nat_lit 376::nat_lit 378::nat_lit 379::nat_lit 380::nat_lit 382::nat_lit 383::nat_lit 385::nat_lit 386::nat_lit 387::nat_lit 389::nat_lit 390::nat_lit 392::nat_lit 393::nat_lit 394::nat_lit 396::nat_lit 397::nat_lit 399::nat_lit 400::nat_lit 401::nat_lit 403::nat_lit 404::nat_lit 406::nat_lit 407::nat_lit 415::nat_lit 417::nat_lit 418::nat_lit 420::nat_lit 421::nat_lit 422::nat_lit 424::nat_lit 425::nat_lit 427::nat_lit 428::nat_lit 429::nat_lit 431::nat_lit 432::nat_lit 434::nat_lit 435::nat_lit 436::nat_lit 438::nat_lit 439::nat_lit 441::nat_lit 442::nat_lit 443::nat_lit 445::nat_lit 446::nat_lit 448::nat_lit 449::nat_lit 450::nat_lit 452::nat_lit 453::nat_lit 455::nat_lit 456::nat_lit 457::nat_lit 459::nat_lit 460::nat_lit 462::nat_lit 463::nat_lit 464::nat_lit 466::nat_lit 467::nat_lit 469::nat_lit 470::nat_lit 471::nat_lit 474::nat_lit 475::nat_lit 476::nat_lit 478::nat_lit 479::nat_lit 481::nat_lit 482::nat_lit 483::nat_lit 485::nat_lit 486::nat_lit 488::nat_lit 489::nat_lit 490::nat_lit 492::nat_lit 493::nat_lit 495::nat_lit 496::nat_lit 497::nat_lit 499::nat_lit 500::nat_lit 502::nat_lit 503::nat_lit 504::nat_lit 506::nat_lit 507::nat_lit 509::nat_lit 510::nat_lit 511::nat_lit 513::nat_lit 514::nat_lit 516::nat_lit 517:: [])
noncomputable def Q:Program:={PW with main:={PW.main with body:=(top 1::top 2::top 3::top 4::top 5::top 6::top 7::top 8::top 9::top 10::top 11::top 12::top 13::top 15::top 16::top 17::top 18::top 20::top 21::top 22::top 23::top 24::top 25::top 26::top 27::top 28::top 29::top 31::top 32::top 33::top 34::top 36::top 37::top 38::top 39::top 40::top 41::top 42::top 43::top 44::top 45::top 46::top 47::top 48::top 49::top 50::top 51::top 52::top 53::top 54::top 55::top 56::top 57::top 58::top 59::top 60:: [])}}
noncomputable abbrev HK:Hook:=kHook K as (fun _=>by kernel_rfl)
noncomputable abbrev RR:RowW:=OpenRow.toRowW (OpenLaw.row PySem.Challenge.rw_wearplan_k10_stretches_asked)
noncomputable abbrev Xt(s:Shared):Bool:=xlAt Q [] s&&recOk (RowW.records RR) s
theorem z1e(w:World):((boot_heap w.params).isNs mainGlobals&&(Array.mk ([]:List GenState)).size==0,(boot_heap w.params).objs.size,(boot_heap w.params).nsMap mainGlobals "__annotations__")=(true,11,some (.ref 6)):=by kernel_rfl
theorem look1(w:World)(os:OsState):(staticsOk (importedModules PW.main.body) (boot_heap w.params) (HF w.params)&&namesBound PW (HF w.params)&&gensDone (⟨HF w.params,⟨[]⟩,drawn,951,os⟩:Shared)&&laidKept (boot_heap w.params) (HF w.params))=true:=by kernel_rfl
theorem look2(w:World)(os:OsState):openSeen Q [] (importedModules PW.main.body) Xt true (⟨HF w.params,⟨[]⟩,drawn,951,os⟩:Shared)=openGood Q []:=by
 rw[PySem.W.Fast.te4187177175401517315,PySem.W.Fast.te5923862056798008813];kernel_rfl
theorem look3(w:World)(os:OsState):HK.obs (⟨HF w.params,⟨[]⟩,drawn,951,os⟩:Shared)=HK.val w:=by kernel_rfl
theorem j0n:opening PW=plainProg PW.main.scope.names:=by kernel_rfl
theorem d0l(s:Shared):fenceModules? PW s=some s:=by kernel_rfl
theorem left:LeftO PW Q [] Xt HK.obs HK.val 9276:=
 LeftO.of_pieces (boot_open j0n (by decide) d0l) z1e run (by decide) fun w=>funext fun os=>Prod.ext (look1 w os) (Prod.ext (look2 w os) (look3 w os))
theorem ws:OpenLaw.wellSaid PySem.Challenge.rw_wearplan_k10_stretches_asked=true:=by
 rw[PySem.W.Fast.te9446332074065402090];kernel_rfl
end HD10
local macro_rules
 | `(tactic|walk_at "n0")=>`(tactic|exact PySem.W.mg_none_of (by assumption) (by assumption) (by k_is))
 | `(tactic|walk_at "n1")=>`(tactic|exact ⟨_,PySem.W.mg_of (by assumption) (by assumption) (by k_is)⟩)
 | `(tactic|walk_at "n2")=>`(tactic|exact PySem.W.mg_of (by assumption) (by assumption) (by k_is))
 | `(tactic|walk_at "tr")=>`(tactic|exact DL.topRow3 (PySem.W.mg_of (by assumption) (by assumption) (by k_is)) (by k_is))
 | `(tactic|walk_at "hd")=>`(tactic|exact ⟨by k_is,by kernel_rfl,by k_is⟩)
 | `(tactic|walk_at "ci")=>`(tactic|exact ⟨⟨by k_is,by k_is,by k_is,by k_is⟩,by k_is,by k_is,by k_is,by k_is⟩)
 | `(tactic|walk_at "kn")=>`(tactic|exact ⟨by kernel_rfl,by kernel_rfl,by kernel_rfl,by kernel_rfl,by kernel_rfl,by kernel_rfl,by kernel_rfl⟩)
 | `(tactic|walk_at "na")=>`(tactic|(unfold L2.NoAttr;k_is))
 | `(tactic|walk_at "kr")=>`(tactic|kernel_rfl)
 | `(tactic|walk_at "x0")=>`(tactic|exact ⟨by kernel_rfl,by k_is⟩)
 | `(tactic|walk_at "er")=>`(tactic|exact ⟨by kernel_rfl,by k_is,⟨by kernel_rfl,by k_is,by k_is,by k_is,by k_is,by k_is,by k_is,by k_is⟩⟩)
 | `(tactic|walk_at "ff")=>`(tactic|exact ⟨_,_,by k_is,⟨⟨_,_,_,_,_,_,_,_,_,rfl,by k_is,by k_is⟩,by k_is⟩⟩)
 | `(tactic|walk_at "xm")=>`(tactic|exact ⟨_,_,⟨by kernel_rfl,by k_is,by k_is,by k_is⟩,⟨⟨_,_,_,_,_,_,_,_,_,rfl,by k_is,by k_is⟩,by k_is⟩⟩)
 | `(tactic|walk_at "mk")=>`(tactic|exact ⟨_,_,⟨by k_is,by k_is,by k_is,by k_is⟩,⟨⟨_,_,_,_,_,_,_,_,_,rfl,by k_is,by k_is⟩,by k_is⟩⟩)
open PySem PySem.W PyProof.Rows
set_option maxRecDepth 100000 in
set_option maxHeartbeats 0 in
theorem PySem.Challenge.cw_wearplan_k10_stretches_asked_holds : PySem.Challenge.rw_wearplan_k10_stretches_asked.Holds := by
 w_on
 refine holds_law HD10.ws fun said=>?_
 refine holds_open (r:=OpenLaw.row PySem.Challenge.rw_wearplan_k10_stretches_asked) (q:=HD10.Q) (loose:=[]) (Xt:=HD10.Xt) (XP:=XL HD10.Q []) (Yf:=HD10.HK.obs) (Ya:=HD10.HK.val) (YP:=InK HD10.K) (N:=9276) HD10.left (Hook.of HD10.HK) (Hook.keeps HD10.HK) (fun s e=>xl_of s (Bool.and_eq_true_iff.mp e).1) XL.keeps (by rfl) (by rfl) (by rfl) (fun s e=>recFacts_of (Bool.and_eq_true_iff.mp e).2) (by rfl) said (by decide +kernel) ⟨rfl,rfl,rfl,rfl,rfl,by decide +kernel⟩ ?hw ?hc
 (case hw=>w_witness2)
 k_fill
 refine DL.walk2 (l:=PySem.Challenge.rw_wearplan_k10_stretches_asked) (k:=10) (x:="_law_script") rfl rfl ⟨rfl,by decide,by decide⟩ (fun w h Y=>(show (HD10.K w.params).In h from Y)) fun w mg fa h KX G hmg=>?_
 have T:K10.Txt (HD10.K w.params) mg ⟨24,263,44,63,75,87,106,125,144,156,175,187,206,218⟩:=⟨by walk_at "n0",by walk_at "n0",by walk_at "n0",by walk_at "n0",by walk_at "n0",by walk_at "n0",by walk_at "n0",by walk_at "n0",by walk_at "n0",by walk_at "n0",by walk_at "n0",by walk_at "n0",by walk_at "n0",by walk_at "n0",by walk_at "n1",by walk_at "n1",by walk_at "n2",by walk_at "hd",by walk_at "n2",by walk_at "ci",by walk_at "kn",by walk_at "na",by walk_at "na",by walk_at "na",by walk_at "na",List.forall_mem_cons.mpr ⟨by walk_at "er",List.forall_mem_cons.mpr ⟨by walk_at "er",List.forall_mem_cons.mpr ⟨by walk_at "er",List.forall_mem_cons.mpr ⟨by walk_at "er",List.forall_mem_cons.mpr ⟨by walk_at "er",List.forall_mem_cons.mpr ⟨by walk_at "er",List.forall_mem_cons.mpr ⟨by walk_at "er",List.forall_mem_cons.mpr ⟨by walk_at "er",List.forall_mem_cons.mpr ⟨by walk_at "er",List.forall_mem_cons.mpr ⟨by walk_at "er",List.forall_mem_cons.mpr ⟨by walk_at "er",List.forall_mem_cons.mpr ⟨by walk_at "er",List.forall_mem_nil _⟩⟩⟩⟩⟩⟩⟩⟩⟩⟩⟩⟩,by decide,by decide,by walk_at "n2",by walk_at "hd",by walk_at "kr",by walk_at "na",by walk_at "n2",by walk_at "hd",by walk_at "kr",by walk_at "na",by walk_at "n2",by walk_at "hd",by walk_at "kr",by walk_at "x0",by walk_at "n2",by walk_at "hd",by walk_at "kr",by walk_at "x0",by walk_at "n2",by walk_at "hd",by walk_at "kr",by walk_at "na",by walk_at "n2",by walk_at "hd",by walk_at "kr",by walk_at "na",by walk_at "n2",by walk_at "hd",by walk_at "kr",by walk_at "na",by walk_at "na",by walk_at "n2",by walk_at "hd",by walk_at "kr",by walk_at "x0",by walk_at "n2",by walk_at "hd",by walk_at "kr",by walk_at "na",by walk_at "n2",by walk_at "hd",by walk_at "kr",by walk_at "x0",by walk_at "n2",by walk_at "hd",by walk_at "kr",by walk_at "na",by walk_at "n2",by walk_at "hd",by walk_at "kr",by walk_at "x0"⟩;exact K10.all_mk KX G hmg T (by walk_at "ff") (by walk_at "ff") (by walk_at "ff") (by walk_at "ff") (by walk_at "ff") (by walk_at "ff") (by walk_at "ff") (by walk_at "ff") (by walk_at "ff") (by walk_at "ff") (by walk_at "ff") (by walk_at "ff") (by walk_at "ff") (by walk_at "ff") (by walk_at "ff") (by walk_at "ff") (by walk_at "ff") (by walk_at "ff") (by walk_at "ff") (by walk_at "ff") (by walk_at "ff") (by walk_at "ff") (by walk_at "ff") (by walk_at "ff") (by walk_at "ff") (by walk_at "ff") (by walk_at "ff") (by walk_at "ff") (by walk_at "ff") (by walk_at "ff") (by walk_at "ff") (by walk_at "ff") (by walk_at "ff") (by walk_at "ff") (by walk_at "ff") (by walk_at "ff") (by walk_at "ff") (by walk_at "ff") (by walk_at "ff") (by walk_at "xm") (by walk_at "xm") (by walk_at "xm") (by walk_at "xm") (by walk_at "xm") (by walk_at "xm") (by walk_at "xm") (by walk_at "mk")
