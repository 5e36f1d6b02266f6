import PyProof.Rows.All
import Wide.All
import OpenK.AllK
import Wide.FinOn
import Lean
import PyProof.EqAt
import PyProof.EqKinds
import PyProof.TupleCall
import PyProof.CollectIter
import PyProof.TupleOfStr
import PyProof.TupleOfSeq
import KE.KDictOf
import KE.KDictSum
import PyProof.AttrMissHeap
import PySem.Challenge.RW_wearplan_k33_plan_texts_refused
set_option compiler.extract_closed false
set_option bootstrap.genMatcherCode false
set_option genSizeOf false
set_option genSizeOfSpec false
set_option linter.all false
set_option linter.unusedVariables false
open PyProof.Rows in
local macro_rules | `(tactic|walk_at "v3")=>`(tactic|first |exact Or.inl rfl |exact Or.inr (Or.inl rfl)|exact Or.inr (Or.inr rfl))
open PyProof.Rows in
local macro_rules | `(tactic|walk_at "v2")=>`(tactic|first |exact Or.inl rfl |exact Or.inr rfl)
open PyProof.Rows in
local macro_rules | `(tactic|walk_at "v1")=>`(tactic|first |exact .inl rfl |exact .inr rfl)
set_option Elab.async false
set_option maxRecDepth 100000
namespace L2
open PySem PySem.Spec PyProof.Rows
noncomputable abbrev Key:=Sum Int Str
noncomputable def keyIs:Key→Value→Bool
 | .inl k,v=>Value.isInt k v
 | .inr x,v=>Value.isStrOf x v
noncomputable def keyH(w:World):Key→Int
 | .inl k=>hashInt k
 | .inr x=>hashStr w x
theorem x6:∀{k:Key} {v:Value},keyIs k v=true→(∃i t,k=Sum.inl i∧v=Value.int i t)∨(∃x t,k=Sum.inr x∧v=Value.str x t)
 | .inl i,v,h=>by
  obtain ⟨t,e⟩:=Value.isInt_shape (k:=i) (v:=v) h;exact .inl ⟨i,t,rfl,e⟩
 | .inr x,v,h=>by
  obtain ⟨t,e⟩:=Value.isStrOf_shape (x:=x) (v:=v) h;exact .inr ⟨x,t,rfl,e⟩
theorem key_ll(a b:Int):decide ((Sum.inl a:Key)=Sum.inl b)=(a==b):=by
 by_cases e:a=b
 ·subst e;simp
 ·have h:¬(Sum.inl a:Key)=Sum.inl b:=fun q=>e (Sum.inl.inj q)
  rw[decide_eq_false h];exact (beq_eq_false_iff_ne.mpr e).symm
theorem key_rr(a b:Str):decide ((Sum.inr a:Key)=Sum.inr b)=decide (a=b):=by
 by_cases e:a=b
 ·subst e;simp
 ·have h:¬(Sum.inr a:Key)=Sum.inr b:=fun q=>e (Sum.inr.inj q)
  rw[decide_eq_false h,decide_eq_false e]
theorem key_lr(a:Int)(b:Str):decide ((Sum.inl a:Key)=Sum.inr b)=false:=decide_eq_false (fun q=>nomatch q)
theorem key_rl(a:Str)(b:Int):decide ((Sum.inr a:Key)=Sum.inl b)=false:=decide_eq_false (fun q=>nomatch q)
noncomputable def i0d(prog:Program)(w:World):PySem.KeyKind prog w Key where
 is:=keyIs
 hash:=keyH w
 inj:=fun v a b ha hb=>by
  rcases x6 ha with ⟨i,t,rfl,rfl⟩|⟨x,t,rfl,rfl⟩
  ·rcases x6 hb with ⟨j,u,rfl,e⟩|⟨y,u,rfl,e⟩
   ·injection e with e1 _;rw[e1]
   ·exact nomatch e
  ·rcases x6 hb with ⟨j,u,rfl,e⟩|⟨y,u,rfl,e⟩
   ·exact nomatch e
   ·injection e with e1 _;rw[e1]
 byValue:=fun k v h=>by
  rcases x6 h with ⟨i,t,rfl,rfl⟩|⟨x,t,rfl,rfl⟩<;>rfl
 pyHash:=fun hv h=>by
  rcases x6 hv with ⟨i,t,rfl,rfl⟩|⟨x,t,rfl,rfl⟩
  ·exact wpAny_pyHash_int h
  ·exact wpAny_pyHash_str h
 eqBool:=fun hu hv h=>by
  rcases x6 hu with ⟨i,t,rfl,rfl⟩|⟨x,t,rfl,rfl⟩
  ·rcases x6 hv with ⟨j,u,rfl,rfl⟩|⟨y,u,rfl,rfl⟩
   ·rw[key_ll]at h;exact wpAny_eqBool_int h
   ·rw[key_lr]at h;exact SeqAt.EqAt.int_str i t y u _ _ _ _ h
  ·rcases x6 hv with ⟨j,u,rfl,rfl⟩|⟨y,u,rfl,rfl⟩
   ·rw[key_rl]at h;exact SeqAt.EqAt.str_int x t j u _ _ _ _ h
   ·rw[key_rr]at h;exact wpAny_eqBool_str h
 «strs»:=fun k x t v h=>by
  rcases x6 h with ⟨i,u,rfl,e⟩|⟨y,u,rfl,e⟩
  ·exact nomatch e
  ·injection e with e1 _
   subst e1;cases v<;>rfl
end L2
namespace L2
open PySem PySem.Spec PyProof.Rows
inductive V where
 |non |bl (b:Bool)|int (i:Int)|str (x:Str)|byt (b:Array UInt8)|flt (b:UInt64)|ref (a:Addr)|ty (n:String)
 deriving DecidableEq
noncomputable def RelV:V→Value→Prop
 | .non,u=>u=Value.none
 | .bl b,u=>u=Value.bool b
 | .int i,u=>∃t,u=Value.int i t
 | .str x,u=>∃t,u=Value.str x t
 | .byt b,u=>∃t,u=Value.bytes b t
 | .flt b,u=>∃t,u=Value.float b t
 | .ref a,u=>u=Value.ref a
 | .ty n,u=>u=Value.type n
noncomputable abbrev Vals:List V→List Value→Prop:=Paired RelV
theorem Vals.length{xs:List V}{us:List Value}(r:Vals xs us):xs.length=us.length:=Paired.length r
theorem Vals.get:∀{xs:List V} {us:List Value} {i:Nat} {x:V},Vals xs us→xs[i]?=some x→∃u,us[i]?=some u∧RelV x u
 |_,_,_,_,.nil,e=>by simp at e
 |_,_,0,_,.cons r _,e=>by simp at e;subst e;exact ⟨_,rfl,r⟩
 |_,_,i+1,x,.cons _ t,e=>by
  obtain ⟨u,h1,h2⟩:=Vals.get (i:=i) (x:=x) t (by simpa using e);exact ⟨u,by simpa using h1,h2⟩
theorem Vals.set{x:V}{u:Value}(r:RelV x u):∀{xs:List V} {us:List Value} (i:Nat),Vals xs us→Vals (xs.set i x) (us.set i u)
 |_,_,_,.nil=>.nil
 |_,_,0,.cons _ t=>.cons r t
 |_,_,i+1,.cons q t=>.cons q (Vals.set r i t)
theorem Vals.append:∀{xs ys:List V} {us ws:List Value},Vals xs us→Vals ys ws→Vals (xs++ys) (us++ws)
 |_,_,_,_,.nil,s=>s
 |_,_,_,_,.cons r t,s=>.cons r (Vals.append t s)
theorem Vals.take:∀{xs:List V} {us:List Value} (n:Nat),Vals xs us→Vals (xs.take n) (us.take n)
 |_,_,0,_=>.nil
 |_,_,_+1,.nil=>.nil
 |_,_,n+1,.cons r t=>.cons r (Vals.take n t)
theorem Vals.drop:∀{xs:List V} {us:List Value} (n:Nat),Vals xs us→Vals (xs.drop n) (us.drop n)
 |_,_,0,r=>r
 |_,_,_+1,.nil=>.nil
 |_,_,n+1,.cons _ t=>Vals.drop n t
noncomputable def RelO:Option V→Option Value→Prop
 |some v,some u=>RelV v u
 |none,none=>True
 |_,_=>False
noncomputable def KV{κ:Type}:List (κ×V)→List (κ×Value)→Prop:=Paired fun (p:κ×V) (q:κ×Value)=>p.1=q.1∧RelV p.2 q.2
noncomputable def kV:Key→V
 | .inl i=>.int i
 | .inr x=>.str x
inductive HO where
 |lst (xs:List V)
 |tup (xs:List V)
 |dK (kvs:List (Key×V))|dT (kvs:List (List Key×V))
 |set (S:Int→Bool) (n:Nat)
 |ins (C dx:Addr) (fs:List (Str×V))
 |own (x:Addr)
 |xd (fs:List (Str×V))
 |met (f x:Addr)
 |rng (lo hi:Int)
 |frz (o:Obj) (u:HO)
 |tbl (ps:Array Value)
 |ext (φ:Heap→Prop)
noncomputable abbrev Hp:=Addr→Option HO
noncomputable def upd(H:Hp)(a:Addr)(o:HO):Hp:=fun b=>if b=a then some o else H b
theorem l4{H:Hp}{a:Addr}{o:HO}:upd H a o a=some o:=by unfold upd;rw[if_pos rfl]
theorem j0{H:Hp}{a b:Addr}{o:HO}(h:b≠a):upd H a o b=H b:=by unfold upd;rw[if_neg h]
theorem d0{H:Hp}{a b:Addr}{o:HO}(h:H a=some o)(h':H b=none):a≠b:=by
 intro e;subst e;rw[h]at h';cases h'
noncomputable def TupD(h:Heap)(a:Addr)(items:Array Value):Prop:=∃o,h.get? a=some o∧o.cls=.type "tuple"∧(∃n,o.data=.seq items n)∧o.dict=none
theorem TupD.tup{h:Heap}{a:Addr}{items:Array Value}(x:TupD h a items):IsTup h a items:=let ⟨o,e,c,d,_⟩:=x;⟨o,e,c,d⟩
theorem TupD.new(h:Heap)(items:Array Value):TupD (h.push {cls:=.type "tuple",data:=.seq items}) h.objs.size items:=⟨_,Heap.get?_push_size _ rfl,rfl,⟨_,rfl⟩,rfl⟩
section
variable(P:Program)(w:World)
noncomputable def ObjOk(H:Hp)(h:Heap)(a:Addr):HO→Prop
 | .lst xs=>xs.length≤sizeLine∧∃(its:List Value) (n:Nat),Vals xs its∧h.get? a=some {cls:=.type "list",data:=.seq its.toArray n}
 | .tup xs=>xs.length≤sizeLine∧∃its:List Value,Vals xs its∧TupD h a its.toArray
 | .dK kvs=>kvs.length≤sizeLine∧(a==sysModules)=false∧∃vs,KV kvs vs∧h.DictOf (i0d P w) a vs
 | .dT kvs=>kvs.length≤sizeLine∧(a==sysModules)=false∧∃xs:List (List Key×Addr×Value),
  Paired (fun (p:List Key×V) (q:List Key×Addr×Value)=>p.1=q.1∧H q.2.1=some (.tup (p.1.map kV))∧RelV p.2 q.2.2) kvs xs∧
  ∃o es ep,h.get? a=some o∧o.ExactDict∧o.data=.dict es ep∧es.toList=xs.map (entryOfKey (tupleKind (i0d P w)))∧(xs.map (·.1)).Nodup
 | .set S n=>h.SetOf (intKind P w) a S n
 | .ins C dx fs=>H dx=some (.own a)∧fs.length≤1000∧dx≠a∧h.get? a=some (PySem.W.instObj C dx)∧
  ∃mA,h.Ns1 dx mA∧(∀f,RelO (fs.lookup f) (mA f))∧PySem.Within mA (fs.map (·.1))
 | .own _=>∃o,h.get? a=some o
 | .xd fs=>∃mA,h.Ns1 a mA∧∀f,RelO (fs.lookup f) (mA f)
 | .rng lo hi=>∃t u v,h.get? a=some {cls:=.type "range",data:=.fields #[.int lo t,.int hi u,.int 1 v]}
 | .frz o u=>h.get? a=some o∧ObjOk H h a u
 | .tbl ps=>h.get? a=some {cls:=.none,data:=.fields ps}
 | .met f x=>h.get? a=some (PySem.W.methodObj (.ref f) (.ref x))
 | .ext φ=>φ h∧(∃o,h.get? a=some o)∧∀h1 h2:Heap,φ h1→(∀o,h1.get? a=some o→h2.get? a=some o)→φ h2
noncomputable def HOk(H:Hp)(h:Heap):Prop:=∀a o,H a=some o→ObjOk P w H h a o
end
section
variable{P:Program}{w:World}{H H':Hp}{h h':Heap}{a:Addr}{o:HO}
theorem ObjOk.lt(x:ObjOk P w H h a o):a<h.objs.size:=by
 cases o with
 |lst xs=>obtain ⟨_,_,_,_,e⟩:=x;exact Heap.lt_size e
 |tup xs=>obtain ⟨_,_,_,p⟩:=x;exact p.tup.lt
 |dK kvs=>obtain ⟨_,_,_,_,o,_,_,e,_⟩:=x;exact Heap.lt_size e
 |dT kvs=>obtain ⟨_,_,_,_,o,_,_,e,_⟩:=x;exact Heap.lt_size e
 |set S n=>obtain ⟨o,_,_,_,e,_⟩:=x;exact Heap.lt_size e
 |ins C dx fs=>obtain ⟨_,_,_,e,_⟩:=x;exact Heap.lt_size e
 |own y=>obtain ⟨_,e⟩:=x;exact Heap.lt_size e
 |xd fs=>obtain ⟨_,⟨_,_,_,e,_⟩,_⟩:=x;exact Heap.lt_size e
 |rng lo hi=>obtain ⟨_,_,_,e⟩:=x;exact Heap.lt_size e
 |frz ob u=>obtain ⟨e,_⟩:=x;exact Heap.lt_size e
 |tbl ps=>exact Heap.lt_size (show h.get? a=some _ from x)
 |met f y=>exact Heap.lt_size (show h.get? a=some _ from x)
 |ext φ=>obtain ⟨_,⟨_,e⟩,_⟩:=x;exact Heap.lt_size e
theorem Paired.mapP{α β:Type}{F G:α→β→Prop}:∀{l₁:List α} {l₂:List β},Paired F l₁ l₂→(∀a b,F a b→G a b)→Paired G l₁ l₂
 |_,_,.nil,_=>.nil
 |_,_,.cons r t,f=>.cons (f _ _ r) (Paired.mapP t f)
theorem ObjOk.stay(x:ObjOk P w H h a o)(k:∀b u,(b=a∨H b=some (.own a))→h.get? b=some u→h'.get? b=some u)
 (ho:∀b,H b=some (.own a)→H' b=some (.own a)) (ht:∀b xs,H b=some (.tup xs)→H' b=some (.tup xs)):ObjOk P w H' h' a o:=by
 induction o with
 |lst xs=>obtain ⟨z,its,n,r,e⟩:=x;exact ⟨z,its,n,r,k _ _ (.inl rfl) e⟩
 |tup xs=>obtain ⟨z,its,r,ob,e,c⟩:=x;exact ⟨z,its,r,ob,k _ _ (.inl rfl) e,c⟩
 |dK kvs=>obtain ⟨z,y,vs,r,ob,es,ep,e,c⟩:=x;exact ⟨z,y,vs,r,ob,es,ep,k _ _ (.inl rfl) e,c⟩
 |dT kvs=>
  obtain ⟨z,y,xs,r,ob,es,ep,e,c⟩:=x;exact ⟨z,y,xs,Paired.mapP r fun p q z=>⟨z.1,ht _ _ z.2.1,z.2.2⟩,ob,es,ep,k _ _ (.inl rfl) e,c⟩
 |set S n=>obtain ⟨ob,es,ep,t,e,c⟩:=x;exact ⟨ob,es,ep,t,k _ _ (.inl rfl) e,c⟩
 |ins C dx fs=>
  obtain ⟨d,z,ne,e,mA,⟨od,es,ep,e2,c⟩,r⟩:=x;exact ⟨ho _ d,z,ne,k _ _ (.inl rfl) e,mA,⟨od,es,ep,k _ _ (.inr d) e2,c⟩,r⟩
 |own y=>obtain ⟨ob,e⟩:=x;exact ⟨ob,k _ _ (.inl rfl) e⟩
 |xd fs=>obtain ⟨mA,⟨od,es,ep,e,c⟩,r⟩:=x;exact ⟨mA,⟨od,es,ep,k _ _ (.inl rfl) e,c⟩,r⟩
 |rng lo hi=>obtain ⟨t,u,v,e⟩:=x;exact ⟨t,u,v,k _ _ (.inl rfl) e⟩
 |frz ob u ih=>obtain ⟨e,q⟩:=x;exact ⟨k _ _ (.inl rfl) e,ih q⟩
 |tbl ps=>
  have e:h.get? a=some {cls:=.none,data:=.fields ps}:=x;show h'.get? a=some {cls:=.none,data:=.fields ps};exact k a _ (.inl rfl) e
 |met f y=>
  have e:h.get? a=some (PySem.W.methodObj (.ref f) (.ref y)):=x;show h'.get? a=some (PySem.W.methodObj (.ref f) (.ref y));exact k a _ (.inl rfl) e
 |ext φ=>obtain ⟨p,⟨o,e⟩,st⟩:=x;exact ⟨st _ _ p fun o q=>k _ _ (.inl rfl) q,⟨o,k _ _ (.inl rfl) e⟩,st⟩
theorem HOk.lt(x:HOk P w H h)(e:H a=some o):a<h.objs.size:=(x a o e).lt
theorem HOk.fresh(x:HOk P w H h)(e:h.objs.size≤a):H a=none:=by
 cases q:H a with
 |none=>rfl
 |some u=>exact absurd (Nat.lt_of_lt_of_le (x.lt q) e) (Nat.lt_irrefl _)
theorem HOk.kept(x:HOk P w H h)(k:∀b u,h.get? b=some u→h'.get? b=some u):HOk P w H h':=fun a o e=>
 (x a o e).stay (fun b u _ q=>k b u q) (fun _ q=>q) fun _ _ q=>q
theorem HOk.laid(x:HOk P w H h)(k:∀b u,h.get? b=some u→h'.get? b=some u)(hp:h.objs.size≤a)(new:ObjOk P w (upd H a o) h' a o):HOk P w (upd H a o) h':=fun b u e=>by
 have hn:=x.fresh hp;by_cases hb:b=a
 ·subst hb;rw[l4]at e;cases e;exact new
 ·rw[j0 hb]at e;exact (x b u e).stay (fun c v _ q=>k c v q) (fun c q=>by rw[j0 (d0 q hn)];exact q) fun c xs q=>by rw[j0 (d0 q hn)];exact q
end
noncomputable def Rd(H:Hp)(a:Addr)(u:HO):Prop:=H a=some u∨∃o,H a=some (.frz o u)
theorem Rd.ok{P:Program}{w:World}{H:Hp}{h:Heap}{a:Addr}{u:HO}(r:Rd H a u)(x:HOk P w H h):ObjOk P w H h a u:=by
 rcases r with r |⟨o,r⟩
 ·exact x a u r
 ·obtain ⟨_,q⟩:=x a _ r;exact q
noncomputable def Mut:Option HO→Prop
 |some (.lst _)=>True
 |some (.dK _)=>True
 |some (.dT _)=>True
 |some (.set _ _)=>True
 |some (.ins _ _ _)=>True
 |some (.ext _)=>True
 |_=>False
section
variable{P:Program}{w:World}{H:Hp}{h h':Heap}{x e:Addr}{o':HO}
theorem HOk.write(ok:HOk P w H h)(mu:Mut (H x))(he:e=x∨H e=some (.own x))(k:∀b u,b≠e→h.get? b=some u→h'.get? b=some u)(heo:∃u,h'.get? e=some u)
 (new:ObjOk P w (upd H x o') h' x o'):HOk P w (upd H x o') h':=fun b u q=>by
 have nown:∀c y,H c=some (.own y)→c≠x:=fun c y r z=>by subst z;rw[r]at mu;exact mu
 have ntup:∀c xs,H c=some (.tup xs)→c≠x:=fun c xs r z=>by subst z;rw[r]at mu;exact mu
 by_cases hb:b=x
 ·subst hb;rw[l4]at q;cases q;exact new
 ·rw[j0 hb]at q;by_cases hbe:b=e
  ·have q':H b=some (.own x):=by
    rcases he with z |z
    ·exact absurd (hbe.trans z) hb
    ·rw[hbe];exact z
   rw[q]at q';cases q';obtain ⟨v,hv⟩:=heo;exact ⟨v,by rw[hbe];exact hv⟩
  ·refine (ok b u q).stay (fun c v hc r=>k c v ?_ r) (fun c r=>by rw[j0 (nown c b r)];exact r) fun c xs r=>by rw[j0 (ntup c xs r)];exact r
   rcases hc with rfl |hc
   ·exact hbe
   ·rintro rfl;rcases he with z |z
    ·exact nown c b hc z
    ·rw[hc]at z;cases z;exact hb rfl
end
structure Un(fs ex:List Addr)(H H':Hp)(h h':Heap):Prop where
 keep:∀b o,h.get? b=some o→H b=none→b∉fs→b∉ex→h'.get? b=some o
 slot:∀b o,h.get? b=some o→H b=none→b∈fs→b∉ex→∃sl,h'.get? b=some {o with slots:=sl}
 free:∀b o,h.get? b=some o→H b=none→b∉ex→H' b=none
 there:∀b o,h.get? b=some o→b∉ex→∃o',h'.get? b=some o'
 tups:∀b xs,H b=some (.tup xs)→H' b=some (.tup xs)
 frzs:∀b o u,H b=some (.frz o u)→H' b=some (.frz o u)
 tbls:∀b ps,H b=some (.tbl ps)→∃more,H' b=some (.tbl (ps++more))
section
variable{fs fs' ex ex':List Addr}{H H1 H2:Hp}{h h1 h2 h':Heap}{a x e:Addr}{o:HO}
theorem Un.any(u:Un fs ex H H1 h h1){b:Addr}{ob:Obj}(q:h.get? b=some ob)(n:H b=none)(hx:b∉ex):∃sl,h1.get? b=some {ob with slots:=sl}:=by
 by_cases hb:b∈fs
 ·exact u.slot b ob q n hb hx
 ·exact ⟨ob.slots,u.keep b ob q n hb hx⟩
theorem Un.kept(k:∀b u,h.get? b=some u→h'.get? b=some u):Un fs ex H H h h':=
 ⟨fun b ob q _ _ _=>k b ob q,fun b ob q _ _ _=>⟨ob.slots,k b ob q⟩,fun _ _ _ n _=>n,fun b ob q _=>⟨ob,k b ob q⟩,fun _ _ q=>q,fun _ _ _ q=>q,fun _ ps q=>⟨#[],by rw[q];simp⟩⟩
theorem Un.refl:Un fs ex H H h h:=Un.kept fun _ _ q=>q
theorem Un.laid(k:∀b u,h.get? b=some u→h'.get? b=some u)(hp:h.objs.size≤a)(hn:H a=none):Un fs ex H (upd H a o) h h' where
 keep:=fun b u q _ _ _=>k b u q
 slot:=fun b u q _ _ _=>⟨u.slots,k b u q⟩
 free:=fun b u q n _=>by rw[j0 (Nat.ne_of_lt (Nat.lt_of_lt_of_le (Heap.lt_size q) hp))];exact n
 there:=fun b u q _=>⟨u,k b u q⟩
 tups:=fun b xs q=>by rw[j0 (d0 q hn)];exact q
 frzs:=fun b u xs q=>by rw[j0 (d0 q hn)];exact q
 tbls:=fun b ps q=>⟨#[],by rw[j0 (d0 q hn),q];simp⟩
theorem Un.write(mu:Mut (H x))(he:e=x∨H e=some (.own x))(k:∀b u,b≠e→h.get? b=some u→h'.get? b=some u)(heo:∃u,h'.get? e=some u):Un fs ex H (upd H x o) h h':=by
 have hx:∀b,H b=none→b≠x:=fun b n z=>by subst z;rw[n]at mu;exact mu
 have hb:∀b,H b=none→b≠e:=fun b n z=>by
  subst z;rcases he with r |r
  ·exact hx b n r
  ·rw[n]at r;cases r
 have hm:∀b u,H b=some u→¬Mut (some u)→b≠x:=fun b u q nm z=>by subst z;rw[q]at mu;exact nm mu
 refine ⟨fun b u q n _ _=>k b u (hb b n) q,fun b u q n _ _=>⟨u.slots,k b u (hb b n) q⟩,fun b u q n _=>by rw[j0 (hx b n)];exact n,fun b u q _=>?_,
  fun b xs q=>by rw[j0 (hm b _ q fun z=>z)];exact q,fun b u xs q=>by rw[j0 (hm b _ q fun z=>z)];exact q,fun b ps q=>⟨#[],by rw[j0 (hm b _ q fun z=>z),q];simp⟩⟩
 by_cases hbe:b=e
 ·subst hbe;exact heo
 ·exact ⟨u,k b u hbe q⟩
end
noncomputable def trk(h:Heap)(H:Hp):List Addr:=(List.range h.objs.size).filter fun a=>(H a).isSome
noncomputable def hidT(h:Heap)(H:Hp):Heap:=PySem.W.hideAll h (trk h H)
theorem i0c(h:Heap)(H:Hp):(hidT h H).objs.size=h.objs.size:=PySem.W.hideAll_size _ _
theorem e0h{h:Heap}{H:Hp}{b:Addr}{o:Obj}(e:h.get? b=some o)(n:H b=none):(hidT h H).get? b=some o:=
 PySem.W.hideAll_get _ e fun hm=>by
  have q:(H b).isSome=true:=(List.mem_filter.mp hm).2;rw[n]at q;simp at q
theorem z1q{h:Heap}{H:Hp}{b:Addr}{o:Obj}(e:(hidT h H).get? b=some o):h.get? b=some o∧H b=none:=by
 have e':h.get? b=some o:=PySem.W.of_hideAll (trk h H) e;refine ⟨e',?_⟩;cases q:H b with
 |none=>rfl
 |some x=>
  have hm:b∈trk h H:=List.mem_filter.mpr ⟨List.mem_range.mpr (Heap.lt_size e'),by simp[q]⟩;have z:(hidT h H).get? b=none:=PySem.W.hideAll_none (trk h H) hm;rw[z]at e;cases e
noncomputable def z1p(g h:Heap)(L:Addr):List (Addr×Obj):=(List.range h.objs.size).filterMap fun a=>if a=L∨(g.get? a).isSome=true then none else (h.get? a).map fun o=>(a,o)
noncomputable def rest(g h:Heap)(L d:Addr):List (Addr×Obj):=(z1p g h L).filter fun p=>decide (p.1≠d)
end L2
namespace L2
open PySem PySem.Spec PyProof.Rows
structure Mod(K:PySem.W.Frag)(mg:Str→Option Value)(base:Heap):Prop where
 kin:K.In base
 glob:base.Ns mainGlobals mg
 blt:∃mb,base.Ns builtinsNs mb∧∀x:Str,x≠"__name__"→mb x=bootBuiltins x
 nolimit:base.NoLimit
structure Cx where
 prog:Program
 w:World
 K:PySem.W.Frag
 mg:Str→Option Value
 base:Heap
 A:Around
 N:List Str
 s₀:Shared
 H₀:Hp
 env:Env
 outer:List Env
 stack:List Env
 ex:List Addr
 fn:Str→Bool
 calm:Bool
 pn:List (Addr×Obj)
 xe:Value→Shared→Prop
 fl:Bool:=true
noncomputable def frs(l:List Env):List Addr:=l.filterMap (·.frame)
noncomputable abbrev Cx.fs(X:Cx):List Addr:=frs X.outer
noncomputable def Vis(sc:Scope)(x:Str):Prop:=sc.names.lookup x=some .local∨sc.names.lookup x=some .cell∨sc.names.lookup x=some .free
noncomputable def Loc(sc:Scope)(x:Str):Prop:=sc.names.lookup x=some .local∨sc.names.lookup x=some .cell
noncomputable def Look(env:Env)(h:Heap)(m:Str→Option Value)(x:Str)(u:Value):Prop:=
 (env.kindOf x=some .local∧m x=some u)∨((env.kindOf x=some .cell∨env.kindOf x=some .free)∧∃c,env.cells.lookup x=some c∧h.IsCell c (some u))
structure Cx.Ok(X:Cx):Prop where
 mod:Mod X.K X.mg X.base
 kind:X.env.scope.kind=.function
 glob:X.env.globals=mainGlobals
 blt:X.env.builtins=builtinsNs
 above:X.s₀.heap.objs.size≤X.env.locals
 inj:∀x y c,X.env.cells.lookup x=some c→X.env.cells.lookup y=some c→x=y
 has:∀x,(X.env.kindOf x=some .cell∨X.env.kindOf x=some .free)→∃c,X.env.cells.lookup x=some c
 cab:∀x c,X.fn x=true→X.env.cells.lookup x=some c→X.s₀.heap.objs.size≤c
 hd:X.calm=true→X.A.handled=none
 frames:X.A.frames=some X.stack
 stk:X.stack=X.outer∨(X.stack=X.env::X.outer∧X.env.frame=some X.env.locals)
 exf:∀b∈X.ex,b≠X.env.locals∧∀x c,X.env.cells.lookup x=some c→c≠b
 bs:∀b o,X.base.get? b=some o→X.s₀.heap.get? b=some o∧X.H₀ b=none
 bsz:X.base.objs.size≤X.s₀.heap.objs.size
 noex:∀b o,X.base.get? b=some o→b∉X.ex
 exfs:∀b∈X.ex,b∉X.fs
 funs:X.s₀.heap.FunFrames X.base X.outer
 frf:∀b∈X.fs,X.H₀ b=none
structure Inv(X:Cx)(pins:List (Addr×Obj))(σ:List (Option V))(H:Hp)(s:Shared):Prop where
 ok:X.Ok
 os:s.os=X.s₀.os
 bare:AllBare s.gens
 base:Un X.fs X.ex X.H₀ H X.s₀.heap s.heap
 loc:∃m,s.heap.Ns X.env.locals m∧∀(i:Nat) (x:Str) (v:V),X.N[i]?=some x→σ[i]?=some (some v)→Vis X.env.scope x→∃u,RelV v u∧Look X.env s.heap m x u
 cell:∀x c,X.env.cells.lookup x=some c→∃v,s.heap.IsCell c v
 free:H X.env.locals=none
 freeC:∀x c,X.env.cells.lookup x=some c→H c=none
 pin:∀p∈X.pn++pins,s.heap.get? p.1=some p.2∧H p.1=none∧p.1≠X.env.locals∧p.1∉X.fs∧∀v,p.2.data≠.cell v
 hok:HOk X.prog X.w H s.heap
 len:σ.length=X.N.length
section
variable{X:Cx}{pins:List (Addr×Obj)}{σ:List (Option V)}{H H':Hp}{s:Shared}{h':Heap}
theorem Cx.Ok.nofr(ok:X.Ok){b:Addr}{o:Obj}(e:X.base.get? b=some o):b∉X.fs:=fun hb=>by
 have:=(ok.funs.mem hb).1;rw[e]at this;cases this
theorem Inv.bs(I:Inv X pins σ H s):∀b o,X.base.get? b=some o→s.heap.get? b=some o∧H b=none:=fun b o e=>
 ⟨I.base.keep b o (I.ok.bs b o e).1 (I.ok.bs b o e).2 (I.ok.nofr e) (I.ok.noex b o e),I.base.free b o (I.ok.bs b o e).1 (I.ok.bs b o e).2 (I.ok.noex b o e)⟩
theorem Inv.bk(I:Inv X pins σ H s):∀b o,X.base.get? b=some o→s.heap.get? b=some o:=fun b o e=>(I.bs b o e).1
theorem Inv.mod(I:Inv X pins σ H s):Mod X.K X.mg X.base:=I.ok.mod
theorem Inv.kIn(I:Inv X pins σ H s):X.K.In s.heap:=I.ok.mod.kin.keeps I.bk
theorem Inv.fr(I:Inv X pins σ H s):∃m,Fr X.base X.env.locals s.heap m:=
 let ⟨m,hn,_⟩:=I.loc
 ⟨m,hn,I.bk,Nat.le_trans I.ok.bsz I.ok.above⟩
theorem Inv.lt(I:Inv X pins σ H s):X.env.locals<s.heap.objs.size:=let ⟨_,hn,_⟩:=I.loc;hn.lt
theorem Inv.sz(I:Inv X pins σ H s):X.s₀.heap.objs.size≤s.heap.objs.size:=Nat.le_trans I.ok.above (Nat.le_of_lt I.lt)
theorem Inv.nofs(I:Inv X pins σ H s){a:Addr}(h:s.heap.objs.size≤a):a∉X.fs:=fun hb=>by
 obtain ⟨_,o,ho,_⟩:=I.ok.funs.mem hb;exact absurd (Nat.lt_of_lt_of_le (Heap.lt_size ho) (Nat.le_trans I.sz h)) (Nat.lt_irrefl _)
theorem Inv.cne(I:Inv X pins σ H s):∀x c,X.env.cells.lookup x=some c→c≠X.env.locals:=fun x c e z=>by
 obtain ⟨v,o,ho,hd⟩:=I.cell x c e;obtain ⟨m,⟨o',es,ep,ho',hd',_⟩,_⟩:=I.loc;rw[z,ho']at ho;cases ho;rw[hd']at hd;cases hd
theorem Inv.funs(I:Inv X pins σ H s):s.heap.FunFrames X.base X.outer:=by
 have all:∀(l:List Env),(∀b∈frs l,b∈X.fs)→X.s₀.heap.FunFrames X.base l→s.heap.FunFrames X.base l:=by
  intro l
  induction l with
  |nil=>intro _ _;trivial
  |cons env r ih=>
   intro hs hl;obtain ⟨hk,⟨L,o,hf,hn,ho,hd⟩,hr⟩:=hl;have hL:L∈X.fs:=hs L (by unfold frs;rw[List.filterMap_cons,hf];exact List.mem_cons_self);obtain ⟨sl,e⟩:=I.base.slot L o ho (I.ok.frf L hL) hL fun z=>I.ok.exfs L z hL
   exact ⟨hk,⟨L,_,hf,hn,e,hd⟩,ih (fun b hb=>hs b (by unfold frs;rw[List.filterMap_cons,hf];exact List.mem_cons_of_mem _ hb)) hr⟩
 exact all X.outer (fun _ hb=>hb) I.ok.funs
theorem Inv.stack(I:Inv X pins σ H s):s.heap.FunFrames X.base X.stack:=by
 rcases I.ok.stk with e |⟨e,hf⟩
 ·rw[e];exact I.funs
 ·rw[e];obtain ⟨m,hn,_⟩:=I.loc;refine .cons (by rw[I.ok.kind];decide) hf hn ?_ I.funs;exact Heap.get?_none_of_le (Nat.le_trans I.ok.bsz I.ok.above)
theorem Inv.stkSub(I:Inv X pins σ H s):∀b∈frs X.stack,b∈X.env.locals::X.fs:=fun b hb=>by
 rcases I.ok.stk with e |⟨e,hf⟩
 ·rw[e]at hb;exact List.mem_cons_of_mem _ hb
 ·rw[e]at hb;unfold frs at hb;rw[List.filterMap_cons,hf]at hb;exact hb
theorem Inv.stkFree(I:Inv X pins σ H s):∀b∈frs X.stack,H b=none:=fun b hb=>by
 rcases List.mem_cons.mp (I.stkSub b hb)with e |hb
 ·rw[e];exact I.free
 ·obtain ⟨_,o,ho,_⟩:=I.ok.funs.mem hb;exact I.base.free b o ho (I.ok.frf b hb) fun z=>I.ok.exfs b z hb
theorem Inv.step{g':Array GenState}{t':Nat}{d':Drawn}{ch:List Addr}(I:Inv X pins σ H s)
 (hch:∀b∈ch,(b∈X.ex∨X.s₀.heap.objs.size≤b)∧b≠X.env.locals∧(∀x c,X.env.cells.lookup x=some c→c≠b)∧∀p∈X.pn++pins,p.1≠b)
 (keep:∀b o,b≠X.env.locals→b∉X.fs→b∉ch→s.heap.get? b=some o→H b=none→h'.get? b=some o)
 (slot:∀b o,b≠X.env.locals→b∈X.fs→b∉ch→s.heap.get? b=some o→H b=none→∃sl,h'.get? b=some {o with slots:=sl}) (free:∀b o,b∉ch→s.heap.get? b=some o→H b=none→H' b=none)
 (there:∀b o,b∉ch→s.heap.get? b=some o→∃o',h'.get? b=some o')
 (tups:∀b xs,H b=some (.tup xs)→H' b=some (.tup xs)) (frzs:∀b o u,H b=some (.frz o u)→H' b=some (.frz o u)) (tbls:∀b ps,H b=some (.tbl ps)→∃more,H' b=some (.tbl (ps++more)))
 (ns:∀m,s.heap.Ns X.env.locals m→h'.Ns X.env.locals m) (hok:HOk X.prog X.w H' h') (hg:AllBare g'):
 Inv X pins σ H' {s with heap:=h',gens:=g',drawn:=d',toks:=t'}:=by
 have neL:∀b o,X.s₀.heap.get? b=some o→b≠X.env.locals:=fun b o e=>Nat.ne_of_lt (Nat.lt_of_lt_of_le (Heap.lt_size e) I.ok.above)
 have neC:∀b o,X.s₀.heap.get? b=some o→b∉X.ex→b∉ch:=fun b o e hx hb=>by
  rcases (hch b hb).1 with z |z
  ·exact hx z
  ·exact absurd (Nat.lt_of_lt_of_le (Heap.lt_size e) z) (Nat.lt_irrefl _)
 have cellK:∀x c,X.env.cells.lookup x=some c→∀v,s.heap.IsCell c v→h'.IsCell c v:=fun x c e v ⟨o,ho,hd⟩=>by
  have nch:c∉ch:=fun z=>(hch c z).2.2.1 x c e rfl
  by_cases hc:c∈X.fs
  ·obtain ⟨sl,q⟩:=slot c o (I.cne x c e) hc nch ho (I.freeC x c e);exact ⟨_,q,hd⟩
  ·exact ⟨o,keep c o (I.cne x c e) hc nch ho (I.freeC x c e),hd⟩
 refine ⟨I.ok,I.os,hg,⟨fun b o e n hb hx=>?_,fun b o e n hb hx=>?_,fun b o e n hx=>?_,fun b o e hx=>?_,fun b xs e=>tups b xs (I.base.tups b xs e),fun b o xs e=>frzs b o xs (I.base.frzs b o xs e),fun b ps e=>?_⟩,?_,fun x c e=>?_,?_,fun x c e=>?_,fun p hp=>?_,hok,I.len⟩
 ·exact keep b o (neL b o e) hb (neC b o e hx) (I.base.keep b o e n hb hx) (I.base.free b o e n hx)
 ·obtain ⟨sl,e1⟩:=I.base.slot b o e n hb hx;obtain ⟨sl',e2⟩:=slot b _ (neL b o e) hb (neC b o e hx) e1 (I.base.free b o e n hx);exact ⟨sl',e2⟩
 ·obtain ⟨o',e1⟩:=I.base.there b o e hx;exact free b o' (neC b o e hx) e1 (I.base.free b o e n hx)
 ·obtain ⟨o',e1⟩:=I.base.there b o e hx;exact there b o' (neC b o e hx) e1
 ·obtain ⟨m1,e1⟩:=I.base.tbls b ps e;obtain ⟨m2,e2⟩:=tbls b _ e1;exact ⟨m1++m2,by rw[e2,Array.append_assoc]⟩
 ·obtain ⟨m,hn,hl⟩:=I.loc;refine ⟨m,ns m hn,fun i x v e1 e2 e3=>?_⟩;obtain ⟨u,r,l⟩:=hl i x v e1 e2 e3;refine ⟨u,r,?_⟩;rcases l with l |⟨k,c,e,z⟩
  ·exact .inl l
  ·exact .inr ⟨k,c,e,cellK x c e _ z⟩
 ·obtain ⟨v,z⟩:=I.cell x c e;exact ⟨v,cellK x c e v z⟩
 ·obtain ⟨m,⟨o,_,_,ho,_⟩,_⟩:=I.loc;exact free _ o (fun z=>(hch _ z).2.1 rfl) ho I.free
 ·obtain ⟨v,o,ho,hd⟩:=I.cell x c e;exact free c o (fun z=>(hch c z).2.2.1 x c e rfl) ho (I.freeC x c e)
 ·obtain ⟨e,n,ne,nf,d⟩:=I.pin p hp;have nch:p.1∉ch:=fun z=>(hch p.1 z).2.2.2 p hp rfl
  exact ⟨keep p.1 p.2 ne nf nch e n,free p.1 p.2 nch e n,ne,nf,d⟩
theorem Inv.un{t':Nat}(I:Inv X pins σ H s)(u:Un X.fs [] H H' s.heap h')(hok:HOk X.prog X.w H' h'):Inv X pins σ H' {s with heap:=h',toks:=t'}:=by
 obtain ⟨m,⟨o,es,ep,ho,r⟩,_⟩:=id I.loc;obtain ⟨sl,hL⟩:=u.any ho I.free (by simp);exact I.step (g':=s.gens) (d':=s.drawn) (ch:=[]) (fun _ z=>nomatch z) (fun b o _ hb _ e n=>u.keep b o e n hb (by simp)) (fun b o _ hb _ e n=>u.slot b o e n hb (by simp)) (fun b o _ e n=>u.free b o e n (by simp)) (fun b o _ e=>u.there b o e (by simp)) u.tups u.frzs u.tbls (fun m' hm=>by
  obtain ⟨o',es',ep',ho',r'⟩:=hm;rw[ho]at ho';cases ho';exact ⟨_,es',ep',hL,r'⟩) hok I.bare
theorem Inv.call{g':Array GenState}{t':Nat}{d':Drawn}{ch:List Addr}(I:Inv X pins σ H s)(u:Un (frs X.stack) ch H H' s.heap h')(hok:HOk X.prog X.w H' h')(hg:AllBare g')
 (hch:∀b∈ch,(b∈X.ex∨X.s₀.heap.objs.size≤b)∧b≠X.env.locals∧(∀x c,X.env.cells.lookup x=some c→c≠b)∧∀p∈X.pn++pins,p.1≠b):
 Inv X pins σ H' {s with heap:=h',gens:=g',drawn:=d',toks:=t'}:=by
 obtain ⟨m,⟨o,es,ep,ho,r⟩,_⟩:=id I.loc;obtain ⟨sl,hL⟩:=u.any ho I.free fun z=>(hch _ z).2.1 rfl
 exact I.step (ch:=ch) hch (fun b o hL hb hc e n=>u.keep b o e n (fun z=>(List.mem_cons.mp (I.stkSub b z)).elim hL hb) hc) (fun b o _ _ hc e n=>u.any e n hc) (fun b o hc e n=>u.free b o e n hc) (fun b o hc e=>u.there b o e hc) u.tups u.frzs u.tbls (fun m' hm=>by
  obtain ⟨o',es',ep',ho',r'⟩:=hm;rw[ho]at ho';cases ho';exact ⟨_,es',ep',hL,r'⟩) hok hg
theorem Inv.turned{t':Nat}{it:Addr}(I:Inv X pins σ H s)(k:∀b o,b≠it→s.heap.get? b=some o→h'.get? b=some o)(hn:H it=none)(hL:it≠X.env.locals)
 (h1:it∈X.ex∨X.s₀.heap.objs.size≤it) (h2:∀x c,X.env.cells.lookup x=some c→c≠it) (h3:∀p∈X.pn++pins,p.1≠it):Inv X pins σ H {s with heap:=h',toks:=t'}:=by
 have nit:∀b u,H b=some u→b≠it:=fun b u e z=>by rw[z,hn]at e;cases e
 refine I.step (g':=s.gens) (d':=s.drawn) (ch:=[it]) (fun b hb=>?_) (fun b o _ _ hc e _=>k b o (fun z=>hc (by simp[z])) e) (fun b o _ _ hc e _=>⟨o.slots,k b o (fun z=>hc (by simp[z])) e⟩) (fun _ _ _ _ n=>n)
  (fun b o hc e=>⟨o,k b o (fun z=>hc (by simp[z])) e⟩) (fun _ _ e=>e) (fun _ _ _ e=>e) (fun b ps e=>⟨#[],by rw[e];simp⟩) (fun m hm=>?_) (fun b u e=>?_) I.bare
 ·have e:b=it:=by simpa using hb
  subst e;exact ⟨h1,hL,h2,h3⟩
 ·obtain ⟨o,es,ep,ho,r⟩:=hm;exact ⟨o,es,ep,k _ o (Ne.symm hL) ho,r⟩
 ·refine (I.hok b u e).stay (fun c v hc q=>k c v ?_ q) (fun _ q=>q) fun _ _ q=>q
  rcases hc with z |z
  ·rw[z];exact nit b u e
  ·exact nit c _ z
theorem Inv.tok(I:Inv X pins σ H s)(t:Nat):Inv X pins σ H {s with toks:=t}:=I.un (h':=s.heap) (t':=t) Un.refl I.hok
theorem Inv.kept{t':Nat}(I:Inv X pins σ H s)(k:∀b u,s.heap.get? b=some u→h'.get? b=some u):Inv X pins σ H {s with heap:=h',toks:=t'}:=I.un (Un.kept k) (I.hok.kept k)
theorem Inv.laid{a:Addr}{o:HO}{t':Nat}(I:Inv X pins σ H s)(k:∀b u,s.heap.get? b=some u→h'.get? b=some u)(hp:s.heap.objs.size≤a)(new:ObjOk X.prog X.w (upd H a o) h' a o):
 Inv X pins σ (upd H a o) {s with heap:=h',toks:=t'}:=I.un (Un.laid k hp (I.hok.fresh hp)) (I.hok.laid k hp new)
theorem Inv.write{x e:Addr}{o:HO}{t':Nat}(I:Inv X pins σ H s)(mu:Mut (H x))(he:e=x∨H e=some (.own x))(k:∀b u,b≠e→s.heap.get? b=some u→h'.get? b=some u)(heo:∃u,h'.get? e=some u)
 (new:ObjOk X.prog X.w (upd H x o) h' x o):Inv X pins σ (upd H x o) {s with heap:=h',toks:=t'}:=I.un (Un.write mu he k heo) (I.hok.write mu he k heo new)
theorem Inv.weak{σ':List (Option V)}(I:Inv X pins σ H s)(hl:σ'.length=σ.length)(w:∀(i:Nat) v,σ'[i]?=some (some v)→σ[i]?=some (some v)):Inv X pins σ' H s:=
 ⟨I.ok,I.os,I.bare,I.base,let ⟨m,hn,hl'⟩:=I.loc;⟨m,hn,fun i x v e1 e2 e3=>hl' i x v e1 (w i v e2) e3⟩,I.cell,I.free,I.freeC,I.pin,I.hok,hl.trans I.len⟩
theorem Inv.pins_of{pins':List (Addr×Obj)}(I:Inv X pins σ H s)(h:∀p∈pins',s.heap.get? p.1=some p.2∧H p.1=none∧p.1≠X.env.locals∧p.1∉X.fs∧∀v,p.2.data≠.cell v):Inv X pins' σ H s:=
 ⟨I.ok,I.os,I.bare,I.base,I.loc,I.cell,I.free,I.freeC,fun p hp=>(List.mem_append.mp hp).elim (fun z=>I.pin p (List.mem_append_left _ z)) (h p),I.hok,I.len⟩
theorem q0g{N:List Str}(hN:N.Nodup){i j:Nat}{x:Str}(a:N[i]?=some x)(b:N[j]?=some x):i=j:=by
 obtain ⟨h1,e1⟩:=List.getElem?_eq_some_iff.mp a;obtain ⟨h2,e2⟩:=List.getElem?_eq_some_iff.mp b;exact (List.getElem_inj hN).mp (e1.trans e2.symm)
theorem o0u{M:Model}{A:Around}{E:Value→Shared→Prop}{i:Nat}{x:Str}{v:V}{u:Value}{Q:Unit→Shared→Prop}(I:Inv X pins σ H s)(hN:X.N.Nodup)(hi:X.N[i]?=some x)(hx:Loc X.env.scope x)(r:RelV v u)
 (h:∀s',Inv X pins (σ.set i (some v)) H s'→(∃a,Heap.SameBut a s.heap s'.heap∧(a=X.env.locals∨X.env.cells.lookup x=some a))→Q () s') (hf:X.fn x=true∨X.env.scope.names.lookup x=some .local:=by first |exact .inl rfl |exact .inr rfl |assumption):wpAny M A (storeName X.env x u) Q E s:=by
 obtain ⟨m,hn,hl⟩:=id I.loc;have hcls:(X.env.scope.kind== .class||(X.env.scope.kind== .module&&X.env.locals !=X.env.globals))=false:=by rw[I.ok.kind];rfl
 have hiσ:i<σ.length:=by rw[I.len];exact (List.getElem?_eq_some_iff.mp hi).1
 have cne:=I.cne;have tracked:∀{a:Addr} {h':Heap},(∃o,s.heap.get? a=some o∧H a=none)→Heap.SameBut a s.heap h'→HOk X.prog X.w H h':=fun {a h'} ha hs b ob e=>by
  obtain ⟨_,_,hfree⟩:=ha;refine (I.hok b ob e).stay (fun c w' hc q=>(hs.2 c ?_).trans q) (fun _ q=>q) fun _ _ q=>q
  rintro rfl;rcases hc with rfl |hc
  ·rw[hfree]at e;cases e
  ·rw[hfree]at hc;cases hc
 rcases hx with hk |hk
 ·refine wpAny_storeName_local hk hn (fun h' hn' hs=>?_) hcls;obtain ⟨oL,_,_,hoL,_⟩:=id hn;refine h _ ⟨I.ok,I.os,I.bare,⟨fun b o e n hb hx=>?_,fun b o e n hb hx=>?_,I.base.free,fun b o e hx=>?_,I.base.tups,I.base.frzs,I.base.tbls⟩,⟨_,hn',fun j y v' e1 e2 e3=>?_⟩,fun y c e=>?_,I.free,I.freeC,fun p hp=>?_,tracked ⟨oL,hoL,I.free⟩ hs,by simpa using I.len⟩ ⟨_,hs,.inl rfl⟩
  ·exact (hs.2 b (Nat.ne_of_lt (Nat.lt_of_lt_of_le (Heap.lt_size e) I.ok.above))).trans (I.base.keep b o e n hb hx)
  ·obtain ⟨sl,e1⟩:=I.base.slot b o e n hb hx;exact ⟨sl,(hs.2 b (Nat.ne_of_lt (Nat.lt_of_lt_of_le (Heap.lt_size e) I.ok.above))).trans e1⟩
  ·obtain ⟨o',e1⟩:=I.base.there b o e hx;exact ⟨o',(hs.2 b (Nat.ne_of_lt (Nat.lt_of_lt_of_le (Heap.lt_size e) I.ok.above))).trans e1⟩
  ·by_cases hj:j=i
   ·subst hj;rw[hi]at e1;cases e1;rw[List.getElem?_set_self hiσ]at e2;cases e2;exact ⟨u,r,.inl ⟨hk,by simp⟩⟩
   ·rw[List.getElem?_set_ne (Ne.symm hj)]at e2;obtain ⟨u',r',q⟩:=hl j y v' e1 e2 e3;refine ⟨u',r',?_⟩;rcases q with ⟨k,e⟩|⟨k,c,e,z⟩
    ·refine .inl ⟨k,?_⟩;have:y≠x:=fun e=>hj (q0g hN e1 (e▸hi))
     simp[this,e]
    ·exact .inr ⟨k,c,e,z.sameBut hs (cne y c e)⟩
  ·obtain ⟨w',z⟩:=I.cell y c e;exact ⟨w',z.sameBut hs (cne y c e)⟩
  ·obtain ⟨e,n,ne,nf,d⟩:=I.pin p hp;exact ⟨(hs.2 p.1 ne).trans e,n,ne,nf,d⟩
 ·have hfn:X.fn x=true:=by
   rcases hf with z |z
   ·exact z
   ·rw[z]at hk;cases hk
  obtain ⟨c,hc⟩:=I.ok.has x (.inl hk);obtain ⟨w',z⟩:=I.cell x c hc;refine wpAny_storeName_cell I.ok.kind hk hc z (fun h' hc' hs=>?_);obtain ⟨oc,hoc,hocd⟩:=id z;refine h {s with heap:=h'} ⟨I.ok,I.os,I.bare,⟨fun b o e n hb hx=>?_,fun b o e n hb hx=>?_,I.base.free,fun b o e hx=>?_,I.base.tups,I.base.frzs,I.base.tbls⟩,⟨m,hn.sameBut hs (Ne.symm (cne x c hc)),fun j y v' e1 e2 e3=>?_⟩,fun y c' e=>?_,I.free,I.freeC,fun p hp=>?_,tracked ⟨oc,hoc,I.freeC x c hc⟩ hs,by simpa using I.len⟩ ⟨c,hs,.inr hc⟩
  ·exact (hs.2 b (Nat.ne_of_lt (Nat.lt_of_lt_of_le (Heap.lt_size e) (I.ok.cab x c hfn hc)))).trans (I.base.keep b o e n hb hx)
  ·obtain ⟨sl,e1⟩:=I.base.slot b o e n hb hx;exact ⟨sl,(hs.2 b (Nat.ne_of_lt (Nat.lt_of_lt_of_le (Heap.lt_size e) (I.ok.cab x c hfn hc)))).trans e1⟩
  ·obtain ⟨o',e1⟩:=I.base.there b o e hx;exact ⟨o',(hs.2 b (Nat.ne_of_lt (Nat.lt_of_lt_of_le (Heap.lt_size e) (I.ok.cab x c hfn hc)))).trans e1⟩
  ·by_cases hj:j=i
   ·subst hj;rw[hi]at e1;cases e1;rw[List.getElem?_set_self hiσ]at e2;cases e2;exact ⟨u,r,.inr ⟨.inl hk,c,hc,hc'⟩⟩
   ·rw[List.getElem?_set_ne (Ne.symm hj)]at e2;obtain ⟨u',r',q⟩:=hl j y v' e1 e2 e3;refine ⟨u',r',?_⟩;rcases q with q |⟨k,c',e,z'⟩
    ·exact .inl q
    ·refine .inr ⟨k,c',e,z'.sameBut hs ?_⟩;rintro rfl;exact hj (q0g hN e1 (I.ok.inj _ _ _ e hc▸hi))
  ·by_cases hcc:c'=c
   ·subst hcc;exact ⟨_,hc'⟩
   ·obtain ⟨w2,z2⟩:=I.cell y c' e;exact ⟨w2,z2.sameBut hs hcc⟩
  ·obtain ⟨e,n,ne,nf,d⟩:=I.pin p hp;refine ⟨(hs.2 p.1 ?_).trans e,n,ne,nf,d⟩;intro q;rw[q,hoc]at e;have q':oc=p.2:=Option.some.inj e;exact d w' (by rw[←q'];exact hocd)
theorem t0n{M:Model}{A:Around}{E:Value→Shared→Prop}{i:Nat}{x:Str}{v:V}{u:Value}{Q:Unit→Shared→Prop}(I:Inv X pins σ H s)(hN:X.N.Nodup)(hi:X.N[i]?=some x)(hx:Loc X.env.scope x)(r:RelV v u)
 (h:∀s',Inv X pins (σ.set i (some v)) H s'→Q () s') (hf:X.fn x=true∨X.env.scope.names.lookup x=some .local:=by first |exact .inl rfl |exact .inr rfl |assumption):wpAny M A (storeName X.env x u) Q E s:=
 o0u I hN hi hx r (fun s' I' _=>h s' I') hf
theorem Inv.call'{s':Shared}{ch:List Addr}(I:Inv X pins σ H s)(ho:s'.os=s.os)(u:Un (frs X.stack) ch H H' s.heap s'.heap)(hok:HOk X.prog X.w H' s'.heap)(hg:AllBare s'.gens)
 (hch:∀b∈ch,(b∈X.ex∨X.s₀.heap.objs.size≤b)∧b≠X.env.locals∧(∀x c,X.env.cells.lookup x=some c→c≠b)∧∀p∈X.pn++pins,p.1≠b):Inv X pins σ H' s':=by
 obtain ⟨h',g',d',t',o'⟩:=s';have e:o'=s.os:=ho;subst e;exact I.call (g':=g') (t':=t') (d':=d') u hok hg hch
end
noncomputable abbrev XK:=Value→Option Addr→Hp→Prop
noncomputable abbrev St:=List (Option V)
noncomputable abbrev VK:=V→Hp→Prop
noncomputable abbrev TE:=St→Hp→VK→Prop
noncomputable abbrev TT:=St→Hp→(Bool→Hp→Prop)→Prop
noncomputable abbrev TA:=St→Hp→(List V→Hp→Prop)→Prop
structure Ends where
 nx:St→Hp→Prop
 rt:VK
 bk:St→Hp→Prop:=fun _ _=>False
 ct:St→Hp→Prop:=fun _ _=>False
noncomputable abbrev TS:=Ends→St→Hp→Prop
noncomputable def EP(X:Cx)(pins:List (Addr×Obj))(σ:St)(Q:VK)(u:Value)(s':Shared):Prop:=∃v H',Inv X pins σ H' s'∧RelV v u∧Q v H'
noncomputable def TP(X:Cx)(pins:List (Addr×Obj))(σ:St)(Q:Bool→Hp→Prop)(b:Bool)(s':Shared):Prop:=∃H',Inv X pins σ H' s'∧Q b H'
noncomputable def AP(X:Cx)(pins:List (Addr×Obj))(σ:St)(Q:List V→Hp→Prop)(us:List Value)(s':Shared):Prop:=∃vs H',Inv X pins σ H' s'∧Vals vs us∧Q vs H'
noncomputable def SP(X:Cx)(pins:List (Addr×Obj))(D:Ends)(f:Flow)(s':Shared):Prop:=
 match f with
 | .next=>∃ σ' H',Inv X pins σ' H' s'∧D.nx σ' H'
 | .brk=>∃ σ' H',Inv X pins σ' H' s'∧D.bk σ' H'
 | .cont=>∃ σ' H',Inv X pins σ' H' s'∧D.ct σ' H'
 | .ret u=>∃v σ' H',Inv X pins σ' H' s'∧RelV v u∧D.rt v H'
noncomputable def PE(X:Cx)(e:Expr)(t:TE):Prop:=
 ∀(pins:List (Addr×Obj)) (s:Shared) (σ:St) (H:Hp) (Q:VK),Inv X pins σ H s→t σ H Q→wpAny (model X.prog X.w) X.A (eval e X.env) (EP X pins σ Q) X.xe s
noncomputable def PT(X:Cx)(e:Expr)(t:TT):Prop:=
 ∀(pins:List (Addr×Obj)) (s:Shared) (σ:St) (H:Hp) (Q:Bool→Hp→Prop),Inv X pins σ H s→t σ H Q→wpAny (model X.prog X.w) X.A (isTrue e X.env (eval e X.env)) (TP X pins σ Q) X.xe s
noncomputable def PW(X:Cx)(e:Expr)(t:TT):Prop:=
 ∀(whole:Sem Value) (pins:List (Addr×Obj)) (s:Shared) (σ:St) (H:Hp) (Q:Bool→Hp→Prop),Inv X pins σ H s→t σ H Q→wpAny (model X.prog X.w) X.A (isTrue e X.env whole) (TP X pins σ Q) X.xe s
theorem PW.pt{X:Cx}{e:Expr}{t:TT}(h:PW X e t):PT X e t:=h _
noncomputable def PA(X:Cx)(es:List Expr)(t:TA):Prop:=
 ∀(pos:Pos) (pins:List (Addr×Obj)) (s:Shared) (σ:St) (H:Hp) (Q:List V→Hp→Prop),Inv X pins σ H s→t σ H Q→wpAny (model X.prog X.w) X.A (spliced (backTo pos (starEach es X.env))) (AP X pins σ Q) X.xe s
noncomputable def PS(X:Cx)(st:Stmt)(t:TS):Prop:=
 ∀(pins:List (Addr×Obj)) (s:Shared) (σ:St) (H:Hp) (D:Ends),Inv X pins σ H s→t D σ H→wpAny (model X.prog X.w) X.A (exec st X.env) (SP X pins D) X.xe s
noncomputable def PSs(X:Cx)(st:List Stmt)(t:TS):Prop:=
 ∀(pins:List (Addr×Obj)) (s:Shared) (σ:St) (H:Hp) (D:Ends),Inv X pins σ H s→t D σ H→wpAny (model X.prog X.w) X.A (execs st X.env) (SP X pins D) X.xe s
theorem thn{α:Type}{t:Sem α}{Q Q':α→Shared→Prop}{M:Model}{A:Around}{E:Value→Shared→Prop}{s:Shared}(h:wpAny M A t Q E s)(hQ:∀a s,Q a s→Q' a s):wpAny M A t Q' E s:=wpAny_mono h hQ fun _ _ x=>x
end L2
namespace L2
open PySem PySem.Spec PyProof.Rows
section
variable{X:Cx}
theorem bin{a b:Expr}{ta tb:TE}(ha:PE X a ta)(hb:PE X b tb){pins:List (Addr×Obj)}{s:Shared}{σ:St}{H:Hp}{R:V→V→Hp→Prop}(I:Inv X pins σ H s)(h:ta σ H fun x H1=>tb σ H1 fun y H2=>R x y H2)
 {α:Type} {Q:α→Shared→Prop} {f:Value→Value→Sem α}
 (hf:∀v u s2 x y H2,Inv X pins σ H2 s2→RelV x v→RelV y u→R x y H2→wpAny (model X.prog X.w) X.A (f v u) Q X.xe s2):
 wpAny (model X.prog X.w) X.A (eval a X.env) (fun v s₁=>wpAny (model X.prog X.w) X.A (eval b X.env) (fun u s₂=>wpAny (model X.prog X.w) X.A (f v u) Q X.xe s₂) X.xe s₁) X.xe s:=by
 refine thn (ha pins s σ H _ I h) fun v s1 ⟨x,H1,I1,r1,q1⟩=>?_
 refine thn (hb pins s1 σ H1 _ I1 q1) fun u s2 ⟨y,H2,I2,r2,q2⟩=>?_
 exact hf v u s2 x y H2 I2 r1 r2 q2
noncomputable def tVar(i:Nat):TE:=fun σ H Q=>∃v,σ[i]?=some (some v)∧Q v H
noncomputable def tC(v:V):TE:=fun _ H Q=>Q v H
theorem t0b{i:Nat}{x:Str}{pos:Pos}(hN:X.N[i]?=some x)(hv:Vis X.env.scope x)(hd:(x==("__debug__":Str))=false:=by decide)(hcd:(x==("__classdict__":Str))=false:=by decide):PE X (.Name x pos) (tVar i):=by
 intro pins s σ H Q I h;obtain ⟨v,e,h⟩:=h;obtain ⟨m,hn,hl⟩:=I.loc;obtain ⟨u,r,l⟩:=hl i x v hN e hv;have fin:EP X pins σ Q u s:=⟨v,H,I,r,h⟩;rcases l with ⟨hk,hm⟩|⟨hk,c,hc,hcell⟩
 ·exact wpAny_Name (wpAny_loadName_local I.ok.kind hk hn hm fin) hd
 ·rcases hk with hk |hk
  ·exact wpAny_Name (wpAny_loadName_cell I.ok.kind hk hc hcell fin) hd
  ·exact wpAny_Name (wpAny_loadName_free I.ok.kind hk hc hcell fin hcd) hd
theorem pe_int{i j pos}:PE X (.Constant (.int i) j pos) (tC (.int i)):=fun _ _ _ H _ I h=>wpAny_Constant_int ⟨.int i,H,I.tok _,⟨_,rfl⟩,h⟩
theorem pe_bl{b j pos}:PE X (.Constant (.bool b) j pos) (tC (.bl b)):=fun _ _ _ H _ I h=>Constant_bool ⟨.bl b,H,I,rfl,h⟩
theorem pe_non{j pos}:PE X (.Constant .none j pos) (tC .non):=fun _ _ _ H _ I h=>Constant_none ⟨.non,H,I,rfl,h⟩
theorem pe_str{x j pos}:PE X (.Constant (.str x) j pos) (tC (.str x)):=fun _ _ _ H _ I h=>Calls.Constant_str ⟨.str x,H,I.tok _,⟨_,rfl⟩,h⟩
noncomputable def Gl(X:Cx)(x:Str):Prop:=X.env.kindOf x=some .globalImplicit
theorem t0a{E:Value→Shared→Prop}{pins:List (Addr×Obj)}{s:Shared}{σ:St}{H:Hp}{x:Str}{u:Value}{pos:Pos}{Q:Value→Shared→Prop}(I:Inv X pins σ H s)(hg:Gl X x)(hm:X.mg x=some u)(h:Q u s)
 (hd:(x==("__debug__":Str))=false:=by decide):wpAny (model X.prog X.w) X.A (eval (.Name x pos) X.env) Q E s:=
 Calls.Name_function_global I.ok.kind hg (Calls.loadGlobal_global (by rw[I.ok.glob];exact I.mod.glob.keeps I.bk) hm h) hd
theorem t0z{E:Value→Shared→Prop}{pins:List (Addr×Obj)}{s:Shared}{σ:St}{H:Hp}{x:Str}{u:Value}{pos:Pos}{Q:Value→Shared→Prop}(I:Inv X pins σ H s)(hg:Gl X x)(hm:X.mg x=none)(hv:bootBuiltins x=some u)(h:Q u s)
 (hn:x≠"__name__":=by decide) (hd:(x==("__debug__":Str))=false:=by decide):wpAny (model X.prog X.w) X.A (eval (.Name x pos) X.env) Q E s:=by
 obtain ⟨mb,h1,h2⟩:=I.mod.blt;exact Calls.Name_function_global I.ok.kind hg (Calls.loadGlobal_builtin (by rw[I.ok.glob];exact I.mod.glob.keeps I.bk) hm (by rw[I.ok.blt];exact h1.keeps I.bk) ((h2 x hn).trans hv) h) hd
theorem z1o{x:Str}{v:V}{u:Value}{pos:Pos}(hg:Gl X x)(hm:X.mg x=some u)(r:RelV v u)(hd:(x==("__debug__":Str))=false:=by decide):PE X (.Name x pos) (tC v):=
 fun _ _ _ H _ I h=>t0a I hg hm ⟨v,H,I,r,h⟩ hd
theorem z1n{x:Str}{v:V}{u:Value}{pos:Pos}(hg:Gl X x)(hm:X.mg x=none)(hv:bootBuiltins x=some u)(r:RelV v u)(hn:x≠"__name__":=by decide)(hd:(x==("__debug__":Str))=false:=by decide):PE X (.Name x pos) (tC v):=
 fun _ _ _ H _ I h=>t0z I hg hm hv ⟨v,H,I,r,h⟩ hn hd
variable{a b:Expr}{ta tb:TE}{pos:Pos}
noncomputable def PC(X:Cx)(op:CmpOp)(a b:Expr)(t:TE):Prop:=
 ∀(pins:List (Addr×Obj)) (s:Shared) (σ:St) (H:Hp) (Q:VK),Inv X pins σ H s→t σ H Q→
  wpAny (model X.prog X.w) X.A (eval a X.env) (fun v s₁=>wpAny (model X.prog X.w) X.A (eval b X.env) (fun u s₂=>wpAny (model X.prog X.w) X.A (compareOp op v u) (EP X pins σ Q) X.xe s₂) X.xe s₁) X.xe s
theorem e0g(b:Expr){op:CmpOp}(h:op≠.In)(h2:op≠.NotIn):behindInMarks op b=false:=by
 have e1:(op==CmpOp.In)=false:=by cases op<;>first |rfl |exact absurd rfl h
 have e2:(op==CmpOp.NotIn)=false:=by cases op<;>first |rfl |exact absurd rfl h2
 cases b<;>simp[behindInMarks,e1,e2]
noncomputable def tB(t:TE):TT:=fun σ H Q=>t σ H fun x H1=>∃c,x=.bl c∧Q c H1
theorem pt_cmp{op:CmpOp}{t:TE}(h:PC X op a b t)(h1:behindInMarks op b=false:=by first |exact e0g _ (by decide) (by decide)|rfl):PT X (.Compare a [op] [b] pos) (tB t):=by
 intro pins s σ H Q I hw;refine wpAny_isTrue_Compare1 (thn (h pins s σ H _ I hw) fun v s1 h1=>thn h1 fun u s2 h2=>thn h2 fun c s3 ⟨x,H1,I1,r1,q1⟩=>?_) h1;obtain ⟨d,rfl,q⟩:=q1;cases r1;exact wpAny_truthy_bool ⟨H1,I1,q⟩
theorem pt_val{e:Expr}{t:TE}(h:PE X e t)(he:∀whole,isTrue e X.env whole=(do let v←whole;standAt e.pos;holding [v] (truthy v)):=by intro _;rfl):PT X e (tB t):=by
 intro pins s σ H Q I hw;refine isTrue_plain (thn (h pins s σ H _ I hw) fun v s1 ⟨x,H1,I1,r1,q1⟩=>?_) (he _);obtain ⟨d,rfl,q⟩:=q1;cases r1;exact wpAny_truthy_bool ⟨H1,I1,q⟩
variable{tA tB':TT}{rest:List Expr}
noncomputable def tAnd(t u:TT):TT:=fun σ H Q=>t σ H fun c H1=>if c=true then u σ H1 Q else Q false H1
noncomputable def tOr(t u:TT):TT:=fun σ H Q=>t σ H fun c H1=>if c=true then Q true H1 else u σ H1 Q
noncomputable def tNot(t:TT):TT:=fun σ H Q=>t σ H fun c H1=>Q (!c) H1
theorem z1m(ha:PT X a tA):PW X (.BoolOp .And [a] pos) tA:=by
 intro wh pins s σ H Q I h;refine isTrue_and (thn (ha pins s σ H Q I h) fun c s1 e=>?_);cases c with
 |true=>exact isTrue_and_nil e
 |false=>exact e
theorem pw_or1(ha:PT X a tA):PW X (.BoolOp .Or [a] pos) tA:=by
 intro wh pins s σ H Q I h;refine isTrue_or (thn (ha pins s σ H Q I h) fun c s1 e=>?_);cases c with
 |false=>exact isTrue_or_nil e
 |true=>exact e
theorem pw_and(ha:PT X a tA)(hb:PW X (.BoolOp .And (b::rest) pos) tB'):PW X (.BoolOp .And (a::b::rest) pos) (tAnd tA tB'):=by
 intro wh pins s σ H Q I h;refine isTrue_and (thn (ha pins s σ H _ I h) fun c s1 ⟨H1,I1,q1⟩=>?_);cases c with
 |true=>exact hb wh pins s1 σ H1 Q I1 q1
 |false=>exact ⟨H1,I1,q1⟩
theorem pw_or(ha:PT X a tA)(hb:PW X (.BoolOp .Or (b::rest) pos) tB'):PW X (.BoolOp .Or (a::b::rest) pos) (tOr tA tB'):=by
 intro wh pins s σ H Q I h;refine isTrue_or (thn (ha pins s σ H _ I h) fun c s1 ⟨H1,I1,q1⟩=>?_);cases c with
 |true=>exact ⟨H1,I1,q1⟩
 |false=>exact hb wh pins s1 σ H1 Q I1 q1
theorem pt_not(ha:PT X a tA):PT X (.UnaryOp .Not a pos) (tNot tA):=by
 intro pins s σ H Q I h;exact isTrue_not (ha pins s σ H (fun c H1=>Q (!c) H1) I h)
noncomputable def tAndV(ta tb:TE):TE:=fun σ H Q=>ta σ H fun x H1=>∃c,x=.bl c∧if c=true then tb σ H1 Q else Q (.bl false) H1
noncomputable def tNotV(ta:TE):TE:=fun σ H Q=>ta σ H fun x H1=>∃c,x=.bl c∧Q (.bl (!c)) H1
theorem pe_one{op}{t:TE}(h:PE X a t):PE X (.BoolOp op [a] pos) t:=fun pins s σ H Q I hw=>BoolOp_one (h pins s σ H Q I hw)
theorem pe_and(ha:PE X a ta)(hb:PE X (.BoolOp .And (b::rest) pos) tb):PE X (.BoolOp .And (a::b::rest) pos) (tAndV ta tb):=by
 intro pins s σ H Q I h;refine BoolOp_and (thn (ha pins s σ H _ I h) fun v s1 ⟨x,H1,I1,r1,q1⟩=>?_);obtain ⟨c,rfl,q1⟩:=q1;cases r1;refine wpAny_truthy_bool ?_;cases c with
 |true=>exact hb pins s1 σ H1 Q I1 q1
 |false=>exact ⟨.bl false,H1,I1,rfl,q1⟩
theorem pe_not(ha:PE X a ta):PE X (.UnaryOp .Not a pos) (tNotV ta):=by
 intro pins s σ H Q I h;refine UnaryOp_ (thn (ha pins s σ H _ I h) fun v s1 ⟨x,H1,I1,r1,q1⟩=>?_);obtain ⟨c,rfl,q1⟩:=q1;cases r1;exact not_of (wpAny_truthy_bool ⟨.bl (!c),H1,I1,rfl,q1⟩)
end
end L2
namespace L2
open PySem PySem.Spec PyProof.Rows
noncomputable def SqL(K:PySem.W.Frag)(H:Hp)(a:Addr)(xs:List V):Prop:=
 Rd H a (.lst xs)∨
  ∃(o:Obj) (its:Array Value) (n:Nat),K.lookup a=some o∧o.cls=.type "list"∧o.dict=none∧o.data=.seq its n∧its.size≤sizeLine∧Vals xs its.toList
noncomputable def SqT(K:PySem.W.Frag)(H:Hp)(a:Addr)(xs:List V):Prop:=
 Rd H a (.tup xs)∨
  ∃(o:Obj) (its:Array Value) (n:Nat),K.lookup a=some o∧o.cls=.type "tuple"∧o.data=.seq its n∧its.size≤sizeLine∧Vals xs its.toList
noncomputable def absV:Value→Option V
 | .none=>some .non
 | .bool b=>some (.bl b)
 | .int i _=>some (.int i)
 | .str x _=>some (.str x)
 | .bytes b _=>some (.byt b)
 | .float b _=>some (.flt b)
 | .ref a=>some (.ref a)
 | .type n=>some (.ty n)
 |_=>none
theorem RelV.abs{x:V}{u:Value}(r:RelV x u):absV u=some x:=by
 cases x with
 |non=>cases r;rfl
 |bl _=>cases r;rfl
 |int _=>obtain ⟨t,rfl⟩:=r;rfl
 |str _=>obtain ⟨t,rfl⟩:=r;rfl
 |byt _=>obtain ⟨t,rfl⟩:=r;rfl
 |flt _=>obtain ⟨t,rfl⟩:=r;rfl
 |ref _=>cases r;rfl
 |ty _=>cases r;rfl
theorem RelV.inj{x y:V}{u:Value}(r:RelV x u)(q:RelV y u):x=y:=Option.some.inj (r.abs.symm.trans q.abs)
theorem Vals.inj:∀{xs ys:List V} {us:List Value},Vals xs us→Vals ys us→xs=ys
 |_,_,_,.nil,.nil=>rfl
 |_,_,_,.cons r t,.cons r' t'=>by rw[r.inj r',Vals.inj t t']
section
variable{X:Cx}{pins:List (Addr×Obj)}{σ:St}{H:Hp}{s:Shared}{a:Addr}{xs ys:List V}
theorem SqL.of{K:PySem.W.Frag}(h:H a=some (.lst xs)):SqL K H a xs:=.inl (.inl h)
theorem SqT.of{K:PySem.W.Frag}(h:H a=some (.tup xs)):SqT K H a xs:=.inl (.inl h)
theorem Inv.list(I:Inv X pins σ H s)(h:SqL X.K H a xs):∃its:List Value,Vals xs its∧PlainL s.heap a its.toArray∧xs.length≤sizeLine:=by
 rcases h with h |⟨o,its,n,hk,hc,hd,hs,hz,r⟩
 ·obtain ⟨z,its,n,r,e⟩:=h.ok I.hok;exact ⟨its,r,⟨_,n,e,rfl,rfl,rfl⟩,z⟩
 ·refine ⟨its.toList,r,⟨o,n,I.kIn a o hk,hc,hd,by simpa using hs⟩,?_⟩;have e:=r.length;simp only[Array.length_toList]at e;omega
theorem Inv.tuple(I:Inv X pins σ H s)(h:SqT X.K H a xs):∃its:List Value,Vals xs its∧IsTup s.heap a its.toArray∧xs.length≤sizeLine:=by
 rcases h with h |⟨o,its,n,hk,hc,hs,hz,r⟩
 ·obtain ⟨z,its,r,p⟩:=h.ok I.hok;exact ⟨its,r,p.tup,z⟩
 ·refine ⟨its.toList,r,⟨o,I.kIn a o hk,hc,n,by simpa using hs⟩,?_⟩;have e:=r.length;simp only[Array.length_toList]at e;omega
theorem Inv.list_inj(I:Inv X pins σ H s)(h:SqL X.K H a xs)(h':SqL X.K H a ys):xs=ys:=by
 obtain ⟨its,r,⟨o,n,e,_,_,d⟩,_⟩:=I.list h;obtain ⟨its',r',⟨o',n',e',_,_,d'⟩,_⟩:=I.list h';rw[e]at e';cases e';rw[d]at d';injection d' with d1 _
 have:its=its':=by simpa using congrArg Array.toList d1
 subst this;exact r.inj r'
theorem Inv.tuple_inj(I:Inv X pins σ H s)(h:SqT X.K H a xs)(h':SqT X.K H a ys):xs=ys:=by
 obtain ⟨its,r,⟨o,e,_,n,d⟩,_⟩:=I.tuple h;obtain ⟨its',r',⟨o',e',_,n',d'⟩,_⟩:=I.tuple h';rw[e]at e';cases e';rw[d]at d';injection d' with d1 _
 have:its=its':=by simpa using congrArg Array.toList d1
 subst this;exact r.inj r'
end
noncomputable abbrev Cx.wish(X:Cx)(E:Value→Shared→Prop):Cx:={X with xe:=E}
noncomputable abbrev Cx.nox(X:Cx):Cx:=X.wish fun _ _=>False
theorem Cx.Ok.wish{X:Cx}(ok:X.Ok)(E:Value→Shared→Prop):(X.wish E).Ok:=
 ⟨ok.mod,ok.kind,ok.glob,ok.blt,ok.above,ok.inj,ok.has,ok.cab,ok.hd,ok.frames,ok.stk,ok.exf,ok.bs,ok.bsz,ok.noex,ok.exfs,ok.funs,ok.frf⟩
theorem Cx.Ok.unwish{X:Cx}{E:Value→Shared→Prop}(ok:(X.wish E).Ok):X.Ok:=
 ⟨ok.mod,ok.kind,ok.glob,ok.blt,ok.above,ok.inj,ok.has,ok.cab,ok.hd,ok.frames,ok.stk,ok.exf,ok.bs,ok.bsz,ok.noex,ok.exfs,ok.funs,ok.frf⟩
section
variable{X:Cx}{pins:List (Addr×Obj)}{σ:St}{H:Hp}{s:Shared}{E:Value→Shared→Prop}
theorem Inv.wish(I:Inv X pins σ H s)(E:Value→Shared→Prop):Inv (X.wish E) pins σ H s:=⟨I.ok.wish E,I.os,I.bare,I.base,I.loc,I.cell,I.free,I.freeC,I.pin,I.hok,I.len⟩
theorem Inv.unwish(I:Inv (X.wish E) pins σ H s):Inv X pins σ H s:=⟨I.ok.unwish,I.os,I.bare,I.base,I.loc,I.cell,I.free,I.freeC,I.pin,I.hok,I.len⟩
theorem SP.unwish{D:Ends}{f:Flow}{s':Shared}(h:SP (X.wish E) pins D f s'):SP X pins D f s':=by
 cases f with
 |next=>obtain ⟨σ',H',I,q⟩:=h;exact ⟨σ',H',I.unwish,q⟩
 |brk=>obtain ⟨σ',H',I,q⟩:=h;exact ⟨σ',H',I.unwish,q⟩
 |cont=>obtain ⟨σ',H',I,q⟩:=h;exact ⟨σ',H',I.unwish,q⟩
 |ret u=>obtain ⟨v,σ',H',I,r,q⟩:=h;exact ⟨v,σ',H',I.unwish,r,q⟩
theorem PSs.nox{st:List Stmt}{t:TS}(h:PSs X.nox st t):PSs X st t:=fun pins s σ H D I hw=>
 wpAny_mono (h pins s σ H D (I.wish _) hw) (fun _ _ q=>q.unwish) fun _ _ z=>False.elim z
end
section
variable{X:Cx}{st:Stmt}{rest:List Stmt}{t u:TS}{e:Expr}{te:TE}{pos:Pos}
noncomputable def tNext:TS:=fun D σ H=>D.nx σ H
noncomputable def tSeq(t u:TS):TS:=fun D σ H=>t {D with nx:=u D} σ H
theorem z1l:PSs X [] tNext:=fun _ _ σ H _ I h=>wpAny_execs_nil ⟨σ,H,I,h⟩
theorem e0f(h1:PS X st t)(h2:PSs X rest u):PSs X (st::rest) (tSeq t u):=by
 intro pins s σ H D I h;refine wpAny_execs_cons (thn (h1 pins s σ H {D with nx:=u D} I h) fun f s1 q=>?_);cases f with
 |next=>
  obtain ⟨σ',H',I',q⟩:=q;exact h2 pins s1 σ' H' D I' q
 |ret v=>exact q
 |brk=>exact q
 |cont=>exact q
theorem i0b(h1:PS X st t):PSs X [st] t:=by
 intro pins s σ H D I h;refine wpAny_execs_cons (thn (h1 pins s σ H D I h) fun f s1 q=>?_);cases f with
 |next=>exact wpAny_execs_nil q
 |ret v=>exact q
 |brk=>exact q
 |cont=>exact q
theorem Inv.quiet{pins:List (Addr×Obj)}{σ:St}{H:Hp}{s:Shared}(I:Inv X pins σ H s):interactive X.env=false:=by simp[interactive,I.ok.kind]
noncomputable def tDrop(te:TE):TS:=fun D σ H=>te σ H fun _ H1=>D.nx σ H1
theorem z1k(he:PE X e te)(hs:swapsWith e none pos.line X.env=pure false:=by rfl):PS X (.Expr e pos) (tDrop te):=by
 intro pins s σ H D I h;exact wpAny_Expr_any (thn (he pins s σ H _ I h) fun v s1 ⟨x,H1,I1,r1,q1⟩=>⟨σ,H1,I1,q1⟩) I.quiet hs
noncomputable def tRet(te:TE):TS:=fun D σ H=>te σ H D.rt
theorem a0y(he:PE X e te):PS X (.Return (some e) pos) (tRet te):=by
 intro pins s σ H D I h;exact wpAny_Return_some (thn (he pins s σ H _ I h) fun v s1 ⟨x,H1,I1,r1,q1⟩=>⟨x,σ,H1,I1,r1,q1⟩)
noncomputable def tIfS(c:TT)(t u:TS):TS:=fun D σ H=>c σ H fun b H1=>if b=true then t D σ H1 else u D σ H1
theorem ps_if{c:Expr}{a b:List Stmt}{tc:TT}(hc:PT X c tc)(ha:PSs X a t)(hb:PSs X b u):PS X (.If c a b pos) (tIfS tc t u):=by
 intro pins s σ H D I h;refine wpAny_If (thn (hc pins s σ H _ I h) fun d s1 ⟨H1,I1,q1⟩=>?_);cases d with
 |true=>exact ha pins s1 σ H1 D I1 q1
 |false=>exact hb pins s1 σ H1 D I1 q1
end
noncomputable abbrev TG:=V→St→Hp→(St→Hp→Prop)→Prop
noncomputable abbrev TGs:=List V→St→Hp→(St→Hp→Prop)→Prop
noncomputable def PG(X:Cx)(target:Expr)(t:TG):Prop:=
 ∀(pins:List (Addr×Obj)) (s:Shared) (σ:St) (H:Hp) (v:V) (u:Value) (Q:St→Hp→Prop),Inv X pins σ H s→RelV v u→t v σ H Q→
  wpAny (model X.prog X.w) X.A (assign target X.env u) (fun _ s'=>∃ σ' H',Inv X pins σ' H' s'∧Q σ' H') X.xe s
noncomputable def PGs(X:Cx)(ts:List Expr)(t:TGs):Prop:=
 ∀(pins:List (Addr×Obj)) (s:Shared) (σ:St) (H:Hp) (vs:List V) (us:List Value) (Q:St→Hp→Prop),Inv X pins σ H s→Vals vs us→t vs σ H Q→
  wpAny (model X.prog X.w) X.A (assignInOrder ((assignEach ts X.env).map (·.2)) us) (fun _ s'=>∃ σ' H',Inv X pins σ' H' s'∧Q σ' H') X.xe s
noncomputable abbrev TSet:=V→V→V→Hp→(Hp→Prop)→Prop
noncomputable def PSet(X:Cx)(t:TSet):Prop:=
 ∀(pins:List (Addr×Obj)) (s:Shared) (σ:St) (H:Hp) (o i v:V) (ov iv u:Value) (Q:Hp→Prop),Inv X pins σ H s→RelV o ov→RelV i iv→RelV v u→t o i v H Q→
  wpAny (model X.prog X.w) X.A (setItem ov iv u) (fun _ s'=>∃H',Inv X pins σ H' s'∧Q H') X.xe s
section
variable{X:Cx}{pos:Pos}
noncomputable def m0p(i:Nat):TG:=fun v σ H Q=>Q (σ.set i (some v)) H
theorem x4{i:Nat}{x:Str}(hN:X.N.Nodup)(hi:X.N[i]?=some x)(hx:Loc X.env.scope x)(hf:X.fn x=true∨X.env.scope.names.lookup x=some .local:=by first |exact .inl rfl |exact .inr rfl |assumption):PG X (.Name x pos) (m0p i):=by
 intro pins s σ H v u Q I r h;exact wpAny_assign_Name (t0n I hN hi hx r (fun s' I'=>⟨_,H,I',h⟩) hf)
noncomputable def gNil:TGs:=fun vs σ H Q=>vs=[]∧Q σ H
noncomputable def gCons(t:TG)(u:TGs):TGs:=fun vs σ H Q=>∃v r,vs=v::r∧t v σ H fun σ' H'=>u r σ' H' Q
theorem m7:PGs X [] gNil:=by
 intro pins s σ H vs us Q I r h;obtain ⟨e,h⟩:=h;subst e;cases r;exact assignInOrder_nil ⟨σ,H,I,h⟩
theorem j4{e:Expr}{es:List Expr}{t:TG}{u:TGs}(h1:PG X e t)(h2:PGs X es u)
 (hs:(assignEach (e::es) X.env).map (·.2)=assign e X.env::(assignEach es X.env).map (·.2):=by rfl):PGs X (e::es) (gCons t u):=by
 intro pins s σ H vs us Q I r h;obtain ⟨v,vr,e1,h⟩:=h;subst e1;cases r with
 |cons r rr=>
  rw[hs];refine assignInOrder_cons (thn (h1 pins s σ H _ _ _ I r h) fun _ s1 ⟨σ1,H1,I1,q1⟩=>?_);exact h2 pins s1 σ1 H1 _ _ Q I1 rr q1
noncomputable def gTup(K:PySem.W.Frag)(n:Nat)(t:TGs):TG:=fun v σ H Q=>∃a xs,v=.ref a∧SqT K H a xs∧xs.length=n∧t xs σ H Q
theorem g9{es:List Expr}{k:Nat}{t:TGs}{n:Nat}(hc:X.calm=true)(h:PGs X es t)
 (hn:(assignEach es X.env).length=n:=by rfl) (hst:(assignEach es X.env).findIdx? (·.1)=none:=by rfl):PG X (.Tuple es k pos) (gTup X.K n t):=by
 intro pins s σ H v u Q I r hw;obtain ⟨a,xs,e1,hq,hl,hw⟩:=hw;subst e1;cases r;obtain ⟨its,rv,ht,hz⟩:=I.tuple hq;refine assign_Tuple_tuple (I.ok.hd hc) ht (by simp[hn,← hl,rv.length]) hst fun h' hx=>?_
 have I1:Inv X pins σ H {s with heap:=h'}:=I.kept (t':=s.toks) fun b o e=>hx b o (Nat.ne_of_lt (Heap.lt_size e)) e
 exact h pins _ σ H xs _ Q I1 (by simpa using rv) hw
noncomputable def gSub(to ti:TE)(t:TSet):TG:=fun v σ H Q=>to σ H fun o H1=>ti σ H1 fun i H2=>t o i v H2 fun H3=>Q σ H3
theorem pg_sub{o i:Expr}{to ti:TE}{t:TSet}(ho:PE X o to)(hi:PE X i ti)(hs:PSet X t)
 (ha:∀v,assign (.Subscript o i pos) X.env v=(do
  let ov←holding [v] (eval o X.env)
  let iv←holding [v,ov] (eval i X.env)
  standAt pos
  holding [v,ov,iv] (setItem ov iv v)
  release [v,ov,iv] []):=by intro _;rfl):PG X (.Subscript o i pos) (gSub to ti t):=by
 intro pins s σ H v u Q I r h;rw[ha];refine wpAny_bind (wpAny_holding (thn (ho pins s σ H _ I h) fun ov s1 ⟨x,H1,I1,r1,q1⟩=>?_));refine wpAny_bind (wpAny_holding (thn (hi pins s1 σ H1 _ I1 q1) fun iv s2 ⟨y,H2,I2,r2,q2⟩=>?_));refine wpAny_bind (wpAny_standAt (wpAny_bind (wpAny_holding (thn (hs pins s2 σ H2 x y v ov iv u _ I2 r1 r2 r q2) fun _ s3 ⟨H3,I3,q3⟩=>?_))));exact wpAny_release ⟨σ,H3,I3,q3⟩
noncomputable def tAsg(te:TE)(g:TG):TS:=fun D σ H=>te σ H fun x H1=>g x σ H1 D.nx
theorem a0x{tg e:Expr}{te:TE}{g:TG}(he:PE X e te)(hg:PG X tg g)(hs:swapsWithSole [tg] e pos.line X.env=pure false:=by rfl)(hw:swappedStores [tg] e X.env=pure none:=by rfl)
 (h1:(assignEach [tg] X.env).map (·.2)=[assign tg X.env]:=by rfl):PS X (.Assign [tg] e pos) (tAsg te g):=by
 intro pins s σ H D I h;refine wpAny_Assign_stores (thn (he pins s σ H _ I h) fun v s1 ⟨x,H1,I1,r1,q1⟩=>?_) hs hw;rw[h1];exact thn (hg pins s1 σ H1 x v _ I1 r1 q1) fun _ s2 q=>q
theorem o0t{i:Nat}{x:Str}{e:Expr}{te:TE}{pos':Pos}(hN:X.N.Nodup)(hi:X.N[i]?=some x)(hx:Loc X.env.scope x)(he:PE X e te)(hs:swapsWith e (some (.Name x pos')) pos.line X.env=pure false:=by rfl)(hf:X.fn x=true∨X.env.scope.names.lookup x=some .local:=by first |exact .inl rfl |exact .inr rfl |assumption):
 PS X (.Assign [.Name x pos'] e pos) (tAsg te (m0p i)):=by
 intro pins s σ H D I h;refine wpAny_Assign_Name (thn (he pins s σ H _ I h) fun v s1 ⟨y,H1,I1,r1,q1⟩=>?_) hs;exact t0n I1 hN hi hx r1 (fun s2 I2=>⟨_,H1,I2,q1⟩) hf
end
section
variable{X:Cx}{pos:Pos}
end
structure It where
 go:Nat→Hp→Prop
 yld:Nat→Hp→V→Hp→Prop
 stop:Nat→Hp→Prop
noncomputable def FpOk(X:Cx)(pins:List (Addr×Obj))(H:Hp)(b:Addr):Prop:=
 H b=none∧b≠X.env.locals∧b∉X.fs∧(b∈X.ex∨X.s₀.heap.objs.size≤b)∧(∀x c,X.env.cells.lookup x=some c→c≠b)∧∀p∈X.pn++pins,p.1≠b
theorem Inv.fpOk{X:Cx}{pins:List (Addr×Obj)}{σ:St}{H H':Hp}{s:Shared}{b:Addr}(I:Inv X pins σ H s)(hb:s.heap.objs.size≤b)(hn:H' b=none):FpOk X pins H' b:=by
 refine ⟨hn,Nat.ne_of_gt (Nat.lt_of_lt_of_le I.lt hb),I.nofs hb,.inr (Nat.le_trans I.sz hb),fun x c e z=>?_,fun p hp z=>?_⟩
 ·obtain ⟨v,q⟩:=I.cell x c e;exact absurd (Nat.lt_of_lt_of_le q.lt (by rw[z];exact hb)) (Nat.lt_irrefl _)
 ·exact absurd (Nat.lt_of_lt_of_le (Heap.lt_size (I.pin p hp).1) (by rw[z];exact hb)) (Nat.lt_irrefl _)
structure Turn(P:Program)(w:World)(K:PySem.W.Frag)(tg:Expr)(J:It)(fp:List Addr)(it:Addr)(tn:Nat→Heap→Prop):Prop where
 mem:it∈fp
 obj:∀i h,tn i h→∀b∈fp,∃o,h.get? b=some o∧∀v,o.data≠.cell v
 keep:∀i h h',tn i h→(∀b∈fp,∀o,h.get? b=some o→h'.get? b=some o)→tn i h'
 item:∀(X:Cx),X.prog=P→X.w=w→X.K=K→X.calm=true→∀(i:Nat) (pins:List (Addr×Obj)) (s:Shared) (σ:St) (H:Hp) (E:Value→Shared→Prop),Inv X pins σ H s→(∀b∈fp,FpOk X pins H b)→tn i s.heap→J.go i H→
  wpAny (model P w) X.A (pyNext (.ref it)) (fun r s1=>∃u,r=some u∧
   wpAny (model P w) X.A (letOwnedTupleGo tg (.ref it) u) (fun _ s2=>∃x H',Inv X pins σ H' s2∧RelV x u∧J.yld i H x H'∧tn (i+1) s2.heap∧∀b∈fp,H' b=none) E s1) E s
 done:∀(X:Cx),X.prog=P→X.w=w→X.K=K→X.calm=true→∀(i:Nat) (pins:List (Addr×Obj)) (s:Shared) (σ:St) (H:Hp) (E:Value→Shared→Prop),Inv X pins σ H s→(∀b∈fp,FpOk X pins H b)→tn i s.heap→J.stop i H→
  wpAny (model P w) X.A (pyNext (.ref it)) (fun r s1=>r=none∧Inv X pins σ H s1) E s
 self:∀(A:Around) (i:Nat) (s:Shared) (Q:Value→Shared→Prop) (E:Value→Shared→Prop),tn i s.heap→Q (.ref it) s→wpAny (model P w) A (pyIter (.ref it)) Q E s
noncomputable abbrev TI:=St→Hp→(It→Hp→Prop)→Prop
noncomputable def PIE(X:Cx)(pins:List (Addr×Obj))(σ:St)(tg:Expr)(R:It→Hp→Prop)(itv:Value)(s2:Shared):Prop:=
 ∃(it:Addr) (fp:List Addr) (tn:Nat→Heap→Prop) (J:It) (H':Hp),itv=.ref it∧Inv X pins σ H' s2∧Turn X.prog X.w X.K tg J fp it tn∧tn 0 s2.heap∧(∀b∈fp,FpOk X pins H' b)∧R J H'
noncomputable def PI(X:Cx)(tg iter:Expr)(wi:TI):Prop:=
 ∀(pins:List (Addr×Obj)) (s:Shared) (σ:St) (H:Hp) (R:It→Hp→Prop),Inv X pins σ H s→wi σ H R→
  wpAny (model X.prog X.w) X.A (eval iter X.env) (fun v s1=>wpAny (model X.prog X.w) X.A (pyIter v) (PIE X pins σ tg R) X.xe s1) X.xe s
theorem e0e{M:Model}{A:Around}{E:Value→Shared→Prop}{s:Shared}{tg:Expr}{it:Addr}{u:Value}{o:Obj}{n:String}{vs:Array Value}{Q:Unit→Shared→Prop}(ho:s.heap.get? it=some o)(hc:o.cls=.type n)(hd:o.data=.fields vs)
 (hn:["enumerate","zip","dict_itemiterator","dict_reverseitemiterator","odict_iterator","itertools.zip_longest","itertools.pairwise"].contains n=false) (hQ:Q () s):wpAny M A (letOwnedTupleGo tg (.ref it) u) Q E s:=by
 unfold letOwnedTupleGo;cases tg<;>first
  |exact wpAny_pure hQ
  |(cases u<;>first
     |exact wpAny_pure hQ
     |(refine wpAny_bind (wpAny_load ho ?_);rw[hc,hd];show wpAny M A (if (["enumerate","zip","dict_itemiterator","dict_reverseitemiterator","odict_iterator","itertools.zip_longest","itertools.pairwise"].contains n&&vs[0]? ==some (rawInt _))=true then _ else _) Q E s;rw[if_neg (by intro h;rw[hn,Bool.false_and]at h;cases h)];exact wpAny_pure hQ))
noncomputable def Itl(K:PySem.W.Frag)(a:Addr):It:=
 ⟨fun i H=>∃xs x,SqL K H a xs∧xs[i]?=some x,fun i H x H'=>H'=H∧∀xs,SqL K H a xs→xs[i]?=some x,fun i H=>∃xs,SqL K H a xs∧xs.length≤i⟩
noncomputable def Itt(K:PySem.W.Frag)(a:Addr):It:=
 ⟨fun i H=>∃xs x,SqT K H a xs∧xs[i]?=some x,fun i H x H'=>H'=H∧∀xs,SqT K H a xs→xs[i]?=some x,fun i H=>∃xs,SqT K H a xs∧xs.length≤i⟩
noncomputable def Itr(lo:Int)(n:Nat):It:=⟨fun i _=>i<n,fun i H x H'=>H'=H∧x=.int (lo+i),fun i _=>n≤i⟩
theorem i0a{P:Program}{w:World}{K:PySem.W.Frag}{tg:Expr}(a it:Addr):Turn P w K tg (Itl K a) [it] it (fun i h=>h.IsListIter it a i)where
 mem:=by simp
 obj:=fun i h st b hb=>by
  have e:b=it:=by simpa using hb
  subst e;obtain ⟨o,e,c,d⟩:=st;exact ⟨o,e,fun v z=>by rw[d]at z;cases z⟩
 keep:=fun i h h' st k=>st.at fun o e=>k it (by simp) o e
 item:=by
  intro X hP hw hK hc i pins s σ H E I hf st hg;subst hP hw hK;obtain ⟨xs,x,hq,hx⟩:=hg;obtain ⟨its,rv,p,hz⟩:=I.list hq;obtain ⟨u,hu,ru⟩:=rv.get hx;obtain ⟨f0,f1,f2,f3,f4,f5⟩:=hf it (by simp);refine wpAny_pyNext_list_item st p.isList (x:=u) (by simpa using hu) fun h' st' sb=>?_
  have I1:Inv X pins σ H {s with heap:=h'}:=I.turned (t':=s.toks) (fun b o hb e=>(sb.2 b hb).trans e) f0 f1 f3 f4 f5;obtain ⟨o,e,c,d⟩:=id st';exact ⟨u,rfl,e0e (s:={s with heap:=h'}) e c d (by decide) ⟨x,H,I1,ru,⟨rfl,fun ys hy=>by rw[I.list_inj hy hq];exact hx⟩,st',fun b hb=>(hf b hb).1⟩⟩
 done:=by
  intro X hP hw hK hc i pins s σ H E I hf st hg;subst hP hw hK;obtain ⟨xs,hq,hx⟩:=hg;obtain ⟨its,rv,p,hz⟩:=I.list hq;obtain ⟨f0,f1,f2,f3,f4,f5⟩:=hf it (by simp);have hl:=rv.length;exact wpAny_pyNext_list_end (I.ok.hd hc) st p.isList (by simp;omega) fun h' eb=>⟨rfl,I.turned (t':=s.toks) (fun b o hb e=>eb b o hb e) f0 f1 f3 f4 f5⟩
 self:=fun _ _ _ _ _ st h=>wpAny_pyIter_listiter st h
theorem j0a{P:Program}{w:World}{K:PySem.W.Frag}{tg:Expr}(a it:Addr):Turn P w K tg (Itt K a) [it] it (fun i h=>h.IsTupleIter it a i)where
 mem:=by simp
 obj:=fun i h st b hb=>by
  have e:b=it:=by simpa using hb
  subst e;obtain ⟨o,e,c,d⟩:=st;exact ⟨o,e,fun v z=>by rw[d]at z;cases z⟩
 keep:=fun i h h' st k=>st.at fun o e=>k it (by simp) o e
 item:=by
  intro X hP hw hK hc i pins s σ H E I hf st hg;subst hP hw hK;obtain ⟨xs,x,hq,hx⟩:=hg;obtain ⟨its,rv,p,hz⟩:=I.tuple hq;obtain ⟨u,hu,ru⟩:=rv.get hx;obtain ⟨f0,f1,f2,f3,f4,f5⟩:=hf it (by simp);refine wpAny_pyNext_tuple_item st (show s.heap.IsTuple a its.toArray from p) (x:=u) (by simpa using hu) fun h' st' sb=>?_
  have I1:Inv X pins σ H {s with heap:=h'}:=I.turned (t':=s.toks) (fun b o hb e=>(sb.2 b hb).trans e) f0 f1 f3 f4 f5;obtain ⟨o,e,c,d⟩:=id st';exact ⟨u,rfl,e0e (s:={s with heap:=h'}) e c d (by decide) ⟨x,H,I1,ru,⟨rfl,fun ys hy=>by rw[I.tuple_inj hy hq];exact hx⟩,st',fun b hb=>(hf b hb).1⟩⟩
 done:=by
  intro X hP hw hK hc i pins s σ H E I hf st hg;subst hP hw hK;obtain ⟨xs,hq,hx⟩:=hg;obtain ⟨its,rv,p,hz⟩:=I.tuple hq;obtain ⟨f0,f1,f2,f3,f4,f5⟩:=hf it (by simp);have hl:=rv.length;exact wpAny_pyNext_tuple_end (I.ok.hd hc) st (show s.heap.IsTuple a its.toArray from p) (by simp;omega) fun h' eb=>⟨rfl,I.turned (t':=s.toks) (fun b o hb e=>eb b o hb e) f0 f1 f3 f4 f5⟩
 self:=fun _ _ _ _ _ st h=>wpAny_pyIter_tupleiter st h
theorem i0z{P:Program}{w:World}{K:PySem.W.Frag}{tg:Expr}(it:Addr)(lo:Int)(n:Nat):Turn P w K tg (Itr lo n) [it] it (fun i h=>IsRangeIter h it (lo+(i:Nat)*1) ((n:Int)-(i:Nat)) 1)where
 mem:=by simp
 obj:=fun i h st b hb=>by
  have e:b=it:=by simpa using hb
  subst e;exact ⟨_,st,fun v z=>by
   have z':Data.fields _=Data.cell v:=z;cases z'⟩
 keep:=fun i h h' st k=>k it (by simp) _ st
 item:=by
  intro X hP hw hK hc i pins s σ H E I hf st hg;subst hP hw hK;obtain ⟨f0,f1,f2,f3,f4,f5⟩:=hf it (by simp);have W:=Walks.range (prog:=X.prog) (w:=X.w) (I.ok.hd hc) it lo 1 n;refine W.item i s _ _ hg st fun v h' tk hv st' kk=>?_
  obtain ⟨t,rfl⟩:=hv;have I1:Inv X pins σ H {s with heap:=h',toks:=tk}:=I.turned (fun b o hb e=>kk b o (by simpa using hb) e) f0 f1 f3 f4 f5;refine ⟨_,rfl,e0e (s:={s with heap:=h',toks:=tk}) (n:="range_iterator") st' rfl rfl (by decide) ⟨.int (lo+i),H,I1,⟨t,?_⟩,⟨rfl,rfl⟩,st',fun b hb=>(hf b hb).1⟩⟩;rw[Int.mul_one]
 done:=by
  intro X hP hw hK hc i pins s σ H E I hf st hg;subst hP hw hK;obtain ⟨f0,f1,f2,f3,f4,f5⟩:=hf it (by simp);exact wpAny_pyNext_range_end (I.ok.hd hc) st (by have:n≤i:=hg;omega) fun h' eb=>⟨rfl,I.turned (t':=s.toks) (fun b o hb e=>eb b o hb e) f0 f1 f3 f4 f5⟩
 self:=fun _ _ _ _ _ st h=>wpAny_pyIter_rangeiter st h
end L2
namespace L2
open PySem PySem.Spec PyProof.Rows
section
variable{X:Cx}{tg:Expr}
theorem k0q{pins:List (Addr×Obj)}{σ:St}{H:Hp}{s:Shared}{R:It→Hp→Prop}{E:Value→Shared→Prop}{lo hi:Int}{t u v:Tok}{tk:Nat}(I:Inv X pins σ H s)(h1:-(2^62)≤lo)(h2:lo<2^62)(h3:-(2^62)≤hi)(h4:hi<2^62)
 (q:R (Itr lo (hi-lo).toNat) H):wpAny (model X.prog X.w) X.A (pyIter (.ref s.heap.objs.size)) (PIE X pins σ tg R) E {s with heap:=s.heap.push {cls:=.type "range",data:=.fields #[.int lo t,.int hi u,.int 1 v]},toks:=tk}:=by
 refine wpAny_pyIter_range (IsRange.new ..) (small_one h1 h2 h3 h4) ?_;have I1:Inv X pins σ H {s with heap:=s.heap.push {cls:=.type "range",data:=.fields #[.int lo t,.int hi u,.int 1 v]},toks:=tk}:=I.kept fun b o e=>Heap.get?_push_of_some _ e
 refine ⟨(s.heap.push {cls:=.type "range",data:=.fields #[.int lo t,.int hi u,.int 1 v]}).objs.size,[(s.heap.push {cls:=.type "range",data:=.fields #[.int lo t,.int hi u,.int 1 v]}).objs.size],_,_,H,rfl,
  I1.kept (t':=tk) fun b o e=>Heap.get?_push_of_some _ e,i0z _ lo (hi-lo).toNat,?_,fun b hb=>?_,q⟩
 ·have e1:lo+((0:Nat):Int)*1=lo:=by simp
  have e2:(((hi-lo).toNat:Nat):Int)-((0:Nat):Int)=Builtin.Range.rangeSize lo hi 1:=by rw[rangeSize_one];split<;>omega
  show IsRangeIter _ _ (lo+((0:Nat):Int)*1) ((((hi-lo).toNat:Nat):Int)-((0:Nat):Int)) 1;rw[e1,e2];exact Heap.get?_push_size _ rfl
 ·have e:b=(s.heap.push {cls:=.type "range",data:=.fields #[.int lo t,.int hi u,.int 1 v]}).objs.size:=by simpa using hb
  subst e;exact I1.fpOk (Nat.le_refl _) (I1.hok.fresh (Nat.le_refl _))
noncomputable def iRng1(ta:TA):TI:=fun σ H R=>ta σ H fun vs H1=>∃j:Int,vs=[.int j]∧-(2^62)≤j∧j<2^62∧R (Itr 0 j.toNat) H1
noncomputable def iRng2(ta:TA):TI:=fun σ H R=>ta σ H fun vs H1=>∃i j:Int,vs=[.int i,.int j]∧(-(2^62)≤i∧i<2^62∧-(2^62)≤j∧j<2^62)∧R (Itr i (j-i).toNat) H1
theorem h0z{a:Expr}{ta:TA}{p pos:Pos}(hg:Gl X "range")(hm:X.mg "range"=none)(ha:PA X [a] ta)(hs:starEach [a] X.env=[(false,eval a X.env)]:=by rfl):PI X tg (.Call (.Name "range" p) [a] [] pos) (iRng1 ta):=by
 intro pins s σ H R I h;refine Call_ (t0z I hg hm boot_range (PyProof.Rows.callWith_type1 (thn (ha pos pins s σ H _ I h) fun us s1 ⟨vs,H1,I1,r1,q1⟩=>?_) hs rfl));obtain ⟨j,e,q1,q2,q⟩:=q1;subst e;cases r1 with
 |cons r rr=>
  cases rr;obtain ⟨t,rfl⟩:=r;exact call_range_1 (k0q I1 (by omega) (by omega) q1 q2 (by simpa using q))
theorem h0y{a b:Expr}{ta:TA}{p pos:Pos}(hg:Gl X "range")(hm:X.mg "range"=none)(ha:PA X [a,b] ta)(hs:starEach [a,b] X.env=[(false,eval a X.env),(false,eval b X.env)]:=by rfl)(hs2:starEach [b] X.env=[(false,eval b X.env)]:=by rfl):
 PI X tg (.Call (.Name "range" p) [a,b] [] pos) (iRng2 ta):=by
 intro pins s σ H R I h;refine Call_ (t0z I hg hm boot_range (PyProof.Rows.callWith_type1 (thn (ha pos pins s σ H _ I h) fun us s1 ⟨vs,H1,I1,r1,q1⟩=>?_) (by rw[hs,hs2]) (by rw[hs2];rfl)));obtain ⟨i,j,e,⟨q1,q2,q3,q4⟩,q⟩:=q1;subst e;cases r1 with
 |cons r rr=>
  cases rr with
  |cons r' rr=>
   cases rr;obtain ⟨t,rfl⟩:=r;obtain ⟨t',rfl⟩:=r';exact call_range_2 (k0q I1 q1 q2 q3 q4 q)
noncomputable def tFor(wi:TI)(g:TG)(tb:TS):TS:=fun D σ H=>wi σ H fun J H1=>∃W:Nat→Nat→St→Hp→Prop,(∃m,W 0 m σ H1)∧∀i m σ H,W i m σ H→
 (J.stop i H∧D.nx σ H)∨(J.go i H∧∃N:St→Hp→Prop,(∀ σ' H',N σ' H'→∃m',m'<m∧W (i+1) m' σ' H')∧∀x H',J.yld i H x H'→g x σ H' fun σ2 H2=>tb {D with nx:=N,ct:=N,bk:=D.nx} σ2 H2)
noncomputable def o0s(fp:List Addr)(h:Heap):List (Addr×Obj):=fp.filterMap fun b=>(h.get? b).map fun o=>(b,o)
theorem y0f{fp:List Addr}{h:Heap}{b:Addr}{o:Obj}(hb:b∈fp)(e:h.get? b=some o):(b,o)∈o0s fp h:=List.mem_filterMap.mpr ⟨b,hb,by rw[e];rfl⟩
theorem h0x{fp:List Addr}{h:Heap}{p:Addr×Obj}(hp:p∈o0s fp h):p.1∈fp∧h.get? p.1=some p.2:=by
 obtain ⟨b,hb,e⟩:=List.mem_filterMap.mp hp;cases q:h.get? b with
 |none=>rw[q]at e;cases e
 |some o=>
  rw[q]at e;have e':(b,o)=p:=Option.some.inj e;subst e';exact ⟨hb,q⟩
theorem Inv.pinned{pins:List (Addr×Obj)}{σ:St}{H:Hp}{s:Shared}{fp:List Addr}(I:Inv X pins σ H s)(hf:∀b∈fp,FpOk X pins H b)(ho:∀b∈fp,∃o,s.heap.get? b=some o∧∀v,o.data≠.cell v):Inv X (pins++o0s fp s.heap) σ H s:=
 I.pins_of fun p hp=>(List.mem_append.mp hp).elim (fun z=>I.pin p (List.mem_append_right _ z)) fun z=>by
  obtain ⟨hb,e⟩:=h0x z;obtain ⟨f0,f1,f2,_⟩:=hf p.1 hb;obtain ⟨o,e',d⟩:=ho p.1 hb;rw[e]at e';cases e';exact ⟨e,f0,f1,f2,d⟩
theorem Inv.unpinned{pins pl:List (Addr×Obj)}{σ:St}{H:Hp}{s:Shared}(I:Inv X (pins++pl) σ H s):Inv X pins σ H s:=I.pins_of fun p hp=>I.pin p (List.mem_append_right _ (List.mem_append_left _ hp))
theorem ps_for{iter:Expr}{body:List Stmt}{wi:TI}{g:TG}{tb:TS}{pos:Pos}(hp:PassesOwn (model X.prog X.w) X.A X.env X.xe)(hc:X.calm=true)(hi:PI X tg iter wi)(hg:PG X tg g)(hb:PSs X body tb)
 (hs:∀x,foldedSetIterable iter X.env x=pure x:=by intro _;rfl):PS X (.For tg iter body [] pos) (tFor wi g tb):=by
 intro pins s σ H D I h;refine wpAny_For (thn (hi pins s σ H _ I h) fun v s1 h1=>thn h1 fun itv s2 h2=>?_) hs;obtain ⟨it,fp,tn,J,H2,e,I2,T,st2,f2,W,⟨m0,w0⟩,turn⟩:=h2;subst e;have stat:∀{H':Hp},(∀b∈fp,H' b=none)→∀b∈fp,FpOk X pins H' b:=fun hn b hb=>⟨hn b hb,(f2 b hb).2⟩
 refine codeAny_forLoop_any (fun n s'=>∃i σ' H',Inv X pins σ' H' s'∧tn i s'.heap∧(∀b∈fp,H' b=none)∧W i n σ' H') ?_ m0 ⟨0,σ,H2,I2,st2,fun b hb=>(f2 b hb).1,w0⟩;rintro n s3 ⟨i,σ3,H3,I3,st3,fr3,w3⟩;rcases turn i n σ3 H3 w3 with ⟨stop,qn⟩|⟨go,N,hN,step⟩
 ·refine wpAny_passesOwn hp (thn (T.done X rfl rfl rfl hc i pins s3 σ3 H3 X.xe I3 (stat fr3) st3 stop) fun r s4 ⟨hr,I4⟩=>?_);subst hr;exact wpAny_execs_nil ⟨σ3,H3,I4,qn⟩
 ·refine wpAny_passesOwn hp (thn (T.item X rfl rfl rfl hc i pins s3 σ3 H3 X.xe I3 (stat fr3) st3 go) fun r s4 ⟨u,hr,h4⟩=>?_);subst hr;refine wpAny_passesOwn hp (thn h4 fun _ s5 ⟨x,H5,I5,r5,y5,st5,fr5⟩=>?_);have I5':=I5.pinned (stat fr5) (T.obj _ _ st5);refine wpAny_passesOwn hp (thn (hg _ s5 σ3 H5 x u _ I5' r5 (step x H5 y5)) fun _ s6 ⟨σ6,H6,I6,q6⟩=>?_);refine wpAny_passesOwn hp (thn (hb _ s6 σ6 H6 _ I6 q6) fun f s7 q7=>?_);have again:∀{σ7:St} {H7:Hp},Inv X (pins++o0s fp s5.heap) σ7 H7 s7→N σ7 H7→∃m,m<n∧∃i σ' H',Inv X pins σ' H' s7∧tn i s7.heap∧(∀b∈fp,H' b=none)∧W i m σ' H':=fun {σ7 H7} I7 n7=>by
   obtain ⟨m',hm,w7⟩:=hN σ7 H7 n7;refine ⟨m',hm,i+1,σ7,H7,I7.unpinned,T.keep _ _ _ st5 fun b hb o e=>(I7.pin (b,o) (List.mem_append_right _ (List.mem_append_right _ (y0f hb e)))).1,fun b hb=>?_,w7⟩;obtain ⟨o,e,d⟩:=T.obj _ _ st5 b hb;exact (I7.pin (b,o) (List.mem_append_right _ (List.mem_append_right _ (y0f hb e)))).2.1
  cases f with
  |next=>obtain ⟨σ7,H7,I7,n7⟩:=q7;exact again I7 n7
  |cont=>obtain ⟨σ7,H7,I7,n7⟩:=q7;exact again I7 n7
  |brk=>obtain ⟨σ7,H7,I7,q7⟩:=q7;exact ⟨σ7,H7,I7.unpinned,q7⟩
  |ret v=>obtain ⟨x7,σ7,H7,I7,r7,q7⟩:=q7;exact ⟨x7,σ7,H7,I7.unpinned,r7,q7⟩
end
end L2
namespace L2
open PySem PySem.Spec PyProof.Rows
noncomputable abbrev R2:=V→V→Hp→VK→Prop
noncomputable def OpR(X:Cx)(f:Value→Value→Sem Value)(r:R2):Prop:=
 ∀(pins:List (Addr×Obj)) (s:Shared) (σ:St) (H:Hp) (x y:V) (v u:Value) (Q:VK),Inv X pins σ H s→RelV x v→RelV y u→r x y H Q→
  wpAny (model X.prog X.w) X.A (f v u) (EP X pins σ Q) X.xe s
noncomputable def UnR(X:Cx)(f:Value→Sem Value)(r:V→Hp→VK→Prop):Prop:=
 ∀(pins:List (Addr×Obj)) (s:Shared) (σ:St) (H:Hp) (x:V) (v:Value) (Q:VK),Inv X pins σ H s→RelV x v→r x H Q→
  wpAny (model X.prog X.w) X.A (f v) (EP X pins σ Q) X.xe s
noncomputable def x0e(X:Cx)(f:Value)(r:List V→Hp→VK→Prop):Prop:=
 ∀(pins:List (Addr×Obj)) (s:Shared) (σ:St) (H:Hp) (xs:List V) (us:List Value) (Q:VK),Inv X pins σ H s→Vals xs us→r xs H Q→
  wpAny (model X.prog X.w) X.A (call f us) (EP X pins σ Q) X.xe s
noncomputable def tOp(r:R2)(ta tb:TE):TE:=fun σ H Q=>ta σ H fun x H1=>tb σ H1 fun y H2=>r x y H2 Q
noncomputable def tUn(r:V→Hp→VK→Prop)(ta:TE):TE:=fun σ H Q=>ta σ H fun x H1=>r x H1 Q
noncomputable def rI(C:Int→Int→Prop)(g:Int→Int→V):R2:=fun x y H Q=>∃i j,x=.int i∧y=.int j∧C i j∧Q (g i j) H
noncomputable def rI0(g:Int→Int→V):R2:=fun x y H Q=>∃i j,x=.int i∧y=.int j∧Q (g i j) H
noncomputable def rU(g:Int→V):V→Hp→VK→Prop:=fun x H Q=>∃i,x=.int i∧Q (g i) H
section
variable{X:Cx}{a b c:Expr}{ta tb tc:TE}{pos:Pos}
theorem binT(ha:PE X a ta)(hb:PE X b tb){pins:List (Addr×Obj)}{s:Shared}{σ:St}{H:Hp}{R:V→V→Hp→Prop}(I:Inv X pins σ H s)
 (h:ta σ H fun x H1=>tb σ H1 fun y H2=>R x y H2) {Q:Value→Shared→Prop} {f:Value→Value→Sem Value}
 (hf:∀v u s2 x y H2,Inv X pins σ H2 s2→RelV x v→RelV y u→R x y H2→wpAny (model X.prog X.w) X.A (f v u) Q X.xe s2):
 wpAny (model X.prog X.w) X.A (eval a X.env) (fun v s₁=>wpAny (model X.prog X.w) X.A (eval b X.env) (fun u s₂=>wpAny (model X.prog X.w) X.A (f v u) Q X.xe s₂) X.xe s₁) X.xe s:=by
 refine thn (ha pins s σ H _ I h) fun v s1 ⟨x,H1,I1,r1,q1⟩=>?_
 refine thn (hb pins s1 σ H1 _ I1 q1) fun u s2 ⟨y,H2,I2,r2,q2⟩=>?_
 exact hf v u s2 x y H2 I2 r1 r2 q2
theorem pe_op{op:Operator}{r:R2}(ho:OpR X (binaryOp op) r)(ha:PE X a ta)(hb:PE X b tb):PE X (.BinOp a op b pos) (tOp r ta tb):=by
 intro pins s σ H Q I h;exact wpAny_BinOp (binT ha hb I h fun v u s2 x y H2 I2 rx ry q=>ho pins s2 σ H2 x y v u Q I2 rx ry q)
theorem pe_un{op:UnaryOp}{r:V→Hp→VK→Prop}(ho:UnR X (unaryOp op) r)(ha:PE X a ta):PE X (.UnaryOp op a pos) (tUn r ta):=by
 intro pins s σ H Q I h;exact UnaryOp_ (thn (ha pins s σ H _ I h) fun v s1 ⟨x,H1,I1,r1,q1⟩=>ho pins s1 σ H1 x v Q I1 r1 q1)
theorem opI{f:Value→Value→Sem Value}{C:Int→Int→Prop}{g:Int→Int→Int}
 (rule:∀(i j:Int) (t u:Tok) (s:Shared) (Q:Value→Shared→Prop) (E:Value→Shared→Prop),C i j→Q (.int (g i j) s.toks) {s with toks:=s.toks+1}→wpAny (model X.prog X.w) X.A (f (.int i t) (.int j u)) Q E s):
 OpR X f (rI C fun i j=>.int (g i j)):=by
 intro pins s σ H x y v u Q I rx ry h;obtain ⟨i,j,rfl,rfl,hc,q⟩:=h;obtain ⟨t,rfl⟩:=rx;obtain ⟨t',rfl⟩:=ry;exact rule i j t t' s _ _ hc ⟨.int (g i j),H,I.tok _,⟨_,rfl⟩,q⟩
theorem opI0{f:Value→Value→Sem Value}{g:Int→Int→Int}
 (rule:∀(i j:Int) (t u:Tok) (s:Shared) (Q:Value→Shared→Prop) (E:Value→Shared→Prop),Q (.int (g i j) s.toks) {s with toks:=s.toks+1}→wpAny (model X.prog X.w) X.A (f (.int i t) (.int j u)) Q E s):
 OpR X f (rI0 fun i j=>.int (g i j)):=by
 intro pins s σ H x y v u Q I rx ry h;obtain ⟨i,j,rfl,rfl,q⟩:=h;obtain ⟨t,rfl⟩:=rx;obtain ⟨t',rfl⟩:=ry;exact rule i j t t' s _ _ ⟨.int (g i j),H,I.tok _,⟨_,rfl⟩,q⟩
theorem opB0{f:Value→Value→Sem Value}{g:Int→Int→Bool}
 (rule:∀(i j:Int) (t u:Tok) (s:Shared) (Q:Value→Shared→Prop) (E:Value→Shared→Prop),Q (.bool (g i j)) s→wpAny (model X.prog X.w) X.A (f (.int i t) (.int j u)) Q E s):
 OpR X f (rI0 fun i j=>.bl (g i j)):=by
 intro pins s σ H x y v u Q I rx ry h;obtain ⟨i,j,rfl,rfl,q⟩:=h;obtain ⟨t,rfl⟩:=rx;obtain ⟨t',rfl⟩:=ry;exact rule i j t t' s _ _ ⟨.bl (g i j),H,I,rfl,q⟩
noncomputable def CDiv(i j:Int):Prop:=0<j∧j<1073741824
noncomputable def CPow(i j:Int):Prop:=0≤j∧j≤1000000∧i.natAbs<2^64
noncomputable def CMul(i j:Int):Prop:=(-(2^64)<i∧i<2^64)∨(-(2^64)<j∧j<2^64)
theorem CMul.ok{i j:Int}(h:CMul i j):IntMulOk i j:=by
 rcases h with ⟨h1,h2⟩|⟨h1,h2⟩
 ·exact .of_left (intBits_le_64 h1 h2)
 ·exact .of_right (intBits_le_64 h1 h2)
theorem op_add:OpR X (binaryOp .Add) (rI0 fun i j=>.int (i+j)):=opI0 fun _ _ _ _ _ _ _ q=>add_int q
theorem f9:OpR X (binaryOp .Sub) (rI0 fun i j=>.int (i-j)):=opI0 fun _ _ _ _ _ _ _ q=>sub_int q
theorem t0y:OpR X (binaryOp .Mult) (rI CMul fun i j=>.int (i*j)):=opI fun _ _ _ _ _ _ _ hc q=>mul_int q hc.ok
theorem m0o:OpR X (binaryOp .FloorDiv) (rI CDiv fun i j=>.int (i/j)):=opI fun i j _ _ _ _ _ hc q=>by
 have h1:(0:Int)<j:=hc.1;have h2:j<1073741824:=hc.2;exact floordiv_int (by omega) (by rw[Int.fdiv_eq_ediv_of_nonneg i (by omega)];exact q) (.inl (PyProof.noPylong_small (by omega)))
theorem r0e:OpR X (binaryOp .Mod) (rI (fun _ j=>0<j) fun i j=>.int (i%j)):=opI fun i j _ _ _ _ _ hc q=>by
 have h1:(0:Int)<j:=hc;exact mod_int' (by omega) (by rw[Int.fmod_eq_emod_of_nonneg i (by omega)];exact q)
theorem a0w:OpR X (binaryOp .Pow) (rI CPow fun i j=>.int (i^j.toNat)):=opI fun _ _ _ _ _ _ _ hc q=>pow_int_small hc.1 hc.2.1 hc.2.2 q
theorem unI{f:Value→Sem Value}{g:Int→Int}
 (rule:∀(i:Int) (t:Tok) (s:Shared) (Q:Value→Shared→Prop) (E:Value→Shared→Prop),Q (.int (g i) s.toks) {s with toks:=s.toks+1}→wpAny (model X.prog X.w) X.A (f (.int i t)) Q E s):
 UnR X f (rU fun i=>.int (g i)):=by
 intro pins s σ H x v Q I rx h;obtain ⟨i,rfl,q⟩:=h;obtain ⟨t,rfl⟩:=rx;exact rule i t s _ _ ⟨.int (g i),H,I.tok _,⟨_,rfl⟩,q⟩
theorem un_neg:UnR X (unaryOp .USub) (rU fun i=>.int (-i)):=unI fun _ _ _ _ _ q=>neg_int q
end
noncomputable def scal:V→V→Bool
 | .non,.non=>true | .non,.int _=>true | .int _,.non=>true | .non,.bl _=>true | .bl _,.non=>true | .non,.str _=>true | .str _,.non=>true
 | .int _,.int _=>true | .bl _,.bl _=>true | .str _,.str _=>true | .byt _,.byt _=>true
 | .int _,.str _=>true | .str _,.int _=>true | .bl _,.str _=>true | .str _,.bl _=>true
 |_,_=>false
noncomputable def rEq:R2:=fun x y H Q=>scal x y=true∧Q (.bl (decide (x=y))) H
noncomputable def rNe:R2:=fun x y H Q=>scal x y=true∧Q (.bl (!decide (x=y))) H
theorem h0w{i j:Int}:decide (V.int i=V.int j)=(i==j):=by
 rw[Bool.eq_iff_iff];simp
theorem a0v{i j:Bool}:decide (V.bl i=V.bl j)=(i==j):=by
 rw[Bool.eq_iff_iff];simp
theorem h0v{i j:Str}:decide (V.str i=V.str j)=(i==j):=by
 rw[Bool.eq_iff_iff];simp
theorem h0u{i j:Array UInt8}:decide (V.byt i=V.byt j)=(i.toList==j.toList):=by
 rw[Bool.eq_iff_iff];cases i;cases j;simp
section
variable{X:Cx}{a b c:Expr}{ta tb tc:TE}{pos:Pos}
theorem j5{pins:List (Addr×Obj)}{σ:St}{H:Hp}{s:Shared}{Q:VK}{k k':Bool}(I:Inv X pins σ H s)(q:Q (.bl k) H)(e:k=k'):EP X pins σ Q (.bool k') s:=by
 subst e;exact ⟨.bl k,H,I,rfl,q⟩
theorem o0r:OpR X (compareOp .Eq) rEq:=by
 intro pins s σ H x y v u Q I rx ry h;obtain ⟨hs,q⟩:=h;cases x with
 |non=>
  cases rx;cases y with
  |non=>cases ry;exact PySem.EqNone.eq_none_none (j5 I q (by simp))
  |bl j=>cases ry;exact PySem.EqNone.eq_none_bool (j5 I q (by simp))
  |int j=>obtain ⟨t',rfl⟩:=ry;exact PySem.EqNone.eq_none_int (j5 I q (by simp))
  |str j=>obtain ⟨t',rfl⟩:=ry;exact PySem.EqNone.eq_none_str (j5 I q (by simp))
  |_=>exact absurd (show false=true from hs) Bool.false_ne_true
 |bl i=>
  cases rx;cases y with
  |non=>cases ry;exact PySem.EqNone.eq_bool_none (j5 I q (by simp))
  |bl j=>cases ry;exact eq_bool (j5 I q a0v)
  |str j=>obtain ⟨t',rfl⟩:=ry;exact PySem.EqMixed.eq_bool_str (j5 I q (by simp))
  |_=>exact absurd (show false=true from hs) Bool.false_ne_true
 |int i=>
  obtain ⟨t,rfl⟩:=rx;cases y with
  |non=>cases ry;exact PySem.EqNone.eq_int_none (j5 I q (by simp))
  |int j=>obtain ⟨t',rfl⟩:=ry;exact eq_int (j5 I q h0w)
  |str j=>obtain ⟨t',rfl⟩:=ry;exact PySem.EqMixed.eq_int_str (j5 I q (by simp))
  |_=>exact absurd (show false=true from hs) Bool.false_ne_true
 |str i=>
  obtain ⟨t,rfl⟩:=rx;cases y with
  |non=>cases ry;exact PySem.EqNone.eq_str_none (j5 I q (by simp))
  |bl j=>cases ry;exact PySem.EqMixed.eq_str_bool (j5 I q (by simp))
  |int j=>obtain ⟨t',rfl⟩:=ry;exact PySem.EqMixed.eq_str_int (j5 I q (by simp))
  |str j=>obtain ⟨t',rfl⟩:=ry;exact eq_str (j5 I q h0v)
  |_=>exact absurd (show false=true from hs) Bool.false_ne_true
 |byt i=>
  obtain ⟨t,rfl⟩:=rx;cases y with
  |byt j=>obtain ⟨t',rfl⟩:=ry;exact PySem.W.eq_bytes (j5 I q h0u)
  |_=>exact absurd (show false=true from hs) Bool.false_ne_true
 |_=>cases y<;>exact absurd (show false=true from hs) Bool.false_ne_true
theorem h0t:OpR X (compareOp .NotEq) rNe:=by
 intro pins s σ H x y v u Q I rx ry h;obtain ⟨hs,q⟩:=h;cases x with
 |non=>
  cases rx;cases y with
  |non=>cases ry;exact PySem.EqNone.ne_none_none (j5 I q (by simp))
  |bl j=>cases ry;exact PySem.EqNone.ne_none_bool (j5 I q (by simp))
  |int j=>obtain ⟨t',rfl⟩:=ry;exact PySem.EqNone.ne_none_int (j5 I q (by simp))
  |str j=>obtain ⟨t',rfl⟩:=ry;exact PySem.EqNone.ne_none_str (j5 I q (by simp))
  |_=>exact absurd (show false=true from hs) Bool.false_ne_true
 |bl i=>
  cases rx;cases y with
  |non=>cases ry;exact PySem.EqNone.ne_bool_none (j5 I q (by simp))
  |bl j=>cases ry;exact ne_bool (j5 I q (congrArg not a0v))
  |str j=>obtain ⟨t',rfl⟩:=ry;exact PySem.EqMixed.ne_bool_str (j5 I q (by simp))
  |_=>exact absurd (show false=true from hs) Bool.false_ne_true
 |int i=>
  obtain ⟨t,rfl⟩:=rx;cases y with
  |non=>cases ry;exact PySem.EqNone.ne_int_none (j5 I q (by simp))
  |int j=>obtain ⟨t',rfl⟩:=ry;exact ne_int (j5 I q (congrArg not h0w))
  |str j=>obtain ⟨t',rfl⟩:=ry;exact PySem.EqMixed.ne_int_str (j5 I q (by simp))
  |_=>exact absurd (show false=true from hs) Bool.false_ne_true
 |str i=>
  obtain ⟨t,rfl⟩:=rx;cases y with
  |non=>cases ry;exact PySem.EqNone.ne_str_none (j5 I q (by simp))
  |bl j=>cases ry;exact PySem.EqMixed.ne_str_bool (j5 I q (by simp))
  |int j=>obtain ⟨t',rfl⟩:=ry;exact PySem.EqMixed.ne_str_int (j5 I q (by simp))
  |str j=>obtain ⟨t',rfl⟩:=ry;exact ne_str (j5 I q (congrArg not h0v))
  |_=>exact absurd (show false=true from hs) Bool.false_ne_true
 |byt i=>
  obtain ⟨t,rfl⟩:=rx;cases y with
  |byt j=>obtain ⟨t',rfl⟩:=ry;exact PySem.W.ne_bytes (j5 I q (congrArg not h0u))
  |_=>exact absurd (show false=true from hs) Bool.false_ne_true
 |_=>cases y<;>exact absurd (show false=true from hs) Bool.false_ne_true
theorem z1j:OpR X (compareOp .Lt) (rI0 fun i j=>.bl (decide (i<j))):=opB0 fun _ _ _ _ _ _ _ q=>lt_int q
theorem e0d:OpR X (compareOp .LtE) (rI0 fun i j=>.bl (decide (i≤j))):=opB0 fun _ _ _ _ _ _ _ q=>le_int q
theorem m0n:OpR X (compareOp .Gt) (rI0 fun i j=>.bl (decide (j<i))):=opB0 fun _ _ _ _ _ _ _ q=>gt_int q
theorem op_ge:OpR X (compareOp .GtE) (rI0 fun i j=>.bl (decide (j≤i))):=opB0 fun _ _ _ _ _ _ _ q=>ge_int q
theorem z0e:OpR X (compareOp .Is) (fun x y H Q=>y=.non∧Q (.bl (decide (x=.non))) H):=by
 intro pins s σ H x y v u Q I rx ry h;obtain ⟨rfl,q⟩:=h;cases ry;refine is_none_gen (j5 I q ?_);cases x<;>first
  |(cases rx;rfl)
  |(obtain ⟨t,rfl⟩:=rx;rfl)
theorem y4(b:Expr){op:CmpOp}(h:op≠.In:=by decide)(h2:op≠.NotIn:=by decide):behindInMarks op b=false:=by
 have e1:(op==CmpOp.In)=false:=by cases op<;>first |rfl |exact absurd rfl h
 have e2:(op==CmpOp.NotIn)=false:=by cases op<;>first |rfl |exact absurd rfl h2
 cases b<;>simp[behindInMarks,e1,e2]
theorem z1i{op:CmpOp}{r:R2}(ho:OpR X (compareOp op) r)(ha:PE X a ta)(hb:PE X b tb)(hm:behindInMarks op b=false):PE X (.Compare a [op] [b] pos) (tOp r ta tb):=by
 intro pins s σ H Q I h;exact wpAny_Compare1 (binT ha hb I h fun v u s2 x y H2 I2 rx ry q=>ho pins s2 σ H2 x y v u Q I2 rx ry q) hm
noncomputable def tTest(t:TE):TT:=fun σ H Q=>t σ H fun x H'=>∃k,x=.bl k∧Q k H'
theorem z1h{op:CmpOp}{r:R2}(ho:OpR X (compareOp op) r)(ha:PE X a ta)(hb:PE X b tb)(hm:behindInMarks op b=false):PT X (.Compare a [op] [b] pos) (tTest (tOp r ta tb)):=by
 intro pins s σ H Q I h;refine wpAny_isTrue_Compare1 (thn (ha pins s σ H _ I h) fun v s1 ⟨x,H1,I1,r1,q1⟩=>thn (hb pins s1 σ H1 _ I1 q1) fun u s2 ⟨y,H2,I2,r2,q2⟩=>
  thn (ho pins s2 σ H2 x y v u _ I2 r1 r2 q2) fun c s3 ⟨z,H3,I3,r3,k,e,q3⟩=>?_) hm
 subst e;cases r3;exact wpAny_truthy_bool ⟨H3,I3,q3⟩
noncomputable def h0s(r r':R2)(ta tb tc:TE):TE:=fun σ H Q=>ta σ H fun x H1=>tb σ H1 fun y H2=>r x y H2 fun z H3=>∃k,z=.bl k∧
 (if k=true then tc σ H3 fun w' H4=>r' y w' H4 Q else Q (.bl false) H3)
theorem e0c{op op':CmpOp}{r r':R2}(ho:OpR X (compareOp op) r)(ho':OpR X (compareOp op') r')(ha:PE X a ta)(hb:PE X b tb)(hc:PE X c tc)
 (hm:lastMarks [op,op'] [b,c]=false:=by with_unfolding_all rfl):PE X (.Compare a [op,op'] [b,c] pos) (h0s r r' ta tb tc):=by
 intro pins s σ H Q I h;refine Compare_chain (thn (ha pins s σ H _ I h) fun v s1 ⟨x,H1,I1,r1,q1⟩=>chain_link (thn (hb pins s1 σ H1 _ I1 q1) fun u s2 ⟨y,H2,I2,r2,q2⟩=>
  thn (ho pins s2 σ H2 x y v u _ I2 r1 r2 q2) fun d s3 ⟨z,H3,I3,r3,k,e,q3⟩=>?_)) hm
 subst e;cases r3;refine wpAny_truthy_bool ?_;cases k with
 |false=>exact ite_ff ⟨.bl false,H3,I3,rfl,q3⟩
 |true=>exact ite_tt (chain_last (thn (hc pins s3 σ H3 _ I3 q3) fun w' s4 ⟨z',H4,I4,r4,q4⟩=>ho' pins s4 σ H4 y z' u w' Q I4 r2 r4 q4))
theorem e0b{op op':CmpOp}{r r':R2}(ho:OpR X (compareOp op) r)(ho':OpR X (compareOp op') r')(ha:PE X a ta)(hb:PE X b tb)(hc:PE X c tc)
 (hm:lastMarks [op,op'] [b,c]=false:=by with_unfolding_all rfl):PT X (.Compare a [op,op'] [b,c] pos) (tTest (h0s r r' ta tb tc)):=by
 intro pins s σ H Q I h;refine isTrue_chain (thn (ha pins s σ H _ I h) fun v s1 ⟨x,H1,I1,r1,q1⟩=>test_link (thn (hb pins s1 σ H1 _ I1 q1) fun u s2 ⟨y,H2,I2,r2,q2⟩=>
  thn (ho pins s2 σ H2 x y v u _ I2 r1 r2 q2) fun d s3 ⟨z,H3,I3,r3,k,e,q3⟩=>?_)) hm
 subst e;cases r3;refine wpAny_truthy_bool ?_;cases k with
 |false=>
  obtain ⟨k',e',q'⟩:=q3;cases e';exact ite_ff ⟨H3,I3,q'⟩
 |true=>
  refine ite_tt (test_last (thn (hc pins s3 σ H3 _ I3 q3) fun w' s4 ⟨z',H4,I4,r4,q4⟩=>thn (ho' pins s4 σ H4 y z' u w' _ I4 r2 r4 q4) fun d' s5 ⟨z2,H5,I5,r5,k2,e2,q5⟩=>?_));subst e2;cases r5;exact wpAny_truthy_bool ⟨H5,I5,q5⟩
theorem r0d:(sizeLine:Nat)<2^63:=by rw[sizeLine_eq];decide
theorem y0:OpR X (binaryOp .Add) (fun x y H Q=>∃i j,x=.str i∧y=.str j∧i.length+j.length≤sizeLine∧Q (.str (i++j)) H):=by
 intro pins s σ H x y v u Q I rx ry h;obtain ⟨i,j,rfl,rfl,hz,q⟩:=h;obtain ⟨t,rfl⟩:=rx;obtain ⟨t',rfl⟩:=ry;exact add_str (fun t' tk=>⟨.str (i++j),H,I.tok _,⟨_,rfl⟩,q⟩) hz
theorem q0f{x:V}{us:List Value}(r:Vals [x] us):∃u,us=[u]∧RelV x u:=by
 cases r with
 |cons r1 r2=>cases r2;exact ⟨_,rfl,r1⟩
theorem vals2{x y:V}{us:List Value}(r:Vals [x,y] us):∃u w',us=[u,w']∧RelV x u∧RelV y w':=by
 cases r with
 |cons r1 r2=>
  cases r2 with
  |cons r3 r4=>cases r4;exact ⟨_,_,rfl,r1,r3⟩
theorem e0a:x0e X (.builtin "abs") (fun xs H Q=>∃i,xs=[.int i]∧Q (.int (if i<0 then -i else i)) H):=by
 intro pins s σ H xs us Q I r h;obtain ⟨i,rfl,q⟩:=h;obtain ⟨u,rfl,t,rfl⟩:=q0f r;exact call_abs_int fun u tk=>⟨.int (if i<0 then -i else i),H,I.tok _,⟨_,rfl⟩,q⟩
theorem h0r(hc:X.calm=true):x0e X (.builtin "max") (fun xs H Q=>∃i j,xs=[.int i,.int j]∧Q (.int (if j>i then j else i)) H):=by
 intro pins s σ H xs us Q I r h;obtain ⟨i,j,rfl,q⟩:=h;obtain ⟨u,w',rfl,⟨t,rfl⟩,⟨t',rfl⟩⟩:=vals2 r;refine max_two_ints (I.ok.hd hc) fun h' tk k=>⟨_,H,I.kept k,?_,q⟩
 by_cases hj:j>i
 ·rw[if_pos hj,if_pos hj];exact ⟨_,rfl⟩
 ·rw[if_neg hj,if_neg hj];exact ⟨_,rfl⟩
theorem h0q:x0e X (.type "int") (fun xs H Q=>(∃i,xs=[.int i]∧Q (.int i) H)∨∃k,xs=[.bl k]∧Q (.int (if k then 1 else 0)) H):=by
 intro pins s σ H xs us Q I r h;rcases h with ⟨i,rfl,q⟩|⟨k,rfl,q⟩
 ·obtain ⟨u,rfl,t,rfl⟩:=q0f r;exact call_int_int ⟨.int i,H,I,⟨_,rfl⟩,q⟩
 ·obtain ⟨u,rfl,r1⟩:=q0f r;cases r1;exact call_int_bool ⟨.int (if k then 1 else 0),H,I.tok _,⟨_,rfl⟩,q⟩
theorem z5:x0e X (.type "str") (fun xs H Q=>∃i,xs=[.int i]∧i.natAbs.log2<1920∧Q (.str (toString i)) H):=by
 intro pins s σ H xs us Q I r h;obtain ⟨i,rfl,hz,q⟩:=h;obtain ⟨u,rfl,t,rfl⟩:=q0f r;exact PySem.P.str_of_int hz ⟨.str _,H,I.tok _,⟨_,rfl⟩,q⟩
end
end L2
namespace L2
open PySem PySem.Spec PyProof.Rows
structure ObjM(h:Heap)(x dx C:Addr)(mA:Str→Option Value):Prop where
 obj:h.get? x=some (PySem.W.instObj C dx)
 ns:h.Ns1 dx mA
 ne:dx≠x
theorem s0z{h:Heap}{dx:Addr}{mA:Str→Option Value}(n:h.Ns1 dx mA):∃od,h.get? dx=some od∧∀name,PySem.W.lookIn name od=some (mA name):=by
 obtain ⟨o,es,ep,ho,hd,hk,_,hm⟩:=n;refine ⟨o,ho,fun name=>?_⟩;have e:=hm name;unfold nsFind findBy at e;rw[←Array.find?_toList]at e;unfold PySem.W.lookIn;rw[hd];dsimp only;split
 ·rename_i y q;rw[q]at e;exact congrArg some e
 ·rename_i q;rw[q]at e;have a:es.toList.any (·.refKey)=false:=by
   rw[List.any_eq_false];intro y hy;obtain ⟨z,t,hkey⟩:=hk y (Array.mem_toList_iff.mp hy);simp[DictEntry.refKey,hkey]
  have a':¬es.toList.any (·.refKey)=true:=by rw[a];exact Bool.false_ne_true
  rw[if_neg a'];exact congrArg some e
theorem ObjM.look{h:Heap}{x dx C:Addr}{mA:Str→Option Value}(I:ObjM h x dx C mA):∃od,PySem.W.InstAt h x (PySem.W.instObj C dx) C (some od)∧∀name,PySem.W.lookIn name od=some (mA name):=
 let ⟨od,ho,hl⟩:=s0z I.ns
 ⟨od,⟨I.obj,rfl,rfl,ho⟩,hl⟩
section
variable{prog:Program}{w:World}{A:Around}{E:Value→Shared→Prop}{s:Shared}{K:PySem.W.Frag}{x dx C f:Addr}{mA:Str→Option Value}{name:Str}{v:Value}
end
noncomputable def putF(f:Str)(v:V):List (Str×V)→List (Str×V)
 | []=>[(f,v)]
 |(g,x)::r=>if g=f then (g,v)::r else (g,x)::putF f v r
theorem s0y(f g:Str)(v:V):∀fs:List (Str×V),(putF f v fs).lookup g=if g=f then some v else fs.lookup g
 | []=>by
  show List.lookup g [(f,v)]=_;by_cases h:g=f
  ·have hb:(g==f)=true:=beq_iff_eq.mpr h;simp only[List.lookup,hb,if_pos h]
  ·have hb:(g==f)=false:=beq_eq_false_iff_ne.mpr h;simp only[List.lookup,hb,if_neg h]
 |(k,x)::r=>by
  have ih:=s0y f g v r;rw[show putF f v ((k,x)::r)=(if k=f then (k,v)::r else (k,x)::putF f v r)from rfl];by_cases hk:k=f
  ·rw[if_pos hk];by_cases h:g=k
   ·have hb:(g==k)=true:=beq_iff_eq.mpr h;simp only[List.lookup,hb,if_pos (h.trans hk)]
   ·have hb:(g==k)=false:=beq_eq_false_iff_ne.mpr h;simp only[List.lookup,hb,if_neg (fun e:g=f=>h (e.trans hk.symm))]
  ·rw[if_neg hk];by_cases h:g=k
   ·have hb:(g==k)=true:=beq_iff_eq.mpr h;simp only[List.lookup,hb,if_neg (fun e:g=f=>hk (h.symm.trans e))]
   ·have hb:(g==k)=false:=beq_eq_false_iff_ne.mpr h;simp only[List.lookup,hb];exact ih
theorem RelO.some_of{v:V}{o:Option Value}(r:RelO (some v) o):∃u,o=some u∧RelV v u:=by
 cases o with
 |none=>exact (show False from r).elim
 |some u=>exact ⟨u,rfl,r⟩
theorem h0p{v:V}{u:Value}(r:RelV v u):PySem.W.handedIn u=true:=by
 cases v with
 |non=>cases (show u=Value.none from r);rfl
 |bl b=>cases (show u=Value.bool b from r);rfl
 |int i=>obtain ⟨t,e⟩:=(show ∃t,u=Value.int i t from r);cases e;rfl
 |str x=>obtain ⟨t,e⟩:=(show ∃t,u=Value.str x t from r);cases e;rfl
 |byt b=>obtain ⟨t,e⟩:=(show ∃t,u=Value.bytes b t from r);cases e;rfl
 |flt b=>obtain ⟨t,e⟩:=(show ∃t,u=Value.float b t from r);cases e;rfl
 |ref a=>cases (show u=Value.ref a from r);rfl
 |ty n=>cases (show u=Value.type n from r);rfl
section
variable{P:Program}{w:World}{H H':Hp}{h h':Heap}{a C dx:Addr}{fs fs':List (Str×V)}
theorem z1g(hok:HOk P w H h)(e:H a=some (.ins C dx fs)):∃mA,ObjM h a dx C mA∧(∀f,RelO (fs.lookup f) (mA f))∧PySem.Within mA (fs.map (·.1))∧fs.length≤1000∧H dx=some (.own a):=by
 obtain ⟨d,z,ne,ob,mA,n,r,q⟩:=(show ObjOk P w H h a (.ins C dx fs)from hok a _ e);exact ⟨mA,⟨ob,n,ne⟩,r,q,z,d⟩
end
structure Cls(K:PySem.W.Frag)(C:Addr):Prop where
 pg:PySem.W.plainGet K C Str.empty=true
 hd:PySem.W.hasDictIn K C=true
 po:PySem.W.plainOver K C=true
 sa:PySem.W.findIn K (.ref C) "__setattr__"=some (some (.builtin "object.__setattr__"))
theorem Cls.get{K:PySem.W.Frag}{C:Addr}(c:Cls K C)(f:Str):PySem.W.plainGet K C f=true:=c.pg
noncomputable def NoAttr(K:PySem.W.Frag)(C:Addr)(f:Str):Prop:=PySem.W.findIn K (.ref C) f=some none
theorem NoAttr.taker{K:PySem.W.Frag}{C:Addr}{f:Str}(n:NoAttr K C f):PySem.W.takerIn K C f=some none:=by
 unfold PySem.W.takerIn;rw[show PySem.W.findIn K (.ref C) f=some none from n];rfl
structure Con(K:PySem.W.Frag)(C:Addr)(f:Str)(v:V)(u:Value):Prop where
 at_:PySem.W.findIn K (.ref C) f=some (some u)
 rel:RelV v u
 get:PySem.W.specialIn K u "__get__"=some none
 cp:PySem.W.copiedNames.contains f=false
structure Meth(K:PySem.W.Frag)(C:Addr)(m:Str)(f:Addr):Prop where
 at_:PySem.W.findIn K (.ref C) m=some (some (.ref f))
 fn:PySem.W.isFn K (.ref f)=true
 kp:PySem.W.keepIn K (.ref f)=true
section
variable{X:Cx}{pins:List (Addr×Obj)}{σ:St}{H:Hp}{s:Shared}{a C dx:Addr}{fs:List (Str×V)}{f:Str}{v:V}{A:Around}{E:Value→Shared→Prop}
theorem z1f{prog:Program}{w:World}{env:Env}{e:Expr}{f:Str}{pos:Pos}{s:Shared}{Q:Value→Shared→Prop}(hb:attributeBase e f env (eval e env)=eval e env)
 (h:wpAny (model prog w) A (eval e env) (fun o s₁=>wpAny (model prog w) A (getAttr o f true) Q E s₁) E s):wpAny (model prog w) A (eval (.Attribute e f pos) env) Q E s:=
 Attribute_any_ h (by rw[arm_eval_Attribute,hb])
end
section
variable{X:Cx}{o e value:Expr}{f:Str}{pos pos' tpos:Pos}{ta tv:TE}
end
section
variable{X:Cx}{pins:List (Addr×Obj)}{σ:St}{H:Hp}{s:Shared}{A:Around}{E:Value→Shared→Prop}{Q:Value→Shared→Prop}{c:Value}{b:Bool}
inductive TyOf(K:PySem.W.Frag)(H:Hp):V→Value→Prop where
 |non:TyOf K H .non (.type "NoneType")
 |bl (x:Bool):TyOf K H (.bl x) (.type "bool")
 |int (i:Int):TyOf K H (.int i) (.type "int")
 |str (x:Str):TyOf K H (.str x) (.type "str")
 |flt (x:UInt64):TyOf K H (.flt x) (.type "float")
 |lst {a:Addr} {xs:List V} (e:H a=some (.lst xs)):TyOf K H (.ref a) (.type "list")
 |frz {a:Addr} {o:Obj} {xs:List V} (e:H a=some (.frz o (.lst xs))):TyOf K H (.ref a) (.type "list")
 |tup {a:Addr} {xs:List V} (e:H a=some (.tup xs)):TyOf K H (.ref a) (.type "tuple")
 |dK {a:Addr} {kvs:List (Key×V)} (e:H a=some (.dK kvs)):TyOf K H (.ref a) (.type "dict")
 |dT {a:Addr} {kvs:List (List Key×V)} (e:H a=some (.dT kvs)):TyOf K H (.ref a) (.type "dict")
 |ins {a C dx:Addr} {fs:List (Str×V)} (e:H a=some (.ins C dx fs)) (cl:Cls K C) (ha:PySem.W.findIn K (.ref C) "__class__"=some (some (.builtin "object.__class__")))
  (hn:PySem.W.specialIn K (.builtin "object.__class__") "__get__"=some (some (.builtin "getset_descriptor.__get__"))) (htk:PySem.W.takesIn K (.builtin "object.__class__")=some true)
  (hm:PySem.W.mroIn K C (.type "object")=some true):TyOf K H (.ref a) (.ref C)
end
end L2
namespace L2
open PySem PySem.Spec PyProof.Rows
structure Room(k:Nat)(A:Around):Prop where
 hd:A.handled=none
 dp:A.depth+3*k+5<recursionLimit
 un:A.units+16*k+200<cLine
theorem Room.mono{j k:Nat}{A:Around}(r:Room k A)(h:j≤k):Room j A:=⟨r.hd,by have:=r.dp;omega,by have:=r.un;omega⟩
theorem Room.deeper{k:Nat}{A:Around}(r:Room (k+1) A)(env:Env):Room k (A.deeper env):=
 ⟨r.hd,by have:=r.dp;show A.depth+1+3*k+5<_;omega,by have:=r.un;show A.units+3+16*k+200<_;omega⟩
theorem i0y{A:Around}{C:Addr}{us:List Value}{kw:List (Str×Value)}:(A.under (.builtin "type.__call__" ⟨.ref C::us,kw⟩)).depth=A.depth+1:=by
 first |rfl |simp[Around.under,Code.weight,Code.isCreation,Code.isGuard,Code.isCaller,Code.frames,Code.isFrame,guardIds]
theorem i0x{A:Around}{C:Addr}{us:List Value}{kw:List (Str×Value)}:(A.under (.builtin "type.__call__" ⟨.ref C::us,kw⟩)).units=A.units+1:=by
 first |rfl |simp[Around.under,Code.cUnits,Code.frames,Code.isFrame]
theorem Room.make{k:Nat}{A:Around}(r:Room (k+1) A)(C:Addr)(us:List Value)(kw:List (Str×Value)):Room k (A.under (.builtin "type.__call__" ⟨.ref C::us,kw⟩)):=
 ⟨r.hd,by have:=r.dp;rw[i0y];omega,by have:=r.un;rw[i0x];omega⟩
theorem Room.depth{k:Nat}{A:Around}(r:Room k A):A.depth<recursionLimit:=by have:=r.dp;omega
theorem Room.units0{k:Nat}{A:Around}(r:Room k A):A.units<cLine:=by have:=r.un;omega
noncomputable def tNil:TA:=fun _ H Q=>Q [] H
noncomputable def tCons(ta:TE)(tr:TA):TA:=fun σ H Q=>ta σ H fun x H1=>tr σ H1 fun xs H2=>Q (x::xs) H2
section
variable{X:Cx}{e:Expr}{es:List Expr}{te:TE}{t:TA}{pos:Pos}
theorem a0u:PA X [] tNil:=fun _ _ _ _ H Q I h=>Calls.spliced_nil ⟨[],H,I,.nil,h⟩
theorem h0o(ha:PE X e te)(hr:PA X es t)(hs:starEach (e::es) X.env=(false,eval e X.env)::starEach es X.env:=by rfl):PA X (e::es) (tCons te t):=by
 intro pos pins s σ H Q I h;rw[hs];show wpAny _ _ (spliced ((false,eval e X.env)::backTo pos (starEach es X.env))) _ _ s;refine Calls.spliced_cons (thn (ha pins s σ H _ I h) fun u s1 ⟨x,H1,I1,r1,q1⟩=>?_);exact thn (hr pos pins s1 σ H1 _ I1 q1) fun us s2 ⟨xs,H2,I2,r2,q2⟩=>⟨x::xs,H2,I2,.cons r1 r2,q2⟩
noncomputable def tTup(t:TA):TE:=fun σ H Q=>t σ H fun xs H1=>xs.length≤sizeLine∧∀p,H1 p=none→Q (.ref p) (upd H1 p (.tup xs))
noncomputable def tLst(t:TA):TE:=fun σ H Q=>t σ H fun xs H1=>xs.length≤sizeLine∧∀p,H1 p=none→Q (.ref p) (upd H1 p (.lst xs))
theorem pe_tup{x1}(h:PA X es t):PE X (.Tuple es x1 pos) (tTup t):=by
 intro pins s σ H Q I hq;refine wpAny_Tuple_spliced (thn (h pos pins s σ H _ I hq) fun us s1 ⟨xs,H1,I1,r,z,q⟩=>⟨by rw[←r.length];exact z,?_⟩);have hf:H1 s1.heap.objs.size=none:=I1.hok.fresh (Nat.le_refl _);refine ⟨.ref s1.heap.objs.size,upd H1 s1.heap.objs.size (.tup xs),I1.laid (t':=s1.toks) (fun b u e=>Heap.get?_push_of_some _ e) (Nat.le_refl _) ?_,rfl,q _ hf⟩;exact ⟨z,us,r,⟨_,Heap.get?_push_size _ rfl,rfl,⟨_,rfl⟩,rfl⟩⟩
theorem h0n(h:PA X es t):PE X (.List es pos) (tLst t):=by
 intro pins s σ H Q I hq;refine wpAny_List_spliced (thn (h pos pins s σ H _ I hq) fun us s1 ⟨xs,H1,I1,r,z,q⟩=>⟨by rw[←r.length];exact z,?_⟩);have hf:H1 s1.heap.objs.size=none:=I1.hok.fresh (Nat.le_refl _);refine ⟨.ref s1.heap.objs.size,upd H1 s1.heap.objs.size (.lst xs),I1.laid (t':=s1.toks) (fun b u e=>Heap.get?_push_of_some _ e) (Nat.le_refl _) ?_,rfl,q _ hf⟩;exact ⟨z,us,0,r,Heap.get?_push_size _ rfl⟩
end
noncomputable abbrev Sp:=List V→Hp→VK→XK→Prop
noncomputable abbrev CXT:=List Env→Hp→Shared→XK→Value→Shared→Prop
structure Env0(P:Program)(w:World)(K:PySem.W.Frag)(mg:Str→Option Value)(base:Heap)(A:Around)(outer:List Env)(s:Shared)(H:Hp):Prop where
 frames:A.frames=some outer
 mod:Mod K mg base
 bs:∀b o,base.get? b=some o→s.heap.get? b=some o∧H b=none
 bsz:base.objs.size≤s.heap.objs.size
 funs:s.heap.FunFrames base outer
 frf:∀b∈frs outer,H b=none
 hok:HOk P w H s.heap
 bare:AllBare s.gens
noncomputable def CE(outer:List Env)(P:Program)(w:World)(H:Hp)(s:Shared)(Q:VK)(u:Value)(s':Shared):Prop:=
 ∃v H',s'.os=s.os∧AllBare s'.gens∧Un (frs outer) [] H H' s.heap s'.heap∧HOk P w H' s'.heap∧RelV v u∧Q v H'
noncomputable def CR(CX:CXT)(outer:List Env)(P:Program)(w:World)(H:Hp)(s:Shared)(Q:VK)(E:XK)(r:Result)(s':Shared):Prop:=
 match r with
 | .ok (.ret u)=>CE outer P w H s Q u s'
 | .ok _=>False
 | .error e=>CX outer H s E e s'
structure FnOk(P:Program)(w:World)(K:PySem.W.Frag)(mg:Str→Option Value)(base:Heap)(CX:CXT)(k:Nat)(f:Addr)(fd:FuncData)(ps:List Str)(sp:Sp):Prop where
 len:∀vs H Q E,sp vs H Q E→vs.length=ps.length
 run:∀(A:Around) (outer:List Env) (s:Shared) (H:Hp) (args:Args) (us:List Value) (vs:List V) (Q:VK) (E:XK),Room k A→Env0 P w K mg base A outer s H→BindsTo s fd args (ps.zip us)→Vals vs us→sp vs H Q E→
  codeAny (model P w) A (.call (.ref f) args) (CR CX outer P w H s Q E) s
theorem Env0.make{P:Program}{w:World}{K:PySem.W.Frag}{mg:Str→Option Value}{base:Heap}{A:Around}{outer:List Env}{s:Shared}{H:Hp}(e:Env0 P w K mg base A outer s H)(C:Addr)(us:List Value)(kw:List (Str×Value)):
 Env0 P w K mg base (A.under (.builtin "type.__call__" ⟨.ref C::us,kw⟩)) outer s H:=⟨by first |exact e.frames |(simpa[Around.under,Code.envs,Code.isFrame,pushEnvs]using e.frames),e.mod,e.bs,e.bsz,e.funs,e.frf,e.hok,e.bare⟩
section
variable{X:Cx}{pins:List (Addr×Obj)}{σ:St}{H:Hp}{s s':Shared}
theorem Inv.env0(I:Inv X pins σ H s):Env0 X.prog X.w X.K X.mg X.base X.A X.stack s H:=
 ⟨I.ok.frames,I.ok.mod,I.bs,Nat.le_trans I.ok.bsz I.sz,I.stack,I.stkFree,I.hok,I.bare⟩
theorem Inv.after{Q:VK}{u:Value}(I:Inv X pins σ H s)(h:CE X.stack X.prog X.w H s Q u s'):EP X pins σ Q u s':=by
 obtain ⟨v,H',os,bare,un,hok,r,q⟩:=h;obtain ⟨hh,g,d,t,os'⟩:=s';obtain rfl:os'=s.os:=os;exact ⟨v,H',I.call (h':=hh) (g':=g) (d':=d) (t':=t) (ch:=[]) un hok bare (fun b z=>absurd z (by simp)),r,q⟩
end
noncomputable def Binds(K:PySem.W.Frag)(fd:FuncData)(ps:List Str)(ds:List Value):Prop:=
 ∀(s:Shared) (us:List Value),K.In s.heap→(us++ds).length=ps.length→BindsTo s fd ⟨us,[]⟩ (ps.zip (us++ds))
theorem Binds.all{K:PySem.W.Frag}{fd:FuncData}{ps:List Str}(h:∀us:List Value,us.length=ps.length→bindArgs fd ⟨us,[]⟩=pure (ps.zip us)):Binds K fd ps []:=fun s us _ hl=>by
 rw[List.append_nil]at hl ⊢;exact .of_eq (h us hl)
noncomputable def a0t(CX:CXT)(X:Cx)(E:XK):Prop:=∀(pins:List (Addr×Obj)) (σ:St) (H:Hp) (s:Shared) (e:Value) (s':Shared),Inv X pins σ H s→CX X.stack H s E e s'→X.xe e s'
section
variable{X:Cx}{CX:CXT}{k:Nat}{f C:Addr}{fd:FuncData}{ps:List Str}{sp:Sp}{dvs:List V}{ds:List Value}{E:XK}{x m:Str}{p pos apos:Pos}{e o:Expr}{es:List Expr}{ta:TE}{t:TA}
structure Mk(K:PySem.W.Frag)(C f:Addr):Prop where
 makes:PySem.W.makesIn K C=true
 init:PySem.W.findIn K (.ref C) "__init__"=some (some (.ref f))
 fn:PySem.W.isFn K (.ref f)=true
 kp:PySem.W.keepIn K (.ref C)=true
end
section
variable{X:Cx}{CX:CXT}{k:Nat}{f C:Addr}{fd:FuncData}{ps ks:List Str}{sp:Sp}{E:XK}{x m:Str}{p pos apos kpos:Pos}{e o:Expr}{es:List Expr}{kws:List Keyword}{te ta:TE}{t tk:TA}{nm:Option Str}
structure KBinds(K:PySem.W.Frag)(fd:FuncData)(ps ks:List Str)(g:List Value→List Value→List Value)(gV:List V→List V→List V):Prop where
 to:∀(s:Shared) (us ws:List Value),K.In s.heap→(g us ws).length=ps.length→BindsTo s fd ⟨us,ks.zip ws⟩ (ps.zip (g us ws))
 rel:∀{vs:List V} {us:List Value} {zs:List V} {ws:List Value},Vals vs us→Vals zs ws→Vals (gV vs zs) (g us ws)
variable{g:List Value→List Value→List Value}{gV:List V→List V→List V}
end
structure FnScope(N P:List Str)(sc:Scope):Prop where
 kind:sc.kind=.function
 co:sc.isCoroutine=false
 gen:sc.isGenerator=false
 nd:N.Nodup
 pre:N.take P.length=P
 par:∀x∈P,sc.names.lookup x=some .local∨sc.names.lookup x=some .cell
 nofree:∀y∈sc.names,y.2≠.free
theorem o0q{kindOf:Str→Option NameKind}{x:Str}:∀{binds:List (Str×Value)} {m:Str→Option Value},(∀v,(x,v)∉binds)→bindL kindOf binds m x=m x
 | [],_,_=>rfl
 |(n,v)::r,m,h=>by
  unfold bindL;rw[o0q fun w hw=>h w (List.mem_cons_of_mem _ hw)];split
  ·have:x≠n:=by rintro rfl;exact h v List.mem_cons_self
   simp[this]
  ·rfl
theorem o0p{kindOf:Str→Option NameKind}{x:Str}:∀{binds:List (Str×Value)} {m:Str→Option Value},(∀v,(x,v)∉binds)→bindC kindOf binds m x=m x
 | [],_,_=>rfl
 |(n,v)::r,m,h=>by
  unfold bindC;rw[o0p fun w hw=>h w (List.mem_cons_of_mem _ hw)];split
  ·rfl
  ·have:x≠n:=by rintro rfl;exact h v List.mem_cons_self
   simp[this]
theorem o0o{kindOf:Str→Option NameKind}{x:Str}{v:Value}:∀{P:List Str} {vs:List Value} {i:Nat} {m:Str→Option Value},P.Nodup→P[i]?=some x→vs[i]?=some v→kindOf x=some .local→
 bindL kindOf (P.zip vs) m x=some v
 | [],_,_,_,_,h,_,_=>by simp at h
 |_::_,[],_,_,_,_,h,_=>by simp at h
 |p::P,w::vs,0,m,nd,h1,h2,hk=>by
  simp at h1 h2;subst h1;subst h2;show bindL kindOf ((p,w)::P.zip vs) m p=_;unfold bindL;rw[o0q fun v hv=>(List.nodup_cons.mp nd).1 (List.of_mem_zip hv).1,if_pos hk];simp
 |p::P,w::vs,i+1,m,nd,h1,h2,hk=>by
  show bindL kindOf ((p,w)::P.zip vs) m x=_;unfold bindL;exact o0o (i:=i) (List.nodup_cons.mp nd).2 (by simpa using h1) (by simpa using h2) hk
theorem o0n{kindOf:Str→Option NameKind}{x:Str}{v:Value}:∀{P:List Str} {vs:List Value} {i:Nat} {m:Str→Option Value},P.Nodup→P[i]?=some x→vs[i]?=some v→kindOf x≠some .local→
 bindC kindOf (P.zip vs) m x=some v
 | [],_,_,_,_,h,_,_=>by simp at h
 |_::_,[],_,_,_,_,h,_=>by simp at h
 |p::P,w::vs,0,m,nd,h1,h2,hk=>by
  simp at h1 h2;subst h1;subst h2;show bindC kindOf ((p,w)::P.zip vs) m p=_;unfold bindC;rw[o0p fun v hv=>(List.nodup_cons.mp nd).1 (List.of_mem_zip hv).1,if_neg hk];simp
 |p::P,w::vs,i+1,m,nd,h1,h2,hk=>by
  show bindC kindOf ((p,w)::P.zip vs) m x=_;unfold bindC;exact o0n (i:=i) (List.nodup_cons.mp nd).2 (by simpa using h1) (by simpa using h2) hk
noncomputable def start(N:List Str)(vs:List V):St:=vs.map some++List.replicate (N.length-vs.length) none
noncomputable def cxOf(CX:CXT)(P:Program)(w:World)(K:PySem.W.Frag)(mg:Str→Option Value)(base:Heap)(N:List Str)(qual:Str)(scope:Scope)(f:Addr)(cd:Value)(A:Around)(outer:List Env)(s:Shared)(H:Hp)(E:XK):Cx where
 prog:=P
 w:=w
 K:=K
 mg:=mg
 base:=base
 A:=A.deeper (envOfC qual scope s.heap.objs.size f cd)
 N:=N
 s₀:=s
 H₀:=H
 env:=envOfC qual scope s.heap.objs.size f cd
 outer:=outer
 stack:=envOfC qual scope s.heap.objs.size f cd::outer
 ex:=[]
 calm:=true
 fn:=fun _=>true
 pn:=[]
 xe:=fun e s'=>wpAny (model P w) (A.deeper (envOfC qual scope s.heap.objs.size f cd)) (leaving (envOfC qual scope s.heap.objs.size f cd) e) (fun _ s''=>CX outer H s E e s'') (fun e' s''=>CX outer H s E e' s'') s'
theorem k0p{sc:Scope}{n:Nat}{x:Str}(h:sc.names.lookup x=some .cell):∃c,(cellsFrom n sc.names []).lookup x=some c:=by
 have q:=PySem.W.cellsFrom_some sc.names n [] (.inl h);exact Option.isSome_iff_exists.mp q
theorem h0m{CX:CXT}{P:Program}{w:World}{K:PySem.W.Frag}{mg:Str→Option Value}{base:Heap}{N ps:List Str}{qual:Str}{scope:Scope}{f:Addr}{cd:Value}{A:Around}{outer:List Env}{s s1:Shared}{H:Hp}{E:XK}{us:List Value}{vs:List V}
 (S:FnScope N ps scope) (hd:A.handled=none) (e0:Env0 P w K mg base A outer s H) (hl:vs.length=ps.length) (r:Vals vs us)
 (x:InCallC s s.heap.objs.size (bindL (envOfC qual scope s.heap.objs.size f cd).kindOf (ps.zip us) fun _=>none) (cellsFrom (s.heap.objs.size+1) scope.names []) (bindC (envOfC qual scope s.heap.objs.size f cd).kindOf (ps.zip us) fun _=>none) s1):
 Inv (cxOf CX P w K mg base N qual scope f cd A outer s H E) [] (start N vs) H s1:=by
 have hpl:ps.length≤N.length:=by have:=congrArg List.length S.pre;rw[List.length_take]at this;omega
 obtain ⟨h1,tk,rfl,hk⟩:=x.done;have noA:∀b:Addr,b∉(cxOf CX P w K mg base N qual scope f cd A outer s H E).ex:=fun b z=>absurd (show b∈([]:List Addr)from z) (by simp)
 refine ⟨⟨e0.mod,S.kind,rfl,rfl,Nat.le_refl _,fun y z c h1 h2=>?_,fun y hy=>?_,fun y c _ h=>?_,fun _=>hd,Around.frames_deeper e0.frames,.inr ⟨rfl,rfl⟩,fun b z=>absurd z (noA b),e0.bs,e0.bsz,fun b _ _=>noA b,fun b z=>absurd z (noA b),e0.funs,e0.frf⟩,
  rfl,e0.bare,Un.kept hk,⟨_,x.toInCall.ns,fun i y v h1 h2 h3=>?_⟩,fun y c h=>⟨_,x.cell y c h⟩,e0.hok.fresh (Nat.le_refl _),fun y c h=>?_,fun p hp=>absurd (show p∈([]:List (Addr×Obj))from hp) (by simp),e0.hok.kept hk,?_⟩
 ·exact name_of_addr x.apart (PySem.mem_of_lookup h1) (PySem.mem_of_lookup h2)
 ·have hy:scope.names.lookup y=some .cell∨scope.names.lookup y=some .free:=hy;rcases hy with hy |hy
  ·exact k0p hy
  ·exact absurd rfl (S.nofree _ (PySem.mem_of_lookup hy))
 ·exact Nat.le_of_lt (x.above y c (PySem.mem_of_lookup h))
 ·have hi:i<vs.length:=by
   unfold start at h2;by_cases hi:i<vs.length
   ·exact hi
   ·rw[List.getElem?_append_right (by simpa using hi)]at h2;rw[List.getElem?_replicate]at h2;split at h2<;>cases h2
  have ha:vs[i]?=some v:=by
   unfold start at h2;rw[List.getElem?_append_left (by simpa using hi),List.getElem?_map]at h2;cases e:vs[i]? with
   |none=>rw[e]at h2;cases h2
   |some a=>rw[e]at h2;cases h2;rfl
  obtain ⟨u,hu,rv⟩:=r.get ha;have hp:ps[i]?=some y:=by
   rw[←S.pre,List.getElem?_take_of_lt (by omega)];exact h1
  have ndP:ps.Nodup:=by rw[←S.pre];exact S.nd.sublist (List.take_sublist _ _)
  refine ⟨u,rv,?_⟩;rcases S.par y (List.mem_of_getElem? hp)with k |k
  ·exact .inl ⟨k,o0o ndP hp hu k⟩
  ·obtain ⟨c,e⟩:=k0p (n:=s.heap.objs.size+1) k;refine .inr ⟨.inl k,c,e,?_⟩;have q:=x.cell y c e;rw[o0n ndP hp hu (by show scope.names.lookup y≠_;rw[k];decide)]at q;exact q
 ·exact e0.hok.fresh (Nat.le_of_lt (x.above y c (PySem.mem_of_lookup h)))
 ·unfold start;show _=N.length;rw[List.length_append,List.length_map,List.length_replicate];omega
theorem fn_of{CX:CXT}{P:Program}{w:World}{K:PySem.W.Frag}{mg:Str→Option Value}{base:Heap}{k:Nat}{f:Addr}{name qual:Str}{params:Arguments}{body:List Stmt}{scope:Scope}{dV kV doc pm cdv ct oc:Value}{an od:Option Addr}
 {osl:Array (Option Value)} {N ps:List Str} {sp:Sp} (lk:K.lookup f=some ⟨oc,od,.func (PySem.W.fnOf name qual params body scope dV kV doc pm an cdv ct),osl⟩) (hcd:PySem.W.codeIn K cdv qual=true) (S:FnScope N ps scope)
 (len:∀vs H Q E,sp vs H Q E→vs.length=ps.length)
 (hbody:∀(A:Around) (outer:List Env) (s:Shared) (H:Hp) (vs:List V) (Q:VK) (E:XK),Room k (A.deeper (envOfC qual scope s.heap.objs.size f cdv))→sp vs H Q E→
  ∃t,PSs (cxOf CX P w K mg base N qual scope f cdv A outer s H E) body t∧t {nx:=fun _ H'=>Q .non H',rt:=Q} (start N vs) H):
 FnOk P w K mg base CX (k+1) f (PySem.W.fnOf name qual params body scope dV kV doc pm an cdv ct) ps sp:=by
 refine ⟨len,fun A outer s H args us vs Q E hr e0 hb r hsp=>?_⟩;have hl:=len _ _ _ _ hsp;have KX:K.In s.heap:=e0.mod.kin.keeps fun b o e=>(e0.bs b o e).1
 have lim:s.heap.NoLimit:=e0.mod.nolimit.keeps fun b o e=>(e0.bs b o e).1
 have hkind:∀y∈ps.zip us,scope.names.lookup y.1=some .local∨(scope.names.lookup y.1=some .cell∧((cellsFrom (s.heap.objs.size+1) scope.names []).lookup y.1).isSome=true):=fun ⟨n,v⟩ hy=>by
  rcases S.par n (List.of_mem_zip hy).1 with q |q
  ·exact .inl q
  ·exact .inr ⟨q,PySem.W.cellsFrom_some _ _ _ (.inl q)⟩
 refine codeAny_call_function hr.depth (KX _ _ lk) rfl S.co S.gen rfl (PySem.W.codeRec_of KX hcd) (hb _ _ _ _ ?_);refine wpAny_newFunctionEnv_cells S.kind hkind fun env he s1 x=>?_
 subst he;refine ⟨lim.keeps x.toInCall.keep,codeAny_func ?_⟩;obtain ⟨t,ht,hq⟩:=hbody A outer s H vs Q E (hr.deeper _) hsp;have I:Inv (cxOf CX P w K mg base N qual scope f cdv A outer s H E) [] (start N vs) H s1:=h0m S hr.hd e0 hl r x;refine wpAny_mono (ht [] s1 (start N vs) H _ I hq) (fun fl s' hs=>?_) fun e s' hs=>hs
 have fin:∀{σ':St} {H':Hp} {v:V} {u:Value},Inv (cxOf CX P w K mg base N qual scope f cdv A outer s H E) [] σ' H' s'→RelV v u→Q v H'→CE outer P w H s Q u s':=
  fun {σ' H' v u} J rv q=>⟨v,H',J.os,J.bare,J.base,J.hok,rv,q⟩
 cases fl with
 |ret u=>
  obtain ⟨v,σ',H',J,rv,q⟩:=hs;exact fin J rv q
 |next=>
  obtain ⟨σ',H',J,q⟩:=hs;exact fin (v:=V.non) (u:=Value.none) J rfl q
 |brk=>
  obtain ⟨_,_,_,q⟩:=hs;exact False.elim q
 |cont=>
  obtain ⟨_,_,_,q⟩:=hs;exact False.elim q
end L2
namespace L2
open PySem PySem.Spec PyProof.Rows
section
variable{X:Cx}{x:Str}{p pos:Pos}{e:Expr}{es:List Expr}{t:TA}{id T:String}{r:List V→Hp→VK→Prop}
noncomputable def tCB(r:List V→Hp→VK→Prop)(t:TA):TE:=fun σ H Q=>t σ H fun vs H1=>r vs H1 Q
theorem k0o(hc:x0e X (.builtin id) r)(hg:Gl X x)(hm:X.mg x=none)(hv:bootBuiltins x=some (.builtin id))(ha:PA X (e::es) t)(hn:x≠"__name__":=by decide)(hdb:(x==("__debug__":Str))=false:=by decide)
 (he:starEach (e::es) X.env=(false,eval e X.env)::starEach es X.env:=by rfl) (hpl:(backTo pos (starEach es X.env)).any (·.1)=false:=by rfl):PE X (.Call (.Name x p) (e::es) [] pos) (tCB r t):=by
 intro pins s σ H Q I h;refine wpAny_Call_Name_kw (t0z I hg hm hv ?_ hn hdb);exact PyProof.Rows.callWith_builtin1 (thn (ha pos pins s σ H _ I h) fun us s1 ⟨vs,H1,I1,r1,q1⟩=>hc pins s1 σ H1 vs us Q I1 r1 q1) he hpl
theorem o0m(hc:x0e X (.type T) r)(hg:Gl X x)(hm:X.mg x=none)(hv:bootBuiltins x=some (.type T))(ha:PA X (e::es) t)(hn:x≠"__name__":=by decide)(hdb:(x==("__debug__":Str))=false:=by decide)
 (he:starEach (e::es) X.env=(false,eval e X.env)::starEach es X.env:=by rfl) (hpl:(backTo pos (starEach es X.env)).any (·.1)=false:=by rfl):PE X (.Call (.Name x p) (e::es) [] pos) (tCB r t):=by
 intro pins s σ H Q I h;refine wpAny_Call_Name_kw (t0z I hg hm hv ?_ hn hdb);exact PyProof.Rows.callWith_type1 (thn (ha pos pins s σ H _ I h) fun us s1 ⟨vs,H1,I1,r1,q1⟩=>hc pins s1 σ H1 vs us Q I1 r1 q1) he hpl
end
end L2
namespace HT
open PySem PyProof.Rows
section
open PySem.SeqAt
open PySem.AutoSeq1 (wpAny_loadPart')
open PySem.MeetsSeq PySem.MeetsSeq2 PySem.MeetsSeq3
end
section
variable{prog:Program}{w:World}{A:Around}{E:Value→Shared→Prop}{s:Shared}
theorem cat_tup{t b:Addr}{vs ws:List Value}{Q:Value→Shared→Prop}(ht:IsTup s.heap t vs.toArray)(hb:IsTup s.heap b ws.toArray)(hv:vs≠[])
 (h1:ws=[]→Q (.ref t) s) (h2:ws≠[]→Q (.ref s.heap.objs.size) {s with heap:=s.heap.push {cls:=.type "tuple",data:=.seq (vs++ws).toArray}})
 (hsz:vs.length+ws.length≤sizeLine):wpAny (model prog w) A (binaryOp .Add (.ref t) (.ref b)) Q E s:=by
 obtain ⟨⟨cls,dd,data,sl⟩,ho,hc,n,hd⟩:=id ht;obtain ⟨⟨cls2,dd2,data2,sl2⟩,ho2,hc2,n2,hd2⟩:=id hb;simp only at hc hd hc2 hd2;subst hc hd hc2 hd2;have e:vs.toArray++ws.toArray=(vs++ws).toArray:=by simp
 by_cases hw:ws=[]
 ·exact concat_meets ⟨_,ho,rfl⟩ ⟨_,ho2,rfl⟩ noFill_tuple_add seq_tuple_add PySem.F.slot_tuple_add PySem.F.entry_tuple_add (PySem.F.args_tuple_add_2 _ _)
   (tuple_addW1 t b vs.toArray ws.toArray n n2 dd dd2 sl sl2 (by simpa using hv) (by simp[hw])) ⟨ho,ho2,h1 hw⟩
 ·refine concat_meets ⟨_,ho,rfl⟩ ⟨_,ho2,rfl⟩ noFill_tuple_add seq_tuple_add PySem.F.slot_tuple_add PySem.F.entry_tuple_add (PySem.F.args_tuple_add_2 _ _)
   (tuple_addW2 t b vs.toArray ws.toArray n n2 dd dd2 sl sl2 (by simpa using hv) (by simpa using hw) (by rw[List.size_toArray,List.size_toArray];exact hsz)) ⟨ho,ho2,?_⟩
  rw[e];exact h2 hw
noncomputable def sIx(n d:Nat):Option Int→Nat
 |none=>d
 |some v=>if v<0 then (v+(n:Int)).toNat else min v.toNat n
theorem sIx_none(n d:Nat):sIx n d none=d:=rfl
theorem sIx_nat(n d k:Nat):sIx n d (some (k:Int))=min k n:=by
 show (if (k:Int)<0 then ((k:Int)+(n:Int)).toNat else min (k:Int).toNat n)=min k n;rw[if_neg (by omega),Int.toNat_natCast]
theorem sIx_le(n d:Nat)(hd:d≤n)(o:Option Int):sIx n d o≤n:=by
 cases o with
 |none=>exact hd
 |some v=>
  show (if v<0 then (v+(n:Int)).toNat else min v.toNat n)≤n;by_cases hv:v<0
  ·rw[if_pos hv];omega
  ·rw[if_neg hv];exact Nat.min_le_right _ _
theorem h0l(v:Int)(n d:Nat):(if v<0 then max (v+(n:Int)) 0 else min v (n:Int))=((sIx n d (some v):Nat):Int):=by
 show (if v<0 then max (v+(n:Int)) 0 else min v (n:Int))=(((if v<0 then (v+(n:Int)).toNat else min v.toNat n):Nat):Int);by_cases hv:v<0
 ·simp only[if_pos hv];omega
 ·simp only[if_neg hv];omega
theorem i0w(lo hi:Option Int)(n:Nat):Builtin.Slice.sliceAdjust lo hi 1 (n:Int)=(((sIx n 0 lo:Nat):Int),((sIx n n hi:Nat):Int)):=by
 have h1:¬((1:Int)<0):=by omega
 unfold Builtin.Slice.sliceAdjust;simp only[h1,if_false];refine Prod.ext ?_ ?_
 ·cases lo with
  |none=>rfl
  |some v=>exact h0l v n 0
 ·cases hi with
  |none=>rfl
  |some v=>exact h0l v n n
theorem i0v(i j:Nat):Builtin.Slice.slicePlaces (i:Int) (j:Int) 1=j-i:=by
 unfold Builtin.Slice.slicePlaces;have h1:(1:Int)>0:=by omega
 simp only[h1,if_true,Int.ediv_one];split<;>omega
theorem r0c{v:Value}{o:Option Int}{Q:Option Int→Shared→Prop}(p:IsPart v o)(h:Q o s):wpAny (model prog w) A (Builtin.Slice.slicePartIndex v) Q E s:=by
 cases p with
 |none=>exact slicePart_none h
 |int i t=>exact slicePart_int h
theorem t0t{sl:Addr}{vl vu:Value}{lo hi:Option Int}{n:Nat}{Q:Int×Int×Nat→Shared→Prop}(hs:s.heap.IsSliceOf sl vl vu .none)(pl:IsPart vl lo)(pu:IsPart vu hi)
 (h:Q (((sIx n 0 lo:Nat):Int),1,sIx n n hi-sIx n 0 lo) s):wpAny (model prog w) A (Builtin.Slice.sliceApplied (.ref sl) (pure (n:Int))) Q E s:=by
 obtain ⟨os,hos,hcs,hds⟩:=id hs;unfold Builtin.Slice.sliceApplied Builtin.Slice.sliceFields;refine wpAny_bind (wpAny_bind (wpAny_field hos hds (x:=vl) rfl (wpAny_bind (wpAny_field hos hds (x:=vu) rfl (wpAny_bind (wpAny_field hos hds (x:=.none) rfl (wpAny_pure ?_)))))));refine wpAny_bind (slicePart_none ?_);show wpAny _ _ (if ((1:Int)==0)=true then _ else _) _ _ s;rw[if_neg (by decide)];refine wpAny_bind (r0c pl (wpAny_bind (r0c pu (wpAny_bind (wpAny_pure ?_)))));show wpAny _ _ (match Builtin.Slice.sliceAdjust lo hi 1 (n:Int)with |(lo,hi)=>pure (lo,(1:Int),Builtin.Slice.slicePlaces lo hi 1)) _ _ s;rw[i0w lo hi n];show wpAny _ _ (pure (((sIx n 0 lo:Nat):Int),(1:Int),Builtin.Slice.slicePlaces ((sIx n 0 lo:Nat):Int) ((sIx n n hi:Nat):Int) 1)) _ _ s;rw[i0v];exact wpAny_pure h
theorem d0z(xs:Array Value)(i k:Nat):((List.range k).filterMap fun (m:Nat)=>xs[((i:Int)+(m:Int)*1).toNat]?).toArray=((xs.toList.drop i).take k).toArray:=by
 have e:(fun (m:Nat)=>xs[((i:Int)+(m:Int)*1).toNat]?)=fun m=>xs[i+m]?:=by
  funext m;have:((i:Int)+(m:Int)*1).toNat=i+m:=by omega
  rw[this]
 rw[e];have:=pick_run xs i k;rw[List.filterMap_map]at this;have e2:((fun x=>xs[x]?)∘fun x=>i+x)=fun m=>xs[i+m]?:=rfl
 rw[e2]at this;rw[this]
theorem getItem_tuple_cut{t sl:Addr}{items:Array Value}{vl vu:Value}{lo hi:Option Int}{Q:Value→Shared→Prop}(ht:IsTup s.heap t items)(hs:s.heap.IsSliceOf sl vl vu .none)(pl:IsPart vl lo)(pu:IsPart vu hi)
 (hw:¬(sIx items.size 0 lo=0∧sIx items.size items.size hi=items.size))
 (h:Q (.ref s.heap.objs.size) {s with heap:=s.heap.push {cls:=.type "tuple",data:=.seq ((items.toList.drop (sIx items.size 0 lo)).take (sIx items.size items.size hi-sIx items.size 0 lo)).toArray}})
 (hsz:items.size≤sizeLine):wpAny (model prog w) A (getItem (.ref t) (.ref sl)) Q E s:=by
 have htake:sizeOk (.seq ((items.toList.drop (sIx items.size 0 lo)).take (sIx items.size items.size hi-sIx items.size 0 lo)).toArray):=by
  show ((items.toList.drop (sIx items.size 0 lo)).take (sIx items.size items.size hi-sIx items.size 0 lo)).toArray.size≤sizeLine;rw[List.size_toArray,List.length_take,List.length_drop,Array.length_toList];omega
 have hj:sIx items.size items.size hi≤items.size:=sIx_le _ _ (Nat.le_refl _) hi;obtain ⟨os,hos,hcs,hds⟩:=id hs;have hTs:s.TypeIs (.ref sl) "slice":=⟨os,hos,hcs⟩;unfold getItem
 try with_reducible refine wpAny_holding ?_
 first |refine wpAny_bind (wpAny_pure ?_)|skip
 refine wpAny_bind (wpAny_sequenceKey ht.typeIs (by decide) ?_);refine wpAny_bind (wpAny_callSpecial?_slot (name:=Str.ofString "__getitem__") ht.typeIs PyProof.Rows.slot_tuple_getitem
  (wpAny_call_entry PyProof.Rows.slot_tuple_getitem ht.typeIs entry_tuple_getitem ?_ (args_tuple_getitem _ _)))
 show wpAny _ _ (Builtin.Tuple.tupleItemsOf (.ref t) >>= _) _ _ s;refine wpAny_bind (tupleItemsOf_ ht ?_);refine wpAny_bind (wpAny_typeOf hTs ?_);rw[if_pos (by decide)];refine wpAny_bind (t0t hs pl pu ?_);have hno:¬((((sIx items.size 0 lo:Nat):Int)==0&&(1:Int)==1&&(sIx items.size items.size hi-sIx items.size 0 lo)==items.size)=true):=by
  intro q;rw[Bool.and_eq_true,Bool.and_eq_true]at q;have q1:((sIx items.size 0 lo:Nat):Int)=0:=eq_of_beq q.1.1;have q2:sIx items.size items.size hi-sIx items.size 0 lo=items.size:=eq_of_beq q.2;exact hw ⟨by omega,by omega⟩
 show wpAny _ _ (if (((sIx items.size 0 lo:Nat):Int)==0&&(1:Int)==1&&(sIx items.size items.size hi-sIx items.size 0 lo)==items.size)=true then _ else _) _ _ s;rw[if_neg hno,d0z]
 first
  |exact wpAny_bind (m:=Builtin.Tuple.tupleExact _) (wpAny_newObj_type (wpAny_pure ⟨_,rfl,wpAny_pure h⟩) htake)
  |exact wpAny_bind (m:=Builtin.Tuple.tupleExact _) (wpAny_newObj_type (wpAny_bind (wpAny_pure (wpAny_pure ⟨_,rfl,wpAny_pure h⟩))) htake)
  |exact wpAny_bind (wpAny_bind (m:=Builtin.Tuple.tupleExact _) (wpAny_newObj_type (wpAny_pure (wpAny_pure ⟨_,rfl,wpAny_pure h⟩)) htake))
  |exact wpAny_bind (wpAny_bind (m:=Builtin.Tuple.tupleExact _) (wpAny_newObj_type (wpAny_pure ⟨_,rfl,wpAny_pure h⟩) htake))
end
end HT
namespace L2
open PySem PySem.Spec PyProof.Rows
noncomputable abbrev TO:=St→Hp→(Option Int→Hp→Prop)→Prop
noncomputable def PO(X:Cx)(e:Option Expr)(t:TO):Prop:=
 ∀(pins:List (Addr×Obj)) (s:Shared) (σ:St) (H:Hp) (Q:Option Int→Hp→Prop),Inv X pins σ H s→t σ H Q→
  wpAny (model X.prog X.w) X.A (evalPart e X.env) (fun u s'=>∃o H',Inv X pins σ H' s'∧IsPart u o∧Q o H') X.xe s
noncomputable def z1e:TO:=fun _ H Q=>Q none H
noncomputable def tPart(t:TE):TO:=fun σ H Q=>t σ H fun x H1=>∃i,x=.int i∧Q (some i) H1
section
variable{X:Cx}{e:Expr}{te:TE}{lo hi:Option Expr}{tl th:TO}{pos p2:Pos}
theorem z1d:PO X none z1e:=by
 intro pins s σ H Q I h;rw[evalPart_none];exact wpAny_pure ⟨none,H,I,.none,h⟩
theorem z1c(h:PE X e te):PO X (some e) (tPart te):=by
 intro pins s σ H Q I hw;rw[evalPart_some];refine thn (h pins s σ H _ I hw) fun u s1 ⟨x,H1,I1,r1,q1⟩=>?_
 obtain ⟨i,rfl,q⟩:=q1;obtain ⟨t,rfl⟩:=r1;exact ⟨some i,H1,I1,.int i t,q⟩
noncomputable def SlR(X:Cx)(r:V→Option Int→Option Int→Hp→VK→Prop):Prop:=
 ∀(pins:List (Addr×Obj)) (s:Shared) (σ:St) (H:Hp) (x:V) (v vl vu:Value) (lo hi:Option Int) (sl:Addr) (Q:VK),Inv X pins σ H s→RelV x v→s.heap.IsSliceOf sl vl vu .none→IsPart vl lo→IsPart vu hi→r x lo hi H Q→
  ∃T id,typeLookup (.type T) "__getitem__"=pure (some (.builtin id))∧s.TypeIs v T∧wpAny (model X.prog X.w) X.A (getItem v (.ref sl)) (EP X pins σ Q) X.xe s
theorem SlR.or{r r':V→Option Int→Option Int→Hp→VK→Prop}(h:SlR X r)(h':SlR X r'):SlR X (fun x lo hi H Q=>r x lo hi H Q∨r' x lo hi H Q):=by
 intro pins s σ H x v vl vu lo hi sl Q I rx hs pl pu q;rcases q with q |q
 ·exact h pins s σ H x v vl vu lo hi sl Q I rx hs pl pu q
 ·exact h' pins s σ H x v vl vu lo hi sl Q I rx hs pl pu q
noncomputable def tSl(r:V→Option Int→Option Int→Hp→VK→Prop)(te:TE)(tl th:TO):TE:=fun σ H Q=>te σ H fun x H1=>tl σ H1 fun l H2=>th σ H2 fun u H3=>r x l u H3 Q
theorem k0n{r:V→Option Int→Option Int→Hp→VK→Prop}(hr:SlR X r)(he:PE X e te)(hl:PO X lo tl)(hu:PO X hi th):PE X (.Subscript e (.Slice lo hi none p2) pos) (tSl r te tl th):=by
 intro pins s σ H Q I h;refine Subscript_ (thn (he pins s σ H _ I h) fun v s1 ⟨x,H1,I1,r1,q1⟩=>?_);refine wpAny_Slice (thn (hl pins s1 σ H1 _ I1 q1) fun vl s2 ⟨l,H2,I2,pl,q2⟩=>thn (hu pins s2 σ H2 _ I2 q2) fun vu s3 ⟨u,H3,I3,pu,q3⟩=>?_);rw[evalPart_none];refine wpAny_pure ?_;have I4:Inv X pins σ H3 {s3 with heap:=s3.heap.push {cls:=.type "slice",data:=.fields #[vl,vu,.none]}}:=I3.kept (t':=s3.toks) fun b ob q=>Heap.get?_push_of_some _ q
 obtain ⟨T,id,hT,ht,hg⟩:=hr pins {s3 with heap:=s3.heap.push {cls:=.type "slice",data:=.fields #[vl,vu,.none]}} σ H3 x v vl vu l u s3.heap.objs.size Q I4 r1 (Heap.IsSliceOf.new ..) pl pu q3;show wpAny (model X.prog X.w) X.A (subscriptTail e (.Slice lo hi none p2) v (.ref s3.heap.objs.size)) (EP X pins σ Q) X.xe {s3 with heap:=s3.heap.push {cls:=.type "slice",data:=.fields #[vl,vu,.none]}};exact tail_any (ops:=[.ref s3.heap.objs.size,v]) ht hT hg (by with_unfolding_all rfl)
noncomputable def cutV(xs:List V)(lo hi:Option Int):List V:=(xs.drop (HT.sIx xs.length 0 lo)).take (HT.sIx xs.length xs.length hi-HT.sIx xs.length 0 lo)
theorem s0x(xs:List V)(lo hi:Option Int):(cutV xs lo hi).length≤xs.length:=by
 unfold cutV;rw[List.length_take,List.length_drop];omega
noncomputable def rSlT(K:PySem.W.Frag):V→Option Int→Option Int→Hp→VK→Prop:=fun x lo hi H Q=>∃a xs,x=.ref a∧SqT K H a xs∧
 ¬(HT.sIx xs.length 0 lo=0∧HT.sIx xs.length xs.length hi=xs.length)∧∀p,H p=none→Q (.ref p) (upd H p (.tup (cutV xs lo hi)))
theorem sl_tup:SlR X (rSlT X.K):=by
 intro pins s σ H x v vl vu lo hi sl Q I rx hs pl pu h;obtain ⟨a,xs,rfl,hx,hw,q⟩:=h;cases rx;obtain ⟨its,r,ht,hz⟩:=I.tuple hx;have hlen:its.toArray.size=xs.length:=by rw[List.size_toArray];exact r.length.symm
 refine ⟨"tuple",_,PyProof.Rows.slot_tuple_getitem.lookup,ht.typeIs,?_⟩;refine HT.getItem_tuple_cut ht hs pl pu (by rw[hlen];exact hw) ?_ (by rw[hlen];exact hz);rw[hlen];refine ⟨.ref s.heap.objs.size,_,I.laid (t':=s.toks) (o:=.tup (cutV xs lo hi)) (fun b ob q=>Heap.get?_push_of_some _ q) (Nat.le_refl _) ?_,rfl,q _ (I.hok.fresh (Nat.le_refl _))⟩;exact ⟨Nat.le_trans (s0x xs lo hi) hz,_,(r.drop (HT.sIx xs.length 0 lo)).take (HT.sIx xs.length xs.length hi-HT.sIx xs.length 0 lo),TupD.new _ _⟩
noncomputable def rCatT(K:PySem.W.Frag):R2:=fun x y H Q=>∃a b xs ys,x=.ref a∧y=.ref b∧SqT K H a xs∧SqT K H b ys∧xs≠[]∧xs.length+ys.length≤sizeLine∧
 (ys=[]→Q (.ref a) H)∧(ys≠[]→∀p,H p=none→Q (.ref p) (upd H p (.tup (xs++ys))))
theorem Vals.nil_iff{xs:List V}{us:List Value}(r:Vals xs us):us=[]↔xs=[]:=by
 cases r with
 |nil=>simp
 |cons _ _=>simp
theorem z1b:OpR X (binaryOp .Add) (rCatT X.K):=by
 intro pins s σ H x y v u Q I rx ry h;obtain ⟨a,b,xs,ys,rfl,rfl,ha,hb,hx,hz,q1,q2⟩:=h;cases rx;cases ry;obtain ⟨its,r1,p1,_⟩:=I.tuple ha;obtain ⟨its2,r2,p2,_⟩:=I.tuple hb;refine HT.cat_tup p1 p2 (fun z=>hx (r1.nil_iff.mp z)) (fun z=>⟨.ref a,H,I,rfl,q1 (r2.nil_iff.mp z)⟩) (fun z=>?_) (by rw[←r1.length,← r2.length];exact hz);refine ⟨.ref s.heap.objs.size,_,I.laid (t':=s.toks) (o:=.tup (xs++ys)) (fun b ob q=>Heap.get?_push_of_some _ q) (Nat.le_refl _) ?_,rfl,q2 (fun w=>z (r2.nil_iff.mpr w)) _ (I.hok.fresh (Nat.le_refl _))⟩;exact ⟨by rw[List.length_append];exact hz,_,r1.append r2,TupD.new _ _⟩
end
end L2
namespace L2
open PySem PySem.Spec PyProof.Rows
noncomputable def ixN(n:Nat)(i:Int):Option Nat:=if 0≤i then (if i<n then some i.toNat else none)else if -(n:Int)≤i then some (i+n).toNat else none
noncomputable def atI{α:Type}(xs:List α)(i:Int):Option α:=(ixN xs.length i).bind fun j=>xs[j]?
theorem h0k{n:Nat}{i:Int}{j:Nat}(h:ixN n i=some j):seqIndex? i n=some j∧j<n∧-(n:Int)≤i∧i<n:=by
 unfold ixN at h;by_cases h0:0≤i
 ·rw[if_pos h0]at h;by_cases h1:i<n
  ·rw[if_pos h1]at h;have e:i.toNat=j:=Option.some.inj h;exact ⟨by rw[seqIndex_of h0 h1,e],by omega,by omega,h1⟩
  ·rw[if_neg h1]at h;cases h
 ·rw[if_neg h0]at h;by_cases h1:-(n:Int)≤i
  ·rw[if_pos h1]at h;have e:(i+n).toNat=j:=Option.some.inj h;exact ⟨by rw[seqIndex_neg (by omega) h1,e],by omega,h1,by omega⟩
  ·rw[if_neg h1]at h;cases h
theorem m0m{α:Type}{xs:List α}{i:Int}{v:α}(h:atI xs i=some v):∃j,seqIndex? i xs.length=some j∧xs[j]?=some v∧j<xs.length∧-(xs.length:Int)≤i∧i<xs.length:=by
 unfold atI at h;cases e:ixN xs.length i with
 |none=>rw[e]at h;cases h
 |some j=>
  rw[e]at h;obtain ⟨h1,h2,h3,h4⟩:=h0k e;exact ⟨j,h1,h,h2,h3,h4⟩
theorem z0c{α:Type}{xs:List α}{j:Nat}{v:α}(h:xs[j]?=some v):atI xs (j:Int)=some v:=by
 have hj:j<xs.length:=(List.getElem?_eq_some_iff.mp h).1;have e:ixN xs.length (j:Int)=some j:=by
  unfold ixN;rw[if_pos (by omega),if_pos (by omega)];simp
 unfold atI;rw[e];exact h
noncomputable def m0l(b:Expr):Prop:=∀o i,subscripted b false o i=operate [o,i] (getItem o i)
noncomputable def IxR(X:Cx)(r:R2):Prop:=
 ∀(value slice:Expr) (pins:List (Addr×Obj)) (s:Shared) (σ:St) (H:Hp) (x y:V) (v u:Value) (Q:VK),Inv X pins σ H s→RelV x v→RelV y u→r x y H Q→
  subscripted slice false v u=operate [v,u] (getItem v u)→wpAny (model X.prog X.w) X.A (subscriptTail value slice v u) (EP X pins σ Q) X.xe s
noncomputable def MtR(X:Cx)(id:String)(r:V→List V→Hp→VK→Prop):Prop:=
 ∀(pins:List (Addr×Obj)) (s:Shared) (σ:St) (H:Hp) (x:V) (xs:List V) (v:Value) (us:List Value) (Q:VK),Inv X pins σ H s→RelV x v→Vals xs us→r x xs H Q→
  wpAny (model X.prog X.w) X.A (call (.builtin id) (v::us)) (EP X pins σ Q) X.xe s
section
variable{X:Cx}{a b:Expr}{ta tb:TE}{pos:Pos}
theorem IxR.or{r r':R2}(h:IxR X r)(h':IxR X r'):IxR X (fun x y H Q=>r x y H Q∨r' x y H Q):=by
 intro value slice pins s σ H x y v u Q I rx ry q hs;rcases q with q |q
 ·exact h value slice pins s σ H x y v u Q I rx ry q hs
 ·exact h' value slice pins s σ H x y v u Q I rx ry q hs
theorem pe_ix{r:R2}(hr:IxR X r)(ha:PE X a ta)(hb:PE X b tb)(hs:m0l b):PE X (.Subscript a b pos) (tOp r ta tb):=by
 intro pins s σ H Q I h;exact Subscript_ (binT ha hb I h fun v u s2 x y H2 I2 rx ry q=>hr a b pins s2 σ H2 x y v u Q I2 rx ry q (hs _ _))
noncomputable def rIxL(K:PySem.W.Frag):R2:=fun x y H Q=>∃p xs i v,x=.ref p∧y=.int i∧SqL K H p xs∧atI xs i=some v∧Q v H
noncomputable def rIxT(K:PySem.W.Frag):R2:=fun x y H Q=>∃p xs i v,x=.ref p∧y=.int i∧SqT K H p xs∧atI xs i=some v∧Q v H
noncomputable def rIxS:R2:=fun x y H Q=>∃z i c,x=.str z∧y=.int i∧z.length≤sizeLine∧atI z.cps.toList i=some c∧Q (.str ⟨#[c]⟩) H
theorem ix_list:IxR X (rIxL X.K):=by
 intro value slice pins s σ H x y v u Q I rx ry h hs;obtain ⟨p,xs,i,z,rfl,rfl,hq,he,q⟩:=h;cases rx;obtain ⟨t,rfl⟩:=ry;obtain ⟨its,r,pl,hz⟩:=I.list hq;obtain ⟨j,h1,h2,h3,h4,h5⟩:=m0m he;obtain ⟨w,ew,rw'⟩:=r.get h2;have hl:=r.length;have hn:=r0d;have fin:EP X pins σ Q w s:=⟨z,H,I,rw',q⟩;by_cases h0:0≤i
 ·have hj:i.toNat=j:=by
   rw[seqIndex_of h0 h5]at h1;exact Option.some.inj h1
  exact item_listR pl.isList h0 (by omega) (by rw[hj];simpa using ew) fin hs
 ·have hj:(i+(its.toArray.size:Int)).toNat=j:=by
   rw[seqIndex_neg (by omega) h4]at h1;rw[List.size_toArray,← hl];exact Option.some.inj h1
  exact subscriptTail_builtinR (x:=w) pl.isList.typeIs slot_list_getitem.lookup
   (wpAny_getItem_list_neg (Q:=fun r s'=>r=w∧EP X pins σ Q r s') pl.isList (by omega) (by rw[List.size_toArray]<;>omega) (by omega) (by rw[hj];simpa using ew) ⟨rfl,fin⟩) hs
theorem ix_tup:IxR X (rIxT X.K):=by
 intro value slice pins s σ H x y v u Q I rx ry h hs;obtain ⟨p,xs,i,z,rfl,rfl,hq,he,q⟩:=h;cases rx;obtain ⟨t,rfl⟩:=ry;obtain ⟨its,r,pl,hz⟩:=I.tuple hq;obtain ⟨j,h1,h2,h3,h4,h5⟩:=m0m he;obtain ⟨w,ew,rw'⟩:=r.get h2;have hl:=r.length;have hn:=r0d;have fin:EP X pins σ Q w s:=⟨z,H,I,rw',q⟩;exact subscriptTail_builtinR (x:=w) pl.typeIs slot_tuple_getitem.lookup
  (getItem_tuple (j:=j) (Q:=fun r s'=>r=w∧EP X pins σ Q r s') pl (by omega) (by omega) (by rw[List.size_toArray,← hl];exact h1) (by simpa using ew) ⟨rfl,fin⟩) hs
theorem k0m:IxR X rIxS:=by
 intro value slice pins s σ H x y v u Q I rx ry h hs;obtain ⟨z,i,c,rfl,rfl,hz,he,q⟩:=h;obtain ⟨t,rfl⟩:=rx;obtain ⟨t',rfl⟩:=ry;obtain ⟨j,h1,h2,h3,h4,h5⟩:=m0m he;have hl:z.cps.toList.length=z.length:=by simp[Str.length]
 rw[hl]at h1 h4 h5;have hn:=r0d;exact tail_any (typeIs_str s z t) slot_str_getitem.lookup (getItem_str (c:=c) (by
  have e1:decide (i< -(2^63:Int))=false:=decide_eq_false (by omega);have e2:decide (i≥2^63)=false:=decide_eq_false (by omega);rw[e1,e2,Bool.or_false]) (by rw[h1];simpa using h2) ⟨.str ⟨#[c]⟩,H,I.tok _,⟨_,rfl⟩,q⟩) hs
noncomputable def rIx(K:PySem.W.Frag):R2:=fun x y H Q=>rIxL K x y H Q∨rIxT K x y H Q∨rIxS x y H Q
theorem o0l:IxR X (rIx X.K):=ix_list.or (ix_tup.or k0m)
theorem i0u(its:List Value)(n j:Nat)(u:Value):Obj.mapSeq (·.setIfInBounds j u) {cls:=.type "list",data:=.seq its.toArray n}={cls:=.type "list",data:=.seq (its.set j u).toArray n}:=by
 simp[Obj.mapSeq]
theorem Inv.lst{pins:List (Addr×Obj)}{σ:St}{H:Hp}{s:Shared}{p:Addr}{xs:List V}(I:Inv X pins σ H s)(h:H p=some (.lst xs)):
 ∃(its:List Value) (n:Nat),Vals xs its∧s.heap.get? p=some {cls:=.type "list",data:=.seq its.toArray n}∧xs.length≤sizeLine:=by
 obtain ⟨z,its,n,r,e⟩:=I.hok p _ h;exact ⟨its,n,r,e,z⟩
theorem Inv.lstUpd{pins:List (Addr×Obj)}{σ:St}{H:Hp}{s:Shared}{p:Addr}{xs ys:List V}{its its':List Value}{n n':Nat}{f:Obj→Obj}(I:Inv X pins σ H s)(h:H p=some (.lst xs))
 (ho:s.heap.get? p=some {cls:=.type "list",data:=.seq its.toArray n}) (hf:f {cls:=.type "list",data:=.seq its.toArray n}={cls:=.type "list",data:=.seq its'.toArray n'}) (r:Vals ys its') (hz:ys.length≤sizeLine) (t:Nat):
 Inv X pins σ (upd H p (.lst ys)) {s with heap:=s.heap.update p f,toks:=t}:=by
 have e:(s.heap.update p f).get? p=some {cls:=.type "list",data:=.seq its'.toArray n'}:=by
  rw[Heap.get?_update_self f ho (by rw[hf]<;>rfl),hf]
 refine I.write (x:=p) (e:=p) (by rw[h];trivial) (.inl rfl) (fun b u hb q=>(Heap.get?_update_other _ _ (Ne.symm hb)).trans q) ⟨_,e⟩ ?_;exact ⟨hz,its',n',r,e⟩
noncomputable def rSetL:V→V→V→Hp→(Hp→Prop)→Prop:=fun o i v H Q=>∃p xs k j,o=.ref p∧i=.int k∧H p=some (.lst xs)∧ixN xs.length k=some j∧Q (upd H p (.lst (xs.set j v)))
theorem d0y:PSet X rSetL:=by
 intro pins s σ H o i v ov iv u Q I ro ri rv h;obtain ⟨p,xs,k,j,rfl,rfl,hp,hj,q⟩:=h;cases ro;obtain ⟨t,rfl⟩:=ri;obtain ⟨its,n,r,ho,hz⟩:=I.lst hp;obtain ⟨h1,h2,h3,h4⟩:=h0k hj;have hl:=r.length;have hn:=r0d;have I':Inv X pins σ (upd H p (.lst (xs.set j v))) {s with heap:=s.heap.update p (Obj.mapSeq (·.setIfInBounds j u))}:=
  I.lstUpd hp ho (i0u its n j u) (r.set rv j) (by rw[List.length_set];exact hz) s.toks
 by_cases h0:0≤k
 ·have hk:k.toNat=j:=by
   rw[seqIndex_of h0 h4]at h1;exact Option.some.inj h1
  exact PySem.W.ki_setAt ho h0 (by omega) (by rw[List.size_toArray,← hl];exact h4) (by rw[hk];exact ⟨_,I',q⟩)
 ·have hk:(k+(its.toArray.size:Int)).toNat=j:=by
   rw[seqIndex_neg (by omega) h3]at h1;rw[List.size_toArray,← hl];exact Option.some.inj h1
  exact PySem.W.ki_setBack ho (by omega) (by rw[List.size_toArray,← hl];exact h3) (by omega) (by rw[hk];exact ⟨_,I',q⟩)
theorem t0x(lo hi:Option Int)(n:Nat):(sliceBounds lo hi none n).1=((HT.sIx n 0 lo:Nat):Int)∧(sliceBounds lo hi none n).2.1=((HT.sIx n n hi:Nat):Int)∧(sliceBounds lo hi none n).2.2=1:=by
 refine ⟨?_,?_,rfl⟩
 ·cases lo with
  |none=>simp[sliceBounds,HT.sIx]
  |some i=>
   simp only[sliceBounds,HT.sIx,Option.getD_none,show (1:Int)>0 by decide,if_true];by_cases h:i<0
   ·simp only[h,if_true]<;>omega
   ·simp only[h,if_false]<;>omega
 ·cases hi with
  |none=>simp[sliceBounds,HT.sIx]
  |some i=>
   simp only[sliceBounds,HT.sIx,Option.getD_none,show (1:Int)>0 by decide,if_true];by_cases h:i<0
   ·simp only[h,if_true]<;>omega
   ·simp only[h,if_false]<;>omega
theorem q0e(its:List Value)(lo hi:Option Int):slicePick its.toArray lo hi none=((its.drop (HT.sIx its.length 0 lo)).take (HT.sIx its.length its.length hi-HT.sIx its.length 0 lo)).toArray:=by
 obtain ⟨h1,h2,h3⟩:=t0x lo hi its.toArray.size;unfold slicePick;rw[h1,h2,h3];simp only[sliceRange_one,pick_run,List.size_toArray]<;>rfl
noncomputable def rSlL(K:PySem.W.Frag):V→Option Int→Option Int→Hp→VK→Prop:=fun x lo hi H Q=>∃a xs,x=.ref a∧SqL K H a xs∧∀p,H p=none→Q (.ref p) (upd H p (.lst (cutV xs lo hi)))
theorem z1a:SlR X (rSlL X.K):=by
 intro pins s σ H x v vl vu lo hi sl Q I rx hs pl pu h;obtain ⟨a,xs,rfl,hx,q⟩:=h;cases rx;obtain ⟨its,r,ht,hz⟩:=I.list hx;have hlen:=r.length;refine ⟨"list",_,slot_list_getitem.lookup,ht.isList.typeIs,?_⟩;refine wpAny_getItem_list_slice ht.isList hs pl pu .none (by simp) ?_ (by rw[List.size_toArray]<;>omega);rw[q0e,← hlen];refine ⟨.ref s.heap.objs.size,_,I.laid (t':=s.toks) (o:=.lst (cutV xs lo hi)) (fun b ob q=>Heap.get?_push_of_some _ q) (Nat.le_refl _) ?_,rfl,q _ (I.hok.fresh (Nat.le_refl _))⟩;exact ⟨Nat.le_trans (s0x xs lo hi) hz,_,0,(r.drop (HT.sIx xs.length 0 lo)).take (HT.sIx xs.length xs.length hi-HT.sIx xs.length 0 lo),Heap.get?_push_size _ rfl⟩
noncomputable def x0l:V→Bool
 | .non=>true
 | .bl _=>true
 | .int _=>true
 | .str _=>true
 |_=>false
noncomputable def eqV:V→V→Bool
 | .non,.non=>true
 | .bl a,.bl b=>a==b
 | .bl a,.int b=>(if a then 1 else 0)==b
 | .int a,.bl b=>a==(if b then 1 else 0)
 | .int a,.int b=>a==b
 | .str a,.str b=>a==b
 |_,_=>false
theorem a0s{A:Around}{s:Shared}{y x:V}{u v:Value}(ry:RelV y u)(rx:RelV x v)(fy:x0l y=true)(fx:x0l x=true):SeqAt.EqAt A s u v (eqV y x):=by
 cases y with
 |non=>
  cases ry;cases x with
  |non=>cases rx;exact SeqAt.EqAt.same _
  |bl b=>cases rx;exact SeqAt.EqAt.none_bool b
  |int b=>obtain ⟨t,rfl⟩:=rx;exact SeqAt.EqAt.none_int b t
  |str b=>obtain ⟨t,rfl⟩:=rx;exact SeqAt.EqAt.none_str b t
  |_=>exact absurd (show false=true from fx) Bool.false_ne_true
 |bl a=>
  cases ry;cases x with
  |non=>cases rx;exact SeqAt.EqAt.bool_none a
  |bl b=>cases rx;exact SeqAt.EqAt.bool_bool a b
  |int b=>obtain ⟨t,rfl⟩:=rx;exact SeqAt.EqAt.bool_int a b t
  |str b=>obtain ⟨t,rfl⟩:=rx;exact SeqAt.EqAt.bool_str a b t
  |_=>exact absurd (show false=true from fx) Bool.false_ne_true
 |int a=>
  obtain ⟨t',rfl⟩:=ry;cases x with
  |non=>cases rx;exact SeqAt.EqAt.int_none a t'
  |bl b=>cases rx;exact SeqAt.EqAt.int_bool a t' b
  |int b=>obtain ⟨t,rfl⟩:=rx;exact SeqAt.EqAt.int_int a t' b t
  |str b=>obtain ⟨t,rfl⟩:=rx;exact SeqAt.EqAt.int_str a t' b t
  |_=>exact absurd (show false=true from fx) Bool.false_ne_true
 |str a=>
  obtain ⟨t',rfl⟩:=ry;cases x with
  |non=>cases rx;exact SeqAt.EqAt.str_none a t'
  |bl b=>cases rx;exact SeqAt.EqAt.str_bool a t' b
  |int b=>obtain ⟨t,rfl⟩:=rx;exact SeqAt.EqAt.str_int a t' b t
  |str b=>obtain ⟨t,rfl⟩:=rx;exact SeqAt.EqAt.str_str a t' b t
  |_=>exact absurd (show false=true from fx) Bool.false_ne_true
 |_=>exact absurd (show false=true from fy) Bool.false_ne_true
noncomputable def eqU(x:V)(u:Value):Bool:=match u with
 | .none=>eqV .non x
 | .bool b=>eqV (.bl b) x
 | .int i _=>eqV (.int i) x
 | .str z _=>eqV (.str z) x
 |_=>false
theorem a0r{x y:V}{u:Value}(r:RelV y u)(f:x0l y=true):eqU x u=eqV y x:=by
 cases y with
 |non=>cases r;rfl
 |bl b=>cases r;rfl
 |int i=>obtain ⟨t,rfl⟩:=r;rfl
 |str z=>obtain ⟨t,rfl⟩:=r;rfl
 |_=>exact absurd (show false=true from f) Bool.false_ne_true
theorem m0k{x:V}:∀{xs:List V} {us:List Value},Vals xs us→xs.all x0l=true→us.any (eqU x)=xs.any fun y=>eqV y x
 |_,_,.nil,_=>rfl
 |y::xs,u::us,.cons r t,f=>by
  rw[List.all_cons,Bool.and_eq_true]at f;rw[List.any_cons,List.any_cons,a0r r f.1,m0k t f.2]
theorem q0d{A:Around}{s:Shared}{x:V}{v:Value}(rx:RelV x v)(fx:x0l x=true):∀{xs:List V} {us:List Value},Vals xs us→xs.all x0l=true→∀u∈us,SeqAt.EqAt A s u v (eqU x u)
 |_,_,.nil,_=>fun u hu=>by cases hu
 |y::xs,u::us,.cons r t,f=>fun u' hu=>by
  rw[List.all_cons,Bool.and_eq_true]at f;rcases List.mem_cons.mp hu with rfl |hu
  ·rw[a0r r f.1];exact a0s r rx f.1 fx
  ·exact q0d rx fx t f.2 u' hu
noncomputable def inV(x:V)(xs:List V):Bool:=xs.any fun y=>eqV y x
noncomputable def rIn(K:PySem.W.Frag)(neg:Bool):R2:=fun x y H Q=>∃p xs,y=.ref p∧(SqL K H p xs∨SqT K H p xs)∧x0l x=true∧xs.all x0l=true∧Q (.bl (if neg then !inV x xs else inV x xs)) H
theorem h0j:OpR X (compareOp .In) (rIn X.K false):=by
 intro pins s σ H x y v u Q I rx ry h;obtain ⟨p,xs,rfl,hq,fx,fs,q⟩:=h;cases ry;rcases hq with hq |hq
 ·obtain ⟨its,r,pl,hz⟩:=I.list hq;refine SeqAt.in_listAt (eqU x) pl.isList (fun w hw=>q0d rx fx r fs w (by simpa using hw)) ⟨.bl _,H,I,rfl,?_⟩;rw[show its.toArray.any (eqU x)=its.any (eqU x)by simp,m0k r fs];exact q
 ·obtain ⟨its,r,pl,hz⟩:=I.tuple hq;refine SeqAt.in_tupleAt (eqU x) pl (fun w hw=>q0d rx fx r fs w (by simpa using hw)) ⟨.bl _,H,I,rfl,?_⟩;rw[show its.toArray.any (eqU x)=its.any (eqU x)by simp,m0k r fs];exact q
theorem o0k:OpR X (compareOp .NotIn) (fun x y H Q=>∃i j,x=.str i∧y=.str j∧Q (.bl (!(!(Builtin.Str.occurrences j i 0 j.length 1).isEmpty))) H):=by
 intro pins s σ H x y v u Q I rx ry h;obtain ⟨i,j,rfl,rfl,q⟩:=h;obtain ⟨t,rfl⟩:=rx;obtain ⟨t',rfl⟩:=ry;exact notIn_str ⟨.bl _,H,I,rfl,q⟩
theorem t0w:x0e X (.builtin "len") (fun xs H Q=>∃p ys,xs=[.ref p]∧(SqL X.K H p ys∨SqT X.K H p ys)∧Q (.int ys.length) H):=by
 intro pins s σ H xs us Q I r h;obtain ⟨p,ys,rfl,hq,q⟩:=h;obtain ⟨u,rfl,rx⟩:=q0f r;cases rx;have hn:=r0d;rcases hq with hq |hq
 ·obtain ⟨its,r',pl,hz⟩:=I.list hq;have hlen:=r'.length;exact Calls.call_len_list pl.isList (by simp only[List.size_toArray]<;>omega) ⟨.int ys.length,H,I.tok _,⟨s.toks+1,by rw[List.size_toArray,hlen]⟩,q⟩
 ·obtain ⟨its,r',pl,hz⟩:=I.tuple hq;have hlen:=r'.length;exact len_tuple pl (by simp only[List.size_toArray]<;>omega) ⟨.int ys.length,H,I.tok _,⟨s.toks+1,by rw[List.size_toArray,hlen]⟩,q⟩
theorem b8:x0e X (.builtin "len") (fun xs H Q=>∃z,xs=[.str z]∧z.length≤sizeLine∧Q (.int z.length) H):=by
 intro pins s σ H xs us Q I r h;obtain ⟨z,rfl,hz,q⟩:=h;obtain ⟨u,rfl,t,rfl⟩:=q0f r;have hn:=r0d;exact len_str (by omega) ⟨.int z.length,H,I.tok _,⟨_,rfl⟩,q⟩
theorem o0j:x0e X (.type "list") (fun xs H Q=>∃p ys,xs=[.ref p]∧(SqL X.K H p ys∨SqT X.K H p ys)∧∀l,H l=none→Q (.ref l) (upd H l (.lst ys))):=by
 intro pins s σ H xs us Q I r h;obtain ⟨p,ys,rfl,hq,q⟩:=h;obtain ⟨u,rfl,rx⟩:=q0f r;cases rx;have fin:∀(its:List Value),Vals ys its→ys.length≤sizeLine→∀(h':Heap) (c':Nat),(∀b o',s.heap.get? b=some o'→h'.get? b=some o')→
  h'.get? s.heap.objs.size=some {cls:=.type "list",dict:=none,data:=.seq its.toArray c',slots:=#[]}→EP X pins σ Q (.ref s.heap.objs.size) {s with heap:=h'}:=fun its r' hz h' c' kp e=>
  ⟨.ref s.heap.objs.size,_,I.laid (t':=s.toks) kp (Nat.le_refl _) (show ObjOk X.prog X.w _ h' _ (.lst ys)from ⟨hz,its,c',r',e⟩),rfl,q _ (I.hok.fresh (Nat.le_refl _))⟩
 rcases hq with hq |hq
 ·obtain ⟨its,r',pl,hz⟩:=I.list hq;have hlen:=r'.length;obtain ⟨o,ho,hc,n,hd⟩:=pl.isList;exact call_list_seq p (.inl rfl) ho hc hd (fun h' c' kp e=>fin its r' hz h' c' kp e) (by simp only[List.size_toArray]<;>omega)
 ·obtain ⟨its,r',pl,hz⟩:=I.tuple hq;have hlen:=r'.length;obtain ⟨o,ho,hc,n,hd⟩:=pl;exact call_list_seq p (.inr rfl) ho hc hd (fun h' c' kp e=>fin its r' hz h' c' kp e) (by simp only[List.size_toArray]<;>omega)
theorem z8:x0e X (.type "tuple") (fun xs H Q=>∃p ys,xs=[.ref p]∧((SqL X.K H p ys∧∀l,H l=none→Q (.ref l) (upd H l (.tup ys)))∨(SqT X.K H p ys∧Q (.ref p) H))):=by
 intro pins s σ H xs us Q I r h;obtain ⟨p,ys,rfl,h⟩:=h;obtain ⟨u,rfl,rx⟩:=q0f r;cases rx;rcases h with ⟨hq,q⟩|⟨hq,q⟩
 ·obtain ⟨its,r',pl,hz⟩:=I.list hq;have hlen:=r'.length;refine call_tuple_list pl.isList (fun h' kp=>?_) (by simp only[List.size_toArray]<;>omega);have I1:Inv X pins σ H {s with heap:=h'}:=I.kept (t':=s.toks) kp;have I2:Inv X pins σ (upd H h'.objs.size (.tup ys)) {s with heap:=h'.push {cls:=.type "tuple",data:=.seq its.toArray}}:=
   I1.laid (t':=s.toks) (fun b o e=>Heap.get?_push_of_some _ e) (Nat.le_refl _) (show ObjOk X.prog X.w _ _ _ (.tup ys)from ⟨hz,its,r',TupD.new _ _⟩)
  exact ⟨.ref h'.objs.size,_,I2,rfl,q _ (I1.hok.fresh (Nat.le_refl _))⟩
 ·obtain ⟨its,r',pl,hz⟩:=I.tuple hq;exact call_tuple_same pl ⟨.ref p,H,I,rfl,q⟩
noncomputable def tyV(K:PySem.W.Frag)(T:String)(x:V)(H:Hp):Prop:=match x with
 | .str _=>T="str"
 | .int _=>T="int"
 | .ref p=>(T="list"∧∃xs,SqL K H p xs)∨(T="tuple"∧∃o,K.lookup p=some o∧o.cls=.type "tuple"∧o.dict=none)∨
  (T="dict"∧((∃kvs,H p=some (.dK kvs))∨∃kvs,H p=some (.dT kvs)))∨(T="set"∧∃S n,H p=some (.set S n))∨(T="tuple"∧∃xs,H p=some (.tup xs))
 |_=>False
theorem a0q{pins:List (Addr×Obj)}{σ:St}{H:Hp}{s:Shared}{T:String}{x:V}{v:Value}(I:Inv X pins σ H s)(r:RelV x v)(ty:tyV X.K T x H):
 s.TypeIs v T∧∀a,v=.ref a→∃ob,s.heap.get? a=some ob∧ob.dict=none:=by
 cases x with
 |str z=>
  obtain ⟨t,rfl⟩:=r;cases (show T="str" from ty);exact ⟨typeIs_str s z t,fun _ e=>nomatch e⟩
 |int i=>
  obtain ⟨t,rfl⟩:=r;cases (show T="int" from ty);exact ⟨typeIs_int s i t,fun _ e=>nomatch e⟩
 |ref p=>
  cases r;rcases ty with ⟨rfl,xs,hq⟩|⟨rfl,o,hk,hc,hd⟩|⟨rfl,hk⟩|⟨rfl,S,n,hk⟩|⟨rfl,xs,hk⟩
  ·obtain ⟨its,_,pl,_⟩:=I.list hq;refine ⟨pl.isList.typeIs,fun a e=>?_⟩;cases e;obtain ⟨o,n,e,c,hd,_⟩:=pl;exact ⟨o,e,hd⟩
  ·refine ⟨⟨o,I.kIn p o hk,hc⟩,fun a e=>?_⟩;cases e;exact ⟨o,I.kIn _ o hk,hd⟩
  ·have z:∃o,s.heap.get? p=some o∧o.ExactDict:=by
    rcases hk with ⟨kvs,hk⟩|⟨kvs,hk⟩
    ·obtain ⟨_,_,_,_,o,_,_,e,ex,_⟩:=I.hok p _ hk;exact ⟨o,e,ex⟩
    ·obtain ⟨_,_,_,_,o,_,_,e,ex,_⟩:=I.hok p _ hk;exact ⟨o,e,ex⟩
   obtain ⟨o,e,ex⟩:=z;refine ⟨⟨o,e,ex.1⟩,fun a e2=>?_⟩;cases e2;exact ⟨o,e,ex.2.1⟩
  ·obtain ⟨o,_,_,_,e,ex,_⟩:=I.hok p _ hk;refine ⟨⟨o,e,ex.1⟩,fun a e2=>?_⟩;cases e2;exact ⟨o,e,ex.2.1⟩
  ·obtain ⟨_,its,_,o,e,c,_,hd⟩:=I.hok p _ hk;refine ⟨⟨o,e,c⟩,fun a e2=>?_⟩;cases e2;exact ⟨o,e,hd⟩
 |_=>exact False.elim ty
noncomputable def tBM0(K:PySem.W.Frag)(T:String)(r:V→List V→Hp→VK→Prop)(to:TE):TE:=fun σ H Q=>to σ H fun x H1=>tyV K T x H1∧r x [] H1 Q
noncomputable def tBM(K:PySem.W.Frag)(T:String)(r:V→List V→Hp→VK→Prop)(to:TE)(t:TA):TE:=fun σ H Q=>to σ H fun x H1=>tyV K T x H1∧t σ H1 fun xs H2=>r x xs H2 Q
variable{o e:Expr}{es:List Expr}{to:TE}{t:TA}{name:Str}{apos cpos:Pos}{T id:String}{r:V→List V→Hp→VK→Prop}
theorem pe_bm0(pa:PlainAttrs T)(slot:Slot T name id)(hty:typeOf (.builtin id)=pure (.type "method_descriptor"))(hm:MtR X id r)(ho:PE X o to)
 (hbase:attributeBase o name X.env (eval o X.env)=eval o X.env:=by rfl) (hline:(apos.endLine==cpos.line)=true:=by rfl):PE X (.Call (.Attribute o name apos) [] [] cpos) (tBM0 X.K T r to):=by
 intro pins s σ H Q I h;refine wpAny_Call_method0_late hbase hline (thn (ho pins s σ H _ I h) fun v s1 ⟨x,H1,I1,r1,ty,q1⟩=>?_);obtain ⟨h1,h2⟩:=a0q I1 r1 ty;exact ⟨T,id,pa,slot,hty,h1,h2,Calls.callWith_builtin rfl (PySem.evalArgs_none (hm pins s1 σ H1 x [] v [] Q I1 r1 .nil q1))⟩
theorem y1z(pa:PlainAttrs T)(slot:Slot T name id)(hty:typeOf (.builtin id)=pure (.type "method_descriptor"))(hm:MtR X id r)(ho:PE X o to)(ha:PA X (e::es) t)
 (hbase:attributeBase o name X.env (eval o X.env)=eval o X.env:=by rfl)
 (hfew:((backTo cpos (starEach (e::es) X.env)).all (fun x=>!x.1)&&(backToKw cpos (keywordEach [] X.env)).all (fun x=>x.1.isSome)
  &&decide ((e::es).length+([]:List Keyword).length+(if ([]:List Keyword).isEmpty then 0 else 1)<30))=true:=by rfl)
 (hline:(apos.endLine==cpos.line)=true:=by rfl) (hs:starEach (e::es) X.env=(false,eval e X.env)::starEach es X.env:=by rfl) (hplain:(backTo cpos (starEach es X.env)).any (·.1)=false:=by rfl):
 PE X (.Call (.Attribute o name apos) (e::es) [] cpos) (tBM X.K T r to t):=by
 intro pins s σ H Q I h;refine wpAny_Call_method_late hbase hfew hline rfl (thn (ho pins s σ H _ I h) fun v s1 ⟨x,H1,I1,r1,ty,q1⟩=>?_);obtain ⟨h1,h2⟩:=a0q I1 r1 ty;refine ⟨T,id,pa,slot,hty,h1,h2,?_⟩;have hA:=ha cpos pins s1 σ H1 _ I1 q1;rw[hs]at hA ⊢;refine Calls.callWith_builtin (by show (false||(backTo cpos (starEach es X.env)).any (·.1))=false;rw[hplain]<;>rfl) (Calls.evalArgs_plain ?_);exact thn hA fun us s2 ⟨vs,H2,I2,r2,q2⟩=>hm pins s2 σ H2 x vs v us Q I2 r1 r2 q2
end
end L2
namespace L2
open PySem PySem.Spec PyProof.Rows
noncomputable def MtM(X:Cx)(id:String)(r:V→List V→Hp→VK→Prop):Prop:=
 ∀(pins:List (Addr×Obj)) (s:Shared) (σ:St) (H:Hp) (x:V) (xs:List V) (v:Value) (us:List Value) (Q:VK),Inv X pins σ H s→RelV x v→Vals xs us→r x xs H Q→
  wpAny (model X.prog X.w) X.A (call (.builtin id) (v::us)) (EP X pins σ Q) X.xe s
theorem Vals.one:∀{x:V} {us:List Value},Vals [x] us→∃u,us=[u]∧RelV x u
 |_,_,.cons r .nil=>⟨_,rfl,r⟩
theorem Vals.two:∀{x y:V} {us:List Value},Vals [x,y] us→∃u v,us=[u,v]∧RelV x u∧RelV y v
 |_,_,_,.cons r (.cons q .nil)=>⟨_,_,rfl,r,q⟩
theorem Vals.zero:∀{us:List Value},Vals [] us→us=[]
 |_,.nil=>rfl
theorem Vals.dropLast{xs:List V}{us:List Value}(h:Vals xs us):Vals xs.dropLast us.dropLast:=by
 induction h with
 |nil=>exact .nil
 |cons r t ih=>
  cases t with
  |nil=>exact .nil
  |cons q t'=>exact .cons r ih
theorem Vals.rep{xs:List V}{us:List Value}(h:Vals xs us):∀k:Nat,Vals (List.replicate k xs).flatten (List.replicate k us).flatten
 | 0=>.nil
 |k+1=>by
  rw[List.replicate_succ,List.replicate_succ,List.flatten_cons,List.flatten_cons];exact Vals.append h (Vals.rep h k)
theorem i0t{α:Type}(l:List α):l.eraseIdx (l.length-1)=l.dropLast:=by
 induction l with
 |nil=>rfl
 |cons a r ih=>
  cases r with
  |nil=>rfl
  |cons b r=>
   have e:(a::b::r).length-1=((b::r).length-1)+1:=by
    have h1:(a::b::r).length=r.length+2:=rfl;have h2:(b::r).length=r.length+1:=rfl;omega
   rw[e,List.eraseIdx_cons_succ,ih]
   all_goals rfl
theorem o0i(its:List Value):∀(k:Nat) (acc:List Value),
 List.foldl (fun x1 x2=>x1++x2) acc.toArray (List.replicate k its.toArray)=(acc++(List.replicate k its).flatten).toArray
 | 0,acc=>by simp
 |k+1,acc=>by
  have e:acc.toArray++its.toArray=(acc++its).toArray:=by simp
  have e2:(acc++its)++(List.replicate k its).flatten=acc++(List.replicate (k+1) its).flatten:=by
   rw[List.replicate_succ,List.flatten_cons,List.append_assoc]
  rw[←e2,← o0i its k (acc++its),← e,List.replicate_succ,List.foldl_cons]
section
variable{X:Cx}{pins:List (Addr×Obj)}{σ:St}{H:Hp}{s:Shared}{l b:Addr}{xs ys zs:List V}
theorem Inv.lset{its its':List Value}{n:Nat}{f:Array Value→Array Value}{t':Nat}(I:Inv X pins σ H s)(hH:H l=some (.lst xs))
 (e:s.heap.get? l=some {cls:=.type "list",data:=.seq its.toArray n}) (hf:f its.toArray=its'.toArray) (hv:Vals ys its') (hz:ys.length≤sizeLine):
 Inv X pins σ (upd H l (.lst ys)) {s with heap:=s.heap.update l (Obj.mapSeq f),toks:=t'}:=by
 have q:=PySem.IsL.update e f;rw[hf]at q;refine I.write (x:=l) (e:=l) (by rw[hH];exact trivial) (.inl rfl) (fun b' u hb hu=>(Heap.get?_update_other s.heap (Obj.mapSeq f) (Ne.symm hb)).trans hu) ⟨_,q⟩ ?_;exact ⟨hz,its',_,hv,q⟩
theorem Inv.lnew{its:List Value}{t':Nat}(I:Inv X pins σ H s)(hv:Vals ys its)(hz:ys.length≤sizeLine):
 Inv X pins σ (upd H s.heap.objs.size (.lst ys)) {s with heap:=s.heap.push {cls:=.type "list",data:=.seq its.toArray},toks:=t'}:=
 I.laid (fun _ _ q=>Heap.get?_push_of_some _ q) (Nat.le_refl _) ⟨hz,its,0,hv,Heap.get?_push_size _ rfl⟩
theorem Inv.fresh(I:Inv X pins σ H s):H s.heap.objs.size=none:=I.hok.fresh (Nat.le_refl _)
theorem Inv.lstM(I:Inv X pins σ H s)(hH:H l=some (.lst xs)):xs.length≤sizeLine∧∃(its:List Value) (n:Nat),Vals xs its∧xs.length=its.length∧s.heap.get? l=some {cls:=.type "list",data:=.seq its.toArray n}:=by
 obtain ⟨z,its,n,r,e⟩:=I.hok l _ hH;exact ⟨z,its,n,r,r.length,e⟩
theorem d0x{n:Nat}(h:n≤sizeLine):Builtin.List.listTooLong n=false:=by
 unfold Builtin.List.listTooLong;exact decide_eq_false (by omega)
end
section
variable{X:Cx}
noncomputable def h0i:V→List V→Hp→VK→Prop:=fun x vs H Q=>∃l xs y,x=.ref l∧vs=[y]∧H l=some (.lst xs)∧xs.length<sizeLine∧Q .non (upd H l (.lst (xs++[y])))
theorem z0b:MtM X "list.append" h0i:=by
 intro pins s σ H x vs v us Q I rx rv h;obtain ⟨l,xs,y,rfl,rfl,hH,hz,q⟩:=h;cases rx;obtain ⟨u,rfl,ru⟩:=rv.one;obtain ⟨z,its,n,r,hl,e⟩:=I.lstM hH;refine call_meets F.slot_list_append ⟨_,e,rfl⟩ F.entry_list_append (F.args_list_append_2 _ _) (PySem.list_append l its.toArray n u (by rw[List.size_toArray];omega)) ⟨e,?_⟩;refine ⟨.non,_,I.lset (its':=its++[u]) hH e (by simp) (r.append (.cons ru .nil)) ?_,rfl,q⟩;rw[List.length_append,List.length_singleton];omega
noncomputable def rPop:V→List V→Hp→VK→Prop:=fun x vs H Q=>∃l xs y,x=.ref l∧vs=[]∧H l=some (.lst xs)∧xs[xs.length-1]?=some y∧Q y (upd H l (.lst xs.dropLast))
theorem a0p:MtM X "list.pop" rPop:=by
 intro pins s σ H x vs v us Q I rx rv h;obtain ⟨l,xs,y,rfl,rfl,hH,hy,q⟩:=h;cases rx;have hus:=rv.zero;subst hus;obtain ⟨z,its,n,r,hl,e⟩:=I.lstM hH;obtain ⟨u,hu,ru⟩:=r.get hy;have hy':its.toArray[its.toArray.size-1]?=some u:=by
  show its.toArray[its.length-1]?=some u;rw[←Array.getElem?_toList,← hl];exact hu
 refine call_meets F.slot_list_pop ⟨_,e,rfl⟩ F.entry_list_pop (F.args_list_pop_1 _) (MeetsSeq.list_pop_last l its.toArray n u hy' (by rw[List.size_toArray];omega)) ⟨e,?_⟩;refine ⟨y,_,I.lset (its':=its.dropLast) hH e ?_ r.dropLast ?_,ru,q⟩
 ·show its.toArray.eraseIdxIfInBounds (its.toArray.size-1)=its.dropLast.toArray;rw[List.size_toArray,List.eraseIdxIfInBounds_toArray,i0t]
 ·rw[List.length_dropLast];omega
noncomputable def rCat:R2:=fun x y H Q=>∃l b xs zs,x=.ref l∧y=.ref b∧H l=some (.lst xs)∧H b=some (.lst zs)∧xs.length+zs.length≤sizeLine∧∀p,H p=none→Q (.ref p) (upd H p (.lst (xs++zs)))
theorem op_cat:OpR X (binaryOp .Add) rCat:=by
 intro pins s σ H x y v u Q I rx ry h;obtain ⟨l,b,xs,zs,rfl,rfl,hH,hB,hz,q⟩:=h;cases rx;cases ry;obtain ⟨z,its,n,r,hl,e⟩:=I.lstM hH;obtain ⟨z2,its2,n2,r2,hl2,e2⟩:=I.lstM hB;refine PySem.P.add_list e e2 ?_ (by rw[List.size_toArray,List.size_toArray];omega);have ea:its.toArray++its2.toArray=(its++its2).toArray:=by simp
 rw[ea];exact ⟨.ref _,_,I.lnew (t':=s.toks) (r.append r2) (by rw[List.length_append];omega),rfl,q _ I.fresh⟩
noncomputable def rRep:R2:=fun x y H Q=>∃l k xs,x=.ref l∧y=.int k∧H l=some (.lst xs)∧-(2^63)≤k∧k<2^63∧xs.length*k.toNat≤sizeLine∧
 ∀p,H p=none→Q (.ref p) (upd H p (.lst (List.replicate k.toNat xs).flatten))
theorem y1y{α:Type}(xs:List α)(k:Nat):(List.replicate k xs).flatten.length=k*xs.length:=by
 induction k with
 |zero=>simp
 |succ k ih=>rw[List.replicate_succ,List.flatten_cons,List.length_append,ih,Nat.succ_mul,Nat.add_comm]
theorem op_rep:OpR X (binaryOp .Mult) rRep:=by
 intro pins s σ H x y v u Q I rx ry h;obtain ⟨l,k,xs,rfl,rfl,hH,h1,h2,hz,q⟩:=h;cases rx;obtain ⟨t,rfl⟩:=ry;obtain ⟨z,its,n,r,hl,e⟩:=I.lstM hH;have hlen:its.toArray.size*k.toNat≤sizeLine:=by rw[List.size_toArray,← hl];exact hz
 have hcap:¬its.toArray.size*k.toNat>(2^63-1)/8:=by
  have:(sizeLine:Nat)≤(2^63-1)/8:=by decide
  omega
 have hfit:¬(!Builtin.List.listFitsIndex k)=true:=by
  rw[fitsIndex_both h1 h2];exact Bool.false_ne_true
 have hlong:¬Builtin.List.listTooLong (its.toArray.size*k.toNat)=true:=by
  rw[d0x hlen];exact Bool.false_ne_true
 have hnew:List.foldl (fun x1 x2=>x1++x2) #[] (List.replicate (if its.toArray.isEmpty=true then 0 else k.toNat) its.toArray)=(List.replicate k.toNat its).flatten.toArray:=by
  have f0:∀m:Nat,List.foldl (fun x1 x2=>x1++x2) #[] (List.replicate m its.toArray)=(List.replicate m its).flatten.toArray:=fun m=>by
   have:=o0i its m [];rw[List.nil_append]at this;exact this
  rw[f0];cases its with
  |nil=>simp
  |cons a r'=>rw[if_neg (by simp)]
 refine wpAny_binaryOp_repeat_ref (T:="list") (U:="int") (by decide) ⟨_,e,rfl⟩ (fun s'=>typeIs_int s' k t) noFill_list_mul F.fills_int_mul F.slot_int_rmul repeat_list F.slot_int_index.lookup
  (call_meets F.slot_int_rmul (typeIs_int s k t) F.entry_int_rmul (F.args_int_rmul_2 _ _) (int___rmul___int_list k t l its.toArray n)
   ⟨e,rfl,⟨_,e,rfl⟩,call_meets F.slot_list_mul ⟨_,e,rfl⟩ F.entry_list_mul (F.args_list_mul_2 _ _) (AutoListH.list___mul___list_int_3 l its.toArray n k t hfit hcap hlong) ⟨e,?_⟩⟩)
 rw[hnew];exact ⟨.ref _,_,I.lnew (t':=s.toks) (r.rep k.toNat) (by rw[y1y,Nat.mul_comm];exact hz),rfl,q _ I.fresh⟩
end
section
variable{prog:Program}{w:World}{A:Around}{E:Value→Shared→Prop}{s:Shared}
set_option maxRecDepth 100000 in
end
section
variable{X:Cx}
end
end L2
namespace Att
open PySem PySem.W PySem.Calls PyProof.Rows
theorem s0w{P:Params}{h:Heap}:∀(ns:List Int) (vs:List Value),WellAll P h vs (ns.map WData.int)→IntsAre vs ns:=by
 intro ns
 induction ns with
 |nil=>
  intro vs w;rw[List.map_nil]at w;cases w;exact .nil
 |cons n ns ih=>
  intro vs w;rw[List.map_cons]at w;cases w with
  |cons a b=>
   cases a;exact .cons _ _ (ih _ b)
theorem h0h{l:OpenLaw}{n:Nat}(hn:l.most=some n){P:Params}{h:Heap}{args:List WData}{vals:List Value}
 (hpre:l.row.toRowW.claim.pre args=true) (hwl:WellAll P h vals args):
 ∃a vs ns,vals=[Value.ref a]∧args=[WData.list (ns.map WData.int)]∧h.get? a=some {cls:=.type "list",data:=.seq vs.toArray}∧IntsAre vs ns∧ns.length≤n:=by
 have hsh:WShape.hasAll [] args [.list .int]=true:=(pre_splitW hpre).1;have hc:l.pre.holds [] {args:=args}=true:=(pre_splitW hpre).2;obtain ⟨d,r,rfl,h1,h2⟩:=hasAllW_cons hsh;obtain rfl:=hasAllW_nil h2;obtain ⟨xs,rfl,h3⟩:=hasW_list h1;obtain ⟨ns,rfl⟩:=items_int h3;have hlen:ns.length≤n:=by
  unfold OpenLaw.pre at hc;have h4:(WTm.not (.lt (.lit (.int (n:Int))) (.len (.arg 0)))).holds [] {args:=[.list (ns.map .int)]}=true:=by
   have h4:=(holds_andW hc).1;rw[hn]at h4;exact h4
  have h5:=condW_of h4 (w_not (w_lt w_lit (w_len_list (w_arg rfl))));rw[List.length_map]at h5;refine Nat.le_of_not_lt fun q=>?_
  have q':(n:Int)<((ns.length:Nat):Int):=by omega
  first
   |(rw[decide_eq_true q']at h5;exact absurd h5 (by decide))
   |(simp at h5;omega)
 cases hwl with
 |cons w1 w2=>
  cases w2;cases w1 with
  |list ho hall=>exact ⟨_,_,ns,rfl,rfl,ho,s0w ns _ hall,hlen⟩
theorem h0g(l:OpenLaw)(args:List WData):l.row.toRowW.claim.post args (.bool true) args=true:=
 postW_of (r:=l.row.toRowW) (X:=(true==true))
  (show WShape.has [] (.bool true) .bool=true by first |rfl |decide |simp[WShape.has,WShape.arms,WShape.armsAll])
  (show (WTm.eq .res (.lit (.bool true))).value [] {args:=args,res:=some (.bool true),after:=args}=some (.bool (true==true))from w_eq_bool (w_res rfl) w_lit) rfl
theorem attach_call{l:OpenLaw}{n:Nat}{q:Program}{loose:List Str}{XP:(Str→Option Value)→Heap→Prop}{YP:World→Heap→Prop}{d:DefRec}
 (hn:l.most=some n) (hdf:d.params.defaults=[])
 (call:∀(w:World) (s₀ s₁:Shared) (mg mb:Str→Option Value) (fa:Addr) (o:Obj) (pm cd doc:Value) (a:Addr) (vs:List Value) (ns:List Int),
  Ground q loose [] XP w s₀ mg mb s₁.heap→YP w s₁.heap→
  s₁.heap.get? fa=some o→o.data=.func (docDef d.name d.params d.body d.scope pm cd doc)→s₁.heap.CodeRec cd d.name→mg d.name=some (.ref fa)→
  s₁.heap.get? a=some {cls:=.type "list",data:=.seq vs.toArray}→IntsAre vs ns→ns.length≤n→s₁.gens=#[]→
  codeAny (model l.prog w) callerA (.call (.ref fa) ⟨[.ref a],[]⟩) (fun r s'=>r=.ok (.ret (.bool true))∧OldK s₁.heap s'.heap∧s'.os=s₁.os∧AllBare s'.gens) s₁):
 WalkO q loose XP YP l.row.toRowW d [] (fun f vs=>PySem.call f vs):=by
 intro w s₀ s₁ mg mb G Y fa o pm cd doc dV kV ho hd hcd hD hmg hg args vals as hpre hlay hrd hwl hlo;obtain rfl:dV=.none:=Dflts.none hD hdf;obtain rfl:kV=.none:=Dflts.noKw hD;obtain ⟨a,vs,ns,rfl,rfl,hobj,hints,hlen⟩:=h0h hn hpre hwl;refine enter_call (codeAny_mono (call w s₀ s₁ mg mb fa o pm cd doc a vs ns G Y ho (fd_plain hd) hcd hmg hobj hints hlen hg) fun r s' hq=>?_);obtain ⟨rfl,h2,h3,h4⟩:=hq;exact ⟨.inl ⟨.bool true,.bool true,[],rfl,fun _=>rfl,.bool true,h0g l _,fun _=>⟨List.Pairwise.nil,fun _ hm=>(nomatch hm)⟩⟩,h2,h3,h4⟩
section
variable{prog:Program}{w:World}{A:Around}{E:Value→Shared→Prop}{s:Shared}{K:Frag}
noncomputable def ledger(h:Heap)(L d:Addr):List (Addr×Obj):=(List.range h.objs.size).filterMap fun a=>if a=L∨a=d then none else (h.get? a).map fun o=>(a,o)
end
end Att
namespace L2
open PySem PySem.Spec PyProof.Rows
theorem o0h:∀{vs:List Value} {ns:List Int},IntsAre vs ns→Vals (ns.map V.int) vs
 |_,_,.nil=>.nil
 |_,_,.cons n t h=>.cons ⟨t,rfl⟩ (o0h h)
noncomputable def Only(H:Hp):Prop:=∀b,H b=none∨∃o xs,H b=some (.frz o (.lst xs))
theorem d0w{P:Program}{w:World}{K:PySem.W.Frag}{mg mb:Str→Option Value}{CX:CXT}{k:Nat}{fa a:Addr}{fd:FuncData}{x:Str}{sp:Sp}{s₁:Shared}{vs:List Value}{ns:List Int}
 (KX:K.In s₁.heap) (hns:s₁.heap.Ns mainGlobals mg) (hb:s₁.heap.Ns builtinsNs mb) (hbb:∀x:Str,x≠"__name__"→mb x=bootBuiltins x) (hlim:s₁.heap.NoLimit) (hg:s₁.gens=#[])
 (ha:s₁.heap.get? a=some {cls:=.type "list",data:=.seq vs.toArray}) (hi:IntsAre vs ns) (hl:ns.length≤sizeLine) (hr:Room k callerA)
 (F:∀base:Heap,K.In base→base.Ns mainGlobals mg→FnOk P w K mg base CX k fa fd [x] sp) (hbind:∀(s:Shared) (u:Value),BindsTo s fd ⟨[u],[]⟩ [(x,u)])
 (hsp:∀H:Hp,Only H→SqL K H a (ns.map V.int)→sp [.ref a] H (fun v _=>v=.bl true) fun _ _ _=>False)
 (hCX:∀H e s',CX [] H s₁ (fun _ _ _=>False) e s'→False):
 codeAny (model P w) callerA (.call (.ref fa) ⟨[.ref a],[]⟩) (fun r s'=>r=.ok (.ret (.bool true))∧OldK s₁.heap s'.heap∧s'.os=s₁.os∧AllBare s'.gens) s₁:=by
 have rv:=o0h hi;have lenV:=hi.length;have core:∀H:Hp,Only H→SqL K H a (ns.map V.int)→HOk P w H s₁.heap→(∀b,H b≠none→b=a)→(H a≠none→K.lookup a=none)→
  codeAny (model P w) callerA (.call (.ref fa) ⟨[.ref a],[]⟩) (fun r s'=>r=.ok (.ret (.bool true))∧OldK s₁.heap s'.heap∧s'.os=s₁.os∧AllBare s'.gens) s₁:=by
  intro H hO hS hok hA hK;have base_of:∀{b:Addr} {o:Obj},s₁.heap.get? b=some o→H b=none→(hidT s₁.heap H).get? b=some o:=fun e n=>e0h e n
  have noA:∀{b:Addr} {o:Obj} {es:Array DictEntry} {ep:Nat},s₁.heap.get? b=some o→o.data=.dict es ep→H b=none:=fun {b o es ep} e d=>by
   cases q:H b with
   |none=>rfl
   |some u=>
    have e':b=a:=hA b (by rw[q];simp);subst e';rw[ha]at e;cases e;have d':Data.seq vs.toArray _=Data.dict es ep:=d;cases d'
  have nsK:∀{b:Addr} {m:Str→Option Value},s₁.heap.Ns b m→(hidT s₁.heap H).Ns b m:=fun {b m} ⟨o,es,ep,e,d,r⟩=>⟨o,es,ep,base_of e (noA e d),d,r⟩
  have hKb:K.In (hidT s₁.heap H):=fun b o e=>base_of (KX b o e) (by
   cases q:H b with
   |none=>rfl
   |some u=>
    have e':b=a:=hA b (by rw[q];simp);subst e';rw[hK (by rw[q];simp)]at e;cases e)
  have hM:Mod K mg (hidT s₁.heap H):=⟨hKb,nsK hns,⟨mb,nsK hb,hbb⟩,let ⟨mc,h1,h2⟩:=hlim;⟨mc,nsK h1,h2⟩⟩;have e0:Env0 P w K mg (hidT s₁.heap H) callerA [] s₁ H:=⟨rfl,hM,fun b o e=>z1q e,Nat.le_of_eq (i0c _ _),trivial,fun b hb=>absurd (show b∈([]:List Addr)from hb) (by simp),hok,.of_eq hg⟩;refine codeAny_mono ((F _ hKb (nsK hns)).run callerA [] s₁ H ⟨[.ref a],[]⟩ [.ref a] [.ref a] _ _ hr e0 (hbind s₁ (.ref a)) (.cons rfl .nil) (hsp H hO hS)) fun r s' h=>?_
  cases r with
  |error e=>exact (hCX H e s' h).elim
  |ok fl=>
   cases fl with
   |next=>exact False.elim h
   |brk=>exact False.elim h
   |cont=>exact False.elim h
   |ret u=>
    obtain ⟨v,H',os,bare,un,hok',r',q⟩:=h;have q':v=.bl true:=q;subst q';obtain rfl:u=Value.bool true:=r';refine ⟨rfl,OldK.of_keep fun b o e=>?_,os,bare⟩;cases q:H b with
    |none=>exact un.keep b o e q (by intro z;exact absurd (show b∈([]:List Addr)from z) (by simp)) (by simp)
    |some u=>
     rcases hO b with z |⟨ob,xs,z⟩
     ·rw[q]at z;cases z
     ·have z2:=un.frzs b ob _ z;obtain ⟨e1,_⟩:=hok b _ z;obtain ⟨e2,_⟩:=hok' b _ z2;rw[e]at e1;cases e1;exact e2
 cases hk:K.lookup a with
 |some o=>
  have e:=KX a o hk;rw[ha]at e;cases e;refine core (fun _=>none) (fun _=>.inl rfl) (.inr ⟨_,vs.toArray,_,hk,rfl,rfl,rfl,by rw[List.size_toArray,lenV];exact hl,by simpa using rv⟩) (fun b u z=>by have z':(none:Option HO)=some u:=z;cases z') (fun b z=>absurd rfl z) fun z=>absurd rfl z
 |none=>
  refine core (fun b=>if b=a then some (.frz {cls:=.type "list",data:=.seq vs.toArray} (.lst (ns.map V.int)))else none) (fun b=>?_) (.inl (.inr ⟨{cls:=.type "list",data:=.seq vs.toArray},if_pos rfl⟩)) (fun b u z=>?_) (fun b z=>?_) fun _=>hk
  ·by_cases hb:b=a
   ·exact .inr ⟨_,_,if_pos hb⟩
   ·exact .inl (if_neg hb)
  ·by_cases hb:b=a
   ·have z':=(if_pos hb).symm.trans z;cases z';subst hb;exact ⟨ha,by rw[List.length_map];exact hl,vs,_,rv,ha⟩
   ·have z':=(if_neg hb).symm.trans z;cases z'
  ·by_cases hb:b=a
   ·exact hb
   ·exact absurd (if_neg hb) z
end L2
namespace L2
open PySem PySem.Spec PyProof.Rows
noncomputable abbrev KOf{K:PySem.W.Frag}{h:Heap}(_:K.In h):PySem.W.Frag:=K
theorem walk_of{l:PySem.W.OpenLaw}{n k:Nat}{q:Program}{loose:List Str}{XP:(Str→Option Value)→Heap→Prop}{YP:World→Heap→Prop}{d:DefRec}{K:Params→PySem.W.Frag}{CX:World→CXT}{sp:World→Sp}{x:Str}
 (hn:l.most=some n) (hn2:n≤sizeLine) (hdf:d.params.defaults=[]) (hr:Room k callerA)
 (hY:∀(w:World) (h:Heap),YP w h→(K w.params).In h)
 (F:∀(w:World) (mg:Str→Option Value) (fa:Addr) (h:Heap),(K w.params).In h→h.Ns mainGlobals mg→mg d.name=some (.ref fa)→
  ∃fd:FuncData,(∀(s:Shared) (u:Value),BindsTo s fd ⟨[u],[]⟩ [(x,u)])∧
   ∀base:Heap,(K w.params).In base→base.Ns mainGlobals mg→FnOk l.prog w (K w.params) mg base (CX w) k fa fd [x] (sp w))
 (hsp:∀(w:World) (H:Hp) (a:Addr) (ns:List Int),ns.length≤n→Only H→SqL (K w.params) H a (ns.map V.int)→sp w [.ref a] H (fun v _=>v=.bl true) fun _ _ _=>False)
 (hCX:∀(w:World) (H:Hp) (s:Shared) (e:Value) (s':Shared),CX w [] H s (fun _ _ _=>False) e s'→False):
 PySem.W.WalkO q loose XP YP l.row.toRowW d [] (fun f vs=>PySem.call f vs):=by
 refine Att.attach_call hn hdf fun w s₀ s₁ mg mb fa o pm cd doc a vs ns G Y ho hd hcd hmg hobj hints hlen hg=>?_
 have KX:=hY w _ Y;obtain ⟨fd,hb,hF⟩:=F w mg fa _ KX G.T.g hmg;exact d0w KX G.T.g G.T.b G.T.builtins G.T.nolimit hg hobj hints (Nat.le_trans hlen hn2) hr hF hb (fun H hO hS=>hsp w H a ns hlen hO hS) fun H e s'=>hCX w H s₁ e s'
end L2
namespace L2
open PySem PySem.Spec PyProof.Rows
noncomputable def inClass(s:Stmt)(j:Nat):Stmt:=match s with
 | .ClassDef _ _ _ body _ _ _ _ _ _ _=>body.getD j (.Pass ⟨0,0,0,0⟩)
 |_=>.Pass ⟨0,0,0,0⟩
noncomputable def defArgs(s:Stmt):Arguments:=match s with
 | .FunctionDef _ a _ _ _ _ _ _ _ _=>a
 |_=>{posonlyargs:=[],args:=[],vararg:=none,kwonlyargs:=[],kw_defaults:=[],kwarg:=none,defaults:=[]}
noncomputable def defBody(s:Stmt):List Stmt:=match s with
 | .FunctionDef _ _ b _ _ _ _ _ _ _=>b
 |_=>[]
noncomputable def defScope(s:Stmt):Scope:=match s with
 | .FunctionDef _ _ _ _ _ _ sc _ _ _=>sc
 |_=>{kind:=.function,names:=[],isGenerator:=false,isCoroutine:=false}
noncomputable abbrev CX0:CXT:=fun _ _ _ _ _ _=>False
noncomputable abbrev E0:XK:=fun _ _ _=>False
theorem pass0{X:Cx}:a0t CX0 X E0:=fun _ _ _ _ _ _ _ h=>h.elim
structure Fun(K:PySem.W.Frag)(x qual:Str)(st:Stmt)(f:Addr)(fd:FuncData):Prop where
 ex:∃(oc:Value) (od:Option Addr) (kV doc pm:Value) (an:Option Addr) (cdv ct:Value) (osl:Array (Option Value)),
  fd=PySem.W.fnOf x qual (defArgs st) (defBody st) (defScope st) .none kV doc pm an cdv ct∧K.lookup f=some ⟨oc,od,.func fd,osl⟩∧PySem.W.codeIn K cdv qual=true
 kp:PySem.W.keepIn K (.ref f)=true
section
variable{P:Program}{w:World}{K:PySem.W.Frag}{mg:Str→Option Value}{base:Heap}
theorem Fun.ok{x qual:Str}{st:Stmt}{f:Addr}{fd:FuncData}{N ps:List Str}{k:Nat}{sp:Sp}(F:Fun K x qual st f fd)(S:FnScope N ps (defScope st))(len:∀vs H Q E,sp vs H Q E→vs.length=ps.length)
 (hbody:∀(cdv:Value) (A:Around) (outer:List Env) (s:Shared) (H:Hp) (vs:List V) (Q:VK) (E:XK),Room k (A.deeper (envOfC qual (defScope st) s.heap.objs.size f cdv))→sp vs H Q E→
  ∃t,PSs (cxOf CX0 P w K mg base N qual (defScope st) f cdv A outer s H E).nox (defBody st) t∧t {nx:=fun _ H'=>Q .non H',rt:=Q} (start N vs) H):FnOk P w K mg base CX0 (k+1) f fd ps sp:=by
 obtain ⟨oc,od,kV,doc,pm,an,cdv,ct,osl,rfl,lk,hcd⟩:=F.ex;refine fn_of lk hcd S len fun A outer s H vs Q E hr hsp=>?_
 obtain ⟨t,h,q⟩:=hbody cdv A outer s H vs Q E hr hsp;exact ⟨t,h.nox,q⟩
theorem Fun.binds{x qual:Str}{st:Stmt}{f:Addr}{fd:FuncData}{ps:List Str}(F:Fun K x qual st f fd)
 (h:∀(kV doc pm:Value) (an:Option Addr) (cdv ct:Value) (us:List Value),us.length=ps.length→bindArgs (PySem.W.fnOf x qual (defArgs st) (defBody st) (defScope st) .none kV doc pm an cdv ct) ⟨us,[]⟩=pure (ps.zip us)):Binds K fd ps []:=by
 obtain ⟨oc,od,kV,doc,pm,an,cdv,ct,osl,rfl,lk,hcd⟩:=F.ex;exact .all (h kV doc pm an cdv ct)
end
section
variable{X:Cx}
theorem pv(i:Nat){x:Str}{pos:Pos}(hN:X.N[i]?=some x:=by rfl)(hv:Vis X.env.scope x:=by walk_at "v3")(hd:(x==("__debug__":Str))=false:=by decide)
 (hcd:(x==("__classdict__":Str))=false:=by decide):PE X (.Name x pos) (tVar i):=t0b hN hv hd hcd
end
noncomputable def Same(H H':Hp):Prop:=∀b o,H b=some o→H' b=some o
theorem Same.refl(H:Hp):Same H H:=fun _ _ h=>h
theorem Same.trans{H H1 H2:Hp}(a:Same H H1)(b:Same H1 H2):Same H H2:=fun c o h=>b c o (a c o h)
theorem Same.free{H H':Hp}(e:Same H H'){l:Addr}(h:H' l=Option.none):H l=Option.none:=by
 cases q:H l with
 |none=>rfl
 |some o=>
  rw[e l o q]at h;cases h
end L2
namespace L2
open PySem PySem.Spec PyProof.Rows
section
variable{κ:Type}[DecidableEq κ]
end
section
variable{P:Program}{w:World}{H:Hp}{h:Heap}{a:Addr}
end
section
variable{X:Cx}{pins:List (Addr×Obj)}{σ:St}{H:Hp}{s:Shared}{a:Addr}{y v:V}{u r:Value}{o:Option V}{A:Around}{E:Value→Shared→Prop}
theorem Inv.big(I:Inv X pins σ H s):sysModules<s.heap.objs.size:=by
 have h:mainGlobals<s.heap.objs.size:=(I.mod.glob.keeps I.bk).lt;exact Nat.lt_trans (by decide) h
end
section
variable{X:Cx}{pins:List (Addr×Obj)}{σ:St}{H:Hp}{s:Shared}{a:Addr}{kvs:List (Key×V)}{k:Key}{u:Value}{A:Around}{E:Value→Shared→Prop}
end
section
variable{X:Cx}{o i e value:Expr}{pos pos' tpos:Pos}{td ty tv:TE}
end
theorem d0v{P:Program}{w:World}{H:Hp}(h:Heap)(hb:sysModules<h.objs.size):ObjOk P w H (h.push {cls:=.type "dict",data:=.dict #[]}) h.objs.size (.dK []):=
 ⟨Nat.zero_le _,beq_eq_false_iff_ne.mpr (Ne.symm (Nat.ne_of_lt hb)),[],.nil,Heap.DictOf.new h⟩
noncomputable def tDNewK:TE:=fun _ H Q=>∀p,H p=none→Q (.ref p) (upd H p (.dK []))
section
variable{X:Cx}{pos:Pos}
theorem d0u:PE X (.Dict [] [] pos) tDNewK:=fun pins s σ H Q I h=>
 wpAny_Dict_empty ⟨.ref s.heap.objs.size,_,I.laid (a:=s.heap.objs.size) (o:=.dK []) (t':=s.toks) (fun _ _ q=>Heap.get?_push_of_some _ q) (Nat.le_refl _) (d0v s.heap I.big),rfl,h _ (I.hok.fresh (Nat.le_refl _))⟩
end
structure M1(X:Cx)(o:Expr)(m:Str)(apos:Pos)(e:Expr)(cpos:Pos):Prop where
 base:attributeBase o m X.env (eval o X.env)=eval o X.env
 few:((backTo cpos (starEach [e] X.env)).all (fun x=>!x.1)&&(backToKw cpos (keywordEach [] X.env)).all (fun x=>x.1.isSome)
  &&decide (([e]:List Expr).length+([]:List Keyword).length+(if ([]:List Keyword).isEmpty then 0 else 1)<30))=true
 line:(apos.endLine==cpos.line)=true
 trees:backTo cpos (starEach [e] X.env)=[(false,eval e X.env)]
structure M2(X:Cx)(o:Expr)(m:Str)(apos:Pos)(e f:Expr)(cpos:Pos):Prop where
 base:attributeBase o m X.env (eval o X.env)=eval o X.env
 few:((backTo cpos (starEach [e,f] X.env)).all (fun x=>!x.1)&&(backToKw cpos (keywordEach [] X.env)).all (fun x=>x.1.isSome)
  &&decide (([e,f]:List Expr).length+([]:List Keyword).length+(if ([]:List Keyword).isEmpty then 0 else 1)<30))=true
 line:(apos.endLine==cpos.line)=true
 trees:backTo cpos (starEach [e,f] X.env)=[(false,eval e X.env),(false,eval f X.env)]
section
variable{X:Cx}{pins:List (Addr×Obj)}{σ:St}{H:Hp}{s:Shared}{a:Addr}{y d:V}{u r:Value}{o:Option V}{A:Around}{E:Value→Shared→Prop}
end
section
variable{X:Cx}{o e f:Expr}{apos cpos:Pos}{td ty tx:TE}
end
section
variable{X:Cx}{pins:List (Addr×Obj)}{σ:St}{H:Hp}{s:Shared}{a:Addr}{kvs:List (Key×V)}{A:Around}{E:Value→Shared→Prop}
end
section
variable{X:Cx}{pins:List (Addr×Obj)}{σ:St}{H:Hp}{s:Shared}{a:Addr}{y:V}{u:Value}{A:Around}{E:Value→Shared→Prop}
end
end L2
set_option maxHeartbeats 4000000
namespace PySem.W
open PySem PySem.Calls PyProof.Rows Builtin Builtin.ObjectAttr Builtin.Getset_descriptor
section
variable{prog:Program}{w:World}{A:Around}{E:Value→Shared→Prop}{R:Result→Shared→Prop}{h:Heap}{g:Array GenState}{d:Drawn}{t:Nat}{os:OsState}
variable{nm q:Str}{C N:Addr}{bs bm bmB:List Value}{hdct:Bool}{sn:List Str}{sub:List Value}{ab:Bool}{col:Option Bool}{dd:Option Addr}{k0 k1 k2 k3 k5:Option Value}{B newId initId:String}
noncomputable abbrev xObj(C t:Addr):Obj:={cls:=.ref C,data:=.fields #[.ref t,.none,.none,.none,.bool false,.none]}
noncomputable abbrev xTup(rest:List Value):Obj:={cls:=.type "tuple",data:=.seq rest.toArray}
theorem type_call_x(F:ExcBaseFacts B newId initId bmB)(T:OwnTail h bmB bm){rest:List Value}{f:Addr}
 (hC:h.get? C=some (excClassObj nm q C N bs bm hdct sn sub ab col dd k0 k1 k2 k3 k5 newId))
 (hi:Looks (model prog w) h (typeLookup (.ref C) "__init__") (some (.ref f))) (hb:∀self,Looks (model prog w) h (bindSpecial (.ref f) self) (.ref f,[self]))
 (hq:codeAny (model prog w) (A.under (.builtin "type.__call__" ⟨.ref C::rest,[]⟩)) (.call (.ref f) ⟨.ref (h.objs.size+1)::rest,[]⟩) (InitBack (h.objs.size+1) R) ⟨(h.push (xTup rest)).push (xObj C h.objs.size),g,d,t,os⟩)
 (hrest:rest.length≤sizeLine):
 codeAny (model prog w) A (.call (.ref C) ⟨rest,[]⟩) R ⟨h,g,d,t,os⟩:=by
 have f1:=tc_lookup;have f2:=tc_bind (.ref C);have hT:(⟨h,g,d,t,os⟩:Shared).TypeIs (.ref C) "type":=⟨_,hC,rfl⟩;refine codeAny_of_tree ?_;show wpAny _ _ (callAny (.ref C) _) _ _ _
 repeat (any_goals (first |assumption |with_reducible refine wpAny_loadPart_at hC ?_ |wp_step))
 refine ⟨rfl,?_⟩;refine codeAny_call_builtin_at (Code.quiet_builtin _ (by decide +kernel)) entry_typeCall (wpAny_check_type_call_sub hC ?_)
 repeat (first |with_reducible refine wpAny_loadPart_at hC ?_ |with_reducible refine wpAny_madeBy_exc hC ?_ |wp_step)
 refine codeAny_call_builtin_code (Code.quiet_builtin _ F.quiet) (wpAny_check_new_subT F T hC ?_);refine codeAny_exc_new_subT F T hC ?_ hrest;show wpAny _ _ _ _ _ _;have k:∀b o,h.get? b=some o→((h.push (xTup rest)).push (xObj C h.objs.size)).get? b=some o:=fun b o e=>Heap.get?_push_of_some _ (Heap.get?_push_of_some _ e)
 have hC₁:=k _ _ hC;have hget:((h.push (xTup rest)).push (xObj C h.objs.size)).get? (h.objs.size+1)=some (xObj C h.objs.size):=by heap_get
 have hcC:(Value.ref C::bm).contains (.ref C)=true:=by simp
 have i1:=hi.keeps k;have b1:=(hb (.ref (h.objs.size+1))).keeps k;unfold isInstance
 repeat (first |with_reducible refine wpAny_loadPart_at hget ?_ |(with_reducible refine wpAny_isSubtype_exc hC₁ ?_;rw[hcC])|wp_step)
 refine wpAny_isSubtype_exc hC₁ ?_;rw[hcC];have t1:Looks (model prog w) ((h.push (xTup rest)).push (xObj C h.objs.size)) (typeOf (.ref (h.objs.size+1))) (.ref C):=(Looks.ld hget).andThen .now;unfold callSpecial? specialOf;simp only[Bool.not_true,Bool.false_eq_true,if_false];refine wpAny_bind (wpAny_holding (wpAny_bind (wpAny_bind (t1.at (i1.at ?_)))));dsimp only;refine wpAny_holding (wpAny_bind (b1.at (wpAny_bind (wpAny_call (codeAny_mono hq fun r s' z=>?_)))));rcases r with e |(v |_ |_ |_)<;>first |exact z |exact z.elim |skip
 obtain ⟨rfl,z⟩:=z;exact wpAny_pure (wpAny_pure z)
end
end PySem.W
namespace PySem.W
open PySem PySem.Calls PyProof.Rows Builtin Builtin.ObjectAttr Builtin.Getset_descriptor
noncomputable abbrev veMro:List Value:=[.type "ValueError",.type "Exception",.type "BaseException",.type "object"]
noncomputable def k0l:List Value→Bool
 | .ref _::r=>k0l r
 |l=>l==veMro
theorem o0g(self:Value):∀{l:List Value},k0l l=true→refuseLoop self "__setattr__" l=pure ()
 | .ref c::r,e=>by rw[refuseLoop_ref];exact o0g self (l:=r) e
 | [],e=>by cases e
 | .type n::r,e=>by
  have e':(Value.type n::r)=veMro:=beq_iff_eq.mp e;rw[e'];exact PySem.F.store_ValueError.passes self
 | .none::r,e=>by cases (beq_iff_eq.mp e:(Value.none::r)=veMro)
 | .bool _::r,e=>by cases (beq_iff_eq.mp e:(Value.bool _::r)=veMro)
 | .int _ _::r,e=>by cases (beq_iff_eq.mp e:(Value.int _ _::r)=veMro)
 | .str _ _::r,e=>by cases (beq_iff_eq.mp e:(Value.str _ _::r)=veMro)
 | .bytes _ _::r,e=>by cases (beq_iff_eq.mp e:(Value.bytes _ _::r)=veMro)
 | .float _ _::r,e=>by cases (beq_iff_eq.mp e:(Value.float _ _::r)=veMro)
 | .builtin _::r,e=>by cases (beq_iff_eq.mp e:(Value.builtin _::r)=veMro)
 | .notImplemented::r,e=>by cases (beq_iff_eq.mp e:(Value.notImplemented::r)=veMro)
 | .ellipsis::r,e=>by cases (beq_iff_eq.mp e:(Value.ellipsis::r)=veMro)
theorem a0o:∀{l:List Value} {b:Value},k0l l=true→veMro.contains b=true→l.contains b=true
 | .ref c::r,b,e,q=>by rw[List.contains_cons,a0o (l:=r) e q,Bool.or_true]
 | [],b,e,q=>by cases e
 | .type n::r,b,e,q=>by rw[(beq_iff_eq.mp e:(Value.type n::r)=veMro)];exact q
 | .none::r,_,e,_=>by cases (beq_iff_eq.mp e:(Value.none::r)=veMro)
 | .bool _::r,_,e,_=>by cases (beq_iff_eq.mp e:(Value.bool _::r)=veMro)
 | .int _ _::r,_,e,_=>by cases (beq_iff_eq.mp e:(Value.int _ _::r)=veMro)
 | .str _ _::r,_,e,_=>by cases (beq_iff_eq.mp e:(Value.str _ _::r)=veMro)
 | .bytes _ _::r,_,e,_=>by cases (beq_iff_eq.mp e:(Value.bytes _ _::r)=veMro)
 | .float _ _::r,_,e,_=>by cases (beq_iff_eq.mp e:(Value.float _ _::r)=veMro)
 | .builtin _::r,_,e,_=>by cases (beq_iff_eq.mp e:(Value.builtin _::r)=veMro)
 | .notImplemented::r,_,e,_=>by cases (beq_iff_eq.mp e:(Value.notImplemented::r)=veMro)
 | .ellipsis::r,_,e,_=>by cases (beq_iff_eq.mp e:(Value.ellipsis::r)=veMro)
structure XC(K:Frag)(C:Addr):Prop where
 over:(clsIn K C).any (fun cd=>k0l cd.mro)=true
 sa:findIn K (.ref C) "__setattr__"=some (some (.builtin "object.__setattr__"))
 ga:findIn K (.ref C) "__getattribute__"=some (some (.builtin "BaseException.__getattribute__"))
 gh:findIn K (.ref C) "__getattr__"=some none
 hd:hasDictIn K C=true
 ca:findIn K (.ref C) "__class__"=some (some (.builtin "object.__class__"))
 cg:specialIn K (.builtin "object.__class__") "__get__"=some (some (.builtin "getset_descriptor.__get__"))
 ct:takesIn K (.builtin "object.__class__")=some true
section
variable{prog:Program}{w:World}{A:Around}{E:Value→Shared→Prop}{K:Frag}{C x:Addr}{s:Shared}{R:Result→Shared→Prop}
theorem XC.mro(c:XC K C){b:Value}(hb:veMro.contains b=true):mroIn K C b=some true:=by
 obtain ⟨cd,hc,ho⟩:=any_some c.over;have ne:cd.mro.isEmpty=false:=by cases q:cd.mro with |nil=>rw[q]at ho;cases ho |cons _ _=>rfl
 unfold mroIn;rw[hc,Option.bind_some,if_neg (by rw[ne];decide),a0o ho hb]
theorem osa_x{ox:Obj}{od:Option Obj}{name:Str}{tk:Tok}{v:Value}{r:Option Value}(X:K.In s.heap)(I:InstAt s.heap x ox C od)(c:XC K C)(ht:takerIn K C name=some r)
 (h:∀b,wpAny (model prog w) A.in1 (match r with |some a=>setByDescriptor a (.ref x) v |none=>storeInOwnDict (.ref x) (.ref C) (.str name tk) name v b)
  (fun fin s'=>match fin with | .done f=>R (.ok f) s' | .again c'=>c'.quiet=true∧codeAny (model prog w) A c' R s') (fun e s'=>R (.error e) s') s):
 codeAny (model prog w) A (.call (.builtin "object.__setattr__") ⟨[.ref x,.str name tk,v],[]⟩) R s:=by
 have SF:=PySem.F.store_object;obtain ⟨cd,hc,ho⟩:=any_some c.over;have sub:Looks (model prog w) s.heap (isInstance (.ref x) (.type "object")) true:=I.type.andThen (looks_mroIn X (c.mro (by decide)));refine codeAny_call_builtin SF.slot.plain SF.entry (@check_slot (model prog w) _ _ s "object.__setattr__" "object" "__setattr__" (.ref x) [.str name tk,v] [] _ SF.kind SF.split sub (SF.args (.ref x) (.str name tk) v) ?_);obtain ⟨attr,ha,hr⟩:=Option.bind_eq_some_iff.mp ht;have hm:Looks (model prog w) s.heap (mroOf (.ref C)) cd.mro:=(looks_clsIn X hc).andThen .now;have L3:Looks (model prog w) s.heap (storeTaker? attr) r:=by
  cases attr with
  |none=>cases hr;exact .now
  |some a=>
   obtain ⟨b,hb,rfl⟩:=Option.map_eq_some_iff.mp hr;refine (looks_takesIn X hb).andThen ?_;cases b<;>exact .now
 rw[osa_eq,refuse_eq];refine wpAny_bind (wpAny_bind (I.type.here (wpAny_bind (hm.here ?_))));rw[o0g _ ho];refine wpAny_pure (wpAny_bind (I.type.here (wpAny_bind ((looks_findIn X ha).here (wpAny_bind (L3.here ?_))))));exact h _
theorem set_x0{name:Str}{v:Value}{Q:Unit→Shared→Prop}{vs:Array Value}(X:K.In s.heap)(c:XC K C)(hx:s.heap.get? x=some ⟨.ref C,none,.fields vs,#[]⟩)(ht:takerIn K C name=some none)
 (h:∀h',h'.get? x=some ⟨.ref C,some s.heap.objs.size,.fields vs,#[]⟩→h'.Ns1 s.heap.objs.size (fun y=>if y=name then some v else none)→
  (∀b o,b≠x→s.heap.get? b=some o→h'.get? b=some o)→Q () {s with heap:=h',toks:=s.toks+2}):
 wpAny (model prog w) A (setAttr (.ref x) name v) Q E s:=by
 have J:InstAt s.heap x ⟨.ref C,none,.fields vs,#[]⟩ C none:=⟨hx,rfl,rfl,trivial⟩;refine set_plain X J c.sa (osa_x (s:={s with toks:=s.toks+1}) (r:=none) X J c ht fun b=>?_);obtain ⟨cd,hc,hd'⟩:=any_some c.hd;obtain ⟨hp,g,d,t,os⟩:=s;refine wpAny_bind (wpAny_pure (wpAny_bind (wpAny_bind (wpAny_loadPart hx (wpAny_bind (Looks.here (s:=⟨hp,g,d,t+1,os⟩) (looks_clsIn X hc) ?_))))));rw[hd'];have hx₁:(hp.push {cls:=.type "dict",data:=.dict #[]}).get? x=some ⟨.ref C,none,.fields vs,#[]⟩:=Heap.get?_push_of_some _ hx;have hxs:x≠hp.objs.size:=Nat.ne_of_lt (Heap.lt_size hx);show wpAny _ _ (alloc {cls:=.type "dict",data:=.dict #[]} >>= fun d=>update x (fun o=>{cls:=o.cls,dict:=some d,data:=o.data,slots:=o.slots}) >>= fun _=>dictMade (.ref C) x d) _ _ _;refine wpAny_bind (wpAny_alloc' ?_);refine wpAny_bind (wpAny_update' hx₁ ?_);refine wpAny_pure ?_;have hgd:((hp.push {cls:=.type "dict",data:=.dict #[]}).update x fun o=>{cls:=o.cls,dict:=some hp.objs.size,data:=o.data,slots:=o.slots}).get? hp.objs.size
  =some {cls:=.type "dict",data:=.dict #[]}:=
  (Heap.get?_update_ne _ _ _ _ hxs.symm).trans (Heap.get?_push_at rfl rfl)
 have hnd:((hp.push {cls:=.type "dict",data:=.dict #[]}).update x fun o=>{cls:=o.cls,dict:=some hp.objs.size,data:=o.data,slots:=o.slots}).Ns hp.objs.size (fun _=>none):=
  ⟨_,#[],_,hgd,rfl,fun e he=>absurd he (by simp),fun _=>rfl⟩
 show wpAny _ _ (storeInDict hp.objs.size (.str name t) name v) _ _ _;unfold storeInDict newKeyGuard;refine wpAny_bind (wpAny_pure (wpAny_bind (wpAny_nsSet1 (Heap.Ns1.of_empty hnd) fun h' hn' hs=>?_)));obtain ⟨oD,esD,epD,hoD,hdD,hcD⟩:=hn'.count (Within.cons name v Within.nil);refine wpAny_bind (wpAny_lookBehind hoD (by rw[hdD];exact pastItsLine_dict (Nat.le_trans hcD (by rw[List.length_cons,List.length_nil,sizeLine_eq];omega))) ?_);refine wpAny_pure (h h' ?_ hn' fun b o hb e=>?_)
 ·refine (hs.2 x hxs).trans (Heap.get?_update_self _ hx₁ rfl)
 ·exact (hs.2 b (Nat.ne_of_lt (Heap.lt_size e))).trans ((Heap.get?_update_ne _ _ _ _ hb).trans (Heap.get?_push_of_some _ e))
theorem d0t:builtinKind "BaseException.__getattribute__"=some .slot:=by decide +kernel
theorem h0f:splitId "BaseException.__getattribute__"=some ("BaseException","__getattribute__"):=by decide +kernel
theorem bga_slot:Slot "ValueError" "__getattribute__" "BaseException.__getattribute__":=
 .of (owner:="BaseException") (n:="__getattribute__") (by rw[typeLookup_type,builtinLookup_eq_fast];kernel_rfl) (by decide +kernel) (by decide +kernel) (by decide +kernel)
  (by first |exact .inl (by decide +kernel)|exact .inr (by decide +kernel)) (by rw[isSubtype_type];kernel_rfl)
theorem h0e{ox:Obj}{od:Option Obj}{name:Str}{fill expr:Bool}{r:Found}{t:Tok}{Q:Value→Shared→Prop}(X:K.In s.heap)(I:InstAt s.heap x ox C od)(c:XC K C)
 (hf:findObj K C od name=some r)
 (h:wpAny (model prog w) A.in1 (match r with | .value v=>ret v | .bind g a=>bindTo g a (.ref x) (.ref C)| .missing=>unsupported "") (fun fin s'=>∃v,fin=.done (.ret v)∧wpAny (model prog w) A (handedOut v) Q E s') (fun _ _=>False) s)
 (hr:r≠.missing):wpAny (model prog w) A (getAttrBy (.ref x) (.str name t) fill expr) Q E s:=by
 obtain ⟨hp,g,d,tk,os⟩:=s;have L0:=I.type (M:=model prog w);have L1:=looks_findIn (M:=model prog w) X c.ga;have LG:=looks_findIn (M:=model prog w) X c.gh;have L2:=looks_find (M:=model prog w) X I hf;have hx0:(expr&&onTheHeap (Value.builtin "BaseException.__getattribute__"))=false:=by cases expr<;>rfl
 have hx2:(Value.builtin "BaseException.__getattribute__"==Value.builtin "object.__getattribute__")=false:=by decide +kernel
 have hx1:(onTheHeap (Value.ref C)&&Value.builtin "BaseException.__getattribute__"==Value.builtin "object.__getattribute__")=false:=by rw[hx2];rfl
 have sub:Looks (model prog w) hp (isInstance (.ref x) (.type "BaseException")) true:=I.type.andThen (looks_mroIn X (c.mro (by decide)));have hbnd:=bga_slot.bind (.ref x);unfold getAttrBy;refine wpAny_holding (wpAny_bind (L0.at (wpAny_bind (L1.at ?_))));dsimp only;rw[if_neg (by rw[hx1];decide)];unfold getAttrByItsOwn hookBefore;rw[if_pos (show onTheHeap (Value.ref C)=true from rfl)];refine wpAny_bind (LG.at (wpAny_bind (wpAny_attempt (wpAny_holding ?_))));unfold callGetattribute;rw[if_neg (by rw[hx0];decide)];unfold boundAndCalled;rw[hbnd];refine wpAny_bind (wpAny_pure ?_);refine wpAny_call (codeAny_call_builtin bga_slot.plain F.entry_bexc_ga (@check_slot (model prog w) _ _ ⟨hp,g,d,tk,os⟩ "BaseException.__getattribute__" "BaseException" "__getattribute__" (.ref x) [.str name t] [] _ d0t h0f sub (F.args_bexc_ga (.ref x) (.str name t)) ?_));refine wpAny_bind (wpAny_pure (wpAny_bind (wpAny_pure (wpAny_bind (L0.at (wpAny_bind (L2.at ?_)))))));cases r with
 |value v=>
  refine wpAny_mono h (fun fin s' z=>?_) fun _ _ z=>z.elim
  obtain ⟨v,rfl,z⟩:=z;exact z
 |bind g a=>
  refine wpAny_mono h (fun fin s' z=>?_) fun _ _ z=>z.elim
  obtain ⟨v,rfl,z⟩:=z;exact z
 |missing=>exact absurd rfl hr
theorem get_x{ox:Obj}{od:Option Obj}{name:Str}{expr:Bool}{v:Value}{Q:Value→Shared→Prop}(X:K.In s.heap)(I:InstAt s.heap x ox C od)(c:XC K C)
 (hf:findObj K C od name=some (.value v)) (hh:handedIn v=true) (h:Q v {s with toks:=s.toks+1}):wpAny (model prog w) A (getAttr (.ref x) name expr) Q E s:=by
 unfold getAttr;refine wpAny_bind (wpAny_mkText (h0e (s:={s with toks:=s.toks+1}) X I c hf (wpAny_pure ⟨v,rfl,?_⟩) (fun q=>by cases q)));rw[handedOut_of hh];exact wpAny_pure h
theorem cls_x{ox:Obj}{od:Option Obj}{Q:Option Value→Shared→Prop}(X:K.In s.heap)(I:InstAt s.heap x ox C od)(c:XC K C)(h:Q (some (.ref C)) {s with toks:=s.toks+1}):
 wpAny (model prog w) A (getAttr? (.ref x) "__class__") Q E s:=by
 have hf:findObj K C od "__class__"=some (.bind (.builtin "getset_descriptor.__get__") (.builtin "object.__class__")):=by
  obtain ⟨cd,hc,_⟩:=any_some c.hd;unfold findObj;rw[hc,Option.bind_some,c.ca,Option.bind_some];show ((specialIn K (.builtin "object.__class__") "__get__").bind _)=_;rw[c.cg,Option.bind_some];show ((takesIn K (.builtin "object.__class__")).bind _)=_;rw[c.ct];rfl
 unfold getAttr? getAttrBy?;refine wpAny_bind (wpAny_mkText (wpAny_bind (wpAny_attempt (h0e (s:={s with toks:=s.toks+1}) X I c hf ?_ (fun q=>by cases q)))));show wpAny _ _ (holding [_] (call (.builtin "getset_descriptor.__get__") [.builtin "object.__class__",.ref x,.ref C]) >>= ret) _ _ _;refine wpAny_bind (wpAny_holding (wpAny_call (class_get (s:={s with toks:=s.toks+1}) X I (c.mro (by decide)) (wpAny_pure ⟨_,rfl,?_⟩))));exact handed_on rfl (wpAny_pure h)
theorem kitx_x{ox:Obj}{od:Option Obj}(c:XC K C):KitX K (.ref x) (.ref C) (fun h=>InstAt h x ox C od)where
 ty:=fun _ _ _ I=>I.type
 it:=fun _ _ X _=>by
  obtain ⟨cdD,hcD,_⟩:=any_some c.hd;unfold clsIn at hcD;split at hcD
  ·rename_i c' d' cd' sl' ho;intro A' Q' E' s' k q;unfold isType loadHead;exact wpAny_bind (wpAny_loadPart (k _ _ (X _ _ ho)) (wpAny_pure q))
  ·cases hcD
 ne:=fun h tp dd its n sl X htp=>by
  obtain ⟨cdD,hcD,_⟩:=any_some c.hd;refine Bool.eq_false_iff.mpr fun q=>?_
  have e:C=tp:=Value.ref.inj (beq_iff_eq.mp q);subst e;unfold clsIn at hcD;split at hcD
  ·rename_i c' d' cd' sl' ho;have z:=(X _ _ ho).symm.trans htp;cases z
  ·cases hcD
 ca:=fun X I k=>cls_x X I c k
end
end PySem.W
namespace L2
open PySem PySem.Spec PyProof.Rows
open PySem.W (XC)
noncomputable def XO(fr:Nat)(x C:Addr)(od:Option Addr):HO:=.ext fun h=>∃o vs,h.get? x=some o∧o.cls=.ref C∧o.dict=od∧o.data=.fields vs∧((fr=1→o.slots=#[]∧vs[1]?=some .none∧4<vs.size)∧(fr≠0→vs[2]?=some .none))
noncomputable def XD(dx:Addr)(fs:List (Str×V)):HO:=.ext fun h=>∃mA,h.Ns1 dx mA∧(∀f,RelO (fs.lookup f) (mA f))∧PySem.Within mA (fs.map (·.1))
theorem XO.ok{P:Program}{w:World}{H:Hp}{h:Heap}{fr:Nat}{x C:Addr}{od:Option Addr}(hx:∃o vs,h.get? x=some o∧o.cls=.ref C∧o.dict=od∧o.data=.fields vs∧((fr=1→o.slots=#[]∧vs[1]?=some .none∧4<vs.size)∧(fr≠0→vs[2]?=some .none))):ObjOk P w H h x (XO fr x C od):=by
 refine ⟨hx,?_,fun h1 h2 q k=>?_⟩
 ·obtain ⟨o,_,e,_⟩:=hx;exact ⟨o,e⟩
 ·obtain ⟨o,vs,e,r⟩:=q;exact ⟨o,vs,k o e,r⟩
theorem XD.ok{P:Program}{w:World}{H:Hp}{h:Heap}{dx:Addr}{fs:List (Str×V)}(hx:∃mA,h.Ns1 dx mA∧(∀f,RelO (fs.lookup f) (mA f))∧PySem.Within mA (fs.map (·.1))):ObjOk P w H h dx (XD dx fs):=by
 refine ⟨hx,?_,fun h1 h2 q k=>?_⟩
 ·obtain ⟨mA,⟨o,es,ep,e,_⟩,_⟩:=hx;exact ⟨o,e⟩
 ·obtain ⟨mA,⟨o,es,ep,e,r⟩,z⟩:=q;exact ⟨mA,⟨o,es,ep,k o e,r⟩,z⟩
theorem XO.get{P:Program}{w:World}{H:Hp}{h:Heap}{fr:Nat}{x C:Addr}{od:Option Addr}(hok:HOk P w H h)(e:H x=some (XO fr x C od)):
 ∃o vs,h.get? x=some o∧o.cls=.ref C∧o.dict=od∧o.data=.fields vs∧((fr=1→o.slots=#[]∧vs[1]?=some .none∧4<vs.size)∧(fr≠0→vs[2]?=some .none)):=(show ObjOk P w H h x (XO fr x C od)from hok x _ e).1
theorem XD.get{P:Program}{w:World}{H:Hp}{h:Heap}{dx:Addr}{fs:List (Str×V)}(hok:HOk P w H h)(e:H dx=some (XD dx fs)):
 ∃mA,h.Ns1 dx mA∧(∀f,RelO (fs.lookup f) (mA f))∧PySem.Within mA (fs.map (·.1)):=(show ObjOk P w H h dx (XD dx fs)from hok dx _ e).1
section
variable{X:Cx}{pins:List (Addr×Obj)}{σ:St}{H:Hp}{s:Shared}{x C dx:Addr}{fs:List (Str×V)}{f:Str}{v:V}{A:Around}{E:Value→Shared→Prop}
theorem xset0{y:V}{u:Value}{Q:Unit→Shared→Prop}(I:Inv X pins σ H s)(e:H x=some (XO 1 x C none))(c:XC X.K C)(n:NoAttr X.K C f)(ry:RelV y u)
 (h:∀d s',H d=none→d≠x→Inv X pins σ (upd (upd H d (XD d [(f,y)])) x (XO 1 x C (some d))) s'→Q () s'):wpAny (model X.prog X.w) A (setAttr (.ref x) f u) Q E s:=by
 obtain ⟨o,vs,hx,h1,h2,h3,h40⟩:=XO.get I.hok e;obtain ⟨h4,h5,h7⟩:=h40.1 rfl;have h6:=h40.2;clear h40;obtain ⟨oc,od,odt,osl⟩:=o;dsimp only at h1 h2 h3 h4;subst h1 h2 h3 h4;have hxs:x≠s.heap.objs.size:=Nat.ne_of_lt (Heap.lt_size hx);refine PySem.W.set_x0 I.kIn c hx n.taker fun h' e1 e2 e3=>h s.heap.objs.size _ (I.hok.fresh (Nat.le_refl _)) hxs.symm ?_
 have mu:Mut (H x):=by rw[e];exact True.intro
 have keep:∀b o,b≠x→s.heap.get? b=some o→h'.get? b=some o:=e3;have hx':∃o vs,h'.get? x=some o∧o.cls=.ref C∧o.dict=some s.heap.objs.size∧o.data=.fields vs∧((1=1→o.slots=#[]∧vs[1]?=some .none∧4<vs.size)∧(1≠0→vs[2]?=some .none)):=⟨_,vs,e1,rfl,rfl,rfl,fun _=>⟨rfl,h5,h7⟩,h6⟩;have hfree:H s.heap.objs.size=none:=I.hok.fresh (Nat.le_refl _);have neF:∀b o,s.heap.get? b=some o→b≠s.heap.objs.size:=fun b o q=>Nat.ne_of_lt (Heap.lt_size q)
 have neT:∀b u,H b=some u→b≠s.heap.objs.size:=fun b u q z=>by rw[z,hfree]at q;cases q
 have nx:∀b,H b=none→b≠x:=fun b q z=>by rw[z,e]at q;cases q
 have tr:∀b u,H b=some u→b≠x→(upd (upd H s.heap.objs.size (XD s.heap.objs.size [(f,y)])) x (XO 1 x C (some s.heap.objs.size))) b=some u:=fun b u q z=>by rw[j0 z,j0 (neT b u q)];exact q
 refine I.un (t':=s.toks+2) ⟨fun b o q q2 _ _=>keep b o (nx b q2) q,fun b o q q2 _ _=>⟨o.slots,keep b o (nx b q2) q⟩,fun b o q q2 _=>?_,fun b o q _=>?_,fun b xs q=>?_,fun b o u q=>?_,fun b ps q=>⟨#[],?_⟩⟩ ?_
 ·rw[j0 (nx b q2),j0 (neF b o q)];exact q2
 ·by_cases z:b=x
  ·subst z;exact ⟨_,e1⟩
  ·exact ⟨o,keep b o z q⟩
 ·exact tr b _ q (fun z=>by rw[z,e]at q;cases q)
 ·exact tr b _ q (fun z=>by rw[z,e]at q;cases q)
 ·rw[tr b _ q (fun z=>by rw[z,e]at q;cases q)];simp
 ·intro b u q;by_cases z:b=x
  ·subst z;rw[l4]at q;cases q;exact XO.ok hx'
  ·rw[j0 z]at q;by_cases z2:b=s.heap.objs.size
   ·subst z2;rw[l4]at q;cases q;refine XD.ok ⟨_,e2,fun g=>?_,fun g hg=>?_⟩
    ·have l:=s0y f g y [];rw[show putF f y []=[(f,y)]from rfl]at l;rw[l];by_cases w:g=f
     ·rw[if_pos w,if_pos w];exact ry
     ·rw[if_neg w,if_neg w];exact True.intro
    ·by_cases w:g=f
     ·rw[w];simp
     ·exact absurd (if_neg w) hg
   ·rw[j0 z2]at q;refine (I.hok b u q).stay (fun c' v' hc q'=>keep c' v' ?_ q') (fun b' q'=>tr b' _ q' (fun z=>by rw[z,e]at q';cases q')) (fun b' xs q'=>tr b' _ q' (fun z=>by rw[z,e]at q';cases q'));rcases hc with hc |hc
    ·rw[hc];exact z
    ·exact fun z=>by rw[z,e]at hc;cases hc
theorem XO.inst{fr:Nat}{od:Option Addr}(I:Inv X pins σ H s)(e:H x=some (XO fr x C od))(he:∀d,od=some d→∃o,s.heap.get? d=some o):∃ox odo,PySem.W.InstAt s.heap x ox C odo∧∀d,od=some d→∃o,odo=some o∧s.heap.get? d=some o:=by
 obtain ⟨o,vs,hx,h1,h2,h3,_⟩:=XO.get I.hok e;cases od with
 |none=>exact ⟨o,none,⟨hx,h1,by unfold PySem.W.notCls;rw[h3],by rw[h2];trivial⟩,fun d z=>by cases z⟩
 |some d=>
  obtain ⟨od,hd⟩:=he d rfl;exact ⟨o,some od,⟨hx,h1,by unfold PySem.W.notCls;rw[h3],by rw[h2];exact hd⟩,fun d' z=>by cases z;exact ⟨od,rfl,hd⟩⟩
theorem xget{fr:Nat}{b:Bool}{Q:Value→Shared→Prop}(I:Inv X pins σ H s)(e:H x=some (XO fr x C (some dx)))(ed:H dx=some (XD dx fs))(c:XC X.K C)(n:NoAttr X.K C f)(l:fs.lookup f=some v)
 (h:∀u s',Inv X pins σ H s'→RelV v u→Q u s'):wpAny (model X.prog X.w) A (getAttr (.ref x) f b) Q E s:=by
 obtain ⟨mA,hn,r,wi⟩:=XD.get I.hok ed;obtain ⟨u,hu,ru⟩:=RelO.some_of (v:=v) (o:=mA f) (by rw[←l];exact r f);obtain ⟨od,hod,hl⟩:=s0z hn;obtain ⟨ox,odo,J,k⟩:=XO.inst I e fun d z=>by cases z;exact ⟨od,hod⟩
 obtain ⟨o',rfl,ho'⟩:=k dx rfl;rw[hod]at ho';cases ho';exact PySem.W.get_x I.kIn J c (PySem.W.findObj_own c.hd n rfl (by rw[hl,hu])) (h0p ru) (h u _ (I.tok _) ru)
end
noncomputable def sX0(K:PySem.W.Frag)(ta tv:TE)(f:Str):TS:=fun D σ H=>tv σ H fun y H1=>ta σ H1 fun x H2=>∃a C,x=.ref a∧H2 a=some (XO 1 a C none)∧XC K C∧NoAttr K C f∧
 ∀d,H2 d=none→d≠a→D.nx σ (upd (upd H2 d (XD d [(f,y)])) a (XO 1 a C (some d)))
noncomputable def tXFld(K:PySem.W.Frag)(ta:TE)(f:Str):TE:=fun σ H Q=>ta σ H fun x H1=>∃fr a C d fs v,x=.ref a∧H1 a=some (XO fr a C (some d))∧H1 d=some (XD d fs)∧XC K C∧NoAttr K C f∧fs.lookup f=some v∧Q v H1
section
variable{X:Cx}{o e value:Expr}{f:Str}{pos pos' tpos:Pos}{ta tv:TE}
theorem ps_x0(ha:PE X o ta)(hv:PE X value tv)(hs:swapsWith value (some (.Attribute o f pos')) pos.line X.env=pure false):PS X (.Assign [.Attribute o f pos'] value pos) (sX0 X.K ta tv f):=by
 intro pins s σ H D I h;refine plainObj_wpAny_Assign_Attribute (thn (hv pins s σ H _ I h) fun u s1 ⟨y,H1,I1,ry,q⟩=>thn (ha pins s1 σ H1 _ I1 q) fun ov s2 ⟨x,H2,I2,rx,a,C,ex,ea,c,n,q2⟩=>?_) hs;subst ex;obtain rfl:ov=Value.ref a:=rx;exact xset0 I2 ea c n ry fun d s3 hd hne I3=>⟨σ,_,I3,q2 d hd hne⟩
theorem y1x(he:PE X e ta)(hb:attributeBase e f X.env (eval e X.env)=eval e X.env):PE X (.Attribute e f pos) (tXFld X.K ta f):=by
 intro pins s σ H Q I h;refine z1f hb (thn (he pins s σ H _ I h) fun u s1 ⟨x,H1,I1,rx,fr,a,C,dx,fs,v,ex,ea,ed,c,n,l,q⟩=>?_);subst ex;obtain rfl:u=Value.ref a:=rx;exact xget I1 ea ed c n l fun u' s2 I2 ru=>⟨v,H1,I2,ru,q⟩
end
noncomputable def xcIn(K:PySem.W.Frag)(C:Addr):Bool:=match K.lookup C with
 |some ⟨.type "type",_,.cls cd,sl⟩=>(match cd.mro,sl.toList with
  | .ref C'::bm,[_,_,_,_,some (.builtin n),_]=>C'==C&&n=="ValueError.__new__"&&!cd.hasDel&&PySem.W.tailIn K PySem.W.veMro bm
  |_,_=>false)
 |_=>false
theorem a0n{K:PySem.W.Frag}{h:Heap}{C:Addr}(X:K.In h)(q:xcIn K C=true):∃nm qn N bs bm hdct sn sub ab col dd k0 k1 k2 k3 k5,
 h.get? C=some (excClassObj nm qn C N bs bm hdct sn sub ab col dd k0 k1 k2 k3 k5 "ValueError.__new__")∧OwnTail h PySem.W.veMro bm:=by
 unfold xcIn at q;split at q
 ·rename_i dd cd sl ho;split at q
  ·rename_i C' bm k0 k1 k2 k3 n k5 hm hs;simp only[Bool.and_eq_true,beq_iff_eq,Bool.not_eq_true']at q;obtain ⟨⟨⟨rfl,rfl⟩,hdel⟩,ht⟩:=q;obtain ⟨nm,bs,mro,ns,qn,hd,sn,sub,ab,col,del⟩:=cd;dsimp only at hm hdel;subst hm hdel;have hsl:sl=#[k0,k1,k2,k3,some (.builtin "ValueError.__new__"),k5]:=by
    obtain ⟨l⟩:=sl;simp only at hs;rw[hs]
   subst hsl;exact ⟨nm,qn,ns,bs,bm,hd,sn,sub,ab,col,dd,k0,k1,k2,k3,k5,X _ _ ho,PySem.W.tail_of_in X ht⟩
  ·cases q
 ·cases q
structure XMk(K:PySem.W.Frag)(C f:Addr):Prop where
 sh:xcIn K C=true
 init:PySem.W.findIn K (.ref C) "__init__"=some (some (.ref f))
 fn:PySem.W.isFn K (.ref f)=true
 kp:PySem.W.keepIn K (.ref C)=true
section
variable{X:Cx}{CX:CXT}{k:Nat}{f C:Addr}{fd:FuncData}{ps:List Str}{sp:Sp}{E:XK}{x m:Str}{p pos apos:Pos}{e o:Expr}{es:List Expr}{ta:TE}{t:TA}
theorem Inv.madeX{pins:List (Addr×Obj)}{σ:St}{H:Hp}{s:Shared}{us:List Value}(I:Inv X pins σ H s):
 Inv X pins σ (upd H (s.heap.objs.size+1) (XO 1 (s.heap.objs.size+1) C none)) {s with heap:=(s.heap.push (PySem.W.xTup us)).push (PySem.W.xObj C s.heap.objs.size)}:=by
 have I1:=I.kept (h':=s.heap.push (PySem.W.xTup us)) (t':=s.toks) fun b o e=>Heap.get?_push_of_some _ e
 have e2:((s.heap.push (PySem.W.xTup us)).push (PySem.W.xObj C s.heap.objs.size)).get? (s.heap.objs.size+1)=some (PySem.W.xObj C s.heap.objs.size):=by
  have:=Heap.get?_push_size (s.heap.push (PySem.W.xTup us)) (o:=PySem.W.xObj C s.heap.objs.size) rfl
  rwa[Heap.size_push]at this
 exact I1.laid (a:=s.heap.objs.size+1) (o:=XO 1 (s.heap.objs.size+1) C none) (t':=s.toks) (fun b u q=>Heap.get?_push_of_some _ q) (Nat.le_of_eq (Heap.size_push _ _)) (XO.ok ⟨_,_,e2,rfl,rfl,rfl,⟨fun _=>⟨rfl,rfl,by simp⟩,fun _=>rfl⟩⟩)
theorem o0f{pins:List (Addr×Obj)}{σ:St}{H:Hp}{s:Shared}{Q:VK}{us:List Value}{vs:List V}(M:XMk X.K C f)(F:FnOk X.prog X.w X.K X.mg X.base CX k f fd ps sp)(hr:Room (k+1) X.A)(hb:Binds X.K fd ps [])
 (hx:a0t CX X E) (I:Inv X pins σ H s) (r:Vals vs us) (hz:vs.length≤sizeLine)
 (hq:sp (.ref (s.heap.objs.size+1)::vs) (upd H (s.heap.objs.size+1) (XO 1 (s.heap.objs.size+1) C none)) (fun v H2=>v=.non∧Q (.ref (s.heap.objs.size+1)) H2) E):
 wpAny (model X.prog X.w) X.A (call (.ref C) us) (fun u s'=>u=.ref (s.heap.objs.size+1)∧EP X pins σ Q u s') X.xe s:=by
 have I2:=Inv.madeX (C:=C) (us:=us) I;have r2:Vals (V.ref (s.heap.objs.size+1)::vs) (Value.ref (s.heap.objs.size+1)::us):=.cons rfl r;have hl:(Value.ref (s.heap.objs.size+1)::us++[]).length=ps.length:=by
  have e:=r2.length;rw[F.len _ _ _ _ hq]at e;rw[List.append_nil];exact e.symm
 obtain ⟨nm,qn,N,bs,bm,hdct,sn,sub,ab,col,dd,k0,k1,k2,k3,k5,hC,hT⟩:=a0n I.kIn M.sh;have hbd:=hb _ (Value.ref (s.heap.objs.size+1)::us) I2.kIn hl;rw[List.append_nil]at hbd;have hrun:=F.run _ X.stack _ _ ⟨Value.ref (s.heap.objs.size+1)::us,[]⟩ (Value.ref (s.heap.objs.size+1)::us) _ _ E (hr.make C us []) (I2.env0.make C us []) hbd r2 hq;obtain ⟨hh,g,d,tk,os⟩:=s;refine wpAny_call (PySem.W.type_call_x PySem.F.excBase_ValueError hT hC (PySem.W.looks_findIn I.kIn M.init) (fun self=>PySem.W.bind_fn I.kIn self (beq_iff_eq.mp M.fn)) (codeAny_mono hrun fun r s' hq'=>?_) (by rw[←r.length];exact hz));cases r with
 |error e=>exact hx pins σ _ _ e s' I2 hq'
 |ok fl=>
  cases fl with
  |ret u=>
   obtain ⟨v,H',I3,rv,ev,q3⟩:=I2.after hq';subst ev;exact ⟨rv,rfl,⟨V.ref (hh.objs.size+1),H',I3,rfl,q3⟩⟩
  |next=>exact False.elim hq'
  |brk=>exact False.elim hq'
  |cont=>exact False.elim hq'
structure XMk0(K:PySem.W.Frag)(C:Addr):Prop where
 ex:PySem.W.excIn K C PySem.W.veMro "ValueError.__new__"=true
 kp:PySem.W.keepIn K (.ref C)=true
end
end L2
namespace L2
open PySem PySem.Spec PyProof.Rows
open PySem.W (XC)
inductive TyX(K:PySem.W.Frag)(H:Hp):V→Value→Prop where
 |of {x:V} {t:Value} (h:TyOf K H x t):TyX K H x t
 |exc {fr:Nat} {a C d:Addr} {fs:List (Str×V)} (e:H a=some (XO fr a C (some d))) (ed:H d=some (XD d fs)) (c:XC K C):TyX K H (.ref a) (.ref C)
 |exc0 {fr:Nat} {a C:Addr} (e:H a=some (XO fr a C none)) (c:XC K C):TyX K H (.ref a) (.ref C)
section
variable{X:Cx}
noncomputable def InstB(K:PySem.W.Frag)(H:Hp)(t:Value)(c:V)(b:Bool):Prop:=
 (∃n,c=.ty n∧PySem.W.kitOne K t (.type n)=some b)∨(∃C,c=.ref C∧PySem.W.kitOne K t (.ref C)=some b)∨∃(a:Addr) (cs:List String),c=.ref a∧H a=some (.tup (cs.map V.ty))∧PySem.W.kitAny K t (cs.map Value.type)=some b
noncomputable def rInst(K:PySem.W.Frag):List V→Hp→VK→Prop:=fun vs H Q=>∃x c t b,vs=[x,c]∧TyX K H x t∧InstB K H t c b∧Q (.bl b) H
theorem a0m:∀{cs:List String} {us:List Value},Vals (cs.map V.ty) us→us=cs.map Value.type
 | [],_,.nil=>rfl
 |c::cs,_,.cons r t=>by
  have e:_=Value.type c:=r;rw[e,a0m t];rfl
theorem a5{pins:List (Addr×Obj)}{s:Shared}{σ:St}{H:Hp}{Q:VK}{c:V}{u cv t:Value}{b:Bool}{HH:Heap→Prop}(I:Inv X pins σ H s)(Z:PySem.W.KitX X.K u t HH)(p:HH s.heap)(rc:RelV c cv)(e:InstB X.K H t c b)
 (hx:u≠.builtin "__main__.__loader__#opaque") (q:Q (.bl b) H):wpAny (model X.prog X.w) X.A (call (.builtin "isinstance") [u,cv]) (EP X pins σ Q) X.xe s:=by
 have fin:∀tk,EP X pins σ Q (.bool b) {s with toks:=tk}:=fun tk=>⟨.bl b,H,I.tok tk,rfl,q⟩
 rcases e with ⟨n,rfl,e⟩|⟨C,rfl,e⟩|⟨a,cs,rfl,ha,e⟩
 ·cases rc;exact PySem.W.kia_one Z I.kIn p e hx fin
 ·cases rc;exact PySem.W.kia_one Z I.kIn p e hx fin
 ·cases rc;obtain ⟨z,its,r,o,ho,hc,⟨n,hd⟩,_⟩:=(show ObjOk X.prog X.w H s.heap a (.tup (cs.map V.ty))from I.hok a _ ha);obtain rfl:=a0m r;obtain ⟨oc,od,odt,osl⟩:=o;dsimp only at hc hd;subst hc hd;exact PySem.W.kia_tup Z I.kIn p ho e hx fin
theorem f6:x0e X (.builtin "isinstance") (rInst X.K):=by
 intro pins s σ H xs us Q I rv h;obtain ⟨x,c,t,b,rfl,ty,e,q⟩:=h;obtain ⟨u,cv,rfl,rx,rc⟩:=Vals.two rv;cases ty with
 |exc ea ed c=>
  rename_i fr a C d fs;cases (show u=Value.ref a from rx);obtain ⟨mA,hn,_,_⟩:=XD.get I.hok ed;obtain ⟨od,hod,_⟩:=s0z hn;obtain ⟨ox,odo,J,k⟩:=XO.inst I ea fun d z=>by cases z;exact ⟨od,hod⟩
  exact a5 I (PySem.W.kitx_x c) J rc e (fun z=>nomatch z) q
 |exc0 ea c=>
  rename_i fr a C;cases (show u=Value.ref a from rx);obtain ⟨ox,odo,J,k⟩:=XO.inst I ea fun d z=>by cases z
  exact a5 I (PySem.W.kitx_x c) J rc e (fun z=>nomatch z) q
 |of ty=>
  cases ty with
  |non=>cases (show u=Value.none from rx);exact a5 I PySem.W.kitx_none True.intro rc e (fun z=>nomatch z) q
  |bl y=>cases (show u=Value.bool y from rx);exact a5 I PySem.W.kitx_bool True.intro rc e (fun z=>nomatch z) q
  |int i=>obtain ⟨t,z⟩:=(show ∃t,u=Value.int i t from rx);cases z;exact a5 I PySem.W.kitx_int True.intro rc e (fun z=>nomatch z) q
  |str y=>obtain ⟨t,z⟩:=(show ∃t,u=Value.str y t from rx);cases z;exact a5 I PySem.W.kitx_str True.intro rc e (fun z=>nomatch z) q
  |flt y=>obtain ⟨t,z⟩:=(show ∃t,u=Value.float y t from rx);cases z;exact a5 I PySem.W.kitx_float True.intro rc e (fun z=>nomatch z) q
  | @lst a xs ea=>
   cases (show u=Value.ref a from rx);obtain ⟨_,_,n,_,h1⟩:=(show ObjOk X.prog X.w H s.heap a (.lst xs)from I.hok a _ ea);exact a5 I PySem.W.kitx_list ⟨_,h1,rfl⟩ rc e (fun z=>nomatch z) q
  | @frz a ob xs ea=>
   cases (show u=Value.ref a from rx);obtain ⟨_,_,_,n,_,h1⟩:=(show ObjOk X.prog X.w H s.heap a (.frz ob (.lst xs))from I.hok a _ ea);exact a5 I PySem.W.kitx_list ⟨_,h1,rfl⟩ rc e (fun z=>nomatch z) q
  | @tup a xs ea=>
   cases (show u=Value.ref a from rx);obtain ⟨_,_,_,p⟩:=(show ObjOk X.prog X.w H s.heap a (.tup xs)from I.hok a _ ea);obtain ⟨o,h1,h2,_⟩:=p;exact a5 I PySem.W.kitx_tuple ⟨o,h1,h2⟩ rc e (fun z=>nomatch z) q
  | @dK a kvs ea=>
   cases (show u=Value.ref a from rx);obtain ⟨_,_,vs,_,p⟩:=(show ObjOk X.prog X.w H s.heap a (.dK kvs)from I.hok a _ ea);obtain ⟨o,es,ep,h1,h2,_⟩:=p;exact a5 I PySem.W.kitx_dict ⟨o,h1,h2.1⟩ rc e (fun z=>nomatch z) q
  | @dT a kvs ea=>
   cases (show u=Value.ref a from rx);obtain ⟨_,_,xs,_,o,es,ep,h1,h2,_⟩:=(show ObjOk X.prog X.w H s.heap a (.dT kvs)from I.hok a _ ea);exact a5 I PySem.W.kitx_dict ⟨o,h1,h2.1⟩ rc e (fun z=>nomatch z) q
  | @ins a C dx fs ea cl ha hn htk hm=>
   cases (show u=Value.ref a from rx);obtain ⟨mA,O,_⟩:=z1g I.hok ea;obtain ⟨od,J,_⟩:=O.look;exact a5 I (PySem.W.kitx_own (cl.get _) cl.hd ha hn htk hm) J rc e (fun z=>nomatch z) q
noncomputable def rAll(K:PySem.W.Frag):List V→Hp→VK→Prop:=fun vs H Q=>∃(a:Addr) (bs:List Bool),vs=[.ref a]∧SqL K H a (bs.map V.bl)∧Q (.bl (bs.all id)) H
theorem k0k:∀{bs:List Bool} {us:List Value},Vals (bs.map V.bl) us→PyProof.Rows.LSm.BoolsAre us bs
 | [],_,.nil=>.nil
 |b::bs,_,.cons r t=>by
  have e:_=Value.bool b:=r;subst e;exact .cons b (k0k t)
theorem q0c(hc:X.calm=true):x0e X (.builtin "all") (rAll X.K):=by
 intro pins s σ H xs us Q I rv h;obtain ⟨a,bs,rfl,hq,q⟩:=h;obtain ⟨u,rfl,ru⟩:=rv.one;cases (show u=Value.ref a from ru);obtain ⟨its,r,p,hz⟩:=I.list hq;have hl:=p.isList;have hb:=k0k r;have hlt:a<s.heap.objs.size:=by obtain ⟨_,e,_⟩:=hl;exact Heap.lt_size e
 refine call_all_walk (wpAny_pyIter_list hl ?_);refine ⟨s.heap.objs.size,[s.heap.objs.size,a],[s.heap.objs.size],its.toArray.size,_,_,fun i=>(bs[i]?).getD true,rfl,Walks.list (A:=X.A.in1) (I.ok.hd hc) _ a (Nat.ne_of_lt hlt) its.toArray,
  ⟨⟨_,Heap.get?_push_size _ rfl,rfl,rfl⟩,hl.push _⟩,fun i v s' Q' E' hP hQ=>?_,fun h' tk hk=>?_⟩
 ·obtain ⟨b,e,rfl⟩:=hb.get i v (by simpa using hP);simp only[e,Option.getD_some]at hQ;exact wpAny_truthy_bool hQ
 ·have e:((List.range its.toArray.size).all fun i=>(bs[i]?).getD true)=bs.all id:=by
   rw[List.size_toArray,hb.length];exact PyProof.Rows.LSm.range_all bs
  rw[e];exact ⟨.bl _,H,I.kept (PyProof.Rows.LSm.kept_iter hk),rfl,q⟩
end
end L2
namespace L2
open PySem PySem.Spec PyProof.Rows
theorem r0b{scope:Scope}{env:Env}(h:∀p∈scope.names,p.2=.free→∃c,env.cells.lookup p.1=some c):
 ∃cl,closureFor scope env=pure cl∧(∀y c,cl.lookup y=some c→env.cells.lookup y=some c)∧∀y,(y,NameKind.free)∈scope.names→∃c,cl.lookup y=some c:=by
 have key:∀(names:List (Str×NameKind)) (cs:List (Str×Addr)),(∀p∈names,p.2=.free→∃c,env.cells.lookup p.1=some c)→(∀y c,cs.lookup y=some c→env.cells.lookup y=some c)→
  ∃cl,(forIn names cs (fun (p:Str×NameKind) (r:List (Str×Addr))=>match p with |(name,kind)=>if (kind==NameKind.free)=true then cellOf env name >>= fun c=>pure (ForInStep.yield ((name,c)::r))else pure (ForInStep.yield r)):Sem (List (Str×Addr)))=pure cl∧
   (∀y c,cl.lookup y=some c→env.cells.lookup y=some c)∧(∀y,(y,NameKind.free)∈names→∃c,cl.lookup y=some c)∧∀y c,cs.lookup y=some c→∃c',cl.lookup y=some c':=by
  intro names
  induction names with
  |nil=>intro cs _ hc;exact ⟨cs,rfl,hc,(fun y hy=>by cases hy),fun y c e=>⟨c,e⟩⟩
  |cons p r ih=>
   intro cs hp hc;obtain ⟨pn,pk⟩:=p;rw[List.forIn_cons];dsimp only;by_cases hk:pk=.free
   ·obtain ⟨c,e⟩:=hp (pn,pk) List.mem_cons_self hk;have hco:cellOf env pn=pure c:=by
     unfold cellOf;dsimp only at e;rw[e]
    have hb:(pk==NameKind.free)=true:=by rw[hk];rfl
    obtain ⟨cl,h1,h2,h3,h4⟩:=ih ((pn,c)::cs) (fun q hq=>hp q (List.mem_cons_of_mem _ hq)) (fun y c' e'=>by
     rw[List.lookup_cons]at e';split at e'
     ·rename_i z;have:y=pn:=beq_iff_eq.mp z;subst this;cases e';exact e
     ·exact hc y c' e')
    refine ⟨cl,?_,h2,fun y hy=>?_,fun y c' e'=>?_⟩
    ·rw[if_pos hb,hco,pure_bind,pure_bind];exact h1
    ·rcases List.mem_cons.mp hy with z |z
     ·have:y=pn:=congrArg Prod.fst z;subst this;exact h4 _ c (by rw[List.lookup_cons];simp)
     ·exact h3 y z
    ·by_cases z:y=pn
     ·subst z;exact h4 _ c (by rw[List.lookup_cons];simp)
     ·exact h4 y c' (by rw[List.lookup_cons,beq_eq_false_iff_ne.mpr z];exact e')
   ·have hb:¬(pk==NameKind.free)=true:=by simpa using hk
    obtain ⟨cl,h1,h2,h3,h4⟩:=ih cs (fun q hq=>hp q (List.mem_cons_of_mem _ hq)) hc;refine ⟨cl,?_,h2,fun y hy=>?_,h4⟩
    ·rw[if_neg hb,pure_bind];exact h1
    ·rcases List.mem_cons.mp hy with z |z
     ·exact absurd (congrArg Prod.snd z).symm hk
     ·exact h3 y z
 obtain ⟨cl,h1,h2,h3,_⟩:=key scope.names [] h (fun y c e=>by cases e);refine ⟨cl,?_,h2,h3⟩;unfold closureFor;exact (bind_pure _).trans h1
theorem z0a{env:Env}:∀{names:List (Str×NameKind)} {x:Str} {k:NameKind},(names.map fun (n,k)=>if (k==NameKind.free&&env.scope.kind== .function&&env.kindOf n==some .cell)then (n,NameKind.cell)else (n,k)).lookup x=some k→
 k=.cell∨k=.free→(∀y∈names,y.2≠.cell)→(x,NameKind.free)∈names
 | [],_,_,h,_,_=>by simp at h
 |(n,k0)::r,x,k,h,hk,hc=>by
  have h:List.lookup x ((if (k0==NameKind.free&&env.scope.kind== .function&&env.kindOf n==some .cell)=true then (n,NameKind.cell)else (n,k0))::(r.map fun (n,k)=>if (k==NameKind.free&&env.scope.kind== .function&&env.kindOf n==some .cell)then (n,NameKind.cell)else (n,k)))=some k:=h;by_cases hx:x=n
  ·subst hx;by_cases hcnd:(k0==NameKind.free&&env.scope.kind== .function&&env.kindOf x==some .cell)=true
   ·have:k0=.free:=by
     rw[Bool.and_eq_true,Bool.and_eq_true]at hcnd;exact beq_iff_eq.mp hcnd.1.1
    rw[this];exact List.mem_cons_self
   ·rw[if_neg hcnd,List.lookup_cons,beq_self_eq_true]at h;have e:k0=k:=Option.some.inj h;subst e;rcases hk with e |e
    ·exact absurd e (hc (x,k0) List.mem_cons_self)
    ·rw[e];exact List.mem_cons_self
  ·refine List.mem_cons_of_mem _ (z0a (env:=env) (k:=k) ?_ hk fun y hy=>hc y (List.mem_cons_of_mem _ hy));have hb:(x==n)=false:=beq_eq_false_iff_ne.mpr hx;by_cases hcnd:(k0==NameKind.free&&env.scope.kind== .function&&env.kindOf n==some .cell)=true
   ·rw[if_pos hcnd,List.lookup_cons,hb]at h;exact h
   ·rw[if_neg hcnd,List.lookup_cons,hb]at h;exact h
structure CompOk(X:Cx)(x:Str)(js:List Nat)(scope:Scope):Prop where
 kind:scope.kind=.function
 cell:∀y∈scope.names,y.2≠.cell
 loc:∀y∈scope.names,y.2=.local→scope.names.lookup y.1=some .local
 xl:scope.names.lookup x=some .local
 free:∀y∈scope.names,y.2=.free→X.env.kindOf y.1=some .cell∨X.env.kindOf y.1=some .free
 caps:∀j∈js,scope.names.lookup (X.N.getD j x)=some .free
 nd:(x::js.map (fun j=>X.N.getD j x)).Nodup
section
variable{X:Cx}{pins:List (Addr×Obj)}{σ:St}{H:Hp}{s:Shared}
theorem o0e{scope:Scope}{env:Env}{y:Str}(h:scope.names.lookup y=some .free):(relabel scope env).names.lookup y=some .cell∨(relabel scope env).names.lookup y=some .free:=by
 unfold relabel;generalize scope.names=names at h;dsimp only
 induction names with
 |nil=>cases h
 |cons p r ih=>
  obtain ⟨n,k⟩:=p;rw[List.map_cons];dsimp only;by_cases hx:y=n
  ·subst hx;rw[List.lookup_cons,beq_self_eq_true]at h;have e:k=.free:=Option.some.inj h;subst e;by_cases hc:(NameKind.free==NameKind.free&&env.scope.kind== .function&&env.kindOf y==some .cell)=true
   ·rw[if_pos hc,List.lookup_cons,beq_self_eq_true];exact .inl rfl
   ·rw[if_neg hc,List.lookup_cons,beq_self_eq_true];exact .inr rfl
  ·have hb:(y==n)=false:=beq_eq_false_iff_ne.mpr hx;rw[List.lookup_cons,hb]at h;by_cases hc:(k==NameKind.free&&env.scope.kind== .function&&env.kindOf n==some .cell)=true
   ·rw[if_pos hc,List.lookup_cons,hb];exact ih h
   ·rw[if_neg hc,List.lookup_cons,hb];exact ih h
end
end L2
namespace L2
open PySem PySem.Spec PyProof.Rows
structure Loose(X:Cx)(pins:List (Addr×Obj))(H:Hp)(C:Addr):Prop where
 free:H C=none
 ne:C≠X.env.locals
 yng:X.s₀.heap.objs.size≤C
 cell:∀x c,X.env.cells.lookup x=some c→c≠C
 pin:∀p∈X.pn++pins,p.1≠C
section
variable{X:Cx}
end
end L2
namespace L2
open PySem PySem.Spec PyProof.Rows
open PySem.W (XC)
noncomputable def Fly(c:Bool)(h:Heap)(x C:Addr)(od T:Option Addr):Prop:=∃o vs,h.get? x=some o∧o.cls=.ref C∧o.dict=od∧o.data=.fields vs∧(1<vs.size∧(c=true→vs[2]?=some .none))∧
 match T with
 |none=>vs[1]?=some .none
 |some t=>vs[1]?=some (.ref t)∧t≠x∧∃ot ts,h.get? t=some ot∧ot.data=.fields ts∧3<ts.size
theorem r0n(o:Obj)(f):(o.mapFields f).dict=o.dict:=by
 obtain ⟨c,d,dt,sl⟩:=o;cases dt<;>rfl
section
variable{M:Model}{A:Around}{E:Value→Shared→Prop}{s:Shared}
theorem d0s{base:Heap}{env:Env}{outer:List Env}{L x:Addr}{oe:Obj}{vs:Array Value}{head:Value}{hadNext:Bool}{Q:Unit→Shared→Prop}
 (hfr:A.frames=some (env::outer)) (hl:s.heap.FunFrames base (env::outer)) (hf:env.frame=some L) (he:s.heap.get? x=some oe) (hd:oe.data=.fields vs) (hsz:1<vs.size)
 (h:∀h' T,(∀b o,b≠x→b∉frs (env::outer)→s.heap.get? b=some o→h'.get? b=some o)→(∀b o,s.heap.get? b=some o→b≠x→∃sl,h'.get? b=some {o with slots:=sl})→
  h'.get? x=some (oe.mapFields (·.setIfInBounds 1 (.ref T)))→s.heap.objs.size≤T→(∃ot ts,h'.get? T=some ot∧ot.data=.fields ts∧3<ts.size)→Q () {s with heap:=h'}):
 wpAny M A (do let a←frameOf env;let pl←entryPlaceOf L hadNext;let b←EntryCells.newEntry head a .none (rawInt L) .none pl;setField (.ref x) 1 b) Q E s:=by
 have hene:x∉(env::outer).filterMap (·.frame):=fun hm=>by
  obtain ⟨_,o,ho,hnf⟩:=hl.mem hm;rw[he]at ho;injection ho with ho
  subst ho;exact hnf vs hd
 refine wpAny_bind (wpAny_frameOf_fun hfr hl hf fun h₁ hs₁=>?_);refine wpAny_bind (wpAny_entryPlaceOf fun pl hpl=>?_);unfold EntryCells.newEntry newFields;refine wpAny_bind (wpAny_newObj_type ?_ (hpl.sizeOk5 _ _ _ _ _));have he₁:h₁.get? x=some oe:=(hs₁.2.1 x hene).trans he;generalize hO:({cls:=.type "traceback",dict:=none,data:=.fields ([head,.ref L,.none,rawInt L,.none]++(if pl.isEmpty then List.replicate 6 Value.none else pl)).toArray}:Obj)=ot;have hod:ot.data=.fields ([head,.ref L,.none,rawInt L,.none]++(if pl.isEmpty then List.replicate 6 Value.none else pl)).toArray:=by rw[←hO]
 have he₂:=Heap.get?_push_of_some (h:=h₁) ot he₁;refine wpAny_setField he₂ hd hsz ?_;have hTe:h₁.objs.size≠x:=Nat.ne_of_gt (Heap.lt_size he₁);have hd₃:=Obj.data_mapFields hd (·.setIfInBounds 1 (Value.ref h₁.objs.size));have hfree:ot.isFreed=false:=Obj.isFreed_of_fields hod;refine h _ h₁.objs.size (fun b o hbe hbf hb=>?_) (fun b o hb hbe=>?_) (Heap.get?_update_self _ he₂ (Obj.isFreed_of_fields hd₃)) (by rw[hs₁.1];exact Nat.le_refl _) ⟨ot,_,?_,hod,?_⟩
 ·rw[Heap.get?_update_other _ _ (Ne.symm hbe)];exact Heap.get?_push_of_some _ ((hs₁.2.1 b hbf).trans hb)
 ·obtain ⟨sl,e⟩:=hs₁.2.2 b o hb;exact ⟨sl,by rw[Heap.get?_update_other _ _ (Ne.symm hbe)];exact Heap.get?_push_of_some _ e⟩
 ·rw[Heap.get?_update_other _ _ (Ne.symm hTe)];exact Heap.get?_push_size h₁ hfree
 ·simp only[List.size_toArray,List.length_append,List.length_cons,List.length_nil];omega
end
noncomputable def Top(X:Cx):Prop:=X.stack=X.env::X.outer∧X.env.frame=some X.env.locals
section
variable{X:Cx}{pins:List (Addr×Obj)}{σ:St}{H:Hp}{s:Shared}{A:Around}{E:Value→Shared→Prop}{x C:Addr}{od T:Option Addr}{c:Bool}
theorem Inv.stir{h':Heap}{ch:List Addr}(I:Inv X pins σ H s)(hch:∀b∈ch,Loose X pins H b)(tp:Top X)
 (keep:∀b o,b∉ch→b∉frs X.stack→s.heap.get? b=some o→h'.get? b=some o) (slot:∀b o,b∉ch→s.heap.get? b=some o→∃sl,h'.get? b=some {o with slots:=sl})
 (nx:∀b∈ch,∃o,h'.get? b=some o):Inv X pins σ H {s with heap:=h'}:=by
 have mem:∀b,b≠X.env.locals→b∉X.fs→b∉frs X.stack:=fun b h1 h2 h3=>by
  rcases List.mem_cons.mp (I.stkSub b h3)with z |z
  ·exact h1 z
  ·exact h2 z
 refine I.step (g':=s.gens) (d':=s.drawn) (t':=s.toks) (ch:=ch) (fun b hb=>⟨.inr (hch b hb).yng,(hch b hb).ne,(hch b hb).cell,(hch b hb).pin⟩) (fun b o h1 h2 h3 e _=>keep b o h3 (mem b h1 h2) e) (fun b o _ _ h3 e _=>slot b o h3 e) (fun b o _ _ n=>n)
  (fun b o h3 e=>by obtain ⟨sl,q⟩:=slot b o h3 e;exact ⟨_,q⟩) (fun _ _ e=>e) (fun _ _ _ e=>e) (fun b ps e=>⟨#[],by rw[e];simp⟩) (fun m hm=>?_) (fun b u e=>?_) I.bare
 ·obtain ⟨o,es,ep,ho,r⟩:=hm;obtain ⟨sl,q⟩:=slot _ o (fun z=>(hch _ z).ne rfl) ho;exact ⟨_,es,ep,q,r⟩
 ·have nch:∀c v,H c=some v→c∉ch:=fun c v q z=>by rw[(hch c z).free]at q;cases q
  have nfr:∀c v,H c=some v→c∉frs X.stack:=fun c v q z=>by rw[I.stkFree c z]at q;cases q
  refine (I.hok b u e).stay (fun c v hc q=>?_) (fun _ q=>q) fun _ _ q=>q
  rcases hc with z |z
  ·subst z;exact keep c v (nch c _ e) (nfr c _ e) q
  ·exact keep c v (nch c _ z) (nfr c _ z) q
theorem Inv.loose_new(I:Inv X pins σ H s){t:Addr}(h:s.heap.objs.size≤t):Loose X pins H t:=
 ⟨I.hok.fresh h,Nat.ne_of_gt (Nat.lt_of_lt_of_le I.lt h),Nat.le_trans I.sz h,fun y c e=>by obtain ⟨v,z⟩:=I.cell y c e;exact Nat.ne_of_lt (Nat.lt_of_lt_of_le z.lt h),fun p hp=>Nat.ne_of_lt (Nat.lt_of_lt_of_le (Heap.lt_size (I.pin p hp).1) h)⟩
theorem k0j{M:Model}{Q:Unit→Shared→Prop}{head:Value}{hadNext:Bool}(I:Inv X pins σ H s)(tp:Top X)(hA:A.frames=some X.stack)(f:Fly c s.heap x C od T)(lx:Loose X pins H x)
 (h:∀s' t,Inv X pins σ H s'→Fly c s'.heap x C od (some t)→Loose X pins H t→Q () s'):
 wpAny M A (do let a←frameOf X.env;let pl←entryPlaceOf X.env.locals hadNext;let b←EntryCells.newEntry head a .none (rawInt X.env.locals) .none pl;setField (.ref x) 1 b) Q E s:=by
 obtain ⟨t1,tf⟩:=id tp;rw[t1]at hA;have hlF:s.heap.FunFrames X.base (X.env::X.outer):=t1▸I.stack;obtain ⟨o,vs,hx,hc,hd,hdat,hsz,_⟩:=f;refine d0s hA hlF tf hx hdat hsz.1 fun h' t k1 k2 k3 k4 ⟨ot,ts,k5,k6,k7⟩=>h _ t ?_ ?_ (I.loose_new k4)
 ·refine I.stir (ch:=[x]) (fun b hb=>by rw[List.mem_singleton.mp hb];exact lx) tp (fun b o hb hf e=>k1 b o (fun z=>hb (by simp[z])) (by rw[←t1];exact hf) e) (fun b o hb e=>k2 b o e fun z=>hb (by simp[z])) (fun b hb=>by rw[List.mem_singleton.mp hb];exact ⟨_,k3⟩)
 ·have hne:t≠x:=Nat.ne_of_gt (Nat.lt_of_lt_of_le (Heap.lt_size hx) k4);refine ⟨_,_,k3,(Obj.cls_mapFields _ _).trans hc,(r0n _ _).trans hd,Obj.data_mapFields hdat _,⟨by simpa using hsz.1,fun z=>by simpa using hsz.2 z⟩,by simp[hsz.1],hne,ot,ts,k5,k6,k7⟩
theorem h0d{M:Model}{Q:Unit→Shared→Prop}(I:Inv X pins σ H s)(tp:Top X)(hA:A.frames=some X.stack)(f:Fly c s.heap x C od T)(lx:Loose X pins H x)(lt:∀t,T=some t→Loose X pins H t)
 (h:∀s' t,Inv X pins σ H s'→Fly c s'.heap x C od (some t)→Loose X pins H t→Q () s'):wpAny M A (noteFrame (.ref x) X.env) Q E s:=by
 obtain ⟨o,vs,hx,hc,hd,hdat,hsz,hT⟩:=id f;unfold noteFrame;simp only[tp.2];cases T with
 |none=>
  refine wpAny_bind (wpAny_field hx hdat hT ?_);rw[if_neg (by decide)];exact k0j I tp hA f lx h
 |some t=>
  obtain ⟨h1,hne,ot,ts,ht,htd,hts⟩:=hT;have lt:=lt t rfl;refine wpAny_bind (wpAny_field hx hdat h1 ?_);rw[if_pos (show (Value.ref t !=Value.none)=true from by simp)];have h3:ts[3]?=some ts[3]:=by simp[hts]
  refine wpAny_bind (wpAny_field ht htd h3 ?_);by_cases q:(ts[3]==rawInt X.env.locals)=true
  ·rw[if_pos q];exact wpAny_pure (h s t I f lt)
  ·rw[if_neg q];refine wpAny_bind (wpAny_setField ht htd hts ?_);have other:∀b,b≠t→(s.heap.update t (Obj.mapFields (·.setIfInBounds 3 Value.none))).get? b=s.heap.get? b:=fun b hb=>Heap.get?_update_other _ _ (Ne.symm hb)
   have ht':=Heap.get?_update_self (Obj.mapFields (·.setIfInBounds 3 Value.none)) ht (Obj.isFreed_of_fields (Obj.data_mapFields htd _));have I1:Inv X pins σ H {s with heap:=s.heap.update t (Obj.mapFields (·.setIfInBounds 3 Value.none))}:=
    I.stir (ch:=[t]) (fun b hb=>by rw[List.mem_singleton.mp hb];exact lt) tp (fun b o hb hf e=>(other b fun z=>hb (by simp[z])).trans e) (fun b o hb e=>⟨o.slots,(other b fun z=>hb (by simp[z])).trans e⟩) (fun b hb=>by rw[List.mem_singleton.mp hb];exact ⟨_,ht'⟩)
   exact k0j (T:=some t) I1 tp hA ⟨o,vs,(other x (Ne.symm hne)).trans hx,hc,hd,hdat,hsz,h1,hne,_,_,ht',Obj.data_mapFields htd _,by simpa using hts⟩ lx h
theorem w0n{M:Model}{fr:Option Addr}{Q:Unit→Shared→Prop}(I:Inv X pins σ H s)(tp:Top X)(f:Fly c s.heap x C od T)(lt:∀t,T=some t→Loose X pins H t)
 (h:∀s',Inv X pins σ H s'→Fly c s'.heap x C od T→Q () s'):wpAny M A (setFlight (.ref x) fr) Q E s:=by
 obtain ⟨o,vs,hx,hc,hd,hdat,hsz,hT⟩:=id f;unfold setFlight;cases T with
 |none=>
  refine wpAny_bind (wpAny_field hx hdat hT ?_);rw[if_neg (by decide)];exact wpAny_pure (h s I f)
 |some t=>
  obtain ⟨h1,hne,ot,ts,ht,htd,hts⟩:=hT;have lt:=lt t rfl;refine wpAny_bind (wpAny_field hx hdat h1 ?_);rw[if_pos (show (Value.ref t !=Value.none)=true from by simp)];refine wpAny_setField ht htd hts (h _ ?_ ?_)
  ·have other:∀b,b≠t→(s.heap.update t (Obj.mapFields (·.setIfInBounds 3 (fr.elim Value.none fun f=>rawInt f)))).get? b=s.heap.get? b:=fun b hb=>Heap.get?_update_other _ _ (Ne.symm hb)
   have ht':=Heap.get?_update_self (Obj.mapFields (·.setIfInBounds 3 (fr.elim Value.none fun f=>rawInt f))) ht (Obj.isFreed_of_fields (Obj.data_mapFields htd _));exact I.stir (ch:=[t]) (fun b hb=>by rw[List.mem_singleton.mp hb];exact lt) tp (fun b o hb hf e=>(other b fun z=>hb (by simp[z])).trans e) (fun b o hb e=>⟨o.slots,(other b fun z=>hb (by simp[z])).trans e⟩) (fun b hb=>by rw[List.mem_singleton.mp hb];exact ⟨_,ht'⟩)
  ·have ht':=Heap.get?_update_self (Obj.mapFields (·.setIfInBounds 3 (fr.elim Value.none fun f=>rawInt f))) ht (Obj.isFreed_of_fields (Obj.data_mapFields htd _));exact ⟨o,vs,(Heap.get?_update_other _ _ hne).trans hx,hc,hd,hdat,hsz,h1,hne,_,_,ht',Obj.data_mapFields htd _,by simpa using hts⟩
end
end L2
namespace L2
open PySem PySem.Spec PyProof.Rows
open PySem.W (XC)
noncomputable abbrev XW:=Addr→Option Addr→St→Hp→Prop
noncomputable def y1w(X:Cx)(pins:List (Addr×Obj))(W:XW)(e:Value)(s:Shared):Prop:=
 ∃x C od T σ H,e=.ref x∧Inv X pins σ H s∧Fly X.fl s.heap x C od T∧Loose X pins H x∧(∀t,T=some t→Loose X pins H t)∧W C od σ H
noncomputable def s0v(X:Cx)(W:XW):Prop:=∀pins e s,y1w X pins W e s→X.xe e s
noncomputable def CXc(c:Bool)(P:Program)(w:World):CXT:=fun outer H s E e s'=>
 ∃x C od T H',e=.ref x∧s'.os=s.os∧AllBare s'.gens∧Un (frs outer) [] H H' s.heap s'.heap∧HOk P w H' s'.heap∧Fly c s'.heap x C od T∧H' x=none∧s.heap.objs.size≤x∧(∀t,T=some t→H' t=none∧s.heap.objs.size≤t)∧E (.ref C) od H'
noncomputable abbrev CX1(P:Program)(w:World):CXT:=CXc true P w
theorem Fly.weak{h:Heap}{x C:Addr}{od T:Option Addr}{c:Bool}(f:Fly true h x C od T):Fly c h x C od T:=by
 obtain ⟨o,vs,hx,hc,hd,hdat,hsz,hT⟩:=f;exact ⟨o,vs,hx,hc,hd,hdat,⟨hsz.1,fun _=>hsz.2 rfl⟩,hT⟩
section
variable{X:Cx}{pins:List (Addr×Obj)}{σ:St}{H:Hp}{s:Shared}{A:Around}{E:Value→Shared→Prop}
theorem d0r{W:XW}{e:Value}{s':Shared}(I:Inv X pins σ H s)(h:CX1 X.prog X.w X.stack H s (fun Cv od H'=>∃C,Cv=.ref C∧W C od σ H') e s'):y1w X pins W e s':=by
 obtain ⟨x,C,od,T,H',rfl,os,bare,un,hok,f,hx,hy,ht,C',ec,q⟩:=h;cases ec;have I':Inv X pins σ H' s':=I.call' (ch:=[]) os un hok bare fun b z=>by cases z
 have ls:∀t,H' t=none→s.heap.objs.size≤t→Loose X pins H' t:=fun t h0 hz=>by
  have l:=I.loose_new hz;exact ⟨h0,l.ne,l.yng,l.cell,l.pin⟩
 exact ⟨x,C,od,T,σ,H',rfl,I',f.weak,ls x hx hy,fun t e=>ls t (ht t e).1 (ht t e).2,q⟩
noncomputable def h0c(sp:Sp)(W:XW)(t:TA):TE:=fun σ H Q=>t σ H fun vs H1=>sp vs H1 Q fun Cv od H'=>∃C,Cv=.ref C∧W C od σ H'
theorem y1v{k:Nat}{f:Addr}{fd:FuncData}{ps:List Str}{sp:Sp}{W:XW}{Q:VK}{us:List Value}{vs:List V}(F:FnOk X.prog X.w X.K X.mg X.base (CX1 X.prog X.w) k f fd ps sp)(hr:Room k X.A)(hb:Binds X.K fd ps [])(hf:s0v X W)
 (I:Inv X pins σ H s) (r:Vals vs us) (h:sp vs H Q fun Cv od H'=>∃C,Cv=.ref C∧W C od σ H'):wpAny (model X.prog X.w) X.A (call (.ref f) us) (EP X pins σ Q) X.xe s:=by
 have hl:(us++[]).length=ps.length:=by rw[List.append_nil,← r.length];exact F.len _ _ _ _ h
 have hbd:=hb s us I.kIn hl;rw[List.append_nil]at hbd;refine wpAny_call (codeAny_mono (F.run X.A X.stack s H ⟨us,[]⟩ us vs Q _ hr I.env0 hbd r h) fun r s' hq=>?_);cases r with
 |error e=>exact hf pins e s' (d0r I hq)
 |ok fl=>
  cases fl with
  |ret u=>exact I.after hq
  |next=>exact False.elim hq
  |brk=>exact False.elim hq
  |cont=>exact False.elim hq
theorem d0q{k:Nat}{f:Addr}{fd:FuncData}{ps:List Str}{sp:Sp}{W:XW}{x:Str}{p pos:Pos}{e:Expr}{es:List Expr}{t:TA}(F:FnOk X.prog X.w X.K X.mg X.base (CX1 X.prog X.w) k f fd ps sp)(hr:Room k X.A)(hg:Gl X x)(hm:X.mg x=some (.ref f))
 (hk:PySem.W.keepIn X.K (.ref f)=true) (hb:Binds X.K fd ps []) (hf:s0v X W)
 (ha:PA X (e::es) t) (hdb:(x==("__debug__":Str))=false:=by decide) (he:starEach (e::es) X.env=(false,eval e X.env)::starEach es X.env:=by rfl) (hpl:(backTo pos (starEach es X.env)).any (·.1)=false:=by rfl):
 PE X (.Call (.Name x p) (e::es) [] pos) (h0c sp W t):=by
 intro pins s σ H Q I h;refine wpAny_Call_Name_kw (t0a I hg hm ?_ hdb);refine PySem.W.callWith_K (h₀:=X.base) I.ok.mod.kin hk (thn (ha pos pins s σ H _ I h) fun us s1 ⟨vs,H1,I1,r,q⟩=>⟨I1.kIn,?_⟩) he hpl;exact y1v F hr hb hf I1 r q
end
section
variable{P:Program}{w:World}{K:PySem.W.Frag}{mg:Str→Option Value}{base:Heap}
noncomputable abbrev cxX(P:Program)(w:World)(K:PySem.W.Frag)(mg:Str→Option Value)(base:Heap)(N:List Str)(qual:Str)(scope:Scope)(f:Addr)(cd:Value)(A:Around)(outer:List Env)(s:Shared)(H:Hp)(E:XK):Cx:=
 cxOf (CX1 P w) P w K mg base N qual scope f cd A outer s H E
theorem o0{N:List Str}{qual:Str}{scope:Scope}{f:Addr}{cd:Value}{A:Around}{outer:List Env}{s:Shared}{H:Hp}{E:XK}:s0v (cxX P w K mg base N qual scope f cd A outer s H E) fun C od _ H'=>E (.ref C) od H':=by
 intro pins e s' h;obtain ⟨x,C,od,T,σ,H',rfl,I,ff,lx,lt,q⟩:=h;have tp:Top (cxX P w K mg base N qual scope f cd A outer s H E):=⟨rfl,rfl⟩;show wpAny _ _ (leaving _ (.ref x)) _ _ _;unfold leaving;refine wpAny_bind (h0d I tp I.ok.frames ff lx lt fun s1 t I1 f1 l1=>w0n I1 tp f1 (fun t' e=>by cases e;exact l1) fun s2 I2 f2=>?_);exact ⟨x,C,od,some t,H',rfl,I2.os,I2.bare,I2.base,I2.hok,f2,lx.free,lx.yng,fun t' e=>by cases e;exact ⟨l1.free,l1.yng⟩,q⟩
theorem Fun.okX{x qual:Str}{st:Stmt}{f:Addr}{fd:FuncData}{N ps:List Str}{k:Nat}{sp:Sp}(F:Fun K x qual st f fd)(S:FnScope N ps (defScope st))(len:∀vs H Q E,sp vs H Q E→vs.length=ps.length)
 (hbody:∀(cdv:Value) (A:Around) (outer:List Env) (s:Shared) (H:Hp) (vs:List V) (Q:VK) (E:XK),Room k (A.deeper (envOfC qual (defScope st) s.heap.objs.size f cdv))→sp vs H Q E→
  ∃t,PSs (cxX P w K mg base N qual (defScope st) f cdv A outer s H E) (defBody st) t∧t {nx:=fun _ H'=>Q .non H',rt:=Q} (start N vs) H):FnOk P w K mg base (CX1 P w) (k+1) f fd ps sp:=by
 obtain ⟨oc,od,kV,doc,pm,an,cdv,ct,osl,rfl,lk,hcd⟩:=F.ex;exact fn_of lk hcd S len fun A outer s H vs Q E hr hsp=>hbody cdv A outer s H vs Q E hr hsp
end
section
variable{X:Cx}{pins:List (Addr×Obj)}{σ:St}{H:Hp}{s:Shared}
noncomputable def drop(H:Hp)(x:Addr):Hp:=fun b=>if b=x then none else H b
theorem x0d{H:Hp}{x b:Addr}(h:b≠x):drop H x b=H b:=if_neg h
theorem w0m{H:Hp}{x:Addr}:drop H x x=none:=if_pos rfl
theorem Inv.drop{φ:Heap→Prop}{x:Addr}(I:Inv X pins σ H s)(e:H x=some (.ext φ)):Inv X pins σ (drop H x) s:=by
 have ne:∀b u,H b=some u→(∀ ψ,u≠.ext ψ)→b≠x:=fun b u q n z=>by rw[z,e]at q;exact n φ (Option.some.inj q).symm
 have nn:∀b,H b=none→L2.drop H x b=none:=fun b q=>by
  by_cases z:b=x
  ·rw[z];exact w0m
  ·rw[x0d z];exact q
 have hown:∀b a,H b=some (.own a)→L2.drop H x b=some (.own a):=fun b a q=>by rw[x0d (ne b _ q fun ψ z=>by cases z)];exact q
 have htup:∀b xs,H b=some (.tup xs)→L2.drop H x b=some (.tup xs):=fun b xs q=>by rw[x0d (ne b _ q fun ψ z=>by cases z)];exact q
 refine ⟨I.ok,I.os,I.bare,⟨I.base.keep,I.base.slot,fun b o q n hx=>nn b (I.base.free b o q n hx),I.base.there,fun b xs q=>htup b xs (I.base.tups b xs q),fun b o u q=>?_,fun b ps q=>?_⟩,I.loc,I.cell,nn _ I.free,fun y c q=>nn c (I.freeC y c q),fun p hp=>?_,fun b u q=>?_,I.len⟩
 ·have z:=I.base.frzs b o u q;rw[x0d (ne b _ z fun ψ z=>by cases z)];exact z
 ·obtain ⟨m,z⟩:=I.base.tbls b ps q;exact ⟨m,by rw[x0d (ne b _ z fun ψ z=>by cases z)];exact z⟩
 ·obtain ⟨a,b,c⟩:=I.pin p hp;exact ⟨a,nn _ b,c⟩
 ·have hb:b≠x:=fun z=>by rw[z,w0m]at q;cases q
  rw[x0d hb]at q;exact (I.hok b u q).stay (fun _ _ _ z=>z) (fun c z=>hown c _ z) fun c xs z=>htup c xs z
theorem h0b{M:Model}{A:Around}{E:Value→Shared→Prop}{env:Env}{xt:Sem Value}{Q:Flow→Shared→Prop}{C:Addr}{s:Shared}(hh:A.handled=none)
 (h:wpAny M A xt (fun v s1=>∃e od vs nm qn N bs bm hdct sn sub ab col dd k0 k1 k2 k3 k5 nid,v=.ref e∧s1.heap.get? C=some (excClassObj nm qn C N bs bm hdct sn sub ab col dd k0 k1 k2 k3 k5 nid)∧bm.contains (.type "BaseException")=true∧
  s1.heap.get? e=some ⟨.ref C,od,.fields vs,#[]⟩∧vs[1]?=some .none∧E (.ref e) s1) E s):
 wpAny M A (raiseStmt env (some xt) none) Q E s:=by
 unfold raiseStmt;refine wpAny_bind (wpAny_mono h (fun v s1 h1=>?_) fun _ _ x=>x);obtain ⟨e,od,vs,nm,qn,N,bs,bm,hdct,sn,sub,ab,col,dd,k0,k1,k2,k3,k5,nid,rfl,hC,hb,he,hv,hE⟩:=h1;have hcB:(Value.ref C::bm).contains (.type "BaseException")=true:=by rw[List.contains_cons,hb,Bool.or_true]
 obtain ⟨hp,g,d,tk,os⟩:=s1
 repeat (first |with_reducible refine wpAny_loadPart_at he ?_ |with_reducible refine wpAny_loadPart_at hC ?_ |(with_reducible refine wpAny_isSubtype_exc hC ?_;rw[hcB])|wp_step)
 rw[hv];refine wpAny_pure ?_;rw[if_neg (by decide)];exact wpAny_pure (wpAny_raiseNew_none hh hE)
theorem d0p{M:Model}{C x:Addr}{od:Option Addr}{W:XW}(hf:s0v X W)(I:Inv X pins σ H s)(e:H x=some (XO 1 x C od))(hK:xcIn X.K C=true)(hy:X.s₀.heap.objs.size≤x)(q:W C od σ (L2.drop H x)):
 ∃e' od' vs nm qn N bs bm hdct sn sub ab col dd k0 k1 k2 k3 k5 nid,Value.ref x=.ref e'∧s.heap.get? C=some (excClassObj nm qn C N bs bm hdct sn sub ab col dd k0 k1 k2 k3 k5 nid)∧bm.contains (.type "BaseException")=true∧
  s.heap.get? e'=some ⟨.ref C,od',.fields vs,#[]⟩∧vs[1]?=some .none∧X.xe (.ref e') s:=by
 obtain ⟨o,vs,hx,h1,h2,h3,h40⟩:=XO.get I.hok e;obtain ⟨h4,h5,h7⟩:=h40.1 rfl;have h6:=h40.2;clear h40;obtain ⟨nm,qn,N,bs,bm,hdct,sn,sub,ab,col,dd,k0,k1,k2,k3,k5,hC,hT⟩:=a0n I.kIn hK;have I':=Inv.drop I e;obtain ⟨oc,odd,odt,osl⟩:=o;dsimp only at h1 h2 h3 h4;subst h1 h2 h3 h4;refine ⟨x,odd,vs,nm,qn,N,bs,bm,hdct,sn,sub,ab,col,dd,k0,k1,k2,k3,k5,_,rfl,hC,hT.hasType rfl,hx,h5,?_⟩;refine hf pins _ _ ⟨x,C,odd,none,σ,_,rfl,I',⟨_,vs,hx,rfl,rfl,rfl,⟨(Array.getElem?_eq_some_iff.mp h5).1,fun _=>h6 (by decide)⟩,h5⟩,⟨w0m,fun z=>?_,hy,fun y c q z=>?_,fun p hp z=>?_⟩,(fun t z=>by cases z),q⟩
 ·have:=I.free;rw[←z,e]at this;cases this
 ·have:=I.freeC y c q;rw[z,e]at this;cases this
 ·have:=(I.pin p hp).2.1;rw[z,e]at this;cases this
noncomputable def h0a(C:Addr)(sp:Sp)(W:XW)(t:TA):TS:=fun _ σ H=>t σ H fun vs H1=>vs.length≤sizeLine∧∀x,H1 x=none→
 sp (.ref x::vs) (upd H1 x (XO 1 x C none)) (fun v H2=>v=.non∧∃od,H2 x=some (XO 1 x C od)∧W C od σ (L2.drop H2 x)) E0
theorem g0z{k:Nat}{f C:Addr}{fd:FuncData}{ps:List Str}{sp:Sp}{W:XW}{x:Str}{p cpos pos:Pos}{e:Expr}{es:List Expr}{t:TA}(hc:X.calm=true)(hf:s0v X W)(M:XMk X.K C f)(F:FnOk X.prog X.w X.K X.mg X.base CX0 k f fd ps sp)(hr:Room (k+1) X.A)
 (hg:Gl X x) (hm:X.mg x=some (.ref C)) (hb:Binds X.K fd ps [])
 (ha:PA X (e::es) t) (hdb:(x==("__debug__":Str))=false:=by decide) (he:starEach (e::es) X.env=(false,eval e X.env)::starEach es X.env:=by rfl) (hpl:(backTo cpos (starEach es X.env)).any (·.1)=false:=by rfl):
 PS X (.Raise (some (.Call (.Name x p) (e::es) [] cpos)) none pos) (h0a C sp W t):=by
 intro pins s σ H D I h;show wpAny _ _ (do standAt pos;raiseStmt X.env (some (do let v←eval (.Call (.Name x p) (e::es) [] cpos) X.env;standAt pos;pure v)) none) _ _ _;refine wpAny_bind (wpAny_standAt (h0b (C:=C) (I.ok.hd hc) (wpAny_bind (thn (Q:=fun v s1=>∃x H2 od,v=.ref x∧X.s₀.heap.objs.size≤x∧Inv X pins σ H2 s1∧H2 x=some (XO 1 x C od)∧W C od σ (L2.drop H2 x)) ?_ fun v s1 ⟨x,H2,od,ev,hy,I2,e2,q2⟩=>wpAny_bind (wpAny_standAt (wpAny_pure ?_))))))
 ·refine wpAny_Call_Name_kw (t0a I hg hm ?_ hdb);refine PySem.W.callWith_K (h₀:=X.base) I.ok.mod.kin M.kp (thn (ha cpos pins s σ H _ I h) fun us s1 ⟨vs,H1,I1,r,hz,q⟩=>⟨I1.kIn,?_⟩) he hpl;refine thn (o0f (Q:=fun v H2=>∃od,H2 (s1.heap.objs.size+1)=some (XO 1 (s1.heap.objs.size+1) C od)∧W C od σ (L2.drop H2 (s1.heap.objs.size+1))) M F hr hb (pass0 (X:=X)) I1 r hz (q _ (I1.hok.fresh (Nat.le_succ _)))) fun v s2 ⟨ev,y,H2,I2,ry,od,q1,q2⟩=>?_
  exact ⟨_,H2,od,ev,Nat.le_trans I1.sz (Nat.le_succ _),I2,q1,q2⟩
 ·subst ev;exact d0p (M:=model X.prog X.w) hf I2 e2 M.sh hy q2
end
end L2
namespace L2
open PySem PySem.Spec PyProof.Rows
open PySem.W (XC)
section
variable{X:Cx}{pins:List (Addr×Obj)}{σ:St}{H:Hp}{s:Shared}
theorem q0b{M:Model}{A:Around}{E:Value→Shared→Prop}{i:Nat}{n:Str}{pos:Pos}{Q:Unit→Shared→Prop}(I:Inv X pins σ H s)(hN:X.N.Nodup)(hi:X.N[i]?=some n)(hk:X.env.scope.names.lookup n=some .local)
 (h:∀s',Inv X pins (σ.set i none) H s'→Q () s'):wpAny M A (do bindName X.env n .none;unbindBehindTheSuite X.env n pos) Q E s:=by
 have hcls:(X.env.scope.kind== .class||(X.env.scope.kind== .module&&X.env.locals !=X.env.globals))=false:=by rw[I.ok.kind];rfl
 refine wpAny_bind (wpAny_bindName (t0n (v:=.non) I hN hi (.inl hk) rfl (fun s1 I1=>?_) (.inr hk)));unfold unbindBehindTheSuite;refine wpAny_onRaise ?_;obtain ⟨m,hn,hl⟩:=id I1.loc;have hiσ:i<σ.length:=by rw[I.len];exact (List.getElem?_eq_some_iff.mp hi).1
 obtain ⟨u,ru,l⟩:=hl i n .non hi (List.getElem?_set_self hiσ) (.inl hk);have hm:m n=some u:=by
  rcases l with ⟨_,z⟩|⟨z,_⟩
  ·exact z
  ·have z':X.env.scope.names.lookup n=some .cell∨X.env.scope.names.lookup n=some .free:=z;rw[hk]at z';rcases z' with z' |z'<;>cases z'
 refine wpAny_unbindName_local hk hn hm hcls fun h' w hn' hs=>h _ ?_
 have cne:=I1.cne;obtain ⟨oL,_,_,hoL,_⟩:=id hn;have up:∀b,X.s₀.heap.objs.size≤X.env.locals→∀o,X.s₀.heap.get? b=some o→b≠X.env.locals:=fun b hz o e=>Nat.ne_of_lt (Nat.lt_of_lt_of_le (Heap.lt_size e) hz)
 refine ⟨I1.ok,I1.os,I1.bare,⟨fun b o e n hb hx=>?_,fun b o e n hb hx=>?_,I1.base.free,fun b o e hx=>?_,I1.base.tups,I1.base.frzs,I1.base.tbls⟩,⟨_,hn',fun j y v' e1 e2 e3=>?_⟩,fun y c e=>?_,I1.free,I1.freeC,fun p hp=>?_,fun b ob e=>?_,?_⟩
 ·exact (hs.2 b (up b I1.ok.above o e)).trans (I1.base.keep b o e n hb hx)
 ·obtain ⟨sl,q⟩:=I1.base.slot b o e n hb hx;exact ⟨sl,(hs.2 b (up b I1.ok.above o e)).trans q⟩
 ·obtain ⟨o',q⟩:=I1.base.there b o e hx;exact ⟨o',(hs.2 b (up b I1.ok.above o e)).trans q⟩
 ·by_cases hj:j=i
  ·subst hj;rw[List.getElem?_set_self hiσ]at e2;cases e2
  ·rw[List.getElem?_set_ne (Ne.symm hj)]at e2;obtain ⟨u',r',q⟩:=hl j y v' e1 (by rw[List.getElem?_set_ne (Ne.symm hj)];exact e2) e3;refine ⟨u',r',?_⟩;rcases q with ⟨k,e⟩|⟨k,c,e,z⟩
   ·refine .inl ⟨k,?_⟩;have:y≠n:=fun e=>hj (q0g hN e1 (e▸hi))
    simp[this,e]
   ·exact .inr ⟨k,c,e,z.sameBut hs (cne y c e)⟩
 ·obtain ⟨w',z⟩:=I1.cell y c e;exact ⟨w',z.sameBut hs (cne y c e)⟩
 ·obtain ⟨e,n,ne,nf,d⟩:=I1.pin p hp;exact ⟨(hs.2 p.1 ne).trans e,n,ne,nf,d⟩
 ·refine (I1.hok b ob e).stay (fun c w' hc q=>(hs.2 c ?_).trans q) (fun _ q=>q) fun _ _ q=>q
  intro z;have fr:=I1.free;rw[←z]at fr;rcases hc with hc |hc
  ·rw[hc,e]at fr;cases fr
  ·rw[hc]at fr;cases fr
 ·rw[List.length_set];exact I.len
noncomputable abbrev Cx.more(X:Cx)(pins:List (Addr×Obj)):Cx:={X with pn:=X.pn++pins}
noncomputable abbrev Cx.tr(X:Cx)(pins:List (Addr×Obj))(W:XW):Cx:={X with pn:=X.pn++pins,xe:=fun e s'=>y1w (X.more pins) [] W e s'}
noncomputable abbrev Cx.hdl(X:Cx)(x:Addr):Cx:={X with A:=X.A.mark (some (.ref x)),calm:=false,fl:=false,xe:=fun _ _=>False}
theorem okMore(ok:X.Ok):(X.more pins).Ok:=⟨ok.mod,ok.kind,ok.glob,ok.blt,ok.above,ok.inj,ok.has,ok.cab,ok.hd,ok.frames,ok.stk,ok.exf,ok.bs,ok.bsz,ok.noex,ok.exfs,ok.funs,ok.frf⟩
theorem Inv.tr{W:XW}(I:Inv X pins σ H s):Inv (X.tr pins W) [] σ H s:=
 ⟨⟨I.ok.mod,I.ok.kind,I.ok.glob,I.ok.blt,I.ok.above,I.ok.inj,I.ok.has,I.ok.cab,I.ok.hd,I.ok.frames,I.ok.stk,I.ok.exf,I.ok.bs,I.ok.bsz,I.ok.noex,I.ok.exfs,I.ok.funs,I.ok.frf⟩,I.os,I.bare,I.base,I.loc,I.cell,I.free,I.freeC,fun p hp=>I.pin p (by simpa using hp),I.hok,I.len⟩
theorem Inv.untr{pins':List (Addr×Obj)}{Y:Cx}{W:XW}(hY:Y=X.tr pins W∨Y=X.more pins)(I:Inv Y pins' σ H s):Inv X pins σ H s:=by
 rcases hY with rfl |rfl
 ·exact ⟨⟨I.ok.mod,I.ok.kind,I.ok.glob,I.ok.blt,I.ok.above,I.ok.inj,I.ok.has,I.ok.cab,I.ok.hd,I.ok.frames,I.ok.stk,I.ok.exf,I.ok.bs,I.ok.bsz,I.ok.noex,I.ok.exfs,I.ok.funs,I.ok.frf⟩,I.os,I.bare,I.base,I.loc,I.cell,I.free,I.freeC,fun p hp=>I.pin p (List.mem_append_left _ hp),I.hok,I.len⟩
 ·exact ⟨⟨I.ok.mod,I.ok.kind,I.ok.glob,I.ok.blt,I.ok.above,I.ok.inj,I.ok.has,I.ok.cab,I.ok.hd,I.ok.frames,I.ok.stk,I.ok.exf,I.ok.bs,I.ok.bsz,I.ok.noex,I.ok.exfs,I.ok.funs,I.ok.frf⟩,I.os,I.bare,I.base,I.loc,I.cell,I.free,I.freeC,fun p hp=>I.pin p (List.mem_append_left _ hp),I.hok,I.len⟩
theorem Inv.hdl{x:Addr}(I:Inv X pins σ H s):Inv (X.hdl x) pins σ H s:=
 ⟨⟨I.ok.mod,I.ok.kind,I.ok.glob,I.ok.blt,I.ok.above,I.ok.inj,I.ok.has,I.ok.cab,(fun z=>by cases z),I.ok.frames,I.ok.stk,I.ok.exf,I.ok.bs,I.ok.bsz,I.ok.noex,I.ok.exfs,I.ok.funs,I.ok.frf⟩,I.os,I.bare,I.base,I.loc,I.cell,I.free,I.freeC,I.pin,I.hok,I.len⟩
theorem Inv.unhdl{x:Addr}(ok:X.Ok)(I:Inv (X.hdl x) pins σ H s):Inv X pins σ H s:=⟨ok,I.os,I.bare,I.base,I.loc,I.cell,I.free,I.freeC,I.pin,I.hok,I.len⟩
theorem d0o{W:XW}:s0v (X.tr pins W) W:=by
 intro pins' e s' h;obtain ⟨x,C,od,T,σ,H',rfl,I,f,lx,lt,q⟩:=h;have ls:∀t,Loose (X.tr pins W) pins' H' t→Loose (X.more pins) [] H' t:=fun t l=>⟨l.free,l.ne,l.yng,l.cell,fun p hp=>l.pin p (List.mem_append_left _ (by simpa using hp))⟩
 have I0:Inv X pins σ H' s':=I.untr (W:=W) (.inl rfl);exact ⟨x,C,od,T,σ,H',rfl,⟨okMore I0.ok,I.os,I.bare,I.base,I.loc,I.cell,I.free,I.freeC,fun p hp=>I0.pin p (by simpa using hp),I.hok,I.len⟩,f,ls x lx,fun t e=>ls t (lt t e),q⟩
theorem SP.untr{W:XW}{D:Ends}{f:Flow}{s':Shared}(h:SP (X.tr pins W) [] D f s'):SP X pins D f s':=by
 cases f with
 |next=>obtain ⟨σ',H',I,q⟩:=h;exact ⟨σ',H',I.untr (W:=W) (.inl rfl),q⟩
 |brk=>obtain ⟨σ',H',I,q⟩:=h;exact ⟨σ',H',I.untr (W:=W) (.inl rfl),q⟩
 |cont=>obtain ⟨σ',H',I,q⟩:=h;exact ⟨σ',H',I.untr (W:=W) (.inl rfl),q⟩
 |ret u=>obtain ⟨v,σ',H',I,r,q⟩:=h;exact ⟨v,σ',H',I.untr (W:=W) (.inl rfl),r,q⟩
theorem SP.unhdl{x:Addr}{D:Ends}{f:Flow}{s':Shared}(ok:X.Ok)(h:SP (X.hdl x) pins D f s'):SP X pins D f s':=by
 cases f with
 |next=>obtain ⟨σ',H',I,q⟩:=h;exact ⟨σ',H',I.unhdl ok,q⟩
 |brk=>obtain ⟨σ',H',I,q⟩:=h;exact ⟨σ',H',I.unhdl ok,q⟩
 |cont=>obtain ⟨σ',H',I,q⟩:=h;exact ⟨σ',H',I.unhdl ok,q⟩
 |ret u=>obtain ⟨v,σ',H',I,r,q⟩:=h;exact ⟨v,σ',H',I.unhdl ok,r,q⟩
noncomputable abbrev XTS:=Addr→Option Addr→TS
noncomputable def PH(X:Cx)(hs:List ExceptHandler)(t:XTS):Prop:=∀(pins:List (Addr×Obj)) (x C:Addr) (od T:Option Addr) (s:Shared) (σ:St) (H:Hp) (D:Ends),Inv X pins σ H s→Fly X.fl s.heap x C od T→Loose X pins H x→(∀t,T=some t→Loose X pins H t)→t C od D σ H→
 wpAny (model X.prog X.w) X.A (handleBy (.ref x) X.env hs) (SP X pins D) X.xe s
theorem ph_nil:PH X [] fun _ _ _ _ _=>False:=fun _ _ _ _ _ _ _ _ _ _ _ _ _ h=>h.elim
structure XHd(K:PySem.W.Frag)(D:Addr):Prop where
 ty:PySem.W.typeIn K (.ref D)=some (.type "type")
 cl:(PySem.W.clsIn K D).isSome=true
 sub:PySem.W.mroIn K D (.type "BaseException")=some true
theorem o0d{A:Around}{E:Value→Shared→Prop}{x C D:Addr}{od T:Option Addr}{b:Bool}{Q:Bool→Shared→Prop}(I:Inv X pins σ H s)(f:Fly X.fl s.heap x C od T)(d:XHd X.K D)(hb:PySem.W.mroIn X.K C (.ref D)=some b)(q:Q b s):
 wpAny (model X.prog X.w) A (excMatches (.ref x) (.ref D)) Q E s:=by
 obtain ⟨o,vs,hx,hc,_⟩:=f;have L1:=PySem.W.looks_typeIn (M:=model X.prog X.w) I.kIn d.ty;have L2:=PySem.W.looks_mroIn (M:=model X.prog X.w) I.kIn d.sub;have L3:=PySem.W.looks_mroIn (M:=model X.prog X.w) I.kIn hb;have L0:PySem.W.Looks (model X.prog X.w) s.heap (typeOf (.ref x)) (.ref C):=hc▸(PySem.W.Looks.ld hx).andThen .now;have L4:PySem.W.Looks (model X.prog X.w) s.heap (isType (.ref D)) true:=by
  have z:=d.cl;unfold PySem.W.clsIn at z;split at z
  ·rename_i ho;intro A' Q' E' s' k q;unfold isType loadHead;exact wpAny_bind (wpAny_loadPart (k _ _ (I.kIn _ _ ho)) (wpAny_pure q))
  ·cases z
 have LT:PySem.W.Looks (model X.prog X.w) s.heap (isInstance (.ref D) (.type "tuple")) false:=L1.andThen (PySem.W.Looks.of_pure tc_notTuple);have LE:PySem.W.Looks (model X.prog X.w) s.heap (isExcClass (.ref D)) true:=L4.andThen L2;unfold excMatches;refine wpAny_bind (LT.here ?_);dsimp only;rw[if_neg Bool.false_ne_true];refine wpAny_bind (wpAny_pure ?_);simp only[List.forIn_cons,List.forIn_nil];refine wpAny_bind (wpAny_bind (wpAny_bind (LE.here ?_)));rw[if_neg (by decide)];refine wpAny_pure (wpAny_pure (wpAny_bind (L0.here (wpAny_bind (wpAny_bind (wpAny_bind (L3.here ?_)))))));cases b with
 |true=>
  rw[if_pos rfl];exact wpAny_pure (wpAny_pure (wpAny_pure q))
 |false=>
  rw[if_neg Bool.false_ne_true];exact wpAny_pure (wpAny_pure (wpAny_pure q))
theorem y1u{D:Addr}{y:Str}{np pos:Pos}{b₀:Stmt}{suite:List Stmt}{rest:List ExceptHandler}{ts:TS}{tr:XTS}(tp:Top X)(d:XHd X.K D)(hg:Gl X y)(hm:X.mg y=some (.ref D))(hs:∀x,PSs (X.hdl x) (b₀::suite) ts)(hr:PH X rest tr)
 (hdb:(y==("__debug__":Str))=false:=by decide):
 PH X (.ExceptHandler (some (.Name y np)) none (b₀::suite) pos::rest) (fun C od E σ H=>∃b,PySem.W.mroIn X.K C (.ref D)=some b∧if b=true then ts E σ H else tr C od E σ H):=by
 intro pins x C od T s σ H E I f lx lt ⟨b,hb,q⟩;refine wpAny_handleBy_cons (codeAny_handlers_test (t0a (X:=X.hdl x) I.hdl hg hm ?_ hdb)) (by intro z;cases z);refine o0d I f d hb ?_;cases b with
 |true=>
  rw[if_pos rfl]at q;refine codeAny_handlers_suite (w0n I tp f lt fun s1 I1 f1=>?_);exact wpAny_mono (hs x pins s1 σ H E I1.hdl q) (fun fl s2 z=>z.unhdl I.ok) fun _ _ z=>z.elim
 |false=>
  rw[if_neg Bool.false_ne_true]at q;exact hr pins x C od T s σ H E I f lx lt q
theorem Inv.track{x C:Addr}{od T:Option Addr}(I:Inv X pins σ H s)(l:Loose X pins H x)(f:Fly X.fl s.heap x C od T):Inv X pins σ (upd H x (XO (bif X.fl then 2 else 0) x C od)) s:=by
 obtain ⟨o,vs,hx,h1,h2,h3,h4,_⟩:=f;have nx:∀b u,H b=some u→b≠x:=fun b u q z=>by rw[z,l.free]at q;cases q
 refine ⟨I.ok,I.os,I.bare,⟨I.base.keep,I.base.slot,fun b ob q n hx=>?_,I.base.there,fun b xs q=>?_,fun b ob u q=>?_,fun b ps q=>?_⟩,I.loc,I.cell,?_,fun y c q=>?_,fun p hp=>?_,fun b u q=>?_,I.len⟩
 ·rw[j0 (Nat.ne_of_lt (Nat.lt_of_lt_of_le (Heap.lt_size q) l.yng))];exact I.base.free b ob q n hx
 ·have z:=I.base.tups b xs q;rw[j0 (nx b _ z)];exact z
 ·have z:=I.base.frzs b ob u q;rw[j0 (nx b _ z)];exact z
 ·obtain ⟨m,z⟩:=I.base.tbls b ps q;exact ⟨m,by rw[j0 (nx b _ z)];exact z⟩
 ·rw[j0 l.ne.symm];exact I.free
 ·rw[j0 (l.cell y c q)];exact I.freeC y c q
 ·obtain ⟨a,b,c⟩:=I.pin p hp;exact ⟨a,by rw[j0 (l.pin p hp)];exact b,c⟩
 ·by_cases z:b=x
  ·subst z;rw[l4]at q;cases q;exact XO.ok ⟨o,vs,hx,h1,h2,h3,(fun z=>by cases hc:X.fl<;>rw[hc]at z<;>cases z),fun z=>h4.2 (by cases hc:X.fl with |true=>rfl |false=>rw[hc]at z;exact absurd rfl z)⟩
  ·rw[j0 z]at q;exact (I.hok b u q).stay (fun _ _ _ w=>w) (fun c w=>by rw[j0 (nx c _ w)];exact w) fun c xs w=>by rw[j0 (nx c _ w)];exact w
theorem ph_as{D:Addr}{y n:Str}{i:Nat}{np pos:Pos}{b₀:Stmt}{suite:List Stmt}{rest:List ExceptHandler}{ts:Addr→TS}{tr:XTS}(tp:Top X)(d:XHd X.K D)(hg:Gl X y)(hm:X.mg y=some (.ref D))(hN:X.N.Nodup)(hi:X.N[i]?=some n)(hk:X.env.scope.names.lookup n=some .local)
 (hs:∀x,PSs (X.hdl x) (b₀::suite) (ts x)) (hr:PH X rest tr) (hdb:(y==("__debug__":Str))=false:=by decide):
 PH X (.ExceptHandler (some (.Name y np)) (some n) (b₀::suite) pos::rest) (fun C od E σ H=>∃b,PySem.W.mroIn X.K C (.ref D)=some b∧if b=true then
  (∀x,H x=none→ts x {nx:=fun σ' H'=>E.nx (σ'.set i none) H',rt:=E.rt,bk:=fun σ' H'=>E.bk (σ'.set i none) H',ct:=fun σ' H'=>E.ct (σ'.set i none) H'} (σ.set i (some (.ref x))) (upd H x (XO (bif X.fl then 2 else 0) x C od)))else tr C od E σ H):=by
 intro pins x C od T s σ H E I f lx lt ⟨b,hb,q⟩;refine wpAny_handleBy_cons (codeAny_handlers_test (t0a (X:=X.hdl x) I.hdl hg hm ?_ hdb)) (by intro z;cases z);refine o0d I f d hb ?_;cases b with
 |true=>
  rw[if_pos rfl]at q;refine codeAny_handlers_suite_as (w0n I tp f lt fun s1 I1 f1=>?_);have I2:Inv X pins σ (upd H x (XO (bif X.fl then 2 else 0) x C od)) s1:=I1.track lx f1;refine t0n (v:=.ref x) I2 hN hi (.inl hk) rfl (fun s2 I3=>?_) (.inr hk);refine wpAny_mono (hs x pins s2 _ _ _ I3.hdl (q x lx.free)) (fun fl s3 z=>?_) fun _ _ z=>z.elim
  have z:=z.unhdl I.ok;cases fl with
  |next=>obtain ⟨σ',H',I4,q4⟩:=z;exact q0b I4 hN hi hk fun s4 I5=>⟨_,H',I5,q4⟩
  |brk=>obtain ⟨σ',H',I4,q4⟩:=z;exact q0b I4 hN hi hk fun s4 I5=>⟨_,H',I5,q4⟩
  |cont=>obtain ⟨σ',H',I4,q4⟩:=z;exact q0b I4 hN hi hk fun s4 I5=>⟨_,H',I5,q4⟩
  |ret u=>obtain ⟨v,σ',H',I4,r4,q4⟩:=z;exact q0b I4 hN hi hk fun s4 I5=>⟨v,_,H',I5,r4,q4⟩
 |false=>
  rw[if_neg Bool.false_ne_true]at q;exact hr pins x C od T s σ H E I f lx lt q
noncomputable def tTry(tb:XW→TS)(th:XTS):TS:=fun D σ H=>∃W:XW,tb W D σ H∧∀C od σ' H',W C od σ' H'→th C od D σ' H'
theorem ps_try{body:List Stmt}{h₀:ExceptHandler}{hs:List ExceptHandler}{pos:Pos}{tb:XW→TS}{th:XTS}(tp:Top X)(hb:∀pins W,PSs (X.tr pins W) body (tb W))(hh:PH X (h₀::hs) th):PS X (.Try body (h₀::hs) [] [] pos) (tTry tb th):=by
 intro pins s σ H D I ⟨W,q,hW⟩;refine wpAny_Try_except (wpAny_mono (hb pins W [] s σ H D I.tr q) (fun f s1 z=>?_) fun e s1 z=>?_)
 ·have z:=z.untr;cases f with
  |next=>exact wpAny_execs_nil z
  |brk=>exact z
  |cont=>exact z
  |ret u=>exact z
 ·obtain ⟨x,C,od,T,σ',H',rfl,I1,f,lx,lt,q1⟩:=z;have I0:Inv X pins σ' H' s1:=I1.untr (W:=W) (.inr rfl);have ls:∀t,Loose (X.more pins) [] H' t→Loose X pins H' t:=fun t l=>⟨l.free,l.ne,l.yng,l.cell,fun p hp=>l.pin p (List.mem_append_left _ hp)⟩
  refine h0d I0 tp I0.ok.frames f (ls x lx) (fun t e=>ls t (lt t e)) fun s2 t I2 f2 l2=>?_
  refine w0n I2 tp f2 (fun t' e=>by cases e;exact l2) fun s3 I3 f3=>?_
  exact hh pins x C od (some t) s3 σ' H' D I3 f3 (ls x lx) (fun t' e=>by cases e;exact l2) (hW C od σ' H' q1)
end
end L2
namespace L2
open PySem PySem.Spec PyProof.Rows
open PySem.W (XC)
structure DefAt(K:PySem.W.Frag)(mg:Str→Option Value)(x:Str)(st:Stmt)(ps:List Str)(f:Addr)(fd:FuncData):Prop where
 F:Fun K x x st f fd
 m:mg x=some (.ref f)
 b:Binds K fd ps []
structure FnAt(P:Program)(w:World)(K:PySem.W.Frag)(mg:Str→Option Value)(base:Heap)(CX:CXT)(x:Str)(k:Nat)(ps:List Str)(sp:Sp):Prop where
 ex:∃f fd,FnOk P w K mg base CX k f fd ps sp∧mg x=some (.ref f)∧PySem.W.keepIn K (.ref f)=true∧Binds K fd ps []
theorem DefAt.at{P:Program}{w:World}{K:PySem.W.Frag}{mg:Str→Option Value}{base:Heap}{CX:CXT}{x:Str}{st:Stmt}{ps:List Str}{f:Addr}{fd:FuncData}{k:Nat}{sp:Sp}(D:DefAt K mg x st ps f fd)(F:FnOk P w K mg base CX k f fd ps sp):FnAt P w K mg base CX x k ps sp:=
 ⟨f,fd,F,D.m,D.F.kp,D.b⟩
section
variable{X:Cx}{x:Str}{p pos:Pos}{e:Expr}{es:List Expr}{t:TA}{k:Nat}{ps:List Str}{sp:Sp}
theorem pe_cX{W:XW}(G:FnAt X.prog X.w X.K X.mg X.base (CX1 X.prog X.w) x k ps sp)(hr:Room k X.A)(hf:s0v X W)(ha:PA X (e::es) t)(hg:Gl X x:=by rfl)(hdb:(x==("__debug__":Str))=false:=by decide)
 (he:starEach (e::es) X.env=(false,eval e X.env)::starEach es X.env:=by rfl) (hpl:(backTo pos (starEach es X.env)).any (·.1)=false:=by rfl):PE X (.Call (.Name x p) (e::es) [] pos) (h0c sp W t):=by
 obtain ⟨f,fd,F,m,kp,b⟩:=G.ex;exact d0q F hr hg m kp b hf ha hdb he hpl
theorem pty(n:String){y:Str}(hm:X.mg y=none)(hv:bootBuiltins y=some (.type n))(hg:Gl X y:=by rfl)(hn:y≠"__name__":=by decide)(hd:(y==("__debug__":Str))=false:=by decide):PE X (.Name y pos) (tC (.ty n)):=z1n hg hm hv rfl hn hd
end
theorem r0a:bootBuiltins "len"=some (.builtin "len"):=by kernel_rfl
theorem bt_abs:bootBuiltins "abs"=some (.builtin "abs"):=by kernel_rfl
theorem g0y:bootBuiltins "all"=some (.builtin "all"):=by kernel_rfl
theorem bt_max:bootBuiltins "max"=some (.builtin "max"):=by kernel_rfl
theorem l5:bootBuiltins "isinstance"=some (.builtin "isinstance"):=by kernel_rfl
theorem q0z:bootBuiltins "int"=some (.type "int"):=by kernel_rfl
theorem g0x:bootBuiltins "bool"=some (.type "bool"):=by kernel_rfl
theorem g0w:bootBuiltins "list"=some (.type "list"):=by kernel_rfl
theorem a8:bootBuiltins "tuple"=some (.type "tuple"):=by kernel_rfl
structure Deck(H:Hp)(D S:Addr)(n:Nat):Prop where
 ex:∃c k:Int,H D=some (.lst [.ref S,.int c,.int k])∧0≤c∧0≤k∧k≤n
end L2
namespace L2
open PySem PySem.Spec PyProof.Rows
end L2
namespace L2
theorem y1t{α:Type}{xs:List α}{k:Int}(h:0<xs.length):∃v,atI xs (k%(xs.length:Nat))=some v∧v∈xs:=by
 have h1:=Int.emod_nonneg k (b:=(xs.length:Int)) (by omega);have h2:=Int.emod_lt_of_pos k (b:=(xs.length:Int)) (by omega);have hj:(k%(xs.length:Nat)).toNat<xs.length:=by omega
 refine ⟨xs[(k%(xs.length:Nat)).toNat],?_,List.getElem_mem hj⟩;have e:k%(xs.length:Nat)=(((k%(xs.length:Nat)).toNat:Nat):Int):=by omega
 have q:∀z:Int,z=k%(xs.length:Nat)→z=((z.toNat:Nat):Int)→∀hz:z.toNat<xs.length,atI xs z=some xs[z.toNat]:=by
  intro z _ hz2 hz3;generalize z.toNat=j at hz2 hz3;subst hz2;exact z0c (List.getElem?_eq_getElem hz3)
 exact q _ rfl e hj
end L2
set_option maxHeartbeats 8000000
namespace L2
open PySem PySem.Spec PyProof.Rows
noncomputable def BT:List String:=["NoneType","bool","int","str","list","tuple","dict"]
theorem kt_all(K:PySem.W.Frag){n:String}(h:n∈BT):PySem.W.kitOne K (.type n) (.type "bool")=some (n=="bool")∧PySem.W.kitOne K (.type n) (.type "int")=some (n=="int"||n=="bool")∧
 PySem.W.kitOne K (.type n) (.type "list")=some (n=="list")∧PySem.W.kitOne K (.type n) (.type "tuple")=some (n=="tuple")∧PySem.W.kitAny K (.type n) [.type "list",.type "tuple"]=some (n=="list"||n=="tuple"):=by
 simp only[BT,List.mem_cons,List.not_mem_nil,or_false]at h;rcases h with rfl |rfl |rfl |rfl |rfl |rfl |rfl
 ·exact ⟨by kernel_rfl,by kernel_rfl,by kernel_rfl,by kernel_rfl,by kernel_rfl⟩
 ·exact ⟨by kernel_rfl,by kernel_rfl,by kernel_rfl,by kernel_rfl,by kernel_rfl⟩
 ·exact ⟨by kernel_rfl,by kernel_rfl,by kernel_rfl,by kernel_rfl,by kernel_rfl⟩
 ·exact ⟨by kernel_rfl,by kernel_rfl,by kernel_rfl,by kernel_rfl,by kernel_rfl⟩
 ·exact ⟨by kernel_rfl,by kernel_rfl,by kernel_rfl,by kernel_rfl,by kernel_rfl⟩
 ·exact ⟨by kernel_rfl,by kernel_rfl,by kernel_rfl,by kernel_rfl,by kernel_rfl⟩
 ·exact ⟨by kernel_rfl,by kernel_rfl,by kernel_rfl,by kernel_rfl,by kernel_rfl⟩
structure Thing(K:PySem.W.Frag)(H:Hp)(x:V)(n:String):Prop where
 ty:TyOf K H x (.type n)
 mem:n∈BT
end L2
set_option maxHeartbeats 8000000
namespace L2
open PySem PySem.Spec PyProof.Rows
open PySem.W (XC veMro)
structure ErrC(K:PySem.W.Frag)(W C:Addr):Prop where
 mro:(PySem.W.clsIn K C).map (·.mro)=some (.ref C:: .ref W::veMro)
 ty:PySem.W.typeIn K (.ref C)=some (.type "type")
 xc:XC K C
theorem ErrC.mroIn{K:PySem.W.Frag}{W C:Addr}(c:ErrC K W C)(b:Value):PySem.W.mroIn K C b=some ((Value.ref C:: .ref W::veMro).contains b):=by
 obtain ⟨cd,h1,h2⟩:=Option.map_eq_some_iff.mp c.mro;unfold PySem.W.mroIn;rw[h1,Option.bind_some,h2];rfl
theorem Same.new{H:Hp}{p:Addr}{o:HO}(h:H p=none):Same H (upd H p o):=fun b u e=>by rw[j0 (d0 e h)];exact e
noncomputable def spXI(C:Addr)(a:Str):Sp:=fun vs H Q _=>∃(x:Addr) (v:V),vs=[.ref x,v]∧H x=some (XO 1 x C none)∧∀d,H d=none→d≠x→Q .non (upd (upd H d (XD d [(a,v)])) x (XO 1 x C (some d)))
end L2
namespace L2
open PySem PySem.Spec PyProof.Rows
open PySem.W (XC veMro)
structure MkE(P:Program)(w:World)(K:PySem.W.Frag)(mg:Str→Option Value)(base:Heap)(x:Str)(C:Addr)(k:Nat)(ps:List Str)(sp:Sp):Prop where
 ex:∃f fd,XMk K C f∧FnOk P w K mg base CX0 k f fd ps sp∧Binds K fd ps []
 m:mg x=some (.ref C)
theorem g0v{X:Cx}{W:XW}{x:Str}{C:Addr}{k:Nat}{ps:List Str}{sp:Sp}{p cpos pos:Pos}{e:Expr}{es:List Expr}{t:TA}(hc:X.calm=true)(hf:s0v X W)(M:MkE X.prog X.w X.K X.mg X.base x C k ps sp)(hr:Room (k+1) X.A)(ha:PA X (e::es) t)(hg:Gl X x:=by rfl)
 (hdb:(x==("__debug__":Str))=false:=by decide) (he:starEach (e::es) X.env=(false,eval e X.env)::starEach es X.env:=by rfl) (hpl:(backTo cpos (starEach es X.env)).any (·.1)=false:=by rfl):
 PS X (.Raise (some (.Call (.Name x p) (e::es) [] cpos)) none pos) (h0a C sp W t):=by
 obtain ⟨f,fd,h1,h2,h3⟩:=M.ex;exact g0z hc hf h1 h2 hr hg M.m h3 ha hdb he hpl
theorem sz1{a:V}:[a].length≤PySem.sizeLine:=by show 1≤PySem.sizeLine;decide
end L2
namespace DL
open PySem PySem.Spec L2
open PySem.W (XC)
inductive D where
 |non |bl (b:Bool)|int (i:Int)|str (x:Str)
 |lst (xs:List D)|tup (xs:List D)|scr (xs:List D)|dic (kvs:List (Key×D))|dwk (kvs:List (Key×D))
 |ins (C:Addr) (fs:List (Str×D))|exc (C:Addr) (fs:List (Str×D))
 |ref (a:Addr)|ty (n:String)
noncomputable abbrev Frag:=PySem.W.Frag
mutual
noncomputable def Rep(K:Frag)(F:Hp):D→V→Prop
 | .non,v=>v=.non
 | .bl b,v=>v=.bl b
 | .int i,v=>v=.int i
 | .str x,v=>v=.str x
 | .lst ds,v=>∃a vs,v=.ref a∧F a=some (.lst vs)∧Reps K F ds vs
 | .tup ds,v=>∃a vs,v=.ref a∧F a=some (.tup vs)∧Reps K F ds vs
 | .scr ds,v=>∃a vs,v=.ref a∧SqL K F a vs∧Reps K F ds vs
 | .dic kvs,v=>∃a us,v=.ref a∧F a=some (.dK us)∧RepK K F kvs us
 | .dwk kvs,v=>∃a o us,v=.ref a∧F a=some (.frz o (.dK us))∧RepK K F kvs us
 | .ins C fs,v=>∃a dx us,v=.ref a∧F a=some (.ins C dx us)∧F dx=some (.own a)∧RepF K F fs us
 | .exc C fs,v=>∃a fr,v=.ref a∧((fs=[]∧F a=some (XO fr a C none))∨∃d us,F a=some (XO fr a C (some d))∧F d=some (XD d us)∧RepF K F fs us)
 | .ref a,v=>v=.ref a
 | .ty n,v=>v=.ty n
noncomputable def Reps(K:Frag)(F:Hp):List D→List V→Prop
 | [],vs=>vs=[]
 |d::ds,vs=>∃v r,vs=v::r∧Rep K F d v∧Reps K F ds r
noncomputable def RepF(K:Frag)(F:Hp):List (Str×D)→List (Str×V)→Prop
 | [],vs=>vs=[]
 |(x,d)::ds,vs=>∃v r,vs=(x,v)::r∧Rep K F d v∧RepF K F ds r
noncomputable def RepK(K:Frag)(F:Hp):List (Key×D)→List (Key×V)→Prop
 | [],vs=>vs=[]
 |(x,d)::ds,vs=>∃v r,vs=(x,v)::r∧Rep K F d v∧RepK K F ds r
end
theorem _root_.L2.Same.rd{F F':Hp}{a:Addr}{u:HO}(s:Same F F')(h:Rd F a u):Rd F' a u:=by
 rcases h with h |⟨o,h⟩
 ·exact .inl (s _ _ h)
 ·exact .inr ⟨o,s _ _ h⟩
theorem _root_.L2.Same.sqL{K:Frag}{F F':Hp}{a:Addr}{xs:List V}(s:Same F F')(h:SqL K F a xs):SqL K F' a xs:=h.imp s.rd id
theorem _root_.L2.Same.sqT{K:Frag}{F F':Hp}{a:Addr}{xs:List V}(s:Same F F')(h:SqT K F a xs):SqT K F' a xs:=h.imp s.rd id
mutual
theorem Rep.mono{K:Frag}{F F':Hp}(s:Same F F'):∀{d:D} {v:V},Rep K F d v→Rep K F' d v
 | .non,v,h=>by unfold Rep at h ⊢; exact h
 | .bl b,v,h=>by unfold Rep at h ⊢; exact h
 | .int i,v,h=>by unfold Rep at h ⊢; exact h
 | .str x,v,h=>by unfold Rep at h ⊢; exact h
 | .lst ds,v,h=>by unfold Rep at h ⊢; obtain ⟨a,vs,e,q,r⟩:=h;exact ⟨a,vs,e,s _ _ q,Reps.mono s r⟩
 | .tup ds,v,h=>by unfold Rep at h ⊢; obtain ⟨a,vs,e,q,r⟩:=h;exact ⟨a,vs,e,s _ _ q,Reps.mono s r⟩
 | .scr ds,v,h=>by unfold Rep at h ⊢; obtain ⟨a,vs,e,q,r⟩:=h;exact ⟨a,vs,e,s.sqL q,Reps.mono s r⟩
 | .dic ds,v,h=>by unfold Rep at h ⊢; obtain ⟨a,vs,e,q,r⟩:=h;exact ⟨a,vs,e,s _ _ q,RepK.mono s r⟩
 | .dwk ds,v,h=>by unfold Rep at h ⊢; obtain ⟨a,o,vs,e,q,r⟩:=h;exact ⟨a,o,vs,e,s _ _ q,RepK.mono s r⟩
 | .ins C fs,v,h=>by unfold Rep at h ⊢; obtain ⟨a,dx,vs,e,q,q2,r⟩:=h;exact ⟨a,dx,vs,e,s _ _ q,s _ _ q2,RepF.mono s r⟩
 | .exc C fs,v,h=>by
  unfold Rep at h ⊢;obtain ⟨a,fr,e,h⟩:=h;refine ⟨a,fr,e,?_⟩;rcases h with ⟨e1,q⟩|⟨d,us,q,q2,r⟩
  ·exact .inl ⟨e1,s _ _ q⟩
  ·exact .inr ⟨d,us,s _ _ q,s _ _ q2,RepF.mono s r⟩
 | .ref a,v,h=>by unfold Rep at h ⊢; exact h
 | .ty n,v,h=>by unfold Rep at h ⊢; exact h
theorem Reps.mono{K:Frag}{F F':Hp}(s:Same F F'):∀{ds:List D} {vs:List V},Reps K F ds vs→Reps K F' ds vs
 | [],vs,h=>by unfold Reps at h ⊢; exact h
 |d::ds,vs,h=>by unfold Reps at h ⊢; obtain ⟨v,r,e,q,z⟩:=h;exact ⟨v,r,e,Rep.mono s q,Reps.mono s z⟩
theorem RepF.mono{K:Frag}{F F':Hp}(s:Same F F'):∀{ds:List (Str×D)} {vs:List (Str×V)},RepF K F ds vs→RepF K F' ds vs
 | [],vs,h=>by unfold RepF at h ⊢; exact h
 |(x,d)::ds,vs,h=>by unfold RepF at h ⊢; obtain ⟨v,r,e,q,z⟩:=h;exact ⟨v,r,e,Rep.mono s q,RepF.mono s z⟩
theorem RepK.mono{K:Frag}{F F':Hp}(s:Same F F'):∀{ds:List (Key×D)} {vs:List (Key×V)},RepK K F ds vs→RepK K F' ds vs
 | [],vs,h=>by unfold RepK at h ⊢; exact h
 |(x,d)::ds,vs,h=>by unfold RepK at h ⊢; obtain ⟨v,r,e,q,z⟩:=h;exact ⟨v,r,e,Rep.mono s q,RepK.mono s z⟩
end
section
variable{K:Frag}{F H:Hp}
theorem rep_non{v:V}:Rep K F .non v↔v=.non:=by unfold Rep;exact Iff.rfl
theorem rep_bl{b:Bool}{v:V}:Rep K F (.bl b) v↔v=.bl b:=by unfold Rep;exact Iff.rfl
theorem rep_int{i:Int}{v:V}:Rep K F (.int i) v↔v=.int i:=by unfold Rep;exact Iff.rfl
theorem rep_str{x:Str}{v:V}:Rep K F (.str x) v↔v=.str x:=by unfold Rep;exact Iff.rfl
theorem rep_ref{a:Addr}{v:V}:Rep K F (.ref a) v↔v=.ref a:=by unfold Rep;exact Iff.rfl
theorem rep_ty{n:String}{v:V}:Rep K F (.ty n) v↔v=.ty n:=by unfold Rep;exact Iff.rfl
theorem rep_lst{ds:List D}{v:V}:Rep K F (.lst ds) v↔∃a vs,v=.ref a∧F a=some (.lst vs)∧Reps K F ds vs:=by rw[Rep]
theorem rep_tup{ds:List D}{v:V}:Rep K F (.tup ds) v↔∃a vs,v=.ref a∧F a=some (.tup vs)∧Reps K F ds vs:=by rw[Rep]
theorem rep_scr{ds:List D}{v:V}:Rep K F (.scr ds) v↔∃a vs,v=.ref a∧SqL K F a vs∧Reps K F ds vs:=by rw[Rep]
theorem rep_dwk{ds:List (Key×D)}{v:V}:Rep K F (.dwk ds) v↔∃a o us,v=.ref a∧F a=some (.frz o (.dK us))∧RepK K F ds us:=by rw[Rep]
theorem rep_dic{ds:List (Key×D)}{v:V}:Rep K F (.dic ds) v↔∃a us,v=.ref a∧F a=some (.dK us)∧RepK K F ds us:=by rw[Rep]
theorem rep_ins{C:Addr}{fs:List (Str×D)}{v:V}:Rep K F (.ins C fs) v↔∃a dx us,v=.ref a∧F a=some (.ins C dx us)∧F dx=some (.own a)∧RepF K F fs us:=by rw[Rep]
theorem rep_exc{C:Addr}{fs:List (Str×D)}{v:V}:Rep K F (.exc C fs) v↔∃a fr,v=.ref a∧((fs=[]∧F a=some (XO fr a C none))∨∃d us,F a=some (XO fr a C (some d))∧F d=some (XD d us)∧RepF K F fs us):=by rw[Rep]
theorem reps_nil{vs:List V}:Reps K F [] vs↔vs=[]:=by rw[Reps]
theorem reps_cons{d:D}{ds:List D}{vs:List V}:Reps K F (d::ds) vs↔∃v r,vs=v::r∧Rep K F d v∧Reps K F ds r:=by rw[Reps]
theorem Reps.cons{d:D}{ds:List D}{v:V}{vs:List V}(h:Rep K F d v)(t:Reps K F ds vs):Reps K F (d::ds) (v::vs):=reps_cons.mpr ⟨v,vs,rfl,h,t⟩
theorem Reps.nil:Reps K F [] []:=reps_nil.mpr rfl
theorem Reps.length:∀{ds:List D} {vs:List V},Reps K F ds vs→vs.length=ds.length
 | [],vs,h=>by rw[reps_nil.mp h];rfl
 |d::ds,vs,h=>by obtain ⟨v,r,rfl,_,z⟩:=reps_cons.mp h;rw[List.length_cons,List.length_cons,Reps.length z]
theorem Reps.append:∀{ds es:List D} {vs us:List V},Reps K F ds vs→Reps K F es us→Reps K F (ds++es) (vs++us)
 | [],es,vs,us,h,h'=>by rw[reps_nil.mp h];exact h'
 |d::ds,es,vs,us,h,h'=>by obtain ⟨v,r,rfl,q,z⟩:=reps_cons.mp h;exact Reps.cons q (Reps.append z h')
theorem Reps.get:∀{ds:List D} {vs:List V} {i:Nat} {d:D},Reps K F ds vs→ds[i]?=some d→∃v,vs[i]?=some v∧Rep K F d v
 | [],vs,i,d,h,e=>by simp at e
 |d::ds,vs,0,d',h,e=>by obtain ⟨v,r,rfl,q,z⟩:=reps_cons.mp h;simp at e;subst e;exact ⟨v,rfl,q⟩
 |d::ds,vs,i+1,d',h,e=>by obtain ⟨v,r,rfl,q,z⟩:=reps_cons.mp h;simp at e;obtain ⟨u,a,b⟩:=Reps.get z e;exact ⟨u,by simpa using a,b⟩
theorem Reps.set{d:D}{v:V}(q:Rep K F d v):∀{ds:List D} {vs:List V} (i:Nat),Reps K F ds vs→Reps K F (ds.set i d) (vs.set i v)
 | [],vs,i,h=>by rw[reps_nil.mp h];exact Reps.nil
 |e::ds,vs,0,h=>by obtain ⟨u,r,rfl,_,z⟩:=reps_cons.mp h;exact Reps.cons q z
 |e::ds,vs,i+1,h=>by obtain ⟨u,r,rfl,p,z⟩:=reps_cons.mp h;exact Reps.cons p (Reps.set q i z)
theorem Reps.take:∀{ds:List D} {vs:List V} (n:Nat),Reps K F ds vs→Reps K F (ds.take n) (vs.take n)
 | [],vs,n,h=>by rw[reps_nil.mp h];simp;exact Reps.nil
 |d::ds,vs,0,h=>by simp;exact Reps.nil
 |d::ds,vs,n+1,h=>by obtain ⟨u,r,rfl,p,z⟩:=reps_cons.mp h;simp;exact Reps.cons p (Reps.take n z)
theorem Reps.drop:∀{ds:List D} {vs:List V} (n:Nat),Reps K F ds vs→Reps K F (ds.drop n) (vs.drop n)
 | [],vs,n,h=>by rw[reps_nil.mp h];simp;exact Reps.nil
 |d::ds,vs,0,h=>by simpa using h
 |d::ds,vs,n+1,h=>by obtain ⟨u,r,rfl,p,z⟩:=reps_cons.mp h;simp;exact Reps.drop n z
theorem Reps.dropLast{ds:List D}{vs:List V}(h:Reps K F ds vs):Reps K F ds.dropLast vs.dropLast:=by
 rw[List.dropLast_eq_take,List.dropLast_eq_take,h.length];exact h.take _
theorem Reps.atI{ds:List D}{vs:List V}{i:Int}{d:D}(h:Reps K F ds vs)(e:L2.atI ds i=some d):∃v,L2.atI vs i=some v∧Rep K F d v:=by
 unfold L2.atI at e ⊢;rw[h.length];cases hj:ixN ds.length i with
 |none=>rw[hj]at e;cases e
 |some j=>
  rw[hj]at e;obtain ⟨v,a,b⟩:=h.get e;exact ⟨v,a,b⟩
end
end DL
namespace DL
open PySem PySem.Spec L2
open PySem.W (XC)
noncomputable abbrev Dk:=Option (Addr×List D)
inductive Cell where
 |no |val (d:D)|own (ds:List D)|obj (C:Addr) (fs:List (Str×D))|ownD (kvs:List (Key×D))
noncomputable abbrev En:=List Cell
noncomputable def CellOk(K:Frag)(F H H₀:Hp)(sf:Option Addr):Cell→Option V→Prop
 | .no,_=>True
 | .val d,v=>∃u,v=some u∧Rep K F d u
 | .own ds,v=>∃a vs,v=some (.ref a)∧H a=some (.lst vs)∧F a=none∧H₀ a=none∧Reps K F ds vs
 | .obj C fs,v=>∃a dx us,v=some (.ref a)∧sf=some a∧H a=some (.ins C dx us)∧H dx=some (.own a)∧F a=none∧F dx=none∧H₀ a=none∧H₀ dx=none∧RepF K F fs us
 | .ownD kvs,v=>∃a us,v=some (.ref a)∧H a=some (.dK us)∧F a=none∧H₀ a=none∧RepK K F kvs us
noncomputable def Off(δ:Dk)(b:Addr):Prop:=∀a ds,δ=some (a,ds)→b≠a
noncomputable def DkOk(K:Frag)(F H:Hp)(δ:Dk):Prop:=∀a ds,δ=some (a,ds)→F a=none∧∃vs,H a=some (.lst vs)∧Reps K F ds vs
noncomputable def DkTo(H₀:Hp)(δ₀ δ:Dk):Prop:=(∀a ds,δ₀=some (a,ds)→∃es,δ=some (a,es))∧∀a ds,δ=some (a,ds)→δ₀=none→H₀ a=none
structure Ran(K:Frag)(F₀ H₀:Hp)(δ₀:Dk)(F H:Hp)(δ:Dk):Prop where
 sub:Same F H
 dk:DkOk K F H δ
 keep:∀b o,H₀ b=some o→Off δ₀ b→H b=some o
 f0:Same F₀ F
 fnew:∀b o,F b=some o→F₀ b=some o∨H₀ b=none
 dto:DkTo H₀ δ₀ δ
structure Y2 where
 F₀:Hp
 H₀:Hp
 δ₀:Dk
 sf:Option Addr:=none
noncomputable def y8(ρ:En)(σ:St)(i:Nat)(a:Addr):Prop:=((∃ds,ρ[i]?=some (.own ds))∨(∃C fs,ρ[i]?=some (.obj C fs))∨∃kvs,ρ[i]?=some (.ownD kvs))∧σ[i]?=some (some (.ref a))
structure I2(K:Frag)(Y:Y2)(F H:Hp)(σ:St)(ρ:En)(δ:Dk):Prop where
 ran:Ran K Y.F₀ Y.H₀ Y.δ₀ F H δ
 env:∀(i:Nat) (c:Cell),ρ[i]?=some c→CellOk K F H Y.H₀ Y.sf c (σ[i]?).join
 len:ρ.length=σ.length
 apart:∀(i j:Nat) (a:Addr),i≠j→y8 ρ σ i a→y8 ρ σ j a→False
 off:∀(i:Nat) (a:Addr),y8 ρ σ i a→Off δ a
section
variable{K:Frag}{Y:Y2}{F H F' H':Hp}{σ:St}{ρ:En}{δ:Dk}
theorem I2.sub(I:I2 K Y F H σ ρ δ):Same F H:=I.ran.sub
theorem m4{σ:St}{i:Nat}{v:V}(h:(σ[i]?).join=some v):σ[i]?=some (some v):=by
 cases e:σ[i]? with
 |none=>rw[e]at h;cases h
 |some o=>rw[e]at h;exact congrArg some h
theorem Ran.fresh(R:Ran K Y.F₀ Y.H₀ Y.δ₀ F H δ){p:Addr}(h:H p=none):Y.H₀ p=none:=by
 cases q:Y.H₀ p with
 |none=>rfl
 |some o=>
  by_cases z:∃ds,Y.δ₀=some (p,ds)
  ·obtain ⟨ds,z⟩:=z;obtain ⟨es,z2⟩:=R.dto.1 p ds z;obtain ⟨_,vs,z3,_⟩:=R.dk p es z2;rw[h]at z3;cases z3
  ·have:=R.keep p o q (fun a ds e w=>z ⟨ds,by rw[e,w]⟩);rw[h]at this;cases this
theorem Ran.alloc{o:HO}{p:Addr}(R:Ran K Y.F₀ Y.H₀ Y.δ₀ F H δ)(h:H p=none):Ran K Y.F₀ Y.H₀ Y.δ₀ (upd F p o) (upd H p o) δ:=by
 have hF:F p=none:=R.sub.free h;have h0:=R.fresh h;refine ⟨fun b u e=>?_,fun a ds e=>?_,fun b u e f=>?_,fun b u e=>?_,fun b u e=>?_,R.dto⟩
 ·by_cases z:b=p
  ·subst z;rw[l4]at e ⊢; exact e
  ·rw[j0 z]at e ⊢; exact R.sub _ _ e
 ·obtain ⟨q,vs,q2,r⟩:=R.dk a ds e;have z:a≠p:=d0 q2 h;exact ⟨by rw[j0 z];exact q,vs,by rw[j0 z];exact q2,r.mono (Same.new hF)⟩
 ·rw[j0 (d0 (R.keep b u e f) h)];exact R.keep b u e f
 ·rw[j0 (d0 (R.f0 b u e) hF)];exact R.f0 b u e
 ·by_cases z:b=p
  ·subst z;exact .inr h0
  ·rw[j0 z]at e;exact R.fnew b u e
theorem CellOk.alloc{o:HO}{p:Addr}{c:Cell}{v:Option V}{H₀:Hp}{sf:Option Addr}(s:Same F H)(h:H p=none)(x:CellOk K F H H₀ sf c v):CellOk K (upd F p o) (upd H p o) H₀ sf c v:=by
 have hF:F p=none:=s.free h;cases c with
 |no=>trivial
 |val d=>obtain ⟨u,e,r⟩:=x;exact ⟨u,e,r.mono (Same.new hF)⟩
 |own ds=>
  obtain ⟨a,vs,e,q,f,g,r⟩:=x;have z:=d0 q h;exact ⟨a,vs,e,by rw[j0 z];exact q,by rw[j0 z];exact f,g,r.mono (Same.new hF)⟩
 |obj C fs=>
  obtain ⟨a,dx,us,e,es,q,q2,f,f2,g,g2,r⟩:=x;have z:=d0 q h;have z2:=d0 q2 h;exact ⟨a,dx,us,e,es,by rw[j0 z];exact q,by rw[j0 z2];exact q2,by rw[j0 z];exact f,by rw[j0 z2];exact f2,g,g2,r.mono (Same.new hF)⟩
 |ownD kvs=>
  obtain ⟨a,us,e,q,f,g,r⟩:=x;have z:=d0 q h;exact ⟨a,us,e,by rw[j0 z];exact q,by rw[j0 z];exact f,g,r.mono (Same.new hF)⟩
theorem I2.alloc{o:HO}{p:Addr}(I:I2 K Y F H σ ρ δ)(h:H p=none):I2 K Y (upd F p o) (upd H p o) σ ρ δ:=
 ⟨I.ran.alloc h,fun i c e=>(I.env i c e).alloc I.sub h,I.len,I.apart,I.off⟩
theorem I2.lst{ds:List D}{vs:List V}{p:Addr}(I:I2 K Y F H σ ρ δ)(h:H p=none)(r:Reps K F ds vs):Rep K (upd F p (.lst vs)) (.lst ds) (.ref p):=
 rep_lst.mpr ⟨p,vs,rfl,l4,r.mono (Same.new (I.sub.free h))⟩
theorem I2.tup{ds:List D}{vs:List V}{p:Addr}(I:I2 K Y F H σ ρ δ)(h:H p=none)(r:Reps K F ds vs):Rep K (upd F p (.tup vs)) (.tup ds) (.ref p):=
 rep_tup.mpr ⟨p,vs,rfl,l4,r.mono (Same.new (I.sub.free h))⟩
theorem I2.grow{o:HO}{p:Addr}(I:I2 K Y F H σ ρ δ)(h:H p=none):Same F (upd F p o):=Same.new (I.sub.free h)
theorem I2.put{i:Nat}{v:V}{d:D}(I:I2 K Y F H σ ρ δ)(r:Rep K F d v):I2 K Y F H (σ.set i (some v)) (ρ.set i (.val d)) δ:=by
 have key:∀j a,y8 (ρ.set i (.val d)) (σ.set i (some v)) j a→j≠i∧y8 ρ σ j a:=fun j a o=>by
  by_cases z:j=i
  ·subst z;rcases o.1 with ⟨ds,q⟩|⟨C,fs,q⟩|⟨kvs,q⟩<;>
   ·rw[List.getElem?_set]at q;simp at q
  ·refine ⟨z,?_⟩;obtain ⟨o1,o2⟩:=o;simp only[List.getElem?_set_ne (Ne.symm z)]at o1 o2;exact ⟨o1,o2⟩
 refine ⟨I.ran,fun j c e=>?_,by simp[I.len],fun a b c n o1 o2=>I.apart a b c n (key a c o1).2 (key b c o2).2,fun j a o=>I.off j a (key j a o).2⟩;by_cases z:j=i
 ·subst z;rw[List.getElem?_set]at e;by_cases hl:j<ρ.length
  ·simp[hl]at e;subst e;refine ⟨v,?_,r⟩;rw[List.getElem?_set];simp[I.len▸hl]
  ·simp[hl]at e
 ·rw[List.getElem?_set_ne (Ne.symm z)]at e ⊢;exact I.env j c e
theorem I2.gone{i:Nat}(I:I2 K Y F H σ ρ δ):I2 K Y F H (σ.set i none) (ρ.set i .no) δ:=by
 have key:∀j a,y8 (ρ.set i .no) (σ.set i none) j a→j≠i∧y8 ρ σ j a:=fun j a o=>by
  by_cases z:j=i
  ·subst z;rcases o.1 with ⟨ds,q⟩|⟨C,fs,q⟩|⟨kvs,q⟩<;>
   ·rw[List.getElem?_set]at q;simp at q
  ·refine ⟨z,?_⟩;obtain ⟨o1,o2⟩:=o;simp only[List.getElem?_set_ne (Ne.symm z)]at o1 o2;exact ⟨o1,o2⟩
 refine ⟨I.ran,fun j c e=>?_,by simp[I.len],fun a b c n o1 o2=>I.apart a b c n (key a c o1).2 (key b c o2).2,fun j a o=>I.off j a (key j a o).2⟩;by_cases z:j=i
 ·subst z;rw[List.getElem?_set]at e;by_cases hl:j<ρ.length
  ·simp[hl]at e;subst e;trivial
  ·simp[hl]at e
 ·rw[List.getElem?_set_ne (Ne.symm z)]at e ⊢;exact I.env j c e
theorem I2.freeze{i:Nat}{ds:List D}(I:I2 K Y F H σ ρ δ)(e:ρ[i]?=some (.own ds)):
 ∃a vs,σ[i]?=some (some (.ref a))∧F a=none∧I2 K Y (upd F a (.lst vs)) H σ (ρ.set i (.val (.lst ds))) δ∧Rep K (upd F a (.lst vs)) (.lst ds) (.ref a):=by
 obtain ⟨a,vs,q,h,f,g,r⟩:=I.env i _ e;have hs:=m4 q;have ho:y8 ρ σ i a:=⟨.inl ⟨ds,e⟩,hs⟩;have rr:Rep K (upd F a (.lst vs)) (.lst ds) (.ref a):=rep_lst.mpr ⟨a,vs,rfl,l4,r.mono (Same.new f)⟩;refine ⟨a,vs,hs,f,?_,rr⟩;have key:∀j b,y8 (ρ.set i (.val (.lst ds))) σ j b→j≠i∧y8 ρ σ j b:=fun j b o=>by
  by_cases z:j=i
  ·subst z;rcases o.1 with ⟨ds,q⟩|⟨C,fs,q⟩|⟨kvs,q⟩<;>
   ·rw[List.getElem?_set]at q;simp at q
  ·refine ⟨z,?_⟩;obtain ⟨o1,o2⟩:=o;simp only[List.getElem?_set_ne (Ne.symm z)]at o1;exact ⟨o1,o2⟩
 refine ⟨⟨fun b u e=>?_,fun b es e=>?_,I.ran.keep,fun b u e=>?_,fun b u e=>?_,I.ran.dto⟩,fun j c e'=>?_,by simp[I.len],fun x y b n o1 o2=>I.apart x y b n (key x b o1).2 (key y b o2).2,fun j b o=>I.off j b (key j b o).2⟩
 ·by_cases z:b=a
  ·subst z;rw[l4]at e;cases e;exact h
  ·rw[j0 z]at e;exact I.sub _ _ e
 ·obtain ⟨q1,us,q2,q3⟩:=I.ran.dk b es e;exact ⟨by rw[j0 (Ne.symm (I.off i a ho b es e))];exact q1,us,q2,q3.mono (Same.new f)⟩
 ·rw[j0 (d0 (I.ran.f0 b u e) f)];exact I.ran.f0 b u e
 ·by_cases z:b=a
  ·subst z;exact .inr g
  ·rw[j0 z]at e;exact I.ran.fnew b u e
 ·by_cases z:j=i
  ·subst z;rw[List.getElem?_set]at e';by_cases hl:j<ρ.length
   ·simp[hl]at e';subst e';exact ⟨_,q,rr⟩
   ·simp[hl]at e'
  ·rw[List.getElem?_set_ne (Ne.symm z)]at e';have w:=I.env j c e';cases c with
   |no=>trivial
   |val d=>obtain ⟨u,e1,r1⟩:=w;exact ⟨u,e1,r1.mono (Same.new f)⟩
   |own es=>
    obtain ⟨b,us,e1,h1,f1,g1,r1⟩:=w;have nb:b≠a:=fun w=>I.apart j i a z ⟨.inl ⟨es,e'⟩,by rw[←w];exact m4 e1⟩ ho
    exact ⟨b,us,e1,h1,by rw[j0 nb];exact f1,g1,r1.mono (Same.new f)⟩
   |obj C fs=>
    obtain ⟨b,dx,us,e1,es1,h1,h2,f1,f2,g1,g2,r1⟩:=w;have nb:b≠a:=fun w=>by rw[w,h]at h1;cases h1
    have nd:dx≠a:=fun w=>by rw[w,h]at h2;cases h2
    exact ⟨b,dx,us,e1,es1,h1,h2,by rw[j0 nb];exact f1,by rw[j0 nd];exact f2,g1,g2,r1.mono (Same.new f)⟩
   |ownD kvs=>
    obtain ⟨b,us,e1,h1,f1,g1,r1⟩:=w;have nb:b≠a:=fun w=>by rw[w,h]at h1;cases h1
    exact ⟨b,us,e1,h1,by rw[j0 nb];exact f1,g1,r1.mono (Same.new f)⟩
end
end DL
namespace DL
open PySem PySem.Spec L2
open PySem.W (XC)
noncomputable abbrev XK2:=Addr→List (Str×D)→En→Dk→Prop
noncomputable abbrev K2:=D→En→Dk→Prop
noncomputable abbrev TE2:=XK2→En→Dk→K2→Prop
noncomputable abbrev TT2:=XK2→En→Dk→(Bool→En→Dk→Prop)→Prop
noncomputable abbrev TA2:=XK2→En→Dk→(List D→En→Dk→Prop)→Prop
noncomputable def XRep(K:Frag)(F:Hp)(od:Option Addr)(fs:List (Str×D)):Prop:=match od with
 |none=>fs=[]
 |some d=>∃us,F d=some (XD d us)∧RepF K F fs us
noncomputable def XR(K:Frag)(Y:Y2)(W:XW)(F:Hp)(x:XK2):Prop:=∀C od fs σ' F' H' ρ' δ',I2 K Y F' H' σ' ρ' δ'→Same F F'→XRep K F' od fs→x C fs ρ' δ'→W C od σ' H'
theorem XR.mono{K:Frag}{Y:Y2}{W:XW}{F F1:Hp}{x:XK2}(h:XR K Y W F x)(s:Same F F1):XR K Y W F1 x:=fun C od fs σ' F' H' ρ' δ' I s'=>h C od fs σ' F' H' ρ' δ' I (s.trans s')
noncomputable def upE(K:Frag)(Y:Y2)(W:XW)(t:TE2):TE:=fun σ H Q=>∃F ρ δ x q,I2 K Y F H σ ρ δ∧t x ρ δ q∧(∀d v F' H' ρ' δ',I2 K Y F' H' σ ρ' δ'→Same F F'→Rep K F' d v→q d ρ' δ'→Q v H')∧XR K Y W F x
noncomputable def upT(K:Frag)(Y:Y2)(W:XW)(t:TT2):TT:=fun σ H Q=>∃F ρ δ x q,I2 K Y F H σ ρ δ∧t x ρ δ q∧(∀b F' H' ρ' δ',I2 K Y F' H' σ ρ' δ'→Same F F'→q b ρ' δ'→Q b H')∧XR K Y W F x
noncomputable def upA(K:Frag)(Y:Y2)(W:XW)(t:TA2):TA:=fun σ H Q=>∃F ρ δ x q,I2 K Y F H σ ρ δ∧t x ρ δ q∧(∀ds vs F' H' ρ' δ',I2 K Y F' H' σ ρ' δ'→Same F F'→Reps K F' ds vs→q ds ρ' δ'→Q vs H')∧XR K Y W F x
structure PE2(X:Cx)(Y:Y2)(W:XW)(e:Expr)(t:TE2):Prop where
 go:PE X e (upE X.K Y W t)
structure PT2(X:Cx)(Y:Y2)(W:XW)(e:Expr)(t:TT2):Prop where
 go:PT X e (upT X.K Y W t)
structure PW2(X:Cx)(Y:Y2)(W:XW)(e:Expr)(t:TT2):Prop where
 go:PW X e (upT X.K Y W t)
structure PA2(X:Cx)(Y:Y2)(W:XW)(es:List Expr)(t:TA2):Prop where
 go:PA X es (upA X.K Y W t)
theorem y1s{X:Cx}{e:Expr}{t t':TE}(h:PE X e t)(k:∀ σ H Q,t' σ H Q→t σ H Q):PE X e t':=fun pins s σ H Q I q=>h pins s σ H Q I (k σ H Q q)
theorem y1r{X:Cx}{e:Expr}{t t':TT}(h:PT X e t)(k:∀ σ H Q,t' σ H Q→t σ H Q):PT X e t':=fun pins s σ H Q I q=>h pins s σ H Q I (k σ H Q q)
theorem y1q{X:Cx}{e:Expr}{t t':TT}(h:PW X e t)(k:∀ σ H Q,t' σ H Q→t σ H Q):PW X e t':=fun w pins s σ H Q I q=>h w pins s σ H Q I (k σ H Q q)
theorem y1p{X:Cx}{es:List Expr}{t t':TA}(h:PA X es t)(k:∀ σ H Q,t' σ H Q→t σ H Q):PA X es t':=fun p pins s σ H Q I q=>h p pins s σ H Q I (k σ H Q q)
noncomputable def a0l:Expr→Bool | .Starred _ _=>false |_=>true
theorem b6{e:Expr}{es:List Expr}{env:Env}(h:a0l e=true):starEach (e::es) env=(false,eval e env)::starEach es env:=by
 cases e<;>first |rfl |cases h
theorem g7{pos:Pos}{env:Env}:∀{es:List Expr},es.all a0l=true→(backTo pos (starEach es env)).any (·.1)=false
 | [],_=>rfl
 |e::es,h=>by
  rw[List.all_cons,Bool.and_eq_true]at h;rw[b6 h.1];show (false||(backTo pos (starEach es env)).any (·.1))=false;rw[g7 h.2];rfl
theorem pe2{X:Cx}{Y:Y2}{W:XW}{e:Expr}{t:TE}{u:TE2}(h:PE X e t)(k:∀ σ H Q,upE X.K Y W u σ H Q→t σ H Q):PE2 X Y W e u:=⟨y1s h k⟩
theorem pt2{X:Cx}{Y:Y2}{W:XW}{e:Expr}{t:TT}{u:TT2}(h:PT X e t)(k:∀ σ H Q,upT X.K Y W u σ H Q→t σ H Q):PT2 X Y W e u:=⟨y1r h k⟩
theorem pw2{X:Cx}{Y:Y2}{W:XW}{e:Expr}{t:TT}{u:TT2}(h:PW X e t)(k:∀ σ H Q,upT X.K Y W u σ H Q→t σ H Q):PW2 X Y W e u:=⟨y1q h k⟩
theorem pa2{X:Cx}{Y:Y2}{W:XW}{es:List Expr}{t:TA}{u:TA2}(h:PA X es t)(k:∀ σ H Q,upA X.K Y W u σ H Q→t σ H Q):PA2 X Y W es u:=⟨y1p h k⟩
section
variable{X:Cx}{Y:Y2}{W:XW}{a b c:Expr}{ta tb tc:TE2}{pos:Pos}
noncomputable def t2C(d:D):TE2:=fun _ ρ δ q=>q d ρ δ
theorem e2_c{e:Expr}{v:V}{d:D}(h:PE X e (tC v))(r:∀F,Rep X.K F d v):PE2 X Y W e (t2C d):=pe2 h fun σ H Q ⟨F,ρ,δ,x,q,I,h,k,kx⟩=>k d v F H ρ δ I (Same.refl F) (r F) h
theorem s0{i j pos}:PE2 X Y W (.Constant (.int i) j pos) (t2C (.int i)):=e2_c pe_int fun F=>rep_int.mpr rfl
theorem s0u{i j pos}:PE2 X Y W (.Constant (.bool i) j pos) (t2C (.bl i)):=e2_c pe_bl fun F=>rep_bl.mpr rfl
theorem z6{j pos}:PE2 X Y W (.Constant .none j pos) (t2C .non):=e2_c pe_non fun F=>rep_non.mpr rfl
theorem l0{i j pos}:PE2 X Y W (.Constant (.str i) j pos) (t2C (.str i)):=e2_c pe_str fun F=>rep_str.mpr rfl
noncomputable def rdV(ρ:En)(i:Nat)(k:D→En→Prop):Prop:=match ρ[i]? with
 |some (.val d)=>k d ρ
 |some (.own ds)=>k (.lst ds) (ρ.set i (.val (.lst ds)))
 |_=>False
noncomputable def t2V(i:Nat):TE2:=fun _ ρ δ q=>rdV ρ i fun d ρ'=>q d ρ' δ
theorem rd_use{K:Frag}{F H:Hp}{σ:St}{ρ:En}{δ:Dk}{i:Nat}{k:D→En→Prop}(I:I2 K Y F H σ ρ δ)(h:rdV ρ i k):
 ∃d v F' ρ',σ[i]?=some (some v)∧I2 K Y F' H σ ρ' δ∧Same F F'∧Rep K F' d v∧k d ρ':=by
 unfold rdV at h;split at h
 ·rename_i d e;obtain ⟨v,q,r⟩:=I.env i _ e;exact ⟨d,v,F,ρ,m4 q,I,Same.refl F,r,h⟩
 ·rename_i ds e;obtain ⟨a,vs,q,f,I',r⟩:=I.freeze e;exact ⟨_,_,_,_,q,I',Same.new f,r,h⟩
 ·exact h.elim
theorem e2_v(i:Nat){x:Str}{pos:Pos}(hN:X.N[i]?=some x:=by rfl)(hv:Vis X.env.scope x:=by walk_at "v3")(hd:(x==("__debug__":Str))=false:=by decide)
 (hcd:(x==("__classdict__":Str))=false:=by decide):PE2 X Y W (.Name x pos) (t2V i):=pe2 (t0b hN hv hd hcd) fun σ H Q ⟨F,ρ,δ,x,q,I,h,k,kx⟩=>by
 obtain ⟨d,v,F',ρ',e,I',s,r,h'⟩:=rd_use I h;exact ⟨v,e,k d v F' H ρ' δ I' s r h'⟩
theorem e2_gi{x:Str}{n:Int}{u:Value}(hm:X.mg x=some u)(r:∃t,u=.int n t)(hg:Gl X x:=by rfl)(hd:(x==("__debug__":Str))=false:=by decide):PE2 X Y W (.Name x pos) (t2C (.int n)):=e2_c (z1o (v:=.int n) hg hm r hd) fun F=>rep_int.mpr rfl
theorem r0m(n:String){y:Str}(hm:X.mg y=none)(hv:bootBuiltins y=some (.type n))(hg:Gl X y:=by rfl)(hn:y≠"__name__":=by decide)(hd:(y==("__debug__":Str))=false:=by decide):PE2 X Y W (.Name y pos) (t2C (.ty n)):=
 e2_c (pty n hm hv hg hn hd) fun F=>rep_ty.mpr rfl
noncomputable def g0u:TA2:=fun _ ρ δ q=>q [] ρ δ
noncomputable def s0t(te:TE2)(tr:TA2):TA2:=fun x ρ δ q=>te x ρ δ fun d ρ1 δ1=>tr x ρ1 δ1 fun ds ρ2 δ2=>q (d::ds) ρ2 δ2
theorem v0:PA2 X Y W [] g0u:=pa2 a0u fun σ H Q ⟨F,ρ,δ,x,q,I,h,k,kx⟩=>k [] [] F H ρ δ I (Same.refl F) Reps.nil h
theorem z0{e:Expr}{es:List Expr}{te:TE2}{t:TA2}(ha:PE2 X Y W e te)(hr:PA2 X Y W es t)(hs:starEach (e::es) X.env=(false,eval e X.env)::starEach es X.env:=by exact b6 rfl):PA2 X Y W (e::es) (s0t te t):=
 pa2 (h0o ha.go hr.go hs) fun σ H Q ⟨F,ρ,δ,x,q,I,h,k,kx⟩=>⟨F,ρ,δ,x,_,I,h,fun d1 v1 F1 H1 ρ1 δ1 I1 s1 r1 h1=>⟨F1,ρ1,δ1,x,_,I1,h1,fun ds vs F2 H2 ρ2 δ2 I' s2 r2 h2=>
  k (d1::ds) (v1::vs) F2 H2 ρ2 δ2 I' (s1.trans s2) (Reps.cons (r1.mono s2) r2) h2,kx.mono s1⟩,kx⟩
theorem m0j{n:Nat}(h:n≤1000):n≤PySem.sizeLine:=Nat.le_trans h (by decide)
noncomputable def d0n(t:TA2):TE2:=fun x ρ δ q=>t x ρ δ fun ds ρ1 δ1=>ds.length≤1000∧q (.lst ds) ρ1 δ1
noncomputable def d0m(t:TA2):TE2:=fun x ρ δ q=>t x ρ δ fun ds ρ1 δ1=>ds.length≤1000∧q (.tup ds) ρ1 δ1
theorem l6{es:List Expr}{t:TA2}(h:PA2 X Y W es t):PE2 X Y W (.List es pos) (d0n t):=pe2 (h0n h.go) fun σ H Q ⟨F,ρ,δ,x,q,I,h,k,kx⟩=>
 ⟨F,ρ,δ,x,_,I,h,fun ds vs F1 H1 ρ1 δ1 I1 s1 r1 h1=>⟨m0j (by rw[r1.length];exact h1.1),fun p hp=>k _ _ _ _ ρ1 δ1 (I1.alloc hp) (s1.trans (I1.grow hp)) (I1.lst hp r1) h1.2⟩,kx⟩
theorem u6{x1}{es:List Expr}{t:TA2}(h:PA2 X Y W es t):PE2 X Y W (.Tuple es x1 pos) (d0m t):=pe2 (pe_tup h.go) fun σ H Q ⟨F,ρ,δ,x,q,I,h,k,kx⟩=>
 ⟨F,ρ,δ,x,_,I,h,fun ds vs F1 H1 ρ1 δ1 I1 s1 r1 h1=>⟨m0j (by rw[r1.length];exact h1.1),fun p hp=>k _ _ _ _ ρ1 δ1 (I1.alloc hp) (s1.trans (I1.grow hp)) (I1.tup hp r1) h1.2⟩,kx⟩
noncomputable abbrev F2:=D→D→(D→Prop)→Prop
noncomputable def OpD(K:Frag)(r:R2)(f:F2):Prop:=∀(Y:Y2) (F H:Hp) (σ:St) (ρ:En) (δ:Dk) (x y:V) (d1 d2:D) (Q1:VK) (q:D→Prop),I2 K Y F H σ ρ δ→Rep K F d1 x→Rep K F d2 y→f d1 d2 q→
 (∀d v F' H',I2 K Y F' H' σ ρ δ→Same F F'→Rep K F' d v→q d→Q1 v H')→r x y H Q1
noncomputable def t2Op(f:F2)(ta tb:TE2):TE2:=fun x ρ δ q=>ta x ρ δ fun d1 ρ1 δ1=>tb x ρ1 δ1 fun d2 ρ2 δ2=>f d1 d2 fun d=>q d ρ2 δ2
theorem d0l{r:R2}{f:F2}(hf:OpD X.K r f){σ:St}{H:Hp}{Q:VK}(h:upE X.K Y W (t2Op f ta tb) σ H Q):tOp r (upE X.K Y W ta) (upE X.K Y W tb) σ H Q:=by
 obtain ⟨F,ρ,δ,x,q,I,h,k,kx⟩:=h;exact ⟨F,ρ,δ,x,_,I,h,fun d1 v1 F1 H1 ρ1 δ1 I1 s1 r1 h1=>⟨F1,ρ1,δ1,x,_,I1,h1,fun d2 v2 F2 H2 ρ2 δ2 I' s2 r2 h2=>
  hf Y F2 H2 σ ρ2 δ2 v1 v2 d1 d2 _ _ I' (r1.mono s2) r2 h2 fun d v F' H' I' s' r' q'=>k d v F' H' ρ2 δ2 I' ((s1.trans s2).trans s') r' q',kx.mono s1⟩,kx⟩
theorem y3{op:Operator}{r:R2}{f:F2}(ho:OpR X (binaryOp op) r)(hf:OpD X.K r f)(ha:PE2 X Y W a ta)(hb:PE2 X Y W b tb):PE2 X Y W (.BinOp a op b pos) (t2Op f ta tb):=pe2 (pe_op ho ha.go hb.go) fun σ H Q h=>d0l hf h
theorem q0y{op:CmpOp}{r:R2}{f:F2}(ho:OpR X (compareOp op) r)(hf:OpD X.K r f)(ha:PE2 X Y W a ta)(hb:PE2 X Y W b tb)(hm:behindInMarks op b=false):PE2 X Y W (.Compare a [op] [b] pos) (t2Op f ta tb):=pe2 (z1i ho ha.go hb.go hm) fun σ H Q h=>d0l hf h
theorem m0i{r:R2}{f:F2}(hr:IxR X r)(hf:OpD X.K r f)(ha:PE2 X Y W a ta)(hb:PE2 X Y W b tb)(hs:m0l b:=by exact fun _ _=>rfl):PE2 X Y W (.Subscript a b pos) (t2Op f ta tb):=pe2 (pe_ix hr ha.go hb.go hs) fun σ H Q h=>d0l hf h
noncomputable def t2B(t:TE2):TT2:=fun x ρ δ q=>t x ρ δ fun d ρ1 δ1=>match d with | .bl k=>q k ρ1 δ1 |_=>False
theorem m0h{t:TE2}{σ:St}{H:Hp}{Q:Bool→Hp→Prop}(h:upT X.K Y W (t2B t) σ H Q):upE X.K Y W t σ H fun x H1=>∃c,x=.bl c∧Q c H1:=by
 obtain ⟨F,ρ,δ,x,q,I,h,k,kx⟩:=h;refine ⟨F,ρ,δ,x,_,I,h,fun d v F' H' ρ' δ' I' s' r' h'=>?_,kx⟩;cases d with
 |bl b=>exact ⟨b,rep_bl.mp r',k b F' H' ρ' δ' I' s' h'⟩
 |_=>exact h'.elim
theorem z9{e:Expr}{t:TE2}(h:PE2 X Y W e t)(he:∀whole,isTrue e X.env whole=(do let v←whole;standAt e.pos;holding [v] (truthy v)):=by intro _;rfl):PT2 X Y W e (t2B t):=pt2 (pt_val h.go he) fun σ H Q h=>m0h h
theorem w4{op:CmpOp}{r:R2}{f:F2}(ho:OpR X (compareOp op) r)(hf:OpD X.K r f)(ha:PE2 X Y W a ta)(hb:PE2 X Y W b tb)(hm:behindInMarks op b=false):PT2 X Y W (.Compare a [op] [b] pos) (t2B (t2Op f ta tb)):=
 pt2 (z1h ho ha.go hb.go hm) fun σ H Q h=>d0l hf (m0h h)
noncomputable def d0k(t:TT2):TT2:=fun x ρ δ q=>t x ρ δ fun k ρ1 δ1=>q (!k) ρ1 δ1
theorem o8{t:TT2}(h:PT2 X Y W a t):PT2 X Y W (.UnaryOp .Not a pos) (d0k t):=pt2 (pt_not h.go) fun σ H Q ⟨F,ρ,δ,x,q,I,h,k,kx⟩=>⟨F,ρ,δ,x,_,I,h,fun b F' H' ρ' δ' I' s' h'=>k _ F' H' ρ' δ' I' s' h',kx⟩
noncomputable def d0j(t u:TT2):TT2:=fun x ρ δ q=>t x ρ δ fun k ρ1 δ1=>if k=true then u x ρ1 δ1 q else q false ρ1 δ1
noncomputable def t2Or(t u:TT2):TT2:=fun x ρ δ q=>t x ρ δ fun k ρ1 δ1=>if k=true then q true ρ1 δ1 else u x ρ1 δ1 q
variable{tA tB':TT2}{rest:List Expr}
theorem g0t(ha:PT2 X Y W a tA):PW2 X Y W (.BoolOp .And [a] pos) tA:=⟨z1m ha.go⟩
theorem a7(ha:PT2 X Y W a tA):PW2 X Y W (.BoolOp .Or [a] pos) tA:=⟨pw_or1 ha.go⟩
theorem a0k(ha:PT2 X Y W a tA)(hb:PW2 X Y W (.BoolOp .And (b::rest) pos) tB'):PW2 X Y W (.BoolOp .And (a::b::rest) pos) (d0j tA tB'):=pw2 (pw_and ha.go hb.go) fun σ H Q ⟨F,ρ,δ,x,q,I,h,k,kx⟩=>by
 refine ⟨F,ρ,δ,x,_,I,h,fun b F' H' ρ' δ' I' s' h'=>?_,kx⟩;cases b with
 |true=>rw[if_pos rfl]at h' ⊢; exact ⟨F',ρ',δ',x,q,I',h',fun b F2 H2 ρ2 δ2 I2 s2 h2=>k b F2 H2 ρ2 δ2 I2 (s'.trans s2) h2,kx.mono s'⟩
 |false=>rw[if_neg Bool.false_ne_true]at h' ⊢; exact k false F' H' ρ' δ' I' s' h'
theorem o9(ha:PT2 X Y W a tA)(hb:PW2 X Y W (.BoolOp .Or (b::rest) pos) tB'):PW2 X Y W (.BoolOp .Or (a::b::rest) pos) (t2Or tA tB'):=pw2 (pw_or ha.go hb.go) fun σ H Q ⟨F,ρ,δ,x,q,I,h,k,kx⟩=>by
 refine ⟨F,ρ,δ,x,_,I,h,fun b F' H' ρ' δ' I' s' h'=>?_,kx⟩;cases b with
 |true=>rw[if_pos rfl]at h' ⊢; exact k true F' H' ρ' δ' I' s' h'
 |false=>rw[if_neg Bool.false_ne_true]at h' ⊢; exact ⟨F',ρ',δ',x,q,I',h',fun b F2 H2 ρ2 δ2 I2 s2 h2=>k b F2 H2 ρ2 δ2 I2 (s'.trans s2) h2,kx.mono s'⟩
theorem PW2.pt(h:PW2 X Y W a tA):PT2 X Y W a tA:=⟨PW.pt h.go⟩
noncomputable def k0i(ta tb:TE2):TE2:=fun x ρ δ q=>ta x ρ δ fun d ρ1 δ1=>match d with | .bl k=>if k=true then tb x ρ1 δ1 q else q (.bl false) ρ1 δ1 |_=>False
noncomputable def t2OrV(ta tb:TE2):TE2:=fun x ρ δ q=>ta x ρ δ fun d ρ1 δ1=>match d with | .bl k=>if k=true then q (.bl true) ρ1 δ1 else tb x ρ1 δ1 q |_=>False
noncomputable def k0h(ta:TE2):TE2:=fun x ρ δ q=>ta x ρ δ fun d ρ1 δ1=>match d with | .bl k=>q (.bl (!k)) ρ1 δ1 |_=>False
theorem q0x{op}(h:PE2 X Y W a ta):PE2 X Y W (.BoolOp op [a] pos) ta:=⟨pe_one h.go⟩
theorem w0l(ha:PE2 X Y W a ta)(hb:PE2 X Y W (.BoolOp .And (b::rest) pos) tb):PE2 X Y W (.BoolOp .And (a::b::rest) pos) (k0i ta tb):=pe2 (pe_and ha.go hb.go) fun σ H Q ⟨F,ρ,δ,x,q,I,h,k,kx⟩=>by
 refine ⟨F,ρ,δ,x,_,I,h,fun d v F' H' ρ' δ' I' s' r' h'=>?_,kx⟩;cases d with
 |bl b=>
  refine ⟨b,rep_bl.mp r',?_⟩;cases b with
  |true=>dsimp only at h';rw[if_pos rfl]at h' ⊢; exact ⟨F',ρ',δ',x,q,I',h',fun d v F2 H2 ρ2 δ2 I2 s2 r2 h2=>k d v F2 H2 ρ2 δ2 I2 (s'.trans s2) r2 h2,kx.mono s'⟩
  |false=>dsimp only at h';rw[if_neg Bool.false_ne_true]at h' ⊢; exact k _ _ F' H' ρ' δ' I' s' (rep_bl.mpr rfl) h'
 |_=>exact h'.elim
theorem a0j(ha:PE2 X Y W a ta):PE2 X Y W (.UnaryOp .Not a pos) (k0h ta):=pe2 (pe_not ha.go) fun σ H Q ⟨F,ρ,δ,x,q,I,h,k,kx⟩=>by
 refine ⟨F,ρ,δ,x,_,I,h,fun d v F' H' ρ' δ' I' s' r' h'=>?_,kx⟩;cases d with
 |bl b=>exact ⟨b,rep_bl.mp r',k _ _ F' H' ρ' δ' I' s' (rep_bl.mpr rfl) h'⟩
 |_=>exact h'.elim
noncomputable def t2If(t:TT2)(ta tb:TE2):TE2:=fun x ρ δ q=>t x ρ δ fun k ρ1 δ1=>if k=true then ta x ρ1 δ1 q else tb x ρ1 δ1 q
noncomputable def v0i(f f':F2)(ta tb tc:TE2):TE2:=fun x ρ δ q=>ta x ρ δ fun d1 ρ1 δ1=>tb x ρ1 δ1 fun d2 ρ2 δ2=>f d1 d2 fun d=>match d with
 | .bl k=>if k=true then tc x ρ2 δ2 fun d3 ρ3 δ3=>f' d2 d3 fun d=>q d ρ3 δ3 else q (.bl false) ρ2 δ2
 |_=>False
theorem k0g{r r':R2}{f f':F2}(hf:OpD X.K r f)(hf':OpD X.K r' f'){σ:St}{H:Hp}{Q:VK}(h:upE X.K Y W (v0i f f' ta tb tc) σ H Q):h0s r r' (upE X.K Y W ta) (upE X.K Y W tb) (upE X.K Y W tc) σ H Q:=by
 obtain ⟨F,ρ,δ,x,q,I,h,k,kx⟩:=h;refine ⟨F,ρ,δ,x,_,I,h,fun d1 v1 F1 H1 ρ1 δ1 I1 s1 r1 h1=>⟨F1,ρ1,δ1,x,_,I1,h1,fun d2 v2 F2 H2 ρ2 δ2 I2 s2 r2 h2=>?_,kx.mono s1⟩,kx⟩;refine hf Y F2 H2 σ ρ2 δ2 v1 v2 d1 d2 _ _ I2 (r1.mono s2) r2 h2 fun d v F' H' I' s' r' q'=>?_
 cases d with
 |bl b=>
  refine ⟨b,rep_bl.mp r',?_⟩;have s3:=(s1.trans s2).trans s';cases b with
  |true=>
   dsimp only at q';rw[if_pos rfl]at q' ⊢;exact ⟨F',ρ2,δ2,x,_,I',q',fun d3 v3 F3 H3 ρ3 δ3 I3 s4 r3 h3=>hf' Y F3 H3 σ ρ3 δ3 v2 v3 d2 d3 _ _ I3 (r2.mono (s'.trans s4)) r3 h3 fun d v F4 H4 I4 s5 r4 q4=>k d v F4 H4 ρ3 δ3 I4 ((s3.trans s4).trans s5) r4 q4,kx.mono s3⟩
  |false=>
   dsimp only at q';rw[if_neg Bool.false_ne_true]at q' ⊢;exact k _ _ F' H' ρ2 δ2 I' s3 (rep_bl.mpr rfl) q'
 |_=>exact q'.elim
theorem d0i{op op':CmpOp}{r r':R2}{f f':F2}(ho:OpR X (compareOp op) r)(ho':OpR X (compareOp op') r')(hf:OpD X.K r f)(hf':OpD X.K r' f')(ha:PE2 X Y W a ta)(hb:PE2 X Y W b tb)(hc:PE2 X Y W c tc)
 (hm:lastMarks [op,op'] [b,c]=false:=by with_unfolding_all rfl):PE2 X Y W (.Compare a [op,op'] [b,c] pos) (v0i f f' ta tb tc):=pe2 (e0c ho ho' ha.go hb.go hc.go hm) fun σ H Q h=>k0g hf hf' h
theorem d0h{op op':CmpOp}{r r':R2}{f f':F2}(ho:OpR X (compareOp op) r)(ho':OpR X (compareOp op') r')(hf:OpD X.K r f)(hf':OpD X.K r' f')(ha:PE2 X Y W a ta)(hb:PE2 X Y W b tb)(hc:PE2 X Y W c tc)
 (hm:lastMarks [op,op'] [b,c]=false:=by with_unfolding_all rfl):PT2 X Y W (.Compare a [op,op'] [b,c] pos) (t2B (v0i f f' ta tb tc)):=pt2 (e0b ho ho' ha.go hb.go hc.go hm) fun σ H Q h=>k0g hf hf' (m0h h)
noncomputable abbrev F1:=List D→(D→Prop)→Prop
noncomputable def v0h(K:Frag)(r:List V→Hp→VK→Prop)(f:F1):Prop:=∀(Y:Y2) (F H:Hp) (σ:St) (ρ:En) (δ:Dk) (vs:List V) (ds:List D) (Q1:VK) (q:D→Prop),I2 K Y F H σ ρ δ→Reps K F ds vs→f ds q→
 (∀d v F' H',I2 K Y F' H' σ ρ δ→Same F F'→Rep K F' d v→q d→Q1 v H')→r vs H Q1
noncomputable def t2Bi(f:F1)(t:TA2):TE2:=fun x ρ δ q=>t x ρ δ fun ds ρ1 δ1=>f ds fun d=>q d ρ1 δ1
theorem up_bi{r:List V→Hp→VK→Prop}{f:F1}{t:TA2}(hf:v0h X.K r f){σ:St}{H:Hp}{Q:VK}(h:upE X.K Y W (t2Bi f t) σ H Q):tCB r (upA X.K Y W t) σ H Q:=by
 obtain ⟨F,ρ,δ,x,q,I,h,k,kx⟩:=h;exact ⟨F,ρ,δ,x,_,I,h,fun ds vs F1 H1 ρ1 δ1 I1 s1 r1 h1=>hf Y F1 H1 σ ρ1 δ1 vs ds _ _ I1 r1 h1 fun d v F' H' I' s' r' q'=>k d v F' H' ρ1 δ1 I' (s1.trans s') r' q',kx⟩
variable{x:Str}{e:Expr}{es:List Expr}{t:TA2}{p:Pos}
theorem e2_b{id:String}{r:List V→Hp→VK→Prop}{f:F1}(hc:x0e X (.builtin id) r)(hf:v0h X.K r f)(hm:X.mg x=none)(hv:bootBuiltins x=some (.builtin id))(ha:PA2 X Y W (e::es) t)(hg:Gl X x:=by rfl)(hn:x≠"__name__":=by decide)(hdb:(x==("__debug__":Str))=false:=by decide)
 (he:starEach (e::es) X.env=(false,eval e X.env)::starEach es X.env:=by exact b6 rfl) (hpl:(backTo pos (starEach es X.env)).any (·.1)=false:=by exact g7 rfl):PE2 X Y W (.Call (.Name x p) (e::es) [] pos) (t2Bi f t):=pe2 (k0o hc hg hm hv ha.go hn hdb he hpl) fun σ H Q h=>up_bi hf h
theorem n9{T:String}{r:List V→Hp→VK→Prop}{f:F1}(hc:x0e X (.type T) r)(hf:v0h X.K r f)(hm:X.mg x=none)(hv:bootBuiltins x=some (.type T))(ha:PA2 X Y W (e::es) t)(hg:Gl X x:=by rfl)(hn:x≠"__name__":=by decide)(hdb:(x==("__debug__":Str))=false:=by decide)
 (he:starEach (e::es) X.env=(false,eval e X.env)::starEach es X.env:=by exact b6 rfl) (hpl:(backTo pos (starEach es X.env)).any (·.1)=false:=by exact g7 rfl):PE2 X Y W (.Call (.Name x p) (e::es) [] pos) (t2Bi f t):=pe2 (o0m hc hg hm hv ha.go hn hdb he hpl) fun σ H Q h=>up_bi hf h
noncomputable def t2Un(f:D→(D→Prop)→Prop)(ta:TE2):TE2:=fun x ρ δ q=>ta x ρ δ fun d ρ1 δ1=>f d fun d=>q d ρ1 δ1
theorem q0w(ha:PE2 X Y W a ta):PE2 X Y W (.UnaryOp .USub a pos) (t2Un (fun d q=>match d with | .int i=>q (.int (-i))|_=>False) ta):=pe2 (pe_un un_neg ha.go) fun σ H Q ⟨F,ρ,δ,x,q,I,h,k,kx⟩=>by
 refine ⟨F,ρ,δ,x,_,I,h,fun d v F' H' ρ' δ' I' s' r' h'=>?_,kx⟩;cases d with
 |int i=>exact ⟨i,rep_int.mp r',k _ _ F' H' ρ' δ' I' s' (rep_int.mpr rfl) h'⟩
 |_=>exact h'.elim
end
end DL
namespace DL
open PySem PySem.Spec L2
open PySem.W (XC)
section
variable{X:Cx}{K:Frag}
theorem k0f{f:Value→Value→Sem Value}{r r':R2}(h:OpR X f r)(h':OpR X f r'):OpR X f (fun x y H Q=>r x y H Q∨r' x y H Q):=by
 intro pins s σ H x y v u Q I rx ry q;rcases q with q |q
 ·exact h pins s σ H x y v u Q I rx ry q
 ·exact h' pins s σ H x y v u Q I rx ry q
noncomputable def fI(C:Int→Int→Prop)(g:Int→Int→D):F2:=fun d1 d2 q=>match d1,d2 with
 | .int i,.int j=>C i j∧q (g i j)
 |_,_=>False
theorem dI{C:Int→Int→Prop}{g:Int→Int→V}{g':Int→Int→D}(h:∀F i j,Rep K F (g' i j) (g i j)):OpD K (rI C g) (fI C g'):=by
 intro Y F H σ ρ δ x y d1 d2 Q1 q I r1 r2 h' k;unfold fI at h';split at h'
 ·rename_i i j;exact ⟨i,j,rep_int.mp r1,rep_int.mp r2,h'.1,k _ _ F H I (Same.refl F) (h F i j) h'.2⟩
 ·exact h'.elim
noncomputable def fI0(g:Int→Int→D):F2:=fun d1 d2 q=>match d1,d2 with
 | .int i,.int j=>q (g i j)
 |_,_=>False
theorem dI0{g:Int→Int→V}{g':Int→Int→D}(h:∀F i j,Rep K F (g' i j) (g i j)):OpD K (rI0 g) (fI0 g'):=by
 intro Y F H σ ρ δ x y d1 d2 Q1 q I r1 r2 h' k;unfold fI0 at h';split at h'
 ·rename_i i j;exact ⟨i,j,rep_int.mp r1,rep_int.mp r2,k _ _ F H I (Same.refl F) (h F i j) h'⟩
 ·exact h'.elim
noncomputable def y1o(K:Frag):R2:=fun x y H Q=>rI0 (fun i j=>.int (i+j)) x y H Q∨rCat x y H Q
noncomputable def addF:F2:=fun d1 d2 q=>match d1,d2 with
 | .int i,.int j=>q (.int (i+j))
 | .lst xs,.lst ys=>xs.length+ys.length≤1000∧q (.lst (xs++ys))
 |_,_=>False
theorem y1n:OpR X (binaryOp .Add) (y1o X.K):=k0f op_add op_cat
theorem d_add:OpD K (y1o K) addF:=by
 intro Y F H σ ρ δ x y d1 d2 Q1 q I r1 r2 h' k;unfold addF at h';split at h'
 ·rename_i i j;exact .inl ⟨i,j,rep_int.mp r1,rep_int.mp r2,k _ _ F H I (Same.refl F) (rep_int.mpr rfl) h'⟩
 ·rename_i xs ys;obtain ⟨a,vs,rfl,e1,z1⟩:=rep_lst.mp r1;obtain ⟨b,us,rfl,e2,z2⟩:=rep_lst.mp r2;refine .inr ⟨a,b,vs,us,rfl,rfl,I.sub _ _ e1,I.sub _ _ e2,m0j (by rw[z1.length,z2.length];exact h'.1),fun p hp=>k _ _ _ _ (I.alloc hp) (I.grow hp) (I.lst hp (z1.append z2)) h'.2⟩
 ·exact h'.elim
noncomputable abbrev subF:F2:=fI0 fun i j=>.int (i-j)
noncomputable abbrev mulF:F2:=fI CMul fun i j=>.int (i*j)
noncomputable abbrev d0g:F2:=fI CDiv fun i j=>.int (i/j)
noncomputable abbrev modF:F2:=fI (fun _ j=>0<j) fun i j=>.int (i%j)
noncomputable abbrev powF:F2:=fI CPow fun i j=>.int (i^j.toNat)
noncomputable abbrev ltF:F2:=fI0 fun i j=>.bl (decide (i<j))
noncomputable abbrev leF:F2:=fI0 fun i j=>.bl (decide (i≤j))
noncomputable abbrev gtF:F2:=fI0 fun i j=>.bl (decide (j<i))
noncomputable abbrev geF:F2:=fI0 fun i j=>.bl (decide (j≤i))
theorem v0g:OpD K (rI0 fun i j=>.int (i-j)) subF:=dI0 fun _ _ _=>rep_int.mpr rfl
theorem o0c:OpD K (rI CMul fun i j=>.int (i*j)) mulF:=dI fun _ _ _=>rep_int.mpr rfl
theorem g0s:OpD K (rI CDiv fun i j=>.int (i/j)) d0g:=dI fun _ _ _=>rep_int.mpr rfl
theorem i0s:OpD K (rI (fun _ j=>0<j) fun i j=>.int (i%j)) modF:=dI fun _ _ _=>rep_int.mpr rfl
theorem d_pow:OpD K (rI CPow fun i j=>.int (i^j.toNat)) powF:=dI fun _ _ _=>rep_int.mpr rfl
theorem d_lt:OpD K (rI0 fun i j=>.bl (decide (i<j))) ltF:=dI0 fun _ _ _=>rep_bl.mpr rfl
theorem d_le:OpD K (rI0 fun i j=>.bl (decide (i≤j))) leF:=dI0 fun _ _ _=>rep_bl.mpr rfl
theorem d_gt:OpD K (rI0 fun i j=>.bl (decide (j<i))) gtF:=dI0 fun _ _ _=>rep_bl.mpr rfl
theorem d_ge:OpD K (rI0 fun i j=>.bl (decide (j≤i))) geF:=dI0 fun _ _ _=>rep_bl.mpr rfl
noncomputable def repF:F2:=fun d1 d2 q=>match d1,d2 with
 | .lst xs,.int k=>xs.length*k.toNat≤1000∧0≤k∧k≤1000∧q (.lst (List.replicate k.toNat xs).flatten)
 |_,_=>False
theorem Reps.rep{F:Hp}{ds:List D}{vs:List V}(h:Reps K F ds vs):∀n:Nat,Reps K F (List.replicate n ds).flatten (List.replicate n vs).flatten
 | 0=>by simp;exact Reps.nil
 |n+1=>by rw[List.replicate_succ,List.replicate_succ,List.flatten_cons,List.flatten_cons];exact h.append (Reps.rep h n)
noncomputable def eqD:D→D→Option Bool
 | .int i,.int j=>some (decide (i=j))
 | .bl i,.bl j=>some (decide (i=j))
 | .str i,.str j=>some (decide (i=j))
 | .non,.non=>some true
 | .non,.int _=>some false | .non,.bl _=>some false | .non,.str _=>some false
 | .int _,.non=>some false | .bl _,.non=>some false | .str _,.non=>some false
 | .int _,.str _=>some false | .bl _,.str _=>some false
 | .str _,.int _=>some false | .str _,.bl _=>some false
 |_,_=>none
noncomputable def eqF:F2:=fun d1 d2 q=>match eqD d1 d2 with |some b=>q (.bl b)|none=>False
noncomputable def neF:F2:=fun d1 d2 q=>match eqD d1 d2 with |some b=>q (.bl (!b))|none=>False
theorem eqD_v{F:Hp}{d1 d2:D}{x y:V}{b:Bool}(h:eqD d1 d2=some b)(r1:Rep K F d1 x)(r2:Rep K F d2 y):scal x y=true∧decide (x=y)=b:=by
 unfold eqD at h;split at h<;>first |cases h |skip
 all_goals
  first
   |(rw[rep_int.mp r1,rep_int.mp r2];exact ⟨rfl,by simp⟩)
   |(rw[rep_bl.mp r1,rep_bl.mp r2];exact ⟨rfl,by simp⟩)
   |(rw[rep_str.mp r1,rep_str.mp r2];exact ⟨rfl,by simp⟩)
   |(rw[rep_non.mp r1,rep_non.mp r2];exact ⟨rfl,by simp⟩)
   |(rw[rep_non.mp r1,rep_int.mp r2];exact ⟨rfl,by simp⟩)
   |(rw[rep_non.mp r1,rep_bl.mp r2];exact ⟨rfl,by simp⟩)
   |(rw[rep_non.mp r1,rep_str.mp r2];exact ⟨rfl,by simp⟩)
   |(rw[rep_int.mp r1,rep_non.mp r2];exact ⟨rfl,by simp⟩)
   |(rw[rep_bl.mp r1,rep_non.mp r2];exact ⟨rfl,by simp⟩)
   |(rw[rep_str.mp r1,rep_non.mp r2];exact ⟨rfl,by simp⟩)
   |(rw[rep_int.mp r1,rep_str.mp r2];exact ⟨rfl,by simp⟩)
   |(rw[rep_bl.mp r1,rep_str.mp r2];exact ⟨rfl,by simp⟩)
   |(rw[rep_str.mp r1,rep_int.mp r2];exact ⟨rfl,by simp⟩)
   |(rw[rep_str.mp r1,rep_bl.mp r2];exact ⟨rfl,by simp⟩)
theorem d_eq:OpD K rEq eqF:=by
 intro Y F H σ ρ δ x y d1 d2 Q1 q I r1 r2 h' k;unfold eqF at h';split at h'
 ·rename_i b e;obtain ⟨s,e2⟩:=eqD_v e r1 r2;exact ⟨s,by rw[e2];exact k _ _ F H I (Same.refl F) (rep_bl.mpr rfl) h'⟩
 ·exact h'.elim
theorem d_ne:OpD K rNe neF:=by
 intro Y F H σ ρ δ x y d1 d2 Q1 q I r1 r2 h' k;unfold neF at h';split at h'
 ·rename_i b e;obtain ⟨s,e2⟩:=eqD_v e r1 r2;exact ⟨s,by rw[e2];exact k _ _ F H I (Same.refl F) (rep_bl.mpr rfl) h'⟩
 ·exact h'.elim
noncomputable def q0v:D→Bool | .non=>true |_=>false
noncomputable def isNF:F2:=fun d1 d2 q=>match d2 with | .non=>q (.bl (q0v d1))|_=>False
noncomputable def notNF:F2:=fun d1 d2 q=>match d2 with | .non=>q (.bl (!q0v d1))|_=>False
theorem y1m{F:Hp}{d:D}{x:V}(r:Rep K F d x):decide (x=.non)=q0v d:=by
 cases d with
 |non=>rw[rep_non.mp r];rfl
 |bl b=>rw[rep_bl.mp r];rfl
 |int b=>rw[rep_int.mp r];rfl
 |str b=>rw[rep_str.mp r];rfl
 |lst b=>obtain ⟨a,vs,rfl,_⟩:=rep_lst.mp r;rfl
 |tup b=>obtain ⟨a,vs,rfl,_⟩:=rep_tup.mp r;rfl
 |scr b=>obtain ⟨a,vs,rfl,_⟩:=rep_scr.mp r;rfl
 |dic b=>obtain ⟨a,vs,rfl,_⟩:=rep_dic.mp r;rfl
 |dwk b=>obtain ⟨a,o,vs,rfl,_⟩:=rep_dwk.mp r;rfl
 |ins C b=>obtain ⟨a,dx,vs,rfl,_⟩:=rep_ins.mp r;rfl
 |exc C b=>obtain ⟨a,fr,rfl,_⟩:=rep_exc.mp r;rfl
 |ref a=>rw[rep_ref.mp r];rfl
 |ty a=>rw[rep_ty.mp r];rfl
theorem t0s:OpD K (fun x y H Q=>y=.non∧Q (.bl (decide (x=.non))) H) isNF:=by
 intro Y F H σ ρ δ x y d1 d2 Q1 q I r1 r2 h' k;cases d2 with
 |non=>exact ⟨rep_non.mp r2,by rw[y1m r1];exact k _ _ F H I (Same.refl F) (rep_bl.mpr rfl) h'⟩
 |_=>exact h'.elim
noncomputable def isBF:F2:=fun d1 d2 q=>match d1,d2 with | .bl i,.bl j=>q (.bl (i==j))|_,_=>False
noncomputable def notBF:F2:=fun d1 d2 q=>match d1,d2 with | .bl i,.bl j=>q (.bl (!(i==j)))|_,_=>False
noncomputable def seqD:D→Option (List D)
 | .lst xs=>some xs | .tup xs=>some xs | .scr xs=>some xs |_=>none
noncomputable def ixF:F2:=fun d1 d2 q=>match seqD d1,d2 with
 |some xs,.int i=>match atI xs i with |some d=>q d |none=>False
 |_,_=>False
theorem q0u{F H:Hp}{d:D}{xs:List D}{x:V}(s:Same F H)(h:seqD d=some xs)(r:Rep K F d x):∃a vs,x=.ref a∧(SqL K H a vs∨SqT K H a vs)∧Reps K F xs vs:=by
 cases d with
 |lst ys=>cases h;obtain ⟨a,vs,rfl,e,z⟩:=rep_lst.mp r;exact ⟨a,vs,rfl,.inl (SqL.of (s _ _ e)),z⟩
 |tup ys=>cases h;obtain ⟨a,vs,rfl,e,z⟩:=rep_tup.mp r;exact ⟨a,vs,rfl,.inr (SqT.of (s _ _ e)),z⟩
 |scr ys=>cases h;obtain ⟨a,vs,rfl,e,z⟩:=rep_scr.mp r;exact ⟨a,vs,rfl,.inl (s.sqL e),z⟩
 |_=>cases h
theorem d_ix:OpD K (rIx K) ixF:=by
 intro Y F H σ ρ δ x y d1 d2 Q1 q I r1 r2 h' k;unfold ixF at h';split at h'
 ·rename_i xs i e;split at h'
  ·rename_i d ed;obtain ⟨a,vs,rfl,sq,z⟩:=q0u I.sub e r1;obtain ⟨v,ev,rv⟩:=z.atI ed;have fin:=k d v F H I (Same.refl F) rv h';rcases sq with sq |sq
   ·exact .inl ⟨a,vs,i,v,rfl,rep_int.mp r2,sq,ev,fin⟩
   ·exact .inr (.inl ⟨a,vs,i,v,rfl,rep_int.mp r2,sq,ev,fin⟩)
  ·exact h'.elim
 ·exact h'.elim
noncomputable def x8:D→Bool | .non=>true | .bl _=>true | .int _=>true | .str _=>true |_=>false
noncomputable def toV:D→V | .bl b=>.bl b | .int i=>.int i | .str x=>.str x |_=>.non
theorem a0i{F:Hp}{d:D}{x:V}(h:x8 d=true)(r:Rep K F d x):x=toV d∧x0l x=true:=by
 cases d with
 |non=>rw[rep_non.mp r];exact ⟨rfl,rfl⟩
 |bl b=>rw[rep_bl.mp r];exact ⟨rfl,rfl⟩
 |int b=>rw[rep_int.mp r];exact ⟨rfl,rfl⟩
 |str b=>rw[rep_str.mp r];exact ⟨rfl,rfl⟩
 |_=>cases h
theorem y0z{F:Hp}:∀{ds:List D} {xs:List V},ds.all x8=true→Reps K F ds xs→xs=ds.map toV∧xs.all x0l=true
 | [],xs,_,r=>by rw[reps_nil.mp r];exact ⟨rfl,rfl⟩
 |d::ds,xs,h,r=>by
  obtain ⟨v,vs,rfl,r1,r2⟩:=reps_cons.mp r;rw[List.all_cons,Bool.and_eq_true]at h;obtain ⟨e1,e2⟩:=a0i h.1 r1;obtain ⟨e3,e4⟩:=y0z h.2 r2;rw[List.all_cons,e2,e4,List.map_cons,← e1,← e3];exact ⟨rfl,rfl⟩
noncomputable def inD(d:D)(xs:List D):Bool:=xs.any fun e=>eqV (toV e) (toV d)
noncomputable def inF:F2:=fun d1 d2 q=>match seqD d2 with |some xs=>(x8 d1&&xs.all x8)=true∧q (.bl (inD d1 xs))|none=>False
noncomputable def notInF:F2:=fun d1 d2 q=>match seqD d2 with |some xs=>(x8 d1&&xs.all x8)=true∧q (.bl (!inD d1 xs))|none=>False
theorem y1l(d:D)(xs:List D):inV (toV d) (xs.map toV)=inD d xs:=by unfold inV inD;rw[List.any_map];rfl
theorem d_in:OpD K (rIn K false) inF:=by
 intro Y F H σ ρ δ x y d1 d2 Q1 q I r1 r2 h' k;unfold inF at h';split at h'
 ·rename_i xs e;obtain ⟨h1,h2⟩:=h';rw[Bool.and_eq_true]at h1;obtain ⟨a,vs,rfl,sq,z⟩:=q0u I.sub e r2;obtain ⟨e1,e2⟩:=a0i h1.1 r1;obtain ⟨e3,e4⟩:=y0z h1.2 z;refine ⟨a,vs,rfl,sq,e2,e4,?_⟩;rw[e1,e3,y1l];exact k _ _ F H I (Same.refl F) (rep_bl.mpr rfl) h2
 ·exact h'.elim
noncomputable def lenF:F1:=fun ds q=>match ds with | [d]=>(match seqD d with |some xs=>q (.int (xs.length:Nat))|none=>False)|_=>False
theorem d8{F:Hp}{d:D}{vs:List V}(r:Reps K F [d] vs):∃v,vs=[v]∧Rep K F d v:=by
 obtain ⟨v,l,rfl,r1,r2⟩:=reps_cons.mp r;rw[reps_nil.mp r2];exact ⟨v,rfl,r1⟩
theorem d0f{F:Hp}{d e:D}{vs:List V}(r:Reps K F [d,e] vs):∃v u,vs=[v,u]∧Rep K F d v∧Rep K F e u:=by
 obtain ⟨v,l,rfl,r1,r2⟩:=reps_cons.mp r;obtain ⟨u,rfl,r3⟩:=d8 r2;exact ⟨v,u,rfl,r1,r3⟩
theorem d_len:v0h K (fun xs H Q=>∃p ys,xs=[.ref p]∧(SqL K H p ys∨SqT K H p ys)∧Q (.int ys.length) H) lenF:=by
 intro Y F H σ ρ δ vs ds Q1 q I r h' k;unfold lenF at h';split at h'
 ·split at h'
  ·rename_i xs e;obtain ⟨v,rfl,r1⟩:=d8 r;obtain ⟨a,us,rfl,sq,z⟩:=q0u I.sub e r1;exact ⟨a,us,rfl,sq,by rw[z.length];exact k _ _ F H I (Same.refl F) (rep_int.mpr rfl) h'⟩
  ·exact h'.elim
 ·exact h'.elim
noncomputable def absF:F1:=fun ds q=>match ds with | [.int i]=>q (.int (if i<0 then -i else i))|_=>False
theorem d_abs:v0h K (fun xs H Q=>∃i,xs=[.int i]∧Q (.int (if i<0 then -i else i)) H) absF:=by
 intro Y F H σ ρ δ vs ds Q1 q I r h' k;unfold absF at h';split at h'
 ·obtain ⟨v,rfl,r1⟩:=d8 r;rw[rep_int.mp r1];exact ⟨_,rfl,k _ _ F H I (Same.refl F) (rep_int.mpr rfl) h'⟩
 ·exact h'.elim
noncomputable def minF:F1:=fun ds q=>match ds with | [.int i,.int j]=>q (.int (if j<i then j else i))|_=>False
noncomputable def maxF:F1:=fun ds q=>match ds with | [.int i,.int j]=>q (.int (if j>i then j else i))|_=>False
theorem d_max:v0h K (fun xs H Q=>∃i j,xs=[.int i,.int j]∧Q (.int (if j>i then j else i)) H) maxF:=by
 intro Y F H σ ρ δ vs ds Q1 q I r h' k;unfold maxF at h';split at h'
 ·obtain ⟨v,u,rfl,r1,r2⟩:=d0f r;rw[rep_int.mp r1,rep_int.mp r2];exact ⟨_,_,rfl,k _ _ F H I (Same.refl F) (rep_int.mpr rfl) h'⟩
 ·exact h'.elim
noncomputable def intF:F1:=fun ds q=>match ds with | [.int i]=>q (.int i)| [.bl k]=>q (.int (if k then 1 else 0))|_=>False
theorem d_int:v0h K (fun xs H Q=>(∃i,xs=[.int i]∧Q (.int i) H)∨∃k,xs=[.bl k]∧Q (.int (if k then 1 else 0)) H) intF:=by
 intro Y F H σ ρ δ vs ds Q1 q I r h' k;unfold intF at h';split at h'
 ·obtain ⟨v,rfl,r1⟩:=d8 r;rw[rep_int.mp r1];exact .inl ⟨_,rfl,k _ _ F H I (Same.refl F) (rep_int.mpr rfl) h'⟩
 ·obtain ⟨v,rfl,r1⟩:=d8 r;rw[rep_bl.mp r1];exact .inr ⟨_,rfl,k _ _ F H I (Same.refl F) (rep_int.mpr rfl) h'⟩
 ·exact h'.elim
noncomputable def listF:F1:=fun ds q=>match ds with | [d]=>(match seqD d with |some xs=>q (.lst xs)|none=>False)|_=>False
noncomputable def o0b:F1:=fun ds q=>match ds with | [.lst xs]=>q (.tup xs)| [.scr xs]=>q (.tup xs)| [.tup xs]=>q (.tup xs)|_=>False
theorem q0a:v0h K (fun xs H Q=>∃p ys,xs=[.ref p]∧((SqL K H p ys∧∀l,H l=none→Q (.ref l) (upd H l (.tup ys)))∨(SqT K H p ys∧Q (.ref p) H))) o0b:=by
 intro Y F H σ ρ δ vs ds Q1 q I r h' k;unfold o0b at h';split at h'
 ·obtain ⟨v,rfl,r1⟩:=d8 r;obtain ⟨a,us,rfl,e,z⟩:=rep_lst.mp r1;exact ⟨a,us,rfl,.inl ⟨SqL.of (I.sub _ _ e),fun l hl=>k _ _ _ _ (I.alloc hl) (I.grow hl) (I.tup hl z) h'⟩⟩
 ·obtain ⟨v,rfl,r1⟩:=d8 r;obtain ⟨a,us,rfl,e,z⟩:=rep_scr.mp r1;exact ⟨a,us,rfl,.inl ⟨I.sub.sqL e,fun l hl=>k _ _ _ _ (I.alloc hl) (I.grow hl) (I.tup hl z) h'⟩⟩
 ·obtain ⟨v,rfl,r1⟩:=d8 r;obtain ⟨a,us,rfl,e,z⟩:=rep_tup.mp r1;exact ⟨a,us,rfl,.inr ⟨SqT.of (I.sub _ _ e),k _ _ F H I (Same.refl F) (rep_tup.mpr ⟨a,us,rfl,e,z⟩) h'⟩⟩
 ·exact h'.elim
noncomputable def blsD:List D→Option (List Bool)
 | []=>some []
 | .bl b::r=>(blsD r).map (b::·)
 |_=>none
theorem bls_v{F:Hp}:∀{ds:List D} {bs:List Bool} {vs:List V},blsD ds=some bs→Reps K F ds vs→vs=bs.map V.bl
 | [],bs,vs,h,r=>by cases h;rw[reps_nil.mp r];rfl
 |d::ds,bs,vs,h,r=>by
  obtain ⟨v,l,rfl,r1,r2⟩:=reps_cons.mp r;cases d with
  |bl b=>
   unfold blsD at h;obtain ⟨cs,e1,rfl⟩:=Option.map_eq_some_iff.mp h;rw[rep_bl.mp r1,bls_v e1 r2];rfl
  |_=>cases h
noncomputable def allF:F1:=fun ds q=>match ds with | [.lst xs]=>(match blsD xs with |some bs=>q (.bl (bs.all id))|none=>False)|_=>False
theorem y1k:v0h K (rAll K) allF:=by
 intro Y F H σ ρ δ vs ds Q1 q I r h' k;unfold allF at h';split at h'
 ·split at h'
  ·rename_i xs _ bs e;obtain ⟨v,rfl,r1⟩:=d8 r;obtain ⟨a,us,rfl,e2,z⟩:=rep_lst.mp r1;exact ⟨a,bs,rfl,SqL.of (by rw[←bls_v e z];exact I.sub _ _ e2),k _ _ F H I (Same.refl F) (rep_bl.mpr rfl) h'⟩
  ·exact h'.elim
 ·exact h'.elim
structure ClsI(K:Frag)(C:Addr):Prop where
 cl:Cls K C
 ha:PySem.W.findIn K (.ref C) "__class__"=some (some (.builtin "object.__class__"))
 hn:PySem.W.specialIn K (.builtin "object.__class__") "__get__"=some (some (.builtin "getset_descriptor.__get__"))
 htk:PySem.W.takesIn K (.builtin "object.__class__")=some true
 hm:PySem.W.mroIn K C (.type "object")=some true
noncomputable def tyD:D→Value
 | .non=>.type "NoneType" | .bl _=>.type "bool" | .int _=>.type "int" | .str _=>.type "str" | .lst _=>.type "list" | .scr _=>.type "list" | .tup _=>.type "tuple" | .dic _=>.type "dict"
 | .ins C _=>.ref C | .exc C _=>.ref C |_=>.none
noncomputable def TyD(K:Frag):D→Prop
 | .ins C _=>ClsI K C | .exc C _=>XC K C | .ref _=>False | .ty _=>False | .scr _=>False | .dwk _=>False |_=>True
theorem tyD_v{F H:Hp}{d:D}{x:V}(s:Same F H)(t:TyD K d)(r:Rep K F d x):TyX K H x (tyD d):=by
 cases d with
 |non=>rw[rep_non.mp r];exact .of .non
 |bl b=>rw[rep_bl.mp r];exact .of (.bl b)
 |int b=>rw[rep_int.mp r];exact .of (.int b)
 |str b=>rw[rep_str.mp r];exact .of (.str b)
 |lst b=>obtain ⟨a,vs,rfl,e,_⟩:=rep_lst.mp r;exact .of (.lst (s _ _ e))
 |tup b=>obtain ⟨a,vs,rfl,e,_⟩:=rep_tup.mp r;exact .of (.tup (s _ _ e))
 |scr b=>exact t.elim
 |dic b=>obtain ⟨a,vs,rfl,e,_⟩:=rep_dic.mp r;exact .of (.dK (s _ _ e))
 |dwk b=>exact t.elim
 |ins C b=>obtain ⟨a,dx,vs,rfl,e,_⟩:=rep_ins.mp r;exact .of (.ins (s _ _ e) t.cl t.ha t.hn t.htk t.hm)
 |exc C b=>
  obtain ⟨a,fr,rfl,h⟩:=rep_exc.mp r;rcases h with ⟨_,e⟩|⟨d,us,e,e2,_⟩
  ·exact .exc0 (s _ _ e) t
  ·exact .exc (s _ _ e) (s _ _ e2) t
 |ref a=>exact t.elim
 |ty a=>exact t.elim
noncomputable def tysD:List D→Option (List String)
 | []=>some []
 | .ty n::r=>(tysD r).map (n::·)
 |_=>none
theorem tys_v{F:Hp}:∀{ds:List D} {ns:List String} {vs:List V},tysD ds=some ns→Reps K F ds vs→vs=ns.map V.ty
 | [],bs,vs,h,r=>by cases h;rw[reps_nil.mp r];rfl
 |d::ds,bs,vs,h,r=>by
  obtain ⟨v,l,rfl,r1,r2⟩:=reps_cons.mp r;cases d with
  |ty b=>
   unfold tysD at h;obtain ⟨cs,e1,rfl⟩:=Option.map_eq_some_iff.mp h;rw[rep_ty.mp r1,tys_v e1 r2];rfl
  |_=>cases h
noncomputable def y0y(K:Frag)(d c:D):Option Bool:=match c with
 | .ty n=>PySem.W.kitOne K (tyD d) (.type n)
 | .ref C=>PySem.W.kitOne K (tyD d) (.ref C)
 | .tup cs=>match tysD cs with |some ns=>PySem.W.kitAny K (tyD d) (ns.map Value.type)|none=>none
 |_=>none
noncomputable def g0r(K:Frag):F1:=fun ds q=>match ds with | [d,c]=>TyD K d∧(match y0y K d c with |some b=>q (.bl b)|none=>False)|_=>False
theorem w0k:v0h K (rInst K) (g0r K):=by
 intro Y F H σ ρ δ vs ds Q1 q I r h' k;unfold g0r at h';split at h'
 ·rename_i d c;obtain ⟨ht,h'⟩:=h';obtain ⟨v,u,rfl,r1,r2⟩:=d0f r;split at h'
  ·rename_i b e;refine ⟨v,u,_,b,rfl,tyD_v I.sub ht r1,?_,k _ _ F H I (Same.refl F) (rep_bl.mpr rfl) h'⟩;unfold y0y at e;split at e
   ·exact .inl ⟨_,rep_ty.mp r2,e⟩
   ·exact .inr (.inl ⟨_,rep_ref.mp r2,e⟩)
   ·split at e
    ·rename_i ns en;obtain ⟨a,us,rfl,e2,z⟩:=rep_tup.mp r2;exact .inr (.inr ⟨a,ns,rfl,by rw[←tys_v en z];exact I.sub _ _ e2,e⟩)
    ·cases e
   ·cases e
  ·exact h'.elim
 ·exact h'.elim
end
end DL
namespace DL
open PySem PySem.Spec L2
open PySem.W (XC)
structure End2 where
 nx:En→Dk→Prop
 rt:D→Dk→Prop
 xc:XK2
 bk:En→Dk→Prop:=fun _ _=>False
 ct:En→Dk→Prop:=fun _ _=>False
noncomputable abbrev TS2:=End2→En→Dk→Prop
structure ER(K:Frag)(Y:Y2)(W:XW)(F:Hp)(E2:End2)(E1:Ends):Prop where
 nx:∀ σ' F' H' ρ' δ',I2 K Y F' H' σ' ρ' δ'→Same F F'→E2.nx ρ' δ'→E1.nx σ' H'
 rt:∀d v σ' F' H' ρ' δ',I2 K Y F' H' σ' ρ' δ'→Same F F'→Rep K F' d v→E2.rt d δ'→E1.rt v H'
 xc:XR K Y W F E2.xc
 bk:∀ σ' F' H' ρ' δ',I2 K Y F' H' σ' ρ' δ'→Same F F'→E2.bk ρ' δ'→E1.bk σ' H'
 ct:∀ σ' F' H' ρ' δ',I2 K Y F' H' σ' ρ' δ'→Same F F'→E2.ct ρ' δ'→E1.ct σ' H'
theorem ER.mono{K:Frag}{Y:Y2}{W:XW}{F F1:Hp}{E2:End2}{E1:Ends}(h:ER K Y W F E2 E1)(s:Same F F1):ER K Y W F1 E2 E1:=
 ⟨fun σ' F' H' ρ' δ' I s'=>h.nx σ' F' H' ρ' δ' I (s.trans s'),fun d v σ' F' H' ρ' δ' I s'=>h.rt d v σ' F' H' ρ' δ' I (s.trans s'),h.xc.mono s,fun σ' F' H' ρ' δ' I s'=>h.bk σ' F' H' ρ' δ' I (s.trans s'),fun σ' F' H' ρ' δ' I s'=>h.ct σ' F' H' ρ' δ' I (s.trans s')⟩
noncomputable def upS(K:Frag)(Y:Y2)(W:XW)(t:TS2):TS:=fun E1 σ H=>∃F ρ δ E2,I2 K Y F H σ ρ δ∧t E2 ρ δ∧ER K Y W F E2 E1
structure PS2(X:Cx)(Y:Y2)(W:XW)(st:Stmt)(t:TS2):Prop where
 go:PS X st (upS X.K Y W t)
structure PSs2(X:Cx)(Y:Y2)(W:XW)(st:List Stmt)(t:TS2):Prop where
 go:PSs X st (upS X.K Y W t)
theorem y1j{X:Cx}{st:Stmt}{t t':TS}(h:PS X st t)(k:∀D σ H,t' D σ H→t D σ H):PS X st t':=fun pins s σ H D I q=>h pins s σ H D I (k D σ H q)
theorem k0e{X:Cx}{st:List Stmt}{t t':TS}(h:PSs X st t)(k:∀D σ H,t' D σ H→t D σ H):PSs X st t':=fun pins s σ H D I q=>h pins s σ H D I (k D σ H q)
theorem ps2{X:Cx}{Y:Y2}{W:XW}{st:Stmt}{t:TS}{u:TS2}(h:PS X st t)(k:∀D σ H,upS X.K Y W u D σ H→t D σ H):PS2 X Y W st u:=⟨y1j h k⟩
theorem pss2{X:Cx}{Y:Y2}{W:XW}{st:List Stmt}{t:TS}{u:TS2}(h:PSs X st t)(k:∀D σ H,upS X.K Y W u D σ H→t D σ H):PSs2 X Y W st u:=⟨k0e h k⟩
section
variable{X:Cx}{Y:Y2}{W:XW}{st:Stmt}{rest:List Stmt}{t u:TS2}{e:Expr}{te:TE2}{pos:Pos}
noncomputable def k0d:TS2:=fun E ρ δ=>E.nx ρ δ
noncomputable def d0e(t u:TS2):TS2:=fun E ρ δ=>t {E with nx:=u E} ρ δ
theorem p5:PSs2 X Y W [] k0d:=pss2 z1l fun E1 σ H ⟨F,ρ,δ,E2,I,h,er⟩=>er.nx σ F H ρ δ I (Same.refl F) h
theorem u0(h1:PS2 X Y W st t)(h2:PSs2 X Y W rest u):PSs2 X Y W (st::rest) (d0e t u):=pss2 (e0f h1.go h2.go) fun E1 σ H ⟨F,ρ,δ,E2,I,h,er⟩=>
 ⟨F,ρ,δ,{E2 with nx:=u E2},I,h,⟨fun σ' F' H' ρ' δ' I' s' h'=>⟨F',ρ',δ',E2,I',h',er.mono s'⟩,er.rt,er.xc,er.bk,er.ct⟩⟩
theorem o3(h1:PS2 X Y W st t):PSs2 X Y W [st] t:=⟨i0b h1.go⟩
noncomputable def y1i:TS2:=fun E ρ δ=>E.bk ρ δ
noncomputable def t2Cont:TS2:=fun E ρ δ=>E.ct ρ δ
noncomputable def k0c(te:TE2):TS2:=fun E ρ δ=>te E.xc ρ δ fun _ ρ1 δ1=>E.nx ρ1 δ1
theorem y0x(he:PE2 X Y W e te)(hs:swapsWith e none pos.line X.env=pure false:=by rfl):PS2 X Y W (.Expr e pos) (k0c te):=ps2 (z1k he.go hs) fun E1 σ H ⟨F,ρ,δ,E2,I,h,er⟩=>
 ⟨F,ρ,δ,E2.xc,_,I,h,fun d v F' H' ρ' δ' I' s' r' h'=>er.nx σ F' H' ρ' δ' I' s' h',er.xc⟩
noncomputable def d0d(te:TE2):TS2:=fun E ρ δ=>te E.xc ρ δ fun d _ δ1=>E.rt d δ1
theorem a3(he:PE2 X Y W e te):PS2 X Y W (.Return (some e) pos) (d0d te):=ps2 (a0y he.go) fun E1 σ H ⟨F,ρ,δ,E2,I,h,er⟩=>
 ⟨F,ρ,δ,E2.xc,_,I,h,fun d v F' H' ρ' δ' I' s' r' h'=>er.rt d v σ F' H' ρ' δ' I' s' r' h',er.xc⟩
noncomputable def t2RetN:TS2:=fun E _ δ=>E.rt .non δ
noncomputable def d0c(c:TT2)(t u:TS2):TS2:=fun E ρ δ=>c E.xc ρ δ fun b ρ1 δ1=>if b=true then t E ρ1 δ1 else u E ρ1 δ1
theorem y6{c:Expr}{a b:List Stmt}{tc:TT2}(hc:PT2 X Y W c tc)(ha:PSs2 X Y W a t)(hb:PSs2 X Y W b u):PS2 X Y W (.If c a b pos) (d0c tc t u):=ps2 (ps_if hc.go ha.go hb.go) fun E1 σ H ⟨F,ρ,δ,E2,I,h,er⟩=>by
 refine ⟨F,ρ,δ,E2.xc,_,I,h,fun b F' H' ρ' δ' I' s' h'=>?_,er.xc⟩;cases b with
 |true=>rw[if_pos rfl]at h' ⊢; exact ⟨F',ρ',δ',E2,I',h',er.mono s'⟩
 |false=>rw[if_neg Bool.false_ne_true]at h' ⊢; exact ⟨F',ρ',δ',E2,I',h',er.mono s'⟩
variable{i:Nat}{x:Str}{pos' p:Pos}
noncomputable def g0q(i:Nat)(te:TE2):TS2:=fun E ρ δ=>te E.xc ρ δ fun d ρ1 δ1=>E.nx (ρ1.set i (.val d)) δ1
theorem v4(i:Nat)(hN:X.N.Nodup)(he:PE2 X Y W e te)(hi:X.N[i]?=some x:=by rfl)(hx:Loc X.env.scope x:=by walk_at "v2")(hs:swapsWith e (some (.Name x pos')) pos.line X.env=pure false:=by rfl)
 (hf:X.fn x=true∨X.env.scope.names.lookup x=some .local:=by walk_at "v1"):PS2 X Y W (.Assign [.Name x pos'] e pos) (g0q i te):=ps2 (o0t (i:=i) hN hi hx he.go hs hf) fun E1 σ H ⟨F,ρ,δ,E2,I,h,er⟩=>
 ⟨F,ρ,δ,E2.xc,_,I,h,fun d v F' H' ρ' δ' I' s' r' h'=>er.nx _ F' H' _ δ' (I'.put r') s' h',er.xc⟩
theorem I2.own{K:Frag}{F H:Hp}{σ:St}{ρ:En}{δ:Dk}{i:Nat}{p:Addr}{ds:List D}{vs:List V}(I:I2 K Y F H σ ρ δ)(h:H p=none)(r:Reps K F ds vs):I2 K Y F (upd H p (.lst vs)) (σ.set i (some (.ref p))) (ρ.set i (.own ds)) δ:=by
 have hF:F p=none:=I.sub.free h;have h0:=I.ran.fresh h;have key:∀j a,y8 (ρ.set i (.own ds)) (σ.set i (some (.ref p))) j a→(j=i∧a=p)∨(j≠i∧y8 ρ σ j a):=fun j a o=>by
  by_cases z:j=i
  ·subst z;have:=o.2;rw[List.getElem?_set]at this;by_cases hl:j<σ.length
   ·simp[hl]at this;exact .inl ⟨rfl,this.symm⟩
   ·simp[hl]at this
  ·obtain ⟨o1,o2⟩:=o;simp only[List.getElem?_set_ne (Ne.symm z)]at o1 o2;exact .inr ⟨z,o1,o2⟩
 have addr:∀j a,y8 ρ σ j a→a≠p:=fun j a o=>by
  rcases o.1 with ⟨ds,q⟩|⟨C,fs,q⟩|⟨kvs,q⟩
  ·obtain ⟨b,us,e,hb,_⟩:=I.env j _ q;rw[o.2]at e;cases e;exact d0 hb h
  ·obtain ⟨b,dx,us,e,es0,hb,_⟩:=I.env j _ q;rw[o.2]at e;cases e;exact d0 hb h
  ·obtain ⟨b,us,e,hb,_⟩:=I.env j _ q;rw[o.2]at e;cases e;exact d0 hb h
 refine ⟨⟨fun b u e=>?_,fun a es e=>?_,fun b u e f=>?_,I.ran.f0,I.ran.fnew,I.ran.dto⟩,fun j c e=>?_,by simp[I.len],fun a b c n o1 o2=>?_,fun j a o=>?_⟩
 ·rw[j0 (d0 e hF)];exact I.sub _ _ e
 ·obtain ⟨q,us,q2,r2⟩:=I.ran.dk a es e;exact ⟨q,us,by rw[j0 (d0 q2 h)];exact q2,r2⟩
 ·rw[j0 (d0 (I.ran.keep b u e f) h)];exact I.ran.keep b u e f
 ·by_cases z:j=i
  ·subst z;rw[List.getElem?_set]at e;by_cases hl:j<ρ.length
   ·simp[hl]at e;subst e;refine ⟨p,vs,?_,l4,hF,h0,r⟩;rw[List.getElem?_set];simp[I.len▸hl]
   ·simp[hl]at e
  ·rw[List.getElem?_set_ne (Ne.symm z)]at e ⊢;have w:=I.env j c e;cases c with
   |no=>trivial
   |val d=>exact w
   |own es=>
    obtain ⟨b,us,e1,h1,f1,g1,r1⟩:=w;exact ⟨b,us,e1,by rw[j0 (d0 h1 h)];exact h1,f1,g1,r1⟩
   |obj C fs=>
    obtain ⟨b,dx,us,e1,es1,h1,h2,f1,f2,g1,g2,r1⟩:=w;exact ⟨b,dx,us,e1,es1,by rw[j0 (d0 h1 h)];exact h1,by rw[j0 (d0 h2 h)];exact h2,f1,f2,g1,g2,r1⟩
   |ownD kvs=>
    obtain ⟨b,us,e1,h1,f1,g1,r1⟩:=w;exact ⟨b,us,e1,by rw[j0 (d0 h1 h)];exact h1,f1,g1,r1⟩
 ·rcases key a c o1 with ⟨z1,z2⟩|⟨z1,z2⟩
  ·rcases key b c o2 with ⟨y1,y2⟩|⟨y1,y2⟩
   ·exact n (z1.trans y1.symm)
   ·exact addr b c y2 z2
  ·rcases key b c o2 with ⟨y1,y2⟩|⟨y1,y2⟩
   ·exact addr a c z2 y2
   ·exact I.apart a b c n z2 y2
 ·rcases key j a o with ⟨z1,z2⟩|⟨z1,z2⟩
  ·intro b es eb w;obtain ⟨_,us,q2,_⟩:=I.ran.dk b es eb;rw[←w,z2,h]at q2;cases q2
  ·exact I.off j a z2
noncomputable def d0b(i:Nat)(ta:TA2):TS2:=fun E ρ δ=>ta E.xc ρ δ fun ds ρ1 δ1=>ds.length≤1000∧E.nx (ρ1.set i (.own ds)) δ1
theorem o0a(i:Nat){es:List Expr}{ta:TA2}{lpos:Pos}(hN:X.N.Nodup)(ha:PA2 X Y W es ta)(hi:X.N[i]?=some x:=by rfl)(hx:Loc X.env.scope x:=by walk_at "v2")(hs:swapsWith (.List es lpos) (some (.Name x pos')) pos.line X.env=pure false:=by rfl)
 (hf:X.fn x=true∨X.env.scope.names.lookup x=some .local:=by walk_at "v1"):PS2 X Y W (.Assign [.Name x pos'] (.List es lpos) pos) (d0b i ta):=ps2 (o0t (i:=i) hN hi hx (h0n ha.go) hs hf) fun E1 σ H ⟨F,ρ,δ,E2,I,h,er⟩=>
 ⟨F,ρ,δ,E2.xc,_,I,h,fun ds vs F1 H1 ρ1 δ1 I1 s1 r1 h1=>⟨m0j (by rw[r1.length];exact h1.1),fun p hp=>er.nx _ F1 _ _ δ1 (I1.own hp r1) s1 h1.2⟩,er.xc⟩
noncomputable def k0b(i:Nat)(ta:TA2):TS2:=fun E ρ δ=>ta E.xc ρ δ fun ds ρ1 δ1=>match ds with | [d]=>(match seqD d with |some xs=>E.nx (ρ1.set i (.own xs)) δ1 |none=>False)|_=>False
theorem y1h(i:Nat){a:Expr}{ta:TA2}{cpos np:Pos}(hN:X.N.Nodup)(hm:X.mg "list"=none)(ha:PA2 X Y W [a] ta)(hg:Gl X "list":=by rfl)(hst:starEach [a] X.env=[(false,eval a X.env)]:=by rfl)(hi:X.N[i]?=some x:=by rfl)(hx:Loc X.env.scope x:=by walk_at "v2")
 (hs:swapsWith (.Call (.Name "list" np) [a] [] cpos) (some (.Name x pos')) pos.line X.env=pure false:=by rfl) (hf:X.fn x=true∨X.env.scope.names.lookup x=some .local:=by walk_at "v1") (hpl:(backTo cpos (starEach [] X.env)).any (·.1)=false:=by exact g7 rfl):
 PS2 X Y W (.Assign [.Name x pos'] (.Call (.Name "list" np) [a] [] cpos) pos) (k0b i ta):=ps2 (o0t (i:=i) hN hi hx (o0m o0j hg hm g0w ha.go (by decide) (by decide) hst hpl) hs hf) fun E1 σ H ⟨F,ρ,δ,E2,I,h,er⟩=>by
 refine ⟨F,ρ,δ,E2.xc,_,I,h,fun ds vs F1 H1 ρ1 δ1 I1 s1 r1 h1=>?_,er.xc⟩;split at h1
 ·split at h1
  ·rename_i xs e;obtain ⟨v,rfl,r2⟩:=d8 r1;obtain ⟨a,us,rfl,sq,z⟩:=q0u I1.sub e r2;exact ⟨a,us,rfl,sq,fun l hl=>er.nx _ F1 _ _ δ1 (I1.own hl z) s1 h1⟩
  ·exact h1.elim
 ·exact h1.elim
noncomputable def hasV(ρ:En)(i:Nat):Bool:=match ρ[i]? with |some .no=>false |none=>false |_=>true
theorem has_v{K:Frag}{F H:Hp}{σ:St}{ρ:En}{δ:Dk}(I:I2 K Y F H σ ρ δ)(h:hasV ρ i=true):∃v,σ[i]?=some (some v):=by
 unfold hasV at h;split at h
 ·cases h
 ·cases h
 ·rename_i o n1 n2;cases e:ρ[i]? with
  |none=>exact absurd e n2
  |some c=>
   have w:=I.env i c e;cases c with
   |no=>exact absurd e n1
   |val d=>obtain ⟨v,q,_⟩:=w;exact ⟨v,m4 q⟩
   |own ds=>obtain ⟨a,vs,q,_⟩:=w;exact ⟨_,m4 q⟩
   |obj C fs=>obtain ⟨a,dx,vs,q,_⟩:=w;exact ⟨_,m4 q⟩
   |ownD kvs=>obtain ⟨a,vs,q,_⟩:=w;exact ⟨_,m4 q⟩
noncomputable def seqV(ρ:En)(δ:Dk)(i:Nat):Option (List D):=match ρ[i]? with
 |some (.own ds)=>some ds
 |some (.val (.ref a))=>(match δ with |some (b,ds)=>if a=b then some ds else none |none=>none)
 |some (.val d)=>seqD d
 |_=>none
theorem seq_v{K:Frag}{F H:Hp}{σ:St}{ρ:En}{δ:Dk}{ds:List D}(I:I2 K Y F H σ ρ δ)(h:seqV ρ δ i=some ds):∃a vs,σ[i]?=some (some (.ref a))∧(SqL K H a vs∨SqT K H a vs)∧Reps K F ds vs:=by
 unfold seqV at h;split at h
 ·rename_i es e;cases h;obtain ⟨a,vs,q,hh,_,_,r⟩:=I.env i _ e;exact ⟨a,vs,m4 q,.inl (SqL.of hh),r⟩
 ·rename_i a e;split at h
  ·rename_i b es;by_cases z:a=b
   ·subst z;simp at h;subst h;obtain ⟨u,q,r⟩:=I.env i _ e;rw[rep_ref.mp r]at q;obtain ⟨_,vs,hh,rr⟩:=I.ran.dk a es rfl;exact ⟨a,vs,m4 q,.inl (SqL.of hh),rr⟩
   ·simp[z]at h
  ·cases h
 ·rename_i d _ e;obtain ⟨u,q,r⟩:=I.env i _ e;obtain ⟨a,vs,rfl,sq,z⟩:=q0u I.sub h r;exact ⟨a,vs,m4 q,sq,z⟩
 ·cases h
variable{a b:Expr}{ta tb:TE2}
noncomputable def ixQ(o:Option (List D))(d:D):Option D:=match o,d with |some xs,.int j=>atI xs j |_,_=>none
noncomputable def m0g(i:Nat)(tb:TE2):TE2:=fun x ρ δ q=>hasV ρ i=true∧tb x ρ δ fun d ρ1 δ1=>match ixQ (seqV ρ1 δ1 i) d with |some e=>q e ρ1 δ1 |none=>False
theorem p4(i:Nat)(hb:PE2 X Y W b tb)(hN:X.N[i]?=some x:=by rfl)(hv:Vis X.env.scope x:=by walk_at "v3")(hd:(x==("__debug__":Str))=false:=by decide)
 (hcd:(x==("__classdict__":Str))=false:=by decide) (hs:m0l b:=by exact fun _ _=>rfl):PE2 X Y W (.Subscript (.Name x p) b pos) (m0g i tb):=pe2 (pe_ix o0l (t0b hN hv hd hcd) hb.go hs) fun σ H Q ⟨F,ρ,δ,x,q,I,h,k,kx⟩=>by
 obtain ⟨v,ev⟩:=has_v I h.1;refine ⟨v,ev,F,ρ,δ,x,_,I,h.2,fun d w F' H' ρ' δ' I' s' r' h'=>?_,kx⟩;split at h'
 ·rename_i e ee;unfold ixQ at ee;split at ee
  ·rename_i xs j es;obtain ⟨a,vs,ea,sq,z⟩:=seq_v I' es;rw[ev]at ea;cases ea;obtain ⟨v2,e2,r2⟩:=z.atI ee;have fin:=k e v2 F' H' ρ' δ' I' s' r2 h';rcases sq with sq |sq
   ·exact .inl ⟨a,vs,j,v2,rfl,rep_int.mp r',sq,e2,fin⟩
   ·exact .inr (.inl ⟨a,vs,j,v2,rfl,rep_int.mp r',sq,e2,fin⟩)
  ·cases ee
 ·exact h'.elim
noncomputable def n0z(i:Nat):TE2:=fun x ρ δ q=>match seqV ρ δ i with |some xs=>q (.int (xs.length:Nat)) ρ δ |none=>False
theorem w5(i:Nat){np:Pos}(hm:X.mg "len"=none)(hg:Gl X "len":=by rfl)(hN:X.N[i]?=some x:=by rfl)(hv:Vis X.env.scope x:=by walk_at "v3")(hd:(x==("__debug__":Str))=false:=by decide)
 (hcd:(x==("__classdict__":Str))=false:=by decide) (hst:starEach [.Name x p] X.env=[(false,eval (.Name x p) X.env)]:=by rfl) (hpl:(backTo pos (starEach [] X.env)).any (·.1)=false:=by exact g7 rfl):
 PE2 X Y W (.Call (.Name "len" np) [.Name x p] [] pos) (n0z i):=pe2 (k0o t0w hg hm r0a (h0o (t0b hN hv hd hcd) a0u hst) (by decide) (by decide) hst hpl) fun σ H Q ⟨F,ρ,δ,x,q,I,h,k,kx⟩=>by
 unfold n0z at h;split at h
 ·rename_i xs e;obtain ⟨a,vs,ea,sq,z⟩:=seq_v I e;exact ⟨_,ea,a,vs,rfl,sq,by rw[z.length];exact k _ _ F H ρ δ I (Same.refl F) (rep_int.mpr rfl) h⟩
 ·exact h.elim
noncomputable def mutV(ρ:En)(δ:Dk)(i:Nat):Option (List D×(List D→En×Dk)):=match ρ[i]? with
 |some (.own ds)=>some (ds,fun es=>(ρ.set i (.own es),δ))
 |some (.val (.ref a))=>(match δ with |some (b,ds)=>if a=b then some (ds,fun es=>(ρ,some (b,es)))else none |none=>none)
 |_=>none
theorem d0a{K:Frag}{F H:Hp}{σ:St}{ρ:En}{δ:Dk}{ds:List D}{put:List D→En×Dk}(I:I2 K Y F H σ ρ δ)(h:mutV ρ δ i=some (ds,put)):
 ∃a vs,σ[i]?=some (some (.ref a))∧H a=some (.lst vs)∧Reps K F ds vs∧∀es us,Reps K F es us→I2 K Y F (upd H a (.lst us)) σ (put es).1 (put es).2:=by
 unfold mutV at h;split at h
 ·rename_i es e;cases h;obtain ⟨a,vs,q,hh,hF,h0,r⟩:=I.env i _ e;have hs:=m4 q;have ho:y8 ρ σ i a:=⟨.inl ⟨_,e⟩,hs⟩;refine ⟨a,vs,hs,hh,r,fun es us r2=>?_⟩;have key:∀j b,y8 (ρ.set i (.own es)) σ j b→y8 ρ σ j b:=fun j b o=>by
   by_cases z:j=i
   ·subst z;exact ⟨ho.1,o.2⟩
   ·obtain ⟨o1,o2⟩:=o;simp only[List.getElem?_set_ne (Ne.symm z)]at o1;exact ⟨o1,o2⟩
  refine ⟨⟨fun b u e=>?_,fun b fs e=>?_,fun b u e f=>?_,I.ran.f0,I.ran.fnew,I.ran.dto⟩,fun j c e'=>?_,by simp[I.len],fun x y b n o1 o2=>I.apart x y b n (key x b o1) (key y b o2),fun j b o=>I.off j b (key j b o)⟩
  ·rw[j0 (d0 e hF)];exact I.sub _ _ e
  ·obtain ⟨q1,ws,q2,q3⟩:=I.ran.dk b fs e;exact ⟨q1,ws,by rw[j0 (Ne.symm (I.off i a ho b fs e))];exact q2,q3⟩
  ·rw[j0 (d0 e h0)];exact I.ran.keep b u e f
  ·by_cases z:j=i
   ·subst z;rw[List.getElem?_set]at e';by_cases hl:j<ρ.length
    ·simp[hl]at e';subst e';exact ⟨a,us,q,l4,hF,h0,r2⟩
    ·simp[hl]at e'
   ·rw[List.getElem?_set_ne (Ne.symm z)]at e';have w:=I.env j c e';cases c with
    |no=>trivial
    |val d=>exact w
    |own fs=>
     obtain ⟨b,ws,e1,h1,f1,g1,r1⟩:=w;have nb:b≠a:=fun w=>I.apart j i a z ⟨.inl ⟨fs,e'⟩,by rw[←w];exact m4 e1⟩ ho
     exact ⟨b,ws,e1,by rw[j0 nb];exact h1,f1,g1,r1⟩
    |obj C fs=>
     obtain ⟨b,dx,ws,e1,es1,h1,h2,f1,f2,g1,g2,r1⟩:=w;have nb:b≠a:=fun w=>by rw[w,hh]at h1;cases h1
     have nd:dx≠a:=fun w=>by rw[w,hh]at h2;cases h2
     exact ⟨b,dx,ws,e1,es1,by rw[j0 nb];exact h1,by rw[j0 nd];exact h2,f1,f2,g1,g2,r1⟩
    |ownD kvs=>
     obtain ⟨b,ws,e1,h1,f1,g1,r1⟩:=w;have nb:b≠a:=fun w=>by rw[w,hh]at h1;cases h1
     exact ⟨b,ws,e1,by rw[j0 nb];exact h1,f1,g1,r1⟩
 ·rename_i a e;split at h
  ·rename_i b es;by_cases z:a=b
   ·subst z;simp at h;obtain ⟨rfl,rfl⟩:=h;obtain ⟨u,q,r⟩:=I.env i _ e;rw[rep_ref.mp r]at q;obtain ⟨hF,vs,hh,rr⟩:=I.ran.dk a es rfl;refine ⟨a,vs,m4 q,hh,rr,fun fs us r2=>?_⟩;refine ⟨⟨fun b u e=>?_,fun b gs e=>?_,fun b u eb fb=>?_,I.ran.f0,I.ran.fnew,⟨fun b gs e=>?_,fun b gs e n=>?_⟩⟩,fun j c e'=>?_,I.len,I.apart,fun j b o c gs e=>?_⟩
    ·rw[j0 (d0 e hF)];exact I.sub _ _ e
    ·cases e;exact ⟨hF,us,l4,r2⟩
    ·have nb:b≠a:=by
      intro w;subst w;cases hd:Y.δ₀ with
      |none=>
       have:=I.ran.dto.2 b es rfl hd;rw[eb]at this;cases this
      |some p0=>
       obtain ⟨c,gs⟩:=p0;obtain ⟨es',w2⟩:=I.ran.dto.1 c gs hd;cases w2;exact fb b gs hd rfl
     rw[j0 nb];exact I.ran.keep b u eb fb
    ·obtain ⟨es',w⟩:=I.ran.dto.1 b gs e;cases w;exact ⟨_,rfl⟩
    ·cases e;exact I.ran.dto.2 a es rfl n
    ·have w:=I.env j c e';cases c with
     |no=>trivial
     |val d=>exact w
     |own fs=>
      obtain ⟨b,ws,e1,h1,f1,g1,r1⟩:=w;have nb:b≠a:=I.off j b ⟨.inl ⟨fs,e'⟩,m4 e1⟩ a es rfl;exact ⟨b,ws,e1,by rw[j0 nb];exact h1,f1,g1,r1⟩
     |obj C fs=>
      obtain ⟨b,dx,ws,e1,es1,h1,h2,f1,f2,g1,g2,r1⟩:=w;have nb:b≠a:=fun w=>by rw[w,hh]at h1;cases h1
      have nd:dx≠a:=fun w=>by rw[w,hh]at h2;cases h2
      exact ⟨b,dx,ws,e1,es1,by rw[j0 nb];exact h1,by rw[j0 nd];exact h2,f1,f2,g1,g2,r1⟩
     |ownD kvs=>
      obtain ⟨b,ws,e1,h1,f1,g1,r1⟩:=w;have nb:b≠a:=fun w=>by rw[w,hh]at h1;cases h1
      exact ⟨b,ws,e1,by rw[j0 nb];exact h1,f1,g1,r1⟩
    ·cases e;exact I.off j b o a es rfl
   ·simp[z]at h
  ·cases h
 ·cases h
noncomputable def k0a(i:Nat)(tj te:TE2):TS2:=fun E ρ δ=>te E.xc ρ δ fun d ρ1 δ1=>hasV ρ1 i=true∧tj E.xc ρ1 δ1 fun dj ρ2 δ2=>match mutV ρ2 δ2 i,dj with
 |some (ds,put),.int j=>(match ixN ds.length j with |some m=>E.nx (put (ds.set m d)).1 (put (ds.set m d)).2 |none=>False)
 |_,_=>False
theorem y0w(i:Nat){j:Expr}{tj:TE2}{spos:Pos}(hj:PE2 X Y W j tj)(he:PE2 X Y W e te)(hN:X.N[i]?=some x:=by rfl)(hv:Vis X.env.scope x:=by walk_at "v3")(hd:(x==("__debug__":Str))=false:=by decide)
 (hcd:(x==("__classdict__":Str))=false:=by decide)
 (ha:∀v,assign (.Subscript (.Name x p) j spos) X.env v=(do
  let ov←holding [v] (eval (.Name x p) X.env)
  let iv←holding [v,ov] (eval j X.env)
  standAt spos
  holding [v,ov,iv] (setItem ov iv v)
  release [v,ov,iv] []):=by intro _;rfl)
 (hs:swapsWithSole [.Subscript (.Name x p) j spos] e pos.line X.env=pure false:=by rfl) (hw:swappedStores [.Subscript (.Name x p) j spos] e X.env=pure none:=by rfl)
 (h1:(assignEach [.Subscript (.Name x p) j spos] X.env).map (·.2)=[assign (.Subscript (.Name x p) j spos) X.env]:=by rfl):
 PS2 X Y W (.Assign [.Subscript (.Name x p) j spos] e pos) (k0a i tj te):=ps2 (a0x he.go (pg_sub (t0b hN hv hd hcd) hj.go d0y ha) hs hw h1) fun E1 σ H ⟨F,ρ,δ,E2,I,h,er⟩=>by
 refine ⟨F,ρ,δ,E2.xc,_,I,h,fun d v F1 H1 ρ1 δ1 I1 s1 r1 h1=>?_,er.xc⟩;obtain ⟨o,eo⟩:=has_v I1 h1.1;refine ⟨o,eo,F1,ρ1,δ1,E2.xc,_,I1,h1.2,fun dj w F2 H2 ρ2 δ2 I2' s2 r2 h2=>?_,er.xc.mono s1⟩;split at h2
 ·rename_i ds put j em;split at h2
  ·rename_i m hm;obtain ⟨a,vs,ea,hh,z,up⟩:=d0a I2' em;rw[eo]at ea;cases ea;refine ⟨a,vs,j,m,rfl,rep_int.mp r2,hh,by rw[z.length];exact hm,er.nx σ F2 _ _ _ (up _ _ (z.set (r1.mono s2) m)) (s1.trans s2) h2⟩
  ·exact h2.elim
 ·exact h2.elim
noncomputable abbrev FM:=List D→List D→(D→List D→Prop)→Prop
noncomputable def MtD(K:Frag)(r:V→List V→Hp→VK→Prop)(m:FM):Prop:=∀(F H:Hp) (a:Addr) (vs us:List V) (ds es:List D) (Q:VK) (q:D→List D→Prop),H a=some (.lst vs)→Reps K F ds vs→Reps K F es us→m ds es q→
 (∀d v ds' vs',Rep K F d v→Reps K F ds' vs'→q d ds'→Q v (upd H a (.lst vs')))→r (.ref a) us H Q
noncomputable def t2MV(i:Nat)(m:FM)(ta:TA2):TE2:=fun x ρ δ q=>(mutV ρ δ i).isSome=true∧ta x ρ δ fun es ρ1 δ1=>match mutV ρ1 δ1 i with
 |some (ds,put)=>m ds es fun d ds'=>q d (put ds').1 (put ds').2
 |none=>False
theorem g0p(i:Nat){name:Str}{id:String}{r:V→List V→Hp→VK→Prop}{m:FM}{es:List Expr}{t:TA2}{apos cpos:Pos}(slot:Slot "list" name id)(hty:typeOf (.builtin id)=pure (.type "method_descriptor"))(hm:MtM X id r)(hd2:MtD X.K r m)(hta:PA2 X Y W (e::es) t)
 (hN:X.N[i]?=some x:=by rfl) (hv:Vis X.env.scope x:=by walk_at "v3") (hd:(x==("__debug__":Str))=false:=by decide) (hcd:(x==("__classdict__":Str))=false:=by decide)
 (hbase:attributeBase (.Name x p) name X.env (eval (.Name x p) X.env)=eval (.Name x p) X.env:=by rfl)
 (hfew:((backTo cpos (starEach (e::es) X.env)).all (fun x=>!x.1)&&(backToKw cpos (keywordEach [] X.env)).all (fun x=>x.1.isSome)
  &&decide ((e::es).length+([]:List Keyword).length+(if ([]:List Keyword).isEmpty then 0 else 1)<30))=true:=by rfl)
 (hline:(apos.endLine==cpos.line)=true:=by rfl) (hs:starEach (e::es) X.env=(false,eval e X.env)::starEach es X.env:=by exact b6 rfl) (hplain:(backTo cpos (starEach es X.env)).any (·.1)=false:=by exact g7 rfl):
 PE2 X Y W (.Call (.Attribute (.Name x p) name apos) (e::es) [] cpos) (t2MV i m t):=pe2 (y1z PySem.F.plainAttrs_list slot hty hm (t0b hN hv hd hcd) hta.go hbase hfew hline hs hplain) fun σ H Q ⟨F,ρ,δ,x,q,I,h,k,kx⟩=>by
 obtain ⟨h0,h⟩:=h;obtain ⟨⟨ds0,put0⟩,e0⟩:=Option.isSome_iff_exists.mp h0;obtain ⟨a,vs,ea,hh,z,up⟩:=d0a I e0;refine ⟨_,ea,.inl ⟨rfl,vs,SqL.of hh⟩,F,ρ,δ,x,_,I,h,fun es us F1 H1 ρ1 δ1 I1 s1 r1 h1=>?_,kx⟩;split at h1
 ·rename_i ds put em;obtain ⟨a',vs',ea',hh',z',up'⟩:=d0a I1 em;rw[ea]at ea';cases ea';exact hd2 F1 H1 a vs' us ds es _ _ hh' z' r1 h1 fun d v ds' ws r2 r3 q'=>k d v F1 _ _ _ (up' _ _ r3) s1 r2 q'
 ·exact h1.elim
noncomputable def g0o(i:Nat)(m:FM):TE2:=fun x ρ δ q=>match mutV ρ δ i with
 |some (ds,put)=>m ds [] fun d ds'=>q d (put ds').1 (put ds').2
 |none=>False
theorem a0h(i:Nat){name:Str}{id:String}{r:V→List V→Hp→VK→Prop}{m:FM}{apos cpos:Pos}(slot:Slot "list" name id)(hty:typeOf (.builtin id)=pure (.type "method_descriptor"))(hm:MtM X id r)(hd2:MtD X.K r m)
 (hN:X.N[i]?=some x:=by rfl) (hv:Vis X.env.scope x:=by walk_at "v3") (hd:(x==("__debug__":Str))=false:=by decide) (hcd:(x==("__classdict__":Str))=false:=by decide)
 (hbase:attributeBase (.Name x p) name X.env (eval (.Name x p) X.env)=eval (.Name x p) X.env:=by rfl) (hline:(apos.endLine==cpos.line)=true:=by rfl):
 PE2 X Y W (.Call (.Attribute (.Name x p) name apos) [] [] cpos) (g0o i m):=pe2 (pe_bm0 PySem.F.plainAttrs_list slot hty hm (t0b hN hv hd hcd) hbase hline) fun σ H Q ⟨F,ρ,δ,x,q,I,h,k,kx⟩=>by
 unfold g0o at h;split at h
 ·rename_i ds put em;obtain ⟨a,vs,ea,hh,z,up⟩:=d0a I em;exact ⟨_,ea,.inl ⟨rfl,vs,SqL.of hh⟩,hd2 F H a vs [] ds [] _ _ hh z Reps.nil h fun d v ds' ws r2 r3 q'=>k d v F _ _ _ (up _ _ r3) (Same.refl F) r2 q'⟩
 ·exact h.elim
noncomputable def s0s:FM:=fun ds es q=>match es with | [e]=>ds.length<1000∧q .non (ds++[e])|_=>False
theorem w0j{K:Frag}:MtD K h0i s0s:=by
 intro F H a vs us ds es Q q hh z r h k;unfold s0s at h;split at h
 ·obtain ⟨v,rfl,r1⟩:=d8 r;exact ⟨a,vs,v,rfl,rfl,hh,Nat.lt_of_lt_of_le (by rw[z.length];exact h.1) (show 1000≤PySem.sizeLine by decide),k _ _ _ _ (rep_non.mpr rfl) (z.append (Reps.cons r1 Reps.nil)) h.2⟩
 ·exact h.elim
noncomputable def popM:FM:=fun ds es q=>match es,ds.getLast? with | [],some d=>q d ds.dropLast |_,_=>False
theorem m_pop{K:Frag}:MtD K rPop popM:=by
 intro F H a vs us ds es Q q hh z r h k;unfold popM at h;split at h
 ·rename_i d e;rw[reps_nil.mp r];rw[List.getLast?_eq_getElem?]at e;obtain ⟨v,ev,rv⟩:=z.get e;exact ⟨a,vs,v,rfl,rfl,hh,by rw[z.length];exact ev,k _ _ _ _ rv z.dropLast h⟩
 ·exact h.elim
noncomputable def t2Aug(i:Nat)(f:F2)(te:TE2):TS2:=fun E ρ δ=>rdV ρ i fun d1 ρ0=>te E.xc ρ0 δ fun d2 ρ1 δ1=>f d1 d2 fun d=>E.nx (ρ1.set i (.val d)) δ1
noncomputable def t2Fld(K:Frag)(f:Str)(ta:TE2):TE2:=fun x ρ δ q=>ta x ρ δ fun d ρ1 δ1=>match d with
 | .ins C fs=>(Cls K C∧NoAttr K C f)∧(match fs.lookup f with |some e=>q e ρ1 δ1 |none=>False)
 |_=>False
theorem RepF.look{K:Frag}{F:Hp}{f:Str}:∀{fs:List (Str×D)} {us:List (Str×V)} {d:D},RepF K F fs us→fs.lookup f=some d→∃v,us.lookup f=some v∧Rep K F d v
 | [],us,d,r,e=>by cases e
 |(g,c)::fs,us,d,r,e=>by
  unfold RepF at r;obtain ⟨v,l,rfl,r1,r2⟩:=r;rw[List.lookup_cons]at e ⊢;split at e
  ·cases e;exact ⟨v,rfl,r1⟩
  ·exact RepF.look r2 e
noncomputable def n0y(K:Frag)(f:Str)(ta:TE2):TE2:=fun x ρ δ q=>ta x ρ δ fun d ρ1 δ1=>match d with
 | .exc C fs=>(XC K C∧NoAttr K C f)∧(match fs.lookup f with |some e=>q e ρ1 δ1 |none=>False)
 |_=>False
theorem y1g{f:Str}(ha:PE2 X Y W a ta)(hb:attributeBase a f X.env (eval a X.env)=eval a X.env:=by rfl):PE2 X Y W (.Attribute a f pos) (n0y X.K f ta):=pe2 (y1x ha.go hb) fun σ H Q ⟨F,ρ,δ,x,q,I,h,k,kx⟩=>by
 refine ⟨F,ρ,δ,x,_,I,h,fun d v F' H' ρ' δ' I' s' r' h'=>?_,kx⟩;cases d with
 |exc C fs=>
  obtain ⟨⟨c,n⟩,h'⟩:=h';obtain ⟨a,fr,rfl,rr⟩:=rep_exc.mp r';split at h'
  ·rename_i e ee;rcases rr with ⟨hnil,_⟩|⟨d,us,e1,e2,rf⟩
   ·rw[hnil]at ee;cases ee
   ·obtain ⟨v,ev,rv⟩:=rf.look ee;exact ⟨fr,a,C,d,us,v,rfl,I'.sub _ _ e1,I'.sub _ _ e2,c,n,ev,k e v F' H' ρ' δ' I' s' rv h'⟩
  ·exact h'.elim
 |_=>exact h'.elim
noncomputable def c0z(f:Str)(v:D):List (Str×D)→List (Str×D)
 | []=>[(f,v)]
 |(g,u)::r=>if g=f then (g,v)::r else (g,u)::c0z f v r
noncomputable def t2Self(K:Frag)(i:Nat)(f:Str)(te:TE2):TS2:=fun E ρ δ=>te E.xc ρ δ fun d ρ1 δ1=>match ρ1[i]? with
 |some (.obj C fs)=>(Cls K C∧NoAttr K C f)∧fs.length<1000∧E.nx (ρ1.set i (.obj C (c0z f d fs))) δ1
 |_=>False
end
end DL
namespace DL
open PySem PySem.Spec L2
open PySem.W (XC)
open PyProof.Rows (envOfC)
noncomputable abbrev Sp2:=List D→Dk→(D→Dk→Prop)→(Addr→List (Str×D)→Dk→Prop)→Prop
noncomputable def upF(K:Frag)(sp:Sp2):Sp:=fun vs H Q E=>∃F ds δ q x,Same F H∧DkOk K F H δ∧Reps K F ds vs∧sp ds δ q x∧
 (∀d v F' H' δ',Ran K F H δ F' H' δ'→Rep K F' d v→q d δ'→Q v H')∧∀C od fs F' H' δ',Ran K F H δ F' H' δ'→XRep K F' od fs→x C fs δ'→E (.ref C) od H'
noncomputable abbrev Fun2(P:Program)(w:World)(K:Frag)(mg:Str→Option Value)(base:Heap)(x:Str)(k:Nat)(ps:List Str)(sp:Sp2):Prop:=FnAt P w K mg base (CX1 P w) x k ps (upF K sp)
section
variable{K:Frag}{Y:Y2}{F H F' H':Hp}{σ:St}{ρ:En}{δ δ':Dk}
theorem Ran.trans{F₀ H₀:Hp}{δ₀:Dk}(R:Ran K F₀ H₀ δ₀ F H δ)(S:Ran K F H δ F' H' δ'):Ran K F₀ H₀ δ₀ F' H' δ':=by
 have offs:∀b o,H₀ b=some o→Off δ₀ b→Off δ b:=fun b o e f a ds q w=>by
  subst w;cases hd:δ₀ with
  |none=>have:=R.dto.2 b ds q hd;rw[e]at this;cases this
  |some p=>
   obtain ⟨c,gs⟩:=p;obtain ⟨es,z⟩:=R.dto.1 c gs hd;rw[q]at z;cases z;exact f b gs hd rfl
 have fr:∀p,H p=none→H₀ p=none:=fun p h=>(Ran.fresh (Y:=⟨F₀,H₀,δ₀,none⟩) R h)
 refine ⟨S.sub,S.dk,fun b o e f=>S.keep b o (R.keep b o e f) (offs b o e f),R.f0.trans S.f0,fun b o e=>?_,⟨fun a ds e=>?_,fun a ds e n=>?_⟩⟩
 ·rcases S.fnew b o e with z |z
  ·exact R.fnew b o z
  ·exact .inr (fr b z)
 ·obtain ⟨es,z⟩:=R.dto.1 a ds e;exact S.dto.1 a es z
 ·cases hd:δ with
  |none=>exact fr a (S.dto.2 a ds e hd)
  |some p=>
   obtain ⟨c,gs⟩:=p;obtain ⟨es,z⟩:=S.dto.1 c gs hd;rw[e]at z;cases z;exact R.dto.2 a gs hd n
theorem I2.call(I:I2 K Y F H σ ρ δ)(S:Ran K F H δ F' H' δ'):I2 K Y F' H' σ ρ δ':=by
 have fno:∀a o,H a=some o→F a=none→F' a=none:=fun a o h f=>by
  cases q:F' a with
  |none=>rfl
  |some u=>
   rcases S.fnew a u q with z |z
   ·rw[f]at z;cases z
   ·rw[h]at z;cases z
 have addr:∀j a,y8 ρ σ j a→∃o,H a=some o:=fun j a o=>by
  rcases o.1 with ⟨ds,q⟩|⟨C,fs,q⟩|⟨kvs,q⟩
  ·obtain ⟨b,us,e,hb,_⟩:=I.env j _ q;rw[o.2]at e;cases e;exact ⟨_,hb⟩
  ·obtain ⟨b,dx,us,e,es0,hb,_⟩:=I.env j _ q;rw[o.2]at e;cases e;exact ⟨_,hb⟩
  ·obtain ⟨b,us,e,hb,_⟩:=I.env j _ q;rw[o.2]at e;cases e;exact ⟨_,hb⟩
 refine ⟨I.ran.trans S,fun i c e=>?_,I.len,I.apart,fun j a o b ds e w=>?_⟩
 ·have w:=I.env i c e;cases c with
  |no=>trivial
  |val d=>obtain ⟨u,e1,r⟩:=w;exact ⟨u,e1,r.mono S.f0⟩
  |own ds=>
   obtain ⟨a,vs,e1,h1,f1,g1,r1⟩:=w;have of:=I.off i a ⟨.inl ⟨ds,e⟩,m4 e1⟩;exact ⟨a,vs,e1,S.keep a _ h1 of,fno a _ h1 f1,g1,r1.mono S.f0⟩
  |obj C fs=>
   obtain ⟨a,dx,us,e1,es1,h1,h2,f1,f2,g1,g2,r1⟩:=w;have of:=I.off i a ⟨.inr (.inl ⟨C,fs,e⟩),m4 e1⟩;have od:Off δ dx:=fun b ds q w=>by
    obtain ⟨_,vs,q2,_⟩:=I.ran.dk b ds q;rw[←w,h2]at q2;cases q2
   exact ⟨a,dx,us,e1,es1,S.keep a _ h1 of,S.keep dx _ h2 od,fno a _ h1 f1,fno dx _ h2 f2,g1,g2,r1.mono S.f0⟩
  |ownD ds=>
   obtain ⟨a,vs,e1,h1,f1,g1,r1⟩:=w;have of:=I.off i a ⟨.inr (.inr ⟨ds,e⟩),m4 e1⟩;exact ⟨a,vs,e1,S.keep a _ h1 of,fno a _ h1 f1,g1,r1.mono S.f0⟩
 ·subst w;obtain ⟨u,hu⟩:=addr j a o;cases hd:δ with
  |none=>have:=S.dto.2 a ds e hd;rw[hu]at this;cases this
  |some p=>
   obtain ⟨c,gs⟩:=p;obtain ⟨es,z⟩:=S.dto.1 c gs hd;rw[e]at z;cases z;exact I.off j a o a gs hd rfl
theorem Ran.refl(s:Same F H)(d:DkOk K F H δ):Ran K F H δ F H δ:=⟨s,d,fun _ _ e _=>e,Same.refl F,fun _ _ e=>.inl e,fun a ds e=>⟨ds,e⟩,fun a ds e n=>by rw[n]at e;cases e⟩
end
section
variable{X:Cx}{Y:Y2}{W:XW}{x:Str}{p pos:Pos}{e:Expr}{es:List Expr}{t:TA2}{k:Nat}{ps:List Str}{sp:Sp2}
noncomputable def q0t(sp:Sp2)(t:TA2):TE2:=fun x ρ δ q=>t x ρ δ fun ds ρ1 δ1=>sp ds δ1 (fun d δ2=>q d ρ1 δ2) fun C fs δ2=>x C fs ρ1 δ2
theorem y1f{σ:St}{H:Hp}{Q:VK}(h:upE X.K Y W (q0t sp t) σ H Q):h0c (upF X.K sp) W (upA X.K Y W t) σ H Q:=by
 obtain ⟨F,ρ,δ,x,q,I,h,k,kx⟩:=h;refine ⟨F,ρ,δ,x,_,I,h,fun ds vs F1 H1 ρ1 δ1 I1 s1 r1 h1=>⟨F1,ds,δ1,_,_,I1.sub,I1.ran.dk,r1,h1,fun d v F' H' δ' R r' q'=>?_,fun C od fs F' H' δ' R r' q'=>?_⟩,kx⟩
 ·exact k d v F' H' ρ1 δ' (I1.call R) (s1.trans R.f0) r' q'
 ·exact ⟨C,rfl,kx C od fs σ F' H' ρ1 δ' (I1.call R) (s1.trans R.f0) r' q'⟩
theorem u3(G:Fun2 X.prog X.w X.K X.mg X.base x k ps sp)(hr:Room k X.A)(hf:s0v X W)(ha:PA2 X Y W (e::es) t)(hg:Gl X x:=by rfl)(hdb:(x==("__debug__":Str))=false:=by decide)
 (he:starEach (e::es) X.env=(false,eval e X.env)::starEach es X.env:=by exact b6 rfl) (hpl:(backTo pos (starEach es X.env)).any (·.1)=false:=by exact g7 rfl):PE2 X Y W (.Call (.Name x p) (e::es) [] pos) (q0t sp t):=pe2 (pe_cX G hr hf ha.go hg hdb he hpl) fun σ H Q h=>y1f h
theorem s0r:s0v X (fun _ _ _ _=>False):=fun pins e s ⟨_,_,_,_,_,_,_,_,_,_,_,q⟩=>q.elim
end
noncomputable def x5(N:List Str)(ds:List D):En:=ds.map .val++List.replicate (N.length-ds.length) .no
theorem s0q{K:Frag}{F H H₀:Hp}{sf:Option Addr}:∀{ds:List D} {vs:List V},Reps K F ds vs→∀(n i:Nat) (c:Cell),(ds.map Cell.val++List.replicate n Cell.no)[i]?=some c→CellOk K F H H₀ sf c ((vs.map some++List.replicate n none:St)[i]?).join
 | [],vs,r,n,i,c,e=>by
  rw[List.map_nil,List.nil_append,List.getElem?_replicate]at e;split at e
  ·cases e;trivial
  ·cases e
 |d::ds,vs,r,n,0,c,e=>by
  obtain ⟨v,l,rfl,r1,r2⟩:=reps_cons.mp r;cases e;exact ⟨v,rfl,r1⟩
 |d::ds,vs,r,n,i+1,c,e=>by
  obtain ⟨v,l,rfl,r1,r2⟩:=reps_cons.mp r;exact s0q r2 n i c e
theorem s0p{ds:List D}{n i:Nat}{c:Cell}(e:(ds.map Cell.val++List.replicate n Cell.no)[i]?=some c):(∃d,c=.val d)∨c=.no:=by
 have m:=List.mem_of_getElem? e;rcases List.mem_append.mp m with m |m
 ·obtain ⟨d,_,rfl⟩:=List.mem_map.mp m;exact .inl ⟨d,rfl⟩
 ·exact .inr (List.mem_replicate.mp m).2
theorem I2.start{K:Frag}{F H:Hp}{δ:Dk}{ds:List D}{vs:List V}{N:List Str}(s:Same F H)(dk:DkOk K F H δ)(r:Reps K F ds vs):I2 K ⟨F,H,δ,none⟩ F H (L2.start N vs) (x5 N ds) δ:=by
 have no:∀i a,¬y8 (x5 N ds) (L2.start N vs) i a:=fun i a o=>by
  rcases o.1 with ⟨es,q⟩|⟨C,fs,q⟩|⟨kvs,q⟩
  ·rcases s0p q with ⟨d,z⟩|z<;>cases z
  ·rcases s0p q with ⟨d,z⟩|z<;>cases z
  ·rcases s0p q with ⟨d,z⟩|z<;>cases z
 refine ⟨Ran.refl s dk,fun i c e=>?_,?_,fun i j a _ o _=>no i a o,fun i a o=>absurd o (no i a)⟩
 ·unfold L2.start;rw[r.length];exact s0q r _ i c e
 ·unfold L2.start x5;simp[r.length]
section
variable{P:Program}{w:World}{K:Frag}{mg:Str→Option Value}{base:Heap}
theorem def2F{x:Str}{st:Stmt}{f:Addr}{fd:FuncData}{N ps:List Str}{k:Nat}{sp:Sp2}(D:DefAt K mg x st ps f fd)(S:FnScope N ps (defScope st))(len:∀ds δ q x,sp ds δ q x→ds.length=ps.length)
 (hbody:∀(cdv:Value) (A:Around) (outer:List Env) (s:Shared) (H:Hp) (E:XK) (Y:Y2),Room k (A.deeper (envOfC x (defScope st) s.heap.objs.size f cdv))→
  ∃t,PSs2 (cxX P w K mg base N x (defScope st) f cdv A outer s H E) Y (fun C od _ H'=>E (.ref C) od H') (defBody st) t∧
   ∀ds δ q x,sp ds δ q x→t {nx:=fun _ δ=>q .non δ,rt:=q,xc:=fun C fs _ δ=>x C fs δ} (x5 N ds) δ):FnOk P w K mg base (CX1 P w) (k+1) f fd ps (upF K sp):=by
 refine D.F.okX S (fun vs H Q E h=>?_) fun cdv A outer s H vs Q E hr h=>?_
 ·obtain ⟨F,ds,δ,q,x,_,_,r,h,_⟩:=h;rw[r.length];exact len ds δ q x h
 ·obtain ⟨F,ds,δ,q,x,s1,dk,r,h,kq,kx⟩:=h;obtain ⟨t,ht,rd⟩:=hbody cdv A outer s H E ⟨F,H,δ,none⟩ hr;refine ⟨_,ht.go,F,x5 N ds,δ,_,I2.start s1 dk r,rd ds δ q x h,⟨fun σ' F' H' ρ' δ' I' s' h'=>?_,fun d v σ' F' H' ρ' δ' I' s' r' h'=>?_,fun C od fs σ' F' H' ρ' δ' I' s' r' h'=>?_,fun _ _ _ _ _ _ _ z=>z.elim,fun _ _ _ _ _ _ _ z=>z.elim⟩⟩
  ·exact kq .non .non F' H' δ' I'.ran (rep_non.mpr rfl) h'
  ·exact kq d v F' H' δ' I'.ran r' h'
  ·exact kx C od fs F' H' δ' I'.ran r' h'
theorem def2{x:Str}{st:Stmt}{f:Addr}{fd:FuncData}{N ps:List Str}{k:Nat}{sp:Sp2}(D:DefAt K mg x st ps f fd)(S:FnScope N ps (defScope st))(len:∀ds δ q x,sp ds δ q x→ds.length=ps.length)
 (hbody:∀(cdv:Value) (A:Around) (outer:List Env) (s:Shared) (H:Hp) (E:XK) (Y:Y2),Room k (A.deeper (envOfC x (defScope st) s.heap.objs.size f cdv))→
  ∃t,PSs2 (cxX P w K mg base N x (defScope st) f cdv A outer s H E) Y (fun C od _ H'=>E (.ref C) od H') (defBody st) t∧
   ∀ds δ q x,sp ds δ q x→t {nx:=fun _ δ=>q .non δ,rt:=q,xc:=fun C fs _ δ=>x C fs δ} (x5 N ds) δ):Fun2 P w K mg base x (k+1) ps sp:=D.at (def2F D S len hbody)
noncomputable def upI(K:Frag)(C:Addr)(sp:Sp2):Sp:=fun vs H Q E=>∃p dx us H1 F ds δ q x,vs=.ref p::us∧H=upd (upd H1 dx (.own p)) p (.ins C dx [])∧H1 p=none∧H1 dx=none∧dx≠p∧Same F H1∧DkOk K F H1 δ∧Reps K F ds us∧sp ds δ q x∧
 (∀fs F' H' δ',Ran K F H1 δ F' H' δ'→Rep K F' (.ins C fs) (.ref p)→q (.ins C fs) δ'→Q .non H')∧∀C od fs F' H' δ',Ran K F H1 δ F' H' δ'→XRep K F' od fs→x C fs δ'→E (.ref C) od H'
structure Make2(P:Program)(w:World)(K:Frag)(mg:Str→Option Value)(base:Heap)(x:Str)(k:Nat)(sp:Sp2):Prop where
 ex:∃C f fd ps,Mk K C f∧FnOk P w K mg base (CX1 P w) k f fd ps (upI K C sp)∧mg x=some (.ref C)∧Binds K fd ps []
end
section
variable{X:Cx}{Y:Y2}{W:XW}{x:Str}{p pos:Pos}{e:Expr}{es:List Expr}{t:TA2}{k:Nat}{sp:Sp2}
end
section
variable{P:Program}{w:World}{K:Frag}{mg:Str→Option Value}{base:Heap}
end
section
variable{X:Cx}{Y:Y2}{W:XW}{x:Str}{p pos cpos:Pos}{e:Expr}{es:List Expr}{t:TA2}{k:Nat}{ps:List Str}{C:Addr}{f g:Str}
theorem c0y{H:Hp}{x d:Addr}{o o1 o2:HO}(hx:H x=none)(ne:d≠x):L2.drop (upd (upd (upd H x o1) d o) x o2) x=upd H d o:=by
 funext b;by_cases z:b=x
 ·subst z;rw[w0m,j0 (Ne.symm ne)];exact hx.symm
 ·rw[x0d z,j0 z];by_cases z2:b=d
  ·subst z2;rw[l4,l4]
  ·rw[j0 z2,j0 z2,j0 z]
theorem repF1{K:Frag}{F:Hp}{f:Str}{d:D}{v:V}(r:Rep K F d v):RepF K F [(f,d)] [(f,v)]:=by
 unfold RepF;exact ⟨v,[],rfl,r,by unfold RepF;rfl⟩
noncomputable def t0m(C:Addr)(f:Str)(t:TA2):TS2:=fun E ρ δ=>t E.xc ρ δ fun ds ρ1 δ1=>match ds with | [d]=>E.xc C [(f,d)] ρ1 δ1 |_=>False
theorem w0i(hc:X.calm=true)(hf:s0v X W)(M:MkE X.prog X.w X.K X.mg X.base x C k ps (spXI C f))(hr:Room (k+1) X.A)(ha:PA2 X Y W (e::es) t)(hg:Gl X x:=by rfl)(hdb:(x==("__debug__":Str))=false:=by decide)
 (he:starEach (e::es) X.env=(false,eval e X.env)::starEach es X.env:=by exact b6 rfl) (hpl:(backTo cpos (starEach es X.env)).any (·.1)=false:=by exact g7 rfl):
 PS2 X Y W (.Raise (some (.Call (.Name x p) (e::es) [] cpos)) none pos) (t0m C f t):=ps2 (g0v hc hf M hr ha.go hg hdb he hpl) fun E1 σ H ⟨F,ρ,δ,E2,I,h,er⟩=>by
 refine ⟨F,ρ,δ,E2.xc,_,I,h,fun ds vs F1 H1 ρ1 δ1 I1 s1 r1 h1=>?_,er.xc⟩;split at h1
 ·rename_i d;obtain ⟨v,rfl,r2⟩:=d8 r1;refine ⟨sz1,fun y hy=>⟨y,v,rfl,l4,fun dx hdx ne=>⟨rfl,some dx,l4,?_⟩⟩⟩;rw[c0y hy ne];have hd:H1 dx=none:=by rw[j0 ne]at hdx;exact hdx
  exact er.xc C (some dx) _ σ _ _ ρ1 δ1 (I1.alloc hd) (s1.trans (I1.grow hd)) ⟨_,l4,(repF1 r2).mono (I1.grow hd)⟩ h1
 ·exact h1.elim
noncomputable def c0x(C:Addr)(f g:Str)(t:TA2):TS2:=fun E ρ δ=>t E.xc ρ δ fun ds ρ1 δ1=>match ds with | [d,d']=>E.xc C (c0z g d' [(f,d)]) ρ1 δ1 |_=>False
noncomputable def c0w(C:Addr):TS2:=fun E ρ δ=>E.xc C [] ρ δ
noncomputable def t2Exc1(C:Addr)(f:Str)(t:TA2):TE2:=fun x ρ δ q=>t x ρ δ fun ds ρ1 δ1=>match ds with | [d]=>q (.exc C [(f,d)]) ρ1 δ1 |_=>False
noncomputable def t2Exc2(C:Addr)(f g:Str)(t:TA2):TE2:=fun x ρ δ q=>t x ρ δ fun ds ρ1 δ1=>match ds with | [d,d']=>q (.exc C (c0z g d' [(f,d)])) ρ1 δ1 |_=>False
noncomputable abbrev XTS2:=Addr→List (Str×D)→TS2
noncomputable def upH(K:Frag)(Y:Y2)(W:XW)(t:XTS2):XTS:=fun C od E1 σ H=>∃F ρ δ E2 fs,I2 K Y F H σ ρ δ∧XRep K F od fs∧t C fs E2 ρ δ∧ER K Y W F E2 E1
structure PH2(X:Cx)(Y:Y2)(W:XW)(hs:List ExceptHandler)(t:XTS2):Prop where
 go:PH X hs (upH X.K Y W t)
theorem g0n{hs:List ExceptHandler}{t t':XTS}(h:PH X hs t)(k:∀C od D σ H,t' C od D σ H→t C od D σ H):PH X hs t':=fun pins x C od T s σ H D I f l lt q=>h pins x C od T s σ H D I f l lt (k C od D σ H q)
noncomputable def t2H0:XTS2:=fun _ _ _ _ _=>False
theorem h2_nil:PH2 X Y W [] t2H0:=⟨g0n ph_nil fun C od D σ H ⟨F,ρ,δ,E2,fs,I,r,h,er⟩=>h.elim⟩
theorem ph2{hs:List ExceptHandler}{t:XTS}{u:XTS2}(h:PH X hs t)(k:∀C od D σ H,upH X.K Y W u C od D σ H→t C od D σ H):PH2 X Y W hs u:=⟨g0n h k⟩
noncomputable abbrev W0:XW:=fun _ _ _ _=>False
noncomputable def noX(E:End2):End2:={E with xc:=fun _ _ _ _=>False}
noncomputable def t2H(K:Frag)(D:Addr)(ts:TS2)(tr:XTS2):XTS2:=fun C fs E ρ δ=>match PySem.W.mroIn K C (.ref D)with |some b=>if b=true then ts (noX E) ρ δ else tr C fs E ρ δ |none=>False
theorem ER.noX{K:Frag}{F:Hp}{E2:End2}{E1:Ends}(h:ER K Y W F E2 E1):ER K Y W0 F (noX E2) E1:=⟨h.nx,h.rt,fun _ _ _ _ _ _ _ _ _ _ _ z=>z,h.bk,h.ct⟩
variable{D:Addr}{y n:Str}{np:Pos}{b₀:Stmt}{suite:List Stmt}{rest:List ExceptHandler}{ts:TS2}{tr:XTS2}
theorem y1e(tp:Top X)(d:XHd X.K D)(hm:X.mg y=some (.ref D))(hs:∀x,PSs2 (X.hdl x) Y W0 (b₀::suite) ts)(hr:PH2 X Y W rest tr)(hg:Gl X y:=by rfl)(hdb:(y==("__debug__":Str))=false:=by decide):
 PH2 X Y W (.ExceptHandler (some (.Name y np)) none (b₀::suite) pos::rest) (t2H X.K D ts tr):=ph2 (y1u (ts:=upS X.K Y W0 ts) tp d hg hm (fun x=>(hs x).go) hr.go hdb) fun C od E1 σ H ⟨F,ρ,δ,E2,fs,I,r,h,er⟩=>by
 unfold t2H at h;split at h
 ·rename_i b e;refine ⟨b,e,?_⟩;cases b with
  |true=>rw[if_pos rfl]at h ⊢; exact ⟨F,ρ,δ,noX E2,I,h,er.noX⟩
  |false=>rw[if_neg Bool.false_ne_true]at h ⊢; exact ⟨F,ρ,δ,E2,fs,I,r,h,er⟩
 ·exact h.elim
noncomputable def asE(i:Nat)(E:End2):End2:={nx:=fun ρ δ=>E.nx (ρ.set i .no) δ,rt:=E.rt,xc:=fun _ _ _ _=>False,bk:=fun ρ δ=>E.bk (ρ.set i .no) δ,ct:=fun ρ δ=>E.ct (ρ.set i .no) δ}
noncomputable def i0r(K:Frag)(i:Nat)(D:Addr)(ts:TS2)(tr:XTS2):XTS2:=fun C fs E ρ δ=>match PySem.W.mroIn K C (.ref D)with |some b=>if b=true then ts (asE i E) (ρ.set i (.val (.exc C fs))) δ else tr C fs E ρ δ |none=>False
theorem h2_as(i:Nat)(tp:Top X)(d:XHd X.K D)(hm:X.mg y=some (.ref D))(hN:X.N.Nodup)(hs:∀x,PSs2 (X.hdl x) Y W0 (b₀::suite) ts)(hr:PH2 X Y W rest tr)(hi:X.N[i]?=some n:=by rfl)(hk:X.env.scope.names.lookup n=some .local:=by rfl)(hg:Gl X y:=by rfl)(hdb:(y==("__debug__":Str))=false:=by decide):
 PH2 X Y W (.ExceptHandler (some (.Name y np)) (some n) (b₀::suite) pos::rest) (i0r X.K i D ts tr):=ph2 (ph_as (ts:=fun _=>upS X.K Y W0 ts) tp d hg hm hN hi hk (fun x=>(hs x).go) hr.go hdb) fun C od E1 σ H ⟨F,ρ,δ,E2,fs,I,r,h,er⟩=>by
 unfold i0r at h;split at h
 ·rename_i b e;refine ⟨b,e,?_⟩;cases b with
  |true=>
   rw[if_pos rfl]at h ⊢;intro y hy;have s1:=I.grow (o:=XO (bif X.fl then 2 else 0) y C od) hy;have rr:Rep X.K (upd F y (XO (bif X.fl then 2 else 0) y C od)) (.exc C fs) (.ref y):=by
    refine rep_exc.mpr ⟨y,(bif X.fl then 2 else 0),rfl,?_⟩;cases od with
    |none=>exact .inl ⟨r,l4⟩
    |some dx=>
     obtain ⟨us,e1,rf⟩:=r;refine .inr ⟨dx,us,l4,?_,rf.mono s1⟩;rw[j0 (d0 (I.sub _ _ e1) hy)];exact e1
   refine ⟨_,_,δ,asE i E2,(I.alloc hy).put rr,h,⟨fun σ' F' H' ρ' δ' I' s' h'=>?_,fun d v σ' F' H' ρ' δ' I' s'=>er.rt d v σ' F' H' ρ' δ' I' (s1.trans s'),fun _ _ _ _ _ _ _ _ _ _ _ z=>z,fun σ' F' H' ρ' δ' I' s' h'=>?_,fun σ' F' H' ρ' δ' I' s' h'=>?_⟩⟩
   ·exact er.nx _ F' H' _ δ' I'.gone (s1.trans s') h'
   ·exact er.bk _ F' H' _ δ' I'.gone (s1.trans s') h'
   ·exact er.ct _ F' H' _ δ' I'.gone (s1.trans s') h'
  |false=>rw[if_neg Bool.false_ne_true]at h ⊢; exact ⟨F,ρ,δ,E2,fs,I,r,h,er⟩
 ·exact h.elim
noncomputable def c0v(tb:TS2)(th:XTS2):TS2:=fun E ρ δ=>tb {E with xc:=fun C fs ρ' δ'=>th C fs E ρ' δ'} ρ δ
theorem s2_try{body:List Stmt}{h₀:ExceptHandler}{hs:List ExceptHandler}{tb:TS2}{th:XTS2}(tp:Top X)(hb:∀pins W',PSs2 (X.tr pins W') Y W' body tb)(hh:PH2 X Y W (h₀::hs) th):PS2 X Y W (.Try body (h₀::hs) [] [] pos) (c0v tb th):=
 ps2 (ps_try (tb:=fun W'=>upS X.K Y W' tb) tp (fun p W'=>(hb p W').go) hh.go) fun E1 σ H ⟨F,ρ,δ,E2,I,h,er⟩=>
  ⟨fun C od σ' H'=>∃F' ρ' δ' fs,I2 X.K Y F' H' σ' ρ' δ'∧Same F F'∧XRep X.K F' od fs∧th C fs E2 ρ' δ',
   ⟨F,ρ,δ,_,I,h,⟨er.nx,er.rt,fun C od fs σ' F' H' ρ' δ' I' s' r' h'=>⟨F',ρ',δ',fs,I',s',r',h'⟩,er.bk,er.ct⟩⟩,
   fun C od σ' H' ⟨F',ρ',δ',fs,I',s',r',h'⟩=>⟨F',ρ',δ',E2,fs,I',r',h',er.mono s'⟩⟩
end
end DL
namespace DL
open PySem PySem.Spec L2
open PySem.W (XC)
noncomputable def a0g(K:Frag)(F H:Hp)(d:D)(v:V)(H':Hp):Prop:=(H'=H∧Rep K F d v)∨∃p vs es,H p=none∧H'=upd H p (.tup vs)∧v=.ref p∧d=.tup es∧Reps K F es vs
structure SrcOk(K:Frag)(J:It)(F:Hp)(ds:List D):Prop where
 item:∀(i:Nat) (d:D) (F' H:Hp),ds[i]?=some d→Same F F'→Same F' H→J.go i H∧∀v H',J.yld i H v H'→a0g K F' H d v H'
 stop:∀(F' H:Hp),Same F F'→Same F' H→J.stop ds.length H
theorem I2.yld{K:Frag}{Y:Y2}{F H H':Hp}{σ:St}{ρ:En}{δ:Dk}{d:D}{v:V}(I:I2 K Y F H σ ρ δ)(y:a0g K F H d v H'):∃F',I2 K Y F' H' σ ρ δ∧Same F F'∧Rep K F' d v∧∀D u,H D=some u→F D=none→F' D=none:=by
 rcases y with ⟨rfl,r⟩|⟨p,vs,es,hp,rfl,rfl,rfl,r⟩
 ·exact ⟨F,I,Same.refl F,r,fun _ _ _ z=>z⟩
 ·exact ⟨_,I.alloc hp,I.grow hp,I.tup hp r,fun D u h z=>by rw[j0 (d0 h hp)];exact z⟩
noncomputable abbrev TI2:=XK2→En→Dk→(List D→En→Dk→Prop)→Prop
noncomputable def upI2(K:Frag)(Y:Y2)(W:XW)(t:TI2):TI:=fun σ H R=>∃F ρ δ x q,I2 K Y F H σ ρ δ∧t x ρ δ q∧(∀ds J F' H' ρ' δ',I2 K Y F' H' σ ρ' δ'→Same F F'→SrcOk K J F' ds→q ds ρ' δ'→R J H')∧XR K Y W F x
structure PI2(X:Cx)(Y:Y2)(W:XW)(tg iter:Expr)(t:TI2):Prop where
 go:PI X tg iter (upI2 X.K Y W t)
theorem y1d{X:Cx}{tg iter:Expr}{t t':TI}(h:PI X tg iter t)(k:∀ σ H R,t' σ H R→t σ H R):PI X tg iter t':=fun pins s σ H R I q=>h pins s σ H R I (k σ H R q)
theorem pi2{X:Cx}{Y:Y2}{W:XW}{tg iter:Expr}{t:TI}{u:TI2}(h:PI X tg iter t)(k:∀ σ H R,upI2 X.K Y W u σ H R→t σ H R):PI2 X Y W tg iter u:=⟨y1d h k⟩
section
variable{X:Cx}{Y:Y2}{W:XW}{tg:Expr}{K:Frag}
theorem y1c{F:Hp}{a:Addr}{xs:List V}{ds:List D}(h:SqT K F a xs)(r:Reps K F ds xs):SrcOk K (Itt K a) F ds:=by
 refine ⟨fun i d F' H e s1 s2=>?_,fun F' H s1 s2=>?_⟩
 ·obtain ⟨v,ev,rv⟩:=r.get e;have hs:=(s1.trans s2).sqT h;refine ⟨⟨xs,v,hs,ev⟩,fun u H' y=>?_⟩;obtain ⟨rfl,y⟩:=y;have:=y xs hs;rw[ev]at this;cases this;exact .inl ⟨rfl,rv.mono s1⟩
 ·exact ⟨xs,(s1.trans s2).sqT h,by rw[r.length];exact Nat.le_refl _⟩
theorem g0m{F:Hp}{a:Addr}{xs:List V}{ds:List D}(h:SqL K F a xs)(r:Reps K F ds xs):SrcOk K (Itl K a) F ds:=by
 refine ⟨fun i d F' H e s1 s2=>?_,fun F' H s1 s2=>?_⟩
 ·obtain ⟨v,ev,rv⟩:=r.get e;have hs:=(s1.trans s2).sqL h;refine ⟨⟨xs,v,hs,ev⟩,fun u H' y=>?_⟩;obtain ⟨rfl,y⟩:=y;have:=y xs hs;rw[ev]at this;cases this;exact .inl ⟨rfl,rv.mono s1⟩
 ·exact ⟨xs,(s1.trans s2).sqL h,by rw[r.length];exact Nat.le_refl _⟩
noncomputable def rngD(lo:Int)(n:Nat):List D:=(List.range n).map fun (k:Nat)=>D.int (lo+(k:Int))
theorem y9{lo:Int}{n i:Nat}{d:D}(e:(rngD lo n)[i]?=some d):i<n∧d=.int (lo+(i:Int)):=by
 unfold rngD at e;rw[List.getElem?_map,Option.map_eq_some_iff]at e;obtain ⟨k,ek,rfl⟩:=e;obtain ⟨h1,h2⟩:=List.getElem?_eq_some_iff.mp ek;rw[List.length_range]at h1;rw[List.getElem_range]at h2;subst h2;exact ⟨h1,rfl⟩
theorem w8{lo:Int}{n:Nat}:(rngD lo n).length=n:=by unfold rngD;simp
theorem g0l{F:Hp}{lo:Int}{n:Nat}:SrcOk K (Itr lo n) F (rngD lo n):=by
 refine ⟨fun i d F' H e s1 s2=>?_,fun F' H s1 s2=>?_⟩
 ·obtain ⟨hi,rfl⟩:=y9 e;refine ⟨hi,fun v H' y=>?_⟩;obtain ⟨rfl,rfl⟩:=y;exact .inl ⟨rfl,rep_int.mpr rfl⟩
 ·show n≤_;rw[w8];exact Nat.le_refl _
noncomputable def iSeq(K:Frag)(tl:TE):TI:=fun σ H R=>tl σ H fun x H1=>∃a,x=.ref a∧(((∃xs,SqL K H1 a xs)∧R (Itl K a) H1)∨((∃xs,SqT K H1 a xs)∧R (Itt K a) H1))
theorem pi_seq{l:Expr}{tl:TE}(hl:PE X l tl):PI X tg l (iSeq X.K tl):=by
 intro pins s σ H R I h;refine thn (hl pins s σ H _ I h) fun v s1 ⟨x,H1,I1,r1,q1⟩=>?_
 obtain ⟨a,e,q⟩:=q1;subst e;cases r1;rcases q with ⟨⟨xs,hq⟩,q⟩|⟨⟨xs,hq⟩,q⟩
 ·obtain ⟨its,rv,p,hz⟩:=I1.list hq;refine wpAny_pyIter_list p.isList ?_;refine ⟨s1.heap.objs.size,[s1.heap.objs.size],_,_,H1,rfl,I1.kept (t':=s1.toks) fun b o e=>Heap.get?_push_of_some _ e,i0a a _,⟨_,Heap.get?_push_size _ rfl,rfl,rfl⟩,fun b hb=>?_,q⟩;have e:b=s1.heap.objs.size:=by simpa using hb
  subst e;exact I1.fpOk (Nat.le_refl _) (I1.hok.fresh (Nat.le_refl _))
 ·obtain ⟨its,rv,p,hz⟩:=I1.tuple hq;refine wpAny_pyIter_tuple (show s1.heap.IsTuple a its.toArray from p) ?_;refine ⟨s1.heap.objs.size,[s1.heap.objs.size],_,_,H1,rfl,I1.kept (t':=s1.toks) fun b o e=>Heap.get?_push_of_some _ e,j0a a _,⟨_,Heap.get?_push_size _ rfl,rfl,rfl⟩,fun b hb=>?_,q⟩;have e:b=s1.heap.objs.size:=by simpa using hb
  subst e;exact I1.fpOk (Nat.le_refl _) (I1.hok.fresh (Nat.le_refl _))
noncomputable def t2Is(te:TE2):TI2:=fun x ρ δ q=>te x ρ δ fun d ρ1 δ1=>match seqD d with |some ds=>q ds ρ1 δ1 |none=>False
theorem a0f{F:Hp}{d:D}{xs:List D}{x:V}(h:seqD d=some xs)(r:Rep K F d x):∃a vs,x=.ref a∧(SqL K F a vs∨SqT K F a vs)∧Reps K F xs vs:=q0u (Same.refl F) h r
theorem w0h{l:Expr}{te:TE2}(hl:PE2 X Y W l te):PI2 X Y W tg l (t2Is te):=pi2 (pi_seq hl.go) fun σ H R ⟨F,ρ,δ,x,q,I,h,k,kx⟩=>by
 refine ⟨F,ρ,δ,x,_,I,h,fun d v F' H' ρ' δ' I' s' r' h'=>?_,kx⟩;split at h'
 ·rename_i ds e;obtain ⟨a,vs,rfl,sq,z⟩:=a0f e r';refine ⟨a,rfl,?_⟩;rcases sq with sq |sq
  ·exact .inl ⟨⟨vs,I'.sub.sqL sq⟩,k ds _ F' H' ρ' δ' I' s' (g0m sq z) h'⟩
  ·exact .inr ⟨⟨vs,I'.sub.sqT sq⟩,k ds _ F' H' ρ' δ' I' s' (y1c sq z) h'⟩
 ·exact h'.elim
variable{a b:Expr}{ta:TA2}{p pos:Pos}
noncomputable def t2R1(ta:TA2):TI2:=fun x ρ δ q=>ta x ρ δ fun ds ρ1 δ1=>match ds with | [.int j]=>(-(2^62)≤j∧j<2^62)∧q (rngD 0 j.toNat) ρ1 δ1 |_=>False
theorem y0v(hm:X.mg "range"=none)(ha:PA2 X Y W [a] ta)(hg:Gl X "range":=by rfl)(hs:starEach [a] X.env=[(false,eval a X.env)]:=by rfl):PI2 X Y W tg (.Call (.Name "range" p) [a] [] pos) (t2R1 ta):=pi2 (h0z hg hm ha.go hs) fun σ H R ⟨F,ρ,δ,x,q,I,h,k,kx⟩=>by
 refine ⟨F,ρ,δ,x,_,I,h,fun ds vs F' H' ρ' δ' I' s' r' h'=>?_,kx⟩;split at h'
 ·rename_i j;obtain ⟨v,rfl,r1⟩:=d8 r';rw[rep_int.mp r1];exact ⟨j,rfl,h'.1.1,h'.1.2,k _ _ F' H' ρ' δ' I' s' g0l h'.2⟩
 ·exact h'.elim
noncomputable def t2R2(ta:TA2):TI2:=fun x ρ δ q=>ta x ρ δ fun ds ρ1 δ1=>match ds with | [.int i,.int j]=>(-(2^62)≤i∧i<2^62∧-(2^62)≤j∧j<2^62)∧q (rngD i (j-i).toNat) ρ1 δ1 |_=>False
theorem w0g(hm:X.mg "range"=none)(ha:PA2 X Y W [a,b] ta)(hg:Gl X "range":=by rfl)(hs:starEach [a,b] X.env=[(false,eval a X.env),(false,eval b X.env)]:=by rfl)(hs2:starEach [b] X.env=[(false,eval b X.env)]:=by rfl):
 PI2 X Y W tg (.Call (.Name "range" p) [a,b] [] pos) (t2R2 ta):=pi2 (h0y hg hm ha.go hs hs2) fun σ H R ⟨F,ρ,δ,x,q,I,h,k,kx⟩=>by
 refine ⟨F,ρ,δ,x,_,I,h,fun ds vs F' H' ρ' δ' I' s' r' h'=>?_,kx⟩;split at h'
 ·rename_i i j;obtain ⟨v,u,rfl,r1,r2⟩:=d0f r';rw[rep_int.mp r1,rep_int.mp r2];exact ⟨i,j,rfl,h'.1,k _ _ F' H' ρ' δ' I' s' g0l h'.2⟩
 ·exact h'.elim
end
noncomputable abbrev G2:=D→En→Option En
noncomputable def TgD(K:Frag)(g:TG)(g2:G2):Prop:=∀(Y:Y2) (F H:Hp) (σ:St) (ρ ρ':En) (δ:Dk) (d:D) (v:V) (Q:St→Hp→Prop),I2 K Y F H σ ρ δ→Rep K F d v→g2 d ρ=some ρ'→(∀ σ',I2 K Y F H σ' ρ' δ→Q σ' H)→g v σ H Q
noncomputable def g2N(i:Nat):G2:=fun d ρ=>some (ρ.set i (.val d))
theorem v0f{K:Frag}{i:Nat}:TgD K (m0p i) (g2N i):=fun Y F H σ ρ ρ' δ d v Q I r e k=>by cases e;exact k _ (I.put r)
noncomputable def s0o:List Nat→List D→En→Option En
 | [],[],ρ=>some ρ
 |i::is,d::ds,ρ=>s0o is ds (ρ.set i (.val d))
 |_,_,_=>none
noncomputable def g2T(is:List Nat):G2:=fun d ρ=>match d with | .tup ds=>s0o is ds ρ |_=>none
noncomputable def gAll:List Nat→TGs
 | []=>gNil
 |i::is=>gCons (m0p i) (gAll is)
theorem a0e{K:Frag}:∀{is:List Nat} {ds:List D} {vs:List V} {Y:Y2} {F H:Hp} {σ:St} {ρ ρ':En} {δ:Dk} {Q:St→Hp→Prop},I2 K Y F H σ ρ δ→Reps K F ds vs→s0o is ds ρ=some ρ'→(∀ σ',I2 K Y F H σ' ρ' δ→Q σ' H)→gAll is vs σ H Q∧vs.length=is.length
 | [],[],vs,Y,F,H,σ,ρ,ρ',δ,Q,I,r,e,k=>by cases e;rw[reps_nil.mp r];exact ⟨⟨rfl,k σ I⟩,rfl⟩
 |i::is,d::ds,vs,Y,F,H,σ,ρ,ρ',δ,Q,I,r,e,k=>by
  obtain ⟨v,l,rfl,r1,r2⟩:=reps_cons.mp r;obtain ⟨h1,h2⟩:=a0e (I.put (i:=i) r1) r2 e k;exact ⟨⟨v,l,rfl,h1⟩,by rw[List.length_cons,List.length_cons,h2]⟩
 | [],d::ds,vs,Y,F,H,σ,ρ,ρ',δ,Q,I,r,e,k=>by cases e
 |i::is,[],vs,Y,F,H,σ,ρ,ρ',δ,Q,I,r,e,k=>by cases e
theorem w0f{K:Frag}{is:List Nat}{n:Nat}(hn:is.length=n):TgD K (gTup K n (gAll is)) (g2T is):=fun Y F H σ ρ ρ' δ d v Q I r e k=>by
 unfold g2T at e;split at e
 ·rename_i ds;obtain ⟨a,vs,rfl,ea,z⟩:=rep_tup.mp r;obtain ⟨h1,h2⟩:=a0e I z e k;exact ⟨a,vs,rfl,SqT.of (I.sub _ _ ea),by rw[h2,hn],h1⟩
 ·cases e
noncomputable def forL(g:G2)(body:TS2)(E:End2):List D→En→Dk→Prop
 | [],ρ,δ=>E.nx ρ δ
 |d::ds,ρ,δ=>match g d ρ with
  |some ρ'=>body {E with nx:=forL g body E ds,ct:=forL g body E ds,bk:=E.nx} ρ' δ
  |none=>False
noncomputable def c0u(ti:TI2)(g:G2)(body:TS2):TS2:=fun E ρ δ=>ti E.xc ρ δ fun ds ρ1 δ1=>forL g body E ds ρ1 δ1
section
variable{X:Cx}{Y:Y2}{W:XW}{tg iter:Expr}{pos:Pos}
theorem x0j{body:List Stmt}{ti:TI2}{g:TG}{g2:G2}{tb:TS2}(hp:PassesOwn (model X.prog X.w) X.A X.env X.xe)(hc:X.calm=true)(hi:PI2 X Y W tg iter ti)(hg:PG X tg g)(hd:TgD X.K g g2)(hb:PSs2 X Y W body tb)
 (hs:∀x,foldedSetIterable iter X.env x=pure x:=by intro _;rfl):PS2 X Y W (.For tg iter body [] pos) (c0u ti g2 tb):=ps2 (ps_for hp hc hi.go hg hb.go hs) fun E1 σ H ⟨F,ρ,δ,E2,I,h,er⟩=>by
 refine ⟨F,ρ,δ,E2.xc,_,I,h,fun ds J F1 H1 ρ1 δ1 I1 s1 src h1=>?_,er.xc⟩;refine ⟨fun i m σ H=>∃F' ρ' δ',I2 X.K Y F' H σ ρ' δ'∧Same F1 F'∧forL g2 tb E2 (ds.drop i) ρ' δ'∧i≤ds.length∧m=ds.length-i,⟨ds.length,F1,ρ1,δ1,I1,Same.refl F1,by simpa using h1,Nat.zero_le _,by simp⟩,?_⟩;rintro i m σ' H' ⟨F',ρ',δ',I',s',h',hi,rfl⟩;cases e:ds[i]? with
 |none=>
  have hl:ds.length≤i:=List.getElem?_eq_none_iff.mp e;have ei:i=ds.length:=by omega
  subst ei;rw[List.drop_length]at h';exact .inl ⟨src.stop F' H' s' I'.sub,er.nx σ' F' H' ρ' δ' I' (s1.trans s') h'⟩
 |some d=>
  have hl:i<ds.length:=(List.getElem?_eq_some_iff.mp e).1;obtain ⟨go,yl⟩:=src.item i d F' H' e s' I'.sub;refine .inr ⟨go,fun σ2 H2=>∃F2 ρ2 δ2,I2 X.K Y F2 H2 σ2 ρ2 δ2∧Same F1 F2∧forL g2 tb E2 (ds.drop (i+1)) ρ2 δ2,fun σ2 H2 ⟨F2,ρ2,δ2,I2',s2,h2⟩=>⟨ds.length-(i+1),by omega,F2,ρ2,δ2,I2',s2,h2,hl,rfl⟩,fun x H2 y=>?_⟩;obtain ⟨F2,I2',s2,r2,_⟩:=I'.yld (yl x H2 y);have ed:ds.drop i=d::ds.drop (i+1):=by rw[List.drop_eq_getElem_cons hl];congr 1;exact (List.getElem?_eq_some_iff.mp e).2
  rw[ed]at h';unfold forL at h';split at h'
  ·rename_i ρ3 e3;refine hd Y F2 H2 σ' ρ' ρ3 δ' d x _ I2' r2 e3 fun σ3 I3=>?_
   have sa:Same F1 F2:=s'.trans s2;refine ⟨F2,ρ3,δ',_,I3,h',⟨fun σ4 F4 H4 ρ4 δ4 I4 s4 h4=>⟨F4,ρ4,δ4,I4,sa.trans s4,h4⟩,fun d v σ4 F4 H4 ρ4 δ4 I4 s4=>er.rt d v σ4 F4 H4 ρ4 δ4 I4 ((s1.trans sa).trans s4),er.xc.mono (s1.trans sa),fun σ4 F4 H4 ρ4 δ4 I4 s4 h4=>er.nx σ4 F4 H4 ρ4 δ4 I4 ((s1.trans sa).trans s4) h4,fun σ4 F4 H4 ρ4 δ4 I4 s4 h4=>⟨F4,ρ4,δ4,I4,sa.trans s4,h4⟩⟩⟩
  ·exact h'.elim
end
section
variable{K:Frag}{Y:Y2}{F H:Hp}{σ:St}{ρ:En}{δ:Dk}
theorem I2.side{D:Addr}{o:HO}(I:I2 K Y F H σ ρ δ)(hF:F D=none)(h0:Y.H₀ D=none)(hd:Off δ D)(hD:∃vs,H D=some (.lst vs))(no:∀j a,y8 ρ σ j a→a≠D):I2 K Y F (upd H D o) σ ρ δ:=by
 obtain ⟨vs,hD⟩:=hD;refine ⟨⟨fun b u e=>?_,fun b fs e=>?_,fun b u e f=>?_,I.ran.f0,I.ran.fnew,I.ran.dto⟩,fun j c e=>?_,I.len,I.apart,I.off⟩
 ·rw[j0 (d0 e hF)];exact I.sub _ _ e
 ·obtain ⟨q1,ws,q2,q3⟩:=I.ran.dk b fs e;exact ⟨q1,ws,by rw[j0 (Ne.symm (hd b fs e))];exact q2,q3⟩
 ·rw[j0 (d0 e h0)];exact I.ran.keep b u e f
 ·have w:=I.env j c e;cases c with
  |no=>trivial
  |val d=>exact w
  |own fs=>
   obtain ⟨b,ws,e1,h1,f1,g1,r1⟩:=w;exact ⟨b,ws,e1,by rw[j0 (no j b ⟨.inl ⟨fs,e⟩,m4 e1⟩)];exact h1,f1,g1,r1⟩
  |obj C fs=>
   obtain ⟨b,dx,ws,e1,es1,h1,h2,f1,f2,g1,g2,r1⟩:=w;have nd:dx≠D:=fun w=>by rw[w,hD]at h2;cases h2
   exact ⟨b,dx,ws,e1,es1,by rw[j0 (no j b ⟨.inr (.inl ⟨C,fs,e⟩),m4 e1⟩)];exact h1,by rw[j0 nd];exact h2,f1,f2,g1,g2,r1⟩
  |ownD fs=>
   obtain ⟨b,ws,e1,h1,f1,g1,r1⟩:=w;exact ⟨b,ws,e1,by rw[j0 (no j b ⟨.inr (.inr ⟨fs,e⟩),m4 e1⟩)];exact h1,f1,g1,r1⟩
theorem I2.ice{D:Addr}{vs:List V}(I:I2 K Y F H σ ρ δ)(hF:F D=none)(h0:Y.H₀ D=none)(hd:Off δ D)(hD:H D=some (.lst vs))(no:∀j a,y8 ρ σ j a→a≠D):I2 K Y (upd F D (.lst vs)) H σ ρ δ:=by
 refine ⟨⟨fun b u e=>?_,fun b fs e=>?_,I.ran.keep,fun b u e=>?_,fun b u e=>?_,I.ran.dto⟩,fun j c e=>?_,I.len,I.apart,I.off⟩
 ·by_cases z:b=D
  ·subst z;rw[l4]at e;cases e;exact hD
  ·rw[j0 z]at e;exact I.sub _ _ e
 ·obtain ⟨q1,ws,q2,q3⟩:=I.ran.dk b fs e;exact ⟨by rw[j0 (Ne.symm (hd b fs e))];exact q1,ws,q2,q3.mono (Same.new hF)⟩
 ·rw[j0 (d0 (I.ran.f0 b u e) hF)];exact I.ran.f0 b u e
 ·by_cases z:b=D
  ·subst z;exact .inr h0
  ·rw[j0 z]at e;exact I.ran.fnew b u e
 ·have w:=I.env j c e;cases c with
  |no=>trivial
  |val d=>obtain ⟨u,e1,r1⟩:=w;exact ⟨u,e1,r1.mono (Same.new hF)⟩
  |own fs=>
   obtain ⟨b,ws,e1,h1,f1,g1,r1⟩:=w;exact ⟨b,ws,e1,h1,by rw[j0 (no j b ⟨.inl ⟨fs,e⟩,m4 e1⟩)];exact f1,g1,r1.mono (Same.new hF)⟩
  |obj C fs=>
   obtain ⟨b,dx,ws,e1,es1,h1,h2,f1,f2,g1,g2,r1⟩:=w;have nd:dx≠D:=fun w=>by rw[w,hD]at h2;cases h2
   exact ⟨b,dx,ws,e1,es1,h1,h2,by rw[j0 (no j b ⟨.inr (.inl ⟨C,fs,e⟩),m4 e1⟩)];exact f1,by rw[j0 nd];exact f2,g1,g2,r1.mono (Same.new hF)⟩
  |ownD fs=>
   obtain ⟨b,ws,e1,h1,f1,g1,r1⟩:=w;exact ⟨b,ws,e1,h1,by rw[j0 (no j b ⟨.inr (.inr ⟨fs,e⟩),m4 e1⟩)];exact f1,g1,r1.mono (Same.new hF)⟩
theorem I2.ownAddr{j:Nat}{a:Addr}(I:I2 K Y F H σ ρ δ)(o:y8 ρ σ j a):∃u,H a=some u:=by
 rcases o.1 with ⟨ds,q⟩|⟨C,fs,q⟩|⟨kvs,q⟩
 rotate_left 2
 ·obtain ⟨b,us,e,hb,_⟩:=I.env j _ q;rw[o.2]at e;cases e;exact ⟨_,hb⟩
 ·obtain ⟨b,us,e,hb,_⟩:=I.env j _ q;rw[o.2]at e;cases e;exact ⟨_,hb⟩
 ·obtain ⟨b,dx,us,e,es0,hb,_⟩:=I.env j _ q;rw[o.2]at e;cases e;exact ⟨_,hb⟩
noncomputable def e9:Option Cell→Cell |some (.val d)=>.val d |_=>.no
noncomputable def capt(ρ:En)(js:List Nat):En:=js.map fun j=>e9 ρ[j]?
noncomputable def y0u(te:TE2)(js:List Nat)(ρ:En)(q:List D→Dk→Prop):List D→List D→Dk→Prop
 | [],acc,δ=>q acc δ
 |d::ds,acc,δ=>te (fun _ _ _ _=>False) (.val d::capt ρ js) δ fun e _ δ1=>acc.length<1000∧y0u te js ρ q ds (acc++[e]) δ1
end
section
variable{X:Cx}{Y:Y2}{W:XW}{x:Str}{px pos:Pos}{elt iter:Expr}{js:List Nat}{scope:Scope}{te:TE2}{ti:TI2}
noncomputable def teY(K:Frag)(te:TE2):TE:=fun σ H Q=>∃Y',upE K Y' W0 te σ H Q
variable{i:Nat}{y:Str}{py spos:Pos}
noncomputable def t2Comp(ti:TI2)(js:List Nat)(te:TE2):TE2:=fun x ρ δ q=>ti x ρ δ fun ds ρ1 δ1=>y0u te js ρ1 (fun acc δ2=>q (.lst acc) ρ1 δ2) ds [] δ1
noncomputable def t2OwnC(i:Nat)(ti:TI2)(js:List Nat)(te:TE2):TS2:=fun E ρ δ=>ti E.xc ρ δ fun ds ρ1 δ1=>y0u te js ρ1 (fun acc δ2=>E.nx (ρ1.set i (.own acc)) δ2) ds [] δ1
end
section
variable{X:Cx}{Y:Y2}{W:XW}{pos:Pos}
theorem I2.deck{K:Frag}{F H:Hp}{σ:St}{ρ:En}{p:Addr}{ds:List D}{vs:List V}(I:I2 K Y F H σ ρ none)(h:H p=none)(r:Reps K F ds vs):I2 K Y F (upd H p (.lst vs)) σ ρ (some (p,ds)):=by
 have hF:F p=none:=I.sub.free h;have h0:=I.ran.fresh h;have n0:Y.δ₀=none:=by
  cases hd:Y.δ₀ with
  |none=>rfl
  |some q=>
   obtain ⟨a,gs⟩:=q;obtain ⟨es,z⟩:=I.ran.dto.1 a gs hd;cases z
 refine ⟨⟨fun b u e=>by rw[j0 (d0 e hF)];exact I.sub _ _ e,fun a es e=>(by cases e;exact ⟨hF,vs,l4,r⟩),fun b u e f=>by rw[j0 (d0 e h0)];exact I.ran.keep b u e f,I.ran.f0,I.ran.fnew,⟨fun a gs e=>(by rw[n0]at e;cases e),fun a gs e _=>(by cases e;exact h0)⟩⟩,fun j c e=>?_,I.len,I.apart,fun j a o b es e=>?_⟩
 ·have w:=I.env j c e;cases c with
  |no=>trivial
  |val d=>exact w
  |own fs=>
   obtain ⟨b,ws,e1,h1,f1,g1,r1⟩:=w;exact ⟨b,ws,e1,by rw[j0 (d0 h1 h)];exact h1,f1,g1,r1⟩
  |obj C fs=>
   obtain ⟨b,dx,ws,e1,es1,h1,h2,f1,f2,g1,g2,r1⟩:=w;exact ⟨b,dx,ws,e1,es1,by rw[j0 (d0 h1 h)];exact h1,by rw[j0 (d0 h2 h)];exact h2,f1,f2,g1,g2,r1⟩
  |ownD fs=>
   obtain ⟨b,ws,e1,h1,f1,g1,r1⟩:=w;exact ⟨b,ws,e1,by rw[j0 (d0 h1 h)];exact h1,f1,g1,r1⟩
 ·cases e;obtain ⟨u,hu⟩:=I.ownAddr o;exact d0 hu h
noncomputable def p0z(ta:TA2):TS2:=fun E ρ δ=>ta E.xc ρ δ fun ds ρ1 δ1=>δ1=none∧ds.length≤1000∧∀p,E.rt (.ref p) (some (p,ds))
theorem c0t{es:List Expr}{ta:TA2}{lpos:Pos}(ha:PA2 X Y W es ta):PS2 X Y W (.Return (some (.List es lpos)) pos) (p0z ta):=ps2 (a0y (h0n ha.go)) fun E1 σ H ⟨F,ρ,δ,E2,I,h,er⟩=>
 ⟨F,ρ,δ,E2.xc,_,I,h,fun ds vs F1 H1 ρ1 δ1 I1 s1 r1 h1=>⟨m0j (by rw[r1.length];exact h1.2.1),fun p hp=>by
  obtain ⟨rfl,_,h2⟩:=h1;exact er.rt _ _ σ F1 _ ρ1 _ (I1.deck hp r1) s1 (rep_ref.mpr rfl) (h2 p)⟩,er.xc⟩
theorem e2_new{e:Expr}{o:HO}{d:D}(h:PE X e (fun σ H Q=>∀p,H p=none→Q (.ref p) (upd H p o)))(r:∀F p,Rep X.K (upd F p o) d (.ref p)):PE2 X Y W e (t2C d):=pe2 h fun σ H Q ⟨F,ρ,δ,x,q,I,h,k,kx⟩=>fun p hp=>
 k _ _ _ _ ρ δ (I.alloc hp) (I.grow hp) (r F p) h
noncomputable def countQ(xs:List D)(y:D):Nat:=xs.countP fun z=>eqV (toV z) (toV y)
noncomputable def y1b(ta:TE2)(t:TA2):TE2:=fun x ρ δ q=>ta x ρ δ fun d ρ1 δ1=>match d with
 | .lst xs=>t x ρ1 δ1 fun es ρ2 δ2=>(match es with | [y]=>(x8 y&&xs.all x8)=true∧q (.int (countQ xs y:Nat)) ρ2 δ2 |_=>False)
 |_=>False
end
end DL
namespace DL
open PySem PySem.Spec L2
open PySem.W (XC)
section
variable{X:Cx}{Y:Y2}{W:XW}{pos:Pos}
theorem y1a:PE2 X Y W (.Dict [] [] pos) (t2C (.dic [])):=e2_new d0u fun F p=>rep_dic.mpr ⟨p,[],rfl,l4,by unfold RepK;rfl⟩
end
section
variable(K:Frag)
open PySem.W (kitOne kitAny)
theorem ko{n:String}(h:n∈BT):kitOne K (.type n) (.type "bool")=some (n=="bool")∧kitOne K (.type n) (.type "int")=some (n=="int"||n=="bool")∧
 kitOne K (.type n) (.type "list")=some (n=="list")∧kitOne K (.type n) (.type "tuple")=some (n=="tuple")∧kitAny K (.type n) [.type "list",.type "tuple"]=some (n=="list"||n=="tuple"):=kt_all K h
theorem g0k{d:D}(h:TyD K d)(hp:∀C fs,d≠.ins C fs∧d≠.exc C fs):y0y K d (.ty "bool")=some (match d with | .bl _=>true |_=>false):=by
 cases d with
 |non=>exact (ko K (n:="NoneType") (by decide)).1
 |bl b=>exact (ko K (n:="bool") (by decide)).1
 |int b=>exact (ko K (n:="int") (by decide)).1
 |str b=>exact (ko K (n:="str") (by decide)).1
 |lst b=>exact (ko K (n:="list") (by decide)).1
 |tup b=>exact (ko K (n:="tuple") (by decide)).1
 |scr b=>exact h.elim
 |dic b=>exact (ko K (n:="dict") (by decide)).1
 |dwk b=>exact h.elim
 |ins C b=>exact absurd rfl (hp C b).1
 |exc C b=>exact absurd rfl (hp C b).2
 |ref a=>exact h.elim
 |ty a=>exact h.elim
theorem a0d{d:D}(h:TyD K d)(hp:∀C fs,d≠.ins C fs∧d≠.exc C fs):y0y K d (.ty "int")=some (match d with | .bl _=>true | .int _=>true |_=>false):=by
 cases d with
 |non=>exact (ko K (n:="NoneType") (by decide)).2.1
 |bl b=>exact (ko K (n:="bool") (by decide)).2.1
 |int b=>exact (ko K (n:="int") (by decide)).2.1
 |str b=>exact (ko K (n:="str") (by decide)).2.1
 |lst b=>exact (ko K (n:="list") (by decide)).2.1
 |tup b=>exact (ko K (n:="tuple") (by decide)).2.1
 |scr b=>exact h.elim
 |dic b=>exact (ko K (n:="dict") (by decide)).2.1
 |dwk b=>exact h.elim
 |ins C b=>exact absurd rfl (hp C b).1
 |exc C b=>exact absurd rfl (hp C b).2
 |ref a=>exact h.elim
 |ty a=>exact h.elim
theorem c0s{d:D}(h:TyD K d)(hp:∀C fs,d≠.ins C fs∧d≠.exc C fs):y0y K d (.ty "tuple")=some (match d with | .tup _=>true |_=>false):=by
 cases d with
 |non=>exact (ko K (n:="NoneType") (by decide)).2.2.2.1
 |bl b=>exact (ko K (n:="bool") (by decide)).2.2.2.1
 |int b=>exact (ko K (n:="int") (by decide)).2.2.2.1
 |str b=>exact (ko K (n:="str") (by decide)).2.2.2.1
 |lst b=>exact (ko K (n:="list") (by decide)).2.2.2.1
 |tup b=>exact (ko K (n:="tuple") (by decide)).2.2.2.1
 |scr b=>exact h.elim
 |dic b=>exact (ko K (n:="dict") (by decide)).2.2.2.1
 |dwk b=>exact h.elim
 |ins C b=>exact absurd rfl (hp C b).1
 |exc C b=>exact absurd rfl (hp C b).2
 |ref a=>exact h.elim
 |ty a=>exact h.elim
theorem ko_row{d:D}(h:TyD K d)(hp:∀C fs,d≠.ins C fs∧d≠.exc C fs):y0y K d (.tup [.ty "list",.ty "tuple"])=some (match d with | .lst _=>true | .tup _=>true |_=>false):=by
 cases d with
 |non=>exact (ko K (n:="NoneType") (by decide)).2.2.2.2
 |bl b=>exact (ko K (n:="bool") (by decide)).2.2.2.2
 |int b=>exact (ko K (n:="int") (by decide)).2.2.2.2
 |str b=>exact (ko K (n:="str") (by decide)).2.2.2.2
 |lst b=>exact (ko K (n:="list") (by decide)).2.2.2.2
 |tup b=>exact (ko K (n:="tuple") (by decide)).2.2.2.2
 |scr b=>exact h.elim
 |dic b=>exact (ko K (n:="dict") (by decide)).2.2.2.2
 |dwk b=>exact h.elim
 |ins C b=>exact absurd rfl (hp C b).1
 |exc C b=>exact absurd rfl (hp C b).2
 |ref a=>exact h.elim
 |ty a=>exact h.elim
end
noncomputable def d9:D→Bool
 | .non=>true | .bl _=>true | .int _=>true | .str _=>true | .lst _=>true | .tup _=>true | .dic _=>true |_=>false
theorem p0y{K:Frag}{d:D}(h:d9 d=true):TyD K d∧∀C fs,d≠.ins C fs∧d≠.exc C fs:=by
 cases d with
 |scr b=>cases h
 |dwk b=>cases h
 |ins C b=>cases h
 |exc C b=>cases h
 |ref a=>cases h
 |ty a=>cases h
 |_=>exact ⟨trivial,fun C fs=>⟨(by intro z;cases z),(by intro z;cases z)⟩⟩
noncomputable def a6:D→Int→Int→Bool
 | .int i,lo,hi=>decide (lo≤i)&&decide (i≤hi)
 |_,_,_=>false
end DL
namespace DL
open PySem PySem.Spec L2
section
variable{X:Cx}{Y:Y2}{W:XW}{pos:Pos}{a:Expr}{ta:TE2}
theorem c0r{x:Str}{n:Int}(hm:∃t,X.mg x=some (.int n t))(hg:Gl X x:=by rfl)(hd:(x==("__debug__":Str))=false:=by decide):PE2 X Y W (.Name x pos) (t2C (.int n)):=by
 obtain ⟨t,hm⟩:=hm;exact e2_gi hm ⟨t,rfl⟩ hg hd
theorem c0q(K:Frag){f:Str}(ha:PE2 X Y W a ta)(hK:X.K=K:=by rfl)(hb:attributeBase a f X.env (eval a X.env)=eval a X.env:=by rfl):PE2 X Y W (.Attribute a f pos) (n0y K f ta):=hK▸y1g ha hb
variable{x:Str}{p:Pos}{e:Expr}{te:TE2}
variable{D:Addr}{y n:Str}{np:Pos}{b₀:Stmt}{suite:List Stmt}{rest:List ExceptHandler}{ts:TS2}{tr:XTS2}
theorem c0p(K:Frag)(tp:Top X)(d:XHd K D)(hm:X.mg y=some (.ref D))(hs:∀x,PSs2 (X.hdl x) Y W0 (b₀::suite) ts)(hr:PH2 X Y W rest tr)(hK:X.K=K:=by rfl)(hg:Gl X y:=by rfl)(hdb:(y==("__debug__":Str))=false:=by decide):
 PH2 X Y W (.ExceptHandler (some (.Name y np)) none (b₀::suite) pos::rest) (t2H K D ts tr):=by subst hK;exact y1e tp d hm hs hr hg hdb
theorem h2_asK(K:Frag)(i:Nat)(tp:Top X)(d:XHd K D)(hm:X.mg y=some (.ref D))(hN:X.N.Nodup)(hs:∀x,PSs2 (X.hdl x) Y W0 (b₀::suite) ts)(hr:PH2 X Y W rest tr)(hK:X.K=K:=by rfl)(hi:X.N[i]?=some n:=by rfl)(hk:X.env.scope.names.lookup n=some .local:=by rfl)(hg:Gl X y:=by rfl)(hdb:(y==("__debug__":Str))=false:=by decide):
 PH2 X Y W (.ExceptHandler (some (.Name y np)) (some n) (b₀::suite) pos::rest) (i0r K i D ts tr):=by subst hK;exact h2_as i tp d hm hN hs hr hi hk hg hdb
end
end DL
namespace DL
open L2
theorem m0f{α:Type}(l:List α)(k:Nat):atI l (no_index (OfNat.ofNat k))=l[k]?:=by
 have e:(OfNat.ofNat k:Int)=((k:Nat):Int):=rfl;rw[e];unfold atI ixN;rw[if_pos (by omega)];by_cases h:k<l.length
 ·rw[if_pos (by omega)];show l[((k:Nat):Int).toNat]?=_;rw[Int.toNat_natCast]
 ·rw[if_neg (by omega),List.getElem?_eq_none (by omega)];rfl
theorem m0e(n k:Nat):ixN n (no_index (OfNat.ofNat k))=if k<n then some k else none:=by
 have e:(OfNat.ofNat k:Int)=((k:Nat):Int):=rfl;rw[e];unfold ixN;rw[if_pos (by omega)];by_cases h:k<n
 ·rw[if_pos (by omega),if_pos h,Int.toNat_natCast]
 ·rw[if_neg (by omega),if_neg h]
end DL
namespace DL
open PySem PySem.Spec L2
noncomputable def w0e(g:G2)(body:TS2)(E:End2)(rest:En→Dk→Prop)(d:D)(ρ:En)(δ:Dk):Prop:=match g d ρ with
 |some ρ'=>body {E with nx:=rest,ct:=rest,bk:=E.nx} ρ' δ
 |none=>False
theorem y0t{g:G2}{body:TS2}{E:End2}{ρ:En}{δ:Dk}{ds:List D}(P:Nat→En→Dk→Prop)(h0:P 0 ρ δ)
 (step:∀(i:Nat) (d:D) (ρ:En) (δ:Dk) (rest:En→Dk→Prop),ds[i]?=some d→P i ρ δ→(∀ ρ' δ',P (i+1) ρ' δ'→rest ρ' δ')→w0e g body E rest d ρ δ) (fin:∀ ρ δ,P ds.length ρ δ→E.nx ρ δ):forL g body E ds ρ δ:=by
 have key:∀(k i:Nat) (ρ:En) (δ:Dk),i+k=ds.length→P i ρ δ→forL g body E (ds.drop i) ρ δ:=by
  intro k
  induction k with
  |zero=>
   intro i ρ δ hi p;rw[List.drop_eq_nil_of_le (by omega)];have:i=ds.length:=by omega
   subst this;exact fin ρ δ p
  |succ k ih=>
   intro i ρ δ hi p;have hl:i<ds.length:=by omega
   rw[List.drop_eq_getElem_cons hl];have:=step i ds[i] ρ δ (forL g body E (ds.drop (i+1))) (by simp[hl]) p fun ρ' δ' p'=>ih (i+1) ρ' δ' (by omega) p'
   unfold w0e at this;unfold forL;exact this
 have:=key ds.length 0 ρ δ (by omega) h0
 rwa[List.drop_zero]at this
theorem p0x{te:TE2}{js:List Nat}{ρ:En}{q:List D→Dk→Prop}{ds:List D}{acc:List D}{δ:Dk}(P:Nat→List D→Dk→Prop)(h0:P 0 acc δ)
 (step:∀(i:Nat) (d:D) (acc:List D) (δ:Dk) (rest:List D→Dk→Prop),ds[i]?=some d→P i acc δ→(∀acc' δ',P (i+1) acc' δ'→rest acc' δ')→te (fun _ _ _ _=>False) (.val d::capt ρ js) δ fun e _ δ1=>acc.length<1000∧rest (acc++[e]) δ1)
 (fin:∀acc δ,P ds.length acc δ→q acc δ):y0u te js ρ q ds acc δ:=by
 have key:∀(k i:Nat) (acc:List D) (δ:Dk),i+k=ds.length→P i acc δ→y0u te js ρ q (ds.drop i) acc δ:=by
  intro k
  induction k with
  |zero=>
   intro i acc δ hi p;rw[List.drop_eq_nil_of_le (by omega)];have:i=ds.length:=by omega
   subst this;exact fin acc δ p
  |succ k ih=>
   intro i acc δ hi p;have hl:i<ds.length:=by omega
   rw[List.drop_eq_getElem_cons hl];unfold y0u;exact step i ds[i] acc δ (fun acc' δ'=>y0u te js ρ q (ds.drop (i+1)) acc' δ') (by simp[hl]) p fun acc' δ' p'=>ih (i+1) acc' δ' (by omega) p'
 have:=key ds.length 0 acc δ (by omega) h0
 rwa[List.drop_zero]at this
theorem n0x{K:Frag}{F:Hp}:∀ns:List Int,Reps K F (ns.map D.int) (ns.map V.int)
 | []=>Reps.nil
 |n::ns=>Reps.cons (rep_int.mpr rfl) (n0x ns)
noncomputable def i0q:Sp2:=fun ds δ q _=>∃ns:List Int,ds=[.scr (ns.map D.int)]∧ns.length≤63∧δ=none∧∀ δ',q (.bl true) δ'
theorem walk2{l:PySem.W.OpenLaw}{k:Nat}{q:Program}{loose:List Str}{XP:(Str→Option Value)→Heap→Prop}{YP:World→Heap→Prop}{d:DefRec}{K:Params→PySem.W.Frag}{x:Str}(hn:l.most=some 63)(hdf:d.params.defaults=[])(hr:Room k callerA)
 (hY:∀(w:World) (h:Heap),YP w h→(K w.params).In h)
 (F:∀(w:World) (mg:Str→Option Value) (fa:Addr) (h:Heap),(K w.params).In h→h.Ns mainGlobals mg→mg d.name=some (.ref fa)→
  ∃fd:FuncData,(∀(s:Shared) (u:Value),BindsTo s fd ⟨[u],[]⟩ [(x,u)])∧∀base:Heap,(K w.params).In base→base.Ns mainGlobals mg→FnOk l.prog w (K w.params) mg base (CX1 l.prog w) k fa fd [x] (upF (K w.params) i0q)):
 PySem.W.WalkO q loose XP YP l.row.toRowW d [] (fun f vs=>PySem.call f vs):=
 L2.walk_of (n:=63) (k:=k) (x:=x) (CX:=fun w=>CX1 l.prog w) (sp:=fun w=>upF (K w.params) i0q) hn (by decide) hdf hr hY F
  (fun w H a ns hl _ hS=>⟨H,[.scr (ns.map D.int)],none,fun d _=>d=.bl true,fun _ _ _=>False,Same.refl H,fun a ds e=>(by cases e),Reps.cons (rep_scr.mpr ⟨a,_,rfl,hS,n0x ns⟩) Reps.nil,⟨ns,rfl,hl,rfl,fun _=>rfl⟩,
   fun d v F' H' δ' R r e=>(by subst e;exact rep_bl.mp r),fun _ _ _ _ _ _ _ _ z=>z⟩)
  fun w H s e s' ⟨_,_,_,_,_,_,_,_,_,_,_,_,_,_,z⟩=>z
end DL
namespace L2
open PySem PySem.Spec PyProof.Rows
section
variable{prog:Program}{w:World}{A:Around}{E:Value→Shared→Prop}{s:Shared}
theorem nx_tup{j t:Addr}{i:Nat}{xs:Array Value}{x:Value}{Q:Value→Shared→Prop}(hj:s.heap.IsTupleIter j t i)(ht:s.heap.IsTuple t xs)(hx:xs[i]?=some x)
 (hQ:∀h',h'.IsTupleIter j t (i+1)→Heap.SameBut j s.heap h'→Q x {s with heap:=h'}):wpAny (model prog w) A (Builtin.SmallTypes.nextOf (.ref j)) Q E s:=by
 obtain ⟨o,ho,hc,hd⟩:=id hj;obtain ⟨ot,hot,_,nt,hdt⟩:=ht;unfold Builtin.SmallTypes.nextOf;refine wpAny_bind (wpAny_callSpecial?_slot (name:=Str.ofString "__next__") hj.typeIs F.slot_tuple_iterator_next (wpAny_call_entry F.slot_tuple_iterator_next hj.typeIs F.entry_tuple_iterator_next ?_ (F.args_tuple_iterator_next_1 _)));show wpAny _ _ (field (.ref j) 0 >>= _) _ _ s;refine wpAny_bind (wpAny_field ho hd (x:=.ref t) rfl ?_);show wpAny _ _ (if ((Value.ref t)==Value.none)=true then _ else _) _ _ s;rw[if_neg (show ¬(((Value.ref t)==Value.none)=true)from Bool.false_ne_true)];show wpAny _ _ (field (.ref j) 1 >>= _) _ _ s;refine wpAny_bind (wpAny_field ho hd (x:=(.int i 0)) rfl ?_);refine wpAny_bind (m:=seqItems? (.ref t)) (wpAny_seqItems hot hdt ?_);simp only[Int.toNat_natCast,hx];refine wpAny_bind (wpAny_setField ho hd (by simp) (wpAny_pure ⟨x,rfl,wpAny_pure (hQ _ ⟨_,Heap.get?_update_self _ ho (Obj.isFreed_of_fields (Obj.data_mapFields hd _)),(Obj.cls_mapFields ..).trans hc,?_⟩ (Heap.SameBut.update ..))⟩));rw[Obj.data_mapFields hd];simp[rawInt]
theorem i0p{j t:Addr}{i:Nat}{xs:Array Value}{Q:Value→Shared→Prop}(hh:A.handled=none)(hj:s.heap.IsTupleIter j t i)(ht:s.heap.IsTuple t xs)(hx:xs[i]?=none)
 (hE:∀h' e,Heap.ExtBut j s.heap h'→(∃o,h'.get? e=some o∧o.cls=.type "StopIteration")→E (.ref e) {s with heap:=h'}):wpAny (model prog w) A (Builtin.SmallTypes.nextOf (.ref j)) Q E s:=by
 obtain ⟨o,ho,hc,hd⟩:=id hj;obtain ⟨ot,hot,_,nt,hdt⟩:=ht;unfold Builtin.SmallTypes.nextOf;refine wpAny_bind (wpAny_callSpecial?_slot (name:=Str.ofString "__next__") hj.typeIs F.slot_tuple_iterator_next (wpAny_call_entry F.slot_tuple_iterator_next hj.typeIs F.entry_tuple_iterator_next ?_ (F.args_tuple_iterator_next_1 _)));show wpAny _ _ (field (.ref j) 0 >>= _) _ _ s;refine wpAny_bind (wpAny_field ho hd (x:=.ref t) rfl ?_);show wpAny _ _ (if ((Value.ref t)==Value.none)=true then _ else _) _ _ s;rw[if_neg (show ¬(((Value.ref t)==Value.none)=true)from Bool.false_ne_true)];show wpAny _ _ (field (.ref j) 1 >>= _) _ _ s;refine wpAny_bind (wpAny_field ho hd (x:=(.int i 0)) rfl ?_);refine wpAny_bind (m:=seqItems? (.ref t)) (wpAny_seqItems hot hdt ?_);simp only[Int.toNat_natCast,hx];refine wpAny_bind (wpAny_rule (wpAny_bind (wpAny_setField ho hd (by simp) (wpAny_bind ?_))));simp only[newExc,newTuple];refine wpAny_bind (wpAny_newObj_type (wpAny_bind (m:=firstArgMember _ _) (wpAny_of_eq (a:=Value.none) (by first |rfl |(simp only[firstArgMember];rfl)) (wpAny_newObj_type ?_ (by size_fits)))) (by size_fits));simp only[raiseNew];refine wpAny_bind (wpAny_handled ?_)
 first |rw[show A.in1.handled=none from hh]|rw[hh]
 exact wpAny_bind (wpAny_pure (wpAny_throw (hE _ _ (((Heap.SameBut.update ..).extBut.push _).push _) ⟨_,Heap.get?_push_size _ rfl,rfl⟩)))
end
theorem g0j{prog:Program}{w:World}{A:Around}(hh:A.handled=none)(j t:Addr)(ne:t≠j)(xs:Array Value):
 Draws prog w A j [j,t] xs.size (fun i v=>xs[i]?=some v) (fun i h=>h.IsTupleIter j t i∧h.IsTuple t xs)where
 live:=fun _ _ st=>let ⟨o,ho,_⟩:=st.1;⟨o,ho⟩
 frame:=fun _ _ _ st k=>⟨st.1.at fun o e=>k j (by simp) o e,let ⟨o,e,r⟩:=st.2;⟨o,k t (by simp) o e,r⟩⟩
 item:=fun i s Q E hi st hQ=>nx_tup st.1 st.2 (x:=xs[i]) (by simp[hi]) fun h' st' sb=>hQ _ h' s.toks (by simp[hi]) ⟨st',let ⟨o,e,r⟩:=st.2;⟨o,sb.extBut _ _ ne e,r⟩⟩ sb
 done:=fun s Q E st hE=>i0p hh st.1 st.2 (by simp) hE
noncomputable def SqAt(b:Bool)(h:Heap)(l:Addr)(xs:Array Value):Prop:=match b with |true=>h.IsTuple l xs |false=>h.IsList l xs
noncomputable def ItAt(b:Bool)(h:Heap)(j l:Addr)(i:Nat):Prop:=match b with |true=>h.IsTupleIter j l i |false=>h.IsListIter j l i
noncomputable def itN(b:Bool):String:=match b with |true=>"tuple_iterator" |false=>"list_iterator"
theorem x9(b:Bool){prog:Program}{w:World}{A:Around}(hh:A.handled=none)(j l:Addr)(ne:l≠j)(xs:Array Value):
 Draws prog w A j [j,l] xs.size (fun i v=>xs[i]?=some v) (fun i h=>ItAt b h j l i∧SqAt b h l xs):=by
 cases b
 ·exact Draws.list hh j l ne xs
 ·exact g0j hh j l ne xs
theorem ItAt.obj{b:Bool}{h:Heap}{j l:Addr}{i:Nat}(q:ItAt b h j l i):∃o,h.get? j=some o∧o.cls=.type (itN b)∧o.data=.fields #[.ref l,.int i 0]:=by
 cases b
 ·obtain ⟨o,e,c,d⟩:=q;exact ⟨o,e,c,d⟩
 ·obtain ⟨o,e,c,d⟩:=q;exact ⟨o,e,c,d⟩
theorem ItAt.of{b:Bool}{h:Heap}{j l:Addr}{i:Nat}{o:Obj}(e:h.get? j=some o)(c:o.cls=.type (itN b))(d:o.data=.fields #[.ref l,.int i 0]):ItAt b h j l i:=by
 cases b
 ·exact ⟨o,e,c,d⟩
 ·exact ⟨o,e,c,d⟩
theorem ItAt.stay{b:Bool}{h h':Heap}{j l:Addr}{i:Nat}(q:ItAt b h j l i)(k:∀o,h.get? j=some o→h'.get? j=some o):ItAt b h' j l i:=by
 obtain ⟨o,e,c,d⟩:=q.obj;exact .of (k o e) c d
theorem SqAt.obj{b:Bool}{h:Heap}{l:Addr}{xs:Array Value}(q:SqAt b h l xs):∃o,h.get? l=some o∧o.cls=.type (if b=true then "tuple" else "list")∧∃n,o.data=.seq xs n:=by
 cases b
 ·obtain ⟨o,e,c,n,d⟩:=q;exact ⟨o,e,c,n,d⟩
 ·obtain ⟨o,e,c,n,d⟩:=q;exact ⟨o,e,c,n,d⟩
theorem SqAt.stay{b:Bool}{h h':Heap}{l:Addr}{xs:Array Value}(q:SqAt b h l xs)(k:∀o,h.get? l=some o→h'.get? l=some o):SqAt b h' l xs:=by
 cases b
 ·obtain ⟨o,e,c,n,d⟩:=q;exact ⟨o,k o e,c,n,d⟩
 ·obtain ⟨o,e,c,n,d⟩:=q;exact ⟨o,k o e,c,n,d⟩
theorem s0n{b:Bool}{prog:Program}{w:World}{A:Around}{E:Value→Shared→Prop}{s:Shared}{l:Addr}{xs:Array Value}{Q:Value→Shared→Prop}(hl:SqAt b s.heap l xs)
 (h:Q (.ref s.heap.objs.size) {s with heap:=s.heap.push {cls:=.type (itN b),data:=.fields #[.ref l,.int 0 0]}}):wpAny (model prog w) A (pyIter (.ref l)) Q E s:=by
 cases b
 ·exact wpAny_pyIter_list hl h
 ·exact wpAny_pyIter_tuple hl h
end L2
namespace L2
open PySem PySem.Spec PyProof.Rows
open AutoSeq1 (wpAny_loadPart')
noncomputable abbrev enH(b:Bool)(h:Heap)(l:Addr):Heap:=h.push {cls:=.type (itN b),data:=.fields #[.ref l,.int 0 0]}
theorem g0i(l:Addr)(xs:Array Value)(n:Nat)(dct:Option Addr)(sl:Array (Option Value)):
 Meets (Builtin.«enumerate.__new__» ⟨[.type "enumerate",.ref l],[]⟩) (fun _ R s=>s.heap.get? l=some {cls:=.type "tuple",dict:=dct,data:=.seq xs n,slots:=sl}∧
  R (.ok (.ret (.ref (enH true s.heap l).objs.size))) {s with heap:=(enH true s.heap l).push {cls:=.type "enumerate",data:=.fields #[.none,.bool false,.ref s.heap.objs.size,rawInt 0,.none,.none]}}):=
 .of_wp fun prog w A R s h=>by
  obtain ⟨hp,g,d,tk,os⟩:=s;obtain ⟨hl,h⟩:=h;have hsub:=sub_enumerate;have hT:Heap.IsTuple (Shared.heap ⟨hp,g,d,tk,os⟩) l xs:=⟨_,hl,rfl,n,rfl⟩
  wp_walk using wpAny_loadPart' hl
  refine wpAny_stack_any fun st=>wpAny_pure ?_
  split
  ·rename_i c _ _ _ _ _;cases (c==Value.type "enumerate")<;>(wp_walk using wpAny_loadPart' hl,wpAny_pyIter_tuple hT;exact ⟨_,rfl,h⟩)
  ·wp_walk using wpAny_loadPart' hl,wpAny_pyIter_tuple hT
   exact ⟨_,rfl,h⟩
section
variable{prog:Program}{w:World}{A:Around}{E:Value→Shared→Prop}{s:Shared}
theorem c0o{l:Addr}{xs:Array Value}{Q:Value→Shared→Prop}(hT:s.heap.IsTuple l xs)
 (h:∀h',IsEnum h' (s.heap.objs.size+1) s.heap.objs.size 0 .none→h'.IsTupleIter s.heap.objs.size l 0→(∀b o,s.heap.get? b=some o→h'.get? b=some o)→Q (.ref (s.heap.objs.size+1)) {s with heap:=h'}):
 wpAny (model prog w) A (call (.type "enumerate") [.ref l]) Q E s:=by
 obtain ⟨⟨c,dct,dt,sl⟩,hl,hc,n,hd⟩:=hT;cases (show c=.type "tuple" from hc);cases (show dt=.seq xs n from hd);refine callType_new F.called_enumerate (by decide) (F.typeCall_enumerate_1 _) (F.newCall_enumerate_1 _) (fun obj=>F.args_object_init_2 obj _) F.entry_enumerate_new (g0i l xs n dct sl) ⟨hl,?_⟩;have hz:(enH true s.heap l).objs.size=s.heap.objs.size+1:=Heap.size_push ..;have he:=Heap.get?_push_size (enH true s.heap l) (o:={cls:=.type "enumerate",data:=.fields #[.none,.bool false,.ref s.heap.objs.size,rawInt 0,.none,.none]}) rfl;show _∧_;rw[hz]at he ⊢;exact ⟨⟨_,he,rfl⟩,h _ he ⟨_,Heap.get?_push_of_some _ (Heap.get?_push_size _ rfl),rfl,rfl⟩ fun b o x=>Heap.get?_push_of_some _ (Heap.get?_push_of_some _ x)⟩
theorem x1z{b:Bool}{l:Addr}{xs:Array Value}{Q:Value→Shared→Prop}(hq:SqAt b s.heap l xs)
 (h:∀h',IsEnum h' (s.heap.objs.size+1) s.heap.objs.size 0 .none→ItAt b h' s.heap.objs.size l 0→(∀b o,s.heap.get? b=some o→h'.get? b=some o)→Q (.ref (s.heap.objs.size+1)) {s with heap:=h'}):
 wpAny (model prog w) A (call (.type "enumerate") [.ref l]) Q E s:=by
 cases b
 ·exact call_enumerate_list hq fun h' a1 a2 _ a4=>h h' a1 a2 a4
 ·exact c0o hq fun h' a1 a2 a4=>h h' a1 a2 a4
end
noncomputable abbrev zp1(b:Bool)(h:Heap)(l:Addr):Heap:=h.push {cls:=.type (itN b),data:=.fields #[.ref l,.int 0 0]}
noncomputable abbrev zp2(b b':Bool)(h:Heap)(l l':Addr):Heap:=(zp1 b h l).push {cls:=.type (itN b'),data:=.fields #[.ref l',.int 0 0]}
noncomputable abbrev zp3(b b':Bool)(h:Heap)(l l':Addr):Heap:=(zp2 b b' h l l').push {cls:=.type "tuple",data:=.seq #[.ref h.objs.size,.ref (zp1 b h l).objs.size]}
noncomputable abbrev zp4(b b':Bool)(h:Heap)(l l':Addr):Heap:=(zp3 b b' h l l').push {cls:=.type "tuple",data:=.seq #[.none,.none]}
noncomputable abbrev zp5(b b':Bool)(h:Heap)(l l':Addr):Heap:=(zp4 b b' h l l').push {cls:=.type "zip",data:=.fields #[.none,.bool false,.bool false,.ref (zp2 b b' h l l').objs.size,.ref (zp3 b b' h l l').objs.size]}
theorem c0n(b b':Bool)(l l':Addr)(xs ys:Array Value):
 Meets (Builtin.«zip.__new__» ⟨[.type "zip",.ref l,.ref l'],[]⟩) (fun _ R s=>SqAt b s.heap l xs∧SqAt b' s.heap l' ys∧R (.ok (.ret (.ref (zp4 b b' s.heap l l').objs.size))) {s with heap:=zp5 b b' s.heap l l'}):=
 .of_wp fun prog w A R s h=>by
  obtain ⟨hp,g,d,tk,os⟩:=s;obtain ⟨h1,h2,h⟩:=h;have hsub:=sub_zip;have q1:SqAt b (Shared.heap ⟨hp,g,d,tk,os⟩) l xs:=h1;have q2:SqAt b' (Shared.heap ⟨zp1 b hp l,g,d,tk,os⟩) l' ys:=h2.stay fun o e=>Heap.get?_push_of_some _ e
  wp_walk using s0n q1,s0n q2
  exact ⟨_,rfl,h⟩
section
variable{prog:Program}{w:World}{A:Around}{E:Value→Shared→Prop}{s:Shared}
theorem x1y{b b':Bool}{l l':Addr}{xs ys:Array Value}{Q:Value→Shared→Prop}(h1:SqAt b s.heap l xs)(h2:SqAt b' s.heap l' ys)
 (h:∀h',IsZip h' (s.heap.objs.size+4) (s.heap.objs.size+2) (s.heap.objs.size+3) .none→IsPair h' (s.heap.objs.size+2) (.ref s.heap.objs.size) (.ref (s.heap.objs.size+1))→IsPair h' (s.heap.objs.size+3) .none .none→
  ItAt b h' s.heap.objs.size l 0→ItAt b' h' (s.heap.objs.size+1) l' 0→(∀c o,s.heap.get? c=some o→h'.get? c=some o)→Q (.ref (s.heap.objs.size+4)) {s with heap:=h'}):
 wpAny (model prog w) A (call (.type "zip") [.ref l,.ref l']) Q E s:=by
 refine callType_new F.called_zip (by decide) (F.typeCall_zip_2 _ _) (F.newCall_zip_2 _ _) (fun obj=>F.args_object_init_3 obj _ _) F.entry_zip_new (c0n b b' l l' xs ys) ⟨h1,h2,?_⟩;have z1:(zp1 b s.heap l).objs.size=s.heap.objs.size+1:=Heap.size_push ..;have z2:(zp2 b b' s.heap l l').objs.size=s.heap.objs.size+2:=by rw[Heap.size_push,z1]
 have z3:(zp3 b b' s.heap l l').objs.size=s.heap.objs.size+3:=by rw[Heap.size_push,z2]
 have z4:(zp4 b b' s.heap l l').objs.size=s.heap.objs.size+4:=by rw[Heap.size_push,z3]
 have u:∀{h:Heap} {o} {c u},h.get? c=some u→(h.push o).get? c=some u:=fun e=>Heap.get?_push_of_some _ e
 have g5:(zp5 b b' s.heap l l').get? (zp4 b b' s.heap l l').objs.size=some _:=Heap.get?_push_size _ rfl;have g4:(zp5 b b' s.heap l l').get? (zp3 b b' s.heap l l').objs.size=some _:=u (Heap.get?_push_size _ rfl);have g3:(zp5 b b' s.heap l l').get? (zp2 b b' s.heap l l').objs.size=some _:=u (u (Heap.get?_push_size _ rfl));have g2:(zp5 b b' s.heap l l').get? (zp1 b s.heap l).objs.size=some _:=u (u (u (Heap.get?_push_size _ rfl)));have g1:(zp5 b b' s.heap l l').get? s.heap.objs.size=some _:=u (u (u (u (Heap.get?_push_size _ rfl))));show _∧_;rw[z2,z3,z4]at g5;rw[z1,z2]at g3;rw[z3]at g4;rw[z1]at g2;rw[z4];exact ⟨⟨_,g5,rfl⟩,h _ g5 g3 g4 (.of g1 rfl rfl) (.of g2 rfl rfl) fun c o x=>u (u (u (u (u x))))⟩
structure ZA(z TI TO j1 j2:Addr):Prop where
 a:TI≠z
 b:TO≠z
 c:j1≠z
 d:j2≠z
 e:TI≠TO
 f:TI≠j1
 g:TI≠j2
 h:TO≠j1
 i:TO≠j2
 j:j1≠j2
theorem x1x{z TI TO j1 j2:Addr}{f1 f2:List Addr}{n1 n2 k:Nat}{P1 P2:Nat→Value→Prop}{S1 S2:Nat→Heap→Prop}{a0 b0:Value}{Q:Value→Shared→Prop}(D1:Draws prog w A j1 f1 n1 P1 S1)(D2:Draws prog w A j2 f2 n2 P2 S2)
 (Z:ZA z TI TO j1 j2) (o1:∀c∈f1,c≠z∧c≠TO∧c≠j2) (o2:∀c∈f2,c≠z∧c≠TO∧c≠j1)
 (hz:IsZip s.heap z TI TO .none) (hTI:IsPair s.heap TI (.ref j1) (.ref j2)) (hTO:IsPair s.heap TO a0 b0) (s1:S1 k s.heap) (s2:S2 k s.heap) (l1:k<n1) (l2:k<n2)
 (hQ:∀x y h' tk,P1 k x→P2 k y→IsZip h' z TI TO (rawInt s.heap.objs.size)→IsPair h' TO x y→S1 (k+1) h'→S2 (k+1) h'→IsPair h' s.heap.objs.size x y→
  (∀c o,c≠z→c≠TO→c≠j1→c≠j2→s.heap.get? c=some o→h'.get? c=some o)→Q (.ref s.heap.objs.size) {s with heap:=h',toks:=tk}):
 wpAny (model prog w) A (Builtin.«zip.__next__» ⟨[.ref z],[]⟩) (fun fin s'=>∃v,fin=.done (.ret v)∧Q v s') E s:=by
 obtain ⟨hp,ge,dr,tk0,os⟩:=s;show wpAny _ _ (field (.ref z) 2 >>= _) _ _ _;refine wpAny_bind (wpAny_field hz rfl (x:=.bool false) rfl ?_);show wpAny _ _ (field (.ref z) 3 >>= _) _ _ _;refine wpAny_bind (wpAny_field hz rfl (x:=.ref TI) rfl (wpAny_bind (wpAny_seqItems hTI rfl ?_)));show wpAny _ _ (Builtin.SmallTypes.ownedTupleIsFree (.ref z) >>= _) _ _ _;refine wpAny_bind ?_;unfold Builtin.SmallTypes.ownedTupleIsFree;refine wpAny_bind (wpAny_field hz rfl (x:=.none) rfl (wpAny_pure ?_));simp only[if_true];refine wpAny_bind (wpAny_rule (wpAny_bind (wpAny_field hz rfl (x:=.ref TO) rfl (wpAny_bind (wpAny_setField_rec hz (by simp) fun h₁ hz₁ hs₁=>?_)))));replace hz₁:IsZip h₁ z TI TO .ellipsis:=hz₁;replace hs₁:Heap.SameBut z hp h₁:=hs₁;refine wpAny_bind ?_;simp only[List.zipIdx_cons,List.zipIdx_nil,List.forIn_cons,List.forIn_nil];refine wpAny_bind (wpAny_bind (wpAny_onRaise ?_));show wpAny _ _ (Builtin.SmallTypes.nextOf (.ref j1) >>= _) _ _ _;have s1₁:S1 k h₁:=D1.frame _ _ _ s1 fun c hc o e=>hs₁.extBut c o (o1 c hc).1 e
 refine wpAny_bind (D1.item k ⟨h₁,ge,dr,tk0,os⟩ _ _ l1 s1₁ fun x h₂ t₂ px s1₂ hs₂=>wpAny_pure ?_);replace hs₂:Heap.SameBut j1 h₁ h₂:=hs₂;have hTO₂:IsPair h₂ TO a0 b0:=hs₂.extBut _ _ Z.h (hs₁.extBut _ _ Z.b hTO);refine wpAny_bind (wpAny_seqItems hTO₂ rfl (wpAny_bind (wpAny_updateSeq_pair hTO₂ fun h₃ hTO₃ hs₃=>?_)));replace hTO₃:IsPair h₃ TO x b0:=hTO₃;replace hs₃:Heap.SameBut TO h₂ h₃:=hs₃;refine wpAny_bind (wpAny_letGo (wpAny_pure (wpAny_bind (wpAny_bind (wpAny_onRaise ?_)))));show wpAny _ _ (Builtin.SmallTypes.nextOf (.ref j2) >>= _) _ _ _;have s2₃:S2 k h₃:=D2.frame _ _ _ s2 fun c hc o e=>hs₃.extBut c o (o2 c hc).2.1 (hs₂.extBut c o (o2 c hc).2.2 (hs₁.extBut c o (o2 c hc).1 e))
 refine wpAny_bind (D2.item k ⟨h₃,ge,dr,t₂,os⟩ _ _ l2 s2₃ fun y h₄ t₄ py s2₄ hs₄=>wpAny_pure ?_);replace hs₄:Heap.SameBut j2 h₃ h₄:=hs₄;have hTO₄:IsPair h₄ TO x b0:=hs₄.extBut _ _ Z.i hTO₃;refine wpAny_bind (wpAny_seqItems hTO₄ rfl (wpAny_bind (wpAny_updateSeq_pair hTO₄ fun h₅ hTO₅ hs₅=>?_)));replace hTO₅:IsPair h₅ TO x y:=hTO₅;replace hs₅:Heap.SameBut TO h₄ h₅:=hs₅;refine wpAny_bind (wpAny_letGo (wpAny_pure (wpAny_pure (wpAny_bind (wpAny_seqItems hTO₅ rfl (wpAny_bind (wpAny_newTuple ?_)))))));have hsz:h₅.objs.size=hp.objs.size:=by rw[hs₅.1,hs₄.1,hs₃.1,hs₂.1,hs₁.1]
 have hz₅:IsZip h₅ z TI TO .ellipsis:=hs₅.extBut _ _ Z.b.symm (hs₄.extBut _ _ Z.d.symm (hs₃.extBut _ _ Z.b.symm (hs₂.extBut _ _ Z.c.symm hz₁)));have hk₅:∀c o,c≠z→c≠TO→c≠j1→c≠j2→hp.get? c=some o→h₅.get? c=some o:=fun c o c1 c2 c3 c4 e=>
  hs₅.extBut _ _ c2 (hs₄.extBut _ _ c4 (hs₃.extBut _ _ c2 (hs₂.extBut _ _ c3 (hs₁.extBut _ _ c1 e))))
 have hzlt:z<h₅.objs.size:=Heap.lt_size hz₅;have s1₅:S1 (k+1) h₅:=D1.frame _ _ _ s1₂ fun c hc o e=>hs₅.extBut c o (o1 c hc).2.1 (hs₄.extBut c o (o1 c hc).2.2 (hs₃.extBut c o (o1 c hc).2.1 e))
 have s2₅:S2 (k+1) h₅:=D2.frame _ _ _ s2₄ fun c hc o e=>hs₅.extBut c o (o2 c hc).2.1 e
 show wpAny _ _ (Builtin.SmallTypes.ownedTupleHandOut (.ref z) (.ref h₅.objs.size) >>= _) _ _ _;refine wpAny_bind ?_;unfold Builtin.SmallTypes.ownedTupleHandOut;have hz₆:IsZip (h₅.push {cls:=.type "tuple",data:=.seq #[x,y]}) z TI TO .ellipsis:=Heap.get?_push_of_some _ hz₅;refine wpAny_bind (wpAny_setField_rec hz₆ (by simp) fun h₇ hz₇ hs₇=>?_);replace hz₇:IsZip h₇ z TI TO (rawInt h₅.objs.size):=hz₇;refine wpAny_setField_rec hz₇ (by simp) fun h₈ hz₈ hs₈=>?_
 replace hz₈:IsZip h₈ z TI TO (rawInt h₅.objs.size):=hz₈;have up:∀c o,c≠z→h₅.get? c=some o→h₈.get? c=some o:=fun c o c1 e=>hs₈.extBut _ _ c1 (hs₇.extBut _ _ c1 (Heap.get?_push_of_some _ e))
 have hT₈:IsPair h₈ h₅.objs.size x y:=hs₈.extBut _ _ (Nat.ne_of_gt hzlt) (hs₇.extBut _ _ (Nat.ne_of_gt hzlt) (Heap.get?_push_size _ rfl));rw[hsz]at hz₈ hT₈;refine wpAny_pure ⟨_,rfl,?_⟩;show Q (.ref h₅.objs.size) _;rw[hsz];exact hQ x y h₈ t₄ px py hz₈ (up _ _ Z.b hTO₅) (D1.frame _ _ _ s1₅ fun c hc o e=>up c o (o1 c hc).1 e) (D2.frame _ _ _ s2₅ fun c hc o e=>up c o (o2 c hc).1 e) hT₈ fun c o c1 c2 c3 c4 e=>up c o c1 (hk₅ c o c1 c2 c3 c4 e)
end
end L2
namespace L2
open PySem PySem.Spec PyProof.Rows
section
variable{prog:Program}{w:World}{A:Around}{E:Value→Shared→Prop}{s:Shared}
theorem zp_end{z TI TO j1 j2:Addr}{f1 f2:List Addr}{n1 n2 k:Nat}{P1 P2:Nat→Value→Prop}{S1 S2:Nat→Heap→Prop}{a0 b0:Value}{Q:Fin→Shared→Prop}(D1:Draws prog w A j1 f1 n1 P1 S1)(D2:Draws prog w A j2 f2 n2 P2 S2)
 (Z:ZA z TI TO j1 j2) (o1:∀c∈f1,c≠z∧c≠TO∧c≠j2) (o2:∀c∈f2,c≠z∧c≠TO∧c≠j1)
 (hz:IsZip s.heap z TI TO .none) (hTI:IsPair s.heap TI (.ref j1) (.ref j2)) (hTO:IsPair s.heap TO a0 b0) (s1:S1 k s.heap) (s2:S2 k s.heap) (le:k=n1∨(k<n1∧k=n2))
 (hE:∀h' e tk,(∀c o,c≠z→c≠TO→c≠j1→c≠j2→s.heap.get? c=some o→h'.get? c=some o)→(∃o,h'.get? e=some o∧o.cls=.type "StopIteration")→E (.ref e) {s with heap:=h',toks:=tk}):
 wpAny (model prog w) A (Builtin.«zip.__next__» ⟨[.ref z],[]⟩) Q E s:=by
 obtain ⟨hp,ge,dr,tk0,os⟩:=s;show wpAny _ _ (field (.ref z) 2 >>= _) _ _ _;refine wpAny_bind (wpAny_field hz rfl (x:=.bool false) rfl ?_);show wpAny _ _ (field (.ref z) 3 >>= _) _ _ _;refine wpAny_bind (wpAny_field hz rfl (x:=.ref TI) rfl (wpAny_bind (wpAny_seqItems hTI rfl ?_)));show wpAny _ _ (Builtin.SmallTypes.ownedTupleIsFree (.ref z) >>= _) _ _ _;refine wpAny_bind ?_;unfold Builtin.SmallTypes.ownedTupleIsFree;refine wpAny_bind (wpAny_field hz rfl (x:=.none) rfl (wpAny_pure ?_));simp only[if_true];refine wpAny_bind (wpAny_rule (wpAny_bind (wpAny_field hz rfl (x:=.ref TO) rfl (wpAny_bind (wpAny_setField_rec hz (by simp) fun h₁ hz₁ hs₁=>?_)))));replace hz₁:IsZip h₁ z TI TO .ellipsis:=hz₁;replace hs₁:Heap.SameBut z hp h₁:=hs₁;refine wpAny_bind ?_;simp only[List.zipIdx_cons,List.zipIdx_nil,List.forIn_cons,List.forIn_nil];refine wpAny_bind (wpAny_bind (wpAny_onRaise ?_));show wpAny _ _ (Builtin.SmallTypes.nextOf (.ref j1) >>= _) _ _ _;have s1₁:S1 k h₁:=D1.frame _ _ _ s1 fun c hc o e=>hs₁.extBut c o (o1 c hc).1 e
 rcases le with rfl |⟨l1,rfl⟩
 ·refine wpAny_bind (D1.done ⟨h₁,ge,dr,tk0,os⟩ _ _ s1₁ fun h₂ e hs₂ ⟨oe,hoe,hce⟩=>?_);replace hs₂:Heap.ExtBut j1 h₁ h₂:=hs₂;have hz₂:IsZip h₂ z TI TO .ellipsis:=hs₂ _ _ Z.c.symm hz₁;have hez:e≠z:=fun q=>by subst q;rw[hz₂]at hoe;cases hoe;simp at hce
  refine wpAny_setField_rec hz₂ (by simp) fun h₃ _ hs₃=>hE h₃ e tk0 (fun c o c1 _ c3 _ q=>hs₃.extBut _ _ c1 (hs₂ _ _ c3 (hs₁.extBut _ _ c1 q))) ⟨oe,hs₃.extBut _ _ hez hoe,hce⟩
 ·refine wpAny_bind (D1.item k ⟨h₁,ge,dr,tk0,os⟩ _ _ l1 s1₁ fun x h₂ t₂ px s1₂ hs₂=>wpAny_pure ?_);replace hs₂:Heap.SameBut j1 h₁ h₂:=hs₂;have hTO₂:IsPair h₂ TO a0 b0:=hs₂.extBut _ _ Z.h (hs₁.extBut _ _ Z.b hTO);refine wpAny_bind (wpAny_seqItems hTO₂ rfl (wpAny_bind (wpAny_updateSeq_pair hTO₂ fun h₃ hTO₃ hs₃=>?_)));replace hs₃:Heap.SameBut TO h₂ h₃:=hs₃;refine wpAny_bind (wpAny_letGo (wpAny_pure (wpAny_bind (wpAny_bind (wpAny_onRaise ?_)))));show wpAny _ _ (Builtin.SmallTypes.nextOf (.ref j2) >>= _) _ _ _;have s2₃:S2 k h₃:=D2.frame _ _ _ s2 fun c hc o e=>hs₃.extBut c o (o2 c hc).2.1 (hs₂.extBut c o (o2 c hc).2.2 (hs₁.extBut c o (o2 c hc).1 e))
  refine wpAny_bind (D2.done ⟨h₃,ge,dr,t₂,os⟩ _ _ s2₃ fun h₄ e hs₄ ⟨oe,hoe,hce⟩=>?_);replace hs₄:Heap.ExtBut j2 h₃ h₄:=hs₄;have hz₄:IsZip h₄ z TI TO .ellipsis:=hs₄ _ _ Z.d.symm (hs₃.extBut _ _ Z.b.symm (hs₂.extBut _ _ Z.c.symm hz₁));have hez:e≠z:=fun q=>by subst q;rw[hz₄]at hoe;cases hoe;simp at hce
  refine wpAny_setField_rec hz₄ (by simp) fun h₅ _ hs₅=>hE h₅ e t₂ (fun c o c1 c2 c3 c4 q=>hs₅.extBut _ _ c1 (hs₄ _ _ c4 (hs₃.extBut _ _ c2 (hs₂.extBut _ _ c3 (hs₁.extBut _ _ c1 q))))) ⟨oe,hs₅.extBut _ _ hez hoe,hce⟩
end
theorem Inv.turnedL{X:Cx}{pins:List (Addr×Obj)}{σ:List (Option V)}{H:Hp}{s:Shared}{h':Heap}{t':Nat}{ch:List Addr}(I:Inv X pins σ H s)(k:∀b o,b∉ch→s.heap.get? b=some o→h'.get? b=some o)(hf:∀b∈ch,FpOk X pins H b):
 Inv X pins σ H {s with heap:=h',toks:=t'}:=by
 have nit:∀b u,H b=some u→b∉ch:=fun b u e z=>by rw[(hf b z).1]at e;cases e
 refine I.step (g':=s.gens) (d':=s.drawn) (ch:=ch) (fun b hb=>?_) (fun b o _ _ hc e _=>k b o hc e) (fun b o _ _ hc e _=>⟨o.slots,k b o hc e⟩) (fun _ _ _ _ n=>n)
  (fun b o hc e=>⟨o,k b o hc e⟩) (fun _ _ e=>e) (fun _ _ _ e=>e) (fun b ps e=>⟨#[],by rw[e];simp⟩) (fun m hm=>?_) (fun b u e=>?_) I.bare
 ·obtain ⟨_,f1,_,f3,f4,f5⟩:=hf b hb;exact ⟨f3,f1,f4,f5⟩
 ·obtain ⟨o,es,ep,ho,r⟩:=hm;exact ⟨o,es,ep,k _ o (fun z=>(hf _ z).2.1 rfl) ho,r⟩
 ·refine (I.hok b u e).stay (fun c v hc q=>k c v ?_ q) (fun _ q=>q) fun _ _ q=>q
  rcases hc with z |z
  ·rw[z];exact nit b u e
  ·exact nit c _ z
noncomputable def Sq(K:PySem.W.Frag)(b:Bool)(H:Hp)(a:Addr)(xs:List V):Prop:=match b with |true=>SqT K H a xs |false=>SqL K H a xs
theorem Inv.sq{b:Bool}{X:Cx}{pins:List (Addr×Obj)}{σ:List (Option V)}{H:Hp}{s:Shared}{a:Addr}{xs:List V}(I:Inv X pins σ H s)(h:Sq X.K b H a xs):∃its:List Value,Vals xs its∧SqAt b s.heap a its.toArray∧xs.length≤sizeLine:=by
 cases b
 ·obtain ⟨its,r,p,z⟩:=I.list h;exact ⟨its,r,p.isList,z⟩
 ·obtain ⟨its,r,p,z⟩:=I.tuple h;exact ⟨its,r,p,z⟩
theorem Inv.sq_inj{b:Bool}{X:Cx}{pins:List (Addr×Obj)}{σ:List (Option V)}{H:Hp}{s:Shared}{a:Addr}{xs ys:List V}(I:Inv X pins σ H s)(h:Sq X.K b H a xs)(h':Sq X.K b H a ys):xs=ys:=by
 cases b
 ·exact I.list_inj h h'
 ·exact I.tuple_inj h h'
noncomputable def Itz(K:PySem.W.Frag)(b b':Bool)(a a':Addr):It:=
 ⟨fun i H=>∃xs ys x y,Sq K b H a xs∧xs[i]?=some x∧Sq K b' H a' ys∧ys[i]?=some y,
  fun i H v H'=>∃p x y,H p=none∧v=.ref p∧H'=upd H p (.tup [x,y])∧(∀xs,Sq K b H a xs→xs[i]?=some x)∧∀ys,Sq K b' H a' ys→ys[i]?=some y,
  fun i H=>∃xs ys,Sq K b H a xs∧Sq K b' H a' ys∧(xs.length=i∨(i<xs.length∧ys.length=i))⟩
noncomputable def zipT(b b':Bool)(a a' z TI TO j1 j2:Addr)(i:Nat)(h:Heap):Prop:=IsZip h z TI TO .none∧IsPair h TI (.ref j1) (.ref j2)∧(∃u v,IsPair h TO u v)∧ItAt b h j1 a i∧ItAt b' h j2 a' i
theorem c0m{P:Program}{w:World}{K:PySem.W.Frag}{elts:List Expr}{x1}{pos:Pos}(b b':Bool)(a a' z TI TO j1 j2:Addr)(Z:ZA z TI TO j1 j2)(na:a≠z∧a≠TO∧a≠j1∧a≠j2)(na':a'≠z∧a'≠TO∧a'≠j1∧a'≠j2):
 Turn P w K (.Tuple elts x1 pos) (Itz K b b' a a') [z,TI,TO,j1,j2] z (zipT b b' a a' z TI TO j1 j2)where
 mem:=by simp
 obj:=fun i h st c hc=>by
  obtain ⟨hz,hTI,⟨u,v,hTO⟩,h1,h2⟩:=st;have hc':c=z∨c=TI∨c=TO∨c=j1∨c=j2:=by simpa using hc
  rcases hc' with rfl |rfl |rfl |rfl |rfl
  ·exact ⟨_,hz,fun v q=>by simp at q⟩
  ·exact ⟨_,hTI,fun v q=>by simp at q⟩
  ·exact ⟨_,hTO,fun v q=>by simp at q⟩
  ·obtain ⟨o,e,_,d⟩:=h1.obj;exact ⟨o,e,fun v q=>by rw[d]at q;cases q⟩
  ·obtain ⟨o,e,_,d⟩:=h2.obj;exact ⟨o,e,fun v q=>by rw[d]at q;cases q⟩
 keep:=fun i h h' st k=>by
  obtain ⟨hz,hTI,⟨u,v,hTO⟩,h1,h2⟩:=st;exact ⟨k z (by simp) _ hz,k TI (by simp) _ hTI,⟨u,v,k TO (by simp) _ hTO⟩,h1.stay fun o e=>k j1 (by simp) o e,h2.stay fun o e=>k j2 (by simp) o e⟩
 item:=by
  intro X hP hw hK hc i pins s σ H E I hf st hg;subst hP hw hK;obtain ⟨xs,ys,x,y,q1,e1,q2,e2⟩:=hg;obtain ⟨its1,r1,p1,z1⟩:=I.sq q1;obtain ⟨its2,r2,p2,z2⟩:=I.sq q2;obtain ⟨u1,g1,v1⟩:=r1.get e1;obtain ⟨u2,g2,v2⟩:=r2.get e2;obtain ⟨hz,hTI,⟨u,v,hTO⟩,h1,h2⟩:=st;have l1:=(List.getElem?_eq_some_iff.mp g1).1;have l2:=(List.getElem?_eq_some_iff.mp g2).1;have hh:X.A.in1.handled=none:=I.ok.hd hc;have D1:=x9 b (prog:=X.prog) (w:=X.w) hh j1 a na.2.2.1 its1.toArray;have D2:=x9 b' (prog:=X.prog) (w:=X.w) hh j2 a' na'.2.2.2 its2.toArray;have hT:s.TypeIs (.ref z) "zip":=⟨_,hz,rfl⟩;unfold pyNext;refine wpAny_bind (wpAny_attempt (wpAny_callSpecial?_slot (name:=Str.ofString "__next__") hT F.slot_zip_next (wpAny_call_entry F.slot_zip_next hT F.entry_zip_next
   (x1x D1 D2 Z (fun c hc=>?_) (fun c hc=>?_) hz hTI hTO ⟨h1,p1⟩ ⟨h2,p2⟩ (by simpa using l1) (by simpa using l2) fun x' y' h' tk px py hz' hTO' st1 st2 hT' kk=>wpAny_pure ⟨_,rfl,?_⟩) (F.args_zip_next_1 _))))
  ·have:c=j1∨c=a:=by simpa using hc
   rcases this with rfl |rfl
   ·exact ⟨Z.c,Z.h.symm,Z.j⟩
   ·exact ⟨na.1,na.2.1,na.2.2.2⟩
  ·have:c=j2∨c=a':=by simpa using hc
   rcases this with rfl |rfl
   ·exact ⟨Z.d,Z.i.symm,Z.j.symm⟩
   ·exact ⟨na'.1,na'.2.1,na'.2.2.1⟩
  have ex:x'=u1:=by
   have px':its1.toArray[i]?=some x':=px;rw[List.getElem?_toArray,g1]at px';exact (Option.some.inj px').symm
  have ey:y'=u2:=by
   have py':its2.toArray[i]?=some y':=py;rw[List.getElem?_toArray,g2]at py';exact (Option.some.inj py').symm
  subst ex ey;refine wpAny_letOwnedTupleGo_zip (s:={s with heap:=h',toks:=tk}) hz' fun h₂ hz₂ hs₂=>?_
  replace hs₂:Heap.SameBut z h' h₂:=hs₂;have hfr:H s.heap.objs.size=none:=I.hok.fresh (Nat.le_refl _);have Il:Inv X pins σ (upd H s.heap.objs.size (.tup [x,y])) {s with heap:=s.heap.push {cls:=.type "tuple",data:=.seq #[x',y']}}:=I.laid (t':=s.toks) (fun b u e=>Heap.get?_push_of_some _ e) (Nat.le_refl _)
   ⟨by show 2≤sizeLine;decide,[x',y'],.cons v1 (.cons v2 .nil),⟨_,Heap.get?_push_size _ rfl,rfl,⟨_,rfl⟩,rfl⟩⟩
  have lt:∀{c o},s.heap.get? c=some o→c≠s.heap.objs.size:=fun e=>Nat.ne_of_lt (Heap.lt_size e)
  have nT:∀c∈[z,TI,TO,j1,j2],c≠s.heap.objs.size:=fun c hc=>by
   have hc':c=z∨c=TI∨c=TO∨c=j1∨c=j2:=by simpa using hc
   rcases hc' with rfl |rfl |rfl |rfl |rfl
   ·exact lt hz
   ·exact lt hTI
   ·exact lt hTO
   ·obtain ⟨o,e,_⟩:=h1.obj;exact lt e
   ·obtain ⟨o,e,_⟩:=h2.obj;exact lt e
  have hn2:∀c∈[z,TI,TO,j1,j2],upd H s.heap.objs.size (.tup [x,y]) c=none:=fun c hc=>by rw[j0 (nT c hc)];exact (hf c hc).1
  have If:Inv X pins σ (upd H s.heap.objs.size (.tup [x,y])) {s with heap:=h₂,toks:=tk}:=Inv.turnedL (s:={s with heap:=s.heap.push {cls:=.type "tuple",data:=.seq #[x',y']}}) (ch:=[z,TI,TO,j1,j2]) (h':=h₂) (t':=tk) Il (fun c o hc e=>by
   have hc':c≠z∧c≠TI∧c≠TO∧c≠j1∧c≠j2:=by simpa using hc
   rcases Heap.get?_push_cases e with ⟨rfl,rfl⟩|e
   ·exact hs₂.extBut _ _ hc'.1 hT'
   ·exact hs₂.extBut _ _ hc'.1 (kk c o hc'.1 hc'.2.2.1 hc'.2.2.2.1 hc'.2.2.2.2 e)) fun c hc=>⟨hn2 c hc,(hf c hc).2⟩
  refine ⟨.ref s.heap.objs.size,_,If,rfl,⟨s.heap.objs.size,x,y,hfr,rfl,rfl,fun zs hq=>by rw[I.sq_inj hq q1];exact e1,fun zs hq=>by rw[I.sq_inj hq q2];exact e2⟩,?_,hn2⟩;exact ⟨hz₂,hs₂.extBut _ _ Z.a (kk _ _ Z.a Z.e Z.f Z.g hTI),⟨_,_,hs₂.extBut _ _ Z.b hTO'⟩,st1.1.stay fun o e=>hs₂.extBut _ _ Z.c e,st2.1.stay fun o e=>hs₂.extBut _ _ Z.d e⟩
 done:=by
  intro X hP hw hK hc i pins s σ H E I hf st hg;subst hP hw hK;obtain ⟨xs,ys,q1,q2,le⟩:=hg;obtain ⟨its1,r1,p1,z1⟩:=I.sq q1;obtain ⟨its2,r2,p2,z2⟩:=I.sq q2;obtain ⟨hz,hTI,⟨u,v,hTO⟩,h1,h2⟩:=st;have hh:X.A.in1.handled=none:=I.ok.hd hc;have D1:=x9 b (prog:=X.prog) (w:=X.w) hh j1 a na.2.2.1 its1.toArray;have D2:=x9 b' (prog:=X.prog) (w:=X.w) hh j2 a' na'.2.2.2 its2.toArray;have hT:s.TypeIs (.ref z) "zip":=⟨_,hz,rfl⟩;have len1:=r1.length;have len2:=r2.length;unfold pyNext;refine wpAny_bind (wpAny_attempt (wpAny_callSpecial?_slot (name:=Str.ofString "__next__") hT F.slot_zip_next (wpAny_call_entry F.slot_zip_next hT F.entry_zip_next
   (zp_end D1 D2 Z (fun c hc=>?_) (fun c hc=>?_) hz hTI hTO ⟨h1,p1⟩ ⟨h2,p2⟩ ?_ fun h' e tk kk ⟨o,ho,hco⟩=>?_) (F.args_zip_next_1 _))))
  ·have:c=j1∨c=a:=by simpa using hc
   rcases this with rfl |rfl
   ·exact ⟨Z.c,Z.h.symm,Z.j⟩
   ·exact ⟨na.1,na.2.1,na.2.2.2⟩
  ·have:c=j2∨c=a':=by simpa using hc
   rcases this with rfl |rfl
   ·exact ⟨Z.d,Z.i.symm,Z.j.symm⟩
   ·exact ⟨na'.1,na'.2.1,na'.2.2.1⟩
  ·simp only[List.size_toArray];omega
  ·refine wpAny_bind (wpAny_isInstance (T:="StopIteration") (b:=true) ⟨o,ho,hco⟩ isSubtype_stop (wpAny_pure ⟨rfl,?_⟩));exact I.turnedL (ch:=[z,TI,TO,j1,j2]) (h':=h') (t':=tk) (fun c o hc e=>by
    have hc':c≠z∧c≠TI∧c≠TO∧c≠j1∧c≠j2:=by simpa using hc
    exact kk c o hc'.1 hc'.2.2.1 hc'.2.2.2.1 hc'.2.2.2.2 e) hf
 self:=fun A i s Q E st h=>wpAny_pyIter_zip st.1 h
end L2
namespace L2
open PySem PySem.Spec PyProof.Rows
noncomputable def Ite(K:PySem.W.Frag)(b:Bool)(a:Addr):It:=
 ⟨fun i H=>∃xs x,Sq K b H a xs∧xs[i]?=some x,
  fun i H v H'=>∃p x,H p=none∧v=.ref p∧H'=upd H p (.tup [.int i,x])∧∀xs,Sq K b H a xs→xs[i]?=some x,
  fun i H=>∃xs,Sq K b H a xs∧xs.length=i⟩
noncomputable def enumT(b:Bool)(a e j:Addr)(i:Nat)(h:Heap):Prop:=(∃old,IsEnum h e j (i:Int) old)∧ItAt b h j a i
theorem g0h{P:Program}{w:World}{K:PySem.W.Frag}{elts:List Expr}{x1}{pos:Pos}(b:Bool)(a e j:Addr)(hej:e≠j)(na:a≠e∧a≠j):
 Turn P w K (.Tuple elts x1 pos) (Ite K b a) [e,j] e (enumT b a e j)where
 mem:=by simp
 obj:=fun i h st c hc=>by
  obtain ⟨⟨old,he⟩,h1⟩:=st;have hc':c=e∨c=j:=by simpa using hc
  rcases hc' with rfl |rfl
  ·exact ⟨_,he,fun v q=>by simp at q⟩
  ·obtain ⟨o,e,_,d⟩:=h1.obj;exact ⟨o,e,fun v q=>by rw[d]at q;cases q⟩
 keep:=fun i h h' st k=>by
  obtain ⟨⟨old,he⟩,h1⟩:=st;exact ⟨⟨old,k e (by simp) _ he⟩,h1.stay fun o e=>k j (by simp) o e⟩
 item:=by
  intro X hP hw hK hc i pins s σ H E I hf st hg;subst hP hw hK;obtain ⟨xs,x,q1,e1⟩:=hg;obtain ⟨its1,r1,p1,z1⟩:=I.sq q1;obtain ⟨u1,g1,v1⟩:=r1.get e1;obtain ⟨⟨old,he⟩,h1⟩:=st;have l1:=(List.getElem?_eq_some_iff.mp g1).1;have hh:X.A.in1.handled=none:=I.ok.hd hc;have D1:=x9 b (prog:=X.prog) (w:=X.w) hh j a na.2 its1.toArray;refine wpAny_pyNext_enum_itemD D1 he ⟨h1,p1⟩ (by simpa using l1) hej (by simp[hej,na.1.symm]) fun x' h' tk px ho st1 hT' hsz kk=>⟨_,rfl,?_⟩
  have ex:x'=u1:=by
   have px':its1.toArray[i]?=some x':=px;rw[List.getElem?_toArray,g1]at px';exact (Option.some.inj px').symm
  subst ex;refine wpAny_letOwnedTupleGo_enum (s:={s with heap:=h',toks:=tk+1}) ho fun h₂ he₂ hs₂=>?_
  replace hs₂:Heap.SameBut e h' h₂:=hs₂;have hfr:H s.heap.objs.size=none:=I.hok.fresh (Nat.le_refl _);have Il:Inv X pins σ (upd H s.heap.objs.size (.tup [.int i,x])) {s with heap:=s.heap.push {cls:=.type "tuple",data:=.seq #[.int i tk,x']}}:=I.laid (t':=s.toks) (fun b u e=>Heap.get?_push_of_some _ e) (Nat.le_refl _)
   ⟨by show 2≤sizeLine;decide,[.int i tk,x'],.cons ⟨tk,rfl⟩ (.cons v1 .nil),⟨_,Heap.get?_push_size _ rfl,rfl,⟨_,rfl⟩,rfl⟩⟩
  have lt:∀{c o},s.heap.get? c=some o→c≠s.heap.objs.size:=fun e=>Nat.ne_of_lt (Heap.lt_size e)
  have nT:∀c∈[e,j],c≠s.heap.objs.size:=fun c hc=>by
   have hc':c=e∨c=j:=by simpa using hc
   rcases hc' with rfl |rfl
   ·exact lt he
   ·obtain ⟨o,e,_⟩:=h1.obj;exact lt e
  have hn2:∀c∈[e,j],upd H s.heap.objs.size (.tup [.int i,x]) c=none:=fun c hc=>by rw[j0 (nT c hc)];exact (hf c hc).1
  have If:Inv X pins σ (upd H s.heap.objs.size (.tup [.int i,x])) {s with heap:=h₂,toks:=tk+1}:=Inv.turnedL (s:={s with heap:=s.heap.push {cls:=.type "tuple",data:=.seq #[.int i tk,x']}}) (ch:=[e,j]) (h':=h₂) (t':=tk+1) Il (fun c o hc q=>by
   have hc':c≠e∧c≠j:=by simpa using hc
   rcases Heap.get?_push_cases q with ⟨rfl,rfl⟩|q
   ·exact hs₂.extBut _ _ hc'.1 hT'
   ·exact hs₂.extBut _ _ hc'.1 (kk c o hc'.1 hc'.2 q)) fun c hc=>⟨hn2 c hc,(hf c hc).2⟩
  refine ⟨.ref s.heap.objs.size,_,If,rfl,⟨s.heap.objs.size,x,hfr,rfl,rfl,fun zs hq=>by rw[I.sq_inj hq q1];exact e1⟩,?_,hn2⟩;exact ⟨⟨_,by simpa using he₂⟩,st1.1.stay fun o q=>hs₂.extBut _ _ hej.symm q⟩
 done:=by
  intro X hP hw hK hc i pins s σ H E I hf st hg;subst hP hw hK;obtain ⟨xs,q1,le⟩:=hg;obtain ⟨its1,r1,p1,z1⟩:=I.sq q1;obtain ⟨⟨old,he⟩,h1⟩:=st;have hh:X.A.in1.handled=none:=I.ok.hd hc;have D1:=x9 b (prog:=X.prog) (w:=X.w) hh j a na.2 its1.toArray;have len1:=r1.length;have en:its1.toArray.size=i:=by simp only[List.size_toArray];omega
  refine wpAny_pyNext_enum_endD D1 he ⟨by rw[en];exact h1,p1⟩ fun h' sb=>⟨rfl,?_⟩
  exact I.turnedL (ch:=[e,j]) (h':=h') (t':=s.toks) (fun c o hc q=>by
   have hc':c≠e∧c≠j:=by simpa using hc
   exact sb c o hc'.2 q) hf
 self:=fun A i s Q E st h=>let ⟨⟨_,he⟩,_⟩:=st;wpAny_pyIter_enum he h
theorem bt_zip:bootBuiltins "zip"=some (.type "zip"):=by decide +kernel
theorem t0v:bootBuiltins "enumerate"=some (.type "enumerate"):=by decide +kernel
end L2
namespace L2
open PySem PySem.Spec PyProof.Rows
theorem n0w{prog:Program}{w:World}{A:Around}{R:Result→Shared→Prop}{s:Shared}{elt target iter:Expr}{ifs:List Expr}{scope:Scope}{pos:Pos}{it acc:Value}{env:Env}(I:Nat→Shared→Prop)
 (turn:∀n s,I n s→wpAny (model prog w) A (pyNext it) (fun r s₁=>match r with
  |none=>R (.ok .next) s₁
  |some v=>wpAny (model prog w) A (letOwnedTupleGo target it v) (fun _ s₁'=>wpAny (model prog w) A (assign target env v) (fun _ s₂=>
   wpAny (model prog w) A (forIn ifs true fun c r=>if r=true then do let ok←isTrue c env (eval c env);pure (ForInStep.yield ok)else pure (ForInStep.yield r)) (fun ok s₃=>
    if ok=true then wpAny (model prog w) A (eval elt env) (fun x s₄=>wpAny (model prog w) A (call (.builtin "list.append") [acc,x]) (fun _ s₅=>∃m,m<n∧I m s₅) (fun _ _=>False) s₄) (fun _ _=>False) s₃
    else ∃m,m<n∧I m s₃) (fun _ _=>False) s₂) (fun _ _=>False) s₁') (fun _ _=>False) s₁) (fun _ _=>False) s)
 (n:Nat) (h:I n s):codeAny (model prog w) A (.compLoop (.ListComp elt [⟨target,iter,ifs,0⟩] scope pos) 0 it acc env) R s:=by
 refine codeAny_loop rfl I (fun n s hI=>?_) n h;show wpAny _ _ ((compTurn (.ListComp elt [⟨target,iter,ifs,0⟩] scope pos) 0 it acc env).onRaise (fun y=>do noteFrame y env;theTreesLotGoes y)) _ _ s;refine wpAny_noted ?_;rw[compTurn_list];refine wpAny_bind (wpAny_standAt (wpAny_bind (wpAny_mono (turn n s hI) (fun r s₁ h₁=>?_) fun _ _ z=>z.elim)));cases r with
 |none=>exact wpAny_pure h₁
 |some v=>
  refine wpAny_bind (wpAny_mono h₁ (fun _ s₁' h₁'=>?_) fun _ _ z=>z.elim);refine wpAny_bind (wpAny_mono h₁' (fun _ s₂ h₂=>wpAny_bind (wpAny_mono h₂ (fun ok s₃ h₃=>?_) fun _ _ z=>z.elim)) fun _ _ z=>z.elim);cases ok with
  |false=>exact wpAny_pure ⟨rfl,h₃⟩
  |true=>exact wpAny_bind (wpAny_bind (wpAny_mono h₃ (fun x s₄ h₄=>wpAny_bind (wpAny_mono h₄ (fun _ s₅ h₅=>wpAny_pure (wpAny_pure ⟨rfl,h₅⟩)) fun _ _ z=>z.elim)) fun _ _ z=>z.elim))
noncomputable def Cx.compM(X:Cx)(xs:List Str)(js:List Nat)(scope:Scope)(cl:List (Str×Addr))(C:Addr)(s₀:Shared)(H₀:Hp)(fp:List Addr):Cx:=
 {X with N:=xs++js.map (fun j=>X.N.getD j ""),s₀:=s₀,H₀:=H₀,env:=compEnvC scope cl C X.env,outer:=X.stack,ex:=fp,fn:=fun _=>false,pn:=[],xe:=fun _ _=>False}
noncomputable def m9(σ:St)(js:List Nat):St:=js.map fun j=>(σ[j]?).join
structure CompOkM(X:Cx)(xs:List Str)(js:List Nat)(scope:Scope):Prop where
 kind:scope.kind=.function
 cell:∀y∈scope.names,y.2≠.cell
 loc:∀y∈scope.names,y.2=.local→scope.names.lookup y.1=some .local
 free:∀y∈scope.names,y.2=.free→X.env.kindOf y.1=some .cell∨X.env.kindOf y.1=some .free
 caps:∀j∈js,scope.names.lookup (X.N.getD j "")=some .free
 nd:(xs++js.map (fun j=>X.N.getD j "")).Nodup
noncomputable def j0z(names:List (Str×NameKind))(N xs:List Str)(js:List Nat)(scope:Scope):Bool:=
 (scope.kind== .function)&&(scope.names.all fun y=>(y.2 !=.cell)&&((y.2 !=.local)||scope.names.lookup y.1==some .local)&&((y.2 !=.free)||(names.lookup y.1==some .cell||names.lookup y.1==some .free)))&&
  (js.all fun j=>scope.names.lookup (N.getD j "")==some .free)&&decide ((xs++js.map (fun j=>N.getD j "")).Nodup)
theorem CompOkM.of{X:Cx}{scope:Scope}(xs:List Str)(js:List Nat)(h:j0z X.env.scope.names X.N xs js scope=true):CompOkM X xs js scope:=by
 unfold j0z at h;simp only[Bool.and_eq_true,List.all_eq_true,beq_iff_eq,bne_iff_ne,Bool.or_eq_true,decide_eq_true_eq]at h;obtain ⟨⟨⟨h1,h2⟩,h4⟩,h5⟩:=h;refine ⟨h1,fun y hy=>(h2 y hy).1.1,fun y hy e=>?_,fun y hy e=>?_,h4,h5⟩
 ·rcases (h2 y hy).1.2 with z |z
  ·exact absurd e z
  ·exact z
 ·rcases (h2 y hy).2 with z |z
  ·exact absurd e z
  ·exact z
section
variable{X:Cx}{pins:List (Addr×Obj)}{σ:St}{H:Hp}{s:Shared}
theorem g0g{xs:List Str}{js:List Nat}{scope:Scope}{cl:List (Str×Addr)}{fp:List Addr}{h':Heap}{tk:Nat}(I:Inv X pins σ H s)(S:CompOkM X xs js scope)
 (h1:∀y c,cl.lookup y=some c→X.env.cells.lookup y=some c) (h2:∀y,(y,NameKind.free)∈scope.names→∃c,cl.lookup y=some c)
 (hf:∀b∈fp,FpOk X pins H b) (hfl:∀b∈fp,b<s.heap.objs.size)
 (hn:h'.Ns s.heap.objs.size (fun _=>none)) (hk:∀b o,s.heap.get? b=some o→h'.get? b=some o):
 Inv (X.compM xs js scope cl s.heap.objs.size s H fp) [] (List.replicate xs.length none++m9 σ js) H {s with heap:=h',toks:=tk}:=by
 have e0:=I.env0;have hfree:H s.heap.objs.size=none:=I.hok.fresh (Nat.le_refl _);refine ⟨⟨I.ok.mod,S.kind,I.ok.glob,I.ok.blt,Nat.le_refl _,fun y z c a b=>I.ok.inj y z c (h1 y c a) (h1 z c b),fun y hy=>?_,(fun y c z=>by cases z),I.ok.hd,I.ok.frames,.inl rfl,fun b hb=>⟨Nat.ne_of_lt (hfl b hb),fun y c e=>(hf b hb).2.2.2.2.1 y c (h1 y c e)⟩,
  I.bs,Nat.le_trans I.ok.bsz I.sz,fun b o e hb=>?_,fun b hb z=>?_,I.stack,I.stkFree⟩,rfl,I.bare,Un.kept hk,⟨_,hn,fun i y v e1 e2 e3=>?_⟩,fun y c e=>?_,hfree,fun y c e=>I.freeC y c (h1 y c e),(fun p hp=>by cases hp),I.hok.kept hk,?_⟩
 ·have hy:(relabel scope X.env).names.lookup y=some .cell∨(relabel scope X.env).names.lookup y=some .free:=hy;rcases hy with hy |hy
  ·exact h2 y (z0a hy (.inl rfl) S.cell)
  ·exact h2 y (z0a hy (.inr rfl) S.cell)
 ·rcases (hf b hb).2.2.2.1 with z |z
  ·exact I.ok.noex b o e z
  ·exact absurd (Nat.lt_of_lt_of_le (Heap.lt_size e) (Nat.le_trans I.ok.bsz z)) (Nat.lt_irrefl _)
 ·have z:b∈frs X.stack:=z;rcases List.mem_cons.mp (I.stkSub b z)with q |q
  ·exact (hf b hb).2.1 q
  ·exact (hf b hb).2.2.1 q
 ·have e1:(xs++js.map (fun j=>X.N.getD j ""))[i]?=some y:=e1;by_cases hi:i<xs.length
  ·rw[List.getElem?_append_left (by simpa using hi),List.getElem?_replicate,if_pos hi]at e2;cases e2
  ·rw[List.getElem?_append_right (by omega)]at e1;rw[List.getElem?_append_right (by simp;omega)]at e2;simp only[List.length_replicate]at e2;generalize i-xs.length=i at e1 e2;unfold m9 at e2;rw[List.getElem?_map]at e1 e2;cases ej:js[i]? with
   |none=>rw[ej]at e1;cases e1
   |some j=>
    rw[ej]at e1 e2;have e1:X.N.getD j ""=y:=Option.some.inj e1;have e2:(σ[j]?).join=some v:=Option.some.inj e2;have hjm:j∈js:=List.mem_of_getElem? ej;have e2':σ[j]?=some (some v):=by
     cases q:σ[j]? with
     |none=>rw[q]at e2;cases e2
     |some o=>rw[q]at e2;cases o with
      |none=>cases e2
      |some v'=>cases e2;rfl
    have hjl:j<X.N.length:=by rw[←I.len];exact (List.getElem?_eq_some_iff.mp e2').1
    have eN:X.N[j]?=some y:=by
     rw[←e1,List.getD_eq_getElem?_getD,List.getElem?_eq_getElem hjl];rfl
    have hfr:scope.names.lookup y=some .free:=by rw[←e1];exact S.caps j hjm
    have hmem:(y,NameKind.free)∈scope.names:=PySem.mem_of_lookup hfr;obtain ⟨c,hc⟩:=h2 y hmem;have hXc:=h1 y c hc;have hkd:=S.free (y,.free) hmem rfl;obtain ⟨m,hm,hl⟩:=I.loc;have hvis:Vis X.env.scope y:=by rcases hkd with q |q;exact .inr (.inl q);exact .inr (.inr q)
    obtain ⟨u,r,l⟩:=hl j y v eN e2' hvis;refine ⟨u,r,.inr ⟨o0e hfr,c,hc,?_⟩⟩;rcases l with ⟨q,_⟩|⟨q,c',q1,q2⟩
    ·rcases hkd with z |z
     ·rw[z]at q;cases q
     ·rw[z]at q;cases q
    ·rw[hXc]at q1;cases q1;obtain ⟨o,ho,hd⟩:=q2;exact ⟨o,hk _ _ ho,hd⟩
 ·obtain ⟨v,o,ho,hd⟩:=I.cell y c (h1 y c e);exact ⟨v,o,hk _ _ ho,hd⟩
 ·show (List.replicate xs.length none++m9 σ js).length=(xs++js.map (fun j=>X.N.getD j "")).length;unfold m9;simp
end
noncomputable def tgV(K:PySem.W.Frag)(tup:Bool)(n:Nat)(v:V)(H:Hp)(k:List V→Prop):Prop:=match tup with
 |false=>k [v]
 |true=>∃a ws,v=.ref a∧SqT K H a ws∧ws.length=n∧k ws
structure TgM(K:PySem.W.Frag)(tup:Bool)(n:Nat)(g:TG):Prop where
 go:∀(caps:St) (v:V) (H:Hp) (Q:St→Hp→Prop),tgV K tup n v H (fun ws=>Q (ws.map some++caps) H)→g v (List.replicate n none++caps) H Q
theorem z7{K:PySem.W.Frag}:TgM K false 1 (m0p 0):=⟨fun caps v H Q h=>h⟩
theorem n0v:∀(ws:List V) (pre post:St) (H:Hp) (Q:St→Hp→Prop),Q (pre++ws.map some++post) H→DL.gAll (List.range' pre.length ws.length) ws (pre++List.replicate ws.length none++post) H Q
 | [],pre,post,H,Q,h=>⟨rfl,by simpa using h⟩
 |w::ws,pre,post,H,Q,h=>by
  refine ⟨w,ws,rfl,?_⟩;show DL.gAll (List.range' (pre.length+1) ws.length) ws ((pre++List.replicate (w::ws).length none++post).set pre.length (some w)) H Q;have e:(pre++List.replicate (w::ws).length (none:Option V)++post).set pre.length (some w)=(pre++[some w])++List.replicate ws.length none++post:=by
   rw[List.length_cons,List.replicate_succ,List.append_assoc,List.cons_append,List.set_append_right _ _ (Nat.le_refl _)];simp
  rw[e];have:=n0v ws (pre++[some w]) post H Q (by simpa using h);simpa using this
theorem p0w{K:PySem.W.Frag}{n:Nat}{is:List Nat}(hi:is=List.range' 0 n):TgM K true n (gTup K n (DL.gAll is)):=⟨fun caps v H Q h=>by
 subst hi;obtain ⟨a,ws,rfl,q,hl,h⟩:=h;subst hl;exact ⟨a,ws,rfl,q,rfl,n0v ws [] caps H Q h⟩⟩
noncomputable def PIfs(X:Cx)(ifs:List Expr)(t:TT):Prop:=∀(pins:List (Addr×Obj)) (s:Shared) (σ:St) (H:Hp) (Q:Bool→Hp→Prop),Inv X pins σ H s→t σ H Q→
 wpAny (model X.prog X.w) X.A (forIn ifs true fun c r=>if r=true then do let ok←isTrue c X.env (eval c X.env);pure (ForInStep.yield ok)else pure (ForInStep.yield r)) (TP X pins σ Q) X.xe s
theorem c0l{X:Cx}:PIfs X [] (fun _ H Q=>Q true H):=fun pins s σ H Q I h=>wpAny_tests_nil ⟨H,I,h⟩
theorem c0k{X:Cx}{c:Expr}{t:TT}(h:PT X c t):PIfs X [c] t:=fun pins s σ H Q I q=>wpAny_tests_one (h pins s σ H Q I q)
noncomputable def g0f(K:PySem.W.Frag)(J:It)(tup:Bool)(n:Nat)(caps:St)(D:Addr)(tc:TT)(te:TE)(H1:Hp)(Q:Hp→Prop):Prop:=∃P:Nat→Nat→List V→Hp→Prop,(∃m,P 0 m [] (upd H1 D (.lst [])))∧∀i m ys H2,P i m ys H2→H2 D=some (.lst ys)∧
 ((J.stop i H2∧Q H2)∨(J.go i H2∧∀v H3,J.yld i H2 v H3→tgV K tup n v H3 fun ws=>tc (ws.map some++caps) H3 fun ok H4=>
  if ok=true then te (ws.map some++caps) H4 fun y H5=>H5 D=some (.lst ys)∧ys.length<sizeLine∧∃m',m'<m∧P (i+1) m' (ys++[y]) (upd H5 D (.lst (ys++[y])))
  else ∃m',m'<m∧P (i+1) m' ys H4))
noncomputable def g0e(K:PySem.W.Frag)(wi:TI)(tup:Bool)(n:Nat)(js:List Nat)(tc:TT)(te:TE):TE:=fun σ H Q=>wi σ H fun J H1=>∀D,H1 D=none→g0f K J tup n (m9 σ js) D tc te H1 fun H2=>Q (.ref D) H2
section
variable{X:Cx}
theorem s0m{xs:List Str}{target elt iter:Expr}{ifs:List Expr}{js:List Nat}{scope:Scope}{cl:List (Str×Addr)}{pos:Pos}{tup:Bool}{g:TG}{tc:TT}{te:TE}{J:It}{fp:List Addr}{it:Addr}{tn:Nat→Heap→Prop}{pins:List (Addr×Obj)}{σ:St}{H1:Hp}{s1:Shared}
 {Q:V→Hp→Prop} {RR:Value→Addr→Result→Shared→Prop} {E:Value→Shared→Prop} (hc:X.calm=true) (S:CompOkM X xs js scope)
 (hg:∀C s₀ H₀ fp cl,PG (X.compM xs js scope cl C s₀ H₀ fp) target g) (gm:TgM X.K tup xs.length g) (ht:∀C s₀ H₀ fp cl,PIfs (X.compM xs js scope cl C s₀ H₀ fp) ifs tc)
 (he:∀C s₀ H₀ fp cl,PE (X.compM xs js scope cl C s₀ H₀ fp) elt te)
 (h1:∀y c,cl.lookup y=some c→X.env.cells.lookup y=some c) (h2:∀y,(y,NameKind.free)∈scope.names→∃c,cl.lookup y=some c)
 (I:Inv X pins σ H1 s1) (T:Turn X.prog X.w X.K target J fp it tn) (st:tn 0 s1.heap) (hf:∀b∈fp,FpOk X pins H1 b)
 (q:∀D,H1 D=none→g0f X.K J tup xs.length (m9 σ js) D tc te H1 fun H2=>Q (.ref D) H2)
 (hRR:∀D C H' s',Inv X pins σ H' s'→Loose X pins H' C→(∃m,s'.heap.Ns C m)→Q (.ref D) H'→RR (.ref D) C (.ok .next) s'):
 wpAny (model X.prog X.w) X.A (newList []) (fun acc s₃=>wpAny (model X.prog X.w) X.A (newFunctionEnv scope X.env.globals cl [] X.env.qual none .none (some X.env)) (fun cenv s₄=>
  codeAny (model X.prog X.w) X.A (.compStart (.ListComp elt [⟨target,iter,ifs,0⟩] scope pos) 0 (.ref it) acc {cenv with scope:=relabel scope X.env}) (RR acc cenv.locals) s₄) E s₃) E s1:=by
 have hfr:H1 s1.heap.objs.size=none:=I.hok.fresh (Nat.le_refl _);refine wpAny_newObj_type (wpAny_newFunctionEnv S.cell (by intro y hy;simp at hy) (fun h₁ hns₁ hsb₁=>?_) S.kind);dsimp only at hns₁ hsb₁ ⊢;have I3:=I.laid (a:=s1.heap.objs.size) (o:=.lst []) (h':=s1.heap.push {cls:=.type "list",dict:=none,data:=.seq ([]:List Value).toArray}) (t':=s1.toks) (fun b u e=>Heap.get?_push_of_some _ e) (Nat.le_refl _)
  ⟨by simp,[],0,.nil,Heap.get?_push_size _ rfl⟩
 generalize hD:s1.heap.objs.size=D at*
 generalize hH2:s1.heap.push {cls:=.type "list",dict:=none,data:=.seq ([]:List Value).toArray}=G at*
 have hGD:G.objs.size=D+1:=by rw[←hH2,Heap.size_push,hD]
 have hkG:∀b o,G.get? b=some o→h₁.get? b=some o:=fun b o e=>hsb₁.extBut b o (Nat.ne_of_lt (Heap.lt_size e)) (Heap.get?_push_of_some _ e)
 have hold:∀b o,s1.heap.get? b=some o→h₁.get? b=some o:=fun b o e=>hkG b o (by rw[←hH2];exact Heap.get?_push_of_some _ e)
 have hfpl:∀b∈fp,b<s1.heap.objs.size:=fun b hb=>by obtain ⟨o,e,_⟩:=T.obj _ _ st b hb;exact Heap.lt_size e
 have hf3:∀b∈fp,FpOk X pins (upd H1 D (.lst [])) b:=fun b hb=>⟨by rw[j0 (by rw[←hD];exact Nat.ne_of_lt (hfpl b hb))];exact (hf b hb).1,(hf b hb).2⟩
 have IC:=g0g (xs:=xs) (js:=js) (scope:=scope) (cl:=cl) (fp:=fp) (h':=h₁) (tk:=s1.toks+([]:List (Str×Value)).length) I3 S h1 h2 hf3 (fun b hb=>Nat.lt_of_lt_of_le (hfpl b hb) (by show s1.heap.objs.size≤G.objs.size;rw[hGD,hD];exact Nat.le_succ _)) hns₁ hkG;obtain ⟨P,⟨m0,p0⟩,turn⟩:=q D hfr;have loop:∀s':Shared,s'={s1 with heap:=h₁,toks:=s1.toks+([]:List (Str×Value)).length}→
  codeAny (model X.prog X.w) X.A (.compLoop (.ListComp elt [⟨target,iter,ifs,0⟩] scope pos) 0 (.ref it) (.ref D) (compEnvC scope cl G.objs.size X.env)) (RR (.ref D) G.objs.size) s':=by
  rintro s' rfl;refine n0w (fun n s'=>∃i ys H',Inv (X.compM xs js scope cl G.objs.size {s1 with heap:=G} (upd H1 D (.lst [])) fp) [] (List.replicate xs.length none++m9 σ js) H' s'∧tn i s'.heap∧(∀b∈fp,H' b=none)∧P i n ys H') ?_ m0 ⟨0,[],_,IC,T.keep _ _ _ st fun b hb o e=>hold b o e,fun b hb=>(hf3 b hb).1,p0⟩;rintro n s3 ⟨i,ys,H3,J3,st3,fr3,p3⟩;obtain ⟨hD3,tr⟩:=turn i n ys H3 p3;have stat:∀{H':Hp} {s':Shared} {σ':St},Inv (X.compM xs js scope cl G.objs.size {s1 with heap:=G} (upd H1 D (.lst [])) fp) [] σ' H' s'→(∀b∈fp,H' b=none)→∀b∈fp,FpOk (X.compM xs js scope cl G.objs.size {s1 with heap:=G} (upd H1 D (.lst [])) fp) [] H' b:=
   fun {H' s' σ'} JJ hn b hb=>⟨hn b hb,(JJ.ok.exf b hb).1,JJ.ok.exfs b hb,.inl hb,(JJ.ok.exf b hb).2,fun p hp=>by cases hp⟩
  rcases tr with ⟨stop,qn⟩|⟨go,step⟩
  ·refine wpAny_mono (T.done (X.compM xs js scope cl G.objs.size {s1 with heap:=G} (upd H1 D (.lst [])) fp) rfl rfl rfl hc i [] s3 _ H3 (fun _ _=>False) J3 (stat J3 fr3) st3 stop) (fun r s4 ⟨hr,J4⟩=>?_) fun _ _ z=>z
   subst hr;have I4:Inv X pins σ H3 s4:=by
    refine I3.call' (ch:=fp) (s':=s4) J4.os J4.base J4.hok J4.bare fun b hb=>?_
    obtain ⟨_,f1,f2,f3,f4,f5⟩:=hf3 b hb;exact ⟨f3,f1,f4,f5⟩
   refine hRR D G.objs.size H3 s4 I4 ⟨J4.free,?_,?_,?_,?_⟩ (let ⟨m,hm,_⟩:=J4.loc;⟨m,hm⟩) qn
   ·exact Nat.ne_of_gt I3.lt
   ·exact I3.sz
   ·exact fun y c e=>by obtain ⟨v,z⟩:=I3.cell y c e;exact Nat.ne_of_lt z.lt
   ·exact fun p hp=>Nat.ne_of_lt (Heap.lt_size (I3.pin p hp).1)
  ·refine wpAny_mono (T.item (X.compM xs js scope cl G.objs.size {s1 with heap:=G} (upd H1 D (.lst [])) fp) rfl rfl rfl hc i [] s3 _ H3 (fun _ _=>False) J3 (stat J3 fr3) st3 go) (fun r s4 ⟨u,hr,h4⟩=>?_) fun _ _ z=>z
   subst hr;refine wpAny_mono h4 (fun _ s5 ⟨v,H5,J5,r5,y5,st5,fr5⟩=>?_) fun _ _ z=>z
   have J5':=J5.pinned (stat J5 fr5) (T.obj _ _ st5);have back:∀{ws:List V} {H':Hp} {s':Shared} {pp},Inv (X.compM xs js scope cl G.objs.size {s1 with heap:=G} (upd H1 D (.lst [])) fp) pp (ws.map some++m9 σ js) H' s'→Inv (X.compM xs js scope cl G.objs.size {s1 with heap:=G} (upd H1 D (.lst [])) fp) pp (List.replicate xs.length none++m9 σ js) H' s':=
    fun {ws H' s' pp} JJ=>by
     have hl:(ws.map some++m9 σ js).length=(List.replicate xs.length none++m9 σ js).length:=by rw[JJ.len,← J3.len]
     have hw:ws.length=xs.length:=by simpa using hl
     refine JJ.weak hl.symm fun k v e=>?_
     by_cases hk:k<xs.length
     ·rw[List.getElem?_append_left (by simpa using hk),List.getElem?_replicate,if_pos hk]at e;cases e
     ·rw[List.getElem?_append_right (by simp;omega)]at e ⊢;simpa[hw]using e
   have seen:∀{H':Hp} {s':Shared} {σ':St},Inv (X.compM xs js scope cl G.objs.size {s1 with heap:=G} (upd H1 D (.lst [])) fp) ([]++o0s fp s5.heap) σ' H' s'→tn (i+1) s'.heap∧∀b∈fp,H' b=none:=fun {H' s' σ'} JJ=>by
    refine ⟨T.keep _ _ _ st5 fun b hb o e=>(JJ.pin (b,o) (List.mem_append_right _ (List.mem_append_right _ (y0f hb e)))).1,fun b hb=>?_⟩;obtain ⟨o,e,d⟩:=T.obj _ _ st5 b hb;exact (JJ.pin (b,o) (List.mem_append_right _ (List.mem_append_right _ (y0f hb e)))).2.1
   have st5':=step v H5 y5;refine wpAny_mono (hg G.objs.size {s1 with heap:=G} (upd H1 D (.lst [])) fp cl _ s5 _ H5 v u (fun σ' H'=>∃ws:List V,σ'=ws.map some++m9 σ js∧H'=H5∧tc (ws.map some++m9 σ js) H5 fun ok H4=>
    if ok=true then te (ws.map some++m9 σ js) H4 fun y H5=>H5 D=some (.lst ys)∧ys.length<sizeLine∧∃m',m'<n∧P (i+1) m' (ys++[y]) (upd H5 D (.lst (ys++[y])))else ∃m',m'<n∧P (i+1) m' ys H4) J5' r5 (gm.go _ _ _ _ ?_)) (fun _ s6 ⟨σ6,H6,J6,ws,e1,e2,h6⟩=>?_) fun _ _ z=>z
   ·unfold tgV at st5' ⊢;cases tup
    ·exact ⟨_,rfl,rfl,st5'⟩
    ·obtain ⟨a,ws,z1,z2,z3,z4⟩:=st5';exact ⟨a,ws,z1,z2,z3,ws,rfl,rfl,z4⟩
   subst e1 e2;refine wpAny_mono (ht G.objs.size {s1 with heap:=G} (upd H1 D (.lst [])) fp cl _ s6 _ _ _ J6 h6) (fun ok s7 ⟨H7,J7,q7⟩=>?_) fun _ _ z=>z
   cases ok with
   |false=>
    rw[if_neg Bool.false_ne_true]at q7 ⊢;obtain ⟨m',hm',p7⟩:=q7;obtain ⟨w1,w2⟩:=seen J7;exact ⟨m',hm',i+1,ys,H7,back J7.unpinned,w1,w2,p7⟩
   |true=>
    rw[if_pos rfl]at q7 ⊢;refine wpAny_mono (he G.objs.size {s1 with heap:=G} (upd H1 D (.lst [])) fp cl _ s7 _ H7 _ J7 q7) (fun y s8 ⟨yv,H8,J8,ry,hD8,hz8,m',hm',p8⟩=>?_) fun _ _ z=>z
    obtain ⟨z,its,nn,r,hl,e⟩:=J8.lstM hD8;refine call_meets F.slot_list_append ⟨_,e,rfl⟩ F.entry_list_append (F.args_list_append_2 _ _) (PySem.list_append D its.toArray nn y (by rw[List.size_toArray];omega)) ⟨e,?_⟩;have J9:=J8.lset (its':=its++[y]) (t':=s8.toks) hD8 e (f:=fun xs=>xs.push y) (by simp) (r.append (.cons ry .nil)) (by rw[List.length_append,List.length_singleton];omega);obtain ⟨w1,w2⟩:=seen J9;exact ⟨m',hm',i+1,ys++[yv],_,back J9.unpinned,w1,w2,p8⟩
 exact codeAny_compStart_list (loop _ rfl) (T.self X.A 0 _ _ _ (T.keep _ _ _ st fun b hb o e=>hold b o e) (loop _ rfl))
theorem c0j{xs:List Str}{target elt iter:Expr}{ifs:List Expr}{js:List Nat}{scope:Scope}{pos:Pos}{tup:Bool}{g:TG}{tc:TT}{te:TE}{wi:TI}(hc:X.calm=true)(S:CompOkM X xs js scope)(hi:PI X target iter wi)
 (hg:∀C s₀ H₀ fp cl,PG (X.compM xs js scope cl C s₀ H₀ fp) target g) (gm:TgM X.K tup xs.length g) (ht:∀C s₀ H₀ fp cl,PIfs (X.compM xs js scope cl C s₀ H₀ fp) ifs tc)
 (he:∀C s₀ H₀ fp cl,PE (X.compM xs js scope cl C s₀ H₀ fp) elt te) (hs:∀v,foldedSetIterable iter X.env v=pure v:=by intro _;rfl):
 PE X (.ListComp elt [⟨target,iter,ifs,0⟩] scope pos) (g0e X.K wi tup xs.length js tc te):=by
 intro pins s σ H Q I h;obtain ⟨cl,c0,c1,c2⟩:=r0b (scope:=scope) (env:=X.env) fun p hp hk=>I.ok.has p.1 (S.free p hp hk)
 rw[eval_ListComp];refine wpAny_comprehension_free (use:=none) rfl hs c0 S.kind S.loc (thn (hi pins s σ H _ I h) fun xv s₁ h₁=>thn h₁ fun itv s₂ h₂=>?_);obtain ⟨it,fp,tn,J,H',rfl,I2,T,st,hf,q⟩:=h₂;refine s0m (RR:=fun acc C=>compPost (model X.prog X.w) X.A X.xe none (EP X pins σ Q) acc C) hc S hg gm ht he c1 c2 I2 T st hf q ?_;rintro D C H' s' I' L ⟨m,hm⟩ qq;refine ⟨m,hm,fun h' hs'=>⟨.ref D,H',?_,rfl,qq⟩⟩;exact I'.turned (t':=s'.toks) (it:=C) (fun b o hb e=>hs'.extBut b o hb e) L.free L.ne (.inr L.yng) L.cell L.pin
theorem c0i{i:Nat}{y:Str}{py:Pos}{xs:List Str}{target elt iter:Expr}{ifs:List Expr}{js:List Nat}{scope:Scope}{pos spos:Pos}{tup:Bool}{g:TG}{tc:TT}{te:TE}{wi:TI}(hc:X.calm=true)(S:CompOkM X xs js scope)(hi:PI X target iter wi)
 (hg:∀C s₀ H₀ fp cl,PG (X.compM xs js scope cl C s₀ H₀ fp) target g) (gm:TgM X.K tup xs.length g) (ht:∀C s₀ H₀ fp cl,PIfs (X.compM xs js scope cl C s₀ H₀ fp) ifs tc)
 (he:∀C s₀ H₀ fp cl,PE (X.compM xs js scope cl C s₀ H₀ fp) elt te) (hN:X.N.Nodup) (hy:X.N[i]?=some y) (hl:Loc X.env.scope y)
 (hsw:swapsWith (.ListComp elt [⟨target,iter,ifs,0⟩] scope pos) (some (.Name y py)) spos.line X.env=pure true)
 (hs:∀v,foldedSetIterable iter X.env v=pure v:=by intro _;rfl) (hfn:X.fn y=true∨X.env.scope.names.lookup y=some .local:=by first |exact .inl rfl |exact .inr rfl |assumption):
 PS X (.Assign [.Name y py] (.ListComp elt [⟨target,iter,ifs,0⟩] scope pos) spos) (tAsg (g0e X.K wi tup xs.length js tc te) (m0p i)):=by
 intro pins s σ H D I h;obtain ⟨cl,c0,c1,c2⟩:=r0b (scope:=scope) (env:=X.env) fun p hp hk=>I.ok.has p.1 (S.free p hp hk)
 rw[exec_Assign_Name_used _ _ _ _ hsw];refine wpAny_bind (wpAny_standAt (wpAny_bind ?_));show wpAny _ _ (do let _←comprehension (.ListComp elt [⟨target,iter,ifs,0⟩] scope pos) scope X.env _ (newList []) false (eval iter X.env) (some (assign (.Name y py) X.env))) _ _ s;refine wpAny_bind (wpAny_mono (wpAny_comprehension_free (use:=some (assign (.Name y py) X.env)) (Q:=fun _ s'=>SP X pins D .next s') rfl hs c0 S.kind S.loc
  (thn (hi pins s σ H _ I h) fun xv s₁ h₁=>thn h₁ fun itv s₂ h₂=>?_)) (fun _ s' hq=>wpAny_pure (wpAny_pure hq)) fun _ _ e=>e)
 obtain ⟨it,fp,tn,J,H',rfl,I2,T,st,hf,q⟩:=h₂;refine s0m (Q:=fun v H1=>m0p i v σ H1 D.nx) (RR:=fun acc C=>compPost (model X.prog X.w) X.A X.xe (some (assign (.Name y py) X.env)) (fun _ s'=>SP X pins D .next s') acc C) hc S hg gm ht he c1 c2 I2 T st hf q ?_;rintro E C H' s' I' L ⟨m,hm⟩ qq;show wpAny _ _ (assign (.Name y py) X.env (.ref E)) _ _ _;refine wpAny_assign_Name (o0u (v:=.ref E) I' hN hy hl rfl (fun s2 I2 ⟨a,sb,ha⟩=>?_) hfn);have nca:C≠a:=by
  rcases ha with z |z
  ·rw[z];exact L.ne
  ·exact (L.cell y a z).symm
 refine ⟨m,hm.sameBut sb nca,fun h' hs'=>⟨_,H',?_,qq⟩⟩;exact I2.turned (t':=s2.toks) (it:=C) (fun b o hb e=>hs'.extBut b o hb e) L.free L.ne (.inr L.yng) L.cell L.pin
end
section
variable{X:Cx}{elts:List Expr}{x1:Nat}{tpos:Pos}
noncomputable def iZip(K:PySem.W.Frag)(ta:TA):TI:=fun σ H R=>ta σ H fun vs H1=>∃a a' b b',vs=[.ref a,.ref a']∧(∃xs,Sq K b H1 a xs)∧(∃ys,Sq K b' H1 a' ys)∧R (Itz K b b' a a') H1
theorem pi_zip{a b:Expr}{ta:TA}{p pos:Pos}(hg:Gl X "zip")(hm:X.mg "zip"=none)(ha:PA X [a,b] ta)(hs:starEach [a,b] X.env=[(false,eval a X.env),(false,eval b X.env)]:=by rfl)(hs2:starEach [b] X.env=[(false,eval b X.env)]:=by rfl):
 PI X (.Tuple elts x1 tpos) (.Call (.Name "zip" p) [a,b] [] pos) (iZip X.K ta):=by
 intro pins s σ H R I h;refine Call_ (t0z I hg hm bt_zip (PyProof.Rows.callWith_type1 (thn (ha pos pins s σ H _ I h) fun us s1 ⟨vs,H1,I1,r1,q1⟩=>?_) (by rw[hs,hs2]) (by rw[hs2];rfl)));obtain ⟨a1,a2,b1,b2,e,⟨xs,k1⟩,⟨ys,k2⟩,q⟩:=q1;subst e;cases r1 with
 |cons r rr=>
  cases rr with
  |cons r' rr=>
   cases rr;cases r;cases r';obtain ⟨its1,v1,p1,z1⟩:=I1.sq k1;obtain ⟨its2,v2,p2,z2⟩:=I1.sq k2;have l1:a1<s1.heap.objs.size:=by obtain ⟨o,e,_⟩:=p1.obj;exact Heap.lt_size e
   have l2:a2<s1.heap.objs.size:=by obtain ⟨o,e,_⟩:=p2.obj;exact Heap.lt_size e
   refine x1y p1 p2 fun h' hz hTI hTO i1 i2 kk=>wpAny_pyIter_zip (s:={s1 with heap:=h'}) hz ?_
   have ne:∀{c k:Nat},c<s1.heap.objs.size→c≠s1.heap.objs.size+k:=fun h z=>by omega
   have ap:∀{k l:Nat},k≠l→s1.heap.objs.size+k≠s1.heap.objs.size+l:=fun h z=>h (by omega)
   have ap0:∀{l:Nat},l≠0→s1.heap.objs.size≠s1.heap.objs.size+l:=fun h z=>h (by omega)
   refine ⟨_,[s1.heap.objs.size+4,s1.heap.objs.size+2,s1.heap.objs.size+3,s1.heap.objs.size,s1.heap.objs.size+1],_,_,H1,rfl,I1.kept (t':=s1.toks) kk,c0m b1 b2 a1 a2 _ _ _ _ _ ⟨ap (by decide),ap (by decide),ap0 (by decide),ap (by decide),ap (by decide),(ap0 (by decide)).symm,ap (by decide),(ap0 (by decide)).symm,ap (by decide),ap0 (by decide)⟩
    ⟨ne l1,ne l1,Nat.ne_of_lt l1,ne l1⟩ ⟨ne l2,ne l2,Nat.ne_of_lt l2,ne l2⟩,⟨hz,hTI,⟨_,_,hTO⟩,i1,i2⟩,fun c hc=>?_,q⟩
   have hle:s1.heap.objs.size≤c:=by
    have hc':c=s1.heap.objs.size+4∨c=s1.heap.objs.size+2∨c=s1.heap.objs.size+3∨c=s1.heap.objs.size∨c=s1.heap.objs.size+1:=by simpa using hc
    rcases hc' with e |e |e |e |e<;>(rw[e];omega)
   exact I1.fpOk hle (I1.hok.fresh hle)
noncomputable def iEnu(K:PySem.W.Frag)(ta:TA):TI:=fun σ H R=>ta σ H fun vs H1=>∃a b,vs=[.ref a]∧(∃xs,Sq K b H1 a xs)∧R (Ite K b a) H1
theorem x1w{a:Expr}{ta:TA}{p pos:Pos}(hg:Gl X "enumerate")(hm:X.mg "enumerate"=none)(ha:PA X [a] ta)(hs:starEach [a] X.env=[(false,eval a X.env)]:=by rfl):
 PI X (.Tuple elts x1 tpos) (.Call (.Name "enumerate" p) [a] [] pos) (iEnu X.K ta):=by
 intro pins s σ H R I h;refine Call_ (t0z I hg hm t0v (PyProof.Rows.callWith_type1 (thn (ha pos pins s σ H _ I h) fun us s1 ⟨vs,H1,I1,r1,q1⟩=>?_) hs rfl));obtain ⟨a1,b1,e,⟨xs,k1⟩,q⟩:=q1;subst e;cases r1 with
 |cons r rr=>
  cases rr;cases r;obtain ⟨its1,v1,p1,z1⟩:=I1.sq k1;have l1:a1<s1.heap.objs.size:=by obtain ⟨o,e,_⟩:=p1.obj;exact Heap.lt_size e
  refine x1z p1 fun h' he i1 kk=>wpAny_pyIter_enum (s:={s1 with heap:=h'}) he ?_
  refine ⟨_,[s1.heap.objs.size+1,s1.heap.objs.size],_,_,H1,rfl,I1.kept (t':=s1.toks) kk,g0h b1 a1 _ _ (Nat.succ_ne_self _) ⟨Nat.ne_of_lt (Nat.lt_succ_of_lt l1),Nat.ne_of_lt l1⟩,⟨⟨_,he⟩,i1⟩,fun c hc=>?_,q⟩;have hle:s1.heap.objs.size≤c:=by
   have hc':c=s1.heap.objs.size+1∨c=s1.heap.objs.size:=by simpa using hc
   rcases hc' with e |e<;>(rw[e];omega)
  exact I1.fpOk hle (I1.hok.fresh hle)
end
end L2
namespace L2
open PySem PySem.Spec PyProof.Rows
section
variable{X:Cx}
noncomputable def rCatA(K:PySem.W.Frag):R2:=fun x y H Q=>∃a b xs ys,x=.ref a∧y=.ref b∧SqT K H a xs∧SqT K H b ys∧xs.length+ys.length≤sizeLine∧
 (xs=[]→Q (.ref b) H)∧(xs≠[]→ys=[]→Q (.ref a) H)∧(xs≠[]→ys≠[]→∀p,H p=none→Q (.ref p) (upd H p (.tup (xs++ys))))
theorem x1v:OpR X (binaryOp .Add) (rCatA X.K):=by
 intro pins s σ H x y v u Q I rx ry h;obtain ⟨a,b,xs,ys,rfl,rfl,ha,hb,hz,q0,q1,q2⟩:=h;by_cases hx:xs=[]
 ·cases rx;cases ry;obtain ⟨its,r1,p1,_⟩:=I.tuple ha;obtain ⟨its2,r2,p2,_⟩:=I.tuple hb;have hv:its=[]:=r1.nil_iff.mpr hx;obtain ⟨⟨cls,dd,data,sl⟩,ho,hc,n,hd⟩:=id p1;obtain ⟨⟨cls2,dd2,data2,sl2⟩,ho2,hc2,n2,hd2⟩:=id p2;simp only at hc hd hc2 hd2;subst hc hd hc2 hd2;exact concat_meets ⟨_,ho,rfl⟩ ⟨_,ho2,rfl⟩ noFill_tuple_add seq_tuple_add PySem.F.slot_tuple_add PySem.F.entry_tuple_add (PySem.F.args_tuple_add_2 _ _) (tuple_addW0 a b its.toArray its2.toArray n n2 dd dd2 sl sl2 (by simp[hv])) ⟨ho,ho2,.ref b,H,I,rfl,q0 hx⟩
 ·exact z1b pins s σ H _ _ v u Q I rx ry ⟨a,b,xs,ys,rfl,rfl,ha,hb,hx,hz,q1 hx,q2 hx⟩
end
end L2
namespace DL
open PySem PySem.Spec L2
open PySem.W (XC)
section
variable{X:Cx}{Y:Y2}{W:XW}{tg:Expr}{K:Frag}
noncomputable def sqb:D→Bool | .tup _=>true |_=>false
theorem j0y{F:Hp}{d:D}{xs:List D}{x:V}(h:seqD d=some xs)(r:Rep K F d x):∃a vs b,x=.ref a∧Sq K b F a vs∧Reps K F xs vs:=by
 obtain ⟨a,vs,e,sq,z⟩:=a0f h r;rcases sq with sq |sq
 ·exact ⟨a,vs,false,e,sq,z⟩
 ·exact ⟨a,vs,true,e,sq,z⟩
theorem _root_.L2.Same.sq{F F':Hp}{b:Bool}{a:Addr}{xs:List V}(s:Same F F')(h:Sq K b F a xs):Sq K b F' a xs:=by
 cases b
 ·exact s.sqL h
 ·exact s.sqT h
noncomputable def zipD(ds es:List D):List D:=List.zipWith (fun d e=>D.tup [d,e]) ds es
theorem j0x{ds es:List D}{i:Nat}{c:D}(h:(zipD ds es)[i]?=some c):∃d e,ds[i]?=some d∧es[i]?=some e∧c=.tup [d,e]:=by
 unfold zipD at h;rw[List.getElem?_zipWith]at h;cases h1:ds[i]? with
 |none=>rw[h1]at h;cases h
 |some d=>
  cases h2:es[i]? with
  |none=>rw[h1,h2]at h;cases h
  |some e=>rw[h1,h2]at h;exact ⟨d,e,rfl,rfl,(Option.some.inj h).symm⟩
theorem c0h{ds es:List D}:(zipD ds es).length=min ds.length es.length:=by unfold zipD;simp
theorem x1u{F:Hp}{b b':Bool}{a a':Addr}{xs ys:List V}{ds es:List D}(h:Sq K b F a xs)(h':Sq K b' F a' ys)(r:Reps K F ds xs)(r':Reps K F es ys):SrcOk K (Itz K b b' a a') F (zipD ds es):=by
 refine ⟨fun i c F' H e s1 s2=>?_,fun F' H s1 s2=>?_⟩
 ·obtain ⟨d,e',e1,e2,rfl⟩:=j0x e;obtain ⟨v,ev,rv⟩:=r.get e1;obtain ⟨v',ev',rv'⟩:=r'.get e2;have q1:=(s1.trans s2).sq h;have q2:=(s1.trans s2).sq h';refine ⟨⟨xs,ys,v,v',q1,ev,q2,ev'⟩,fun u H' y=>?_⟩;obtain ⟨p,x,y,hp,rfl,rfl,k1,k2⟩:=y;have e3:=k1 xs q1;have e4:=k2 ys q2;rw[ev]at e3;rw[ev']at e4;cases e3;cases e4;exact .inr ⟨p,_,_,hp,rfl,rfl,rfl,Reps.cons (rv.mono s1) (Reps.cons (rv'.mono s1) Reps.nil)⟩
 ·rw[c0h];refine ⟨xs,ys,(s1.trans s2).sq h,(s1.trans s2).sq h',?_⟩;rw[r.length,r'.length];omega
noncomputable def x0k(k:Nat)(ds:List D):List D:=match ds with | []=>[]|d::r=>.tup [.int (k:Int),d]::x0k (k+1) r
theorem w0d:∀(ds:List D) (k:Nat),(x0k k ds).length=ds.length
 | [],k=>rfl
 |d::r,k=>by unfold x0k;rw[List.length_cons,List.length_cons,w0d r]
theorem w0c:∀{ds:List D} {k i:Nat} {c:D},(x0k k ds)[i]?=some c→∃d,ds[i]?=some d∧c=.tup [.int ((k+i:Nat):Int),d]
 | [],k,i,c,h=>by unfold x0k at h;simp at h
 |d::r,k,0,c,h=>by unfold x0k at h;simp at h;exact ⟨d,rfl,h.symm⟩
 |d::r,k,i+1,c,h=>by
  unfold x0k at h;rw[List.getElem?_cons_succ]at h;obtain ⟨e,h1,h2⟩:=w0c h;exact ⟨e,by simpa using h1,by rw[h2,show k+1+i=k+(i+1)by omega]⟩
theorem c0g{F:Hp}{b:Bool}{a:Addr}{xs:List V}{ds:List D}(h:Sq K b F a xs)(r:Reps K F ds xs):SrcOk K (Ite K b a) F (x0k 0 ds):=by
 refine ⟨fun i c F' H e s1 s2=>?_,fun F' H s1 s2=>?_⟩
 ·obtain ⟨d,e1,rfl⟩:=w0c e;obtain ⟨v,ev,rv⟩:=r.get e1;have q1:=(s1.trans s2).sq h;refine ⟨⟨xs,v,q1,ev⟩,fun u H' y=>?_⟩;obtain ⟨p,x,hp,rfl,rfl,k1⟩:=y;have e3:=k1 xs q1;rw[ev]at e3;cases e3;rw[Nat.zero_add];exact .inr ⟨p,_,_,hp,rfl,rfl,rfl,Reps.cons (rep_int.mpr rfl) (Reps.cons (rv.mono s1) Reps.nil)⟩
 ·rw[w0d];exact ⟨xs,(s1.trans s2).sq h,r.length⟩
variable{a b:Expr}{ta:TA2}{p pos tpos:Pos}{elts:List Expr}{x1:Nat}
noncomputable def c0f(ta:TA2):TI2:=fun x ρ δ q=>ta x ρ δ fun ds ρ1 δ1=>match ds with | [d,e]=>(match seqD d,seqD e with |some xs,some ys=>q (zipD xs ys) ρ1 δ1 |_,_=>False)|_=>False
theorem a0c(hm:X.mg "zip"=none)(ha:PA2 X Y W [a,b] ta)(hg:Gl X "zip":=by rfl)(hs:starEach [a,b] X.env=[(false,eval a X.env),(false,eval b X.env)]:=by rfl)(hs2:starEach [b] X.env=[(false,eval b X.env)]:=by rfl):
 PI2 X Y W (.Tuple elts x1 tpos) (.Call (.Name "zip" p) [a,b] [] pos) (c0f ta):=pi2 (pi_zip hg hm ha.go hs hs2) fun σ H R ⟨F,ρ,δ,x,q,I,h,k,kx⟩=>by
 refine ⟨F,ρ,δ,x,_,I,h,fun ds vs F' H' ρ' δ' I' s' r' h'=>?_,kx⟩;split at h'
 ·rename_i d e;split at h'
  ·rename_i xs ys e1 e2;obtain ⟨v,u,rfl,r1,r2⟩:=d0f r';obtain ⟨a1,vs1,b1,rfl,q1,z1⟩:=j0y e1 r1;obtain ⟨a2,vs2,b2,rfl,q2,z2⟩:=j0y e2 r2;exact ⟨a1,a2,b1,b2,rfl,⟨_,I'.sub.sq q1⟩,⟨_,I'.sub.sq q2⟩,k _ _ F' H' ρ' δ' I' s' (x1u q1 q2 z1 z2) h'⟩
  ·exact h'.elim
 ·exact h'.elim
noncomputable def c0e(ta:TA2):TI2:=fun x ρ δ q=>ta x ρ δ fun ds ρ1 δ1=>match ds with | [d]=>(match seqD d with |some xs=>q (x0k 0 xs) ρ1 δ1 |none=>False)|_=>False
theorem m0d(hm:X.mg "enumerate"=none)(ha:PA2 X Y W [a] ta)(hg:Gl X "enumerate":=by rfl)(hs:starEach [a] X.env=[(false,eval a X.env)]:=by rfl):
 PI2 X Y W (.Tuple elts x1 tpos) (.Call (.Name "enumerate" p) [a] [] pos) (c0e ta):=pi2 (x1w hg hm ha.go hs) fun σ H R ⟨F,ρ,δ,x,q,I,h,k,kx⟩=>by
 refine ⟨F,ρ,δ,x,_,I,h,fun ds vs F' H' ρ' δ' I' s' r' h'=>?_,kx⟩;split at h'
 ·split at h'
  ·rename_i xs e1;obtain ⟨v,rfl,r1⟩:=d8 r';obtain ⟨a1,vs1,b1,rfl,q1,z1⟩:=j0y e1 r1;exact ⟨a1,b1,rfl,⟨_,I'.sub.sq q1⟩,k _ _ F' H' ρ' δ' I' s' (c0g q1 z1) h'⟩
  ·exact h'.elim
 ·exact h'.elim
end
noncomputable def tgD(tup:Bool)(n:Nat)(d:D):Option (List D):=match tup,d with
 |false,d=>some [d]
 |true,.tup ds=>if ds.length=n then some ds else none
 |true,_=>none
noncomputable def compM(tup:Bool)(n:Nat)(tc:TT2)(te:TE2)(js:List Nat)(ρ:En)(q:List D→Dk→Prop):List D→List D→Dk→Prop
 | [],acc,δ=>q acc δ
 |d::ds,acc,δ=>match tgD tup n d with
  |some es=>tc (fun _ _ _ _=>False) (es.map .val++capt ρ js) δ fun b ρ1 δ1=>if b=true then te (fun _ _ _ _=>False) ρ1 δ1 fun e _ δ2=>acc.length<1000∧compM tup n tc te js ρ q ds (acc++[e]) δ2 else compM tup n tc te js ρ q ds acc δ1
  |none=>False
section
variable{K:Frag}{Y:Y2}{F H:Hp}{σ:St}{ρ:En}{δ:Dk}
theorem n0u{H₀:Hp}{sf:Option Addr}{cs:En}{ss:St}(hc:∀(i:Nat) (c:Cell),cs[i]?=some c→CellOk K F H H₀ sf c (ss[i]?).join):∀{es:List D} {ws:List V},Reps K F es ws→∀(i:Nat) (c:Cell),(es.map Cell.val++cs)[i]?=some c→CellOk K F H H₀ sf c ((ws.map some++ss:St)[i]?).join
 | [],ws,r,i,c,e=>by rw[reps_nil.mp r];exact hc i c e
 |d::es,ws,r,0,c,e=>by
  obtain ⟨v,l,rfl,r1,r2⟩:=reps_cons.mp r;cases e;exact ⟨v,rfl,r1⟩
 |d::es,ws,r,i+1,c,e=>by
  obtain ⟨v,l,rfl,r1,r2⟩:=reps_cons.mp r;exact n0u hc r2 i c e
theorem I2.blockM{es:List D}{ws:List V}{js:List Nat}(I:I2 K Y F H σ ρ δ)(r:Reps K F es ws):I2 K ⟨F,H,δ,none⟩ F H (ws.map some++m9 σ js) (es.map .val++capt ρ js) δ:=by
 have vals:∀(i:Nat) c,(es.map Cell.val++capt ρ js)[i]?=some c→(∃e,c=.val e)∨c=.no:=fun i c e=>by
  have m:=List.mem_of_getElem? e;rcases List.mem_append.mp m with m |m
  ·obtain ⟨d,_,rfl⟩:=List.mem_map.mp m;exact .inl ⟨d,rfl⟩
  ·unfold capt at m;obtain ⟨j,_,rfl⟩:=List.mem_map.mp m;unfold e9;split
   ·exact .inl ⟨_,rfl⟩
   ·exact .inr rfl
 have no:∀i a,¬y8 (es.map .val++capt ρ js) (ws.map some++m9 σ js) i a:=fun i a o=>by
  rcases o.1 with ⟨es,q⟩|⟨C,fs,q⟩|⟨kvs,q⟩
  ·rcases vals i _ q with ⟨d,z⟩|z<;>cases z
  ·rcases vals i _ q with ⟨d,z⟩|z<;>cases z
  ·rcases vals i _ q with ⟨d,z⟩|z<;>cases z
 refine ⟨Ran.refl I.sub I.ran.dk,n0u (fun i c e=>?_) r,by simp[m9,capt,r.length],fun i j a _ o _=>absurd o (no i a),fun i a o=>absurd o (no i a)⟩;unfold capt at e;rw[List.getElem?_map,Option.map_eq_some_iff]at e;obtain ⟨j,ej,rfl⟩:=e;unfold m9;rw[List.getElem?_map,ej];show CellOk K F H H none _ (σ[j]?).join;cases ec:ρ[j]? with
 |none=>trivial
 |some c=>
  have w:=I.env j c ec;cases c with
  |val e=>exact w
  |_=>trivial
end
section
variable{X:Cx}{Y:Y2}{W:XW}{px pos:Pos}{target elt iter:Expr}{ifs:List Expr}{xs:List Str}{js:List Nat}{scope:Scope}{tc:TT2}{te:TE2}{ti:TI2}{tup:Bool}{g:TG}
noncomputable def tcY(K:Frag)(tc:TT2):TT:=fun σ H Q=>∃Y',upT K Y' W0 tc σ H Q
theorem g0d{σ:St}{ρ1:En}{δ1:Dk}{F1 H1:Hp}{J:It}{n:Nat}{ds:List D}{q:List D→Dk→Prop}{Q:Addr→Hp→Prop}(I1:I2 X.K Y F1 H1 σ ρ1 δ1)(src:SrcOk X.K J F1 ds)(h1:compM tup n tc te js ρ1 q ds [] δ1)
 (k:∀D F' H' δ' acc vs,I2 X.K Y F' H' σ ρ1 δ'→Same F1 F'→H' D=some (.lst vs)→F' D=none→Y.H₀ D=none→Off δ' D→(∀j a,y8 ρ1 σ j a→a≠D)→Reps X.K F' acc vs→q acc δ'→Q D H'):
 ∀D,H1 D=none→g0f X.K J tup n (m9 σ js) D (tcY X.K tc) (teY X.K te) H1 fun H2=>Q D H2:=by
 intro D hD;have hF:F1 D=none:=I1.sub.free hD;have h0:=I1.ran.fresh hD;have no:∀j a,y8 ρ1 σ j a→a≠D:=fun j a o=>by
  obtain ⟨u,hu⟩:=I1.ownAddr o;exact d0 hu hD
 have off:Off δ1 D:=fun b es e w=>by
  obtain ⟨_,vs,q2,_⟩:=I1.ran.dk b es e;rw[←w,hD]at q2;cases q2
 have I0:I2 X.K Y F1 (upd H1 D (.lst [])) σ ρ1 δ1:=by
  refine ⟨⟨fun b u e=>by rw[j0 (d0 e hF)];exact I1.sub _ _ e,fun b fs e=>?_,fun b u e f=>by rw[j0 (d0 e h0)];exact I1.ran.keep b u e f,I1.ran.f0,I1.ran.fnew,I1.ran.dto⟩,fun j c e=>?_,I1.len,I1.apart,I1.off⟩
  ·obtain ⟨q1,ws,q2,q3⟩:=I1.ran.dk b fs e;exact ⟨q1,ws,by rw[j0 (Ne.symm (off b fs e))];exact q2,q3⟩
  ·have w:=I1.env j c e;cases c with
   |no=>trivial
   |val d=>exact w
   |own fs=>
    obtain ⟨b,ws,e1,h1,f1,g1,r1⟩:=w;exact ⟨b,ws,e1,by rw[j0 (d0 h1 hD)];exact h1,f1,g1,r1⟩
   |obj C fs=>
    obtain ⟨b,dx,ws,e1,es1,h1,h2,f1,f2,g1,g2,r1⟩:=w;exact ⟨b,dx,ws,e1,es1,by rw[j0 (d0 h1 hD)];exact h1,by rw[j0 (d0 h2 hD)];exact h2,f1,f2,g1,g2,r1⟩
   |ownD fs=>
    obtain ⟨b,ws,e1,h1,f1,g1,r1⟩:=w;exact ⟨b,ws,e1,by rw[j0 (d0 h1 hD)];exact h1,f1,g1,r1⟩
 refine ⟨fun i m ys H2=>∃F2 δ2 acc,I2 X.K Y F2 H2 σ ρ1 δ2∧Same F1 F2∧H2 D=some (.lst ys)∧F2 D=none∧Off δ2 D∧Reps X.K F2 acc ys∧compM tup n tc te js ρ1 q (ds.drop i) acc δ2∧i≤ds.length∧m=ds.length-i,⟨ds.length,F1,δ1,[],I0,Same.refl F1,l4,hF,off,Reps.nil,by simpa using h1,Nat.zero_le _,by simp⟩,?_⟩;rintro i m ys H2 ⟨F2,δ2,acc,I2',s2,hD2,hF2,of2,r2,h2,hi,rfl⟩;refine ⟨hD2,?_⟩;cases e:ds[i]? with
 |none=>
  have hl:ds.length≤i:=List.getElem?_eq_none_iff.mp e;have ei:i=ds.length:=by omega
  subst ei;rw[List.drop_length]at h2;exact .inl ⟨src.stop F2 H2 s2 I2'.sub,k D F2 H2 δ2 acc ys I2' s2 hD2 hF2 h0 of2 no r2 h2⟩
 |some d=>
  have hl:i<ds.length:=(List.getElem?_eq_some_iff.mp e).1;obtain ⟨go,yl⟩:=src.item i d F2 H2 e s2 I2'.sub;refine .inr ⟨go,fun v H3 y=>?_⟩;have hy:=yl v H3 y;obtain ⟨F3,I3,s3,r3,nf3⟩:=I2'.yld hy;have hD3:H3 D=some (.lst ys):=by
   rcases hy with ⟨rfl,_⟩|⟨p,vs,es,hp,rfl,_⟩
   ·exact hD2
   ·rw[j0 (d0 hD2 hp)];exact hD2
  have hF3:F3 D=none:=nf3 D _ hD2 hF2;have ed:ds.drop i=d::ds.drop (i+1):=by rw[List.drop_eq_getElem_cons hl];congr 1;exact (List.getElem?_eq_some_iff.mp e).2
  rw[ed]at h2;unfold compM at h2;split at h2
  ·rename_i es ees;have body:∀ws:List V,Reps X.K F3 es ws→tcY X.K tc (ws.map some++m9 σ js) H3 fun ok H4=>if ok=true then teY X.K te (ws.map some++m9 σ js) H4 fun y H5=>H5 D=some (.lst ys)∧ys.length<sizeLine∧∃m',m'<ds.length-i∧
    ∃F2 δ2 acc,I2 X.K Y F2 (upd H5 D (.lst (ys++[y]))) σ ρ1 δ2∧Same F1 F2∧upd H5 D (.lst (ys++[y])) D=some (.lst (ys++[y]))∧F2 D=none∧Off δ2 D∧Reps X.K F2 acc (ys++[y])∧compM tup n tc te js ρ1 q (ds.drop (i+1)) acc δ2∧i+1≤ds.length∧m'=ds.length-(i+1)
    else ∃m',m'<ds.length-i∧∃F2 δ2 acc,I2 X.K Y F2 H4 σ ρ1 δ2∧Same F1 F2∧H4 D=some (.lst ys)∧F2 D=none∧Off δ2 D∧Reps X.K F2 acc ys∧compM tup n tc te js ρ1 q (ds.drop (i+1)) acc δ2∧i+1≤ds.length∧m'=ds.length-(i+1):=by
    intro ws rw';have kept:∀{F4 H4 δ4},Ran X.K F3 H3 δ2 F4 H4 δ4→H4 D=some (.lst ys)∧F4 D=none∧Off δ4 D:=fun {F4 H4 δ4} R=>by
     refine ⟨R.keep D _ hD3 of2,?_,fun b es e w=>?_⟩
     ·cases z:F4 D with
      |none=>rfl
      |some u=>
       rcases R.fnew D u z with w |w
       ·rw[hF3]at w;cases w
       ·rw[hD3]at w;cases w
     ·cases hd:δ2 with
      |none=>have:=R.dto.2 b es e hd;rw[←w,hD3]at this;cases this
      |some p=>
       obtain ⟨c,gs⟩:=p;obtain ⟨es',z⟩:=R.dto.1 c gs hd;rw[e]at z;cases z;exact of2 b gs hd w
    refine ⟨⟨F3,H3,δ2,none⟩,F3,_,δ2,_,_,I3.blockM rw',h2,fun bb F4 H4 ρ4 δ4 I4 s4 h4=>?_,fun _ _ _ _ _ _ _ _ _ _ _ z=>z⟩;obtain ⟨hD4,hF4,of4⟩:=kept I4.ran;cases bb with
    |false=>
     rw[if_neg Bool.false_ne_true]at h4 ⊢;exact ⟨ds.length-(i+1),by omega,F4,δ4,acc,I3.call I4.ran,(s2.trans s3).trans s4,hD4,hF4,of4,r2.mono (s3.trans s4),h4,hl,rfl⟩
    |true=>
     rw[if_pos rfl]at h4 ⊢;refine ⟨⟨F3,H3,δ2,none⟩,F4,ρ4,δ4,_,_,I4,h4,fun d5 v5 F5 H5 ρ5 δ5 I5 s5 r5 h5=>?_,fun _ _ _ _ _ _ _ _ _ _ _ z=>z⟩;obtain ⟨hD5,hF5,of5⟩:=kept I5.ran;have hlen:acc.length<1000:=h5.1;have s35:Same F3 F5:=s4.trans s5;exact ⟨hD5,by rw[r2.length];exact Nat.lt_of_lt_of_le hlen (by decide),ds.length-(i+1),by omega,F5,δ5,acc++[d5],(I3.call I5.ran).side hF5 h0 of5 ⟨_,hD5⟩ no,(s2.trans s3).trans s35,l4,hF5,of5,(r2.mono (s3.trans s35)).append (Reps.cons r5 Reps.nil),h5.2,hl,rfl⟩
   unfold tgD at ees;split at ees
   ·cases ees;exact body [v] (Reps.cons r3 Reps.nil)
   ·rename_i _ es0;split at ees
    ·rename_i hn;cases ees;obtain ⟨a,vs,rfl,ea,z⟩:=rep_tup.mp r3;exact ⟨a,vs,rfl,SqT.of (I3.sub _ _ ea),by rw[z.length];exact hn,body vs z⟩
    ·cases ees
   ·cases ees
  ·exact h2.elim
structure PIf2(X:Cx)(Y:Y2)(W:XW)(ifs:List Expr)(t:TT2):Prop where
 go:PIfs X ifs (upT X.K Y W t)
noncomputable def y0s:TT2:=fun _ ρ δ q=>q true ρ δ
theorem y0r:PIf2 X Y W [] y0s:=⟨fun pins s σ H Q I ⟨F,ρ,δ,x,q,I2',h,k,kx⟩=>c0l pins s σ H Q I (k true F H ρ δ I2' (Same.refl F) h)⟩
theorem x0c{c:Expr}(h:PT2 X Y W c tc):PIf2 X Y W [c] tc:=⟨c0k h.go⟩
variable{i:Nat}{y:Str}{py spos:Pos}
noncomputable def v0e(ti:TI2)(tup:Bool)(n:Nat)(js:List Nat)(tc:TT2)(te:TE2):TE2:=fun x ρ δ q=>ti x ρ δ fun ds ρ1 δ1=>compM tup n tc te js ρ1 (fun acc δ2=>q (.lst acc) ρ1 δ2) ds [] δ1
theorem j0w{n:Nat}{σ:St}{H:Hp}{Q:VK}(h:upE X.K Y W (v0e ti tup n js tc te) σ H Q):g0e X.K (upI2 X.K Y W ti) tup n js (tcY X.K tc) (teY X.K te) σ H Q:=by
 obtain ⟨F,ρ,δ,x,q,I,h,k,kx⟩:=h;refine ⟨F,ρ,δ,x,_,I,h,fun ds J F1 H1 ρ1 δ1 I1 s1 src h1=>g0d (Q:=fun D H2=>Q (.ref D) H2) I1 src h1 fun D F' H' δ' acc vs I' s' hD hF h0 of no r hq=>?_,kx⟩;exact k _ _ _ _ ρ1 δ' (I'.ice hF h0 of hD no) ((s1.trans s').trans (Same.new hF)) (rep_lst.mpr ⟨D,vs,rfl,l4,r.mono (Same.new hF)⟩) hq
variable(hc:X.calm=true)(S:CompOkM X xs js scope)(hi:PI2 X Y W target iter ti)(hg:(xs++js.map (fun j=>X.N.getD j "")).Nodup→∀C s₀ H₀ fp cl,PG (X.compM xs js scope cl C s₀ H₀ fp) target g)(gm:TgM X.K tup xs.length g)
 (ht:∀C s₀ H₀ fp cl Y',PIf2 (X.compM xs js scope cl C s₀ H₀ fp) Y' W0 ifs tc) (he:∀C s₀ H₀ fp cl Y',PE2 (X.compM xs js scope cl C s₀ H₀ fp) Y' W0 elt te)
include hc S hi hg gm ht he
theorem y7(hs:∀v,foldedSetIterable iter X.env v=pure v:=by intro _;rfl):PE2 X Y W (.ListComp elt [⟨target,iter,ifs,0⟩] scope pos) (v0e ti tup xs.length js tc te):=
 pe2 (c0j (tc:=tcY X.K tc) (te:=teY X.K te) hc S hi.go (hg S.nd) gm (fun C s₀ H₀ fp cl pins s σ H Q I ⟨Y',h⟩=>(ht C s₀ H₀ fp cl Y').go pins s σ H Q I h) (fun C s₀ H₀ fp cl pins s σ H Q I ⟨Y',h⟩=>(he C s₀ H₀ fp cl Y').go pins s σ H Q I h) hs) fun σ H Q h=>j0w h
theorem t0l(hN:X.N.Nodup)(hy:X.N[i]?=some y:=by rfl)(hl:Loc X.env.scope y:=by walk_at "v2")
 (hsw:swapsWith (.ListComp elt [⟨target,iter,ifs,0⟩] scope pos) (some (.Name y py)) spos.line X.env=pure true:=by rfl) (hs:∀v,foldedSetIterable iter X.env v=pure v:=by intro _;rfl) (hfn:X.fn y=true∨X.env.scope.names.lookup y=some .local:=by walk_at "v1"):
 PS2 X Y W (.Assign [.Name y py] (.ListComp elt [⟨target,iter,ifs,0⟩] scope pos) spos) (g0q i (v0e ti tup xs.length js tc te)):=
 ps2 (c0i (i:=i) (tc:=tcY X.K tc) (te:=teY X.K te) hc S hi.go (hg S.nd) gm (fun C s₀ H₀ fp cl pins s σ H Q I ⟨Y',h⟩=>(ht C s₀ H₀ fp cl Y').go pins s σ H Q I h) (fun C s₀ H₀ fp cl pins s σ H Q I ⟨Y',h⟩=>(he C s₀ H₀ fp cl Y').go pins s σ H Q I h) hN hy hl hsw hs hfn) fun E1 σ H ⟨F,ρ,δ,E2,I,h,er⟩=>
  j0w ⟨F,ρ,δ,E2.xc,_,I,h,fun d v F' H' ρ' δ' I' s' r' h'=>er.nx _ F' H' _ δ' (I'.put r') s' h',er.xc⟩
omit hc S hi hg gm ht he in
noncomputable def t2OwnM(i:Nat)(ti:TI2)(tup:Bool)(n:Nat)(js:List Nat)(tc:TT2)(te:TE2):TS2:=fun E ρ δ=>ti E.xc ρ δ fun ds ρ1 δ1=>compM tup n tc te js ρ1 (fun acc δ2=>E.nx (ρ1.set i (.own acc)) δ2) ds [] δ1
end
end DL
namespace DL
open PySem PySem.Spec L2
open PySem.W (XC)
mutual
noncomputable def lfD:D→Bool
 | .lst _=>false | .scr _=>false | .dic _=>false | .dwk _=>false
 | .tup xs=>lfDs xs
 | .ins _ fs=>lfFs fs | .exc _ fs=>lfFs fs
 |_=>true
noncomputable def lfDs:List D→Bool
 | []=>true
 |d::ds=>lfD d&&lfDs ds
noncomputable def lfFs:List (Str×D)→Bool
 | []=>true
 |(_,d)::ds=>lfD d&&lfFs ds
end
mutual
theorem Rep.lf{K:Frag}{F F':Hp}(s:∀b o,F b=some o→(∀vs,o≠.lst vs)→F' b=some o):∀{d:D} {v:V},lfD d=true→Rep K F d v→Rep K F' d v
 | .non,v,_,h=>by unfold Rep at h ⊢; exact h
 | .bl b,v,_,h=>by unfold Rep at h ⊢; exact h
 | .int i,v,_,h=>by unfold Rep at h ⊢; exact h
 | .str x,v,_,h=>by unfold Rep at h ⊢; exact h
 | .lst ds,v,l,h=>by unfold lfD at l;cases l
 | .tup ds,v,l,h=>by unfold Rep at h ⊢; unfold lfD at l;obtain ⟨a,vs,e,q,r⟩:=h;exact ⟨a,vs,e,s _ _ q (fun vs z=>by cases z),Reps.lf s l r⟩
 | .scr ds,v,l,h=>by unfold lfD at l;cases l
 | .dic ds,v,l,h=>by unfold lfD at l;cases l
 | .dwk ds,v,l,h=>by unfold lfD at l;cases l
 | .ins C fs,v,l,h=>by unfold Rep at h ⊢; unfold lfD at l;obtain ⟨a,dx,vs,e,q,q2,r⟩:=h;exact ⟨a,dx,vs,e,s _ _ q (fun vs z=>by cases z),s _ _ q2 (fun vs z=>by cases z),RepF.lf s l r⟩
 | .exc C fs,v,l,h=>by
  unfold Rep at h ⊢;unfold lfD at l;obtain ⟨a,fr,e,h⟩:=h;refine ⟨a,fr,e,?_⟩;rcases h with ⟨e1,q⟩|⟨d,us,q,q2,r⟩
  ·exact .inl ⟨e1,s _ _ q (fun vs z=>by cases z)⟩
  ·exact .inr ⟨d,us,s _ _ q (fun vs z=>by cases z),s _ _ q2 (fun vs z=>by cases z),RepF.lf s l r⟩
 | .ref a,v,_,h=>by unfold Rep at h ⊢; exact h
 | .ty n,v,_,h=>by unfold Rep at h ⊢; exact h
theorem Reps.lf{K:Frag}{F F':Hp}(s:∀b o,F b=some o→(∀vs,o≠.lst vs)→F' b=some o):∀{ds:List D} {vs:List V},lfDs ds=true→Reps K F ds vs→Reps K F' ds vs
 | [],vs,_,h=>by unfold Reps at h ⊢; exact h
 |d::ds,vs,l,h=>by
  unfold Reps at h ⊢;unfold lfDs at l;rw[Bool.and_eq_true]at l;obtain ⟨v,r,e,q,z⟩:=h;exact ⟨v,r,e,Rep.lf s l.1 q,Reps.lf s l.2 z⟩
theorem RepF.lf{K:Frag}{F F':Hp}(s:∀b o,F b=some o→(∀vs,o≠.lst vs)→F' b=some o):∀{ds:List (Str×D)} {vs:List (Str×V)},lfFs ds=true→RepF K F ds vs→RepF K F' ds vs
 | [],vs,_,h=>by unfold RepF at h ⊢; exact h
 |(x,d)::ds,vs,l,h=>by
  unfold RepF at h ⊢;unfold lfFs at l;rw[Bool.and_eq_true]at l;obtain ⟨v,r,e,q,z⟩:=h;exact ⟨v,r,e,Rep.lf s l.1 q,RepF.lf s l.2 z⟩
end
inductive BA where |v (d:D)|o (i:Nat)
noncomputable def RepB(K:Frag)(F:Hp)(σ:St):BA→V→Prop
 | .v d,v=>Rep K F d v
 | .o i,v=>σ[i]?=some (some v)
inductive RepsB(K:Frag)(F:Hp)(σ:St):List BA→List V→Prop
 |nil:RepsB K F σ [] []
 |cons {b v bs vs}:RepB K F σ b v→RepsB K F σ bs vs→RepsB K F σ (b::bs) (v::vs)
noncomputable abbrev TB2:=XK2→En→Dk→(List BA→En→Dk→Prop)→Prop
noncomputable def upB(K:Frag)(Y:Y2)(W:XW)(t:TB2):TA:=fun σ H Q=>∃F ρ δ x q,I2 K Y F H σ ρ δ∧t x ρ δ q∧(∀bs vs F' H' ρ' δ',I2 K Y F' H' σ ρ' δ'→Same F F'→RepsB K F' σ bs vs→q bs ρ' δ'→Q vs H')∧XR K Y W F x
structure PB2(X:Cx)(Y:Y2)(W:XW)(es:List Expr)(t:TB2):Prop where
 go:PA X es (upB X.K Y W t)
section
variable{X:Cx}{Y:Y2}{W:XW}{e:Expr}{es:List Expr}{te:TE2}{t:TB2}{x:Str}{p pos:Pos}
noncomputable def t2BNil:TB2:=fun _ ρ δ q=>q [] ρ δ
noncomputable def t2BV(te:TE2)(t:TB2):TB2:=fun x ρ δ q=>te x ρ δ fun d ρ1 δ1=>t x ρ1 δ1 fun bs ρ2 δ2=>q (.v d::bs) ρ2 δ2
noncomputable def t2BO(i:Nat)(t:TB2):TB2:=fun x ρ δ q=>hasV ρ i=true∧t x ρ δ fun bs ρ2 δ2=>q (.o i::bs) ρ2 δ2
noncomputable def argB(ρ:En):BA→Option D
 | .v d=>some d
 | .o i=>match ρ[i]? with |some (.own ds)=>some (.lst ds)|some (.val d)=>some d |_=>none
noncomputable def argsB(ρ:En):List BA→Option (List D)
 | []=>some []
 |b::bs=>match argB ρ b,argsB ρ bs with |some d,some ds=>some (d::ds)|_,_=>none
noncomputable def a0b(ρ:En)(σ:St)(b:Addr):Prop:=∃(i:Nat) (ds:List D),ρ[i]?=some (Cell.own ds)∧σ[i]?=some (some (V.ref b))
open Classical in
noncomputable def lend(ρ:En)(σ:St)(F H:Hp):Hp:=fun b=>if a0b ρ σ b then H b else F b
open Classical in
noncomputable def back(ρ:En)(σ:St)(F:Hp):Hp:=fun b=>if a0b ρ σ b then none else F b
section
variable{K:Frag}{F H F' H':Hp}{σ:St}{ρ:En}{δ δ':Dk}
end
noncomputable def x1t(sp:Sp2)(t:TB2):TE2:=fun x ρ δ q=>t x ρ δ fun bs ρ1 δ1=>match argsB ρ1 bs with
 |some ds=>sp ds none (fun d _=>lfD d=true∧q d ρ1 δ1) fun C fs _=>lfFs fs=true∧x C fs ρ1 δ1
 |none=>False
variable{k:Nat}{ps:List Str}{sp:Sp2}
end
end DL
namespace DL
open PySem PySem.Spec L2
open PySem.W (XC)
section
variable{X:Cx}{K:Frag}
noncomputable def i0o:List D→Option (List Int)
 | []=>some []
 | .int i::r=>(i0o r).map (i::·)
 |_=>none
noncomputable def fewD(ns:List Int):Prop:=ns.length≤1000∧∀n∈ns,-(2^40)≤n∧n≤2^40
noncomputable def sumF:F1:=fun ds q=>match ds with | [d]=>(match seqD d with |some xs=>(match i0o xs with |some ns=>fewD ns∧q (.int ns.sum)|none=>False)|none=>False)|_=>False
noncomputable def rAddE(K:Frag):R2:=fun x y H Q=>y1o K x y H Q∨rCatA K x y H Q
noncomputable def addG:F2:=fun d1 d2 q=>match d1,d2 with
 | .int i,.int j=>q (.int (i+j))
 | .lst xs,.lst ys=>xs.length+ys.length≤1000∧q (.lst (xs++ys))
 | .tup xs,.tup ys=>xs.length+ys.length≤1000∧q (.tup (xs++ys))
 |_,_=>False
theorem o4:OpR X (binaryOp .Add) (rAddE X.K):=k0f y1n x1v
theorem o5:OpD K (rAddE K) addG:=by
 intro Y F H σ ρ δ x y d1 d2 Q1 q I r1 r2 h' k;unfold addG at h';split at h'
 ·exact .inl (d_add Y F H σ ρ δ x y _ _ Q1 q I r1 r2 h' k)
 ·exact .inl (d_add Y F H σ ρ δ x y _ _ Q1 q I r1 r2 h' k)
 ·rename_i xs ys;have r1':=r1;have r2':=r2;obtain ⟨a,vs,rfl,e1,z1⟩:=rep_tup.mp r1;obtain ⟨b,us,rfl,e2,z2⟩:=rep_tup.mp r2;refine .inr ⟨a,b,vs,us,rfl,rfl,SqT.of (I.sub _ _ e1),SqT.of (I.sub _ _ e2),m0j (by rw[z1.length,z2.length];exact h'.1),fun hv=>?_,fun hv hu=>?_,fun _ _ p hp=>k _ _ _ _ (I.alloc hp) (I.grow hp) (I.tup hp (z1.append z2)) h'.2⟩
  ·have:xs=[]:=List.eq_nil_of_length_eq_zero (by rw[←z1.length,hv];rfl);subst this;exact k _ _ F H I (Same.refl F) r2' h'.2
  ·have:ys=[]:=List.eq_nil_of_length_eq_zero (by rw[←z2.length,hu];rfl);subst this;exact k _ _ F H I (Same.refl F) (by rw[List.append_nil];exact r1') h'.2
 ·exact h'.elim
noncomputable def x1s:FM:=fun ds es q=>match es with | [.int k,e]=>ds.length<1000∧(0≤k∧k≤1000)∧q .non (ds.take (min k.toNat ds.length)++[e]++ds.drop (min k.toNat ds.length))|_=>False
end
section
variable{X:Cx}{Y:Y2}{W:XW}{a:Expr}{ta:TA2}{p p2 pos pos2:Pos}{i:Nat}{x:Str}{pos':Pos}
noncomputable def lrQ(ds:List D)(q:List D→Prop):Prop:=match ds with | [.int n]=>(0≤n∧n≤1000)∧q (rngD 0 n.toNat)|_=>False
noncomputable def t2LR(ta:TA2):TE2:=fun x ρ δ q=>ta x ρ δ fun ds ρ1 δ1=>lrQ ds fun l=>q (.lst l) ρ1 δ1
noncomputable def x1r(i:Nat)(ta:TA2):TS2:=fun E ρ δ=>ta E.xc ρ δ fun ds ρ1 δ1=>lrQ ds fun l=>E.nx (ρ1.set i (.own l)) δ1
end
structure KNo(K:Frag)(C:Addr):Prop where
 n:PySem.W.kitOne K (.type "NoneType") (.ref C)=some false
 b:PySem.W.kitOne K (.type "bool") (.ref C)=some false
 i:PySem.W.kitOne K (.type "int") (.ref C)=some false
 s:PySem.W.kitOne K (.type "str") (.ref C)=some false
 l:PySem.W.kitOne K (.type "list") (.ref C)=some false
 t:PySem.W.kitOne K (.type "tuple") (.ref C)=some false
 d:PySem.W.kitOne K (.type "dict") (.ref C)=some false
theorem j0v{tup:Bool}{n:Nat}{tc:TT2}{te:TE2}{js:List Nat}{ρ:En}{q:List D→Dk→Prop}{ds:List D}{acc:List D}{δ:Dk}(P:Nat→List D→Dk→Prop)(h0:P 0 acc δ)
 (step:∀(i:Nat) (d:D) (acc:List D) (δ:Dk) (rest:List D→Dk→Prop),ds[i]?=some d→P i acc δ→(∀acc' δ',P (i+1) acc' δ'→rest acc' δ')→match tgD tup n d with
  |some es=>tc (fun _ _ _ _=>False) (es.map .val++capt ρ js) δ fun b ρ1 δ1=>if b=true then te (fun _ _ _ _=>False) ρ1 δ1 fun e _ δ2=>acc.length<1000∧rest (acc++[e]) δ2 else rest acc δ1
  |none=>False)
 (fin:∀acc δ,P ds.length acc δ→q acc δ):compM tup n tc te js ρ q ds acc δ:=by
 have key:∀(k i:Nat) (acc:List D) (δ:Dk),i+k=ds.length→P i acc δ→compM tup n tc te js ρ q (ds.drop i) acc δ:=by
  intro k
  induction k with
  |zero=>
   intro i acc δ hi p;rw[List.drop_eq_nil_of_le (by omega)];have:i=ds.length:=by omega
   subst this;exact fin acc δ p
  |succ k ih=>
   intro i acc δ hi p;have hl:i<ds.length:=by omega
   rw[List.drop_eq_getElem_cons hl];have:=step i ds[i] acc δ (compM tup n tc te js ρ q (ds.drop (i+1))) (by simp[hl]) p fun acc' δ' p'=>ih (i+1) acc' δ' (by omega) p'
   unfold compM;exact this
 have:=key ds.length 0 acc δ (by omega) h0
 rwa[List.drop_zero]at this
end DL
namespace L2
open PySem PySem.Spec PyProof.Rows
section
variable{X:Cx}
noncomputable def eqVs:List V→List V→Bool
 | [],[]=>true
 |x::xs,y::ys=>eqV x y&&eqVs xs ys
 |_,_=>false
theorem t0k:∀(xs ys:List V),((List.range (min xs.length ys.length)).all (fun j=>match xs[j]?,ys[j]? with |some x,some y=>eqV x y |_,_=>false)&&xs.length==ys.length)=eqVs xs ys
 | [],[]=>rfl
 | [],_::_=>by simp[eqVs]
 |_::_,[]=>by simp[eqVs]
 |x::xs,y::ys=>by
  have ih:=t0k xs ys;have e:min (x::xs).length (y::ys).length=min xs.length ys.length+1:=by simp only[List.length_cons];omega
  rw[e,List.range_succ_eq_map,List.all_cons,List.all_map];unfold eqVs;rw[←ih,← Bool.and_assoc];simp only[List.length_cons,List.getElem?_cons_zero];congr 1;simp
noncomputable def rEqT(K:PySem.W.Frag)(neg:Bool):R2:=fun x y H Q=>∃a b xs ys,x=.ref a∧y=.ref b∧SqT K H a xs∧SqT K H b ys∧xs.all x0l=true∧ys.all x0l=true∧Q (.bl (if neg then !eqVs xs ys else eqVs xs ys)) H
theorem m0c{A:Around}{s:Shared}{xs ys:List V}{us ws:List Value}(r:Vals xs us)(r':Vals ys ws)(f:xs.all x0l=true)(f':ys.all x0l=true):∀j (h1:j<us.toArray.size) (h2:j<ws.toArray.size),SeqAt.EqAt A s us.toArray[j] ws.toArray[j] (match xs[j]?,ys[j]? with |some x,some y=>eqV x y |_,_=>false):=by
 intro j h1 h2;have l1:j<xs.length:=by rw[r.length];simpa using h1
 have l2:j<ys.length:=by rw[r'.length];simpa using h2
 obtain ⟨u,hu,ru⟩:=r.get (List.getElem?_eq_getElem l1);obtain ⟨w,hw,rw'⟩:=r'.get (List.getElem?_eq_getElem l2);have eu:us.toArray[j]=u:=by
  have:us[j]?=some us.toArray[j]:=by simp
  rw[hu]at this;exact (Option.some.inj this).symm
 have ew:ws.toArray[j]=w:=by
  have:ws[j]?=some ws.toArray[j]:=by simp
  rw[hw]at this;exact (Option.some.inj this).symm
 rw[eu,ew,List.getElem?_eq_getElem l1,List.getElem?_eq_getElem l2];exact a0s ru rw' (List.all_eq_true.mp f _ (List.getElem_mem l1)) (List.all_eq_true.mp f' _ (List.getElem_mem l2))
theorem op_eqT(hu:X.A.units<cLine):OpR X (compareOp .Eq) (rEqT X.K false):=by
 intro pins s σ H x y v u Q I rx ry h;obtain ⟨a,b,xs,ys,rfl,rfl,ha,hb,f1,f2,q⟩:=h;cases rx;cases ry;obtain ⟨its,r,p,_⟩:=I.tuple ha;obtain ⟨its2,r2,p2,_⟩:=I.tuple hb;refine SeqAt.eq_tupleAt p p2 hu (m0c r r2 f1 f2) ⟨.bl (eqVs xs ys),H,I,?_,q⟩;rw[←t0k,r.length,r2.length];simp only[List.size_toArray];rfl
theorem op_neT(hu:X.A.units<cLine):OpR X (compareOp .NotEq) (rEqT X.K true):=by
 intro pins s σ H x y v u Q I rx ry h;obtain ⟨a,b,xs,ys,rfl,rfl,ha,hb,f1,f2,q⟩:=h;cases rx;cases ry;obtain ⟨its,r,p,_⟩:=I.tuple ha;obtain ⟨its2,r2,p2,_⟩:=I.tuple hb;refine SeqAt.RcNeAt.tuples p p2 hu (m0c r r2 f1 f2) X.prog X.w X.xe _ ⟨.bl (!eqVs xs ys),H,I,?_,q⟩;rw[←t0k,r.length,r2.length];simp only[List.size_toArray];rfl
end
end L2
namespace DL
open PySem PySem.Spec L2
open PySem.W (XC)
section
variable{X:Cx}{K:Frag}
noncomputable def rEqE(K:Frag):R2:=fun x y H Q=>rEq x y H Q∨rEqT K false x y H Q
noncomputable def rNeE(K:Frag):R2:=fun x y H Q=>rNe x y H Q∨rEqT K true x y H Q
theorem y0q(hu:X.A.units<cLine):OpR X (compareOp .Eq) (rEqE X.K):=k0f o0r (op_eqT hu)
theorem w0b(hu:X.A.units<cLine):OpR X (compareOp .NotEq) (rNeE X.K):=k0f h0t (op_neT hu)
noncomputable def eqDs:List D→List D→Bool
 | [],[]=>true
 |x::xs,y::ys=>eqV (toV x) (toV y)&&eqDs xs ys
 |_,_=>false
theorem j0u:∀xs ys:List D,eqVs (xs.map toV) (ys.map toV)=eqDs xs ys
 | [],[]=>rfl
 | [],_::_=>rfl
 |_::_,[]=>rfl
 |x::xs,y::ys=>by rw[List.map_cons,List.map_cons];unfold eqVs eqDs;rw[j0u xs ys]
noncomputable def eqG:F2:=fun d1 d2 q=>match eqD d1 d2 with
 |some b=>q (.bl b)
 |none=>match d1,d2 with | .tup xs,.tup ys=>(xs.all x8&&ys.all x8)=true∧q (.bl (eqDs xs ys))|_,_=>False
noncomputable def neG:F2:=fun d1 d2 q=>match eqD d1 d2 with
 |some b=>q (.bl (!b))
 |none=>match d1,d2 with | .tup xs,.tup ys=>(xs.all x8&&ys.all x8)=true∧q (.bl (!eqDs xs ys))|_,_=>False
theorem s0l:OpD K (rEqE K) eqG:=by
 intro Y F H σ ρ δ x y d1 d2 Q1 q I r1 r2 h' k;unfold eqG at h';split at h'
 ·rename_i b e;exact .inl (d_eq Y F H σ ρ δ x y d1 d2 Q1 q I r1 r2 (by unfold eqF;rw[e];exact h') k)
 ·split at h'
  ·rename_i xs ys;obtain ⟨hf,h'⟩:=h';rw[Bool.and_eq_true]at hf;obtain ⟨a,vs,rfl,e1,z1⟩:=rep_tup.mp r1;obtain ⟨b,us,rfl,e2,z2⟩:=rep_tup.mp r2;obtain ⟨e3,e4⟩:=y0z hf.1 z1;obtain ⟨e5,e6⟩:=y0z hf.2 z2;refine .inr ⟨a,b,vs,us,rfl,rfl,SqT.of (I.sub _ _ e1),SqT.of (I.sub _ _ e2),e4,e6,?_⟩;rw[if_neg Bool.false_ne_true,e3,e5,j0u];exact k _ _ F H I (Same.refl F) (rep_bl.mpr rfl) h'
  ·exact h'.elim
theorem p0v:OpD K (rNeE K) neG:=by
 intro Y F H σ ρ δ x y d1 d2 Q1 q I r1 r2 h' k;unfold neG at h';split at h'
 ·rename_i b e;exact .inl (d_ne Y F H σ ρ δ x y d1 d2 Q1 q I r1 r2 (by unfold neF;rw[e];exact h') k)
 ·split at h'
  ·rename_i xs ys;obtain ⟨hf,h'⟩:=h';rw[Bool.and_eq_true]at hf;obtain ⟨a,vs,rfl,e1,z1⟩:=rep_tup.mp r1;obtain ⟨b,us,rfl,e2,z2⟩:=rep_tup.mp r2;obtain ⟨e3,e4⟩:=y0z hf.1 z1;obtain ⟨e5,e6⟩:=y0z hf.2 z2;refine .inr ⟨a,b,vs,us,rfl,rfl,SqT.of (I.sub _ _ e1),SqT.of (I.sub _ _ e2),e4,e6,?_⟩;rw[if_pos rfl,e3,e5,j0u];exact k _ _ F H I (Same.refl F) (rep_bl.mpr rfl) h'
  ·exact h'.elim
noncomputable def cutD(xs:List D)(lo hi:Option Int):List D:=(xs.drop (HT.sIx xs.length 0 lo)).take (HT.sIx xs.length xs.length hi-HT.sIx xs.length 0 lo)
theorem Reps.cut{F:Hp}{ds:List D}{vs:List V}{lo hi:Option Int}(r:Reps K F ds vs):Reps K F (cutD ds lo hi) (cutV vs lo hi):=by
 unfold cutD cutV;rw[r.length];exact (r.drop _).take _
noncomputable abbrev TO2:=XK2→En→Dk→(Option Int→En→Dk→Prop)→Prop
variable{Y:Y2}{W:XW}{e lo hi:Expr}{te tl th:TE2}{pos p2:Pos}
noncomputable def upO(K:Frag)(Y:Y2)(W:XW)(t:TO2):TO:=fun σ H Q=>∃F ρ δ x q,I2 K Y F H σ ρ δ∧t x ρ δ q∧(∀o F' H' ρ' δ',I2 K Y F' H' σ ρ' δ'→Same F F'→q o ρ' δ'→Q o H')∧XR K Y W F x
structure PO2(X:Cx)(Y:Y2)(W:XW)(e:Option Expr)(t:TO2):Prop where
 go:PO X e (upO X.K Y W t)
noncomputable def t2ON:TO2:=fun _ ρ δ q=>q none ρ δ
noncomputable def t2OI(te:TE2):TO2:=fun x ρ δ q=>te x ρ δ fun d ρ1 δ1=>match d with | .int i=>q (some i) ρ1 δ1 |_=>False
theorem n8:PO2 X Y W none t2ON:=⟨fun pins s σ H Q I ⟨F,ρ,δ,x,q,I',h,k,kx⟩=>z1d pins s σ H Q I (k none F H ρ δ I' (Same.refl F) h)⟩
theorem m8(h:PE2 X Y W e te):PO2 X Y W (some e) (t2OI te):=⟨fun pins s σ H Q I ⟨F,ρ,δ,x,q,I',h',k,kx⟩=>z1c h.go pins s σ H Q I ⟨F,ρ,δ,x,_,I',h',fun d v F1 H1 ρ1 δ1 I1 s1 r1 h1=>by
 cases d with
 |int i=>exact ⟨i,rep_int.mp r1,k (some i) F1 H1 ρ1 δ1 I1 s1 h1⟩
 |_=>exact h1.elim,kx⟩⟩
noncomputable def slF(d:D)(l u:Option Int)(q:D→Prop):Prop:=match d with
 | .lst xs=>q (.lst (cutD xs l u))
 | .tup xs=>¬(HT.sIx xs.length 0 l=0∧HT.sIx xs.length xs.length u=xs.length)∧q (.tup (cutD xs l u))
 |_=>False
noncomputable def t2Sl(te:TE2)(tl th:TO2):TE2:=fun x ρ δ q=>te x ρ δ fun d ρ1 δ1=>tl x ρ1 δ1 fun l ρ2 δ2=>th x ρ2 δ2 fun u ρ3 δ3=>slF d l u fun e=>q e ρ3 δ3
theorem p0u{lo hi:Option Expr}{tl th:TO2}(he:PE2 X Y W e te)(hl:PO2 X Y W lo tl)(hu:PO2 X Y W hi th):PE2 X Y W (.Subscript e (.Slice lo hi none p2) pos) (t2Sl te tl th):=pe2 (k0n (SlR.or z1a sl_tup) he.go hl.go hu.go) fun σ H Q ⟨F,ρ,δ,x,q,I,h,k,kx⟩=>by
 refine ⟨F,ρ,δ,x,_,I,h,fun d v F1 H1 ρ1 δ1 I1 s1 r1 h1=>⟨F1,ρ1,δ1,x,_,I1,h1,fun l F2 H2 ρ2 δ2 I2' s2 h2=>⟨F2,ρ2,δ2,x,_,I2',h2,fun u F3 H3 ρ3 δ3 I3 s3 h3=>?_,kx.mono (s1.trans s2)⟩,kx.mono s1⟩,kx⟩;have sa:=(s1.trans s2).trans s3;have r3:=r1.mono (s2.trans s3);unfold slF at h3;cases d with
 |lst xs=>
  obtain ⟨a,vs,rfl,ea,z⟩:=rep_lst.mp r3;exact .inl ⟨a,vs,rfl,SqL.of (I3.sub _ _ ea),fun p hp=>k _ _ _ _ ρ3 δ3 (I3.alloc hp) (sa.trans (I3.grow hp)) (I3.lst hp z.cut) h3⟩
 |tup xs=>
  obtain ⟨a,vs,rfl,ea,z⟩:=rep_tup.mp r3;exact .inr ⟨a,vs,rfl,SqT.of (I3.sub _ _ ea),by rw[z.length];exact h3.1,fun p hp=>k _ _ _ _ ρ3 δ3 (I3.alloc hp) (sa.trans (I3.grow hp)) (I3.tup hp z.cut) h3.2⟩
 |_=>exact h3.elim
end
theorem p0t{te:TE2}{js:List Nat}{ρ:En}{q:List D→Dk→Prop}:∀(ds acc:List D) (δ:Dk),compM false 1 y0s te js ρ q ds acc δ=y0u te js ρ q ds acc δ
 | [],acc,δ=>rfl
 |d::ds,acc,δ=>by
  show (te (fun _ _ _ _=>False) (.val d::capt ρ js) δ fun e _ δ2=>acc.length<1000∧compM false 1 y0s te js ρ q ds (acc++[e]) δ2)=te (fun _ _ _ _=>False) (.val d::capt ρ js) δ fun e _ δ1=>acc.length<1000∧y0u te js ρ q ds (acc++[e]) δ1
  congr 1;funext e ρ1 δ1;rw[p0t ds (acc++[e]) δ1]
end DL
namespace L2
open PySem PySem.Spec PyProof.Rows PySem.W PySem.SeqAt
open AutoSeq1 (wpAny_loadPart')
open MeetsSeq MeetsSeq2 MeetsSeq3 SeqRoads2
section
variable{prog:Program}{w:World}{A:Around}{E:Value→Shared→Prop}{s:Shared}
end
section
variable{B:Nat}
end
section
variable{prog:Program}{w:World}{A:Around}{E:Value→Shared→Prop}{s:Shared}
end
end L2
namespace L2
open PySem PySem.Spec PyProof.Rows PySem.W
section
variable{X:Cx}
end
end L2
namespace DL
open PySem PySem.Spec L2
end DL
namespace L2
open PySem PySem.Spec PyProof.Rows PySem.W
open AutoSeq1 (wpAny_loadPart')
section
variable{X:Cx}
end
end L2
namespace DL
open PySem PySem.Spec L2
noncomputable def repTF:F2:=fun d1 d2 q=>match d1,d2 with
 | .tup xs,.int k=>xs.length*k.toNat≤1000∧2≤k∧k≤1000∧xs≠[]∧q (.tup (List.replicate k.toNat xs).flatten)
 |_,_=>False
end DL
namespace L2
end L2
namespace DL
open PySem PySem.Spec L2
end DL
namespace DL
open PySem PySem.Spec L2
theorem p0s{X:Cx}{Y:Y2}{W:XW}{ss:List Stmt}{t t':TS2}(h:PSs2 X Y W ss t)(k:∀E ρ δ,t' E ρ δ→t E ρ δ):PSs2 X Y W ss t':=⟨k0e h.go fun D σ H ⟨F,ρ,δ,E2,I,q,er⟩=>⟨F,ρ,δ,E2,I,k _ _ _ q,er⟩⟩
end DL
namespace L2
open PySem PySem.Spec PyProof.Rows PySem.W
end L2
namespace DL
open PySem PySem.Spec L2
section
variable{X:Cx}{Y:Y2}{W:XW}{x:Str}{p tpos pos:Pos}{e j:Expr}{te tj:TE2}
noncomputable def t2AugV(i:Nat)(g:Int→Int→Int)(tj te:TE2):TS2:=fun E ρ δ=>(mutV ρ δ i).isSome=true∧tj E.xc ρ δ fun dj ρ1 δ1=>match mutV ρ1 δ1 i,dj with
 |some (ds,_),.int j=>(match atI ds j with
  |some (.int a)=>te E.xc ρ1 δ1 fun d ρ2 δ2=>(match d,mutV ρ2 δ2 i with
   | .int b,some (ds',put)=>(match ixN ds'.length j with |some m=>E.nx (put (ds'.set m (.int (g a b)))).1 (put (ds'.set m (.int (g a b)))).2 |none=>False)
   |_,_=>False)
  |_=>False)
 |_,_=>False
end
end DL
namespace DL
open PySem PySem.Spec L2
theorem t0u{tup:Bool}{n:Nat}{tc:TT2}{te:TE2}{js:List Nat}{ρ:En}{q:List D→Dk→Prop}{ds:List D}{δ:Dk}(p:D→Bool)(f:D→D)(hl:ds.length≤1000)
 (step:∀d∈ds,∀Q:Option D→Dk→Prop,(p d=true→Q (some (f d)) δ)→(p d=false→Q none δ)→∃es,tgD tup n d=some es∧tc (fun _ _ _ _=>False) (es.map .val++capt ρ js) δ fun b ρ1 δ1=>if b=true then te (fun _ _ _ _=>False) ρ1 δ1 fun e _ δ2=>Q (some e) δ2 else Q none δ1)
 (fin:q ((ds.filter p).map f) δ):compM tup n tc te js ρ q ds [] δ:=by
 refine j0v (fun i acc δ'=>acc=((ds.take i).filter p).map f∧δ'=δ) ⟨by simp,rfl⟩ ?_ ?_
 ·rintro i d acc δ' rest hi ⟨rfl,rfl⟩ hrest;have hlt:=(List.getElem?_eq_some_iff.mp hi).1;have hlen:(((ds.take i).filter p).map f).length<1000:=by
   rw[List.length_map];have:=List.length_filter_le p (ds.take i);rw[List.length_take]at this;omega
  obtain ⟨es,e1,e2⟩:=step d (List.mem_of_getElem? hi) (fun o δ1=>match o with |some e=>(((ds.take i).filter p).map f).length<1000∧rest (((ds.take i).filter p).map f++[e]) δ1 |none=>rest (((ds.take i).filter p).map f) δ1)
   (fun hp=>⟨hlen,hrest _ _ ⟨by rw[List.take_succ,hi,List.filter_append,List.map_append];simp[hp],rfl⟩⟩) fun hp=>hrest _ _ ⟨by rw[List.take_succ,hi,List.filter_append,List.map_append];simp[hp],rfl⟩
  rw[e1];exact e2
 ·rintro acc δ' ⟨rfl,rfl⟩;rw[List.take_length];exact fin
end DL
namespace L2
open PySem PySem.Spec PyProof.Rows
section
variable{prog:Program}{w:World}{A:Around}{E:Value→Shared→Prop}{s:Shared}
end
section
variable{prog:Program}{w:World}{A:Around}{E:Value→Shared→Prop}{s:Shared}
end
section
variable{X:Cx}
end
end L2
namespace DL
open PySem PySem.Spec L2
section
variable{X:Cx}{Y:Y2}{W:XW}{a e tg:Expr}{ta:TA2}{te:TE2}{p p2 pos pos2:Pos}
noncomputable def t2TR(ta:TA2):TE2:=fun x ρ δ q=>ta x ρ δ fun ds ρ1 δ1=>lrQ ds fun l=>q (.tup l) ρ1 δ1
noncomputable def c0d(g:G2)(te:TE2):TS2:=fun E ρ δ=>te E.xc ρ δ fun d ρ1 δ1=>match g d ρ1 with |some ρ2=>E.nx ρ2 δ1 |none=>False
theorem n0t{g:TG}{g2:G2}(he:PE2 X Y W e te)(hg:PG X tg g)(hd:TgD X.K g g2)(hs:swapsWithSole [tg] e pos.line X.env=pure false:=by rfl)(hw:swappedStores [tg] e X.env=pure none:=by rfl)
 (h1:(assignEach [tg] X.env).map (·.2)=[assign tg X.env]:=by rfl):PS2 X Y W (.Assign [tg] e pos) (c0d g2 te):=ps2 (a0x he.go hg hs hw h1) fun E1 σ H ⟨F,ρ,δ,E2,I,h,er⟩=>by
 refine ⟨F,ρ,δ,E2.xc,_,I,h,fun d v F1 H1 ρ1 δ1 I1 s1 r1 h1=>?_,er.xc⟩;split at h1
 ·rename_i ρ2 e2;exact hd Y F1 H1 σ ρ1 ρ2 δ1 d v _ I1 r1 e2 fun σ' I'=>er.nx σ' F1 H1 ρ2 δ1 I' s1 h1
 ·exact h1.elim
end
end DL
namespace L2
open PySem PySem.Spec PyProof.Rows
section
variable{prog:Program}{w:World}{A:Around}{E:Value→Shared→Prop}{s:Shared}
end
noncomputable def sortZ(ns:List Int):List Int:=ns.mergeSort fun a b=>decide (a≤b)
section
variable{X:Cx}
end
end L2
namespace DL
open PySem PySem.Spec L2
noncomputable def sortIF:F1:=fun ds q=>match ds with
 | [d]=>(match seqD d with |some xs=>(match i0o xs with |some ns=>ns.length<64∧q (.lst ((sortZ ns).map D.int))|none=>False)|none=>False)
 |_=>False
end DL
namespace L2
open PySem PySem.Spec PyProof.Rows PySem.W
open AutoSeq1 (wpAny_loadPart')
section
variable{X:Cx}
noncomputable def rEqL(K:PySem.W.Frag)(neg:Bool):R2:=fun x y H Q=>∃a b xs ys,x=.ref a∧y=.ref b∧SqL K H a xs∧SqL K H b ys∧xs.all x0l=true∧ys.all x0l=true∧Q (.bl (if neg then !eqVs xs ys else eqVs xs ys)) H
theorem j0t(hu:X.A.units<cLine):OpR X (compareOp .NotEq) (rEqL X.K true):=by
 intro pins s σ H x y v u Q I rx ry h;obtain ⟨a,b,xs,ys,rfl,rfl,ha,hb,f1,f2,q⟩:=h;cases rx;cases ry;obtain ⟨its,r,p,_⟩:=I.list ha;obtain ⟨its2,r2,p2,_⟩:=I.list hb;have e0:=t0k xs ys;by_cases hz:its.toArray.size=its2.toArray.size
 ·refine SeqAt.RcNeAt.lists p.isList p2.isList hz hu (m0c r r2 f1 f2) X.prog X.w X.xe _ ⟨.bl (!eqVs xs ys),H,I,?_,q⟩;rw[←e0,r.length,r2.length];simp only[List.size_toArray]at hz ⊢;rw[hz,Nat.min_self,beq_self_eq_true,Bool.and_true];rfl
 ·refine SeqAt.RcNeAt.lists_lengths p.isList p2.isList (by simpa using hz) hu X.prog X.w X.xe _ ⟨.bl (!eqVs xs ys),H,I,?_,q⟩;have:(xs.length==ys.length)=false:=by
   rw[r.length,r2.length];simpa using hz
  rw[←e0,this,Bool.and_false];rfl
end
end L2
namespace DL
open PySem PySem.Spec L2
noncomputable def x1q:F2:=fun d1 d2 q=>match d1,d2 with
 | .tup xs,.int k=>xs.length*k.toNat≤1000∧0≤k∧k≤1000∧xs≠[]∧q (.tup (List.replicate k.toNat xs).flatten)
 |_,_=>False
noncomputable def neL:F2:=fun d1 d2 q=>match d1,d2 with | .lst xs,.lst ys=>(xs.all x8&&ys.all x8)=true∧q (.bl (!eqDs xs ys))|_,_=>False
theorem c0c{K:PySem.W.Frag}:OpD K (rEqL K true) neL:=by
 intro Y F H σ ρ δ x y d1 d2 Q1 q I r1 r2 h' k;unfold neL at h';split at h'
 ·rename_i xs ys;obtain ⟨hf,h'⟩:=h';rw[Bool.and_eq_true]at hf;obtain ⟨a,vs,rfl,e1,z1⟩:=rep_lst.mp r1;obtain ⟨b,us,rfl,e2,z2⟩:=rep_lst.mp r2;obtain ⟨e3,e4⟩:=y0z hf.1 z1;obtain ⟨e5,e6⟩:=y0z hf.2 z2;refine ⟨a,b,vs,us,rfl,rfl,SqL.of (I.sub _ _ e1),SqL.of (I.sub _ _ e2),e4,e6,?_⟩;rw[if_pos rfl,e3,e5,j0u];exact k _ _ F H I (Same.refl F) (rep_bl.mpr rfl) h'
 ·exact h'.elim
noncomputable def maxLF:F1:=fun ds q=>match ds with | [d]=>(match seqD d with |some xs=>(match i0o xs with |some ns=>ns≠[]∧∀n∈ns,q (.int n)|none=>False)|none=>False)|_=>False
theorem v9:bootBuiltins "str"=some (.type "str"):=by kernel_rfl
noncomputable def strF:F1:=fun ds q=>match ds with | [.int i]=>i.natAbs.log2<1920∧q (.str (toString i))|_=>False
theorem v0d{K:PySem.W.Frag}:v0h K (fun xs H Q=>∃i,xs=[V.int i]∧i.natAbs.log2<1920∧Q (V.str (toString i)) H) strF:=by
 intro Y F H σ ρ δ vs ds Q1 q I r h' k;unfold strF at h';split at h'
 ·obtain ⟨v,rfl,r1⟩:=d8 r;rw[rep_int.mp r1];exact ⟨_,rfl,h'.1,k _ _ F H I (Same.refl F) (rep_str.mpr rfl) h'.2⟩
 ·exact h'.elim
noncomputable def addS:F2:=fun d1 d2 q=>match d1,d2 with
 | .str x,.str y=>x.length+y.length≤1000∧q (.str (x++y))
 |_,_=>False
noncomputable def addH:F2:=fun d1 d2 q=>match d1,d2 with
 | .lst xs,.lst ys=>xs.length+ys.length≤100000∧q (.lst (xs++ys))
 |_,_=>False
section
variable{X:Cx}{Y:Y2}{W:XW}{a b:Expr}{ta tb:TE2}{x:Str}{pos pos' bpos:Pos}
noncomputable def t0j(i:Nat)(ta tb:TE2):TS2:=fun E ρ δ=>ta E.xc ρ δ fun d1 ρ1 δ1=>tb E.xc ρ1 δ1 fun d2 ρ2 δ2=>match d1,d2 with
 | .lst xs,.int k=>xs.length*k.toNat≤1000∧0≤k∧k≤1000∧E.nx (ρ2.set i (.own (List.replicate k.toNat xs).flatten)) δ2
 |_,_=>False
theorem n0s(i:Nat)(hN:X.N.Nodup)(ha:PE2 X Y W a ta)(hb:PE2 X Y W b tb)(hi:X.N[i]?=some x:=by rfl)(hx:Loc X.env.scope x:=by walk_at "v2")
 (hs:swapsWith (.BinOp a .Mult b bpos) (some (.Name x pos')) pos.line X.env=pure false:=by rfl) (hf:X.fn x=true∨X.env.scope.names.lookup x=some .local:=by walk_at "v1"):
 PS2 X Y W (.Assign [.Name x pos'] (.BinOp a .Mult b bpos) pos) (t0j i ta tb):=ps2 (o0t (i:=i) hN hi hx (pe_op op_rep ha.go hb.go) hs hf) fun E1 σ H ⟨F,ρ,δ,E2,I,h,er⟩=>by
 refine ⟨F,ρ,δ,E2.xc,_,I,h,fun d1 v1 F1 H1 ρ1 δ1 I1 s1 r1 h1=>⟨F1,ρ1,δ1,E2.xc,_,I1,h1,fun d2 v2 F2 H2 ρ2 δ2 I2 s2 r2 h2=>?_,er.xc.mono s1⟩,er.xc⟩;split at h2
 ·rename_i xs k;obtain ⟨l,vs,rfl,e1,z1⟩:=rep_lst.mp (r1.mono s2);obtain ⟨h3,h4,h5,h6⟩:=h2;exact ⟨l,k,vs,rfl,rep_int.mp r2,I2.sub _ _ e1,by omega,by omega,m0j (by rw[z1.length];exact h3),fun p hp=>er.nx _ F2 _ _ δ2 (I2.own hp (z1.rep _)) (s1.trans s2) h6⟩
 ·exact h2.elim
variable{i:Nat}{p:Pos}
end
end DL
namespace L2
end L2
namespace DL
open PySem PySem.Spec L2
noncomputable def valD(kvs:List (Key×D))(k:Key):Option D:=(kvs.find? fun kv=>decide (kv.1=k)).map (·.2)
noncomputable def putD(kvs:List (Key×D))(k:Key)(v:D):List (Key×D):=if (kvs.any fun kv=>decide (kv.1=k))=true then kvs.map (fun kv=>if kv.1=k then (kv.1,v)else kv)else kvs++[(k,v)]
section
variable{K:Frag}{F:Hp}
end
section
variable{X:Cx}{Y:Y2}{W:XW}{e j:Expr}{te tj tx:TE2}{x:Str}{i:Nat}{p pos pos' spos:Pos}
noncomputable def x1p(i:Nat):TS2:=fun E ρ δ=>E.nx (ρ.set i (.ownD [])) δ
noncomputable def t2PutD(i:Nat)(tj te:TE2):TS2:=fun E ρ δ=>te E.xc ρ δ fun d ρ1 δ1=>hasV ρ1 i=true∧tj E.xc ρ1 δ1 fun dj ρ2 δ2=>match ρ2[i]?,dj with
 |some (.ownD kvs),.int k=>kvs.length<1000∧E.nx (ρ2.set i (.ownD (putD kvs (.inl k) d))) δ2
 |_,_=>False
noncomputable def dicV(ρ:En)(i:Nat):Option (List (Key×D)):=match ρ[i]? with
 |some (.ownD kvs)=>some kvs
 |some (.val (.dwk kvs))=>some kvs
 |_=>none
noncomputable def t2GetD(i:Nat)(ty tx:TE2):TE2:=fun x ρ δ q=>(dicV ρ i).isSome=true∧ty x ρ δ fun dk ρ1 δ1=>tx x ρ1 δ1 fun dd ρ2 δ2=>match dicV ρ2 i,dk with
 |some kvs,.int k=>q ((valD kvs (.inl k)).getD dd) ρ2 δ2
 |_,_=>False
noncomputable def t2IxD(i:Nat)(ty:TE2):TE2:=fun x ρ δ q=>(dicV ρ i).isSome=true∧ty x ρ δ fun dk ρ1 δ1=>match dicV ρ1 i,dk with
 |some kvs,.int k=>(match valD kvs (.inl k)with |some d=>q d ρ1 δ1 |none=>False)
 |_,_=>False
end
end DL
namespace L2
open PySem PySem.Spec PyProof.Rows
section
variable{X:Cx}{pins:List (Addr×Obj)}{σ:St}{H:Hp}{s:Shared}{a:Addr}{kvs:List (Key×V)}
variable{tg:Expr}
end
end L2
namespace DL
open PySem PySem.Spec L2
section
variable{X:Cx}{Y:Y2}{W:XW}{tg e:Expr}{te:TE2}{x:Str}{i:Nat}{p pos:Pos}{K:Frag}
noncomputable def t2VD(i:Nat):TE2:=fun _ ρ δ q=>match ρ[i]? with |some (.ownD kvs)=>q (.dwk kvs) (ρ.set i (.val (.dwk kvs))) δ |_=>False
noncomputable def t2DicV(i:Nat)(v:Int):TE2:=fun _ ρ δ q=>match ρ[i]? with |some (.val (.int k))=>q (.dwk [(.inl k,.int v)]) ρ δ |_=>False
noncomputable def keyD:Key→D
 | .inl n=>.int n
 | .inr s=>.str s
noncomputable def t2Keys(te:TE2):TI2:=fun x ρ δ q=>te x ρ δ fun d ρ1 δ1=>match d with | .dwk kvs=>q (kvs.map fun kv=>keyD kv.1) ρ1 δ1 |_=>False
end
end DL
namespace L2
open PySem PySem.Spec PyProof.Rows
structure RoomU(k:Nat)(A:Around):Prop where
 dp:A.depth+3*k+5<recursionLimit
 un:A.units+16*k+200<cLine
structure FnOkU(P:Program)(w:World)(K:PySem.W.Frag)(mg:Str→Option Value)(base:Heap)(CX:CXT)(k:Nat)(f:Addr)(fd:FuncData)(ps:List Str)(sp:Sp):Prop where
 len:∀vs H Q E,sp vs H Q E→vs.length=ps.length
 run:∀(A:Around) (outer:List Env) (s:Shared) (H:Hp) (args:Args) (us:List Value) (vs:List V) (Q:VK) (E:XK),RoomU k A→Env0 P w K mg base A outer s H→BindsTo s fd args (ps.zip us)→Vals vs us→sp vs H Q E→
  codeAny (model P w) A (.call (.ref f) args) (CR CX outer P w H s Q E) s
structure FnAtU(P:Program)(w:World)(K:PySem.W.Frag)(mg:Str→Option Value)(base:Heap)(CX:CXT)(x:Str)(k:Nat)(ps:List Str)(sp:Sp):Prop where
 ex:∃f fd,FnOkU P w K mg base CX k f fd ps sp∧mg x=some (.ref f)∧PySem.W.keepIn K (.ref f)=true∧Binds K fd ps []
section
variable{X:Cx}{pins:List (Addr×Obj)}{σ:St}{H:Hp}{s:Shared}
end
end L2
namespace DL
open PySem PySem.Spec L2
open PySem.W (XC)
open PyProof.Rows (envOfC)
section
variable{X:Cx}{Y:Y2}{W:XW}{x:Str}{p pos:Pos}{e:Expr}{es:List Expr}{t:TA2}{k:Nat}{ps:List Str}{sp:Sp2}
end
section
variable{P:Program}{w:World}{K:Frag}{mg:Str→Option Value}{base:Heap}
end
end DL
namespace L2
open PySem PySem.Spec PyProof.Rows PySem.Calls
section
variable{prog:Program}{w:World}{A:Around}{E:Value→Shared→Prop}{s:Shared}{I l:Addr}{its:Array Value}
end
end L2
namespace L2
open PySem PySem.Spec PyProof.Rows PySem.Calls
section
variable{X:Cx}
end
end L2
namespace DL
open PySem PySem.Spec L2
section
variable{X:Cx}{Y:Y2}{W:XW}{a:Expr}{ta:TA2}{p p2 pos pos2 spos:Pos}
noncomputable def c0b(ta:TA2):TS2:=fun E ρ δ=>ta E.xc ρ δ fun ds ρ1 δ1=>δ1=none∧match ds with | [d]=>(match d with | .lst xs=>∀p,E.rt (.ref p) (some (p,xs.reverse))|_=>False)|_=>False
end
end DL
namespace L2
open PySem PySem.Spec PyProof.Rows PySem.Calls PySem.W
section
variable{X:Cx}
noncomputable def IsMin(ns:List Int)(m:Int):Prop:=m∈ns∧∀n∈ns,m≤n
end
end L2
namespace DL
open PySem PySem.Spec L2
section
variable{K:Frag}
noncomputable def minLF:F1:=fun ds q=>match ds with | [d]=>(match seqD d with |some xs=>(match i0o xs with |some ns=>ns≠[]∧∀m,IsMin ns m→q (.int m)|none=>False)|none=>False)|_=>False
end
section
variable{X:Cx}{Y:Y2}{W:XW}{x:Str}{p apos cpos p2 pos2:Pos}
noncomputable def x1o(i:Nat):TE2:=fun _ ρ δ q=>match dicV ρ i with |some kvs=>q (.lst (kvs.map (·.2))) ρ δ |none=>False
noncomputable def t2LenD(i:Nat):TE2:=fun _ ρ δ q=>match dicV ρ i with |some kvs=>q (.int (kvs.length:Nat)) ρ δ |none=>False
end
end DL
namespace DL
open PySem PySem.Spec L2
structure DI(l:List (Key×D))(g:Int→Int→Prop):Prop where
 nd:(l.map (·.1)).Nodup
 all:∀kv∈l,∃k v:Int,kv=(.inl k,.int v)∧g k v
end DL
namespace L2
open PySem PySem.Spec PyProof.Rows PySem.Calls
section
variable{prog:Program}{w:World}{A:Around}{E:Value→Shared→Prop}{I:Addr}{fp wr:List Addr}{n:Nat}{P:Nat→Value→Prop}{St:Nat→Heap→Prop}
end
section
variable{prog:Program}{w:World}{A:Around}{E:Value→Shared→Prop}{s:Shared}
end
section
variable{X:Cx}{pos:Pos}
end
end L2
namespace DL
open PySem PySem.Spec L2
noncomputable def g2L(is:List Nat):G2:=fun d ρ=>match d with | .lst ds=>s0o is ds ρ |_=>none
end DL
namespace L2
open PySem PySem.Spec PyProof.Rows
section
variable{X:Cx}
end
end L2
namespace DL
open PySem PySem.Spec L2
noncomputable def eqL:F2:=fun d1 d2 q=>match d1,d2 with | .lst xs,.lst ys=>(xs.all x8&&ys.all x8)=true∧q (.bl (eqDs xs ys))|_,_=>False
end DL
namespace L2
open PySem PySem.Spec PyProof.Rows
section
variable{X:Cx}{pins:List (Addr×Obj)}{σ:St}{H:Hp}{s:Shared}
end
end L2
namespace DL
open PySem PySem.Spec L2
noncomputable def eqR:D→D→Option Bool
 | .tup xs,.tup ys=>if (xs.all x8&&ys.all x8)=true then some (eqDs xs ys)else none
 | .lst xs,.lst ys=>if (xs.all x8&&ys.all x8)=true then some (eqDs xs ys)else none
 |x,y=>if (x8 x&&x8 y)=true then some (eqV (toV x) (toV y))else none
noncomputable def eqRs:List D→List D→Option Bool
 | [],[]=>some true
 |x::xs,y::ys=>match eqR x y,eqRs xs ys with |some a,some b=>some (a&&b)|_,_=>none
 | [],_::_=>some false
 |_::_,[]=>some false
noncomputable def eqRF(neg:Bool):F2:=fun d1 d2 q=>match d1,d2 with
 | .lst xs,.lst ys=>(match eqRs xs ys with |some r=>q (.bl (if neg=true then !r else r))|none=>False)
 | .tup xs,.tup ys=>(match eqRs xs ys with |some r=>q (.bl (if neg=true then !r else r))|none=>False)
 |_,_=>False
end DL
namespace L2
open PySem PySem.Spec PyProof.Rows PySem.Calls
section
variable{X:Cx}
end
end L2
namespace DL
open PySem PySem.Spec L2
section
variable{X:Cx}{Y:Y2}{W:XW}{te:TE2}{K:Frag}
noncomputable def pairK(kv:Key×D):D:=.tup [keyD kv.1,kv.2]
noncomputable def x1n(te:TE2):TI2:=fun x ρ δ q=>te x ρ δ fun d ρ1 δ1=>match d with | .dwk kvs=>q (kvs.map pairK) ρ1 δ1 |_=>False
end
section
variable{K:Frag}
noncomputable def bigD(ns:List Int):Prop:=(∀n∈ns,0≤n)∧ns.sum<2^63
noncomputable def sumB:F1:=fun ds q=>match ds with | [d]=>(match seqD d with |some xs=>(match i0o xs with |some ns=>bigD ns∧q (.int ns.sum)|none=>False)|none=>False)|_=>False
end
section
variable{X:Cx}{Y:Y2}{W:XW}{e:Expr}{te:TE2}{x:Str}{pos pos':Pos}
noncomputable def t2AugM(i:Nat)(te:TE2):TS2:=fun E ρ δ=>rdV ρ i fun d1 ρ0=>te E.xc ρ0 δ fun d2 ρ1 δ1=>match d1,d2 with | .int a,.int b=>CMul a b∧E.nx (ρ1.set i (.val (.int (a*b)))) δ1 |_,_=>False
end
end DL
namespace DL
open PySem PySem.Spec L2
noncomputable def x1m:F1:=fun ds q=>match ds with | [.int i,.int j]=>CDiv i j∧q (.tup [.int (i/j),.int (i%j)])|_=>False
end DL
namespace DL
open PySem PySem.Spec L2
section
variable{X:Cx}{Y:Y2}{W:XW}{pos pos' bpos:Pos}{a b:Expr}{ta tb:TE2}{x:Str}
noncomputable def c0a(i:Nat)(ta tb:TE2):TS2:=fun E ρ δ=>ta E.xc ρ δ fun d1 ρ1 δ1=>tb E.xc ρ1 δ1 fun d2 ρ2 δ2=>match d1,d2 with
 | .lst xs,.lst ys=>xs.length+ys.length≤1000∧E.nx (ρ2.set i (.own (xs++ys))) δ2
 |_,_=>False
end
end DL
namespace L2
open PySem PySem.Spec PyProof.Rows PySem.Calls PySem.W
section
variable{X:Cx}
variable{tg:Expr}
end
end L2
namespace DL
open PySem PySem.Spec L2
section
variable{X:Cx}{Y:Y2}{W:XW}{te:TE2}{K:Frag}{tg:Expr}
end
section
variable{X:Cx}{Y:Y2}{W:XW}{x:Str}{p apos cpos p2 pos2:Pos}
end
end DL
namespace L2
open PySem PySem.Spec PyProof.Rows
open AutoSeq1 (wpAny_loadPart')
section
variable{prog:Program}{w:World}{A:Around}{E:Value→Shared→Prop}{s:Shared}
theorem s0k{T newId initId:String}{Bn Bi:Builtin}{args:List Value}{kw:List (Str×Value)}{S:PySem.Spec}{Q Q₁:Value→Shared→Prop}(ft:TypeCalled T newId initId)
 (hct:checkTypeCall T ⟨args,kw⟩=pure ()) (hcn:checkBuiltinCall newId ⟨.type T::args,kw⟩=pure ())
 (entryN:entryFor table newId=some Bn) (entryI:entryFor table initId=some Bi) (g:Meets (Bn ⟨.type T::args,kw⟩) S)
 (h:S A.in1 (wants Q₁ E) s)
 (hnext:∀obj s₁,Q₁ obj s₁→s₁.TypeIs obj T∧argsOk initId ⟨obj::args,kw⟩∧∃Si,Meets (Bi ⟨obj::args,kw⟩) Si∧Si A.in1 (wants (fun r s₂=>r=.none∧Q obj s₂) E) s₁):
 wpAny (model prog w) A (call (.type T) args kw) Q E s:=by
 obtain ⟨c,tl,hmro⟩:=ft.mro;have hmade:=ft.made;have hsub:=ft.sub;refine wpAny_call (codeAny_of_tree ?_);show wpAny _ _ (callAny (.type T) _) _ _ _;refine wpAny_pure ⟨Code.quiet_builtin _ (by decide +kernel),codeAny_builtin F.entry_type_call ?_⟩;rw[Around.under_plain (weight_type_call_type T args kw) (units_type_call_type T args kw)];have h1:=ft.notType;have h2:=ft.canCreate
 repeat (any_goals (first |assumption |wp_step))
 refine codeAny_mono (codeAny_call_builtin ft.plain entryN (wpAny_of_eq hcn (g prog w A.in1 _ s h))) fun r s₁ hr=>?_
 cases r with
 |error e=>exact hr
 |ok fl=>
  cases fl with
  |ret obj=>
   obtain ⟨hT,hok,Si,gi,hsi⟩:=hnext _ _ hr;have hli:=ft.init.lookup;have hbi:=ft.init.bind obj
   repeat (any_goals (first |assumption |wp_step))
   refine codeAny_mono (codeAny_call_builtin ft.init.plain entryI (ft.init.check _ _ _ _ _ _ _ _ hT hok (gi prog w A.in1 _ s₁ hsi))) fun r₂ s₂ hr₂=>?_
   cases r₂ with
   |error e=>exact hr₂
   |ok fl₂=>
    cases fl₂ with
    |ret r=>
     obtain ⟨rfl,hq⟩:=hr₂
     repeat (any_goals (first |assumption |wp_step))
    |_=>exact hr₂.elim
  |_=>exact hr.elim
end
theorem w0a{T newId:String}{self:Value}{a:Value}{rest:List Value}{kw:List (Str×Value)}(hl:typeLookup (.type T) "__init__"=pure (some (.builtin "object.__init__")))
 (hm:Bind.madeBy (.type T)=pure (some newId)) (hne:(some newId !=some "object.__new__")=true):
 Meets (Builtin.«object.__init__» ⟨self::a::rest,kw⟩) (fun _ R s=>s.TypeIs self T∧R (.ok (.ret .none)) s):=by
 refine Meets.of_wp fun prog w A R s hs=>?_
 obtain ⟨hT,hq⟩:=hs
 repeat (any_goals (first |assumption |wp_step))
 exact ⟨_,rfl,hq⟩
theorem g0c(b:Bool)(l:Addr)(xs:Array Value)(n:Int)(t:Tok)(hf:Builtin.SmallTypes.fitsIndex n=true):
 Meets (Builtin.«enumerate.__new__» ⟨[.type "enumerate",.ref l],[("start",.int n t)]⟩) (fun _ R s=>SqAt b s.heap l xs∧
  R (.ok (.ret (.ref (enH b s.heap l).objs.size))) {s with heap:=(enH b s.heap l).push {cls:=.type "enumerate",data:=.fields #[.none,.bool false,.ref s.heap.objs.size,rawInt n,.none,.none]}}):=
 .of_wp fun prog w A R s h=>by
  obtain ⟨hp,g,d,tk,os⟩:=s;obtain ⟨hl,h⟩:=h;have hsub:=sub_enumerate;have q1:SqAt b (Shared.heap ⟨hp,g,d,tk,os⟩) l xs:=hl;have hb:Str.ofString "start"==Str.ofString "start":=by decide
  wp_walk
  refine wpAny_stack_any fun st=>wpAny_pure ?_
  split
  ·rename_i c _ _ _ _ _;cases (c==Value.type "enumerate")
   ·wp_walk using s0n q1
    exact ⟨_,rfl,h⟩
   ·wp_walk using s0n q1
    exact ⟨_,rfl,h⟩
  ·wp_walk using s0n q1
   exact ⟨_,rfl,h⟩
theorem n0r(a v:Value):checkTypeCall "enumerate" ⟨[a],[("start",v)]⟩=pure ():=by kernel_rfl
theorem m0b(a v:Value):checkBuiltinCall "enumerate.__new__" ⟨[.type "enumerate",a],[("start",v)]⟩=pure ():=by kernel_rfl
theorem n0q(o a v:Value):argsOk "object.__init__" ⟨[o,a],[("start",v)]⟩:=by
 unfold argsOk
 kernel_rfl
section
variable{prog:Program}{w:World}{A:Around}{E:Value→Shared→Prop}{s:Shared}
theorem b0z{b:Bool}{l:Addr}{xs:Array Value}{n:Int}{t:Tok}{Q:Value→Shared→Prop}(hf:Builtin.SmallTypes.fitsIndex n=true)(hq:SqAt b s.heap l xs)
 (h:∀h',IsEnum h' (s.heap.objs.size+1) s.heap.objs.size n .none→ItAt b h' s.heap.objs.size l 0→(∀b o,s.heap.get? b=some o→h'.get? b=some o)→Q (.ref (s.heap.objs.size+1)) {s with heap:=h'}):
 wpAny (model prog w) A (call (.type "enumerate") [.ref l] [("start",.int n t)]) Q E s:=by
 refine s0k (Q₁:=fun obj s₁=>s₁.TypeIs obj "enumerate"∧Q obj s₁) F.called_enumerate (n0r _ _) (m0b _ _) F.entry_enumerate_new F.entry_object_init (g0c b l xs n t hf) ⟨hq,?_⟩ fun obj _ hq=>
  ⟨hq.1,n0q obj _ _,_,w0a F.called_enumerate.init.lookup F.called_enumerate.made (by decide),hq.1,rfl,hq.2⟩
 have hz:(enH b s.heap l).objs.size=s.heap.objs.size+1:=Heap.size_push ..;have he:=Heap.get?_push_size (enH b s.heap l) (o:={cls:=.type "enumerate",data:=.fields #[.none,.bool false,.ref s.heap.objs.size,rawInt n,.none,.none]}) rfl;have hi:ItAt b ((enH b s.heap l).push {cls:=.type "enumerate",data:=.fields #[.none,.bool false,.ref s.heap.objs.size,rawInt n,.none,.none]}) s.heap.objs.size l 0:=by
  cases b
  ·exact ⟨_,Heap.get?_push_of_some _ (Heap.get?_push_size _ rfl),rfl,rfl⟩
  ·exact ⟨_,Heap.get?_push_of_some _ (Heap.get?_push_size _ rfl),rfl,rfl⟩
 show _∧_;rw[hz]at he ⊢;exact ⟨⟨_,he,rfl⟩,h _ he hi fun b o x=>Heap.get?_push_of_some _ (Heap.get?_push_of_some _ x)⟩
end
theorem m0a{prog:Program}{w:World}{A:Around}{it:Addr}{fp:List Addr}{n:Nat}{P:Nat→Value→Prop}{St:Nat→Heap→Prop}(D:Draws prog w A it fp n P St)(m:Nat):Draws prog w A it fp (m+n) (fun j v=>∃i,j=m+i∧P i v) (fun j h=>∃i,j=m+i∧St i h)where
 live:=fun i h ⟨j,_,st⟩=>D.live j h st
 frame:=fun i h h' ⟨j,e,st⟩ k=>⟨j,e,D.frame j h h' st k⟩
 item:=fun i s Q E hi ⟨j,e,st⟩ hQ=>D.item j s Q E (by omega) st fun x h' tk p st' sb=>hQ x h' tk ⟨j,e,p⟩ ⟨j+1,by omega,st'⟩ sb
 done:=fun s Q E ⟨j,e,st⟩ hE=>D.done s Q E (by rw[Nat.add_left_cancel e];exact st) hE
noncomputable def IteK(K:PySem.W.Frag)(b:Bool)(a:Addr)(m:Nat):It:=
 ⟨fun i H=>∃xs x,Sq K b H a xs∧xs[i]?=some x,
  fun i H v H'=>∃p x,H p=none∧v=.ref p∧H'=upd H p (.tup [.int ((m+i:Nat):Int),x])∧∀xs,Sq K b H a xs→xs[i]?=some x,
  fun i H=>∃xs,Sq K b H a xs∧xs.length=i⟩
noncomputable def enumTK(b:Bool)(a e j:Addr)(m i:Nat)(h:Heap):Prop:=(∃old,IsEnum h e j ((m+i:Nat):Int) old)∧ItAt b h j a i
theorem i0n{P:Program}{w:World}{K:PySem.W.Frag}{elts:List Expr}{x1}{pos:Pos}(b:Bool)(a e j:Addr)(m:Nat)(hej:e≠j)(na:a≠e∧a≠j):
 Turn P w K (.Tuple elts x1 pos) (IteK K b a m) [e,j] e (enumTK b a e j m)where
 mem:=by simp
 obj:=fun i h st c hc=>by
  obtain ⟨⟨old,he⟩,h1⟩:=st;have hc':c=e∨c=j:=by simpa using hc
  rcases hc' with rfl |rfl
  ·exact ⟨_,he,fun v q=>by simp at q⟩
  ·obtain ⟨o,e,_,d⟩:=h1.obj;exact ⟨o,e,fun v q=>by rw[d]at q;cases q⟩
 keep:=fun i h h' st k=>by
  obtain ⟨⟨old,he⟩,h1⟩:=st;exact ⟨⟨old,k e (by simp) _ he⟩,h1.stay fun o e=>k j (by simp) o e⟩
 item:=by
  intro X hP hw hK hc i pins s σ H E I hf st hg;subst hP hw hK;obtain ⟨xs,x,q1,e1⟩:=hg;obtain ⟨its1,r1,p1,z1⟩:=I.sq q1;obtain ⟨u1,g1,v1⟩:=r1.get e1;obtain ⟨⟨old,he⟩,h1⟩:=st;have l1:=(List.getElem?_eq_some_iff.mp g1).1;have hh:X.A.in1.handled=none:=I.ok.hd hc;have D1:=m0a (x9 b (prog:=X.prog) (w:=X.w) hh j a na.2 its1.toArray) m;refine wpAny_pyNext_enum_itemD D1 he ⟨i,rfl,h1,p1⟩ (by simpa using l1) hej (by simp[hej,na.1.symm]) fun x' h' tk px ho st1 hT' hsz kk=>⟨_,rfl,?_⟩
  obtain ⟨i2,ei,px⟩:=px;have ei:i2=i:=by omega
  subst ei;obtain ⟨i3,ei,st1⟩:=st1;have ei:i3=i2+1:=by omega
  subst ei;have ex:x'=u1:=by
   have px':its1.toArray[i2]?=some x':=px;rw[List.getElem?_toArray,g1]at px';exact (Option.some.inj px').symm
  subst ex;refine wpAny_letOwnedTupleGo_enum (s:={s with heap:=h',toks:=tk+1}) ho fun h₂ he₂ hs₂=>?_
  replace hs₂:Heap.SameBut e h' h₂:=hs₂;have hfr:H s.heap.objs.size=none:=I.hok.fresh (Nat.le_refl _);have Il:Inv X pins σ (upd H s.heap.objs.size (.tup [.int ((m+i2:Nat):Int),x])) {s with heap:=s.heap.push {cls:=.type "tuple",data:=.seq #[.int ((m+i2:Nat):Int) tk,x']}}:=I.laid (t':=s.toks) (fun b u e=>Heap.get?_push_of_some _ e) (Nat.le_refl _)
   ⟨by show 2≤sizeLine;decide,[.int ((m+i2:Nat):Int) tk,x'],.cons ⟨tk,rfl⟩ (.cons v1 .nil),⟨_,Heap.get?_push_size _ rfl,rfl,⟨_,rfl⟩,rfl⟩⟩
  have lt:∀{c o},s.heap.get? c=some o→c≠s.heap.objs.size:=fun e=>Nat.ne_of_lt (Heap.lt_size e)
  have nT:∀c∈[e,j],c≠s.heap.objs.size:=fun c hc=>by
   have hc':c=e∨c=j:=by simpa using hc
   rcases hc' with rfl |rfl
   ·exact lt he
   ·obtain ⟨o,e,_⟩:=h1.obj;exact lt e
  have hn2:∀c∈[e,j],upd H s.heap.objs.size (.tup [.int ((m+i2:Nat):Int),x]) c=none:=fun c hc=>by rw[j0 (nT c hc)];exact (hf c hc).1
  have If:Inv X pins σ (upd H s.heap.objs.size (.tup [.int ((m+i2:Nat):Int),x])) {s with heap:=h₂,toks:=tk+1}:=Inv.turnedL (s:={s with heap:=s.heap.push {cls:=.type "tuple",data:=.seq #[.int ((m+i2:Nat):Int) tk,x']}}) (ch:=[e,j]) (h':=h₂) (t':=tk+1) Il (fun c o hc q=>by
   have hc':c≠e∧c≠j:=by simpa using hc
   rcases Heap.get?_push_cases q with ⟨rfl,rfl⟩|q
   ·exact hs₂.extBut _ _ hc'.1 hT'
   ·exact hs₂.extBut _ _ hc'.1 (kk c o hc'.1 hc'.2 q)) fun c hc=>⟨hn2 c hc,(hf c hc).2⟩
  refine ⟨.ref s.heap.objs.size,_,If,rfl,⟨s.heap.objs.size,x,hfr,rfl,rfl,fun zs hq=>by rw[I.sq_inj hq q1];exact e1⟩,?_,hn2⟩;exact ⟨⟨_,by simpa[Int.add_assoc]using he₂⟩,st1.1.stay fun o q=>hs₂.extBut _ _ hej.symm q⟩
 done:=by
  intro X hP hw hK hc i pins s σ H E I hf st hg;subst hP hw hK;obtain ⟨xs,q1,le⟩:=hg;obtain ⟨its1,r1,p1,z1⟩:=I.sq q1;obtain ⟨⟨old,he⟩,h1⟩:=st;have hh:X.A.in1.handled=none:=I.ok.hd hc;have D1:=x9 b (prog:=X.prog) (w:=X.w) hh j a na.2 its1.toArray;have len1:=r1.length;have en:its1.toArray.size=i:=by simp only[List.size_toArray];omega
  refine wpAny_pyNext_enum_endD D1 he ⟨by rw[en];exact h1,p1⟩ fun h' sb=>⟨rfl,?_⟩
  exact I.turnedL (ch:=[e,j]) (h':=h') (t':=s.toks) (fun c o hc q=>by
   have hc':c≠e∧c≠j:=by simpa using hc
   exact sb c o hc'.2 q) hf
 self:=fun A i s Q E st h=>let ⟨⟨_,he⟩,_⟩:=st;wpAny_pyIter_enum he h
section
variable{M:Model}{A:Around}{E:Value→Shared→Prop}{s:Shared}{env:Env}
theorem r0l{pos:Pos}{T:String}{first:List Value}{args:List (Bool×Sem Value)}{keywords:List (Option Str×Sem Value)}{Q:Value→Shared→Prop}
 (hplain:args.any (·.1)=false) (hkw:keywords.any (·.1.isNone)=false)
 (h:wpAny M A (evalArgs (.type T) true args keywords) (fun a s₁=>wpAny M A (call (.type T) (first++a.pos) a.kw) Q E s₁) E s):
 wpAny M A (callWith pos (.type T) first args keywords) Q E s:=by
 unfold callWith;refine wpAny_bind (wpAny_holding (wpAny_mono h (fun a s₁ h₁=>wpAny_bind (wpAny_standAt ?_)) fun _ _ x=>x));simp only[hplain,hkw,Bool.or_false];refine wpAny_bind (wpAny_pure ?_);exact wpAny_bind (wpAny_mono h₁ (fun r s₂ hr=>wpAny_bind (wpAny_holding (wpAny_point (wpAny_pure hr)))) fun _ _ x=>x)
end
section
variable{X:Cx}{elts:List Expr}{x1:Nat}{tpos:Pos}
noncomputable def iEnuK(K:PySem.W.Frag)(ta:TA)(te:TE):TI:=fun σ H R=>ta σ H fun vs H1=>te σ H1 fun u H2=>∃a b,∃m:Nat,vs=[.ref a]∧u=.int (m:Int)∧m≤1000000∧(∃xs,Sq K b H2 a xs)∧R (IteK K b a m) H2
theorem b0y{a e:Expr}{ta:TA}{te:TE}{p pos kp:Pos}(hg:Gl X "enumerate")(hm:X.mg "enumerate"=none)(ha:PA X [a] ta)(he:PE X e te)(hs:starEach [a] X.env=[(false,eval a X.env)]:=by rfl):
 PI X (.Tuple elts x1 tpos) (.Call (.Name "enumerate" p) [a] [⟨some "start",e,kp⟩] pos) (iEnuK X.K ta te):=by
 intro pins s σ H R I h;refine wpAny_Call_Name_kw (t0z I hg hm t0v (r0l (by rw[hs];rfl) rfl ?_) (by decide) (by decide));have ha2:=ha pos pins s σ H _ I h;rw[hs]at ha2 ⊢;refine evalArgs_kwB rfl (thn ha2 fun us s1 ⟨vs,H1,I1,r1,q1⟩=>?_);refine kws_cons (thn (he pins s1 σ H1 _ I1 q1) fun v s2 ⟨u,H2,I2,r2,a1,b1,m,e1,e2,hm,⟨xs,k1⟩,q⟩=>kws_nil ?_);subst e1 e2;obtain ⟨t,rfl⟩:=r2;cases r1 with
 |cons r rr=>
  cases rr;cases r;obtain ⟨its1,v1,p1,z1⟩:=I2.sq k1;have l1:a1<s2.heap.objs.size:=by obtain ⟨o,e,_⟩:=p1.obj;exact Heap.lt_size e
  have hfit:Builtin.SmallTypes.fitsIndex (m:Int)=true:=by
   unfold Builtin.SmallTypes.fitsIndex;rw[Bool.and_eq_true];exact ⟨decide_eq_true (by omega),decide_eq_true (by omega)⟩
  refine b0z hfit p1 fun h' he i1 kk=>wpAny_pyIter_enum (s:={s2 with heap:=h'}) he ?_
  refine ⟨_,[s2.heap.objs.size+1,s2.heap.objs.size],_,_,H2,rfl,I2.kept (t':=s2.toks) kk,i0n b1 a1 _ _ m (Nat.succ_ne_self _) ⟨Nat.ne_of_lt (Nat.lt_succ_of_lt l1),Nat.ne_of_lt l1⟩,⟨⟨_,he⟩,i1⟩,fun c hc=>?_,q⟩;have hle:s2.heap.objs.size≤c:=by
   have hc':c=s2.heap.objs.size+1∨c=s2.heap.objs.size:=by simpa using hc
   rcases hc' with e |e<;>(rw[e];omega)
  exact I2.fpOk hle (I2.hok.fresh hle)
end
end L2
namespace DL
open PySem PySem.Spec L2
section
variable{X:Cx}{Y:Y2}{W:XW}{K:Frag}
theorem g0b{F:Hp}{b:Bool}{a:Addr}{xs:List V}{ds:List D}{m:Nat}(h:Sq K b F a xs)(r:Reps K F ds xs):SrcOk K (IteK K b a m) F (x0k m ds):=by
 refine ⟨fun i c F' H e s1 s2=>?_,fun F' H s1 s2=>?_⟩
 ·obtain ⟨d,e1,rfl⟩:=w0c e;obtain ⟨v,ev,rv⟩:=r.get e1;have q1:=(s1.trans s2).sq h;refine ⟨⟨xs,v,q1,ev⟩,fun u H' y=>?_⟩;obtain ⟨p,x,hp,rfl,rfl,k1⟩:=y;have e3:=k1 xs q1;rw[ev]at e3;cases e3;exact .inr ⟨p,_,_,hp,rfl,rfl,rfl,Reps.cons (rep_int.mpr rfl) (Reps.cons (rv.mono s1) Reps.nil)⟩
 ·rw[w0d];exact ⟨xs,(s1.trans s2).sq h,r.length⟩
variable{a e:Expr}{ta:TA2}{te:TE2}{p pos tpos kp:Pos}{elts:List Expr}{x1:Nat}
noncomputable def j0s(ta:TA2)(te:TE2):TI2:=fun x ρ δ q=>ta x ρ δ fun ds ρ1 δ1=>te x ρ1 δ1 fun d ρ2 δ2=>match ds,d with | [c],.int m=>(match seqD c with |some xs=>0≤m∧m≤1000000∧q (x0k m.toNat xs) ρ2 δ2 |none=>False)|_,_=>False
theorem b0x(hm:X.mg "enumerate"=none)(ha:PA2 X Y W [a] ta)(he:PE2 X Y W e te)(hg:Gl X "enumerate":=by rfl)(hs:starEach [a] X.env=[(false,eval a X.env)]:=by rfl):
 PI2 X Y W (.Tuple elts x1 tpos) (.Call (.Name "enumerate" p) [a] [⟨some "start",e,kp⟩] pos) (j0s ta te):=pi2 (b0y hg hm ha.go he.go hs) fun σ H R ⟨F,ρ,δ,x,q,I,h,k,kx⟩=>by
 refine ⟨F,ρ,δ,x,_,I,h,fun ds vs F1 H1 ρ1 δ1 I1 s1 r1 h1=>⟨F1,ρ1,δ1,x,_,I1,h1,fun d v F' H' ρ' δ' I' s' r' h'=>?_,kx.mono s1⟩,kx⟩;split at h'
 ·split at h'
  ·rename_i xs e1;obtain ⟨v1,rfl,r2⟩:=d8 (r1.mono s');obtain ⟨a1,vs1,b1,rfl,q1,z1⟩:=j0y e1 r2;obtain ⟨m1,m2,h'⟩:=h';exact ⟨a1,b1,_,rfl,by rw[rep_int.mp r',Int.toNat_of_nonneg m1],by omega,⟨_,I'.sub.sq q1⟩,k _ _ F' H' ρ' δ' I' (s1.trans s') (g0b q1 z1) h'⟩
  ·exact h'.elim
 ·exact h'.elim
end
end DL
namespace DL
open PySem PySem.Spec L2
open PySem.W (XC)
section
variable{K:Frag}{Y:Y2}{F H:Hp}{σ:St}{ρ:En}{δ:Dk}
end
section
variable{X:Cx}{Y:Y2}{W:XW}{px pos:Pos}{target elt iter:Expr}{xs:List Str}{js:List Nat}{scope:Scope}{te:TE2}{ti:TI2}{tup:Bool}{g:TG}
variable(hc:X.calm=true)(S:CompOkM X xs js scope)(hi:PI2 X Y W target iter ti)(hg:(xs++js.map (fun j=>X.N.getD j "")).Nodup→∀C s₀ H₀ fp cl,PG (X.compM xs js scope cl C s₀ H₀ fp) target g)(gm:TgM X.K tup xs.length g)
 (ht:∀C s₀ H₀ fp cl Y',PIf2 (X.compM xs js scope cl C s₀ H₀ fp) Y' W0 [] y0s) (he:∀C s₀ H₀ fp cl Y',PE2 (X.compM xs js scope cl C s₀ H₀ fp) Y' W0 elt te)
include hc S hi hg gm ht he
end
end DL
namespace DL
open PySem PySem.Spec L2
structure Tg{α:Type}(q:α):Type where
noncomputable def t0r(q:K2)(ρ:En)(_:Tg q):D→Dk→Prop:=fun d δ=>q d ρ δ
noncomputable def x1l(x:XK2)(ρ:En)(_:Tg x):Addr→List (Str×D)→Dk→Prop:=fun C fs δ=>x C fs ρ δ
section
variable{q:K2}{x:XK2}{ρ:En}{u:Tg q}{v:Tg x}{δ:Dk}
theorem g0a{d:D}:t0r q ρ u d δ=q d ρ δ:=rfl
theorem k_int{i:Int}:t0r q ρ u (.int i) δ=q (.int i) ρ δ:=rfl
theorem k_bl{i:Bool}:t0r q ρ u (.bl i) δ=q (.bl i) ρ δ:=rfl
theorem k_str{i:Str}:t0r q ρ u (.str i) δ=q (.str i) ρ δ:=rfl
theorem k_non:t0r q ρ u .non δ=q .non ρ δ:=rfl
theorem k_lst{i:List D}:t0r q ρ u (.lst i) δ=q (.lst i) ρ δ:=rfl
theorem k_tup{i:List D}:t0r q ρ u (.tup i) δ=q (.tup i) ρ δ:=rfl
theorem k_ins{C:Addr}{fs:List (Str×D)}:t0r q ρ u (.ins C fs) δ=q (.ins C fs) ρ δ:=rfl
theorem k_ref{i:Addr}:t0r q ρ u (.ref i) δ=q (.ref i) ρ δ:=rfl
theorem k_dwk{i:List (Key×D)}:t0r q ρ u (.dwk i) δ=q (.dwk i) ρ δ:=rfl
theorem k_dic{i:List (Key×D)}:t0r q ρ u (.dic i) δ=q (.dic i) ρ δ:=rfl
theorem x_nil{C:Addr}:x1l x ρ v C [] δ=x C [] ρ δ:=rfl
theorem x_cons{C:Addr}{a:Str×D}{fs:List (Str×D)}:x1l x ρ v C (a::fs) δ=x C (a::fs) ρ δ:=rfl
theorem call_s{sp:Sp2}{t:TA2}{q:K2}:q0t sp t x ρ δ q=t x ρ δ fun ds ρ1 δ1=>sp ds δ1 (t0r q ρ1 ⟨⟩) (x1l x ρ1 ⟨⟩):=rfl
end
theorem q0s{te:TE2}{js:List Nat}{ρ:En}{q:List D→Dk→Prop}{δ:Dk}:∀{ds acc:List D} (es:List D),ds.length=es.length→acc.length+ds.length≤1000→
 (∀(i:Nat) (d e:D),ds[i]?=some d→es[i]?=some e→∀Q:D→Dk→Prop,Q e δ→te (fun _ _ _ _=>False) (.val d::capt ρ js) δ fun e _ δ1=>Q e δ1)→q (acc++es) δ→y0u te js ρ q ds acc δ
 | [],acc,[],_,_,_,fin=>by unfold y0u;rw[List.append_nil]at fin;exact fin
 |d::ds,acc,e::es,hl,ha,step,fin=>by
  unfold y0u;rw[List.length_cons]at ha;rw[List.length_cons,List.length_cons]at hl;exact step 0 d e rfl rfl (fun e δ1=>acc.length<1000∧y0u te js ρ q ds (acc++[e]) δ1) ⟨by omega,q0s es (by omega) (by rw[List.length_append,List.length_singleton];omega) (fun i d e h1 h2=>step (i+1) d e (by rw[List.getElem?_cons_succ];exact h1) (by rw[List.getElem?_cons_succ];exact h2)) (by rw[List.append_assoc];exact fin)⟩
theorem q0r{tup:Bool}{n:Nat}{te:TE2}{js:List Nat}{ρ:En}{q:List D→Dk→Prop}{δ:Dk}:∀{ds acc:List D} (es:List D),ds.length=es.length→acc.length+ds.length≤1000→
 (∀(i:Nat) (d e:D),ds[i]?=some d→es[i]?=some e→∀Q:D→Dk→Prop,Q e δ→∃xs,tgD tup n d=some xs∧te (fun _ _ _ _=>False) (xs.map .val++capt ρ js) δ fun e _ δ1=>Q e δ1)→q (acc++es) δ→compM tup n y0s te js ρ q ds acc δ
 | [],acc,[],_,_,_,fin=>by unfold compM;rw[List.append_nil]at fin;exact fin
 |d::ds,acc,e::es,hl,ha,step,fin=>by
  unfold compM;rw[List.length_cons]at ha;rw[List.length_cons,List.length_cons]at hl;obtain ⟨xs,e1,e2⟩:=step 0 d e rfl rfl (fun e δ1=>acc.length<1000∧compM tup n y0s te js ρ q ds (acc++[e]) δ1) ⟨by omega,q0r es (by omega) (by rw[List.length_append,List.length_singleton];omega) (fun i d e h1 h2=>step (i+1) d e (by rw[List.getElem?_cons_succ];exact h1) (by rw[List.getElem?_cons_succ];exact h2)) (by rw[List.append_assoc];exact fin)⟩;rw[e1];unfold y0s;dsimp only;rw[if_pos rfl];exact e2
theorem v0c{α:Type}{te:TE2}{js:List Nat}{ρ:En}{q:List D→Dk→Prop}{δ:Dk}(g f:α→D)(l:List α)(hl:l.length≤1000)(step:∀a∈l,∀Q:D→Dk→Prop,Q (f a) δ→te (fun _ _ _ _=>False) (.val (g a)::capt ρ js) δ fun e _ δ1=>Q e δ1)(fin:q (l.map f) δ):y0u te js ρ q (l.map g) [] δ:=
 q0s (l.map f) (by rw[List.length_map,List.length_map]) (by rw[List.length_map];show 0+_≤_;omega) (fun i d e hd he Q hQ=>by
  rw[List.getElem?_map,Option.map_eq_some_iff]at hd;obtain ⟨a,ha,rfl⟩:=hd;rw[List.getElem?_map,ha]at he;cases he;exact step a (List.mem_of_getElem? ha) Q hQ) fin
theorem q0q{α:Type}{tup:Bool}{n:Nat}{te:TE2}{js:List Nat}{ρ:En}{q:List D→Dk→Prop}{δ:Dk}(g f:α→D)(l:List α)(hl:l.length≤1000)(step:∀a∈l,∀Q:D→Dk→Prop,Q (f a) δ→∃xs,tgD tup n (g a)=some xs∧te (fun _ _ _ _=>False) (xs.map .val++capt ρ js) δ fun e _ δ1=>Q e δ1)(fin:q (l.map f) δ):compM tup n y0s te js ρ q (l.map g) [] δ:=
 q0r (l.map f) (by rw[List.length_map,List.length_map]) (by rw[List.length_map];show 0+_≤_;omega) (fun i d e hd he Q hQ=>by
  rw[List.getElem?_map,Option.map_eq_some_iff]at hd;obtain ⟨a,ha,rfl⟩:=hd;rw[List.getElem?_map,ha]at he;cases he;exact step a (List.mem_of_getElem? ha) Q hQ) fin
theorem t8{α:Type}{tup:Bool}{n:Nat}{tc:TT2}{te:TE2}{js:List Nat}{ρ:En}{q:List D→Dk→Prop}{δ:Dk}(g f:α→D)(p:α→Bool):∀(l:List α) {acc:List D},acc.length+l.length≤1000→
 (∀a∈l,∀Q:Option D→Dk→Prop,(p a=true→Q (some (f a)) δ)→(p a=false→Q none δ)→∃xs,tgD tup n (g a)=some xs∧tc (fun _ _ _ _=>False) (xs.map .val++capt ρ js) δ fun b ρ1 δ1=>if b=true then te (fun _ _ _ _=>False) ρ1 δ1 fun e _ δ2=>Q (some e) δ2 else Q none δ1)→q (acc++(l.filter p).map f) δ→compM tup n tc te js ρ q (l.map g) acc δ
 | [],acc,_,_,fin=>by rw[List.map_nil];unfold compM;rw[List.filter_nil,List.map_nil,List.append_nil]at fin;exact fin
 |a::l,acc,hl,step,fin=>by
  rw[List.map_cons];unfold compM;rw[List.length_cons]at hl;obtain ⟨xs,e1,e2⟩:=step a (List.mem_cons_self ..) (fun o δ1=>match o with |some e=>acc.length<1000∧compM tup n tc te js ρ q (l.map g) (acc++[e]) δ1 |none=>compM tup n tc te js ρ q (l.map g) acc δ1)
   (fun h=>⟨by omega,t8 g f p l (by rw[List.length_append,List.length_singleton];omega) (fun b hb=>step b (List.mem_cons_of_mem _ hb)) (by rw[List.filter_cons_of_pos h,List.map_cons]at fin;rw[List.append_assoc];exact fin)⟩)
   (fun h=>t8 g f p l (by omega) (fun b hb=>step b (List.mem_cons_of_mem _ hb)) (by rw[List.filter_cons_of_neg (by rw[h];exact Bool.false_ne_true)]at fin;exact fin))
  rw[e1];exact e2
theorem a0a{α:Type}{gt:G2}{body:TS2}{E:End2}{ρ:En}{δ:Dk}(g:α→D)(l:List α)(P:Nat→En→Dk→Prop)(h0:P 0 ρ δ)(step:∀(i:Nat) (a:α) (ρ:En) (δ:Dk) (rest:En→Dk→Prop),l[i]?=some a→P i ρ δ→(∀ ρ' δ',P (i+1) ρ' δ'→rest ρ' δ')→w0e gt body E rest (g a) ρ δ)(fin:∀ ρ δ,P l.length ρ δ→E.nx ρ δ):forL gt body E (l.map g) ρ δ:=
 y0t P h0 (fun i d ρ δ rest hd hp hr=>by
  rw[List.getElem?_map,Option.map_eq_some_iff]at hd;obtain ⟨a,ha,rfl⟩:=hd;exact step i a ρ δ rest ha hp hr) (by rw[List.length_map];exact fin)
theorem z1z{α:Type}{gt:G2}{body:TS2}{E:End2}{ρ:En}{δ:Dk}(g:α→D)(l:List α)(P:Nat→En→Dk→Prop)(h0:P 0 ρ δ)(step:∀(i:Nat) (a:α) (ρ:En) (δ:Dk) (rest:En→Dk→Prop),l[i]?=some a→P i ρ δ→(∀ ρ' δ',P (i+1) ρ' δ'→rest ρ' δ')→w0e gt body E rest (.tup [.int (i:Int),g a]) ρ δ)(fin:∀ ρ δ,P l.length ρ δ→E.nx ρ δ):forL gt body E (x0k 0 (l.map g)) ρ δ:=
 y0t P h0 (fun i d ρ δ rest hd hp hr=>by
  obtain ⟨z,hz,rfl⟩:=w0c hd;rw[List.getElem?_map,Option.map_eq_some_iff]at hz;obtain ⟨a,ha,rfl⟩:=hz;rw[Nat.zero_add];exact step i a ρ δ rest ha hp hr) (by rw[w0d,List.length_map];exact fin)
end DL
namespace L2
open PySem PySem.Spec PyProof.Rows PySem.SeqAt
section
variable{X:Cx}
end
end L2
namespace DL
open PySem PySem.Spec L2
section
variable{X:Cx}{Y:Y2}{W:XW}{o e b:Expr}{es:List Expr}{ta tb:TE2}{t:TA2}{p pos apos cpos:Pos}
structure TopRow(K:Frag)(mg:Str→Option Value)(x:Str)(ds:List D):Prop where
 ex:∃a vs,mg x=some (.ref a)∧(∀H,SqT K H a vs)∧∀F,Reps K F ds vs
theorem topRow3{K:Frag}{mg:Str→Option Value}{x:Str}{a:Addr}{s1 s2 s3:Str}{t1 t2 t3:Tok}{n:Nat}{dd:Option Addr}{sl:Array (Option Value)}(hm:mg x=some (.ref a))(hk:K.lookup a=some {cls:=.type "tuple",dict:=dd,data:=.seq ⟨[.str s1 t1,.str s2 t2,.str s3 t3]⟩ n,slots:=sl}):TopRow K mg x [.str s1,.str s2,.str s3]:=
 ⟨a,[.str s1,.str s2,.str s3],hm,fun H=>.inr ⟨_,_,n,hk,rfl,rfl,by show 3≤sizeLine;decide,.cons ⟨t1,rfl⟩ (.cons ⟨t2,rfl⟩ (.cons ⟨t3,rfl⟩ .nil))⟩,fun F=>Reps.cons (rep_str.mpr rfl) (Reps.cons (rep_str.mpr rfl) (Reps.cons (rep_str.mpr rfl) Reps.nil))⟩
end
theorem ko_str{K:Frag}{x:Str}:y0y K (.str x) (.ty "str")=some true:=by
 unfold y0y;exact show PySem.W.kitOne K (.type "str") (.type "str")=some true by unfold PySem.W.kitOne;rfl
end DL
namespace L2
open PySem PySem.Spec PyProof.Rows PySem.Calls PySem.W
section
variable{X:Cx}
end
end L2
namespace DL
open PySem PySem.Spec L2
end DL
namespace L2
open PySem PySem.Spec PyProof.Rows PySem.Calls PySem.W
section
variable{prog:Program}{w:World}{A:Around}{E:Value→Shared→Prop}{s:Shared}
end
section
variable{X:Cx}
end
end L2
namespace DL
open PySem PySem.Spec L2
section
variable{X:Cx}{Y:Y2}{W:XW}{e:Expr}{te:TE2}{p p2 pos pos2:Pos}
end
end DL
namespace L2
open PySem PySem.Spec PyProof.Rows
open PySem.W (XC)
section
variable{X:Cx}{pins:List (Addr×Obj)}{σ:St}{H:Hp}{s:Shared}
end
end L2
namespace L2
open PySem PySem.Spec PyProof.Rows
structure FnOkH(P:Program)(w:World)(K:PySem.W.Frag)(mg:Str→Option Value)(base:Heap)(k:Nat)(f:Addr)(fd:FuncData)(ps:List Str)(sp:Addr→Sp):Prop where
 len:∀h vs H Q E,sp h vs H Q E→vs.length=ps.length
 run:∀(h:Addr) (A:Around) (outer:List Env) (s:Shared) (H:Hp) (args:Args) (us:List Value) (vs:List V) (Q:VK) (E:XK),A.handled=some (.ref h)→RoomU k A→Env0 P w K mg base A outer s H→BindsTo s fd args (ps.zip us)→Vals vs us→sp h vs H Q E→
  codeAny (model P w) A (.call (.ref f) args) (CR (CXc false P w) outer P w H s Q E) s
structure FnAtH(P:Program)(w:World)(K:PySem.W.Frag)(mg:Str→Option Value)(base:Heap)(x:Str)(k:Nat)(ps:List Str)(sp:Addr→Sp):Prop where
 ex:∃f fd,FnOkH P w K mg base k f fd ps sp∧mg x=some (.ref f)∧PySem.W.keepIn K (.ref f)=true∧Binds K fd ps []
section
variable{P:Program}{w:World}{K:PySem.W.Frag}{mg:Str→Option Value}{base:Heap}
end
section
variable{X:Cx}{pins:List (Addr×Obj)}{σ:St}{H:Hp}{s:Shared}
end
end L2
namespace DL
open PySem PySem.Spec L2
open PySem.W (XC)
open PyProof.Rows (envOfC)
section
variable{X:Cx}{Y:Y2}{W:XW}{x:Str}{p pos cpos:Pos}{e:Expr}{es:List Expr}{t:TA2}{k:Nat}{ps:List Str}{sp:Sp2}{hd:Addr}
end
section
variable{P:Program}{w:World}{K:Frag}{mg:Str→Option Value}{base:Heap}
end
section
variable{K:Frag}{Y:Y2}{F H F' H':Hp}{σ:St}{ρ:En}{δ:Dk}{x:Addr}{o:HO}
end
end DL
namespace DL
open PySem PySem.Spec L2
section
variable{X:Cx}{Y:Y2}{W:XW}{D:Addr}{y n:Str}{np pos:Pos}{b₀:Stmt}{suite:List Stmt}{rest:List ExceptHandler}{ts:TS2}{tr:XTS2}
end
end DL
namespace DL
open PySem PySem.Spec L2
section
variable{X:Cx}{Y:Y2}{W:XW}{a:Expr}{ta:TA2}{p p2 pos pos2:Pos}
end
end DL
namespace L2
open PySem PySem.Spec PyProof.Rows Builtin Builtin.Str
theorem y0p{n:Nat}(h:n≤100000):n≤sizeLine:=by rw[sizeLine_eq];omega
theorem n0p:∀(l:List (Str×Tok)),Vals ((l.map (·.1)).map V.str) (strValues l)
 | []=>.nil
 |(x,t)::l=>.cons ⟨t,rfl⟩ (n0p l)
theorem n0o:∀{zs:List Str} {us:List Value},Vals (zs.map V.str) us→StrsAre us zs
 | [],us,h=>by cases h;exact .nil
 |z::zs,us,h=>by
  rw[List.map_cons]at h;cases h with
  |cons r1 r2=>obtain ⟨t,rfl⟩:=r1;exact .cons z t (n0o r2)
section
variable{X:Cx}
theorem y0e:OpR X (binaryOp .Mult) (fun x y H Q=>∃z n,x=.str z∧y=.int n∧0≤n∧n≤1000∧z.length≤100∧Q (.str (Txt.mul z n)) H):=by
 intro pins s σ H x y v u Q I rx ry h;obtain ⟨z,n,rfl,rfl,h1,h2,h3,q⟩:=h;obtain ⟨t,rfl⟩:=rx;obtain ⟨t',rfl⟩:=ry;refine SB.mul ⟨?_,fun _ _=>?_,fun _ _=>?_⟩ fun t' k=>⟨.str _,H,I.tok _,⟨_,rfl⟩,q⟩
 ·have e1:decide (n< -(2^63:Int))=false:=decide_eq_false (by omega);have e2:decide (n≥2^63)=false:=decide_eq_false (by omega);rw[e1,e2];rfl
 ·have:(100:Int)≤(2^63-1)/n:=Int.le_ediv_of_mul_le (by omega) (by omega);omega
 ·unfold tooLong;exact decide_eq_false (by have:z.length*n.toNat≤100*1000:=Nat.mul_le_mul h3 (by omega);rw[sizeLine_eq];omega)
noncomputable def z1y:V→List V→Hp→VK→Prop:=fun x vs H Q=>∃z y,x=.str z∧vs=[.str y]∧(y.length==0)=false∧z.length≤100000∧∀p,H p=none→Q (.ref p) (upd H p (.lst ((Txt.split z y).map V.str)))
theorem p0r:MtR X "str.split" z1y:=by
 intro pins s σ H x vs v us Q I rx rv h;obtain ⟨z,y,rfl,rfl,hy,hz,q⟩:=h;obtain ⟨t,rfl⟩:=rx;obtain ⟨_,rfl,t',rfl⟩:=rv.one;have hle:=split_le z y;have fin:∀(l:List (Str×Tok)) (k:Nat),l.map (·.1)=Txt.split z y→EP X pins σ Q (.ref s.heap.objs.size) {s with toks:=k,heap:=s.heap.push {cls:=.type "list",data:=.seq (strValues l).toArray}}:=fun l k e=>by
  refine ⟨.ref s.heap.objs.size,_,I.laid (t':=k) (o:=.lst ((Txt.split z y).map V.str)) (fun b ob q=>Heap.get?_push_of_some _ q) (Nat.le_refl _) ⟨?_,strValues l,0,?_,Heap.get?_push_size _ rfl⟩,rfl,q _ (I.hok.fresh (Nat.le_refl _))⟩
  ·rw[List.length_map];rw[sizeLine_eq];omega
  ·rw[←e];exact n0p l
 cases h1:(decide (z.length<y.length)||decide (strKind z<strKind y))
 ·cases hf:(occurrences z y 0 z.length (z.length+1)).isEmpty
  ·have e:Txt.split z y=partsBetween z (occurrences z y 0 z.length (z.length+1)) y.length:=(if_neg (ne_true_of_eq_false h1)).trans (if_neg (ne_true_of_eq_false hf));refine call_meets F.slot_str_split (typeIs_str _ _ _) F.entry_str_split (F.args_str_split_2 _ _) (meets_str_split_sep z y t t' h1 hy hf (y0p hz) (by rw[←e,sizeLine_eq];omega)) ?_;show wants _ _ _ {s with toks:=_,heap:=s.heap.push {cls:=.type "list",data:=.seq (strsFrom s.toks (partsBetween z (occurrences z y 0 z.length (z.length+1)) y.length)).toArray}};rw[strsFrom_eq];exact fin (numbered s.toks _) _ ((numbered_texts _ _).trans e.symm)
  ·exact call_meets F.slot_str_split (typeIs_str _ _ _) F.entry_str_split (F.args_str_split_2 _ _) (meets_str_split_not_found z y t t' h1 hy hf)
    (fin [(z,t)] _ ((if_neg (ne_true_of_eq_false h1)).trans (if_pos hf)).symm)
 ·exact call_meets F.slot_str_split (typeIs_str _ _ _) F.entry_str_split (F.args_str_split_2 _ _) (meets_str_split_cannot_occur z y t t' h1)
   (fin [(z,t)] _ (if_pos h1).symm)
noncomputable def rJoin(K:PySem.W.Frag):V→List V→Hp→VK→Prop:=fun x vs H Q=>∃z l zs,x=.str z∧vs=[.ref l]∧SqL K H l (zs.map V.str)∧z.length≤64∧(zs.map (·.length)).sum+zs.length*64≤100000∧Q (.str (Txt.join z zs)) H
theorem s0j:MtR X "str.join" (rJoin X.K):=by
 intro pins s σ H x vs v us Q I rx rv h;obtain ⟨z,l,zs,rfl,rfl,hl,h1,h2,q⟩:=h;obtain ⟨t,rfl⟩:=rx;obtain ⟨_,rfl,ru⟩:=rv.one;cases ru;obtain ⟨its,r,pl,_⟩:=I.list hl;exact join_listC pl.isList (n0o (by simpa using r)) h1 (by omega) fun t' k=>⟨.str _,H,I.tok _,⟨_,rfl⟩,q⟩
noncomputable def rEnds:V→List V→Hp→VK→Prop:=fun x vs H Q=>∃z y,x=.str z∧vs=[.str y]∧Q (.bl (Txt.endswith z y)) H
theorem x1k:MtR X "str.endswith" rEnds:=by
 intro pins s σ H x vs v us Q I rx rv h;obtain ⟨z,y,rfl,rfl,q⟩:=h;obtain ⟨t,rfl⟩:=rx;obtain ⟨_,rfl,t',rfl⟩:=rv.one;exact SC.endswith ⟨.bl _,H,I,rfl,q⟩
noncomputable def rSlS:V→Option Int→Option Int→Hp→VK→Prop:=fun x lo hi H Q=>∃z,x=.str z∧z.length≤100000∧Q (.str (Txt.slice z lo hi)) H
theorem sl_str:SlR X rSlS:=by
 intro pins s σ H x v vl vu lo hi sl Q I rx hs pl pu h;obtain ⟨z,rfl,hz,q⟩:=h;obtain ⟨t,rfl⟩:=rx;refine ⟨"str",_,F.slot_str_getitem.lookup,typeIs_str _ _ _,?_⟩;cases pl with
 |none=>
  cases pu with
  |none=>exact wpAny_getItem_str_slice (l:=none) (u:=none) (st:=none) hs rfl (post_val_or_str ⟨Nat.le_trans (Txt.slice_le z _ _) (y0p hz),fun t' k=>⟨.str _,H,I.tok _,⟨_,rfl⟩,q⟩⟩)
  |int j uj=>exact wpAny_getItem_str_slice (l:=none) (u:=some (j,uj)) (st:=none) hs rfl (post_val_or_str ⟨Nat.le_trans (Txt.slice_le z _ _) (y0p hz),fun t' k=>⟨.str _,H,I.tok _,⟨_,rfl⟩,q⟩⟩)
 |int i ui=>
  cases pu with
  |none=>exact wpAny_getItem_str_slice (l:=some (i,ui)) (u:=none) (st:=none) hs rfl (post_val_or_str ⟨Nat.le_trans (Txt.slice_le z _ _) (y0p hz),fun t' k=>⟨.str _,H,I.tok _,⟨_,rfl⟩,q⟩⟩)
  |int j uj=>exact wpAny_getItem_str_slice (l:=some (i,ui)) (u:=some (j,uj)) (st:=none) hs rfl (post_val_or_str ⟨Nat.le_trans (Txt.slice_le z _ _) (y0p hz),fun t' k=>⟨.str _,H,I.tok _,⟨_,rfl⟩,q⟩⟩)
noncomputable abbrev TJ:=St→Hp→Str→VK→Prop
noncomputable def PJ(X:Cx)(es:List Expr)(t:TJ):Prop:=∀(pins:List (Addr×Obj)) (s:Shared) (σ:St) (H:Hp) (out:Str) (Q:VK),Inv X pins σ H s→t σ H out Q→wpAny (model X.prog X.w) X.A (joinParts out (evalEach es X.env)) (EP X pins σ Q) X.xe s
end
end L2
namespace DL
open PySem PySem.Spec L2
noncomputable def mulS:F2:=fun d1 d2 q=>match d1,d2 with
 | .str z,.int n=>0≤n∧n≤1000∧z.length≤100∧q (.str (Txt.mul z n))
 |_,_=>False
theorem j0r{K:PySem.W.Frag}:OpD K (fun x y H Q=>∃z n,x=V.str z∧y=V.int n∧0≤n∧n≤1000∧z.length≤100∧Q (V.str (Txt.mul z n)) H) mulS:=by
 intro Y F H σ ρ δ x y d1 d2 Q1 q I r1 r2 h' k;unfold mulS at h';split at h'
 ·rename_i z n;exact ⟨z,n,rep_str.mp r1,rep_int.mp r2,h'.1,h'.2.1,h'.2.2.1,k _ _ F H I (Same.refl F) (rep_str.mpr rfl) h'.2.2.2⟩
 ·exact h'.elim
noncomputable def addT:F2:=fun d1 d2 q=>match d1,d2 with
 | .str x,.str y=>x.length+y.length≤100000∧q (.str (x++y))
 |_,_=>False
theorem n3{K:PySem.W.Frag}:OpD K (fun x y H Q=>∃i j,x=V.str i∧y=V.str j∧i.length+j.length≤sizeLine∧Q (V.str (i++j)) H) addT:=by
 intro Y F H σ ρ δ x y d1 d2 Q1 q I r1 r2 h' k;unfold addT at h';split at h'
 ·rename_i a b;exact ⟨a,b,rep_str.mp r1,rep_str.mp r2,y0p h'.1,k _ _ F H I (Same.refl F) (rep_str.mpr rfl) h'.2⟩
 ·exact h'.elim
noncomputable abbrev FS:=Str→List D→(D→Prop)→Prop
noncomputable def MtSD(K:Frag)(r:V→List V→Hp→VK→Prop)(f:FS):Prop:=∀(Y:Y2) (F H:Hp) (σ:St) (ρ:En) (δ:Dk) (z:Str) (es:List D) (us:List V) (Q1:VK) (q:D→Prop),I2 K Y F H σ ρ δ→Reps K F es us→f z es q→
 (∀d v F' H',I2 K Y F' H' σ ρ δ→Same F F'→Rep K F' d v→q d→Q1 v H')→r (.str z) us H Q1
section
variable{X:Cx}{Y:Y2}{W:XW}{o e:Expr}{es:List Expr}{ta:TE2}{t:TA2}{p pos apos cpos:Pos}
noncomputable def t2SM(f:FS)(ta:TE2)(t:TA2):TE2:=fun x ρ δ q=>ta x ρ δ fun d ρ1 δ1=>match d with | .str z=>t x ρ1 δ1 fun es ρ2 δ2=>f z es fun r=>q r ρ2 δ2 |_=>False
theorem up_sm{f:FS}{r:V→List V→Hp→VK→Prop}(hf:MtSD X.K r f){σ:St}{H:Hp}{Q:VK}(h:upE X.K Y W (t2SM f ta t) σ H Q):tBM X.K "str" r (upE X.K Y W ta) (upA X.K Y W t) σ H Q:=by
 obtain ⟨F,ρ,δ,x,q,I,h,k,kx⟩:=h;refine ⟨F,ρ,δ,x,_,I,h,fun d v F1 H1 ρ1 δ1 I1 s1 r1 h1=>?_,kx⟩;cases d with
 |str z=>
  rw[rep_str.mp r1];refine ⟨rfl,F1,ρ1,δ1,x,_,I1,h1,fun es us F2 H2 ρ2 δ2 I2' s2 r2 h2=>?_,kx.mono s1⟩;exact hf Y F2 H2 σ ρ2 δ2 z es us _ _ I2' r2 h2 fun d v F' H' I' s' r' q'=>k d v F' H' ρ2 δ2 I' ((s1.trans s2).trans s') r' q'
 |_=>exact h1.elim
theorem n0n{name:Str}{id:String}{f:FS}{r:V→List V→Hp→VK→Prop}(slot:Slot "str" name id)(hty:typeOf (.builtin id)=pure (.type "method_descriptor"))(hm:MtR X id r)(hf:MtSD X.K r f)(ho:PE2 X Y W o ta)(ha:PA2 X Y W (e::es) t)(hbase:attributeBase o name X.env (eval o X.env)=eval o X.env:=by rfl)
 (hfew:((backTo cpos (starEach (e::es) X.env)).all (fun x=>!x.1)&&(backToKw cpos (keywordEach [] X.env)).all (fun x=>x.1.isSome)
  &&decide ((e::es).length+([]:List Keyword).length+(if ([]:List Keyword).isEmpty then 0 else 1)<30))=true:=by rfl)
 (hline:(apos.endLine==cpos.line)=true:=by rfl) (hs:starEach (e::es) X.env=(false,eval e X.env)::starEach es X.env:=by exact b6 rfl) (hplain:(backTo cpos (starEach es X.env)).any (·.1)=false:=by exact g7 rfl):
 PE2 X Y W (.Call (.Attribute o name apos) (e::es) [] cpos) (t2SM f ta t):=pe2 (y1z PySem.F.plainAttrs_str slot hty hm ho.go ha.go hbase hfew hline hs hplain) fun σ H Q h=>up_sm hf h
noncomputable def l0z:List D→Option (List Str)
 | []=>some []
 | .str x::ds=>(l0z ds).map (x::·)
 |_::_=>none
theorem z1x{K:Frag}{F:Hp}:∀{ds:List D} {vs:List V} {zs:List Str},l0z ds=some zs→Reps K F ds vs→vs=zs.map V.str
 | [],vs,zs,h,r=>by cases h;rw[reps_nil.mp r];rfl
 |d::ds,vs,zs,h,r=>by
  obtain ⟨v,l,rfl,r1,r2⟩:=reps_cons.mp r;cases d with
  |str x=>
   unfold l0z at h;obtain ⟨ws,e,rfl⟩:=Option.map_eq_some_iff.mp h;rw[rep_str.mp r1,z1x e r2];rfl
  |_=>cases h
theorem b0w{zs:List Str}:l0z (zs.map D.str)=some zs:=by
 induction zs with
 |nil=>rfl
 |cons z zs ih=>show (l0z (zs.map D.str)).map (z::·)=_;rw[ih];rfl
theorem s0i{K:Frag}{F:Hp}:∀(zs:List Str),Reps K F (zs.map D.str) (zs.map V.str)
 | []=>Reps.nil
 |z::zs=>Reps.cons (rep_str.mpr rfl) (s0i zs)
noncomputable def f0z:FS:=fun z es q=>match es with | [.lst ds]=>(match l0z ds with |some zs=>z.length≤64∧(zs.map (·.length)).sum+zs.length*64≤100000∧q (.str (Txt.join z zs))|none=>False)|_=>False
theorem n0m{K:Frag}:MtSD K (rJoin K) f0z:=by
 intro Y F H σ ρ δ z es us Q1 q I r h' k;unfold f0z at h';split at h'
 ·rename_i ds;split at h'
  ·rename_i zs e;obtain ⟨v,rfl,r1⟩:=d8 r;obtain ⟨a,vs,rfl,ea,zz⟩:=rep_lst.mp r1;rw[z1x e zz]at ea;exact ⟨z,a,zs,rfl,rfl,SqL.of (I.sub _ _ ea),h'.1,h'.2.1,k _ _ F H I (Same.refl F) (rep_str.mpr rfl) h'.2.2⟩
  ·exact h'.elim
 ·exact h'.elim
noncomputable def n0l:FS:=fun z es q=>match es with | [.str y]=>(y.length==0)=false∧z.length≤100000∧q (.lst ((Txt.split z y).map D.str))|_=>False
theorem f0y{K:Frag}:MtSD K z1y n0l:=by
 intro Y F H σ ρ δ z es us Q1 q I r h' k;unfold n0l at h';split at h'
 ·rename_i y;obtain ⟨v,rfl,r1⟩:=d8 r;rw[rep_str.mp r1];exact ⟨z,y,rfl,rfl,h'.1,h'.2.1,fun p hp=>k _ _ _ _ (I.alloc hp) (I.grow hp) (I.lst hp (s0i _)) h'.2.2⟩
 ·exact h'.elim
noncomputable def x1j:FS:=fun z es q=>match es with | [.str y]=>z.length≤100000∧q (.str (Txt.rstripChars z y))|_=>False
noncomputable def f0x:FS:=fun z es q=>match es with | [.str y]=>q (.bl (Txt.endswith z y))|_=>False
theorem d_ends{K:Frag}:MtSD K rEnds f0x:=by
 intro Y F H σ ρ δ z es us Q1 q I r h' k;unfold f0x at h';split at h'
 ·rename_i y;obtain ⟨v,rfl,r1⟩:=d8 r;rw[rep_str.mp r1];exact ⟨z,y,rfl,rfl,k _ _ F H I (Same.refl F) (rep_bl.mpr rfl) h'⟩
 ·exact h'.elim
noncomputable def slSF(d:D)(l u:Option Int)(q:D→Prop):Prop:=match d with | .str z=>z.length≤100000∧q (.str (Txt.slice z l u))|_=>False
variable{te:TE2}{p2:Pos}
noncomputable def b0v(te:TE2)(tl th:TO2):TE2:=fun x ρ δ q=>te x ρ δ fun d ρ1 δ1=>tl x ρ1 δ1 fun l ρ2 δ2=>th x ρ2 δ2 fun u ρ3 δ3=>slSF d l u fun e=>q e ρ3 δ3
theorem e7{lo hi:Option Expr}{tl th:TO2}(he:PE2 X Y W e te)(hl:PO2 X Y W lo tl)(hu:PO2 X Y W hi th):PE2 X Y W (.Subscript e (.Slice lo hi none p2) pos) (b0v te tl th):=pe2 (k0n sl_str he.go hl.go hu.go) fun σ H Q ⟨F,ρ,δ,x,q,I,h,k,kx⟩=>by
 refine ⟨F,ρ,δ,x,_,I,h,fun d v F1 H1 ρ1 δ1 I1 s1 r1 h1=>⟨F1,ρ1,δ1,x,_,I1,h1,fun l F2 H2 ρ2 δ2 I2' s2 h2=>⟨F2,ρ2,δ2,x,_,I2',h2,fun u F3 H3 ρ3 δ3 I3 s3 h3=>?_,kx.mono (s1.trans s2)⟩,kx.mono s1⟩,kx⟩;have sa:=(s1.trans s2).trans s3;unfold slSF at h3;cases d with
 |str z=>
  rw[rep_str.mp r1];exact ⟨z,rfl,h3.1,k _ _ F3 H3 ρ3 δ3 I3 sa (rep_str.mpr rfl) h3.2⟩
 |_=>exact h3.elim
noncomputable abbrev TJ2:=XK2→En→Dk→Str→K2→Prop
noncomputable def upJ(K:Frag)(Y:Y2)(W:XW)(t:TJ2):TJ:=fun σ H out Q=>∃F ρ δ x q,I2 K Y F H σ ρ δ∧t x ρ δ out q∧(∀d v F' H' ρ' δ',I2 K Y F' H' σ ρ' δ'→Same F F'→Rep K F' d v→q d ρ' δ'→Q v H')∧XR K Y W F x
structure PJ2(X:Cx)(Y:Y2)(W:XW)(es:List Expr)(t:TJ2):Prop where
 go:PJ X es (upJ X.K Y W t)
noncomputable def t2Jn:TJ2:=fun _ ρ δ out q=>out.length≤100000∧q (.str out) ρ δ
noncomputable def t2Jc(te:TE2)(tr:TJ2):TJ2:=fun x ρ δ out q=>te x ρ δ fun d ρ1 δ1=>match d with | .str y=>(out++y).length≤100000∧tr x ρ1 δ1 (out++y) q |_=>False
noncomputable def t2J(t:TJ2):TE2:=fun x ρ δ q=>t x ρ δ Str.empty q
noncomputable def t2Fmt(te:TE2):TE2:=fun x ρ δ q=>te x ρ δ fun d ρ1 δ1=>match d with | .int i=>i.natAbs.log2<1920∧q (.str (toString i)) ρ1 δ1 | .str y=>y.length≤100000∧q (.str y) ρ1 δ1 |_=>False
noncomputable def y0d(i:Nat)(ta:TE2)(t:TA2):TS2:=fun E ρ δ=>ta E.xc ρ δ fun d ρ1 δ1=>match d with | .str z=>t E.xc ρ1 δ1 fun es ρ2 δ2=>(match es with | [.str y]=>(y.length==0)=false∧z.length≤100000∧E.nx (ρ2.set i (.own ((Txt.split z y).map D.str))) δ2 |_=>False)|_=>False
theorem s0h{x:Str}{pos':Pos}(i:Nat)(hN:X.N.Nodup)(ho:PE2 X Y W o ta)(ha:PA2 X Y W (e::es) t)(hi:X.N[i]?=some x:=by rfl)(hx:Loc X.env.scope x:=by walk_at "v2")
 (hsw:swapsWith (.Call (.Attribute o "split" apos) (e::es) [] cpos) (some (.Name x pos')) pos.line X.env=pure false:=by rfl) (hfn:X.fn x=true∨X.env.scope.names.lookup x=some .local:=by walk_at "v1") (hbase:attributeBase o "split" X.env (eval o X.env)=eval o X.env:=by rfl)
 (hfew:((backTo cpos (starEach (e::es) X.env)).all (fun x=>!x.1)&&(backToKw cpos (keywordEach [] X.env)).all (fun x=>x.1.isSome)
  &&decide ((e::es).length+([]:List Keyword).length+(if ([]:List Keyword).isEmpty then 0 else 1)<30))=true:=by rfl)
 (hline:(apos.endLine==cpos.line)=true:=by rfl) (hs:starEach (e::es) X.env=(false,eval e X.env)::starEach es X.env:=by exact b6 rfl) (hplain:(backTo cpos (starEach es X.env)).any (·.1)=false:=by exact g7 rfl):
 PS2 X Y W (.Assign [.Name x pos'] (.Call (.Attribute o "split" apos) (e::es) [] cpos) pos) (y0d i ta t):=ps2 (o0t (i:=i) hN hi hx (y1z PySem.F.plainAttrs_str PySem.F.slot_str_split PySem.F.type_str_split p0r ho.go ha.go hbase hfew hline hs hplain) hsw hfn) fun E1 σ H ⟨F,ρ,δ,E2,I,h,er⟩=>by
 refine ⟨F,ρ,δ,E2.xc,_,I,h,fun d v F1 H1 ρ1 δ1 I1 s1 r1 h1=>?_,er.xc⟩;cases d with
 |str z=>
  rw[rep_str.mp r1];refine ⟨rfl,F1,ρ1,δ1,E2.xc,_,I1,h1,fun es us F2 H2 ρ2 δ2 I2' s2 r2 h2=>?_,er.xc.mono s1⟩;split at h2
  ·rename_i y;obtain ⟨v,rfl,r3⟩:=d8 r2;rw[rep_str.mp r3];exact ⟨z,y,rfl,rfl,h2.1,h2.2.1,fun p hp=>er.nx _ F2 _ _ δ2 (I2'.own hp (s0i _)) (s1.trans s2) h2.2.2⟩
  ·exact h2.elim
 |_=>exact h1.elim
end
end DL
namespace L2
open PySem PySem.Spec PyProof.Rows Builtin Builtin.Str
section
variable{X:Cx}{tg:Expr}
noncomputable def rIntS:List V→Hp→VK→Prop:=fun xs H Q=>∃z n,xs=[V.str z]∧PySem.intText? z=some n∧z.length≤640∧Q (V.int n) H
theorem s0g:x0e X (.type "int") rIntS:=by
 intro pins s σ H xs us Q I r h;obtain ⟨z,n,rfl,hn,hl,q⟩:=h;obtain ⟨u,rfl,t,rfl⟩:=q0f r;exact PySem.W.KIN.call_text hn hl ⟨.int n,H,I.tok _,⟨_,rfl⟩,q⟩
noncomputable def Its(x:Str):It:=⟨fun i _=>i<x.cps.size,fun i H v H'=>H'=H∧∃c,x.cps[i]?=some c∧v=.str ⟨#[c]⟩,fun i _=>x.cps.size≤i⟩
theorem j0q{P:Program}{w:World}{K:PySem.W.Frag}{tg:Expr}{n:String}(hn:n="str_ascii_iterator"∨n="str_iterator")(it:Addr)(x:Str)(t:Tok):Turn P w K tg (Its x) [it] it (fun i h=>h.IsStrIter it n x t i)where
 mem:=by simp
 obj:=fun i h st b hb=>by
  have e:b=it:=by simpa using hb
  subst e;obtain ⟨o,e,c,d⟩:=st;exact ⟨o,e,fun v z=>by rw[d]at z;cases z⟩
 keep:=fun i h h' st k=>let ⟨o,ho,r⟩:=st;⟨o,k it (by simp) o ho,r⟩
 item:=by
  intro X hP hw hK hc i pins s σ H E I hf st hg;subst hP hw hK;obtain ⟨f0,f1,f2,f3,f4,f5⟩:=hf it (by simp);have hi:i<x.cps.size:=hg;have fin:∀h',h'.IsStrIter it n x t (i+1)→Heap.SameBut it s.heap h'→∃u,some (Value.str ⟨#[x.cps[i]]⟩ s.toks)=some u∧wpAny (model X.prog X.w) X.A (letOwnedTupleGo tg (.ref it) u) (fun _ s2=>∃v H',Inv X pins σ H' s2∧RelV v u∧(Its x).yld i H v H'∧s2.heap.IsStrIter it n x t (i+1)∧∀b∈[it],H' b=none) E {s with heap:=h',toks:=s.toks+1}:=fun h' st' sb=>by
   have I1:Inv X pins σ H {s with heap:=h',toks:=s.toks+1}:=I.turned (fun b o hb e=>(sb.2 b hb).trans e) f0 f1 f3 f4 f5;obtain ⟨o,e,c,d⟩:=id st';exact ⟨_,rfl,e0e (s:={s with heap:=h',toks:=s.toks+1}) e c d (by rcases hn with rfl |rfl<;>decide) ⟨.str ⟨#[x.cps[i]]⟩,H,I1,⟨_,rfl⟩,⟨rfl,_,by simp[hi],rfl⟩,st',fun b hb=>(hf b hb).1⟩⟩
  rcases hn with rfl |rfl
  ·exact wpAny_pyNext_ascii_item st (c:=x.cps[i]) (by simp[hi]) fin
  ·exact wpAny_pyNext_wide_item st (c:=x.cps[i]) (by simp[hi]) fin
 done:=by
  intro X hP hw hK hc i pins s σ H E I hf st hg;subst hP hw hK;obtain ⟨f0,f1,f2,f3,f4,f5⟩:=hf it (by simp);have hi:x.cps.size≤i:=hg;rcases hn with rfl |rfl
  ·exact wpAny_pyNext_ascii_end (I.ok.hd hc) st (by simp[hi]) fun h' eb=>⟨rfl,I.turned (t':=s.toks) (fun b o hb e=>eb b o hb e) f0 f1 f3 f4 f5⟩
  ·exact wpAny_pyNext_wide_end (I.ok.hd hc) st (by simp[hi]) fun h' eb=>⟨rfl,I.turned (t':=s.toks) (fun b o hb e=>eb b o hb e) f0 f1 f3 f4 f5⟩
 self:=fun _ _ _ _ _ st h=>by
  rcases hn with rfl |rfl
  ·exact wpAny_pyIter_striter_ascii st h
  ·exact wpAny_pyIter_striter_wide st h
noncomputable def iStr(tl:TE):TI:=fun σ H R=>tl σ H fun x H1=>∃z,x=.str z∧R (Its z) H1
theorem pi_str{l:Expr}{tl:TE}(hl:PE X l tl):PI X tg l (iStr tl):=by
 intro pins s σ H R I h;refine thn (hl pins s σ H _ I h) fun v s1 ⟨x,H1,I1,r1,q1⟩=>?_
 obtain ⟨z,e,q⟩:=q1;subst e;obtain ⟨t,rfl⟩:=r1;have fresh:∀b∈[s1.heap.objs.size],FpOk X pins H1 b:=fun b hb=>by
  have e:b=s1.heap.objs.size:=by simpa using hb
  subst e;exact I1.fpOk (Nat.le_refl _) (I1.hok.fresh (Nat.le_refl _))
 cases ha:z.cps.all (·<128)
 ·refine wpAny_pyIter_wide ha ?_;exact ⟨s1.heap.objs.size,[s1.heap.objs.size],_,_,H1,rfl,I1.kept (t':=s1.toks) fun b o e=>Heap.get?_push_of_some _ e,j0q (.inr rfl) _ z t,⟨_,Heap.get?_push_size _ rfl,rfl,rfl⟩,fresh,q⟩
 ·refine wpAny_pyIter_ascii ha ?_;exact ⟨s1.heap.objs.size,[s1.heap.objs.size],_,_,H1,rfl,I1.kept (t':=s1.toks) fun b o e=>Heap.get?_push_of_some _ e,j0q (.inl rfl) _ z t,⟨_,Heap.get?_push_size _ rfl,rfl,rfl⟩,fresh,q⟩
end
end L2
namespace DL
open PySem PySem.Spec L2
section
variable{X:Cx}{Y:Y2}{W:XW}{tg:Expr}{K:Frag}
noncomputable def f0w:F1:=fun ds q=>match ds with | [.str z]=>(match PySem.intText? z with |some n=>z.length≤640∧q (.int n)|none=>False)|_=>False
theorem f0v:v0h K rIntS f0w:=by
 intro Y F H σ ρ δ vs ds Q1 q I r h' k;unfold f0w at h';split at h'
 ·rename_i z;split at h'
  ·rename_i n e;obtain ⟨v,rfl,r1⟩:=d8 r;exact ⟨z,n,by rw[rep_str.mp r1],e,h'.1,k _ _ F H I (Same.refl F) (rep_int.mpr rfl) h'.2⟩
  ·exact h'.elim
 ·exact h'.elim
noncomputable def f0u:F1:=fun ds q=>match ds with | [.str z]=>z.length≤100000∧q (.int z.length)|_=>False
theorem j0p:v0h K (fun xs H Q=>∃z,xs=[V.str z]∧z.length≤sizeLine∧Q (V.int z.length) H) f0u:=by
 intro Y F H σ ρ δ vs ds Q1 q I r h' k;unfold f0u at h';split at h'
 ·rename_i z;obtain ⟨v,rfl,r1⟩:=d8 r;exact ⟨z,by rw[rep_str.mp r1],y0p h'.1,k _ _ F H I (Same.refl F) (rep_int.mpr rfl) h'.2⟩
 ·exact h'.elim
noncomputable def subS(i j:Str):Bool:=!(Builtin.Str.occurrences j i 0 j.length 1).isEmpty
noncomputable def inS:F2:=fun d1 d2 q=>match d1,d2 with | .str i,.str j=>q (.bl (subS i j))|_,_=>False
noncomputable def n0k:F2:=fun d1 d2 q=>match d1,d2 with | .str i,.str j=>q (.bl (!subS i j))|_,_=>False
theorem b0u:OpD K (fun x y H Q=>∃i j,x=V.str i∧y=V.str j∧Q (V.bl (!(!(Builtin.Str.occurrences j i 0 j.length 1).isEmpty))) H) n0k:=by
 intro Y F H σ ρ δ x y d1 d2 Q1 q I r1 r2 h' k;unfold n0k at h';split at h'
 ·rename_i a b;exact ⟨a,b,rep_str.mp r1,rep_str.mp r2,k _ _ F H I (Same.refl F) (rep_bl.mpr rfl) h'⟩
 ·exact h'.elim
noncomputable def ixSF:F2:=fun d1 d2 q=>match d1,d2 with | .str z,.int i=>z.length≤100000∧(match L2.atI z.cps.toList i with |some c=>q (.str ⟨#[c]⟩)|none=>False)|_,_=>False
theorem x1i:OpD K rIxS ixSF:=by
 intro Y F H σ ρ δ x y d1 d2 Q1 q I r1 r2 h' k;unfold ixSF at h';split at h'
 ·rename_i z i;obtain ⟨hz,h'⟩:=h';split at h'
  ·rename_i c e;exact ⟨z,i,c,rep_str.mp r1,rep_int.mp r2,y0p hz,e,k _ _ F H I (Same.refl F) (rep_str.mpr rfl) h'⟩
  ·exact h'.elim
 ·exact h'.elim
noncomputable def q0p(z:Str):List D:=z.cps.toList.map fun c=>.str ⟨#[c]⟩
theorem x1h{F:Hp}{z:Str}:SrcOk K (Its z) F (q0p z):=by
 refine ⟨fun i d F' H e s1 s2=>?_,fun F' H s1 s2=>?_⟩
 ·unfold q0p at e;rw[List.getElem?_map,Option.map_eq_some_iff]at e;obtain ⟨c,ec,rfl⟩:=e;have ec:z.cps[i]?=some c:=by simpa using ec
  refine ⟨(Array.getElem?_eq_some_iff.mp ec).1,fun v H' y=>?_⟩;obtain ⟨rfl,c',ec',rfl⟩:=y;rw[ec]at ec';cases ec';exact .inl ⟨rfl,rep_str.mpr rfl⟩
 ·show z.cps.size≤_;unfold q0p;rw[List.length_map];simp
noncomputable def b0t(te:TE2):TI2:=fun x ρ δ q=>te x ρ δ fun d ρ1 δ1=>match d with | .str z=>q (q0p z) ρ1 δ1 |_=>False
theorem i2_str{l:Expr}{te:TE2}(hl:PE2 X Y W l te):PI2 X Y W tg l (b0t te):=pi2 (pi_str hl.go) fun σ H R ⟨F,ρ,δ,x,q,I,h,k,kx⟩=>by
 refine ⟨F,ρ,δ,x,_,I,h,fun d v F' H' ρ' δ' I' s' r' h'=>?_,kx⟩;cases d with
 |str z=>exact ⟨z,rep_str.mp r',k _ _ F' H' ρ' δ' I' s' x1h h'⟩
 |_=>exact h'.elim
end
end DL
namespace L2
open PySem PySem.Spec PyProof.Rows
section
variable{X:Cx}{e:Expr}{te:TE}{lo hi:Option Expr}{st:Expr}{tl th tk:TO}{pos p2:Pos}
noncomputable def pickN(n:Nat)(lo hi:Option Int)(st:Int):List Nat:=sliceRange (sliceBounds lo hi (some st) n).1 (sliceBounds lo hi (some st) n).2.1 (sliceBounds lo hi (some st) n).2.2
end
end L2
namespace DL
open PySem PySem.Spec L2
section
variable{X:Cx}{Y:Y2}{W:XW}{K:Frag}{e:Expr}{te:TE2}{pos p2:Pos}
noncomputable def pickD(xs:List D)(lo hi:Option Int)(st:Int):List D:=(pickN xs.length lo hi st).filterMap (xs[·]?)
noncomputable def t2Sl3(te:TE2)(tl th tk:TO2):TE2:=fun x ρ δ q=>te x ρ δ fun d ρ1 δ1=>tl x ρ1 δ1 fun l ρ2 δ2=>th x ρ2 δ2 fun u ρ3 δ3=>tk x ρ3 δ3 fun k ρ4 δ4=>match d,k with | .lst xs,some c=>c≠0∧q (.lst (pickD xs l u c)) ρ4 δ4 |_,_=>False
end
end DL
namespace L2
open PySem PySem.Spec PyProof.Rows
open PySem.W (XC)
section
variable{X:Cx}{k:Nat}{f C:Addr}{fd:FuncData}{ps:List Str}{sp:Sp}
end
end L2
namespace L2
open PySem PySem.Spec PyProof.Rows
open PySem.W (XC)
section
variable{X:Cx}{pins:List (Addr×Obj)}{σ:St}{H:Hp}{s:Shared}
end
end L2
namespace DL
open PySem PySem.Spec L2
open PySem.W (XC)
open PyProof.Rows (envOfC)
structure MkEU(P:Program)(w:World)(K:Frag)(mg:Str→Option Value)(base:Heap)(x:Str)(C:Addr)(k:Nat)(ps:List Str)(sp:Sp):Prop where
 ex:∃f fd,XMk K C f∧FnOkU P w K mg base CX0 k f fd ps sp∧Binds K fd ps []
 m:mg x=some (.ref C)
section
variable{X:Cx}{Y:Y2}{W:XW}{x y:Str}{C D:Addr}{f:Str}{k:Nat}{ps:List Str}{np p cpos hpos rpos npos pos:Pos}{nk:Nat}{e:Expr}{es:List Expr}{body:List Stmt}{tb:TS2}{t:TA2}
end
end DL
namespace L2
open PySem PySem.Spec PyProof.Rows
section
variable{X:Cx}{pins:List (Addr×Obj)}{σ:St}{H:Hp}{s:Shared}
end
section
variable{P:Program}{w:World}{K:PySem.W.Frag}{mg:Str→Option Value}{base:Heap}
end
section
variable{X:Cx}
end
end L2
namespace DL
open PySem PySem.Spec L2
open PySem.W (XC)
open PyProof.Rows (envOfC)
section
variable{X:Cx}{Y:Y2}{W:XW}{x:Str}{p pos:Pos}{e:Expr}{es:List Expr}{t:TA2}{k:Nat}{ps:List Str}{sp:Sp2}
end
section
variable{P:Program}{w:World}{K:Frag}{mg:Str→Option Value}{base:Heap}
end
end DL
namespace DL
open PySem PySem.Spec L2
open PySem.W (XC)
section
variable{X:Cx}{Y:Y2}{W:XW}{x y:Str}{C D:Addr}{f:Str}{k:Nat}{ps:List Str}{np p p2 cpos hpos rpos npos pos pos':Pos}{nk:Nat}{e:Expr}{es:List Expr}{body:List Stmt}{tb:TS2}{t:TA2}{te:TE2}
noncomputable def x1g(i:Nat)(te:TE2)(tl th:TO2):TS2:=fun E ρ δ=>te E.xc ρ δ fun d ρ1 δ1=>tl E.xc ρ1 δ1 fun l ρ2 δ2=>th E.xc ρ2 δ2 fun u ρ3 δ3=>match d with | .lst xs=>E.nx (ρ3.set i (.own (cutD xs l u))) δ3 |_=>False
end
section
variable{P:Program}{w:World}{K:Frag}{mg:Str→Option Value}{base:Heap}
end
end DL
namespace HD
open PySem PySem.W PyProof.Rows PySem.Calls
noncomputable abbrev N:Value:=.none
noncomputable abbrev r(a:Nat):Value:=.ref a
noncomputable abbrev s(x:String)(t:Nat):Value:=.str (Str.ofString x) t
noncomputable abbrev i(n:Int)(t:Nat):Value:=.int n t
noncomputable abbrev b(x:Bool):Value:=.bool x
noncomputable abbrev ty(x:String):Value:=.type x
noncomputable abbrev bi(x:String):Value:=.builtin x
noncomputable abbrev ob(c:Value)(d:Data):Obj:={cls:=c,data:=d}
noncomputable abbrev tp(l:List Value):Obj:=ob (.type "tuple") (.seq ⟨l⟩)
noncomputable abbrev fl(c:Value)(l:List Value):Obj:=ob c (.fields ⟨l⟩)
noncomputable abbrev en(P:Params)(x:String)(t:Nat)(v:Value):DictEntry:=⟨PyData.keyHash P (Str.ofString x),.str (Str.ofString x) t,v⟩
noncomputable abbrev di(l:List DictEntry)(n:Nat):Obj:=ob (.type "dict") (.dict ⟨l⟩ n)
noncomputable abbrev fn(c:Value)(n q:String)(st:Stmt)(g:Nat)(m cd:Value):Obj:=
 ob c (.func {name:=Str.ofString n,qualname:=Str.ofString q,params:=L2.defArgs st,body:=.stmts (L2.defBody st),scope:=L2.defScope st,globals:=g,closure:=[],defaults:=.none,kwdefaults:=.none,pyModule:=m,code:=cd})
noncomputable abbrev co(n:String)(bs mro:List Value)(ns:Nat)(q:String)(hd hl:Bool)(subs:List Value)(sl:List (Option Value)):Obj:={cls:=.type "type",data:=.cls {name:=Str.ofString n,bases:=bs,mro:=mro,ns:=ns,qualname:=Str.ofString q,hasDict:=hd,hasDel:=hl,subclasses:=subs},slots:=⟨sl⟩}
noncomputable def x(g:Params→List Obj)(i:Nat)(P:Params):Obj:=(g P).getD i default
noncomputable def insT(t:BT):Nat→Obj→BT:=
 @BT.rec (fun _=>Nat→Obj→BT) (fun _ o=>.node o .nil .nil)
  (fun v l r ihl ihr i o=>@Bool.rec (fun _=>BT) (@Bool.rec (fun _=>BT) (.node v l (ihr (i/2-1) o)) (.node v (ihl (i/2) o) r) (Nat.beq (i%2) 1)) (.node o l r) (Nat.beq i 0)) t
noncomputable def insL(l:List Obj):Nat→BT→BT:=
 @List.rec Obj (fun _=>Nat→BT→BT) (fun _ t=>t) (fun o _ ih n t=>ih (Nat.succ n) (insT t n o)) l
noncomputable def setL(l:List (Nat×Obj)):BT→BT:=
 @List.rec (Nat×Obj) (fun _=>BT→BT) (fun t=>t) (fun p _ ih t=>ih (insT t p.1 p.2)) l
section
variable{p:Program}{w:World}{n₀:Nat}{ann:Option Value}{bb n:Nat}{st:SharedT}{l:List Stmt}{env:Env}{c:Code}{q:Pos}{B:List Frame}{rr:Option (Flow×SharedT×Code×Pos)}
theorem s0f(h:PySem.W.Fast.tw10110043849684766642 PySem.W.Fast.tw14364793385576792824 p w n₀ ann bb n st ⟨(PySem.W.Fast.tw12563942051412417395 l env).wrap doneF deadEnd id id,c,q,B⟩=rr):
 segRunT treeTable p w n₀ ann bb n st (piecesOf l env c q B)=rr:=by
 unfold piecesOf;rw[PySem.W.Fast.te10110043849684766642,PySem.W.Fast.te14364793385576792824,PySem.W.Fast.te12563942051412417395];exact h
theorem turnGo{s:Shared}{t:Thread}{r:Option (Shared×Thread)}(h:PySem.W.Fast.tw15667345088766844465 PySem.W.Fast.tw14364793385576792824 p w n₀ ann n s t=r):topGo treeTable p w n₀ ann n s t=r:=by
 rw[PySem.W.Fast.te15667345088766844465,PySem.W.Fast.te14364793385576792824];exact h
theorem x1f{s:Shared}{t:Thread}{r:Option Shared}(h:PySem.W.Fast.tw14082659384304107361 PySem.W.Fast.tw14364793385576792824 p w n₀ ann n s t=r):topRun treeTable p w n₀ ann n s t=r:=by
 rw[PySem.W.Fast.te14082659384304107361,PySem.W.Fast.te14364793385576792824];exact h
theorem f0t{s:Shared}{r:Option (Flow×Shared×Code×Pos)}(h:PySem.W.Fast.tw14374325043358763698 PySem.W.Fast.tw14364793385576792824 p w n₀ ann bb n s ⟨(PySem.W.Fast.tw1066825118222455980 l env).wrap (fun _=>doneF .next) deadEnd id id,c,q,B⟩=r):
 segRun treeTable p w n₀ ann bb n s (blockOf l env c q B)=r:=by
 unfold blockOf;rw[PySem.W.Fast.te14374325043358763698,PySem.W.Fast.te14364793385576792824,PySem.W.Fast.te1066825118222455980];exact h
theorem n0j{N:Nat}{s s' r:Shared}{b b':List Stmt}{pos p' q:Pos}(e:b=b')(h:segRun treeTable p w n₀ ann 1 n s (blockOf b env c pos [topFrame q])=some (.next,s',c,p'))
 (k:topRun treeTable p w n₀ ann N s' (restOf b' env c p' [topFrame q])=some r):topRun treeTable p w n₀ ann (n+N) s ⟨denote treeTable (.body b env),c,pos,[topFrame q]⟩=some r:=by
 subst e;exact piece_block h k
end
noncomputable def FnF(K:PySem.W.Frag)(x:Str)(st:Stmt):Prop:=∃f fd,PySem.W.nsIn K mainGlobals x=some (some (.ref f))∧L2.Fun K x x st f fd
theorem FnF.at{K:PySem.W.Frag}{h:Heap}{mg:Str→Option Value}{x:Str}{st:Stmt}(F:FnF K x st)(X:K.In h)(G:h.Ns mainGlobals mg){ps:List Str}
 (b:∀(kV doc pm:Value) (an:Option Addr) (cdv ct:Value) (us:List Value),us.length=ps.length→bindArgs (PySem.W.fnOf x x (L2.defArgs st) (L2.defBody st) (L2.defScope st) .none kV doc pm an cdv ct) ⟨us,[]⟩=pure (ps.zip us)):∃f fd,L2.DefAt K mg x st ps f fd:=by
 obtain ⟨f,fd,a,u⟩:=F;exact ⟨f,fd,u,PySem.W.mg_of X G a,u.binds b⟩
noncomputable def XMkF(K:PySem.W.Frag)(C:Addr)(q:Str)(st:Stmt):Prop:=∃f fd,L2.XMk K C f∧L2.Fun K "__init__" q st f fd
end HD
set_option maxHeartbeats 8000000
namespace K33
open PySem L2 DL
open PySem.W (XC)
local macro_rules | `(tactic|walk_at "dl")=>do
 let ids:=("m0f m0e Nat.reduceAdd Nat.reduceLT Nat.reduceLeDiff Nat.reduceSub Nat.zero_add k0d d0e k0c d0d d0c g0q d0b k0b m0g n0z k0a t2MV g0o n0y q0t t0m t2H0 t2H i0r c0v noX asE c0u forL y0u e9 capt List.map_cons List.map_nil t2Is t2R1 t2R2 p0z t2C t2V g0u s0t d0n d0m t2Op t2B d0k d0j t2Or k0i k0h v0i t2Bi t2Un rdV hasV seqV mutV ixQ seqD addF addG sumF eqG neG t2Sl slF t2ON t2OI c0d c0f c0e v0e p0t y0s tgD fI fI0 eqF neF eqD isNF q0v isBF ixF inF lenF absF minF maxF intF o0b allF g0r subF mulF d0g modF powF ltF leF gtF geF g2N g2T s0o s0s popM List.getElem?_cons_zero List.getElem?_cons_succ List.set_cons_zero List.set_cons_succ List.length_cons List.length_nil List.lookup_cons if_true if_false Bool.false_eq_true Bool.not_true Bool.not_false decide_eq_true_eq if_pos ite_true ite_false true_and and_true List.cons_append List.nil_append x1q strF t0j neL j0s addT mulS t2SM f0z n0l f0x b0v slSF y0d f0w f0u inS n0k ixSF b0t".splitOn " ").toArray.map fun s=>Lean.mkIdent s.toName
 let args←ids.mapM fun i=>`(Lean.Parser.Tactic.simpLemma| $i:ident)
 `(tactic|simp only[reduceIte,↓reduceIte,$args,*])
local macro_rules | `(tactic|walk_at "dn")=>do
 let ids:=("m0f m0e Nat.reduceAdd Nat.reduceLT Nat.reduceLeDiff Nat.reduceSub Nat.zero_add k0d d0e k0c d0d d0c g0q d0b k0b m0g n0z k0a t2MV g0o n0y q0t t0m t2H0 t2H i0r c0v noX asE c0u e9 capt List.map_cons List.map_nil t2Is t2R1 t2R2 p0z t2C t2V g0u s0t d0n d0m t2Op t2B d0k d0j t2Or k0i k0h v0i t2Bi t2Un rdV hasV seqV mutV ixQ seqD addF addG sumF eqG neG t2Sl slF t2ON t2OI c0d c0f c0e v0e p0t y0s tgD fI fI0 eqF neF eqD isNF q0v isBF ixF inF lenF absF minF maxF intF o0b allF g0r subF mulF d0g modF powF ltF leF gtF geF g2N g2T s0o s0s popM List.getElem?_cons_zero List.getElem?_cons_succ List.set_cons_zero List.set_cons_succ List.length_cons List.length_nil List.lookup_cons if_true if_false Bool.false_eq_true Bool.not_true Bool.not_false decide_eq_true_eq if_pos ite_true ite_false true_and and_true List.cons_append List.nil_append x1q strF t0j neL j0s addT mulS t2SM f0z n0l f0x b0v slSF y0d f0w f0u inS n0k ixSF b0t".splitOn " ").toArray.map fun s=>Lean.mkIdent s.toName
 let args←ids.mapM fun i=>`(Lean.Parser.Tactic.simpLemma| $i:ident)
 `(tactic|simp only[reduceIte,↓reduceIte,$args,*])
noncomputable def top(i:Nat):Stmt:=PySem.Challenge.pw_wearplan_k33_plan_texts_refused.main.body.getD i (.Pass ⟨0,0,0,0⟩)
noncomputable abbrev x0b:Stmt:=top 4
noncomputable abbrev v0b:Stmt:=top 5
noncomputable abbrev p0q:Stmt:=top 6
noncomputable abbrev l9:Stmt:=top 7
noncomputable abbrev l8:Stmt:=top 8
noncomputable abbrev l7:Stmt:=top 13
noncomputable abbrev v0a:Stmt:=top 15
noncomputable abbrev u0z:Stmt:=top 16
noncomputable abbrev x0a:Stmt:=top 17
noncomputable abbrev w0z:Stmt:=top 18
noncomputable abbrev y0o:Stmt:=top 19
noncomputable abbrev s0e:Stmt:=top 20
noncomputable abbrev w0y:Stmt:=top 21
noncomputable abbrev u0y:Stmt:=top 23
noncomputable abbrev u0x:Stmt:=top 24
noncomputable abbrev u0w:Stmt:=top 25
noncomputable abbrev u0v:Stmt:=top 26
noncomputable abbrev y0n:Stmt:=top 27
noncomputable abbrev u0u:Stmt:=top 28
noncomputable abbrev w0x:Stmt:=top 29
noncomputable abbrev u0t:Stmt:=top 30
noncomputable abbrev w0w:Stmt:=top 31
noncomputable abbrev y0m:Stmt:=top 32
noncomputable abbrev u0s:Stmt:=top 33
noncomputable abbrev p0p:Stmt:=top 34
noncomputable abbrev y0l:Stmt:=top 35
noncomputable abbrev w0v:Stmt:=top 36
noncomputable abbrev k8:Stmt:=top 37
noncomputable abbrev d7:Stmt:=top 38
noncomputable abbrev z0v:Stmt:=top 39
noncomputable abbrev u0r:Stmt:=top 40
noncomputable abbrev u0q:Stmt:=top 41
noncomputable abbrev u0p:Stmt:=top 42
noncomputable abbrev x1e:Stmt:=top 43
noncomputable abbrev z0u:Stmt:=inClass (top 2) 0
structure Cs where
 W:Addr
 NoText:Addr
noncomputable def Cs.ds(c:Cs):List Addr:=[c.NoText]
structure Txt(K:PySem.W.Frag)(mg:Str→Option Value)(cs:Cs):Prop where
 n_ValueError:mg "ValueError"=none
 n_abs:mg "abs"=none
 n_all:mg "all"=none
 n_bool:mg "bool"=none
 n_enumerate:mg "enumerate"=none
 n_int:mg "int"=none
 n_isinstance:mg "isinstance"=none
 n_len:mg "len"=none
 n_list:mg "list"=none
 n_max:mg "max"=none
 n_range:mg "range"=none
 n_str:mg "str"=none
 n_tuple:mg "tuple"=none
 n_zip:mg "zip"=none
 g_GREATEST_FIRST:∃t,mg "GREATEST_FIRST"=some (.int 47 t)
 g_MOST_ROUNDS:∃t,mg "MOST_ROUNDS"=some (.int 24 t)
 g_MOST_PARTS:∃t,mg "MOST_PARTS"=some (.int 4 t)
 c_WearError:mg "WearError"=some (.ref cs.W)
 h_WearError:XHd K cs.W
 err:∀D∈cs.ds,ErrC K cs.W D
 ne:∀D∈cs.ds,D≠cs.W
 nd:cs.ds.Nodup
 c_NoText:mg "NoText"=some (.ref cs.NoText)
 h_NoText:XHd K cs.NoText
 x_NoText:xcIn K cs.NoText=true
 a_NoText_row:NoAttr K cs.NoText "row"
noncomputable def DkAt(p:Addr)(ns:List Int)(n:Nat)(δ:Dk):Prop:=∃c k:Int,δ=some (p,[.scr (ns.map D.int),.int c,.int k])∧0≤c∧0≤k∧k≤n
noncomputable def f0s:Sp2:=fun ds δ q _=>∃(ns:List Int) (k:Int),ds=[.scr (ns.map D.int),.int k]∧0≤k∧∀r:Int,0≤r→q (.int r) δ
noncomputable def f0r:Sp2:=fun ds δ q _=>∃(ns:List Int) (k m:Int),ds=[.scr (ns.map D.int),.int k,.int m]∧0≤k∧k<2^40∧0<m∧∀r:Int,0≤r→r<m→q (.int r) δ
noncomputable def f0q:Sp2:=fun ds δ q _=>∃(ns:List Int),ds=[.scr (ns.map D.int)]∧δ=none∧∀p δ',DkAt p ns 0 δ'→q (.ref p) δ'
noncomputable def f0p:Sp2:=fun ds δ q _=>∃(p:Addr) (ns:List Int) (n:Nat) (m:Int),ds=[.ref p,.int m]∧DkAt p ns n δ∧n<2^30∧0<m∧m<2^30∧∀(d:Int) δ',0≤d→d<m→DkAt p ns (n+1) δ'→q (.int d) δ'
noncomputable def f0o(d:D):Bool:=match d with | .int _=>true |_=>false
noncomputable def p0o:Sp2:=fun ds δ q _=>match ds with | [d]=>d9 d=true∧q (.bl (f0o d)) δ |_=>False
noncomputable def s0d:Sp2:=fun ds δ q _=>match ds with | [d,.int lo,.int hi]=>d9 d=true∧q (.bl (a6 d lo hi)) δ |_=>False
noncomputable def numD(d:D)(j:Int):Bool:=match d with | .int i=>decide (i=j)|_=>false
noncomputable def z0t:Sp2:=fun ds δ q _=>match ds with | [d,.int j]=>d9 d=true∧q (.bl (numD d j)) δ |_=>False
noncomputable def rowD:D→Option (List D)| .lst xs=>some xs | .tup xs=>some xs |_=>none
noncomputable def n0i(d:D):Bool:=(rowD d).isSome
noncomputable def x0i(d:D):Bool:=d9 d&&(match rowD d with |some xs=>xs.all d9 |none=>true)
noncomputable def t0q(d:D)(a b lo hi:Int):Bool:=match rowD d with |some xs=>decide (a≤(xs.length:Int))&&decide ((xs.length:Int)≤b)&&xs.all (a6 · lo hi)|none=>false
noncomputable def b0s:Sp2:=fun ds δ q _=>match ds with | [d]=>d9 d=true∧q (.bl (n0i d)) δ |_=>False
noncomputable def j0o:Sp2:=fun ds δ q _=>match ds with | [d,.int a,.int b,.int lo,.int hi]=>x0i d=true∧b≤900∧q (.bl (t0q d a b lo hi)) δ |_=>False
theorem l0y{α:Type}(f:α→Bool):∀xs:List α,blsD (xs.map fun e=>D.bl (f e))=some (xs.map f)
 | []=>rfl
 |x::xs=>by rw[List.map_cons,List.map_cons];unfold blsD;rw[l0y f xs];rfl
theorem all_id(xs:List Bool):xs.all id=xs.all fun b=>b:=rfl
local macro_rules | `(tactic|walk_at "ds")=>do
 let ids:=("m0f m0e Nat.reduceAdd Nat.reduceLT Nat.reduceLeDiff Nat.reduceSub Nat.zero_add e9 capt List.map_cons List.map_nil s0o List.getElem?_cons_zero List.getElem?_cons_succ List.set_cons_zero List.set_cons_succ List.length_cons List.length_nil List.lookup_cons if_true if_false Bool.false_eq_true Bool.not_true Bool.not_false decide_eq_true_eq if_pos ite_true ite_false true_and and_true List.cons_append List.nil_append".splitOn " ").toArray.map fun s=>Lean.mkIdent s.toName
 let jds:=("k0d d0e y1i t2Cont k0c d0d t2RetN d0c g0q d0b k0b m0g n0z k0a t2MV g0o t2Aug t2Fld n0y t2Self call_s k_int k_bl k_str k_non k_lst k_tup k_ins k_ref k_dwk k_dic x_nil x_cons c0w t0m c0x t2Exc1 t2Exc2 t2H0 t2H i0r c0v noX asE c0u t2Is t2R1 t2R2 t2Comp t2OwnC p0z y1b t2C t2V g0u s0t d0n d0m t2Op t2B d0k d0j t2Or k0i t2OrV k0h t2If v0i t2Bi t2Un rdV hasV seqV mutV ixQ seqD addF addG sumF eqG neG t2Sl slF t2ON t2OI lrQ x1s t2LR x1r t2TR c0d sortIF c0f c0e v0e t2OwnM p0t y0s t2BNil t2BV t2BO x1t tgD fI fI0 eqF neF eqD isNF notNF q0v isBF notBF ixF inF notInF lenF absF minF maxF intF listF o0b allF g0r subF mulF d0g modF powF ltF leF gtF geF repF g2N g2T s0s popM x1q strF addS addH t2AugV t0j c0a neL repTF j0s addT mulS t2SM f0z n0l x1j f0x b0v slSF t2J t2Jn t2Jc t2Fmt y0d f0w f0u inS n0k ixSF b0t t2Sl3 x1g x1p t2PutD t2GetD t2IxD dicV t2VD t2DicV t2Keys minLF x1o t2LenD c0b g2L eqL eqRF x1n sumB t2AugM x1m".splitOn " ").toArray.map fun s=>Lean.mkIdent s.toName
 let a←ids.mapM fun i=>`(Lean.Parser.Tactic.simpLemma| $i:ident)
 let b←jds.mapM fun i=>`(Lean.Parser.Tactic.simpLemma| ↓ $i:ident)
 let args:=a++b
 `(tactic|simp -dsimp -failIfUnchanged only[reduceIte,↓reduceIte,$args,*])
section
variable{P:Program}{w:World}{K:PySem.W.Frag}{mg:Str→Option Value}{base:Heap}{cs:Cs}
noncomputable abbrev z0s:List Str:=["thing"]
theorem sc_is_number:FnScope ["thing"] z0s (defScope x0b):=⟨rfl,rfl,rfl,by decide +kernel,rfl,by decide +kernel,by decide +kernel⟩
noncomputable abbrev w0u(P:Program)(w:World)(K:PySem.W.Frag)(mg:Str→Option Value)(base:Heap)(cs:Cs):Prop:=Fun2 P w K mg base "is_number" 1 z0s p0o
theorem n0h{f:Addr}{fd:FuncData}(Df:DefAt K mg "is_number" x0b z0s f fd)(T:Txt K mg cs):w0u P w K mg base cs:=by
 have nd:=sc_is_number.nd;refine def2 Df sc_is_number (fun ds δ q x h=>?_) (fun cdv A outer s H E Y hr=>⟨_,(o3 (a3 (w0l (e2_b f6 (w0k (K:=K)) T.n_isinstance l5 (z0 (e2_v 0) (z0 (r0m "int" T.n_int q0z) v0))) (q0x (a0j (e2_b f6 (w0k (K:=K)) T.n_isinstance l5 (z0 (e2_v 0) (z0 (r0m "bool" T.n_bool g0x) v0)))))))),fun ds δ q x h=>?_⟩)
 ·unfold p0o at h;split at h
  ·rfl
  ·exact h.elim
 ·unfold p0o at h;split at h;rotate_left
  ·exact h.elim
  rename_i d;obtain ⟨hd,hq⟩:=h;rw[show x5 ["thing"] _=[.val _]from rfl];obtain ⟨t1,t2⟩:=p0y (K:=K) hd;walk_at "dl";simp only[g0k K t1 t2,a0d K t1 t2,t1,true_and];cases d<;>first |cases hd |skip
  all_goals (walk_at "dl";exact hq)
noncomputable abbrev y0c:List Str:=["thing","least","most"]
theorem sc_is_whole:FnScope ["thing","least","most"] y0c (defScope v0b):=⟨rfl,rfl,rfl,by decide +kernel,rfl,by decide +kernel,by decide +kernel⟩
noncomputable abbrev u0o(P:Program)(w:World)(K:PySem.W.Frag)(mg:Str→Option Value)(base:Heap)(cs:Cs):Prop:=Fun2 P w K mg base "is_whole" 2 y0c s0d
theorem l0x{f:Addr}{fd:FuncData}(Df:DefAt K mg "is_whole" v0b y0c f fd)(T:Txt K mg cs)(G_is_number:w0u P w K mg base cs):u0o P w K mg base cs:=by
 have nd:=sc_is_whole.nd;refine def2 Df sc_is_whole (fun ds δ q x h=>?_) (fun cdv A outer s H E Y hr=>⟨_,(o3 (a3 (w0l (u3 G_is_number (hr.mono (by decide)) o0 (z0 (e2_v 0) v0)) (q0x (d0i e0d e0d d_le d_le (e2_v 1) (e2_v 0) (e2_v 2)))))),fun ds δ q x h=>?_⟩)
 ·unfold s0d at h;split at h
  ·rfl
  ·exact h.elim
 ·unfold s0d at h;split at h;rotate_left
  ·exact h.elim
  rename_i d lo hi;obtain ⟨hd,hq⟩:=h;rw[show x5 ["thing","least","most"] _=[.val _,.val _,.val _]from rfl];walk_at "dl";simp only[p0o,hd,true_and];cases d<;>first |cases hd |skip
  all_goals first |(simp only[f0o];walk_at "dl";exact hq)|(simp only[f0o];walk_at "dl")
  simp only[a6]at hq;split
  ·rename_i h1;rw[decide_eq_true h1,Bool.true_and]at hq;exact hq
  ·rename_i h1;rw[decide_eq_false h1,Bool.false_and]at hq;exact hq
noncomputable abbrev u9:List Str:=["_law_found","_law_due"]
theorem sc_law_number:FnScope ["_law_found","_law_due"] u9 (defScope y0n):=⟨rfl,rfl,rfl,by decide +kernel,rfl,by decide +kernel,by decide +kernel⟩
noncomputable abbrev t9(P:Program)(w:World)(K:PySem.W.Frag)(mg:Str→Option Value)(base:Heap)(cs:Cs):Prop:=Fun2 P w K mg base "_law_number" 2 u9 z0t
theorem p0n{f:Addr}{fd:FuncData}(Df:DefAt K mg "_law_number" y0n u9 f fd)(T:Txt K mg cs):t9 P w K mg base cs:=by
 have nd:=sc_law_number.nd;refine def2 Df sc_law_number (fun ds δ q x h=>?_) (fun cdv A outer s H E Y hr=>⟨_,(o3 (a3 (w0l (e2_b f6 (w0k (K:=K)) T.n_isinstance l5 (z0 (e2_v 0) (z0 (r0m "int" T.n_int q0z) v0))) (w0l (a0j (e2_b f6 (w0k (K:=K)) T.n_isinstance l5 (z0 (e2_v 0) (z0 (r0m "bool" T.n_bool g0x) v0)))) (q0x (q0y o0r d_eq (e2_v 0) (e2_v 1) (y4 _))))))),fun ds δ q x h=>?_⟩)
 ·unfold z0t at h;split at h
  ·rfl
  ·exact h.elim
 ·unfold z0t at h;split at h;rotate_left
  ·exact h.elim
  rename_i d j;obtain ⟨hd,hq⟩:=h;rw[show x5 ["_law_found","_law_due"] _=[.val _,.val _]from rfl];obtain ⟨t1,t2⟩:=p0y (K:=K) hd;walk_at "dl";simp only[g0k K t1 t2,a0d K t1 t2,t1,true_and];cases d<;>first |cases hd |skip
  all_goals (walk_at "dl";exact hq)
noncomputable abbrev y0b:List Str:=["_law_script","_law_k"]
theorem sc_law_cell:FnScope ["_law_script","_law_k"] y0b (defScope u0y):=⟨rfl,rfl,rfl,by decide +kernel,rfl,by decide +kernel,by decide +kernel⟩
noncomputable abbrev y0a(P:Program)(w:World)(K:PySem.W.Frag)(mg:Str→Option Value)(base:Heap)(cs:Cs):Prop:=Fun2 P w K mg base "_law_cell" 2 y0b f0s
theorem l0w{f:Addr}{fd:FuncData}(Df:DefAt K mg "_law_cell" u0y y0b f fd)(T:Txt K mg cs):y0a P w K mg base cs:=by
 have nd:=sc_law_cell.nd;refine def2 Df sc_law_cell (fun ds δ q x h=>?_) (fun cdv A outer s H E Y hr=>⟨_,(u0 (y6 (w4 o0r d_eq (w5 0 T.n_len) s0 (y4 _)) (o3 (a3 (y3 o4 o5 (y3 t0y o0c s0 (e2_v 1)) s0))) p5)
  (o3 (a3 (e2_b e0a d_abs T.n_abs bt_abs (z0 (p4 0 (y3 r0e i0s (e2_v 1) (w5 0 T.n_len))) v0))))),fun ds δ q x h=>?_⟩)
 ·unfold f0s at h;obtain ⟨ns,k,rfl,hk,hq⟩:=h;rfl
 ·unfold f0s at h;obtain ⟨ns,k,rfl,hk,hq⟩:=h;rw[show x5 ["_law_script","_law_k"] _=[.val _,.val _]from rfl];walk_at "dl";simp only[List.length_map];split
  ·rename_i h0;exact ⟨.inl ⟨by decide,by decide⟩,hq _ (by omega)⟩
  ·rename_i h0;have hlen:0<ns.length:=by omega
   refine ⟨by omega,?_⟩;obtain ⟨v,hat,hv⟩:=y1t (xs:=ns.map D.int) (k:=k) (by rw[List.length_map];exact hlen);rw[List.length_map]at hat
   obtain ⟨z,_,rfl⟩:=List.mem_map.mp hv;rw[hat];dsimp only;exact hq _ (by split<;>omega)
noncomputable abbrev x0z:List Str:=["_law_script","_law_k","_law_many"]
theorem sc_law_draw:FnScope ["_law_script","_law_k","_law_many","_law_a"] x0z (defScope u0x):=⟨rfl,rfl,rfl,by decide +kernel,rfl,by decide +kernel,by decide +kernel⟩
noncomputable abbrev u0n(P:Program)(w:World)(K:PySem.W.Frag)(mg:Str→Option Value)(base:Heap)(cs:Cs):Prop:=Fun2 P w K mg base "_law_draw" 3 x0z f0r
theorem l0v{f:Addr}{fd:FuncData}(Df:DefAt K mg "_law_draw" u0x x0z f fd)(T:Txt K mg cs)(G_law_cell:y0a P w K mg base cs):u0n P w K mg base cs:=by
 have nd:=sc_law_draw.nd;refine def2 Df sc_law_draw (fun ds δ q x h=>?_) (fun cdv A outer s H E Y hr=>⟨_,(u0 (v4 3 nd (y3 r0e i0s (y3 o4 o5 (y3 o4 o5 (y3 t0y o0c (y3 r0e i0s (u3 G_law_cell (hr.mono (by decide)) o0 (z0 (e2_v 0) (z0 (e2_v 1) v0))) s0) s0) (y3 t0y o0c (y3 t0y o0c (e2_v 1) (e2_v 1)) s0)) s0) s0))
  (u0 (v4 3 nd (y3 r0e i0s (y3 o4 o5 (y3 o4 o5 (y3 t0y o0c (e2_v 3) (e2_v 3)) (y3 t0y o0c s0 (e2_v 3))) (y3 t0y o0c (e2_v 1) s0)) s0))
  (o3 (a3 (y3 r0e i0s (y3 m0o g0s (e2_v 3) s0) (e2_v 2)))))),fun ds δ q x h=>?_⟩)
 ·unfold f0r at h;obtain ⟨ns,k,m,rfl,hk,hk2,hm,hq⟩:=h;rfl
 ·unfold f0r at h;obtain ⟨ns,k,m,rfl,hk,hk2,hm,hq⟩:=h;rw[show x5 ["_law_script","_law_k","_law_many","_law_a"] _=[.val _,.val _,.val _,.no]from rfl];walk_at "dl";refine ⟨ns,k,rfl,hk,fun c hc=>?_⟩;have h1:=Int.emod_nonneg c (b:=1000003) (by decide);have h2:=Int.emod_lt_of_pos c (b:=1000003) (by decide);refine ⟨by decide,.inl ⟨by omega,by omega⟩,.inl ⟨by omega,by omega⟩,.inr ⟨by decide,by decide⟩,by decide,?_⟩;generalize c%1000003*48271+k*k*7919+101=z;have h3:=Int.emod_nonneg z (b:=2147483647) (by decide);have h4:=Int.emod_lt_of_pos z (b:=2147483647) (by decide);refine ⟨.inl ⟨by omega,by omega⟩,.inl ⟨by decide,by decide⟩,.inl ⟨by omega,by omega⟩,by decide,⟨by decide,by decide⟩,hm,hq _ (Int.emod_nonneg _ (by omega)) (Int.emod_lt_of_pos _ hm)⟩
noncomputable abbrev x0y:List Str:=["_law_script"]
theorem sc_law_deck:FnScope ["_law_script","_law_cell_here"] x0y (defScope u0w):=⟨rfl,rfl,rfl,by decide +kernel,rfl,by decide +kernel,by decide +kernel⟩
noncomputable abbrev u0m(P:Program)(w:World)(K:PySem.W.Frag)(mg:Str→Option Value)(base:Heap)(cs:Cs):Prop:=Fun2 P w K mg base "_law_deck" 3 x0y f0q
theorem l0u{f:Addr}{fd:FuncData}(Df:DefAt K mg "_law_deck" u0w x0y f fd)(T:Txt K mg cs)(G_law_cell:y0a P w K mg base cs):u0m P w K mg base cs:=by
 have nd:=sc_law_deck.nd;refine def2 Df sc_law_deck (fun ds δ q x h=>?_) (fun cdv A outer s H E Y hr=>⟨_,(u0 (v4 1 nd (u3 G_law_cell (hr.mono (by decide)) o0 (z0 (e2_v 0) (z0 s0 v0))))
  (o3 (c0t (z0 (e2_v 0) (z0 (y3 t0y o0c (e2_v 1) (n9 h0q d_int T.n_int q0z (z0 (q0y op_ge d_ge (e2_v 1) (y3 a0w d_pow s0 s0) (y4 _)) v0))) (z0 s0 v0)))))),fun ds δ q x h=>?_⟩)
 ·unfold f0q at h;obtain ⟨ns,rfl,rfl,hq⟩:=h;rfl
 ·unfold f0q at h;obtain ⟨ns,rfl,rfl,hq⟩:=h;rw[show x5 ["_law_script","_law_cell_here"] _=[.val _,.no]from rfl];walk_at "dl";refine ⟨ns,0,rfl,by decide,fun c hc=>?_⟩;refine ⟨⟨by decide,by decide,by decide⟩,.inr ⟨by split<;>decide,by split<;>decide⟩,rfl,fun p=>hq p _ ⟨_,_,rfl,?_,by decide,by decide⟩⟩;split<;>omega
noncomputable abbrev x0x:List Str:=["_law_deck_here","_law_many"]
theorem sc_law_take:FnScope ["_law_deck_here","_law_many","_law_digit"] x0x (defScope u0v):=⟨rfl,rfl,rfl,by decide +kernel,rfl,by decide +kernel,by decide +kernel⟩
noncomputable abbrev o6(P:Program)(w:World)(K:PySem.W.Frag)(mg:Str→Option Value)(base:Heap)(cs:Cs):Prop:=Fun2 P w K mg base "_law_take" 4 x0x f0p
theorem l0t{f:Addr}{fd:FuncData}(Df:DefAt K mg "_law_take" u0v x0x f fd)(T:Txt K mg cs)(G_law_draw:u0n P w K mg base cs):o6 P w K mg base cs:=by
 have nd:=sc_law_take.nd;refine def2 Df sc_law_take (fun ds δ q x h=>?_) (fun cdv A outer s H E Y hr=>⟨_,(u0 (y6 (w4 m0n d_gt (p4 0 s0) s0 (y4 _)) (u0 (v4 2 nd (y3 r0e i0s (p4 0 s0) (e2_v 1)))
  (u0 (y0w 0 s0 (y3 m0o g0s (p4 0 s0) (e2_v 1)))
  (o3 (a3 (e2_v 2))))) p5)
  (u0 (y0w 0 s0 (y3 o4 o5 (p4 0 s0) s0))
  (o3 (a3 (u3 G_law_draw (hr.mono (by decide)) o0 (z0 (p4 0 s0) (z0 (p4 0 s0) (z0 (e2_v 1) v0)))))))),fun ds δ q x h=>?_⟩)
 ·unfold f0p at h;obtain ⟨p,ns,n,m,rfl,hD,hn,hm,hm2,hq⟩:=h;rfl
 ·unfold f0p at h;obtain ⟨p,ns,n,m,rfl,hD,hn,hm,hm2,hq⟩:=h;rw[show x5 ["_law_deck_here","_law_many","_law_digit"] _=[.val _,.val _,.no]from rfl];obtain ⟨c,k,rfl,hc,hk,hkn⟩:=hD;walk_at "dl";split
  ·exact ⟨hm,⟨hm,by omega⟩,hq _ _ (Int.emod_nonneg _ (by omega)) (Int.emod_lt_of_pos _ hm) ⟨_,_,rfl,Int.ediv_nonneg hc (by omega),hk,by omega⟩⟩
  ·exact ⟨ns,k+1,m,rfl,by omega,by omega,hm,fun r h1 h2=>hq _ _ h1 h2 ⟨_,_,rfl,hc,by omega,by omega⟩⟩
theorem l0s{i lo hi:Int}(h1:lo≤i)(h2:i≤hi):a6 (.int i) lo hi=true:=by show (decide (lo≤i)&&decide (i≤hi))=true;rw[decide_eq_true h1,decide_eq_true h2];rfl
theorem whole_f{i lo hi:Int}(h:i<lo∨hi<i):a6 (.int i) lo hi=false:=by
 show (decide (lo≤i)&&decide (i≤hi))=false;rw[Bool.and_eq_false_iff];rcases h with h |h
 ·exact .inl (decide_eq_false (by omega))
 ·exact .inr (decide_eq_false (by omega))
noncomputable abbrev t0i:List Str:=["thing"]
theorem sc_is_row:FnScope ["thing"] t0i (defScope p0q):=⟨rfl,rfl,rfl,by decide +kernel,rfl,by decide +kernel,by decide +kernel⟩
noncomputable abbrev p0m(P:Program)(w:World)(K:PySem.W.Frag)(mg:Str→Option Value)(base:Heap)(cs:Cs):Prop:=Fun2 P w K mg base "is_row" 2 t0i b0s
theorem f0n{f:Addr}{fd:FuncData}(Df:DefAt K mg "is_row" p0q t0i f fd)(T:Txt K mg cs):p0m P w K mg base cs:=by
 have nd:=sc_is_row.nd;refine def2 Df sc_is_row (fun ds δ q x h=>?_) (fun cdv A outer s H E Y hr=>⟨_,(o3 (a3 (e2_b f6 (w0k (K:=K)) T.n_isinstance l5 (z0 (e2_v 0) (z0 (u6 (z0 (r0m "list" T.n_list g0w) (z0 (r0m "tuple" T.n_tuple a8) v0))) v0))))),fun ds δ q x h=>?_⟩)
 ·unfold b0s at h;split at h
  ·rfl
  ·exact h.elim
 ·unfold b0s at h;split at h;rotate_left
  ·exact h.elim
  rename_i d;obtain ⟨hd,hq⟩:=h;rw[show x5 ["thing"] _=[.val _]from rfl];obtain ⟨t1,t2⟩:=p0y (K:=K) hd;walk_at "dl";simp only[ko_row K t1 t2,t1,true_and];cases d
  all_goals first |exact hq |cases hd
noncomputable abbrev f7:List Str:=["thing","shortest","longest","least","most"]
theorem sc_is_whole_row:FnScope ["thing","shortest","longest","least","most"] f7 (defScope l9):=⟨rfl,rfl,rfl,by decide +kernel,rfl,by decide +kernel,by decide +kernel⟩
noncomputable abbrev k9(P:Program)(w:World)(K:PySem.W.Frag)(mg:Str→Option Value)(base:Heap)(cs:Cs):Prop:=Fun2 P w K mg base "is_whole_row" 3 f7 j0o
theorem s0c{f:Addr}{fd:FuncData}(Df:DefAt K mg "is_whole_row" l9 f7 f fd)(T:Txt K mg cs)(G_is_row:p0m P w K mg base cs)(G_is_whole:u0o P w K mg base cs):k9 P w K mg base cs:=by
 have nd:=sc_is_whole_row.nd;refine def2 Df sc_is_whole_row (fun ds δ q x h=>?_) (fun cdv A outer s H E Y hr=>⟨_,(u0 (y6 (PW2.pt (o9 (o8 (z9 (u3 G_is_row (hr.mono (by decide)) o0 (z0 (e2_v 0) v0)))) (a7 (o8 (d0h e0d e0d d_le d_le (e2_v 1) (w5 0 T.n_len) (e2_v 2)))))) (o3 (a3 s0u)) p5)
  (o3 (a3 (e2_b (q0c rfl) y1k T.n_all g0y (z0 (y7 rfl (CompOkM.of ["entry"] [3,4] rfl) (w0h (e2_v 0)) (fun nd _ _ _ _ _=>(x4 (i:=0) nd rfl (by first |exact Or.inl rfl |exact Or.inr rfl))) z7 (fun _ _ _ _ _ _=>y0r) (fun _ _ _ _ _ _=>(u3 G_is_whole (hr.mono (by decide)) s0r (z0 (e2_v 0) (z0 (e2_v 1) (z0 (e2_v 2) v0)))))) v0))))),fun ds δ q x h=>?_⟩)
 ·unfold j0o at h;split at h
  ·rfl
  ·exact h.elim
 ·unfold j0o at h;split at h;rotate_left
  ·exact h.elim
  rename_i d a b lo hi;obtain ⟨ht,hb,hq⟩:=h;rw[show x5 ["thing","shortest","longest","least","most"] _=[.val _,.val _,.val _,.val _,.val _]from rfl];have hp:d9 d=true:=by unfold x0i at ht;rw[Bool.and_eq_true]at ht;exact ht.1
  walk_at "dl";simp only[b0s,hp,true_and];cases e:rowD d with
  |none=>
   have e1:n0i d=false:=by unfold n0i;rw[e];rfl
   have e2:t0q d a b lo hi=false:=by unfold t0q;rw[e]
   rw[e2]at hq;simp only[e1,Bool.not_false,if_true];exact hq
  |some xs=>
   have e1:n0i d=true:=by unfold n0i;rw[e];rfl
   have e3:seqD d=some xs:=by cases d<;>first |(cases e;rfl)|cases e
   have hx:∀x∈xs,d9 x=true:=by
    unfold x0i at ht;rw[Bool.and_eq_true,e]at ht;exact List.all_eq_true.mp ht.2
   unfold t0q at hq;rw[e]at hq;dsimp only at hq;simp only[e1,Bool.not_true,Bool.false_eq_true,if_false];have main:∀ ρ:En,ρ[3]?=some (.val (.int lo))→ρ[4]?=some (.val (.int hi))→(xs.length:Int)≤b→q (.bl (xs.all (a6 · lo hi))) δ→y0u (q0t s0d (s0t (t2V 0) (s0t (t2V 1) (s0t (t2V 2) g0u)))) [3,4] ρ
    (fun acc δ2=>match blsD acc with |some bs=>q (D.bl (bs.all id)) δ2 |none=>False) xs [] δ:=by
    intro ρ r3 r4 hlen hq;refine p0x (fun i acc δ'=>acc=(xs.take i).map (fun z=>D.bl (a6 z lo hi))∧δ'=δ) ⟨rfl,rfl⟩ ?_ ?_
    ·rintro i z acc δ' rest hi ⟨rfl,rfl⟩ hrest;have hl:=(List.getElem?_eq_some_iff.mp hi).1;simp only[capt,e9,List.map_cons,List.map_nil,r3,r4];walk_at "dl";simp only[s0d,hx z (List.mem_of_getElem? hi),true_and];refine ⟨by rw[List.length_map,List.length_take];omega,hrest _ _ ⟨?_,rfl⟩⟩;rw[List.take_succ,hi,List.map_append];rfl
    ·rintro acc δ' ⟨rfl,rfl⟩;rw[List.take_length,l0y];have:(xs.map fun z=>a6 z lo hi).all id=xs.all (a6 · lo hi):=by rw[List.all_map];rfl
     dsimp only;rw[this];exact hq
   cases d<;>first |(cases e;done)|skip
   all_goals
    cases e;dsimp only;split
    ·rename_i h1;split
     ·rename_i h2;rw[Bool.not_eq_true',decide_eq_false_iff_not]at h2;rw[decide_eq_true h1,decide_eq_false h2]at hq;exact hq
     ·rename_i h2;rw[Bool.not_eq_true',decide_eq_false_iff_not,Decidable.not_not]at h2;rw[decide_eq_true h1,decide_eq_true h2]at hq;exact main _ rfl rfl h2 hq
    ·rename_i h1;rw[decide_eq_false h1]at hq;exact hq
theorem q0o{d:D}{lo hi:Int}(h:a6 d lo hi=true):∃i,d=.int i∧lo≤i∧i≤hi:=by
 cases d with
 |int i=>
  unfold a6 at h;rw[Bool.and_eq_true,decide_eq_true_eq,decide_eq_true_eq]at h;exact ⟨i,rfl,h.1,h.2⟩
 |_=>cases h
noncomputable def intD:D→Int | .int i=>i |_=>0
noncomputable def risI:List Int→Bool
 |a::b::r=>decide (a<b)&&risI (b::r)
 |_=>true
noncomputable def risD(d:D)(lo hi:Int):Bool:=t0q d 0 (hi-lo+1) lo hi&&risI (((rowD d).getD []).map intD)
theorem x0w{lo hi:Int}:∀{xs:List D},xs.all (a6 · lo hi)=true→xs=(xs.map intD).map D.int
 | [],_=>rfl
 |d::xs,h=>by
  rw[List.all_cons,Bool.and_eq_true]at h;obtain ⟨i,rfl,_,_⟩:=q0o h.1;rw[List.map_cons,List.map_cons,← x0w h.2];rfl
theorem j0n(ns:List Int):(ns.map D.int).map intD=ns:=by
 rw[List.map_map];exact List.map_id _
theorem atZ{ns:List Int}{z:Int}(h0:0≤z)(h1:z<(ns.length:Int)):atI (ns.map D.int) z=some (.int (ns.getD z.toNat 0)):=by
 have hz:z=((z.toNat:Nat):Int):=by omega
 have hl:z.toNat<ns.length:=by omega
 rw[hz,z0c (v:=D.int (ns.getD z.toNat 0))]
 ·rfl
 ·rw[List.getElem?_map,List.getElem?_eq_getElem hl,List.getD_eq_getElem?_getD,List.getElem?_eq_getElem hl];rfl
theorem f0m:∀ns:List Int,((List.range (ns.length-1)).map fun j=>decide (ns.getD j 0<ns.getD (j+1) 0)).all id=risI ns
 | []=>rfl
 | [a]=>rfl
 |a::b::r=>by
  have ih:=f0m (b::r);have e:(a::b::r).length-1=(r.length)+1:=by simp
  have e2:(b::r).length-1=r.length:=by simp
  rw[e2]at ih;rw[e,List.range_succ_eq_map,List.map_cons,List.all_cons,List.map_map];unfold risI;rw[←ih];rfl
noncomputable def t0h:Sp2:=fun ds δ q _=>match ds with | [d,.int lo,.int hi]=>x0i d=true∧hi-lo+1≤900∧q (.bl (risD d lo hi)) δ |_=>False
noncomputable abbrev v7:List Str:=["thing","least","most"]
theorem sc_is_rising_row:FnScope ["thing","least","most"] v7 (defScope l8):=⟨rfl,rfl,rfl,by decide +kernel,rfl,by decide +kernel,by decide +kernel⟩
noncomputable abbrev j8(P:Program)(w:World)(K:PySem.W.Frag)(mg:Str→Option Value)(base:Heap)(cs:Cs):Prop:=Fun2 P w K mg base "is_rising_row" 4 v7 t0h
theorem t0p{f:Addr}{fd:FuncData}(Df:DefAt K mg "is_rising_row" l8 v7 f fd)(T:Txt K mg cs)(G_is_whole_row:k9 P w K mg base cs):j8 P w K mg base cs:=by
 have nd:=sc_is_rising_row.nd;refine def2 Df sc_is_rising_row (fun ds δ q x h=>?_) (fun cdv A outer s H E Y hr=>⟨_,(u0 (y6 (o8 (z9 (u3 G_is_whole_row (hr.mono (by decide)) o0 (z0 (e2_v 0) (z0 s0 (z0 (y3 o4 o5 (y3 f9 v0g (e2_v 2) (e2_v 1)) s0) (z0 (e2_v 1) (z0 (e2_v 2) v0)))))))) (o3 (a3 s0u)) p5)
  (o3 (a3 (e2_b (q0c rfl) y1k T.n_all g0y (z0 (y7 rfl (CompOkM.of ["k"] [0] rfl) (w0g T.n_range (z0 s0 (z0 (w5 0 T.n_len) v0))) (fun nd _ _ _ _ _=>(x4 (i:=0) nd rfl (by first |exact Or.inl rfl |exact Or.inr rfl))) z7 (fun _ _ _ _ _ _=>y0r) (fun _ _ _ _ _ _=>(q0y z1j d_lt (p4 1 (y3 f9 v0g (e2_v 0) s0)) (p4 1 (e2_v 0)) (y4 _)))) v0))))),fun ds δ q x h=>?_⟩)
 ·unfold t0h at h;split at h
  ·rfl
  ·exact h.elim
 ·unfold t0h at h;split at h;rotate_left
  ·exact h.elim
  rename_i d lo hi;obtain ⟨ht,hb,hq⟩:=h;rw[show x5 ["thing","least","most"] _=[.val _,.val _,.val _]from rfl];walk_at "dl";simp only[j0o,ht,true_and];refine ⟨hb,?_⟩;cases e:t0q d 0 (hi-lo+1) lo hi with
  |false=>
   have er:risD d lo hi=false:=by unfold risD;rw[e];rfl
   rw[er]at hq;simp only[Bool.not_false,if_true];exact hq
  |true=>
   simp only[Bool.not_true,Bool.false_eq_true,if_false];have er:risD d lo hi=risI (((rowD d).getD []).map intD):=by unfold risD;rw[e];rfl
   rw[er]at hq;have main:∀ns:List Int,(ns.length:Int)≤900→q (.bl (risI ns)) δ→∀(c:D),seqV [.val c] none 0=some (ns.map D.int)→(∀a,c≠.ref a)→y0u (t2Op ltF (m0g 1 (t2Op subF (t2V 0) (t2C (.int 1)))) (m0g 1 (t2V 0))) [0] [.val c,.val (.int lo),.val (.int hi)]
    (fun acc δ2=>match blsD acc with |some bs=>q (D.bl (bs.all id)) δ2 |none=>False) (rngD 1 (((ns.length:Nat):Int)-1).toNat) [] δ:=by
    intro ns hl hq c hc hr;have hs:∀(ρ:En) δ',seqV (ρ++[.val c]) δ' ρ.length=some (ns.map D.int):=fun ρ δ'=>by
     unfold seqV at hc ⊢;rw[List.getElem?_append_right (Nat.le_refl _),Nat.sub_self];cases c<;>first |exact hc |exact absurd rfl (hr _)
    refine p0x (fun i acc δ'=>acc=(List.range i).map (fun j=>D.bl (decide (ns.getD j 0<ns.getD (j+1) 0)))∧δ'=δ) ⟨rfl,rfl⟩ ?_ ?_
    ·rintro i z acc δ' rest hi ⟨rfl,rfl⟩ hrest;obtain ⟨hi2,rfl⟩:=y9 hi;have hs1:=hs [.val (.int (1+(i:Int)))] δ';simp only[capt,e9,List.map_cons,List.map_nil,List.getElem?_cons_zero];simp only[t2Op,m0g,t2V,t2C,rdV,hasV,List.getElem?_cons_zero,List.getElem?_cons_succ,fI0,true_and];simp only[List.cons_append,List.nil_append,List.length_cons,List.length_nil,Nat.zero_add]at hs1;simp only[hs1,ixQ,ltF,fI0];rw[atZ (by omega) (by omega),atZ (by omega) (by omega)];dsimp only;refine ⟨by rw[List.length_map,List.length_range];omega,hrest _ _ ⟨?_,rfl⟩⟩;rw[List.range_succ,List.map_append];have e1:(1+(i:Int)-1).toNat=i:=by omega
     have e2:(1+(i:Int)).toNat=i+1:=by omega
     rw[e1,e2];rfl
    ·rintro acc δ' ⟨rfl,rfl⟩;rw[w8,l0y];dsimp only;have e1:(((ns.length:Nat):Int)-1).toNat=ns.length-1:=by omega
     rw[e1,f0m];exact hq
   have key:∀xs:List D,rowD d=some xs→((xs.map intD).map D.int)=xs∧(xs.length:Int)≤900:=fun xs hx=>by
    unfold t0q at e;rw[hx]at e;dsimp only at e;simp only[Bool.and_eq_true,decide_eq_true_eq]at e;exact ⟨(x0w e.2).symm,by omega⟩
   have len:∀xs:List D,((xs.map intD).length:Int)=(xs.length:Int):=fun xs=>by rw[List.length_map]
   have bnd:∀xs:List D,rowD d=some xs→(-(2^62)≤(1:Int)∧(1:Int)<2^62∧-(2^62)≤((xs.length:Nat):Int)∧((xs.length:Nat):Int)<2^62):=fun xs hx=>by have:=(key xs hx).2;omega
   cases d<;>first |(cases e;done)|skip
   ·rename_i xs;obtain ⟨k1,k2⟩:=key xs rfl;refine ⟨bnd xs rfl,?_⟩;have:=main (xs.map intD) (by rw[len];exact k2) hq (.lst xs) (by rw[k1];rfl) (fun a z=>by cases z);rw[List.length_map]at this;exact this
   ·rename_i xs;obtain ⟨k1,k2⟩:=key xs rfl;refine ⟨bnd xs rfl,?_⟩;have:=main (xs.map intD) (by rw[len];exact k2) hq (.tup xs) (by rw[k1];rfl) (fun a z=>by cases z);rw[List.length_map]at this;exact this
noncomputable def l0r:Sp2:=fun ds δ q _=>match ds with | [d,.int m]=>x0i d=true∧m≤900∧q (.bl (risD d 0 (m-1))) δ |_=>False
noncomputable abbrev n6:List Str:=["thing","many"]
theorem sc_is_choice_among:FnScope ["thing","many"] n6 (defScope l7):=⟨rfl,rfl,rfl,by decide +kernel,rfl,by decide +kernel,by decide +kernel⟩
noncomputable abbrev j7(P:Program)(w:World)(K:PySem.W.Frag)(mg:Str→Option Value)(base:Heap)(cs:Cs):Prop:=Fun2 P w K mg base "is_choice_among" 5 n6 l0r
theorem v0z{f:Addr}{fd:FuncData}(Df:DefAt K mg "is_choice_among" l7 n6 f fd)(T:Txt K mg cs)(G_is_rising_row:j8 P w K mg base cs):j7 P w K mg base cs:=by
 have nd:=sc_is_choice_among.nd;refine def2 Df sc_is_choice_among (fun ds δ q x h=>?_) (fun cdv A outer s H E Y hr=>⟨_,(o3 (a3 (u3 G_is_rising_row (hr.mono (by decide)) o0 (z0 (e2_v 0) (z0 s0 (z0 (y3 f9 v0g (e2_v 1) s0) v0)))))),fun ds δ q x h=>?_⟩)
 ·unfold l0r at h;split at h
  ·rfl
  ·exact h.elim
 ·unfold l0r at h;split at h;rotate_left
  ·exact h.elim
  rename_i d m;obtain ⟨ht,hm,hq⟩:=h;rw[show x5 ["thing","many"] _=[.val _,.val _]from rfl];walk_at "dl";simp only[t0h];exact ⟨ht,by omega,hq⟩
noncomputable def tx(l:List Nat):Str:=⟨l.toArray⟩
noncomputable def txD(l:List Nat):D:=.str (tx l)
theorem u4{l:List Nat}:(tx l).length=l.length:=by simp[tx,Str.length]
theorem u7{a b:List Nat}:tx a++tx b=tx (a++b):=by
 show Str.append _ _=_;simp[tx,Str.append]
theorem q0n{a b:List Nat}(h:tx a=tx b):a=b:=by
 have:=congrArg (fun s:Str=>s.cps.toList) h;simpa[tx]using this
theorem p0l{a b:List Nat}:(decide (tx a=tx b))=decide (a=b):=by
 by_cases h:a=b
 ·rw[h,decide_eq_true rfl,decide_eq_true rfl]
 ·rw[decide_eq_false h,decide_eq_false fun z=>h (q0n z)]
theorem tx_of(s:Str):s=tx s.cps.toList:=by simp[tx]
noncomputable def dig(n:Nat):List Nat:=if n<10 then [48+n]else [48+n/10,48+n%10]
theorem x1d:∀n:Fin 100,(Str.ofString (toString ((n.val:Nat):Int)))=tx (dig n.val):=by decide +kernel
theorem x0h{i:Int}(h1:0≤i)(h2:i<100):(Str.ofString (toString i))=tx (dig i.toNat):=by
 have:=x1d ⟨i.toNat,by omega⟩;rw[show ((i.toNat:Nat):Int)=i by omega]at this;exact this
theorem x1c:∀n m:Fin 100,dig n.val=dig m.val→n=m:=by decide +kernel
theorem dig_eq{i j:Int}(h1:0≤i)(h2:i<100)(h3:0≤j)(h4:j<100)(h:dig i.toNat=dig j.toNat):i=j:=by
 have:=congrArg Fin.val (x1c ⟨i.toNat,by omega⟩ ⟨j.toNat,by omega⟩ h);have:i.toNat=j.toNat:=this;omega
theorem p0k{n:Nat}(h:n<100):∀c∈dig n,48≤c∧c≤57:=by
 intro c hc;unfold dig at hc;split at hc
 ·simp only[List.mem_cons,List.not_mem_nil,or_false]at hc;omega
 ·simp only[List.mem_cons,List.not_mem_nil,or_false]at hc;rcases hc with hc |hc<;>omega
theorem z1w{n:Nat}:dig n≠[]:=by unfold dig;split<;>simp
theorem m5{n:Nat}:(dig n).length≤2:=by unfold dig;split<;>simp
noncomputable def n4(c:Nat):List Nat→List (List Nat)
 | []=>[[]]
 |a::l=>if a=c then []::n4 c l else (match n4 c l with | []=>[[a]]|w::r=>(a::w)::r)
theorem v0y{c:Nat}:∀l,n4 c l≠[]
 | []=>by simp[n4]
 |a::l=>by
  unfold n4;split
  ·simp
  ·split<;>simp
theorem t6{c:Nat}:∀{l:List Nat},c∉l→n4 c l=[l]
 | [],_=>rfl
 |a::l,h=>by
  rw[List.mem_cons,not_or]at h;unfold n4;rw[if_neg (Ne.symm h.1),t6 h.2]
theorem r8{c:Nat}:∀(a b:List Nat),n4 c (a++c::b)=n4 c a++n4 c b
 | [],b=>by show (if c=c then []::n4 c b else _)=_;rw[if_pos rfl];rfl
 |x::a,b=>by
  rw[List.cons_append];show (if x=c then []::n4 c (a++c::b)else (match n4 c (a++c::b)with | []=>[[x]]|w::r=>(x::w)::r))=(if x=c then []::n4 c a else (match n4 c a with | []=>[[x]]|w::r=>(x::w)::r))++n4 c b;rw[r8 a b];by_cases h:x=c
  ·rw[if_pos h,if_pos h];rfl
  ·rw[if_neg h,if_neg h];cases e:n4 c a with
   |nil=>exact absurd e (v0y a)
   |cons w r=>rfl
noncomputable def u5(sep:List Nat):List (List Nat)→List Nat
 | []=>[]
 | [a]=>a
 |a::b::r=>a++(sep++u5 sep (b::r))
theorem i8{c:Nat}:∀(ps:List (List Nat)),ps≠[]→(∀p∈ps,c∉p)→n4 c (u5 [c] ps)=ps
 | [],h,_=>absurd rfl h
 | [a],_,h=>t6 (h a (List.mem_singleton.mpr rfl))
 |a::b::r,_,h=>by
  show n4 c (a++c::u5 [c] (b::r))=_;rw[r8,t6 (h a (List.mem_cons_self ..)),i8 (b::r) (by simp) fun p hp=>h p (List.mem_cons_of_mem _ hp)];rfl
theorem l0q(s:List Nat):∀(ps:List (List Nat)),Str.join (tx s) (ps.map tx)=tx (u5 s ps)
 | []=>rfl
 | [a]=>rfl
 |a::b::r=>by
  show tx a++tx s++Str.join (tx s) ((b::r).map tx)=_;rw[l0q s (b::r),u7,u7,List.append_assoc];rfl
theorem s0b{s:List Nat}{ps:List (List Nat)}:Txt.join (tx s) (ps.map tx)=tx (u5 s ps):=(StrLaws.glued_eq_join _ _).trans (l0q s ps)
theorem t0g{l:List Nat}{c:Nat}:Txt.split (tx l) (tx [c])=(n4 c l).map tx:=by
 have h1:=StrLaws.join_split (tx l) (tx [c]);have h2:∀y∈Txt.split (tx l) (tx [c]),c∉y.cps.toList:=StrLaws.split_free (tx l) c;have h3:=PyProof.Rows.split_pos (tx l) (tx [c]);have e:Txt.split (tx l) (tx [c])=((Txt.split (tx l) (tx [c])).map fun y=>y.cps.toList).map tx:=by
  rw[List.map_map]
  conv=>lhs;rw[←List.map_id (Txt.split (tx l) (tx [c]))]
  exact List.map_congr_left fun y _=>tx_of y
 rw[e]at h1;rw[l0q]at h1;have e2:=q0n h1;have e3:n4 c l=(Txt.split (tx l) (tx [c])).map fun y=>y.cps.toList:=by
  conv=>lhs;rw[←e2]
  refine i8 _ (fun z=>?_) fun p hp=>?_
  ·have:=congrArg List.length z;rw[List.length_map,List.length_nil]at this;omega
  ·obtain ⟨y,hy,rfl⟩:=List.mem_map.mp hp;exact h2 y hy
 rw[e3];exact e
noncomputable def m3(l:List Nat):List (List Nat):=(n4 32 l).filter (·≠[])
theorem q0m(a b:List Nat):m3 (a++32::b)=m3 a++m3 b:=by unfold m3;rw[r8,List.filter_append]
theorem b9:m3 []=[]:=rfl
theorem q0l:∀(n:Nat) (a:List Nat),m3 (a++List.replicate n 32)=m3 a
 | 0,a=>by rw[List.replicate_zero,List.append_nil]
 |n+1,a=>by
  rw[List.replicate_succ,q0m];have:=q0l n [];rw[List.nil_append]at this;rw[this,b9,List.append_nil]
theorem wordsL_one{w:List Nat}(h1:32∉w)(h2:w≠[]):m3 w=[w]:=by
 unfold m3;rw[t6 h1];simp[h2]
noncomputable def cntL(l:List Nat):List (List (List Nat)):=((n4 10 l).map m3).filter (·≠[])
theorem cntL_mid(a b:List Nat):cntL (a++10::b)=cntL a++cntL b:=by unfold cntL;rw[r8,List.map_append,List.filter_append]
theorem cntL_free{a:List Nat}(h:10∉a):cntL a=if m3 a=[]then []else [m3 a]:=by
 unfold cntL;rw[t6 h];by_cases z:m3 a=[]
 ·simp[z]
 ·simp[z]
theorem j0m{c:Nat}{n:Int}(h:0≤n):Txt.mul (tx [c]) n=tx (List.replicate n.toNat c):=by
 unfold Txt.mul;by_cases h1:n<1
 ·rw[if_pos h1,show n.toNat=0 by omega];rfl
 ·rw[if_neg h1];by_cases h2:n=1
  ·subst h2;rfl
  ·have:((n==1)||((tx [c]).length==0))=false:=by
    rw[beq_eq_false_iff_ne.mpr h2];rfl
   rw[this];simp only[Bool.false_eq_true,if_false];have key:∀(k:Nat) (acc:List Nat),List.foldl (fun (x1 x2:Array Nat)=>x1++x2) acc.toArray (List.replicate k (tx [c]).cps)=(acc++List.replicate k c).toArray:=by
    intro k
    induction k with
    |zero=>intro acc;simp
    |succ k ih=>
     intro acc;rw[List.replicate_succ,List.foldl_cons];have e:acc.toArray++(tx [c]).cps=(acc++[c]).toArray:=by simp[tx]
     rw[e,ih,List.replicate_succ,List.append_assoc];rfl
   have:=key n.toNat [];rw[List.nil_append]at this;show (⟨List.foldl (fun x1 x2=>x1++x2) #[] (List.replicate n.toNat (tx [c]).cps)⟩:Str)=_;exact congrArg Str.mk this
noncomputable def cutN(l:List Nat)(lo hi:Option Int):List Nat:=(l.drop (HT.sIx l.length 0 lo)).take (HT.sIx l.length l.length hi-HT.sIx l.length 0 lo)
theorem b0r(l:List Nat)(k a:Nat):((List.range k).map (a+·)).filterMap (l.toArray[·]?)=(l.drop a).take k:=by
 have:=pick_run l.toArray a k;simpa using this
theorem v0x{l:List Nat}{lo hi:Option Int}:Txt.slice (tx l) lo hi=tx (cutN l lo hi):=by
 have hb:Builtin.Str.strSliceIndices lo hi 1 (tx l).length=(List.range (HT.sIx l.length l.length hi-HT.sIx l.length 0 lo)).map (HT.sIx l.length 0 lo+·):=by
  obtain ⟨h1,h2,h3⟩:=t0x lo hi l.length;rw[u4];show sliceRange (sliceBounds lo hi none l.length).1 (sliceBounds lo hi none l.length).2.1 1=_;rw[h1,h2,sliceRange_one]
 unfold Txt.slice;rw[hb];have key:(⟨(((List.range (HT.sIx l.length l.length hi-HT.sIx l.length 0 lo)).map (HT.sIx l.length 0 lo+·)).filterMap ((tx l).cps[·]?)).toArray⟩:Str)=tx (cutN l lo hi):=congrArg (fun z:List Nat=>(⟨z.toArray⟩:Str)) (b0r l _ _);split
 ·rename_i h;rw[←key];rw[Bool.and_eq_true,beq_iff_eq,beq_iff_eq,List.length_map,List.length_range,u4]at h;have hz:=HT.sIx_le l.length 0 (Nat.zero_le _) lo;have hy:=HT.sIx_le l.length l.length (Nat.le_refl _) hi;have e:cutN l lo hi=l:=by
   unfold cutN;rw[h.2,show HT.sIx l.length 0 lo=0 by omega,List.drop_zero,List.take_length]
  rw[key,e]
 ·exact key
theorem n0g{l:List Nat}:cutN l none (some (-1))=l.dropLast:=by
 unfold cutN;have e:HT.sIx l.length l.length (some (-1))=l.length-1:=by
  unfold HT.sIx;dsimp only;rw[if_pos (by decide)];omega
 rw[HT.sIx_none,e,List.drop_zero,Nat.sub_zero,List.dropLast_eq_take]
theorem rstrip_tx{l:List Nat}:∃l' k,Txt.rstripChars (tx l) (tx [32])=tx l'∧l=l'++List.replicate k 32:=by
 have goes:∀c,(tx [32]).cps.contains c=(c==32):=fun c=>by simp[tx,Array.contains,eq_comm,Bool.beq_eq_decide_eq]
 have hrev:∀m:List Nat,∃k,m=List.replicate k 32++m.drop k∧k=(m.takeWhile fun c=>(tx [32]).cps.contains c).length:=by
  intro m
  induction m with
  |nil=>exact ⟨0,rfl,rfl⟩
  |cons c m ih=>
   obtain ⟨k,e,hk⟩:=ih;by_cases h:c=32
   ·refine ⟨k+1,?_,?_⟩
    ·rw[h,List.replicate_succ,List.cons_append,List.drop_succ_cons];exact congrArg (32::·) e
    ·rw[List.takeWhile_cons_of_pos (by rw[goes,h];rfl),List.length_cons,← hk]
   ·refine ⟨0,rfl,?_⟩;rw[List.takeWhile_cons_of_neg (by rw[goes,beq_eq_false_iff_ne.mpr h];decide)];rfl
 obtain ⟨k,e,hk⟩:=hrev l.reverse;have hl:k≤l.length:=by
  rw[hk,← List.length_reverse (as:=l)];exact (List.takeWhile_sublist _).length_le
 have lo:stripLo (tx [32]).cps.contains false (tx l)=0:=rfl;have hi:stripHi (tx [32]).cps.contains true (tx l) 0=l.length-k:=by
  unfold stripHi;rw[if_pos rfl,u4,List.drop_zero,hk];rfl
 have res:Txt.rstripChars (tx l) (tx [32])=tx (l.take (l.length-k)):=by
  unfold Txt.rstripChars Txt.stripBy stripSame stripped;rw[lo,hi,u4];split
  ·rename_i h;rw[Bool.and_eq_true,beq_iff_eq,beq_iff_eq]at h;rw[List.take_of_length_le (by omega)]
  ·unfold Builtin.Str.strSub;simp[tx]
 refine ⟨l.take (l.length-k),k,res,?_⟩;have e2:=congrArg List.reverse e;rw[List.reverse_reverse,List.reverse_append,List.reverse_replicate,List.drop_reverse,List.reverse_reverse]at e2;exact e2
theorem w0t:Str.ofString " "=tx [32]:=by decide +kernel
theorem n0f:Str.ofString "\n"=tx [10]:=by decide +kernel
theorem u0l:Str.ofString ""=tx []:=by decide +kernel
theorem f0l:Str.ofString ":"=tx [58]:=by decide +kernel
noncomputable def rT:List Nat:=[114,111,117,110,100,115]
noncomputable def fT:List Nat:=[102,114,111,109]
theorem j0l:Str.ofString "rounds"=tx rT:=by decide +kernel
theorem z1v:Str.ofString "from"=tx fT:=by decide +kernel
theorem f0k:Str.ofString "rounds "=tx (rT++[32]):=by decide +kernel
theorem x1b:Str.ofString " from "=tx (32::(fT++[32])):=by decide +kernel
theorem b0q:Str.ofString ": "=tx [58,32]:=by decide +kernel
noncomputable def j9(ns:List Int):List (List Nat):=ns.map fun n=>dig n.toNat
noncomputable def spNums:Sp2:=fun ds δ q _=>∃d ns,ds=[d]∧rowD d=some (ns.map D.int)∧ns.length≤100∧(∀n∈ns,0≤n∧n<100)∧q (txD (u5 [32] (j9 ns))) δ
noncomputable def l0p:Sp2:=fun ds δ q _=>∃l:List Nat,ds=[txD l]∧l.length≤900∧q (.lst ((m3 l).map txD)) δ
noncomputable def i4(l:List Nat):List (List Nat):=if (n4 10 l).getLast?=some []then (n4 10 l).dropLast else n4 10 l
noncomputable def l0o:Sp2:=fun ds δ q _=>∃l:List Nat,ds=[txD l]∧l.length≤10000∧q (.lst ((i4 l).map txD)) δ
noncomputable def numW(w:List Nat)(lo:Int):Nat→D
 | 0=>.non
 |n+1=>if w=dig lo.toNat then .int lo else numW w (lo+1) n
theorem s0a{w:List Nat}{lo:Int}{n:Nat}:numW w lo (n+1)=if w=dig lo.toNat then .int lo else numW w (lo+1) n:=rfl
theorem j0k{w:List Nat}:∀{n:Nat} {lo i:Int},0≤lo→lo≤i→i<lo+(n:Int)→lo+(n:Int)≤100→w=dig i.toNat→numW w lo n=.int i
 | 0,lo,i,h0,h1,h2,h3,e=>by omega
 |n+1,lo,i,h0,h1,h2,h3,e=>by
  unfold numW;by_cases z:lo=i
  ·subst z;rw[if_pos e]
  ·rw[if_neg (fun y=>z (dig_eq h0 (by omega) (by omega) (by omega) (y.symm.trans e)))];exact j0k (by omega) (by omega) (by omega) (by omega) e
noncomputable def l0n:Sp2:=fun ds δ q _=>∃(w:List Nat) (lo hi:Int),ds=[txD w,.int lo,.int hi]∧0≤lo∧lo≤hi+1∧hi<100∧q (numW w lo (hi+1-lo).toNat) δ
theorem a9{c:Nat}:∀l:List Nat,(n4 c l).length≤l.length+1
 | []=>Nat.le_refl _
 |a::l=>by
  have ih:=a9 (c:=c) l;unfold n4;split
  ·rw[List.length_cons,List.length_cons];omega
  ·split
   ·simp
   ·rename_i w r e;rw[e]at ih;rw[List.length_cons]at ih ⊢;rw[List.length_cons];omega
theorem f0j{ps:List (List Nat)}{w:List Nat}:atI (List.map (D.str∘tx) ps++List.map (D.str∘tx) [w]) (-1)=some (.str (tx w)):=by
 unfold atI ixN;have e:(-1+((ps.length:Int)+1)).toNat=ps.length:=by omega
 simp only[List.length_append,List.length_map,List.length_cons,List.length_nil,Nat.zero_add];rw[if_neg (by decide),if_pos (by omega)];rw[show (-1+((ps.length+1:Nat):Int)).toNat=ps.length by omega];simp
theorem f0i{ps:List (List Nat)}:l0z (ps.map txD)=some (ps.map tx):=by
 have:=b0w (zs:=ps.map tx);rw[List.map_map]at this;exact this
theorem p0j{ps:List (List Nat)}{m:Nat}(h:∀p∈ps,p.length≤m):((ps.map tx).map (·.length)).sum≤ps.length*m:=by
 induction ps with
 |nil=>simp
 |cons p ps ih=>
  have h1:=h p (List.mem_cons_self ..);have h2:=ih fun q hq=>h q (List.mem_cons_of_mem _ hq)
  simp only[List.map_cons,List.sum_cons,u4,List.length_cons,Nat.add_mul,Nat.one_mul]at h2 ⊢;omega
theorem h8{a:Int}(h1:0≤a)(h2:a<1000):a.natAbs.log2<1920:=by
 have h:a.natAbs<1000:=by omega
 exact Nat.lt_of_le_of_lt (Nat.log2_le_self _) (by omega)
noncomputable abbrev x0v:List Str:=["line"]
theorem sc_words_of:FnScope ["line"] x0v (defScope u0z):=⟨rfl,rfl,rfl,by decide +kernel,rfl,by decide +kernel,by decide +kernel⟩
noncomputable abbrev u0k(P:Program)(w:World)(K:PySem.W.Frag)(mg:Str→Option Value)(base:Heap)(cs:Cs):Prop:=Fun2 P w K mg base "words_of" 2 x0v l0p
theorem l0m{f:Addr}{fd:FuncData}(Df:DefAt K mg "words_of" u0z x0v f fd)(T:Txt K mg cs):u0k P w K mg base cs:=by
 have nd:=sc_words_of.nd;refine def2 Df sc_words_of (fun ds δ q x h=>?_) (fun cdv A outer s H E Y hr=>⟨_,(o3 (a3 (y7 rfl (CompOkM.of ["word"] [] rfl) (w0h (n0n PySem.F.slot_str_split PySem.F.type_str_split p0r f0y (e2_v 0) (z0 l0 v0))) (fun nd _ _ _ _ _=>(x4 (i:=0) nd rfl (by first |exact Or.inl rfl |exact Or.inr rfl))) z7 (fun _ _ _ _ _ _=>(x0c (w4 h0t d_ne (e2_v 0) l0 (y4 _)))) (fun _ _ _ _ _ _=>(e2_v 0))))),fun ds δ q x h=>?_⟩)
 ·unfold l0p at h;obtain ⟨l,rfl,hl,hq⟩:=h;rfl
 ·unfold l0p at h;obtain ⟨l,rfl,hl,hq⟩:=h;rw[show x5 ["line"] _=[.val _]from rfl];unfold txD;walk_at "dn";rw[w0t,u0l,t0g,List.map_map,u4,u4];have hsl:=a9 (c:=32) l;refine ⟨rfl,by omega,?_⟩;refine t0u (fun d=>match d with | .str z=>!decide (z=tx [])|_=>false) id (by rw[List.length_map];omega) (fun d hd Q k1 k2=>?_) ?_
  ·obtain ⟨w,hw,rfl⟩:=List.mem_map.mp hd;refine ⟨_,rfl,?_⟩;simp only[capt,e9,List.map_cons,List.map_nil,List.getElem?_cons_zero,List.getElem?_cons_succ,List.cons_append,List.nil_append,Function.comp];walk_at "dn";cases e:decide (tx w=tx [])with
   |true=>exact k2 (by show (!decide (tx w=tx []))=false;rw[e];rfl)
   |false=>exact k1 (by show (!decide (tx w=tx []))=true;rw[e];rfl)
  ·rw[List.map_id];have e:List.filter (fun d=>match d with | .str z=>!decide (z=tx [])|_=>false) (List.map (D.str∘tx) (n4 32 l))=(m3 l).map txD:=by
    rw[List.filter_map];unfold m3;congr 1;refine List.filter_congr fun w _=>?_
    show (!decide (tx w=tx []))=decide (w≠[]);rw[p0l];exact (decide_not ..).symm
   rw[e];exact hq
noncomputable abbrev x0u:List Str:=["text"]
theorem sc_lines_of:FnScope ["text","lines"] x0u (defScope v0a):=⟨rfl,rfl,rfl,by decide +kernel,rfl,by decide +kernel,by decide +kernel⟩
noncomputable abbrev u0j(P:Program)(w:World)(K:PySem.W.Frag)(mg:Str→Option Value)(base:Heap)(cs:Cs):Prop:=Fun2 P w K mg base "lines_of" 2 x0u l0o
theorem l0l{f:Addr}{fd:FuncData}(Df:DefAt K mg "lines_of" v0a x0u f fd)(T:Txt K mg cs):u0j P w K mg base cs:=by
 have nd:=sc_lines_of.nd;refine def2 Df sc_lines_of (fun ds δ q x h=>?_) (fun cdv A outer s H E Y hr=>⟨_,(u0 (s0h 1 nd (e2_v 0) (z0 l0 v0))
  (u0 (y6 (w4 o0r d_eq (p4 1 (q0w s0)) l0 (y4 _)) (o3 (y0x (a0h 1 PySem.F.slot_list_pop PySem.F.type_list_pop a0p m_pop))) p5)
  (o3 (a3 (e2_v 1))))),fun ds δ q x h=>?_⟩)
 ·unfold l0o at h;obtain ⟨l,rfl,hl,hq⟩:=h;rfl
 ·unfold l0o at h;obtain ⟨l,rfl,hl,hq⟩:=h;rw[show x5 ["text","lines"] _=[.val _,.no]from rfl];unfold txD;walk_at "dn";rw[n0f,u0l,t0g,List.map_map,u4,u4];refine ⟨rfl,by omega,?_⟩;have hne:=v0y (c:=10) l;unfold i4 at hq;obtain ⟨ps,w,e⟩:∃ps w,n4 10 l=ps++[w]:=⟨(n4 10 l).dropLast,(n4 10 l).getLast hne,(List.dropLast_concat_getLast hne).symm⟩;rw[e]at hq ⊢;rw[List.getLast?_concat,List.dropLast_concat]at hq;rw[List.map_append];have hat:atI (List.map (D.str∘tx) ps++List.map (D.str∘tx) [w]) (-1)=some (.str (tx w)):=f0j;rw[hat];dsimp only;rw[p0l];by_cases hw:w=[]
  ·rw[if_pos (by rw[hw])]at hq;rw[decide_eq_true hw];simp only[if_true,List.map_cons,List.map_nil,List.getLast?_concat,List.dropLast_concat];exact hq
  ·rw[if_neg (by simpa using hw)]at hq;rw[decide_eq_false hw];simp only[Bool.false_eq_true,if_false];rw[List.map_append]at hq;exact hq
noncomputable abbrev z0r:List Str:=["word","least","most"]
theorem sc_number_of:FnScope ["word","least","most","number"] z0r (defScope x0a):=⟨rfl,rfl,rfl,by decide +kernel,rfl,by decide +kernel,by decide +kernel⟩
noncomputable abbrev z0q(P:Program)(w:World)(K:PySem.W.Frag)(mg:Str→Option Value)(base:Heap)(cs:Cs):Prop:=Fun2 P w K mg base "number_of" 2 z0r l0n
theorem n0e{f:Addr}{fd:FuncData}(Df:DefAt K mg "number_of" x0a z0r f fd)(T:Txt K mg cs):z0q P w K mg base cs:=by
 have nd:=sc_number_of.nd;refine def2 Df sc_number_of (fun ds δ q x h=>?_) (fun cdv A outer s H E Y hr=>⟨_,(u0 (x0j PassesOwn.leaving rfl (w0g T.n_range (z0 (e2_v 1) (z0 (y3 o4 o5 (e2_v 2) s0) v0))) (x4 (i:=3) nd rfl (by first |exact Or.inl rfl |exact Or.inr rfl)) (v0f (i:=3)) (o3 (y6 (w4 o0r d_eq (e2_v 0) (n9 z5 v0d T.n_str v9 (z0 (e2_v 3) v0)) (y4 _)) (o3 (a3 (e2_v 3))) p5)))
  (o3 (a3 z6))),fun ds δ q x h=>?_⟩)
 ·unfold l0n at h;obtain ⟨w,lo,hi,rfl,h1,h2,h3,hq⟩:=h;rfl
 ·unfold l0n at h;obtain ⟨w,lo,hi,rfl,h1,h2,h3,hq⟩:=h;rw[show x5 ["word","least","most","number"] _=[.val _,.val _,.val _,.no]from rfl];unfold txD;walk_at "dn";refine ⟨⟨by omega,by omega,by omega,by omega⟩,?_⟩;generalize hn:(hi+1-lo).toNat=n at hq;refine y0t (fun i ρ δ'=>∃c3,ρ=[.val (.str (tx w)),.val (.int lo),.val (.int hi),c3]∧δ'=δ∧numW w lo n=numW w (lo+(i:Int)) (n-i)) ⟨_,rfl,rfl,by simp⟩ ?_ ?_
  ·rintro i d ρ δ' rest hi' ⟨c3,rfl,rfl,hw⟩ hrest;obtain ⟨hi2,rfl⟩:=y9 hi';unfold w0e;walk_at "dn";refine ⟨h8 (by omega) (by omega),?_⟩;have e:(Str.ofString (toString (lo+(i:Int))))=tx (dig (lo+(i:Int)).toNat):=x0h (by omega) (by omega);rw[e];rw[show n-i=(n-(i+1))+1 by omega]at hw;rw[s0a]at hw;by_cases z:w=dig (lo+(i:Int)).toNat
   ·rw[if_pos (congrArg tx z)];rw[if_pos z]at hw;have hw:numW w lo n=.int (lo+(i:Int)):=hw;rw[hw]at hq;exact hq
   ·rw[if_neg (fun y=>z (q0n y))];rw[if_neg z]at hw;refine hrest _ _ ⟨_,rfl,rfl,?_⟩;have hw:numW w lo n=numW w (lo+(i:Int)+1) (n-(i+1)):=hw;rw[hw,show lo+(i:Int)+1=lo+((i+1:Nat):Int)by omega]
  ·rintro ρ δ' ⟨c3,rfl,rfl,hw⟩;rw[w8,Nat.sub_self]at hw;rw[hw]at hq;exact hq
theorem x1a{K:PySem.W.Frag}{W C D:Addr}(c:ErrC K W C)(hw:D≠W):PySem.W.mroIn K C (.ref D)=some (decide (D=C)):=by
 rw[c.mroIn];by_cases h:D=C
 ·subst h;simp[List.contains_cons]
 ·have e:(Value.ref C:: .ref W::PySem.W.veMro).contains (.ref D)=false:=by simp[List.contains_cons,h,hw]
  rw[e,decide_eq_false h]
theorem mro_W{K:PySem.W.Frag}{W C:Addr}(c:ErrC K W C):PySem.W.mroIn K C (.ref W)=some true:=by
 rw[c.mroIn];simp[List.contains_cons]
theorem nd_ne{l:List Addr}(h:l.Nodup)(i j:Nat){a b:Addr}(hi:l[i]?=some a)(hj:l[j]?=some b)(hij:i≠j):a≠b:=by
 intro e;subst e;obtain ⟨h1,e1⟩:=List.getElem?_eq_some_iff.mp hi;obtain ⟨h2,e2⟩:=List.getElem?_eq_some_iff.mp hj;have hp:=List.pairwise_iff_getElem.mp h;rcases Nat.lt_or_gt_of_ne hij with z |z
 ·exact hp i j h1 h2 z (e1.trans e2.symm)
 ·exact hp j i h2 h1 z (e2.trans e1.symm)
theorem v0w{cs:Cs}:cs.NoText∈cs.ds:=List.mem_of_getElem? (show cs.ds[0]?=some cs.NoText from rfl)
theorem u0i(T:Txt K mg cs):PySem.W.mroIn K cs.NoText (.ref cs.NoText)=some true:=(x1a (T.err _ v0w) (T.ne _ v0w)).trans (congrArg some (decide_eq_true rfl))
theorem z1u(T:Txt K mg cs):PySem.W.mroIn K cs.NoText (.ref cs.W)=some true:=mro_W (T.err _ v0w)
theorem f0h:(("row":Str)=="row")=true:=by decide +kernel
noncomputable def nm(w:List Nat):D:=numW w 0 100
theorem t0f(w:List Nat):nm w=.non∨∃i:Int,0≤i∧i<100∧w=dig i.toNat∧nm w=.int i:=by
 have key:∀(n:Nat) (lo:Int),0≤lo→lo+(n:Int)≤100→numW w lo n=.non∨∃i:Int,0≤i∧i<100∧w=dig i.toNat∧numW w lo n=.int i:=by
  intro n
  induction n with
  |zero=>intro lo _ _;exact .inl rfl
  |succ n ih=>
   intro lo h0 h1;rw[s0a];by_cases z:w=dig lo.toNat
   ·rw[if_pos z];exact .inr ⟨lo,h0,by omega,z,rfl⟩
   ·rw[if_neg z];exact ih (lo+1) (by omega) (by omega)
 exact key 100 0 (by decide) (by decide)
theorem v0v{i:Int}(h0:0≤i)(h1:i<100):nm (dig i.toNat)=.int i:=j0k (by decide) h0 (by omega) (by decide) rfl
theorem nm_thing(w:List Nat):x0i (nm w)=true∧d9 (nm w)=true∧x8 (nm w)=true:=by
 rcases t0f w with h |⟨i,_,_,_,h⟩
 ·rw[h];exact ⟨rfl,rfl,rfl⟩
 ·rw[h];exact ⟨rfl,rfl,rfl⟩
noncomputable def j3(w:List Nat)(lo hi:Int):D:=match nm w with | .int i=>if lo≤i∧i≤hi then .int i else .non |_=>.non
theorem b4(w:List Nat)(lo hi:Int):(j3 w lo hi=.non∧a6 (nm w) lo hi=false)∨∃i:Int,j3 w lo hi=.int i∧nm w=.int i∧a6 (nm w) lo hi=true∧lo≤i∧i≤hi:=by
 unfold j3;rcases t0f w with h |⟨i,i0,i1,_,h⟩
 ·rw[h];exact .inl ⟨rfl,rfl⟩
 ·rw[h];dsimp only;by_cases z:lo≤i∧i≤hi
  ·rw[if_pos z];exact .inr ⟨i,rfl,rfl,l0s z.1 z.2,z.1,z.2⟩
  ·rw[if_neg z];refine .inl ⟨rfl,?_⟩;show (decide (lo≤i)&&decide (i≤hi))=false;by_cases z1:lo≤i
   ·rw[decide_eq_false (p:=i≤hi) (fun y=>z ⟨z1,y⟩),Bool.and_false]
   ·rw[decide_eq_false z1,Bool.false_and]
theorem i0m{w:List Nat}{lo hi:Int}:x8 (j3 w lo hi)=true:=by
 rcases b4 w lo hi with ⟨e,_⟩|⟨i,e,_⟩<;>rw[e]<;>rfl
noncomputable def noTx(d:D):Prop:=∀K:PySem.W.Frag,TyD K d∧y0y K d (.ty "str")=some false
structure TxtOk(l:List Nat):Prop where
 len:l.length≤10000
 n:(n4 10 l).length≤900
 s:∀p∈n4 10 l,p.length≤900
noncomputable def rowP(p:Int×List (List Nat)):D:=.tup [.int p.1,.lst (p.2.map txD)]
theorem lines_cnt{l:List Nat}:((i4 l).map m3).filter (·≠[])=cntL l:=by
 unfold i4 cntL;split
 ·rename_i h;obtain ⟨ps,e⟩:∃ps,n4 10 l=ps++[[]]:=by
   have hne:=v0y (c:=10) l;rw[List.getLast?_eq_some_getLast hne]at h;have h:=Option.some.inj h;exact ⟨(n4 10 l).dropLast,by rw[←h];exact (List.dropLast_concat_getLast hne).symm⟩
  rw[e,List.dropLast_concat,List.map_append,List.filter_append];simp[b9]
 ·rfl
theorem r0z{l p:List Nat}(h:p∈i4 l):p∈n4 10 l:=by
 unfold i4 at h;split at h
 ·exact List.dropLast_subset _ h
 ·exact h
theorem f0g{l:List Nat}:(i4 l).length≤(n4 10 l).length:=by
 unfold i4;split
 ·rw[List.length_dropLast];omega
 ·exact Nat.le_refl _
noncomputable def v0u(k:Int):List (List Nat)→List (Int×List Nat)
 | []=>[]
 |l::r=>(k,l)::v0u (k+1) r
theorem q0k:∀(ps:List (List Nat)) (k:Nat),x0k k (ps.map txD)=(v0u (k:Int) ps).map fun p=>.tup [.int p.1,txD p.2]
 | [],_=>rfl
 |p::ps,k=>by
  show D.tup [.int (k:Int),txD p]::x0k (k+1) (ps.map txD)=_;rw[q0k ps (k+1)];rfl
theorem v0t:∀(ps:List (List Nat)) (k:Int),(v0u k ps).length=ps.length
 | [],_=>rfl
 |p::ps,k=>by show (v0u (k+1) ps).length+1=_;rw[v0t ps];rfl
theorem r0y:∀(ps:List (List Nat)) (k:Int),(v0u k ps).map Prod.snd=ps
 | [],_=>rfl
 |p::ps,k=>by show p::(v0u (k+1) ps).map Prod.snd=_;rw[r0y ps]
theorem x0t{w:List Nat}{lo hi:Int}(h0:0≤lo)(h1:lo≤hi+1)(h2:hi<100):numW w lo (hi+1-lo).toNat=j3 w lo hi:=by
 have key:∀(n:Nat) (lo:Int),0≤lo→lo+(n:Int)≤100→numW w lo n=j3 w lo (lo+(n:Int)-1):=by
  intro n
  induction n with
  |zero=>
   intro lo _ _;rcases b4 w lo (lo+((0:Nat):Int)-1)with ⟨e,_⟩|⟨i,_,_,_,a,b⟩
   ·rw[e];rfl
   ·omega
  |succ n ih=>
   intro lo h0 h1;rw[s0a];by_cases z:w=dig lo.toNat
   ·rw[if_pos z];have hn:nm w=.int lo:=by rw[z];exact v0v h0 (by omega)
    unfold j3;rw[hn];dsimp only;rw[if_pos ⟨Int.le_refl _,by omega⟩]
   ·rw[if_neg z,ih (lo+1) (by omega) (by omega)];rw[show lo+1+(n:Int)-1=lo+((n+1:Nat):Int)-1 by omega];unfold j3;rcases t0f w with e |⟨i,i0,i1,ew,e⟩
    ·rw[e]
    ·rw[e];dsimp only;have ne:i≠lo:=fun y=>z (by rw[ew,y])
     by_cases y:lo≤i∧i≤lo+((n+1:Nat):Int)-1
     ·rw[if_pos y,if_pos ⟨by omega,y.2⟩]
     ·rw[if_neg y,if_neg (fun x=>y ⟨by omega,x.2⟩)]
 have:=key (hi+1-lo).toNat lo h0 (by omega);rw[this];congr 1;omega
noncomputable def i9:List (List Nat)→Option (Int×Int)
 | [a,b,c,d]=>if a=rT∧c=fT then (match j3 b 0 24,j3 d 0 47 with | .int n,.int f=>some (n,f)|_,_=>none)else none
 |_=>none
noncomputable def b5(ws:List (List Nat))(lo hi:Int):Option (Int×List Int):=match ws with
 |w::x::r=>if w.getLast?=some 58 then (match j3 w.dropLast lo hi with
  | .int k=>if risD (.tup ((x::r).map fun w=>j3 w 0 3)) 0 3=true then some (k,(x::r).map fun w=>intD (j3 w 0 3))else none
  |_=>none)else none
 |_=>none
noncomputable def z0d(l:List Nat):List (Int×List (List Nat)):=((v0u 1 (i4 l)).filter fun p=>decide (m3 p.2≠[])).map fun p=>(p.1,m3 p.2)
noncomputable def v0s(f hi:Int):List (Int×List (List Nat))→List (List Int)→Int→Sum Int (List (List Int))
 | [],P,_=>.inr P
 |(row,ws)::rest,P,free=>match b5 ws free hi with
  |none=>.inl row
  |some (k,c)=>v0s f hi rest (P.set (k-f).toNat c) (k+1)
noncomputable def i0l(f:Int):Sum Int (List (List Int))→Sum Int (List (List Int)×Int)| .inl k=>.inl k | .inr P=>.inr (P,f)
noncomputable def v0r:List (Int×List (List Nat))→Sum Int (List (List Int)×Int)
 | []=>.inl 0
 |(row,ws)::rest=>match i9 ws with
  |none=>.inl row
  |some (n,f)=>i0l f (v0s f (f+n-1) rest (List.replicate n.toNat []) f)
noncomputable def w6(l:List Nat):Sum Int (List (List Int)×Int):=if z0d l=[]then .inl (((i4 l).length:Int)+1)else v0r (z0d l)
noncomputable def hdD:Option (Int×Int)→D |some (n,f)=>.tup [.int n,.int f]|none=>.non
noncomputable def rdD:Option (Int×List Int)→D |some (k,c)=>.tup [.int k,.tup (c.map D.int)]|none=>.non
noncomputable def l0k:Sp2:=fun ds δ q _=>∃ws:List (List Nat),ds=[.lst (ws.map txD)]∧ws≠[]∧q (hdD (i9 ws)) δ
noncomputable def p0i:Sp2:=fun ds δ q _=>∃(ws:List (List Nat)) (lo hi:Int),ds=[.lst (ws.map txD),.int lo,.int hi]∧ws≠[]∧(∀w∈ws,w≠[]∧w.length≤900)∧ws.length≤950∧0≤lo∧lo≤hi+1∧hi<100∧q (rdD (b5 ws lo hi)) δ
noncomputable def l0j(cs:Cs):Sp2:=fun ds δ q x=>∃d,ds=[d]∧((∃l,d=txD l∧TxtOk l∧(z0d l=[]→x cs.NoText [("row",.int (((i4 l).length:Int)+1))] δ)∧(z0d l≠[]→q (.lst ((z0d l).map rowP)) δ))∨(noTx d∧x cs.NoText [("row",.int 0)] δ))
noncomputable def outP(cs:Cs)(q:D→Dk→Prop)(x:Addr→List (Str×D)→Dk→Prop)(δ:Dk):Sum Int (List (List Int)×Int)→Prop
 | .inl k=>x cs.NoText [("row",.int k)] δ
 | .inr (P,f)=>q (.tup [.tup (P.map fun c=>.tup (c.map D.int)),.int f]) δ
noncomputable def l0i(cs:Cs):Sp2:=fun ds δ q x=>∃d,ds=[d]∧((∃l,d=txD l∧TxtOk l∧outP cs q x δ (w6 l))∨(noTx d∧x cs.NoText [("row",.int 0)] δ))
theorem w1z{w:List Nat}{c:Nat}:Txt.endswith (tx w) (tx [c])=decide (w.getLast?=some c):=by
 rcases List.eq_nil_or_concat w with rfl |⟨v,d,e⟩
 ·unfold Txt.endswith Builtin.Str.subAt;rw[u4,u4];simp[tx]
 ·rw[List.concat_eq_append]at e;subst e;rw[List.getLast?_concat];unfold Txt.endswith Builtin.Str.subAt;rw[u4,u4];by_cases h:d=c<;>simp[tx,h]
theorem w1y{xs:List D}:cutD xs (some 1) none=xs.drop 1:=by
 unfold cutD;rw[show (1:Int)=((1:Nat):Int)from rfl,HT.sIx_nat,HT.sIx_none];cases xs with
 |nil=>rfl
 |cons x xs=>
  rw[Nat.min_eq_left (by simp),List.take_of_length_le (by simp)]
noncomputable abbrev z0p:List Str:=["words"]
theorem sc_read_head:FnScope ["words","rounds","first"] z0p (defScope w0z):=⟨rfl,rfl,rfl,by decide +kernel,rfl,by decide +kernel,by decide +kernel⟩
noncomputable abbrev w0s(P:Program)(w:World)(K:PySem.W.Frag)(mg:Str→Option Value)(base:Heap)(cs:Cs):Prop:=Fun2 P w K mg base "read_head" 3 z0p l0k
theorem n0d{f:Addr}{fd:FuncData}(Df:DefAt K mg "read_head" w0z z0p f fd)(T:Txt K mg cs)(G_number_of:z0q P w K mg base cs):w0s P w K mg base cs:=by
 have nd:=sc_read_head.nd;refine def2 Df sc_read_head (fun ds δ q x h=>?_) (fun cdv A outer s H E Y hr=>⟨_,(u0 (y6 (PW2.pt (o9 (w4 h0t d_ne (w5 0 T.n_len) s0 (y4 _)) (o9 (w4 h0t d_ne (p4 0 s0) l0 (y4 _)) (a7 (w4 h0t d_ne (p4 0 s0) l0 (y4 _)))))) (o3 (a3 z6)) p5)
  (u0 (v4 1 nd (u3 G_number_of (hr.mono (by decide)) o0 (z0 (p4 0 s0) (z0 s0 (z0 (c0r T.g_MOST_ROUNDS) v0)))))
  (u0 (v4 2 nd (u3 G_number_of (hr.mono (by decide)) o0 (z0 (p4 0 s0) (z0 s0 (z0 (c0r T.g_GREATEST_FIRST) v0)))))
  (u0 (y6 (PW2.pt (o9 (w4 z0e t0s (e2_v 1) z6 (y4 _)) (a7 (w4 z0e t0s (e2_v 2) z6 (y4 _))))) (o3 (a3 z6)) p5)
  (o3 (a3 (u6 (z0 (e2_v 1) (z0 (e2_v 2) v0))))))))),fun ds δ q x h=>?_⟩)
 ·unfold l0k at h;obtain ⟨ws,rfl,hne,hq⟩:=h;rfl
 ·unfold l0k at h;obtain ⟨ws,rfl,hne,hq⟩:=h;rw[show x5 ["words","rounds","first"] _=[.val _,.no,.no]from rfl];walk_at "dn";rw[List.length_map];by_cases h4:ws.length=4
  ·rw[decide_eq_true (by omega)]
   match ws,h4,hq with
   | [a,b,c,d],_,hq=>
    simp only[List.map_cons,List.map_nil,List.getElem?_cons_zero,List.getElem?_cons_succ,Bool.not_true,Bool.false_eq_true,if_false];have e4:i9 [a,b,c,d]=if a=rT∧c=fT then (match j3 b 0 24,j3 d 0 47 with | .int n,.int f=>some (n,f)|_,_=>none)else none:=rfl
    rw[e4]at hq;unfold txD;dsimp only;rw[j0l,z1v,p0l,p0l];by_cases ha:a=rT
    ·by_cases hc:c=fT
     ·rw[if_pos ⟨ha,hc⟩]at hq;rw[decide_eq_true ha,decide_eq_true hc];simp only[Bool.not_true,Bool.false_eq_true,if_false];refine ⟨b,0,24,rfl,by decide,by decide,by decide,?_⟩;rw[x0t (by decide) (by decide) (by decide)];refine ⟨d,0,47,rfl,by decide,by decide,by decide,?_⟩;rw[x0t (by decide) (by decide) (by decide)];rcases b4 b 0 24 with ⟨e1,_⟩|⟨i,e1,_⟩
      ·rw[e1]at hq ⊢;exact hq
      ·rcases b4 d 0 47 with ⟨e2,_⟩|⟨j,e2,_⟩
       ·rw[e1,e2]at hq ⊢;exact hq
       ·rw[e1,e2]at hq ⊢;exact hq
     ·rw[if_neg (fun z=>hc z.2)]at hq;rw[decide_eq_true ha,decide_eq_false hc];exact hq
    ·rw[if_neg (fun z=>ha z.1)]at hq;rw[decide_eq_false ha];exact hq
  ·rw[decide_eq_false (by omega)];have:i9 ws=none:=by
    unfold i9;split
    ·exact absurd rfl h4
    ·rfl
   rw[this]at hq;exact hq
noncomputable abbrev s9:List Str:=["words","least","most"]
theorem sc_read_round:FnScope ["words","least","most","round_number","choice"] s9 (defScope y0o):=⟨rfl,rfl,rfl,by decide +kernel,rfl,by decide +kernel,by decide +kernel⟩
noncomputable abbrev y0k(P:Program)(w:World)(K:PySem.W.Frag)(mg:Str→Option Value)(base:Heap)(cs:Cs):Prop:=Fun2 P w K mg base "read_round" 6 s9 p0i
theorem p0h{f:Addr}{fd:FuncData}(Df:DefAt K mg "read_round" y0o s9 f fd)(T:Txt K mg cs)(G_number_of:z0q P w K mg base cs)(G_is_choice_among:j7 P w K mg base cs):y0k P w K mg base cs:=by
 have nd:=sc_read_round.nd;refine def2 Df sc_read_round (fun ds δ q x h=>?_) (fun cdv A outer s H E Y hr=>⟨_,(u0 (y6 (PW2.pt (o9 (w4 z1j d_lt (w5 0 T.n_len) s0 (y4 _)) (a7 (o8 (z9 (n0n PySem.F.slot_str_endswith PySem.F.type_str_endswith x1k d_ends (p4 0 s0) (z0 l0 v0))))))) (o3 (a3 z6)) p5)
  (u0 (v4 3 nd (u3 G_number_of (hr.mono (by decide)) o0 (z0 (e7 (p4 0 s0) n8 (m8 (q0w s0))) (z0 (e2_v 1) (z0 (e2_v 2) v0)))))
  (u0 (v4 4 nd (n9 z8 q0a T.n_tuple a8 (z0 (y7 rfl (CompOkM.of ["word"] [] rfl) (w0h (p0u (e2_v 0) (m8 s0) n8)) (fun nd _ _ _ _ _=>(x4 (i:=0) nd rfl (by first |exact Or.inl rfl |exact Or.inr rfl))) z7 (fun _ _ _ _ _ _=>y0r) (fun _ _ _ _ _ _=>(u3 G_number_of (hr.mono (by decide)) s0r (z0 (e2_v 0) (z0 s0 (z0 (y3 f9 v0g (c0r T.g_MOST_PARTS) s0) v0)))))) v0)))
  (u0 (y6 (PW2.pt (o9 (w4 z0e t0s (e2_v 3) z6 (y4 _)) (a7 (o8 (z9 (u3 G_is_choice_among (hr.mono (by decide)) o0 (z0 (e2_v 4) (z0 (c0r T.g_MOST_PARTS) v0)))))))) (o3 (a3 z6)) p5)
  (o3 (a3 (u6 (z0 (e2_v 3) (z0 (e2_v 4) v0))))))))),fun ds δ q x h=>?_⟩)
 ·unfold p0i at h;obtain ⟨ws,lo,hi,rfl,hne,hw,hl,l1,l2,l3,hq⟩:=h;rfl
 ·unfold p0i at h;obtain ⟨ws,lo,hi,rfl,hne,hw,hl,l1,l2,l3,hq⟩:=h;rw[show x5 ["words","least","most","round_number","choice"] _=[.val _,.val _,.val _,.no,.no]from rfl];walk_at "dn";rw[List.length_map]
  match ws,hne,hw,hl,hq with
  | [],h,_,_,_=>exact absurd rfl h
  | [w],_,_,_,hq=>
   rw[if_pos (by show ((1:Nat):Int)<2;decide)];exact hq
  |w::x0::r,_,hw,hl,hq=>
   have hlen:(w::x0::r).length=r.length+2:=rfl;rw[if_neg (by rw[hlen];omega)];have hw0:=(hw w (List.mem_cons_self ..)).2;simp only[List.map_cons,List.getElem?_cons_zero];unfold b5 at hq;have e0:txD w=.str (tx w):=rfl;rw[e0];dsimp only at hq ⊢;rw[f0l,w1z,v0x,n0g,u4];by_cases h58:w.getLast?=some 58
   ·rw[if_pos h58]at hq;rw[decide_eq_true h58];simp only[Bool.not_true,Bool.false_eq_true,if_false];refine ⟨by omega,w.dropLast,lo,hi,rfl,l1,l2,l3,?_⟩;rw[x0t l1 l2 l3,w1y,List.drop_succ_cons,List.drop_zero];refine v0c txD (fun w=>j3 w 0 3) (x0::r) (by simp only[List.length_cons]at hl ⊢; omega) (fun v hv Q hQ=>?_) ?_
    ·simp only[capt,e9,List.map_cons,List.map_nil];walk_at "dn";refine ⟨v,0,3,rfl,by decide,by decide,by decide,?_⟩;rw[x0t (by decide) (by decide) (by decide)];exact hQ
    ·rcases b4 w.dropLast lo hi with ⟨e1,_⟩|⟨k,e1,_⟩
     ·rw[e1]at hq ⊢;exact hq
     ·rw[e1]at hq ⊢;simp only[Bool.false_eq_true,if_false];have ht:x0i (.tup ((x0::r).map fun w=>j3 w 0 3))=true:=by
       unfold x0i rowD;dsimp only;rw[List.all_eq_true.mpr (fun d hd=>by obtain ⟨v,_,rfl⟩:=List.mem_map.mp hd;rcases b4 v 0 3 with ⟨e,_⟩|⟨i,e,_⟩<;>rw[e]<;>rfl)];rfl
      refine ⟨ht,by decide,?_⟩;rw[show (4:Int)-1=3 from rfl];dsimp only at hq ⊢;cases er:risD (.tup ((x0::r).map fun w=>j3 w 0 3)) 0 3 with
      |false=>
       rw[er]at hq;exact hq
      |true=>
       rw[er]at hq;simp only[Bool.not_true,Bool.false_eq_true,if_false];have hall:((x0::r).map fun w=>j3 w 0 3).all (a6 · 0 3)=true:=by
        unfold risD t0q rowD at er;dsimp only at er;rw[Bool.and_eq_true,Bool.and_eq_true]at er;exact er.1.2
       have hi':=x0w hall;rw[if_pos rfl]at hq;have hq:q (.tup [.int k,.tup (((x0::r).map fun w=>intD (j3 w 0 3)).map D.int)]) δ:=hq;rw[List.map_map]at hi' hq;rw[hi',List.map_map];exact hq
   ·rw[if_neg h58]at hq;rw[decide_eq_false h58];exact hq
noncomputable abbrev v0q:List Str:=["text"]
theorem sc_rows_of:FnScope ["text","lines","rows","counted"] v0q (defScope s0e):=⟨rfl,rfl,rfl,by decide +kernel,rfl,by decide +kernel,by decide +kernel⟩
noncomputable abbrev r0x(P:Program)(w:World)(K:PySem.W.Frag)(mg:Str→Option Value)(base:Heap)(cs:Cs):Prop:=Fun2 P w K mg base "rows_of" 3 v0q (l0j cs)
theorem i0k{f:Addr}{fd:FuncData}(Df:DefAt K mg "rows_of" s0e v0q f fd)(T:Txt K mg cs)(G_lines_of:u0j P w K mg base cs)(G_words_of:u0k P w K mg base cs)(M_NoText:MkE P w K mg base "NoText" cs.NoText 1 ["self","row"] (spXI cs.NoText "row")):r0x P w K mg base cs:=by
 have nd:=sc_rows_of.nd;refine def2 Df sc_rows_of (fun ds δ q x h=>?_) (fun cdv A outer s H E Y hr=>⟨_,(u0 (y6 (o8 (z9 (e2_b f6 (w0k (K:=K)) T.n_isinstance l5 (z0 (e2_v 0) (z0 (r0m "str" T.n_str v9) v0))))) (o3 (w0i rfl o0 M_NoText (hr.mono (by decide)) (z0 s0 v0))) p5)
  (u0 (v4 1 nd (u3 G_lines_of (hr.mono (by decide)) o0 (z0 (e2_v 0) v0)))
  (u0 (t0l (i:=2) rfl (CompOkM.of ["row","line"] [] rfl) (b0x T.n_enumerate (z0 (e2_v 1) v0) s0) (fun nd _ _ _ _ _=>(g9 rfl (j4 (x4 (i:=0) nd rfl (by first |exact Or.inl rfl |exact Or.inr rfl)) (j4 (x4 (i:=1) nd rfl (by first |exact Or.inl rfl |exact Or.inr rfl)) m7)))) (p0w (is:=[0,1]) rfl) (fun _ _ _ _ _ _=>y0r) (fun _ _ _ _ _ _=>(u6 (z0 (e2_v 0) (z0 (u3 G_words_of (hr.mono (by decide)) s0r (z0 (e2_v 1) v0)) v0)))) nd)
  (u0 (t0l (i:=3) rfl (CompOkM.of ["row","words"] [] rfl) (w0h (e2_v 2)) (fun nd _ _ _ _ _=>(g9 rfl (j4 (x4 (i:=0) nd rfl (by first |exact Or.inl rfl |exact Or.inr rfl)) (j4 (x4 (i:=1) nd rfl (by first |exact Or.inl rfl |exact Or.inr rfl)) m7)))) (p0w (is:=[0,1]) rfl) (fun _ _ _ _ _ _=>(x0c (w4 m0n d_gt (w5 1 T.n_len) s0 (y4 _)))) (fun _ _ _ _ _ _=>(u6 (z0 (e2_v 0) (z0 (e2_v 1) v0)))) nd)
  (u0 (y6 (w4 o0r d_eq (w5 3 T.n_len) s0 (y4 _)) (o3 (w0i rfl o0 M_NoText (hr.mono (by decide)) (z0 (y3 o4 o5 (w5 1 T.n_len) s0) v0))) p5)
  (o3 (a3 (e2_v 3)))))))),fun ds δ q x h=>?_⟩)
 ·unfold l0j at h;obtain ⟨d,rfl,h⟩:=h;rfl
 ·unfold l0j at h;obtain ⟨d,rfl,h⟩:=h;rw[show x5 ["text","lines","rows","counted"] _=[.val _,.no,.no,.no]from rfl];rcases h with ⟨l,rfl,h,hx,hq⟩|⟨hn,hx⟩
  ·have ty:y0y K (txD l) (.ty "str")=some true:=ko_str;have tt:TyD K (txD l):=trivial;walk_at "dn";simp only[ty,tt,true_and,Bool.not_true,Bool.false_eq_true,if_false];refine ⟨l,rfl,h.len,?_⟩;walk_at "dn";have hn:=h.n;have hll:=f0g (l:=l);have hlen:=v0t (i4 l) ((1:Nat):Int);refine ⟨by decide,by decide,?_⟩;rw[show (1:Int).toNat=1 from rfl,q0k];refine q0q (fun p:Int×List Nat=>.tup [.int p.1,txD p.2]) (fun p:Int×List Nat=>rowP (p.1,m3 p.2)) (v0u ((1:Nat):Int) (i4 l)) (by rw[v0t];omega) (fun p hp Q hQ=>?_) ?_
   ·refine ⟨_,rfl,?_⟩;simp only[capt,e9,List.map_cons,List.map_nil,List.cons_append,List.nil_append];walk_at "dn";have hp2:p.2∈i4 l:=by have:=List.mem_map_of_mem (f:=Prod.snd) hp;rw[r0y]at this;exact this
    exact ⟨p.2,rfl,h.s _ (r0z hp2),hQ⟩
   ·refine t8 (fun p:Int×List Nat=>rowP (p.1,m3 p.2)) (fun p:Int×List Nat=>rowP (p.1,m3 p.2)) (fun p=>decide (m3 p.2≠[])) (v0u ((1:Nat):Int) (i4 l)) (acc:=[]) (by rw[v0t];show 0+_≤_;omega) (fun p hp Q k1 k2=>?_) ?_
    ·refine ⟨_,rfl,?_⟩;simp only[capt,e9,List.map_cons,List.map_nil,List.cons_append,List.nil_append];walk_at "dn";rw[List.length_map];by_cases z:m3 p.2=[]
     ·rw[z,if_neg (by simp)];exact k2 (decide_eq_false (by simpa using z))
     ·rw[if_pos (by have:=List.length_pos_iff.mpr z;omega)];exact k1 (decide_eq_true z)
    ·rw[List.nil_append,List.length_map,List.length_map];have er:(z0d l).length=((v0u ((1:Nat):Int) (i4 l)).filter fun p=>decide (m3 p.2≠[])).length:=List.length_map ..;have em:(z0d l).map rowP=((v0u ((1:Nat):Int) (i4 l)).filter fun p=>decide (m3 p.2≠[])).map fun p=>rowP (p.1,m3 p.2):=by unfold z0d;rw[List.map_map];rfl
     rw[←er];by_cases z:z0d l=[]
     ·rw[if_pos (by rw[z];rfl)];exact hx z
     ·rw[if_neg (by have:=List.length_pos_iff.mpr z;omega)];have hq:=hq z;rw[em]at hq;exact hq
  ·walk_at "dn";obtain ⟨h1,h2⟩:=hn K;refine ⟨h1,?_⟩;rw[h2];exact hx
theorem n0c(l:List Nat):(m3 l).length≤l.length+1:=Nat.le_trans (List.length_filter_le _ _) (a9 l)
theorem z0o:∀{l w:List Nat},w∈n4 32 l→w.length≤l.length
 | [],w,h=>by rw[List.mem_singleton.mp h];exact Nat.le_refl _
 |a::l,w,h=>by
  unfold n4 at h;rw[List.length_cons];split at h
  ·rcases List.mem_cons.mp h with rfl |h
   ·exact Nat.zero_le _
   ·have:=z0o h;omega
  ·split at h
   ·rw[List.mem_singleton.mp h];simp
   ·rename_i u r e;rcases List.mem_cons.mp h with rfl |h
    ·have:=z0o (l:=l) (w:=u) (by rw[e];exact List.mem_cons_self ..);rw[List.length_cons];omega
    ·have:=z0o (l:=l) (w:=w) (by rw[e];exact List.mem_cons_of_mem _ h);omega
theorem r0w{l w:List Nat}(h:w∈m3 l):w.length≤l.length:=z0o (List.mem_filter.mp h).1
theorem f0f{l:List Nat}(h:TxtOk l):∀p∈z0d l,p.2≠[]∧(∀w∈p.2,w≠[]∧w.length≤900)∧p.2.length≤950:=fun p hp=>by
 unfold z0d at hp;obtain ⟨q,hq,rfl⟩:=List.mem_map.mp hp;obtain ⟨hq1,hq2⟩:=List.mem_filter.mp hq;have hl:q.2∈i4 l:=by have:=List.mem_map_of_mem (f:=Prod.snd) hq1;rw[r0y]at this;exact this
 have hs:=h.s _ (r0z hl);refine ⟨of_decide_eq_true hq2,fun w hw=>⟨by simpa using (List.mem_filter.mp hw).2,Nat.le_trans (r0w hw) hs⟩,?_⟩;have:=n0c q.2;show (m3 q.2).length≤950;omega
theorem j0j{x:D}{k:Nat}:(List.replicate k [x]).flatten=List.replicate k x:=by
 induction k with
 |zero=>rfl
 |succ k ih=>rw[List.replicate_succ,List.flatten_cons,ih,List.replicate_succ];rfl
theorem q8{row:Int}{ws:List (List Nat)}{rest:List (Int×List (List Nat))}:v0r ((row,ws)::rest)=match i9 ws with |none=>.inl row |some (n,f)=>i0l f (v0s f (f+n-1) rest (List.replicate n.toNat []) f):=rfl
theorem z0z{f hi row free:Int}{ws:List (List Nat)}{rest:List (Int×List (List Nat))}{P:List (List Int)}:v0s f hi ((row,ws)::rest) P free=match b5 ws free hi with |none=>.inl row |some (k,c)=>v0s f hi rest (P.set (k-f).toNat c) (k+1):=rfl
theorem f0e{ws:List (List Nat)}{n f:Int}(h:i9 ws=some (n,f)):0≤n∧n≤24∧0≤f∧f≤47:=by
 unfold i9 at h;split at h
 ·rename_i a b c d;split at h
  ·rcases b4 b 0 24 with ⟨e1,_⟩|⟨i,e1,_,_,i1,i2⟩
   ·rw[e1]at h;cases h
   ·rcases b4 d 0 47 with ⟨e2,_⟩|⟨j,e2,_,_,j1,j2⟩
    ·rw[e1,e2]at h;cases h
    ·rw[e1,e2]at h;cases h;exact ⟨i1,i2,j1,j2⟩
  ·cases h
 ·cases h
theorem f0d{ws:List (List Nat)}{lo hi k:Int}{c:List Int}(h:b5 ws lo hi=some (k,c)):lo≤k∧k≤hi:=by
 unfold b5 at h;split at h
 ·rename_i w x r;split at h
  ·rcases b4 w.dropLast lo hi with ⟨e1,_⟩|⟨i,e1,_,_,i1,i2⟩
   ·rw[e1]at h;cases h
   ·rw[e1]at h;dsimp only at h;split at h
    ·cases h;exact ⟨i1,i2⟩
    ·cases h
  ·cases h
 ·cases h
noncomputable abbrev z0n:List Str:=["text"]
theorem sc_read_plan:FnScope ["text","counted","head","rounds","first","plan","free","row","words","told"] z0n (defScope w0y):=⟨rfl,rfl,rfl,by decide +kernel,rfl,by decide +kernel,by decide +kernel⟩
noncomputable abbrev z0m(P:Program)(w:World)(K:PySem.W.Frag)(mg:Str→Option Value)(base:Heap)(cs:Cs):Prop:=Fun2 P w K mg base "read_plan" 7 z0n (l0i cs)
theorem n0b{f:Addr}{fd:FuncData}(Df:DefAt K mg "read_plan" w0y z0n f fd)(T:Txt K mg cs)(G_rows_of:r0x P w K mg base cs)(G_read_head:w0s P w K mg base cs)(G_read_round:y0k P w K mg base cs)(M_NoText:MkE P w K mg base "NoText" cs.NoText 1 ["self","row"] (spXI cs.NoText "row")):z0m P w K mg base cs:=by
 have nd:=sc_read_plan.nd;refine def2 Df sc_read_plan (fun ds δ q x h=>?_) (fun cdv A outer s H E Y hr=>⟨_,(u0 (v4 1 nd (u3 G_rows_of (hr.mono (by decide)) o0 (z0 (e2_v 0) v0)))
  (u0 (v4 2 nd (u3 G_read_head (hr.mono (by decide)) o0 (z0 (m0i o0l d_ix (p4 1 s0) s0) v0)))
  (u0 (y6 (w4 z0e t0s (e2_v 2) z6 (y4 _)) (o3 (w0i rfl o0 M_NoText (hr.mono (by decide)) (z0 (m0i o0l d_ix (p4 1 s0) s0) v0))) p5)
  (u0 (n0t (e2_v 2) (g9 rfl (j4 (x4 (i:=3) nd rfl (by first |exact Or.inl rfl |exact Or.inr rfl)) (j4 (x4 (i:=4) nd rfl (by first |exact Or.inl rfl |exact Or.inr rfl)) m7))) (w0f (is:=[3,4]) rfl))
  (u0 (n0s 5 nd (l6 (z0 (u6 v0) v0)) (e2_v 3))
  (u0 (v4 6 nd (e2_v 4))
  (u0 (x0j PassesOwn.leaving rfl (w0h (p0u (e2_v 1) (m8 s0) n8)) (g9 rfl (j4 (x4 (i:=7) nd rfl (by first |exact Or.inl rfl |exact Or.inr rfl)) (j4 (x4 (i:=8) nd rfl (by first |exact Or.inl rfl |exact Or.inr rfl)) m7))) (w0f (is:=[7,8]) rfl) (u0 (v4 9 nd (u3 G_read_round (hr.mono (by decide)) o0 (z0 (e2_v 8) (z0 (e2_v 6) (z0 (y3 f9 v0g (y3 o4 o5 (e2_v 4) (e2_v 3)) s0) v0)))))
  (u0 (y6 (w4 z0e t0s (e2_v 9) z6 (y4 _)) (o3 (w0i rfl o0 M_NoText (hr.mono (by decide)) (z0 (e2_v 7) v0))) p5)
  (u0 (y0w 5 (y3 f9 v0g (p4 9 s0) (e2_v 4)) (p4 9 s0))
  (o3 (v4 6 nd (y3 o4 o5 (p4 9 s0) s0)))))))
  (o3 (a3 (u6 (z0 (n9 z8 q0a T.n_tuple a8 (z0 (e2_v 5) v0)) (z0 (e2_v 4) v0)))))))))))),fun ds δ q x h=>?_⟩)
 ·unfold l0i at h;obtain ⟨d,rfl,h⟩:=h;rfl
 ·unfold l0i at h;obtain ⟨d,rfl,h⟩:=h;rw[show x5 ["text","counted","head","rounds","first","plan","free","row","words","told"] _=[.val _,.no,.no,.no,.no,.no,.no,.no,.no,.no]from rfl];walk_at "ds";refine ⟨d,rfl,?_⟩;rcases h with ⟨l,rfl,ht,ho⟩|⟨hn,hx⟩
  ·refine .inl ⟨l,rfl,ht,fun hz=>?_,fun hz=>?_⟩
   ·unfold w6 at ho;rw[if_pos hz]at ho;exact ho
   ·unfold w6 at ho;rw[if_neg hz]at ho;have hrows:=f0f ht;generalize z0d l=rs at ho hz hrows
    match rs,hz,hrows,ho with
    | [],h,_,_=>exact absurd rfl h
    |(row,ws)::rest,_,hrows,ho=>
     obtain ⟨h1,h2,h3⟩:=hrows _ (List.mem_cons_self ..);rw[q8]at ho;rw[List.map_cons,g0a];walk_at "ds";rw[show rowP (row,ws)=.tup [.int row,.lst (ws.map txD)]from rfl];walk_at "ds";refine ⟨ws,rfl,h1,?_⟩;cases eh:i9 ws with
     |none=>
      rw[eh]at ho;rw[show hdD none=.non from rfl];walk_at "ds";exact ho
     |some nf=>
      obtain ⟨n,f1⟩:=nf;rw[eh]at ho;obtain ⟨n1,n2,f2,f3⟩:=f0e eh;rw[show hdD (some (n,f1))=.tup [.int n,.int f1]from rfl];walk_at "ds";rw[w1y,List.drop_succ_cons,List.drop_zero,j0j];refine ⟨by simp;omega,by omega,by omega,?_⟩;have ho:outP cs q x δ (i0l f1 (v0s f1 (f1+n-1) rest (List.replicate n.toNat []) f1)):=ho;refine a0a rowP rest (fun i ρ δ'=>∃(P:List (List Int)) (free:Int) (c7 c8 c9:Cell),ρ=[.val (txD l),.val (.lst (D.tup [D.int row,D.lst (List.map txD ws)]::List.map rowP rest)),.val (.tup [.int n,.int f1]),.val (.int n),.val (.int f1),.own (P.map fun c=>.tup (c.map D.int)),.val (.int free),c7,c8,c9]∧δ'=δ∧(P.length:Int)=n∧f1≤free∧free≤f1+n∧outP cs q x δ (i0l f1 (v0s f1 (f1+n-1) (rest.drop i) P free))) ⟨List.replicate n.toNat [],f1,.no,.no,.no,by rw[List.map_replicate];rfl,rfl,by rw[List.length_replicate];omega,Int.le_refl _,by omega,ho⟩ ?_ ?_
      ·rintro i a ρ δ' rest' hi ⟨P,free,c7,c8,c9,rfl,rfl,hP,g1,g2,ho⟩ hrest;have lt:=(List.getElem?_eq_some_iff.mp hi).1;rw[List.drop_eq_getElem_cons lt,show rest[i]=a from (List.getElem?_eq_some_iff.mp hi).2]at ho;obtain ⟨r0,w0⟩:=a;obtain ⟨b1,b2,b3⟩:=hrows _ (List.mem_cons_of_mem _ (List.mem_of_getElem? hi));unfold w0e rowP;walk_at "ds";refine ⟨w0,free,f1+n-1,rfl,b1,b2,b3,by omega,by omega,by omega,?_⟩;rw[z0z]at ho;cases ew:b5 w0 free (f1+n-1)with
       |none=>
        rw[ew]at ho;rw[show rdD none=.non from rfl];walk_at "ds";exact ho
       |some kc=>
        obtain ⟨k,c⟩:=kc;rw[ew]at ho;obtain ⟨k1,k2⟩:=f0d ew;rw[show rdD (some (k,c))=.tup [.int k,.tup (c.map D.int)]from rfl];walk_at "ds";have hix:ixN (P.map fun c=>D.tup (c.map D.int)).length (k-f1)=some (k-f1).toNat:=by
         unfold ixN;rw[List.length_map,if_pos (by omega),if_pos (by omega)]
        rw[hix];walk_at "ds";refine hrest _ _ ⟨P.set (k-f1).toNat c,k+1,_,_,_,by rw[List.map_set];rfl,rfl,by rw[List.length_set];exact hP,by omega,by omega,ho⟩
      ·rintro ρ δ' ⟨P,free,c7,c8,c9,rfl,rfl,hP,g1,g2,ho⟩;rw[List.drop_length]at ho;walk_at "ds";exact ho
  ·exact .inr ⟨hn,hx⟩
theorem w1x{c:Nat}{l:List Nat}:subS (tx [c]) (tx l)=decide (c∈l):=by
 have h:subS (tx [c]) (tx l)=decide (c∈(tx l).cps.toList):=StrLaws.found_one (tx l) c;rw[h];by_cases z:c∈l<;>simp[tx,z]
noncomputable def digs:List Nat:=[48,49,50,51,52,53,54,55,56,57]
theorem c_digs:Str.ofString "0123456789"=tx digs:=by decide +kernel
theorem b0p:Str.ofString "0"=tx [48]:=by decide +kernel
theorem mem_digs{c:Nat}:c∈digs↔48≤c∧c≤57:=by
 unfold digs;simp only[List.mem_cons,List.not_mem_nil,or_false];omega
theorem b0o{w:List Nat}:q0p (tx w)=w.map fun c=>txD [c]:=by unfold q0p tx;rfl
theorem r0v{w:List Nat}(h:w=[]∨2<w.length∨(∃c∈w,c∉digs)∨∃d,w=[48,d]):nm w=.non:=by
 rcases t0f w with z |⟨i,i0,i1,e,_⟩
 ·exact z
 ·exfalso;have hl:=m5 (n:=i.toNat);rcases h with rfl |h |⟨c,hc,hd⟩|⟨d,rfl⟩
  ·exact z1w e.symm
  ·rw[e]at h;omega
  ·rw[e]at hc;exact hd (mem_digs.mpr (p0k (by omega) c hc))
  ·unfold dig at e;split at e
   ·have:=congrArg List.length e;cases this
   ·have:=(List.cons.inj e).1;omega
theorem t7{w:List Nat}{lo hi:Int}(h:nm w=.non):j3 w lo hi=.non:=by unfold j3;rw[h]
theorem r9{w:List Nat}{lo hi i:Int}(h:nm w=.int i):j3 w lo hi=if lo≤i∧i≤hi then .int i else .non:=by unfold j3;rw[h]
noncomputable def valL(w:List Nat):Int:=((PySem.NumText.digitsVal w:Nat):Int)
theorem b0n{w:List Nat}(h:∀c∈w,c∈digs)(h0:w≠[])(hl:w.length≤900):PySem.intText? (tx w)=some (valL w):=by
 have e:(tx w).cps.toList=w:=by simp[tx]
 have:=PySem.intText_digits (x:=tx w) (by rw[e];exact fun c hc=>mem_digs.mp (h c hc)) (by rw[e];exact h0) (by rw[u4];omega);rw[e]at this;exact this
theorem w1w{c:Nat}(h:c∈digs):nm [c]=.int (valL [c]):=by
 rw[mem_digs]at h;have e2:dig (valL [c]).toNat=[c]:=by
  have:valL [c]=((c-48:Nat):Int):=by show (((0*10+(c-48):Nat)):Int)=_;omega
  rw[this];unfold dig;rw[if_pos (by omega)];exact congrArg (·:: []) (by omega)
 have hv:valL [c]=((c-48:Nat):Int):=by show (((0*10+(c-48):Nat)):Int)=_;omega
 have h2:=v0v (i:=valL [c]) (by rw[hv];omega) (by rw[hv];omega);rw[e2]at h2;exact h2
theorem w1v{c d:Nat}(h:c∈digs)(h':d∈digs)(h0:c≠48):nm [c,d]=.int (valL [c,d]):=by
 rw[mem_digs]at h h';have hv:valL [c,d]=(((c-48)*10+(d-48):Nat):Int):=by show ((((0*10+(c-48))*10+(d-48):Nat)):Int)=_;omega
 have h2:=v0v (i:=valL [c,d]) (by rw[hv];omega) (by rw[hv];omega);have e2:dig (valL [c,d]).toNat=[c,d]:=by
  rw[hv];unfold dig;rw[if_neg (by omega)];have a1:48+((((c-48)*10+(d-48):Nat):Int)).toNat/10=c:=by omega
  have a2:48+((((c-48)*10+(d-48):Nat):Int)).toNat%10=d:=by omega
  rw[a1,a2]
 rw[e2]at h2;exact h2
theorem f0c{c d e:Nat}(h:c∈digs)(h0:c≠48):100≤valL [c,d,e]:=by
 rw[mem_digs]at h;show (100:Int)≤(((((0*10+(c-48))*10+(d-48))*10+(e-48):Nat)):Int);omega
noncomputable def p0g:Sp2:=fun ds δ q _=>∃w lo hi,ds=[txD w,.int lo,.int hi]∧w.length≤900∧0≤lo∧hi≤99∧q (j3 w lo hi) δ
noncomputable abbrev z0l:List Str:=["_law_word","_law_low","_law_high"]
theorem sc_law_whole:FnScope ["_law_word","_law_low","_law_high"] z0l (defScope w0v):=⟨rfl,rfl,rfl,by decide +kernel,rfl,by decide +kernel,by decide +kernel⟩
noncomputable abbrev z0k(P:Program)(w:World)(K:PySem.W.Frag)(mg:Str→Option Value)(base:Heap)(cs:Cs):Prop:=Fun2 P w K mg base "_law_whole" 2 z0l p0g
theorem n0a{f:Addr}{fd:FuncData}(Df:DefAt K mg "_law_whole" w0v z0l f fd)(T:Txt K mg cs):z0k P w K mg base cs:=by
 have nd:=sc_law_whole.nd;refine def2 Df sc_law_whole (fun ds δ q x h=>?_) (fun cdv A outer s H E Y hr=>⟨_,(u0 (y6 (PW2.pt (o9 (w4 o0r d_eq (e2_v 0) l0 (y4 _)) (o9 (w4 m0n d_gt (e2_b b8 j0p T.n_len r0a (z0 (e2_v 0) v0)) s0 (y4 _)) (a7 (w4 (j0t hr.units0) c0c (y7 rfl (CompOkM.of ["_law_sign"] [] rfl) (i2_str (e2_v 0)) (fun nd _ _ _ _ _=>(x4 (i:=0) nd rfl (by first |exact Or.inl rfl |exact Or.inr rfl))) z7 (fun _ _ _ _ _ _=>(x0c (w4 o0k b0u (e2_v 0) l0 rfl))) (fun _ _ _ _ _ _=>(e2_v 0))) (l6 v0) (y4 _)))))) (o3 (a3 z6)) p5)
  (u0 (y6 (PW2.pt (o9 (PW2.pt (a0k (w4 m0n d_gt (e2_b b8 j0p T.n_len r0a (z0 (e2_v 0) v0)) s0 (y4 _)) (g0t (w4 o0r d_eq (m0i k0m x1i (e2_v 0) s0) l0 (y4 _))))) (o9 (w4 z1j d_lt (n9 s0g f0v T.n_int q0z (z0 (e2_v 0) v0)) (e2_v 1) (y4 _)) (a7 (w4 m0n d_gt (n9 s0g f0v T.n_int q0z (z0 (e2_v 0) v0)) (e2_v 2) (y4 _)))))) (o3 (a3 z6)) p5)
  (o3 (a3 (n9 s0g f0v T.n_int q0z (z0 (e2_v 0) v0)))))),fun ds δ q x h=>?_⟩)
 ·unfold p0g at h;obtain ⟨w,lo,hi,rfl,hl,h0,h9,hq⟩:=h;rfl
 ·unfold p0g at h;obtain ⟨w,lo,hi,rfl,hl,h0,h9,hq⟩:=h;rw[show x5 ["_law_word","_law_low","_law_high"] _=[.val _,.val _,.val _]from rfl];unfold txD;walk_at "dn";rw[u0l,c_digs,b0p,u4,b0o];by_cases hw0:w=[]
  ·rw[if_pos (by rw[hw0])];rw[t7 (r0v (.inl hw0))]at hq;exact hq
  ·rw[if_neg (fun z=>hw0 (q0n z))];refine ⟨by omega,?_⟩;by_cases hw2:3<w.length
   ·rw[if_pos (by omega)];rw[t7 (r0v (.inr (.inl (by omega))))]at hq;exact hq
   ·rw[if_neg (by omega)];refine t8 (fun c=>txD [c]) (fun c=>txD [c]) (fun c=>!decide (c∈digs)) w (by show 0+_≤_;omega) (fun c hc Q k1 k2=>⟨_,rfl,?_⟩) ?_
    ·simp only[capt,e9,List.map_cons,List.map_nil,List.cons_append,List.nil_append];unfold txD;walk_at "dn";rw[w1x];cases e:decide (c∈digs)with
     |true=>exact k2 (by show (!decide (c∈digs))=false;rw[e];rfl)
     |false=>exact k1 (by show (!decide (c∈digs))=true;rw[e];rfl)
    ·rw[List.nil_append];refine ⟨by rw[List.all_eq_true.mpr (fun x hx=>by obtain ⟨c,_,rfl⟩:=List.mem_map.mp hx;rfl)];rfl,?_⟩;have tail:∀n,PySem.intText? (tx w)=some n→(if lo≤n∧n≤hi then D.int n else .non)=j3 w lo hi→(match PySem.intText? (tx w)with
      |some n=>w.length≤640∧if n<lo then q D.non δ else match PySem.intText? (tx w)with
       |some n=>w.length≤640∧if hi<n then q D.non δ else match PySem.intText? (tx w)with
        |some n=>w.length≤640∧q (D.int n) δ
        |none=>False
       |none=>False
      |none=>False):=fun n e1 e2=>by
      rw[←e2]at hq;rw[e1];dsimp only;refine ⟨by omega,?_⟩;by_cases z1:n<lo
      ·rw[if_pos z1];rw[if_neg (by omega)]at hq;exact hq
      ·rw[if_neg z1];refine ⟨by omega,?_⟩;by_cases z2:hi<n
       ·rw[if_pos z2];rw[if_neg (by omega)]at hq;exact hq
       ·rw[if_neg z2];rw[if_pos ⟨by omega,by omega⟩]at hq;exact ⟨by omega,hq⟩
     cases ef:List.filter (fun c=>!decide (c∈digs)) w with
     |cons c0 r0=>
      have hc:c0∈List.filter (fun c=>!decide (c∈digs)) w:=by rw[ef];exact List.mem_cons_self ..
      rw[List.mem_filter]at hc;rw[t7 (r0v (.inr (.inr (.inl ⟨c0,hc.1,by simpa using hc.2⟩))))]at hq;exact hq
     |nil=>
      have hall:∀c∈w,c∈digs:=fun c hc=>by
       have:=List.filter_eq_nil_iff.mp ef c hc;simpa using this
      show w.length≤100000∧_;refine ⟨by omega,?_⟩;have hint:=b0n hall hw0 (by omega)
      match w,hw0,hw2,hall,tail,hq,hint with
      | [],h,_,_,_,_,_=>exact absurd rfl h
      | [c],_,_,hall,tail,hq,hint=>
       rw[if_neg (by show ¬(1:Int)<((1:Nat):Int);decide)];exact tail _ hint (r9 (w1w (hall c (List.mem_cons_self ..)))).symm
      | [c,d],_,_,hall,tail,hq,hint=>
       rw[if_pos (by show (1:Int)<((2:Nat):Int);decide)];refine ⟨by show 2≤_;decide,?_⟩;show if tx [c]=tx [48]then _ else _
       by_cases hc:c=48
       ·rw[if_pos (by rw[hc])];subst hc;rw[t7 (r0v (.inr (.inr (.inr ⟨d,rfl⟩))))]at hq;exact hq
       ·rw[if_neg (fun z=>hc (List.cons.inj (q0n z)).1)];exact tail _ hint (r9 (w1v (hall c (List.mem_cons_self ..)) (hall d (List.mem_cons_of_mem _ (List.mem_cons_self ..))) hc)).symm
      | [c,d,e],_,_,hall,tail,hq,hint=>
       have hno:j3 [c,d,e] lo hi=.non:=t7 (r0v (.inr (.inl (by show 2<3;decide))));rw[if_pos (by show (1:Int)<((3:Nat):Int);decide)];refine ⟨by show 3≤_;decide,?_⟩;show if tx [c]=tx [48]then _ else _
       by_cases hc:c=48
       ·rw[if_pos (by rw[hc])];rw[hno]at hq;exact hq
       ·rw[if_neg (fun z=>hc (List.cons.inj (q0n z)).1)];have h100:=f0c (d:=d) (e:=e) (hall c (List.mem_cons_self ..)) hc;exact tail _ hint (by rw[hno,if_neg (by omega)])
      |_::_::_::_::_,_,h,_,_,_,_=>exact absurd (by simp) h
noncomputable def j0i(cs:Cs):Sp2:=fun ds δ q _=>∃d,ds=[d]∧((∃l,d=txD l∧TxtOk l∧(match w6 l with | .inl k=>q (.tup [.str "row",.int k]) δ | .inr _=>q (.tup [.str "read",.int 0]) δ))∨(noTx d∧q (.tup [.str "row",.int 0]) δ))
noncomputable def r0u:Sum Int (List (List Int)×Int)→Option Int | .inl k=>some k | .inr _=>none
noncomputable def f0b:Sp2:=fun ds δ q _=>∃d due,ds=[d,.int due]∧((∃l,d=txD l∧TxtOk l∧q (.bl (decide (r0u (w6 l)=some due))) δ)∨(noTx d∧q (.bl (decide (due=0))) δ))
noncomputable abbrev x0s:List Str:=["_law_text"]
theorem sc_law_told:FnScope ["_law_text","_law_found","e"] x0s (defScope u0s):=⟨rfl,rfl,rfl,by decide +kernel,rfl,by decide +kernel,by decide +kernel⟩
noncomputable abbrev z0y(P:Program)(w:World)(K:PySem.W.Frag)(mg:Str→Option Value)(base:Heap)(cs:Cs):Prop:=Fun2 P w K mg base "_law_told" 8 x0s (j0i cs)
theorem l0h{f:Addr}{fd:FuncData}(Df:DefAt K mg "_law_told" u0s x0s f fd)(T:Txt K mg cs)(G_read_plan:z0m P w K mg base cs):z0y P w K mg base cs:=by
 have nd:=sc_law_told.nd;refine def2 Df sc_law_told (fun ds δ q x h=>?_) (fun cdv A outer s H E Y hr=>⟨_,(u0 (v4 1 nd (u6 (z0 l0 (z0 s0 v0))))
  (u0 (s2_try ⟨rfl,rfl⟩ (fun _ _=>(o3 (y0x (u3 G_read_plan (hr.mono (by decide)) d0o (z0 (e2_v 0) v0))))) (h2_asK K 2 ⟨rfl,rfl⟩ T.h_NoText T.c_NoText nd (fun _=>(o3 (v4 1 nd (u6 (z0 l0 (z0 (c0q K (e2_v 2)) v0)))))) (c0p K ⟨rfl,rfl⟩ T.h_WearError T.c_WearError (fun _=>(o3 (v4 1 nd (u6 (z0 l0 (z0 s0 v0)))))) h2_nil)))
  (o3 (a3 (e2_v 1))))),fun ds δ q x h=>?_⟩)
 ·unfold j0i at h;obtain ⟨d,rfl,h⟩:=h;rfl
 ·unfold j0i at h;obtain ⟨d,rfl,h⟩:=h;rw[show x5 ["_law_text","_law_found","e"] _=[.val _,.no,.no]from rfl];have bad:∀k:Int,q (.tup [.str "row",.int k]) δ→(match PySem.W.mroIn K cs.NoText (Value.ref cs.NoText)with
   |some b=>if b=true then (XC K cs.NoText∧NoAttr K cs.NoText (Str.ofString "row"))∧match List.lookup (Str.ofString "row") [(Str.ofString "row",D.int k)]with |some e=>q (D.tup [D.str (Str.ofString "row"),e]) δ |none=>False
    else match PySem.W.mroIn K cs.NoText (Value.ref cs.W)with |some b=>if b=true then q (D.tup [D.str (Str.ofString "other"),D.int 0]) δ else False |none=>False
   |none=>False):=fun k hk=>by
   rw[u0i T];refine ⟨⟨(T.err _ v0w).xc,T.a_NoText_row⟩,?_⟩;simp only[List.lookup_cons,f0h];exact hk
  walk_at "dn";refine ⟨d,rfl,?_⟩;rcases h with ⟨l,e,ht,hq⟩|⟨hn,hq⟩
  ·refine .inl ⟨l,e,ht,?_⟩;cases er:w6 l with
   |inl k=>rw[er]at hq;exact bad k hq
   |inr z=>
    obtain ⟨P1,f1⟩:=z;rw[er]at hq;exact hq
  ·exact .inr ⟨hn,bad 0 hq⟩
noncomputable abbrev t0e:List Str:=["_law_text","_law_due"]
theorem sc_law_is:FnScope ["_law_text","_law_due","_law_found"] t0e (defScope p0p):=⟨rfl,rfl,rfl,by decide +kernel,rfl,by decide +kernel,by decide +kernel⟩
noncomputable abbrev v0p(P:Program)(w:World)(K:PySem.W.Frag)(mg:Str→Option Value)(base:Heap)(cs:Cs):Prop:=Fun2 P w K mg base "_law_is" 9 t0e f0b
theorem f0a{f:Addr}{fd:FuncData}(Df:DefAt K mg "_law_is" p0p t0e f fd)(T:Txt K mg cs)(G_law_told:z0y P w K mg base cs)(G_law_number:t9 P w K mg base cs):v0p P w K mg base cs:=by
 have nd:=sc_law_is.nd;refine def2 Df sc_law_is (fun ds δ q x h=>?_) (fun cdv A outer s H E Y hr=>⟨_,(u0 (v4 2 nd (u3 G_law_told (hr.mono (by decide)) o0 (z0 (e2_v 0) v0)))
  (o3 (a3 (w0l (q0y (y0q hr.units0) s0l (p4 2 s0) l0 (y4 _)) (q0x (u3 G_law_number (hr.mono (by decide)) o0 (z0 (p4 2 s0) (z0 (e2_v 1) v0)))))))),fun ds δ q x h=>?_⟩)
 ·unfold f0b at h;obtain ⟨d,due,rfl,h⟩:=h;rfl
 ·unfold f0b at h;obtain ⟨d,due,rfl,h⟩:=h;rw[show x5 ["_law_text","_law_due","_law_found"] _=[.val _,.val _,.no]from rfl];walk_at "ds";refine ⟨d,rfl,?_⟩;have yes:∀k:Int,q (.bl (decide (k=due))) δ→z0t [.int k,.int due] δ (fun d δ2=>q d δ2) fun C fs δ2=>x C fs δ2:=fun k h=>by
   simp only[z0t,d9,true_and,numD];exact h
  rcases h with ⟨l,rfl,ht,hq⟩|⟨hn,hq⟩
  ·refine .inl ⟨l,rfl,ht,?_⟩;cases er:w6 l with
   |inl k=>
    rw[er]at hq;walk_at "ds";rw[show decide (r0u (.inl k)=some due)=decide (k=due)by simp[r0u]]at hq;exact yes k hq
   |inr z=>
    rw[er]at hq;walk_at "ds";rw[show decide (r0u (.inr z)=some due)=false by simp[r0u]]at hq;rw[if_neg (by decide)];exact hq
  ·refine .inr ⟨hn,?_⟩;walk_at "ds";rw[show decide (due=0)=decide ((0:Int)=due)by simp[eq_comm]]at hq;exact yes 0 hq
noncomputable def l0g:Sp2:=fun ds δ q _=>∃ws:List (List Nat),ds=[.lst (ws.map txD)]∧ws≠[]∧(∀w∈ws,w.length≤900)∧q (hdD (i9 ws)) δ
noncomputable abbrev o7:List Str:=["_law_words"]
theorem sc_law_head_read:FnScope ["_law_words","_law_many","_law_first"] o7 (defScope k8):=⟨rfl,rfl,rfl,by decide +kernel,rfl,by decide +kernel,by decide +kernel⟩
noncomputable abbrev g8(P:Program)(w:World)(K:PySem.W.Frag)(mg:Str→Option Value)(base:Heap)(cs:Cs):Prop:=Fun2 P w K mg base "_law_head_read" 3 o7 l0g
theorem t0o{f:Addr}{fd:FuncData}(Df:DefAt K mg "_law_head_read" k8 o7 f fd)(T:Txt K mg cs)(G_law_whole:z0k P w K mg base cs):g8 P w K mg base cs:=by
 have nd:=sc_law_head_read.nd;refine def2 Df sc_law_head_read (fun ds δ q x h=>?_) (fun cdv A outer s H E Y hr=>⟨_,(u0 (y6 (PW2.pt (o9 (w4 (w0b hr.units0) p0v (w5 0 T.n_len) s0 (y4 _)) (o9 (w4 (w0b hr.units0) p0v (p4 0 s0) l0 (y4 _)) (a7 (w4 (w0b hr.units0) p0v (p4 0 s0) l0 (y4 _)))))) (o3 (a3 z6)) p5)
  (u0 (v4 1 nd (u3 G_law_whole (hr.mono (by decide)) o0 (z0 (p4 0 s0) (z0 s0 (z0 s0 v0)))))
  (u0 (v4 2 nd (u3 G_law_whole (hr.mono (by decide)) o0 (z0 (p4 0 s0) (z0 s0 (z0 s0 v0)))))
  (u0 (y6 (PW2.pt (o9 (w4 z0e t0s (e2_v 1) z6 (y4 _)) (a7 (w4 z0e t0s (e2_v 2) z6 (y4 _))))) (o3 (a3 z6)) p5)
  (o3 (a3 (u6 (z0 (e2_v 1) (z0 (e2_v 2) v0))))))))),fun ds δ q x h=>?_⟩)
 ·unfold l0g at h;obtain ⟨ws,rfl,hne,hw,hq⟩:=h;rfl
 ·unfold l0g at h;obtain ⟨ws,rfl,hne,hw,hq⟩:=h;rw[show x5 ["_law_words","_law_many","_law_first"] _=[.val _,.no,.no]from rfl];walk_at "dn";rw[List.length_map];by_cases h4:ws.length=4
  ·rw[decide_eq_true (by omega)]
   match ws,h4,hw,hq with
   | [a,b,c,d],_,hw,hq=>
    simp only[List.map_cons,List.map_nil,List.getElem?_cons_zero,List.getElem?_cons_succ,Bool.not_true,Bool.false_eq_true,if_false];have e4:i9 [a,b,c,d]=if a=rT∧c=fT then (match j3 b 0 24,j3 d 0 47 with | .int n,.int f=>some (n,f)|_,_=>none)else none:=rfl
    rw[e4]at hq;unfold txD;dsimp only;rw[j0l,z1v,p0l,p0l];by_cases ha:a=rT
    ·by_cases hc:c=fT
     ·rw[if_pos ⟨ha,hc⟩]at hq;rw[decide_eq_true ha,decide_eq_true hc];simp only[Bool.not_true,Bool.false_eq_true,if_false];refine ⟨b,0,24,rfl,hw b (by simp),by decide,by decide,?_⟩;refine ⟨d,0,47,rfl,hw d (by simp),by decide,by decide,?_⟩;rcases b4 b 0 24 with ⟨e1,_⟩|⟨i,e1,_⟩
      ·rw[e1]at hq ⊢;exact hq
      ·rcases b4 d 0 47 with ⟨e2,_⟩|⟨j,e2,_⟩
       ·rw[e1,e2]at hq ⊢;exact hq
       ·rw[e1,e2]at hq ⊢;exact hq
     ·rw[if_neg (fun z=>hc z.2)]at hq;rw[decide_eq_true ha,decide_eq_false hc];exact hq
    ·rw[if_neg (fun z=>ha z.1)]at hq;rw[decide_eq_false ha];exact hq
  ·rw[decide_eq_false (by omega)];have:i9 ws=none:=by
    unfold i9;split
    ·exact absurd rfl h4
    ·rfl
   rw[this]at hq;exact hq
noncomputable def p0f:Sp2:=fun ds δ q _=>∃(ws:List (List Nat)) (n f last:Int),ds=[.lst (ws.map txD),.tup [.int n,.int f],.int last]∧ws≠[]∧(∀w∈ws,w≠[]∧w.length≤900)∧ws.length≤950∧0≤n∧n≤24∧0≤f∧f≤47∧-1≤last∧last<f+n∧q (rdD (b5 ws (if last+1>f then last+1 else f) (f+n-1))) δ
theorem at_end{v:List Nat}{c:Nat}:L2.atI (v++[c]) (-1)=some c:=by
 unfold L2.atI ixN;rw[if_neg (by decide),if_pos (by rw[List.length_append,List.length_singleton];omega)];rw[show (-1+(((v++[c]).length:Nat):Int)).toNat=v.length by rw[List.length_append,List.length_singleton];omega];simp
theorem r0t:∀xs:List (List Nat),(inD .non (xs.map fun w=>j3 w 0 3)=true∧(xs.map fun w=>j3 w 0 3).all (a6 · 0 3)=false)∨(inD .non (xs.map fun w=>j3 w 0 3)=false∧(xs.map fun w=>j3 w 0 3).all (a6 · 0 3)=true)
 | []=>.inr ⟨rfl,rfl⟩
 |w::r=>by
  unfold inD;rw[List.map_cons,List.any_cons,List.all_cons];rcases b4 w 0 3 with ⟨e1,_⟩|⟨i,e1,_,_,i1,i2⟩
  ·rw[e1];exact .inl ⟨rfl,rfl⟩
  ·rcases r0t r with ⟨h1,h2⟩|⟨h1,h2⟩
   ·refine .inl ⟨?_,by rw[h2,Bool.and_false]⟩;unfold inD at h1;rw[h1,Bool.or_true]
   ·refine .inr ⟨?_,by rw[h2,e1,l0s i1 i2];rfl⟩;unfold inD at h1;rw[h1,e1];rfl
theorem l0f:∀cs:List Int,risI cs=true↔∀i,i+1<cs.length→cs.getD i 0<cs.getD (i+1) 0
 | []=>⟨fun _ i h=>absurd h (by simp),fun _=>rfl⟩
 | [a]=>⟨fun _ i h=>absurd h (by simp),fun _=>rfl⟩
 |a::b::r=>by
  have ih:=l0f (b::r);show (decide (a<b)&&risI (b::r))=true↔_;rw[Bool.and_eq_true,decide_eq_true_eq,ih];constructor
  ·rintro ⟨h1,h2⟩ i hi;cases i with
   |zero=>exact h1
   |succ i=>exact h2 i (by simpa using hi)
  ·intro h;exact ⟨h 0 (by simp),fun i hi=>h (i+1) (by simpa using hi)⟩
theorem i0j{cs:List Int}:risI cs=decide ((List.range (cs.length-1)).filter (fun i=>decide (cs.getD (i+1) 0≤cs.getD i 0))=[]):=by
 rw[Bool.eq_iff_iff,l0f,decide_eq_true_eq,List.filter_eq_nil_iff];constructor
 ·intro h i hi;have:=h i (by have:=List.mem_range.mp hi;omega);simpa using this
 ·intro h i hi;have:=h i (List.mem_range.mpr (by omega));simpa using this
theorem b0m{cs:List Int}(h:risI cs=true)(hb:∀x∈cs,0≤x∧x≤3):cs.length≤4:=by
 rw[l0f]at h;have key:∀i,i<cs.length→(i:Int)≤cs.getD i 0:=by
  intro i
  induction i with
  |zero=>
   intro hi;have:cs.getD 0 0∈cs:=by rw[List.getD_eq_getElem?_getD,List.getElem?_eq_getElem hi];exact List.getElem_mem hi
   have:=(hb _ this).1;exact this
  |succ i ih=>
   intro hi;have h1:=ih (by omega);have h2:=h i hi;omega
 rcases Nat.lt_or_ge 4 cs.length with z |z
 ·have h1:=key 4 z;have:cs.getD 4 0∈cs:=by rw[List.getD_eq_getElem?_getD,List.getElem?_eq_getElem z];exact List.getElem_mem z
  have:=(hb _ this).2;omega
 ·exact z
theorem e0z{xs:List (List Nat)}(h:(xs.map fun w=>j3 w 0 3).all (a6 · 0 3)=true):risD (.tup (xs.map fun w=>j3 w 0 3)) 0 3=risI (xs.map fun w=>intD (j3 w 0 3)):=by
 have e:((xs.map fun w=>j3 w 0 3).map intD)=xs.map fun w=>intD (j3 w 0 3):=by rw[List.map_map];rfl
 have hb:∀x∈xs.map fun w=>intD (j3 w 0 3),0≤x∧x≤3:=fun x hx=>by
  obtain ⟨w,hw,rfl⟩:=List.mem_map.mp hx;obtain ⟨i,ei,i1,i2⟩:=q0o (List.all_eq_true.mp h _ (List.mem_map.mpr ⟨w,hw,rfl⟩));rw[ei];exact ⟨i1,i2⟩
 unfold risD t0q rowD;dsimp only;rw[Option.getD_some,e,h];cases er:risI (xs.map fun w=>intD (j3 w 0 3))with
 |false=>rw[Bool.and_false]
 |true=>
  have:=b0m er hb;rw[List.length_map]at this;rw[List.length_map,decide_eq_true (by omega),decide_eq_true (by omega)];rfl
noncomputable abbrev i6:List Str:=["_law_words","_law_head_here","_law_last"]
theorem sc_law_entry_read:FnScope ["_law_words","_law_head_here","_law_last","_law_many","_law_first","_law_number_here","_law_parts"] i6 (defScope d7):=⟨rfl,rfl,rfl,by decide +kernel,rfl,by decide +kernel,by decide +kernel⟩
noncomputable abbrev b7(P:Program)(w:World)(K:PySem.W.Frag)(mg:Str→Option Value)(base:Heap)(cs:Cs):Prop:=Fun2 P w K mg base "_law_entry_read" 3 i6 p0f
theorem u0h{f:Addr}{fd:FuncData}(Df:DefAt K mg "_law_entry_read" d7 i6 f fd)(T:Txt K mg cs)(G_law_whole:z0k P w K mg base cs):b7 P w K mg base cs:=by
 have nd:=sc_law_entry_read.nd;refine def2 Df sc_law_entry_read (fun ds δ q x h=>?_) (fun cdv A outer s H E Y hr=>⟨_,(u0 (n0t (e2_v 1) (g9 rfl (j4 (x4 (i:=3) nd rfl (by first |exact Or.inl rfl |exact Or.inr rfl)) (j4 (x4 (i:=4) nd rfl (by first |exact Or.inl rfl |exact Or.inr rfl)) m7))) (w0f (is:=[3,4]) rfl))
  (u0 (y6 (PW2.pt (o9 (w4 (w0b hr.units0) p0v (m0i k0m x1i (p4 0 s0) (q0w s0)) l0 (y4 _)) (a7 (w4 (y0q hr.units0) s0l (w5 0 T.n_len) s0 (y4 _))))) (o3 (a3 z6)) p5)
  (u0 (v4 5 nd (u3 G_law_whole (hr.mono (by decide)) o0 (z0 (e7 (p4 0 s0) n8 (m8 (q0w s0))) (z0 (e2_b (h0r rfl) d_max T.n_max bt_max (z0 (e2_v 4) (z0 (y3 o4 o5 (e2_v 2) s0) v0))) (z0 (y3 f9 v0g (y3 o4 o5 (e2_v 4) (e2_v 3)) s0) v0)))))
  (u0 (v4 6 nd (y7 rfl (CompOkM.of ["_law_word"] [] rfl) (w0h (p0u (e2_v 0) (m8 s0) n8)) (fun nd _ _ _ _ _=>(x4 (i:=0) nd rfl (by first |exact Or.inl rfl |exact Or.inr rfl))) z7 (fun _ _ _ _ _ _=>y0r) (fun _ _ _ _ _ _=>(u3 G_law_whole (hr.mono (by decide)) s0r (z0 (e2_v 0) (z0 s0 (z0 s0 v0)))))))
  (u0 (y6 (PW2.pt (o9 (w4 z0e t0s (e2_v 5) z6 (y4 _)) (a7 (w4 h0j d_in z6 (e2_v 6) rfl)))) (o3 (a3 z6)) p5)
  (u0 (y6 (w4 (j0t hr.units0) c0c (y7 rfl (CompOkM.of ["_law_k"] [6] rfl) (w0g T.n_range (z0 s0 (z0 (w5 6 T.n_len) v0))) (fun nd _ _ _ _ _=>(x4 (i:=0) nd rfl (by first |exact Or.inl rfl |exact Or.inr rfl))) z7 (fun _ _ _ _ _ _=>(x0c (w4 op_ge d_ge (p4 1 (y3 f9 v0g (e2_v 0) s0)) (p4 1 (e2_v 0)) (y4 _)))) (fun _ _ _ _ _ _=>(e2_v 0))) (l6 v0) (y4 _)) (o3 (a3 z6)) p5)
  (o3 (a3 (u6 (z0 (e2_v 5) (z0 (n9 z8 q0a T.n_tuple a8 (z0 (e2_v 6) v0)) v0))))))))))),fun ds δ q x h=>?_⟩)
 ·unfold p0f at h;obtain ⟨ws,n,f1,last,rfl,hne,hw,hl,n1,n2,f2,f3,l1,l2,hq⟩:=h;rfl
 ·unfold p0f at h;obtain ⟨ws,n,f1,last,rfl,hne,hw,hl,n1,n2,f2,f3,l1,l2,hq⟩:=h;rw[show x5 ["_law_words","_law_head_here","_law_last","_law_many","_law_first","_law_number_here","_law_parts"] _=[.val _,.val _,.val _,.no,.no,.no,.no]from rfl]
  match ws,hne,hw,hl,hq with
  | [],h,_,_,_=>exact absurd rfl h
  |w::r,_,hw,hl,hq=>
   obtain ⟨w0,w9⟩:=hw w (List.mem_cons_self ..);obtain ⟨v,c,rfl⟩:∃v c,w=v++[c]:=⟨w.dropLast,w.getLast w0,(List.dropLast_concat_getLast w0).symm⟩;walk_at "ds";simp only[List.map_cons,List.getElem?_cons_zero];have e0:txD (v++[c])=.str (tx (v++[c])):=rfl;rw[e0];dsimp only;have ec:(tx (v++[c])).cps.toList=v++[c]:=by simp[tx]
   rw[ec,at_end,v0x,n0g,List.dropLast_concat,u4,f0l];dsimp only;rw[show (⟨#[c]⟩:Str)=tx [c]from rfl,p0l];refine ⟨by omega,?_⟩;by_cases hc:c=58
   ·rw[decide_eq_true (by rw[hc])];simp only[Bool.not_true,Bool.false_eq_true,if_false]
    match r,hw,hl,hq with
    | [],_,_,hq=>
     rw[if_pos (by decide)];exact hq
    |x0::r,hw,hl,hq=>
     unfold b5 at hq;dsimp only at hq;rw[List.getLast?_concat,if_pos (by rw[hc]),List.dropLast_concat]at hq;rw[if_neg (by simp only[List.length_cons,List.length_map];omega)];generalize hlo:(if last+1>f1 then last+1 else f1)=lo at hq;have hlo0:0≤lo:=by rw[←hlo];split<;>omega
     refine ⟨by omega,v,lo,f1+n-1,rfl,by rw[List.length_append]at w9;omega,hlo0,by omega,?_⟩;rw[g0a];walk_at "ds";rw[w1y,List.drop_succ_cons,List.drop_zero];refine v0c txD (fun w=>j3 w 0 3) (x0::r) (by simp only[List.length_cons]at hl ⊢; omega) (fun y hy Q hQ=>?_) ?_
     ·simp only[capt,e9,List.map_cons,List.map_nil];walk_at "ds";exact ⟨y,0,3,rfl,(hw y (List.mem_cons_of_mem _ hy)).2,by decide,by decide,hQ⟩
     ·rcases b4 v lo (f1+n-1)with ⟨e1,_⟩|⟨k,e1,_⟩
      ·rw[e1]at hq ⊢;exact hq
      ·rw[e1]at hq ⊢;simp only[Bool.false_eq_true,if_false];dsimp only at hq;refine ⟨by rw[List.all_eq_true.mpr (fun x hx=>by obtain ⟨w,_,rfl⟩:=List.mem_map.mp hx;exact i0m)];rfl,?_⟩;rcases r0t (x0::r)with ⟨p1,p2⟩|⟨p1,p2⟩
       ·rw[if_pos p1];have:risD (.tup ((x0::r).map fun w=>j3 w 0 3)) 0 3=false:=by
         unfold risD t0q rowD;dsimp only;rw[p2,Bool.and_false,Bool.false_and]
        rw[this]at hq;exact hq
       ·rw[if_neg (by rw[p1];exact Bool.false_ne_true)];rw[e0z p2,i0j]at hq;have ep:((x0::r).map fun w=>j3 w 0 3)=((x0::r).map fun w=>intD (j3 w 0 3)).map D.int:=by
         have:=x0w p2;rw[List.map_map (f:=fun w=>j3 w 0 3) (g:=intD)]at this;exact this
        rw[ep];generalize hcs:(x0::r).map (fun w=>intD (j3 w 0 3))=ks at hq;have hkl:ks.length=r.length+1:=by rw[←hcs,List.length_map,List.length_cons]
        have hl2:r.length+2≤950:=by simpa using hl
        rw[List.length_map];refine ⟨⟨by decide,by decide,by omega,by omega⟩,?_⟩;rw[show ((ks.length:Int)-1).toNat=ks.length-1 by omega];show compM _ _ _ _ _ _ _ ((List.range (ks.length-1)).map fun (i:Nat)=>D.int (1+(i:Int))) [] δ;refine t8 (fun i:Nat=>D.int (1+(i:Int))) (fun i:Nat=>D.int (1+(i:Int))) (fun i=>decide (ks.getD (i+1) 0≤ks.getD i 0)) (List.range (ks.length-1)) (by rw[List.length_range];show 0+_≤_;omega) (fun i hi Q g1 g2=>⟨_,rfl,?_⟩) ?_
        ·have hi:=List.mem_range.mp hi;simp only[capt,e9,List.map_cons,List.map_nil,List.getElem?_cons_zero,List.getElem?_cons_succ,List.cons_append,List.nil_append];walk_at "dn";rw[atZ (by omega) (by omega),atZ (by omega) (by omega)];dsimp only;rw[show (1+(i:Int)-1).toNat=i by omega,show (1+(i:Int)).toNat=i+1 by omega];by_cases e:ks.getD (i+1) 0≤ks.getD i 0
         ·rw[if_pos e];exact g1 (decide_eq_true e)
         ·rw[if_neg e];exact g2 (decide_eq_false e)
        ·rw[List.nil_append];refine ⟨by rw[List.all_eq_true.mpr (fun x hx=>by obtain ⟨i,_,rfl⟩:=List.mem_map.mp hx;rfl)];rfl,?_⟩;cases ef:(List.range (ks.length-1)).filter (fun i=>decide (ks.getD (i+1) 0≤ks.getD i 0))with
         |nil=>
          rw[ef]at hq;exact hq
         |cons a b=>
          rw[ef]at hq;exact hq
   ·rw[decide_eq_false (fun z=>hc (List.cons.inj z).1)];have e:b5 ((v++[c])::r) (if last+1>f1 then last+1 else f1) (f1+n-1)=none:=by
     unfold b5;split
     ·rename_i w' x' r' e';cases e';rw[List.getLast?_concat,if_neg (fun z=>hc (Option.some.inj z))]
     ·rfl
    rw[e]at hq;exact hq
noncomputable def outD:Sum Int (List (List Int)×Int)→D
 | .inl k=>.tup [.str "row",.int k]
 | .inr (P,f)=>.tup [.str "read",.tup [.tup (P.map fun c=>.tup (c.map D.int)),.int f]]
noncomputable def l0e:Sp2:=fun ds δ q _=>∃l,ds=[txD l]∧TxtOk l∧q (outD (w6 l)) δ
noncomputable def f8(k:Int)(ls:List (List Nat)):List (Int×List (List Nat)):=((v0u k ls).filter fun p=>decide (m3 p.2≠[])).map fun p=>(p.1,m3 p.2)
theorem i7{k:Int}{l:List Nat}{ls:List (List Nat)}:f8 k (l::ls)=if m3 l=[]then f8 (k+1) ls else (k,m3 l)::f8 (k+1) ls:=by
 unfold f8;show (List.filter _ ((k,l)::v0u (k+1) ls)).map _=_;by_cases h:m3 l=[]
 ·rw[if_pos h,List.filter_cons_of_neg (by simpa using h)]
 ·rw[if_neg h,List.filter_cons_of_pos (by simpa using h)];rfl
noncomputable def goR(len:Int)(rs:List (Int×List (List Nat))):Sum Int (List (List Int)×Int):=if rs=[]then .inl (len+1)else v0r rs
noncomputable def readT:TS2:=fun E ρ δ=>∃l,ρ=[.val (txD l),.own ((i4 l).map txD),.no,.no,.no,.no,.no,.no,.no]∧TxtOk l∧E.rt (outD (w6 l)) δ
noncomputable def r0k(P:List (List Int)):List D:=P.map fun c=>.tup (c.map D.int)
theorem m0z{l:List Nat}:w6 l=goR ((i4 l).length:Int) (f8 1 (i4 l)):=rfl
theorem b0l{l:List Nat}(h:TxtOk l){p:List Nat}(hp:p∈i4 l):(∀w∈m3 p,w≠[]∧w.length≤900)∧(m3 p).length≤950∧p.length≤900:=by
 have hs:=h.s _ (r0z hp);refine ⟨fun w hw=>⟨by simpa using (List.mem_filter.mp hw).2,Nat.le_trans (r0w hw) hs⟩,?_,hs⟩;have:=n0c p;omega
noncomputable abbrev v8:List Str:=["_law_text"]
theorem sc_law_reading:FnScope ["_law_text","_law_lines_here","_law_head_here","_law_plan_here","_law_last","_law_at","_law_line","_law_words","_law_entry_here"] v8 (defScope z0v):=⟨rfl,rfl,rfl,by decide +kernel,rfl,by decide +kernel,by decide +kernel⟩
noncomputable abbrev z0j(P:Program)(w:World)(K:PySem.W.Frag)(mg:Str→Option Value)(base:Heap)(cs:Cs):Prop:=Fun2 P w K mg base "_law_reading" 4 v8 l0e
theorem r0j{f:Addr}{fd:FuncData}(Df:DefAt K mg "_law_reading" z0v v8 f fd)(T:Txt K mg cs)(G_law_head_read:g8 P w K mg base cs)(G_law_entry_read:b7 P w K mg base cs):z0j P w K mg base cs:=by
 have nd:=sc_law_reading.nd;refine def2 Df sc_law_reading (fun ds δ q x h=>?_) (fun cdv A outer s H E Y hr=>⟨_,(u0 (s0h 1 nd (e2_v 0) (z0 l0 v0))
  (u0 (y6 (w4 (y0q hr.units0) s0l (p4 1 (q0w s0)) l0 (y4 _)) (o3 (y0x (a0h 1 PySem.F.slot_list_pop PySem.F.type_list_pop a0p m_pop))) p5)
  (p0s (t':=readT) (u0 (v4 2 nd z6)
  (u0 (o0a 3 nd v0)
  (u0 (v4 4 nd (q0w s0))
  (u0 (x0j PassesOwn.leaving rfl (m0d T.n_enumerate (z0 (e2_v 1) v0)) (g9 rfl (j4 (x4 (i:=5) nd rfl (by first |exact Or.inl rfl |exact Or.inr rfl)) (j4 (x4 (i:=6) nd rfl (by first |exact Or.inl rfl |exact Or.inr rfl)) m7))) (w0f (is:=[5,6]) rfl) (u0 (t0l (i:=7) rfl (CompOkM.of ["_law_word"] [] rfl) (w0h (n0n PySem.F.slot_str_split PySem.F.type_str_split p0r f0y (e2_v 6) (z0 l0 v0))) (fun nd _ _ _ _ _=>(x4 (i:=0) nd rfl (by first |exact Or.inl rfl |exact Or.inr rfl))) z7 (fun _ _ _ _ _ _=>(x0c (w4 (w0b hr.units0) p0v (e2_v 0) l0 (y4 _)))) (fun _ _ _ _ _ _=>(e2_v 0)) nd)
  (o3 (y6 (PW2.pt (a0k (w4 m0n d_gt (w5 7 T.n_len) s0 (y4 _)) (g0t (w4 z0e t0s (e2_v 2) z6 (y4 _))))) (u0 (v4 2 nd (u3 G_law_head_read (hr.mono (by decide)) o0 (z0 (e2_v 7) v0)))
  (u0 (y6 (w4 z0e t0s (e2_v 2) z6 (y4 _)) (o3 (a3 (u6 (z0 l0 (z0 (y3 o4 o5 (e2_v 5) s0) v0))))) p5)
  (o3 (n0s 3 nd (l6 (z0 (u6 v0) v0)) (p4 2 s0))))) (o3 (y6 (w4 m0n d_gt (w5 7 T.n_len) s0 (y4 _)) (u0 (v4 8 nd (u3 G_law_entry_read (hr.mono (by decide)) o0 (z0 (e2_v 7) (z0 (e2_v 2) (z0 (e2_v 4) v0)))))
  (u0 (y6 (w4 z0e t0s (e2_v 8) z6 (y4 _)) (o3 (a3 (u6 (z0 l0 (z0 (y3 o4 o5 (e2_v 5) s0) v0))))) p5)
  (u0 (v4 4 nd (p4 8 s0))
  (o3 (y0w 3 (y3 f9 v0g (e2_v 4) (p4 2 s0)) (p4 8 s0)))))) p5))))))
  (u0 (y6 (w4 z0e t0s (e2_v 2) z6 (y4 _)) (o3 (a3 (u6 (z0 l0 (z0 (y3 o4 o5 (w5 1 T.n_len) s0) v0))))) p5)
  (o3 (a3 (u6 (z0 l0 (z0 (u6 (z0 (n9 z8 q0a T.n_tuple a8 (z0 (e2_v 3) v0)) (z0 (p4 2 s0) v0))) v0)))))))))) (by
   rintro E ρ δ ⟨l,rfl,ht,hq⟩;rw[m0z]at hq;generalize hlen:((i4 l).length:Int)=len at hq;walk_at "ds";refine z1z txD (i4 l) (fun i ρ δ'=>∃(c5 c6 c7 c8:Cell),δ'=δ∧
    ((ρ=[.val (txD l),.val (.lst ((i4 l).map txD)),.val .non,.own [],.val (.int (-1)),c5,c6,c7,c8]∧E.rt (outD (goR len (f8 (1+(i:Int)) ((i4 l).drop i)))) δ)∨
     ∃(n f1 last:Int) (P:List (List Int)),ρ=[.val (txD l),.val (.lst ((i4 l).map txD)),.val (.tup [.int n,.int f1]),.own (r0k P),.val (.int last),c5,c6,c7,c8]∧(0≤n∧n≤24∧0≤f1∧f1≤47∧-1≤last∧last<f1+n∧(P.length:Int)=n)∧E.rt (outD (i0l f1 (v0s f1 (f1+n-1) (f8 (1+(i:Int)) ((i4 l).drop i)) P (if last+1>f1 then last+1 else f1)))) δ)) ⟨_,_,_,_,rfl,.inl ⟨rfl,by simpa using hq⟩⟩ ?_ ?_
   ·rintro i p ρ δ' rest hi ⟨c5,c6,c7,c8,rfl,h⟩ hrest;have lt:=(List.getElem?_eq_some_iff.mp hi).1;obtain ⟨w1,w2,w3⟩:=b0l ht (List.mem_of_getElem? hi);have hdr:(i4 l).drop i=p::(i4 l).drop (i+1):=by rw[List.drop_eq_getElem_cons lt,(List.getElem?_eq_some_iff.mp hi).2]
    have hi1:(1:Int)+(i:Int)+1=1+((i+1:Nat):Int):=by omega
    rw[hdr,i7,hi1]at h;have wc:∀(ρ:En) (Q:List D→Dk→Prop),Q ((m3 p).map txD) δ'→compM false 1 (t2B (t2Op neG (t2V 0) (t2C (D.str (Str.ofString ""))))) (t2V 0) [] ρ Q (List.map D.str (Txt.split (tx p) (Str.ofString " "))) [] δ':=fun ρ Q hQ=>by
     have hsl:=a9 (c:=32) p;rw[w0t,u0l,t0g,List.map_map];refine t0u (fun d=>match d with | .str z=>!decide (z=tx [])|_=>false) id (by rw[List.length_map];omega) (fun d hd Q k1 k2=>?_) ?_
     ·obtain ⟨w,hw,rfl⟩:=List.mem_map.mp hd;refine ⟨_,rfl,?_⟩;simp only[capt,e9,List.map_cons,List.map_nil,List.getElem?_cons_zero,List.getElem?_cons_succ,List.cons_append,List.nil_append,Function.comp];walk_at "dn";cases e:decide (tx w=tx [])with
      |true=>exact k2 (by show (!decide (tx w=tx []))=false;rw[e];rfl)
      |false=>exact k1 (by show (!decide (tx w=tx []))=true;rw[e];rfl)
     ·rw[List.map_id];have e:List.filter (fun d=>match d with | .str z=>!decide (z=tx [])|_=>false) (List.map (D.str∘tx) (n4 32 p))=(m3 p).map txD:=by
       rw[List.filter_map];unfold m3;congr 1;refine List.filter_congr fun w _=>?_
       show (!decide (tx w=tx []))=decide (w≠[]);rw[p0l];exact (decide_not ..).symm
      rw[e];exact hQ
    have e0:txD p=.str (tx p):=rfl;unfold w0e;rw[e0];rcases h with ⟨rfl,h⟩|⟨n,f1,last,P,rfl,hb,h⟩
    ·walk_at "ds";refine ⟨by decide,by rw[u4];omega,wc _ _ ?_⟩;by_cases hz:m3 p=[]
     ·rw[if_pos hz]at h;rw[hz];walk_at "ds"
      repeat rw[if_neg (by decide)]
      exact hrest _ _ ⟨_,_,_,_,rfl,.inl ⟨rfl,h⟩⟩
     ·rw[if_neg hz]at h;have hpos:=List.length_pos_iff.mpr hz;walk_at "ds";rw[List.length_map,if_pos (by omega)];refine ⟨m3 p,rfl,hz,fun w hw=>(w1 w hw).2,?_⟩;have h:E.rt (outD (v0r ((1+(i:Int),m3 p)::f8 (1+((i+1:Nat):Int)) ((i4 l).drop (i+1))))) δ':=h;rw[q8]at h;cases eh:i9 (m3 p)with
      |none=>
       rw[eh]at h;rw[show hdD none=.non from rfl];walk_at "ds";rw[Int.add_comm];exact h
      |some nf=>
       obtain ⟨n,f1⟩:=nf;rw[eh]at h;obtain ⟨n1,n2,f2,f3⟩:=f0e eh;rw[show hdD (some (n,f1))=.tup [.int n,.int f1]from rfl];walk_at "ds";rw[j0j];refine ⟨by simp;omega,by omega,by omega,?_⟩;refine hrest _ _ ⟨_,_,_,_,rfl,.inr ⟨n,f1,-1,List.replicate n.toNat [],by unfold r0k;rw[List.map_replicate];rfl,⟨n1,n2,f2,f3,by decide,by omega,by rw[List.length_replicate];omega⟩,?_⟩⟩;rw[if_neg (by omega)];exact h
    ·walk_at "ds";refine ⟨by decide,by rw[u4];omega,wc _ _ ?_⟩;by_cases hz:m3 p=[]
     ·rw[if_pos hz]at h;rw[hz];walk_at "ds"
      repeat rw[if_neg (by decide)]
      exact hrest _ _ ⟨_,_,_,_,rfl,.inr ⟨n,f1,last,P,rfl,hb,h⟩⟩
     ·rw[if_neg hz]at h;have hpos:=List.length_pos_iff.mpr hz;obtain ⟨n1,n2,f2,f3,l1,l2,hP⟩:=hb;walk_at "ds";rw[List.length_map,if_pos (by omega),if_pos (by omega)];refine ⟨m3 p,n,f1,last,rfl,hz,w1,w2,n1,n2,f2,f3,l1,l2,?_⟩;rw[z0z]at h;cases er:b5 (m3 p) (if last+1>f1 then last+1 else f1) (f1+n-1)with
      |none=>
       rw[er]at h;rw[show rdD none=.non from rfl];walk_at "ds";rw[Int.add_comm];exact h
      |some kc=>
       obtain ⟨k,c⟩:=kc;rw[er]at h;obtain ⟨k1,k2⟩:=f0d er;have k3:f1≤k:=by
        have:f1≤(if last+1>f1 then last+1 else f1):=by split<;>omega
        omega
       rw[show rdD (some (k,c))=.tup [.int k,.tup (c.map D.int)]from rfl];walk_at "ds";have hix:ixN (r0k P).length (k-f1)=some (k-f1).toNat:=by
        unfold ixN r0k;rw[List.length_map,if_pos (by omega),if_pos (by omega)]
       rw[hix];walk_at "ds";refine hrest _ _ ⟨_,_,_,_,rfl,.inr ⟨n,f1,k,P.set (k-f1).toNat c,by unfold r0k;rw[List.map_set],⟨n1,n2,f2,f3,by omega,by omega,by rw[List.length_set];exact hP⟩,?_⟩⟩;rw[if_pos (by omega)];exact h
   ·rintro ρ δ' ⟨c5,c6,c7,c8,rfl,h⟩;rw[List.drop_length]at h;rcases h with ⟨rfl,h⟩|⟨n,f1,last,P,rfl,_,h⟩
    ·walk_at "ds";rw[List.length_map,hlen];exact h
    ·walk_at "ds";exact h)))),fun ds δ q x h=>?_⟩)
 ·unfold l0e at h;obtain ⟨l,rfl,ht,hq⟩:=h;rfl
 ·unfold l0e at h;obtain ⟨l,rfl,ht,hq⟩:=h;rw[show x5 ["_law_text","_law_lines_here","_law_head_here","_law_plan_here","_law_last","_law_at","_law_line","_law_words","_law_entry_here"] _=[.val _,.no,.no,.no,.no,.no,.no,.no,.no]from rfl];have htl:=ht.len;have fin:∀E:End2,E.rt=q→readT E [.val (txD l),.own ((i4 l).map txD),.no,.no,.no,.no,.no,.no,.no] δ:=fun E hE=>⟨l,rfl,ht,by rw[hE];exact hq⟩
  unfold txD at fin ⊢;walk_at "ds";rw[n0f,u0l,t0g,List.map_map,u4,u4];refine ⟨rfl,by omega,?_⟩;have hne:=v0y (c:=10) l;unfold i4 at fin;obtain ⟨ps,w,e⟩:∃ps w,n4 10 l=ps++[w]:=⟨(n4 10 l).dropLast,(n4 10 l).getLast hne,(List.dropLast_concat_getLast hne).symm⟩;rw[e]at fin ⊢;rw[List.getLast?_concat,List.dropLast_concat]at fin;rw[List.map_append];have hat:atI (List.map (D.str∘tx) ps++List.map (D.str∘tx) [w]) (-1)=some (.str (tx w)):=f0j;rw[hat];dsimp only;rw[p0l];by_cases hw:w=[]
  ·rw[if_pos (by rw[hw])]at fin;rw[decide_eq_true hw];simp only[if_true,List.map_cons,List.map_nil,List.getLast?_concat,List.dropLast_concat];exact fin _ rfl
  ·rw[if_neg (by simpa using hw)]at fin;rw[decide_eq_false hw];simp only[Bool.false_eq_true,if_false];rw[List.map_append]at fin;exact fin _ rfl
theorem z0i{c:Nat}:∀{l w:List Nat},w∈n4 c l→w.length≤l.length
 | [],w,h=>by rw[List.mem_singleton.mp h];exact Nat.le_refl _
 |a::l,w,h=>by
  unfold n4 at h;rw[List.length_cons];split at h
  ·rcases List.mem_cons.mp h with rfl |h
   ·exact Nat.zero_le _
   ·have:=z0i h;omega
  ·split at h
   ·rw[List.mem_singleton.mp h];simp
   ·rename_i u r e;rcases List.mem_cons.mp h with rfl |h
    ·have:=z0i (c:=c) (l:=l) (w:=u) (by rw[e];exact List.mem_cons_self ..);rw[List.length_cons];omega
    ·have:=z0i (c:=c) (l:=l) (w:=w) (by rw[e];exact List.mem_cons_of_mem _ h);omega
theorem v0o{l:List Nat}(h:l.length≤899):TxtOk l:=⟨by omega,by have:=a9 (c:=10) l;omega,fun p hp=>by have:=z0i hp;omega⟩
noncomputable def spPair:Sp2:=fun ds δ q _=>∃(P:List (List Int)) (f:Int),ds=[.tup [.tup (r0k P),.int f],.tup (r0k P),.int f]∧P.length≤24∧(∀c∈P,c.length≤900)∧q (.bl true) δ
theorem j0h:∀{c:List Int},zipD (c.map D.int) (c.map D.int)=c.map fun k=>D.tup [.int k,.int k]
 | []=>rfl
 |a::c=>by rw[List.map_cons,List.map_cons,← j0h];rfl
theorem j0g:∀{c:List Int},blsD (c.map fun _=>D.bl true)=some (c.map fun _=>true)
 | []=>rfl
 |a::c=>by rw[List.map_cons];unfold blsD;rw[j0g];rfl
theorem e0y{ws:List (List Nat)}{lo hi k:Int}{c:List Int}(h:b5 ws lo hi=some (k,c)):c.length≤ws.length:=by
 unfold b5 at h;split at h
 ·rename_i w x r;split at h
  ·split at h
   ·split at h
    ·cases h;simp
    ·cases h
   ·cases h
  ·cases h
 ·cases h
theorem j0f{f hi:Int}{m:Nat}:∀{rs:List (Int×List (List Nat))} {P P':List (List Int)} {free:Int},(∀p∈rs,p.2.length≤m)→(∀c∈P,c.length≤m)→v0s f hi rs P free=.inr P'→P'.length=P.length∧∀c∈P',c.length≤m
 | [],P,P',free,_,hp,h=>by cases h;exact ⟨rfl,hp⟩
 |(row,ws)::rs,P,P',free,hr,hp,h=>by
  rw[z0z]at h;cases e:b5 ws free hi with
  |none=>rw[e]at h;cases h
  |some kc=>
   obtain ⟨k,c⟩:=kc;rw[e]at h;have hc:=e0y e;have hw:=hr _ (List.mem_cons_self ..);obtain ⟨h1,h2⟩:=j0f (fun p hp'=>hr p (List.mem_cons_of_mem _ hp')) (fun y hy=>by
    rcases List.mem_or_eq_of_mem_set hy with hy |rfl
    ·exact hp y hy
    ·exact Nat.le_trans hc hw) h
   exact ⟨by rw[h1,List.length_set],h2⟩
theorem b0k{l:List Nat}(ht:TxtOk l){P:List (List Int)}{f:Int}(h:w6 l=.inr (P,f)):P.length≤24∧∀c∈P,c.length≤950:=by
 unfold w6 at h;split at h
 ·cases h
 ·have hr:=f0f ht;generalize z0d l=rs at h hr
  match rs,h,hr with
  | [],h,_=>cases h
  |(row,ws)::rest,h,hr=>
   rw[q8]at h;cases e:i9 ws with
   |none=>rw[e]at h;cases h
   |some nf=>
    obtain ⟨n,f1⟩:=nf;rw[e]at h;obtain ⟨n1,n2,_⟩:=f0e e;dsimp only at h;cases el:v0s f1 (f1+n-1) rest (List.replicate n.toNat []) f1 with
    |inl k=>rw[el]at h;cases h
    |inr P'=>
     rw[el]at h;cases h;obtain ⟨h1,h2⟩:=j0f (m:=950) (fun p hp=>(hr p (List.mem_cons_of_mem _ hp)).2.2) (fun c hc=>by rw[List.eq_of_mem_replicate hc];exact Nat.zero_le _) el;exact ⟨by rw[h1,List.length_replicate];omega,h2⟩
noncomputable def l0d:Sp2:=fun ds δ q _=>∃l,ds=[txD l]∧TxtOk l∧q (.bl true) δ
noncomputable def l0c:Sp2:=fun ds δ q _=>∃(P:List (List Int)) (f:Int),ds=[.tup [.tup (r0k P),.int f],.tup (r0k P),.int f]∧P.length≤24∧(∀c∈P,c.length≤950)∧q (.bl true) δ
noncomputable abbrev x0r:List Str:=["_law_found","_law_plan_here","_law_first"]
theorem sc_law_pair:FnScope ["_law_found","_law_plan_here","_law_first","_law_choice","_law_due"] x0r (defScope u0r):=⟨rfl,rfl,rfl,by decide +kernel,rfl,by decide +kernel,by decide +kernel⟩
noncomputable abbrev u0g(P:Program)(w:World)(K:PySem.W.Frag)(mg:Str→Option Value)(base:Heap)(cs:Cs):Prop:=Fun2 P w K mg base "_law_pair" 3 x0r l0c
theorem l0b{f:Addr}{fd:FuncData}(Df:DefAt K mg "_law_pair" u0r x0r f fd)(T:Txt K mg cs)(G_law_number:t9 P w K mg base cs):u0g P w K mg base cs:=by
 have nd:=sc_law_pair.nd;refine def2 Df sc_law_pair (fun ds δ q x h=>?_) (fun cdv A outer s H E Y hr=>⟨_,(u0 (y6 (PW2.pt (o9 (o8 (z9 (e2_b f6 (w0k (K:=K)) T.n_isinstance l5 (z0 (e2_v 0) (z0 (r0m "tuple" T.n_tuple a8) v0))))) (o9 (w4 (w0b hr.units0) p0v (w5 0 T.n_len) s0 (y4 _)) (a7 (o8 (z9 (u3 G_law_number (hr.mono (by decide)) o0 (z0 (p4 0 s0) (z0 (e2_v 2) v0))))))))) (o3 (a3 s0u)) p5)
  (u0 (y6 (PW2.pt (o9 (o8 (z9 (e2_b f6 (w0k (K:=K)) T.n_isinstance l5 (z0 (p4 0 s0) (z0 (r0m "tuple" T.n_tuple a8) v0))))) (a7 (w4 (w0b hr.units0) p0v (e2_b t0w d_len T.n_len r0a (z0 (p4 0 s0) v0)) (w5 1 T.n_len) (y4 _))))) (o3 (a3 s0u)) p5)
  (u0 (x0j PassesOwn.leaving rfl (a0c T.n_zip (z0 (p4 0 s0) (z0 (e2_v 1) v0))) (g9 rfl (j4 (x4 (i:=3) nd rfl (by first |exact Or.inl rfl |exact Or.inr rfl)) (j4 (x4 (i:=4) nd rfl (by first |exact Or.inl rfl |exact Or.inr rfl)) m7))) (w0f (is:=[3,4]) rfl) (u0 (y6 (PW2.pt (o9 (o8 (z9 (e2_b f6 (w0k (K:=K)) T.n_isinstance l5 (z0 (e2_v 3) (z0 (r0m "tuple" T.n_tuple a8) v0))))) (a7 (w4 (w0b hr.units0) p0v (w5 3 T.n_len) (w5 4 T.n_len) (y4 _))))) (o3 (a3 s0u)) p5)
  (o3 (y6 (o8 (z9 (e2_b (q0c rfl) y1k T.n_all g0y (z0 (y7 rfl (CompOkM.of ["_law_one","_law_other"] [] rfl) (a0c T.n_zip (z0 (e2_v 3) (z0 (e2_v 4) v0))) (fun nd _ _ _ _ _=>(g9 rfl (j4 (x4 (i:=0) nd rfl (by first |exact Or.inl rfl |exact Or.inr rfl)) (j4 (x4 (i:=1) nd rfl (by first |exact Or.inl rfl |exact Or.inr rfl)) m7)))) (p0w (is:=[0,1]) rfl) (fun _ _ _ _ _ _=>y0r) (fun _ _ _ _ _ _=>(u3 G_law_number (hr.mono (by decide)) s0r (z0 (e2_v 0) (z0 (e2_v 1) v0))))) v0)))) (o3 (a3 s0u)) p5))))
  (o3 (a3 s0u))))),fun ds δ q x h=>?_⟩)
 ·unfold l0c at h;obtain ⟨P,f',rfl,hl,hp,hq⟩:=h;rfl
 ·unfold l0c at h;obtain ⟨P,f',rfl,hl,hp,hq⟩:=h;rw[show x5 ["_law_found","_law_plan_here","_law_first","_law_choice","_law_due"] _=[.val _,.val _,.val _,.no,.no]from rfl];have tys:∀ys:List D,y0y K (.tup ys) (.ty "tuple")=some true∧TyD K (.tup ys):=fun ys=>⟨by rw[c0s K (d:=.tup ys) trivial (fun C fs=>⟨(by intro z;cases z),(by intro z;cases z)⟩)],trivial⟩
  unfold r0k;walk_at "dn";simp only[(tys _).1,(tys _).2,true_and,List.length_map,decide_true,Bool.not_true,Bool.false_eq_true,if_false,z0t,d9,numD];refine y0t (fun i ρ δ'=>∃c3 c4,ρ=[.val (.tup [.tup (P.map fun c=>.tup (c.map D.int)),.int f']),.val (.tup (P.map fun c=>.tup (c.map D.int))),.val (.int f'),c3,c4]∧δ'=δ) ⟨_,_,rfl,rfl⟩ ?_ ?_
  ·rintro i d ρ δ' rest hi ⟨c3,c4,rfl,rfl⟩ hrest;obtain ⟨a,b,h1,h2,rfl⟩:=j0x hi;rw[List.getElem?_map,Option.map_eq_some_iff]at h1 h2;obtain ⟨c,hc,rfl⟩:=h1;rw[hc]at h2;obtain ⟨c',hc',rfl⟩:=h2;cases hc';have hcl:=hp c (List.mem_of_getElem? hc);unfold w0e;walk_at "dn";simp only[(tys _).1,(tys _).2,true_and,List.length_map,decide_true,Bool.not_true,Bool.false_eq_true,if_false];rw[j0h];refine q0q (fun k=>D.tup [.int k,.int k]) (fun _=>.bl true) c (by omega) (fun n hn Q hQ=>⟨_,rfl,?_⟩) ?_
   ·simp only[capt,e9,List.map_cons,List.map_nil,List.cons_append,List.nil_append];walk_at "dn";simp only[z0t,d9,numD,true_and,decide_true];exact hQ
   ·rw[j0g];dsimp only;rw[if_neg (by simp)];exact hrest _ _ ⟨_,_,rfl,rfl⟩
  ·rintro ρ δ' ⟨c3,c4,rfl,rfl⟩;exact hq
noncomputable abbrev x0q:List Str:=["_law_text"]
theorem sc_law_same:FnScope ["_law_text","_law_word","_law_due"] x0q (defScope u0q):=⟨rfl,rfl,rfl,by decide +kernel,rfl,by decide +kernel,by decide +kernel⟩
noncomputable abbrev u0f(P:Program)(w:World)(K:PySem.W.Frag)(mg:Str→Option Value)(base:Heap)(cs:Cs):Prop:=Fun2 P w K mg base "_law_same" 10 x0q l0d
theorem l0a{f:Addr}{fd:FuncData}(Df:DefAt K mg "_law_same" u0q x0q f fd)(T:Txt K mg cs)(G_law_reading:z0j P w K mg base cs)(G_law_is:v0p P w K mg base cs)(G_law_told:z0y P w K mg base cs)(G_law_pair:u0g P w K mg base cs)(G_read_plan:z0m P w K mg base cs):u0f P w K mg base cs:=by
 have nd:=sc_law_same.nd;refine def2 Df sc_law_same (fun ds δ q x h=>?_) (fun cdv A outer s H E Y hr=>⟨_,(u0 (n0t (u3 G_law_reading (hr.mono (by decide)) o0 (z0 (e2_v 0) v0)) (g9 rfl (j4 (x4 (i:=1) nd rfl (by first |exact Or.inl rfl |exact Or.inr rfl)) (j4 (x4 (i:=2) nd rfl (by first |exact Or.inl rfl |exact Or.inr rfl)) m7))) (w0f (is:=[1,2]) rfl))
  (u0 (y6 (w4 (y0q hr.units0) s0l (e2_v 1) l0 (y4 _)) (o3 (a3 (u3 G_law_is (hr.mono (by decide)) o0 (z0 (e2_v 0) (z0 (e2_v 2) v0))))) p5)
  (o3 (a3 (w0l (q0y (y0q hr.units0) s0l (u3 G_law_told (hr.mono (by decide)) o0 (z0 (e2_v 0) v0)) (u6 (z0 l0 (z0 s0 v0))) (y4 _)) (q0x (u3 G_law_pair (hr.mono (by decide)) o0 (z0 (u3 G_read_plan (hr.mono (by decide)) o0 (z0 (e2_v 0) v0)) (z0 (p4 2 s0) (z0 (p4 2 s0) v0)))))))))),fun ds δ q x h=>?_⟩)
 ·unfold l0d at h;obtain ⟨l,rfl,ht,hq⟩:=h;rfl
 ·unfold l0d at h;obtain ⟨l,rfl,ht,hq⟩:=h;rw[show x5 ["_law_text","_law_word","_law_due"] _=[.val _,.no,.no]from rfl];walk_at "ds";refine ⟨l,rfl,ht,?_⟩;cases er:w6 l with
  |inl k=>
   unfold outD;walk_at "ds";refine ⟨_,k,rfl,.inl ⟨l,rfl,ht,?_⟩⟩;rw[er,show decide (r0u (.inl k)=some k)=true by simp[r0u]];exact hq
  |inr z=>
   obtain ⟨P,f1⟩:=z;obtain ⟨hl,hp⟩:=b0k ht er;unfold outD;walk_at "ds";rw[if_neg (by decide)];refine ⟨_,rfl,.inl ⟨l,rfl,ht,?_⟩⟩;rw[er];walk_at "ds";refine ⟨rfl,?_⟩;rw[if_pos (by simp[eqDs,eqV,toV])];refine ⟨_,rfl,.inl ⟨l,rfl,ht,?_⟩⟩;rw[er];unfold outP;walk_at "ds";exact ⟨P,f1,rfl,hl,hp,hq⟩
noncomputable def signsS:Str:=Str.ofString " !\"#$&'()*+,-./0123456789:;<=>?@ABCDEFGHIJKLMNOPQRSTUVWXYZ[\\]^_`abcdefghijklmnopqrstuvwxyz{|}~\n"
theorem m0y:(Str.ofString " !\"#$&'()*+,-./0123456789:;<=>?@ABCDEFGHIJKLMNOPQRSTUVWXYZ[\\]^_`abcdefghijklmnopqrstuvwxyz{|}~\n").length=95:=by decide +kernel
theorem w1u{l:List Nat}{k:Nat}:(cutN l none (some (k:Int))).length≤k:=by
 unfold cutN;rw[HT.sIx_none,HT.sIx_nat,List.length_take];omega
theorem e0x{l:List Nat}{k:Nat}:(cutN l (some (k:Int)) none).length≤l.length-k:=by
 unfold cutN;rw[HT.sIx_none,HT.sIx_nat,List.length_take,List.length_drop];omega
noncomputable def r0s:Sp2:=fun ds δ q _=>∃p ns n l,ds=[.ref p,txD l]∧DkAt p ns n δ∧n<2^21∧0<l.length∧l.length≤890∧∀l' δ',l'.length≤l.length+1→DkAt p ns (n+3) δ'→q (txD l') δ'
noncomputable abbrev q9:List Str:=["_law_deck_here","_law_text"]
theorem sc_law_signed:FnScope ["_law_deck_here","_law_text","_law_signs","_law_at","_law_sign","_law_kind"] q9 (defScope y0l):=⟨rfl,rfl,rfl,by decide +kernel,rfl,by decide +kernel,by decide +kernel⟩
noncomputable abbrev y0j(P:Program)(w:World)(K:PySem.W.Frag)(mg:Str→Option Value)(base:Heap)(cs:Cs):Prop:=Fun2 P w K mg base "_law_signed" 5 q9 r0s
theorem p0e{f:Addr}{fd:FuncData}(Df:DefAt K mg "_law_signed" y0l q9 f fd)(T:Txt K mg cs)(G_law_take:o6 P w K mg base cs):y0j P w K mg base cs:=by
 have nd:=sc_law_signed.nd;refine def2 Df sc_law_signed (fun ds δ q x h=>?_) (fun cdv A outer s H E Y hr=>⟨_,(u0 (v4 2 nd l0)
  (u0 (v4 3 nd (u3 G_law_take (hr.mono (by decide)) o0 (z0 (e2_v 0) (z0 (e2_b b8 j0p T.n_len r0a (z0 (e2_v 1) v0)) v0))))
  (u0 (v4 4 nd (m0i k0m x1i (e2_v 2) (u3 G_law_take (hr.mono (by decide)) o0 (z0 (e2_v 0) (z0 (e2_b b8 j0p T.n_len r0a (z0 (e2_v 2) v0)) v0)))))
  (u0 (v4 5 nd (u3 G_law_take (hr.mono (by decide)) o0 (z0 (e2_v 0) (z0 s0 v0))))
  (u0 (y6 (w4 (y0q hr.units0) s0l (e2_v 5) s0 (y4 _)) (o3 (a3 (y3 y0 n3 (y3 y0 n3 (e7 (e2_v 1) n8 (m8 (e2_v 3))) (e2_v 4)) (e7 (e2_v 1) (m8 (e2_v 3)) n8)))) p5)
  (u0 (y6 (w4 (y0q hr.units0) s0l (e2_v 5) s0 (y4 _)) (o3 (a3 (y3 y0 n3 (y3 y0 n3 (e7 (e2_v 1) n8 (m8 (e2_v 3))) (e2_v 4)) (e7 (e2_v 1) (m8 (y3 o4 o5 (e2_v 3) s0)) n8)))) p5)
  (o3 (a3 (y3 y0 n3 (e7 (e2_v 1) n8 (m8 (e2_v 3))) (e7 (e2_v 1) (m8 (y3 o4 o5 (e2_v 3) s0)) n8)))))))))),fun ds δ q x h=>?_⟩)
 ·unfold r0s at h;obtain ⟨p,ns,n,l,rfl,hD,hn,h0,hl,hq⟩:=h;rfl
 ·unfold r0s at h;obtain ⟨p,ns,n,l,rfl,hD,hn,h0,hl,hq⟩:=h;rw[show x5 ["_law_deck_here","_law_text","_law_signs","_law_at","_law_sign","_law_kind"] _=[.val _,.val _,.no,.no,.no,.no]from rfl];have e0:txD l=.str (tx l):=rfl;rw[e0];walk_at "dn";rw[m0y,u4];refine ⟨by omega,p,ns,_,_,rfl,hD,by omega,by omega,by omega,fun a δ1 a1 a2 hD=>?_⟩;obtain ⟨k,rfl⟩:∃k:Nat,a=(k:Int):=⟨a.toNat,by omega⟩;refine ⟨by decide,p,ns,_,_,rfl,hD,by omega,by decide,by decide,fun b δ2 b1 b2 hD=>?_⟩;obtain ⟨j,rfl⟩:∃k:Nat,b=(k:Int):=⟨b.toNat,by omega⟩;have hj:j<95:=by omega
  dsimp only;have hsl:=m0y;generalize Str.ofString " !\"#$&'()*+,-./0123456789:;<=>?@ABCDEFGHIJKLMNOPQRSTUVWXYZ[\\]^_`abcdefghijklmnopqrstuvwxyz{|}~\n"=sg at hsl ⊢;have hsz:sg.cps.toList.length=95:=by rw[←hsl];simp[Str.length]
  have hat:atI sg.cps.toList (j:Int)=some (sg.cps.toList[j]'(by omega)):=z0c (List.getElem?_eq_getElem (by omega));rw[hat];generalize sg.cps.toList[j]'(by omega)=c;refine ⟨by omega,p,ns,_,3,rfl,hD,by omega,by decide,by decide,fun d δ3 d1 d2 hD=>?_⟩;dsimp only;have x1:=w1u (l:=l) (k:=k);have x2:=e0x (l:=l) (k:=k);have x3:=e0x (l:=l) (k:=k+1);have ek:(k:Int)+1=((k+1:Nat):Int):=rfl;have ec:(⟨#[c]⟩:Str)=tx [c]:=rfl;rw[v0x,v0x,ek,v0x,ec];have hc1:([c]:List Nat).length=1:=rfl;split
  ·rw[u7,u7,u4,u4,u4,u4,List.length_append];exact ⟨by omega,by omega,by omega,by omega,hq _ _ (by rw[List.length_append,List.length_append];omega) hD⟩
  ·split
   ·rw[u7,u7,u4,u4,u4,u4,List.length_append];exact ⟨by omega,by omega,by omega,by omega,hq _ _ (by rw[List.length_append,List.length_append];omega) hD⟩
   ·rw[u7,u4,u4];exact ⟨by omega,by omega,by omega,hq _ _ (by rw[List.length_append];omega) hD⟩
theorem m0x:∀{ps:List (List Nat)},u5 [] ps=ps.flatten
 | []=>rfl
 | [a]=>by show a=_;simp
 |a::b::r=>by
  show a++([]++u5 [] (b::r))=_;rw[m0x,List.nil_append];rfl
theorem z0x{s:List Nat}{m:Nat}:∀{ps:List (List Nat)},(∀p∈ps,p.length≤m)→(u5 s ps).length≤ps.length*(m+s.length)
 | [],_=>Nat.zero_le _
 | [a],h=>by
  have:=h a (List.mem_singleton.mpr rfl);show a.length≤1*(m+s.length);omega
 |a::b::r,h=>by
  have h1:=h a (List.mem_cons_self ..);have h2:=z0x (s:=s) (ps:=b::r) fun p hp=>h p (List.mem_cons_of_mem _ hp)
  show (a++(s++u5 s (b::r))).length≤_;rw[List.length_append,List.length_append,List.length_cons,Nat.add_mul,Nat.one_mul];omega
noncomputable def feed(ls:List (List Nat)):List Nat:=(ls.map fun l=>l++[10]).flatten
theorem u0e:∀{ps:List (List Nat)},(∀p∈ps,10∉p)→n4 10 (feed ps)=ps++[[]]
 | [],_=>rfl
 |p::ps,h=>by
  have e:feed (p::ps)=p++10::feed ps:=by unfold feed;rw[List.map_cons,List.flatten_cons,List.append_assoc];rfl
  rw[e,r8,t6 (h p (List.mem_cons_self ..)),u0e fun q hq=>h q (List.mem_cons_of_mem _ hq)];rfl
theorem m0w{ps:List (List Nat)}{p:List Nat}:feed (ps++[p])=feed ps++p++[10]:=by
 unfold feed;rw[List.map_append,List.flatten_append,List.append_assoc];simp
theorem j0e{m:Nat}:∀{ps:List (List Nat)},(∀p∈ps,p.length≤m)→(feed ps).length≤ps.length*(m+1)
 | [],_=>Nat.zero_le _
 |p::ps,h=>by
  have e:feed (p::ps)=p++10::feed ps:=by unfold feed;rw[List.map_cons,List.flatten_cons,List.append_assoc];rfl
  have h1:=h p (List.mem_cons_self ..);have h2:=j0e fun q hq=>h q (List.mem_cons_of_mem _ hq)
  rw[e,List.length_append,List.length_cons,List.length_cons,Nat.add_mul,Nat.one_mul];omega
theorem p0d{n c:Nat}(h:c≠32):c∉List.replicate n 32:=fun z=>h (List.eq_of_mem_replicate z)
theorem j0d:∀{c:List Int} {m:Int},risI c=true→(∀k∈c,k<m)→risI (c++[m])=true
 | [],m,_,_=>rfl
 | [a],m,_,h=>by
  show (decide (a<m)&&risI [m])=true;rw[decide_eq_true (h a (by simp))];rfl
 |a::b::r,m,hr,h=>by
  have hr':(decide (a<b)&&risI (b::r))=true:=hr;rw[Bool.and_eq_true]at hr';show (decide (a<b)&&risI ((b::r)++[m]))=true;rw[hr'.1,j0d hr'.2 fun k hk=>h k (List.mem_cons_of_mem _ hk)];rfl
theorem atL{xs:List D}{k:Int}(h0:0≤k)(h1:k<(xs.length:Int)):∃z,atI xs k=some z∧z∈xs:=by
 have hz:k=((k.toNat:Nat):Int):=by omega
 rw[hz];exact ⟨_,z0c (List.getElem?_eq_getElem (show k.toNat<xs.length by omega)),List.getElem_mem _⟩
noncomputable def ChOk(m:Int)(c:List Int):Prop:=(∀k∈c,0≤k∧k<m)∧risI c=true∧(c.length:Int)≤m
theorem k0z{tc:TT2}{js:List Nat}{ρ:En}{q:List D→Dk→Prop}{m:Nat}{δ:Dk}(I:Nat→Dk→Prop)(hm:m≤900)(h0:I 0 δ)
 (step:∀(i:Nat) (δ':Dk),i<m→I i δ'→∀Q:Bool→En→Dk→Prop,(∀b ρ1 δ1,ρ1[0]?=some (.val (.int (i:Int)))→I (i+1) δ1→Q b ρ1 δ1)→tc (fun _ _ _ _=>False) (.val (.int (i:Int))::capt ρ js) δ' Q)
 (fin:∀c δ',ChOk (m:Int) c→I m δ'→q (c.map D.int) δ'):compM false 1 tc (t2V 0) js ρ q (rngD 0 m) [] δ:=by
 refine j0v (fun i acc δ'=>∃c:List Int,acc=c.map D.int∧risI c=true∧(∀k∈c,0≤k∧k<(i:Int))∧c.length≤i∧I i δ') ⟨[],rfl,rfl,fun x hx=>(by cases hx),Nat.le_refl _,h0⟩ ?_ ?_
 ·rintro i d acc δ' rest hi ⟨c,rfl,c1,c2,c3,hI⟩ hrest;obtain ⟨hi2,rfl⟩:=y9 hi;rw[Int.zero_add];show tc _ (.val (.int (i:Int))::capt ρ js) δ' _;refine step i δ' hi2 hI _ fun b ρ1 δ1 hρ hI1=>?_
  cases b with
  |false=>exact hrest _ _ ⟨c,rfl,c1,fun k hk=>⟨(c2 k hk).1,by have:=(c2 k hk).2;omega⟩,by omega,hI1⟩
  |true=>
   rw[if_pos rfl];simp only[t2V,rdV,hρ];refine ⟨by rw[List.length_map];omega,hrest _ _ ⟨c++[(i:Int)],by rw[List.map_append];rfl,j0d c1 fun k hk=>(c2 k hk).2,fun k hk=>?_,by rw[List.length_append];show c.length+1≤_;omega,hI1⟩⟩;rcases List.mem_append.mp hk with hk |hk
   ·exact ⟨(c2 k hk).1,by have:=(c2 k hk).2;omega⟩
   ·rw[List.mem_singleton.mp hk];omega
 ·rintro acc δ' ⟨c,rfl,c1,c2,c3,hI⟩;rw[w8]at c2 c3 hI;exact fin c δ' ⟨c2,c1,by omega⟩ hI
theorem DkAt.mono{p:Addr}{ns:List Int}{n m:Nat}{δ:Dk}(h:DkAt p ns n δ)(l:n≤m):DkAt p ns m δ:=by
 obtain ⟨c,k,e,h1,h2,h3⟩:=h;exact ⟨c,k,e,h1,h2,by omega⟩
structure PlanOk(P:List (List Int)):Prop where
 l:P.length≤24
 c:∀c∈P,ChOk 4 c
theorem r0r(n:Nat):m3 (List.replicate n 32)=[]:=by have:=q0l n [];rwa[List.nil_append,b9]at this
theorem i0i{ls:List (List Nat)}(h:∀p∈ls,m3 p=[])(k:Int):f8 k ls=[]:=by
 induction ls generalizing k with
 |nil=>rfl
 |cons a ls ih=>rw[i7,if_pos (h a (List.mem_cons_self ..))];exact ih (fun p hp=>h p (List.mem_cons_of_mem _ hp)) _
theorem q0j{l:List Nat}(h:∀p∈i4 l,m3 p=[]):w6 l=.inl (((i4 l).length:Int)+1):=by
 rw[m0z];unfold goR;rw[i0i h,if_pos rfl]
theorem u0d{ps:List (List Nat)}(h:∀p∈ps,10∉p):i4 (feed ps)=ps:=by
 unfold i4;rw[u0e h,List.getLast?_concat,if_pos rfl,List.dropLast_concat]
theorem i0h{ps:List (List Nat)}{w:List Nat}(h:∀p∈ps,10∉p)(hw:10∉w)(h0:w≠[]):i4 (feed ps++w)=ps++[w]:=by
 have e:n4 10 (feed ps++w)=ps++[w]:=by
  induction ps with
  |nil=>exact t6 hw
  |cons p ps ih=>
   have ef:feed (p::ps)++w=p++10::(feed ps++w):=by unfold feed;rw[List.map_cons,List.flatten_cons,List.append_assoc,List.append_assoc];rfl
   rw[ef,r8,t6 (h p (List.mem_cons_self ..)),ih fun q hq=>h q (List.mem_cons_of_mem _ hq)];rfl
 unfold i4;rw[e,List.getLast?_concat,if_neg (by simpa using h0)]
noncomputable def e0w:Sp2:=fun ds δ q _=>∃p ns n,ds=[.ref p]∧DkAt p ns n δ∧n<2^20∧∀ δ',DkAt p ns (n+8) δ'→q (.bl true) δ'
theorem no_non:noTx .non:=fun K=>⟨trivial,by unfold y0y PySem.W.kitOne;rfl⟩
theorem z1t{i:Int}:noTx (.int i):=fun K=>⟨trivial,by unfold y0y PySem.W.kitOne;rfl⟩
theorem no_bl{b:Bool}:noTx (.bl b):=fun K=>⟨trivial,by unfold y0y PySem.W.kitOne;rfl⟩
theorem no_lst{xs:List D}:noTx (.lst xs):=fun K=>⟨trivial,by unfold y0y PySem.W.kitOne;rfl⟩
theorem z1s{xs:List D}:noTx (.tup xs):=fun K=>⟨trivial,by unfold y0y PySem.W.kitOne;rfl⟩
theorem no_dic:noTx (.dic []):=fun K=>⟨trivial,by unfold y0y PySem.W.kitOne;rfl⟩
noncomputable abbrev x0p:List Str:=["_law_deck_here"]
theorem sc_law_none:FnScope ["_law_deck_here","_law_many","_law_text","_law_thing"] x0p (defScope u0p):=⟨rfl,rfl,rfl,by decide +kernel,rfl,by decide +kernel,by decide +kernel⟩
noncomputable abbrev u0c(P:Program)(w:World)(K:PySem.W.Frag)(mg:Str→Option Value)(base:Heap)(cs:Cs):Prop:=Fun2 P w K mg base "_law_none" 10 x0p e0w
theorem k0y{f:Addr}{fd:FuncData}(Df:DefAt K mg "_law_none" u0p x0p f fd)(T:Txt K mg cs)(G_law_take:o6 P w K mg base cs)(G_law_is:v0p P w K mg base cs):u0c P w K mg base cs:=by
 have nd:=sc_law_none.nd;refine def2 Df sc_law_none (fun ds δ q x h=>?_) (fun cdv A outer s H E Y hr=>⟨_,(u0 (v4 1 nd (u3 G_law_take (hr.mono (by decide)) o0 (z0 (e2_v 0) (z0 s0 v0))))
  (u0 (v4 2 nd (n0n PySem.F.slot_str_join PySem.F.type_str_join s0j n0m l0 (z0 (y7 rfl (CompOkM.of ["_law_turn"] [0] rfl) (y0v T.n_range (z0 (e2_v 1) v0)) (fun nd _ _ _ _ _=>(x4 (i:=0) nd rfl (by first |exact Or.inl rfl |exact Or.inr rfl))) z7 (fun _ _ _ _ _ _=>y0r) (fun _ _ _ _ _ _=>(y3 y0 n3 (y3 y0e j0r l0 (u3 G_law_take (hr.mono (by decide)) s0r (z0 (e2_v 1) (z0 s0 v0)))) l0))) v0)))
  (u0 (v4 3 nd (m0i o0l d_ix (l6 (z0 z6 (z0 s0 (z0 s0u (z0 (l6 (z0 l0 v0)) (z0 y1a (z0 (u6 v0) (z0 (y3 a0w d_pow s0 s0) (z0 (u6 (z0 l0 v0)) v0))))))))) (u3 G_law_take (hr.mono (by decide)) o0 (z0 (e2_v 0) (z0 s0 v0)))))
  (o3 (a3 (w0l (u3 G_law_is (hr.mono (by decide)) o0 (z0 (e2_v 2) (z0 (y3 o4 o5 (e2_v 1) s0) v0))) (w0l (u3 G_law_is (hr.mono (by decide)) o0 (z0 (y3 y0 n3 (e2_v 2) l0) (z0 (y3 o4 o5 (e2_v 1) s0) v0))) (w0l (u3 G_law_is (hr.mono (by decide)) o0 (z0 (e2_v 3) (z0 s0 v0))) (q0x (u3 G_law_is (hr.mono (by decide)) o0 (z0 l0 (z0 s0 v0)))))))))))),fun ds δ q x h=>?_⟩)
 ·unfold e0w at h;obtain ⟨p,ns,n,rfl,hD,hn,hq⟩:=h;rfl
 ·unfold e0w at h;obtain ⟨p,ns,n,rfl,hD,hn,hq⟩:=h;rw[show x5 ["_law_deck_here","_law_many","_law_text","_law_thing"] _=[.val _,.no,.no,.no]from rfl];walk_at "ds";refine ⟨p,ns,_,4,rfl,hD,by omega,by decide,by decide,fun m δ1 m1 m2 hD=>?_⟩;walk_at "ds";refine ⟨⟨by omega,by omega⟩,?_⟩;refine p0x (fun i acc δ'=>∃ps:List (List Nat),acc=(ps.map fun l=>l++[10]).map txD∧ps.length=i∧(∀l∈ps,∃k,k<2∧l=List.replicate k 32)∧DkAt p ns (n+1+i) δ') ⟨[],rfl,rfl,fun x hx=>(by cases hx),hD⟩ ?_ ?_
  ·rintro i d acc δ' rest hi ⟨ps,rfl,hpl,hps,hD⟩ hrest;have hlt:=(List.getElem?_eq_some_iff.mp hi).1;rw[w8]at hlt;simp only[capt,e9,List.map_cons,List.map_nil,List.getElem?_cons_zero,List.getElem?_cons_succ];walk_at "ds";refine ⟨p,ns,_,2,rfl,hD,by omega,by decide,by decide,fun b δ2 b1 b2 hD=>?_⟩;walk_at "ds";rw[w0t,n0f,j0m b1,u7,u4,u4,List.length_replicate];refine ⟨b1,by omega,by decide,by show _+1≤_;omega,by rw[List.length_map,List.length_map];omega,?_⟩;refine hrest _ _ ⟨ps++[List.replicate b.toNat 32],by rw[List.map_append,List.map_append];rfl,by rw[List.length_append,hpl];rfl,fun l hl=>?_,hD⟩;rcases List.mem_append.mp hl with hl |hl
   ·exact hps l hl
   ·exact ⟨b.toNat,by omega,List.mem_singleton.mp hl⟩
  ·rintro acc δ' ⟨ps,rfl,hpl,hps,hD⟩;rw[w8]at hpl hD;rw[f0i];dsimp only;have h10:∀l∈ps,10∉l:=fun l hl=>by obtain ⟨k,_,rfl⟩:=hps l hl;exact p0d (by decide)
   have hbl:∀l∈ps,m3 l=[]:=fun l hl=>by obtain ⟨k,_,rfl⟩:=hps l hl;exact r0r k
   have hsh:∀l∈ps,l.length≤1:=fun l hl=>by obtain ⟨k,hk,rfl⟩:=hps l hl;rw[List.length_replicate];omega
   have hfl:=j0e hsh;have hsum:=p0j (ps:=ps.map fun l=>l++[10]) (m:=2) (fun x hx=>by obtain ⟨l,hl,rfl⟩:=List.mem_map.mp hx;have:=hsh l hl;rw[List.length_append,List.length_singleton];omega);rw[List.length_map]at hsum;rw[u0l,s0b,m0x,show (ps.map fun l=>l++[10]).flatten=feed ps from rfl,u4,List.length_map,List.length_map];refine ⟨by decide,by omega,by unfold CPow;decide,?_⟩;refine ⟨p,ns,_,8,rfl,hD,by omega,by decide,by decide,fun b δ2 b1 b2 hD=>?_⟩;obtain ⟨z,ez,hz⟩:=atL (xs:=[D.non,D.int 3,D.bl true,D.lst [D.str (Str.ofString "rounds 0 from 0")],D.dic [],D.tup [],D.int (10^(30:Int).toNat),D.tup [D.str (Str.ofString "rounds 0 from 0")]]) b1 (by simpa using b2);have hno:noTx z:=by
    simp only[List.mem_cons,List.not_mem_nil,or_false]at hz;rcases hz with rfl |rfl |rfl |rfl |rfl |rfl |rfl |rfl
    ·exact no_non
    ·exact z1t
    ·exact no_bl
    ·exact no_lst
    ·exact no_dic
    ·exact z1s
    ·exact z1t
    ·exact z1s
   walk_at "ds";rw[ez];walk_at "ds";have ok:∀l:List Nat,l.length≤899→∀due:Int,w6 l=.inl due→∀(Q:D→Dk→Prop) x,Q (.bl true) δ2→f0b [txD l,.int due] δ2 Q x:=fun l hl due e Q x h=>by
    refine ⟨_,due,rfl,.inl ⟨l,rfl,v0o hl,?_⟩⟩;rw[e,show decide (r0u (.inl due)=some due)=true by simp[r0u]];exact h
   have r1:w6 (feed ps)=.inl (m+1):=by
    rw[q0j (by rw[u0d h10];exact hbl),u0d h10,hpl];exact congrArg Sum.inl (by omega)
   have l2:=i0h (w:=[32]) h10 (by decide) (by decide);have r2:w6 (feed ps++[32])=.inl (m+2):=by
    rw[q0j (by
     rw[l2];intro y hy;rcases List.mem_append.mp hy with hy |hy
     ·exact hbl y hy
     ·rw[List.mem_singleton.mp hy];exact r0r 1),l2,List.length_append,hpl]
    exact congrArg Sum.inl (by show ((m.toNat+1:Nat):Int)+1=_;omega)
   have r3:w6 []=.inl 1:=rfl;refine ok (feed ps) (by omega) _ r1 _ _ ?_;walk_at "ds";rw[w0t,u7,u4,u4];refine ⟨by show _+1≤_;omega,?_⟩;refine ok (feed ps++[32]) (by rw[List.length_append];show _+1≤_;omega) _ r2 _ _ ?_;walk_at "ds";refine ⟨z,0,rfl,.inr ⟨hno,?_⟩⟩;walk_at "ds";refine ok [] (by decide) _ r3 _ _ ?_;walk_at "ds";exact hq _ (hD.mono (by omega))
noncomputable def i5:List (List Int)→Int→List (Int×List Int)
 | [],_=>[]
 |c::P,r=>if c=[]then i5 P (r+1)else (r,c)::i5 P (r+1)
theorem e8{c:List Int}{P:List (List Int)}{r:Int}:i5 (c::P) r=if c=[]then i5 P (r+1)else (r,c)::i5 P (r+1):=rfl
noncomputable def e0v(n f:Int):List Nat:=rT++[32]++dig n.toNat++(32::(fT++[32]))++dig f.toNat
noncomputable def entT(e:Int×List Int):List Nat:=dig e.1.toNat++[58,32]++u5 [32] (j9 e.2)
noncomputable def m6(P:List (List Int))(f:Int):List (List Nat):=e0v (P.length:Int) f::(i5 P f).map entT
noncomputable def rowT(b:Bool)(c:List Int):D:=if b=true then .lst (c.map D.int)else .tup (c.map D.int)
theorem b0j{A B:List (List Int)}{f:Int}:i5 (A++B) f=i5 A f++i5 B (f+(A.length:Int)):=by
 induction A generalizing f with
 |nil=>simp[i5]
 |cons a A ih=>
  rw[List.cons_append,e8,e8,ih,List.length_cons,show f+1+(A.length:Int)=f+((A.length+1:Nat):Int)by omega];split<;>rfl
theorem e0u{P:List (List Int)}{i:Nat}{c:List Int}{f:Int}(h:P[i]?=some c):i5 (P.take (i+1)) f=i5 (P.take i) f++if c=[]then []else [(f+(i:Int),c)]:=by
 have hi:=(List.getElem?_eq_some_iff.mp h).1;rw[List.take_succ,h,Option.toList_some,b0j,e8,List.length_take,Nat.min_eq_left (by omega)];rfl
theorem v0n{P:List (List Int)}{f:Int}:(i5 P f).length≤P.length:=by
 induction P generalizing f with
 |nil=>exact Nat.le_refl _
 |cons a A ih=>
  have:=ih (f:=f+1);rw[e8];split
  ·rw[List.length_cons];omega
  ·rw[List.length_cons,List.length_cons];omega
theorem r0q{P:List (List Int)}{f:Int}{e:Int×List Int}(h:e∈i5 P f):e.2∈P∧e.2≠[]∧f≤e.1∧e.1<f+(P.length:Int):=by
 induction P generalizing f with
 |nil=>cases h
 |cons a A ih=>
  rw[e8]at h;rw[List.length_cons];split at h
  ·obtain ⟨h1,h2,h3,h4⟩:=ih h;exact ⟨List.mem_cons_of_mem _ h1,h2,by omega,by omega⟩
  ·rename_i z;cases h with
   |head=>exact ⟨List.mem_cons_self ..,z,by show f≤f;omega,by show f<_;omega⟩
   |tail _ h=>
    obtain ⟨h1,h2,h3,h4⟩:=ih h;exact ⟨List.mem_cons_of_mem _ h1,h2,by omega,by omega⟩
noncomputable def w1t:Sp2:=fun ds δ q _=>∃p ns n,ds=[.ref p]∧DkAt p ns n δ∧n<2^20∧∀P δ',PlanOk P→(∃c∈P,c≠[])→DkAt p ns (n+200) δ'→q (.lst (P.map (rowT true))) δ'
noncomputable def p0c:Sp2:=fun ds δ q _=>∃P f,ds=[.lst (P.map (rowT true)),.int f]∧PlanOk P∧0≤f∧f≤47∧q (.lst ((m6 P f).map txD)) δ
theorem ch_one{i:Int}(h1:0≤i)(h2:i<4):ChOk 4 [i]:=⟨fun k hk=>by rw[List.mem_singleton.mp hk];exact ⟨h1,h2⟩,rfl,by show (1:Int)≤4;decide⟩
noncomputable def p0b:Sp2:=fun ds δ q _=>∃p ns n,∃(ls:List (List Nat)) (M:Nat),ds=[.ref p,.lst (ls.map txD)]∧DkAt p ns n δ∧n<2^21∧ls.length≤25∧M≤40∧(∀l∈ls,l.length≤M∧10∉l∧m3 l≠[])∧
 ∀(rs:List (List Nat)) (pl:List Int) δ',(feed rs).length≤ls.length*(M+5)→rs.length≤50→(∀r∈rs,r.length≤41∧10∉r)→pl.length=ls.length→f8 1 rs=pl.zip (ls.map m3)→DkAt p ns (n+80) δ'→q (.tup [.lst (rs.map txD),.lst (pl.map D.int)]) δ'
theorem q0i:∀(n:Nat) (a:List Nat),m3 (List.replicate n 32++a)=m3 a
 | 0,a=>rfl
 |n+1,a=>by
  have:=q0m [] (List.replicate n 32++a);rw[List.replicate_succ,List.cons_append];rw[List.nil_append,b9,List.nil_append]at this;rw[this,q0i n a]
theorem r0p{as bs:List (List Nat)}{k:Int}:f8 k (as++bs)=f8 k as++f8 (k+(as.length:Int)) bs:=by
 induction as generalizing k with
 |nil=>simp[f8,v0u]
 |cons a as ih=>
  rw[List.cons_append,i7,i7,ih,List.length_cons,show k+1+(as.length:Int)=k+((as.length+1:Nat):Int)by omega];split<;>rfl
noncomputable abbrev x0o:List Str:=["_law_deck_here"]
theorem sc_law_plan:FnScope ["_law_deck_here","_law_found","_law_turn"] x0o (defScope u0u):=⟨rfl,rfl,rfl,by decide +kernel,rfl,by decide +kernel,by decide +kernel⟩
noncomputable abbrev u0b(P:Program)(w:World)(K:PySem.W.Frag)(mg:Str→Option Value)(base:Heap)(cs:Cs):Prop:=Fun2 P w K mg base "_law_plan" 5 x0o w1t
theorem k0x{f:Addr}{fd:FuncData}(Df:DefAt K mg "_law_plan" u0u x0o f fd)(T:Txt K mg cs)(G_law_take:o6 P w K mg base cs):u0b P w K mg base cs:=by
 have nd:=sc_law_plan.nd;refine def2 Df sc_law_plan (fun ds δ q x h=>?_) (fun cdv A outer s H E Y hr=>⟨_,(u0 (o0a 1 nd v0)
  (u0 (x0j PassesOwn.leaving rfl (y0v T.n_range (z0 (y3 o4 o5 s0 (u3 G_law_take (hr.mono (by decide)) o0 (z0 (e2_v 0) (z0 s0 v0)))) v0)) (x4 (i:=2) nd rfl (by first |exact Or.inl rfl |exact Or.inr rfl)) (v0f (i:=2)) (o3 (y0x (g0p 1 PySem.F.slot_list_append PySem.F.type_list_append z0b w0j (z0 (y7 rfl (CompOkM.of ["_law_number_here"] [0] rfl) (y0v T.n_range (z0 s0 v0)) (fun nd _ _ _ _ _=>(x4 (i:=0) nd rfl (by first |exact Or.inl rfl |exact Or.inr rfl))) z7 (fun _ _ _ _ _ _=>(x0c (w4 (y0q hr.units0) s0l (u3 G_law_take (hr.mono (by decide)) s0r (z0 (e2_v 1) (z0 s0 v0))) s0 (y4 _)))) (fun _ _ _ _ _ _=>(e2_v 0))) v0)))))
  (u0 (y0w 1 (u3 G_law_take (hr.mono (by decide)) o0 (z0 (e2_v 0) (z0 (w5 1 T.n_len) v0))) (l6 (z0 (u3 G_law_take (hr.mono (by decide)) o0 (z0 (e2_v 0) (z0 s0 v0))) v0)))
  (o3 (a3 (e2_v 1)))))),fun ds δ q x h=>?_⟩)
 ·unfold w1t at h;obtain ⟨p,ns,n,rfl,hD,hn,hq⟩:=h;rfl
 ·unfold w1t at h;obtain ⟨p,ns,n,rfl,hD,hn,hq⟩:=h;rw[show x5 ["_law_deck_here","_law_found","_law_turn"] _=[.val _,.no,.no]from rfl];walk_at "dn";refine ⟨p,ns,_,24,rfl,hD,by omega,by decide,by decide,fun r δ3 r1 r2 hD=>?_⟩;dsimp only;refine ⟨⟨by omega,by omega⟩,?_⟩;refine y0t (fun i ρ δ1=>∃(P:List (List Int)) (c2:Cell),ρ=[.val (.ref p),.own (P.map (rowT true)),c2]∧P.length=i∧(∀c∈P,ChOk 4 c)∧DkAt p ns (n+1+4*i) δ1) ⟨[],_,rfl,rfl,fun c hc=>(by cases hc),hD⟩ ?_ ?_
  ·rintro i z ρ δ1 rest hi ⟨P,c2,rfl,rfl,hcs,hD⟩ hrest;obtain ⟨hi2,rfl⟩:=y9 hi;rw[Int.zero_add];unfold w0e;walk_at "dn";refine ⟨rfl,⟨by decide,by decide⟩,?_⟩;refine k0z (m:=4) (fun i δ'=>DkAt p ns (n+1+4*P.length+i) δ') (by omega) hD (fun i δ' hi hD Q hQ=>?_) (fun c δ' hc hD=>?_)
   ·simp only[capt,e9,List.map_cons,List.map_nil,List.getElem?_cons_zero,List.getElem?_cons_succ];walk_at "dn";refine ⟨p,ns,_,3,rfl,hD,by omega,by decide,by decide,fun b0 δ2 b1 b2 hD=>?_⟩;exact hQ _ _ _ rfl hD
   ·refine ⟨by rw[List.length_map];omega,hrest _ _ ⟨P++[c],_,by rw[List.map_append];rfl,by rw[List.length_append];rfl,fun c' hc'=>?_,hD.mono (by omega)⟩⟩;rcases List.mem_append.mp hc' with hc' |hc'
    ·exact hcs c' hc'
    ·rw[List.mem_singleton.mp hc'];exact hc
  ·rintro ρ δ1 ⟨P,c2,rfl,hl,hcs,hD⟩;rw[w8]at hl hD;walk_at "dn";rw[List.length_map];refine ⟨p,ns,_,4,rfl,hD,by omega,by decide,by decide,fun a δ2 a1 a2 hD=>?_⟩;refine ⟨p,ns,_,_,rfl,hD,by omega,by omega,by omega,fun b δ3 b1 b2 hD=>?_⟩;obtain ⟨k,rfl⟩:∃k:Nat,b=(k:Int):=⟨b.toNat,by omega⟩;have hix:ixN (P.map (rowT true)).length (k:Int)=some k:=by
    unfold ixN;rw[List.length_map,if_pos (by omega),if_pos (by omega)];exact congrArg some (by omega)
   dsimp only;rw[hix];show q (.lst ((P.map (rowT true)).set k (.lst [.int a]))) δ3;have e:(P.map (rowT true)).set k (.lst [.int a])=(P.set k [a]).map (rowT true):=by rw[List.map_set];rfl
   rw[e];refine hq _ _ ⟨by rw[List.length_set];omega,fun c hc=>?_⟩ ⟨[a],List.mem_of_getElem? (List.getElem?_set_self (by omega)),by simp⟩ (hD.mono (by omega));rcases List.mem_or_eq_of_mem_set hc with hc |rfl
   ·exact hcs c hc
   ·exact ch_one a1 a2
noncomputable abbrev z0h:List Str:=["_law_plan_here","_law_first"]
theorem sc_law_lines:FnScope ["_law_plan_here","_law_first","_law_found","_law_at","_law_choice"] z0h (defScope w0x):=⟨rfl,rfl,rfl,by decide +kernel,rfl,by decide +kernel,by decide +kernel⟩
noncomputable abbrev w0r(P:Program)(w:World)(K:PySem.W.Frag)(mg:Str→Option Value)(base:Heap)(cs:Cs):Prop:=Fun2 P w K mg base "_law_lines" 2 z0h p0c
theorem m0v{f:Addr}{fd:FuncData}(Df:DefAt K mg "_law_lines" w0x z0h f fd)(T:Txt K mg cs):w0r P w K mg base cs:=by
 have nd:=sc_law_lines.nd;refine def2 Df sc_law_lines (fun ds δ q x h=>?_) (fun cdv A outer s H E Y hr=>⟨_,(u0 (o0a 2 nd (z0 (y3 y0 n3 (y3 y0 n3 (y3 y0 n3 l0 (n9 z5 v0d T.n_str v9 (z0 (w5 0 T.n_len) v0))) l0) (n9 z5 v0d T.n_str v9 (z0 (e2_v 1) v0))) v0))
  (u0 (x0j PassesOwn.leaving rfl (m0d T.n_enumerate (z0 (e2_v 0) v0)) (g9 rfl (j4 (x4 (i:=3) nd rfl (by first |exact Or.inl rfl |exact Or.inr rfl)) (j4 (x4 (i:=4) nd rfl (by first |exact Or.inl rfl |exact Or.inr rfl)) m7))) (w0f (is:=[3,4]) rfl) (o3 (y6 (w4 (j0t hr.units0) c0c (e2_v 4) (l6 v0) (y4 _)) (o3 (y0x (g0p 2 PySem.F.slot_list_append PySem.F.type_list_append z0b w0j (z0 (y3 y0 n3 (y3 y0 n3 (n9 z5 v0d T.n_str v9 (z0 (y3 o4 o5 (e2_v 1) (e2_v 3)) v0)) l0) (n0n PySem.F.slot_str_join PySem.F.type_str_join s0j n0m l0 (z0 (y7 rfl (CompOkM.of ["_law_number_here"] [] rfl) (w0h (e2_v 4)) (fun nd _ _ _ _ _=>(x4 (i:=0) nd rfl (by first |exact Or.inl rfl |exact Or.inr rfl))) z7 (fun _ _ _ _ _ _=>y0r) (fun _ _ _ _ _ _=>(n9 z5 v0d T.n_str v9 (z0 (e2_v 0) v0)))) v0))) v0)))) p5)))
  (o3 (a3 (e2_v 2))))),fun ds δ q x h=>?_⟩)
 ·unfold p0c at h;obtain ⟨P,f',rfl,hp,f1,f2,hq⟩:=h;rfl
 ·unfold p0c at h;obtain ⟨P,f',rfl,hp,f1,f2,hq⟩:=h;rw[show x5 ["_law_plan_here","_law_first","_law_found","_law_at","_law_choice"] _=[.val _,.val _,.no,.no,.no]from rfl];have hpl:=hp.l;walk_at "dn";rw[List.length_map,f0k,x1b,x0h (i:=(P.length:Int)) (by omega) (by omega),x0h f1 (by omega),u7,u7,u7];have d1:=m5 (n:=((P.length:Int)).toNat);have d2:=m5 (n:=f'.toNat);have r6:rT.length=6:=rfl;have r4:fT.length=4:=rfl;have s1:([32]:List Nat).length=1:=rfl;refine ⟨h8 (by omega) (by omega),by simp only[u4,List.length_append,List.length_cons,List.length_nil];omega,by simp only[u4,List.length_append,List.length_cons,List.length_nil];omega,h8 f1 (by omega),by simp only[u4,List.length_append,List.length_cons,List.length_nil];omega,?_⟩;refine z1z (rowT true) P (fun i ρ δ'=>∃c3 c4,ρ=[.val (.lst (P.map (rowT true))),.val (.int f'),.own ((e0v (P.length:Int) f'::(i5 (P.take i) f').map entT).map txD),c3,c4]∧δ'=δ) ⟨_,_,rfl,rfl⟩ ?_ ?_
  ·rintro i c ρ δ' rest hc ⟨c3,c4,rfl,rfl⟩ hrest;have hlt:=(List.getElem?_eq_some_iff.mp hc).1;have hco:=hp.c c (List.mem_of_getElem? hc);have hcl:=hco.2.2;have hel:=v0n (P:=P.take i) (f:=f');rw[List.length_take,Nat.min_eq_left (by omega)]at hel;have hsn:=e0u (f:=f') hc;have hrt:rowT true c=.lst (c.map D.int):=rfl;rw[hrt];unfold w0e;walk_at "dn";refine ⟨by rw[Bool.and_eq_true];exact ⟨List.all_eq_true.mpr (fun d hd=>by obtain ⟨z,_,rfl⟩:=List.mem_map.mp hd;rfl),rfl⟩,?_⟩;by_cases z:c=[]
   ·rw[if_pos z,List.append_nil]at hsn;subst z;exact hrest _ _ ⟨_,_,by rw[hsn];rfl,rfl⟩
   ·rw[if_neg z]at hsn;obtain ⟨c1,cr,ec⟩:∃c1 cr,c=c1::cr:=by cases c with |nil=>exact absurd rfl z |cons a b=>exact ⟨a,b,rfl⟩
    have ez:(!eqDs (List.map D.int c) [])=true:=by rw[ec];rfl
    rw[if_pos ez];have h1:=x0h (i:=f'+(i:Int)) (by omega) (by omega);have hdl:=m5 (n:=(f'+(i:Int)).toNat);rw[h1,b0q,u7];refine ⟨rfl,h8 (by omega) (by omega),by rw[u4,u4];show _+2≤_;omega,?_⟩;refine v0c D.int (fun n=>txD (dig n.toNat)) c (by omega) (fun n hn Q hQ=>?_) ?_
    ·obtain ⟨n1,n2⟩:=hco.1 n hn;simp only[capt,e9,List.map_cons,List.map_nil];walk_at "dn";refine ⟨h8 n1 (by omega),?_⟩;have e:(Str.ofString (toString n))=tx (dig n.toNat):=x0h n1 (by omega);rw[e];exact hQ
    ·have en:c.map (fun n=>txD (dig n.toNat))=(j9 c).map txD:=by unfold j9;rw[List.map_map];rfl
     rw[en,f0i];dsimp only;have hs:=p0j (ps:=j9 c) (m:=2) (fun p hp=>by obtain ⟨n,_,rfl⟩:=List.mem_map.mp hp;exact m5);have hnl:(j9 c).length=c.length:=List.length_map ..;have hj:=z0x (s:=[32]) (ps:=j9 c) (m:=2) (fun p hp=>by obtain ⟨n,_,rfl⟩:=List.mem_map.mp hp;exact m5);rw[hnl]at hj;have hj3:(u5 [32] (j9 c)).length≤c.length*3:=hj;rw[w0t,s0b,u7,u4,u4,List.length_append,List.length_map];exact ⟨by decide,by omega,by rw[u4];show _+2+_≤_;omega,by rw[List.length_map,List.length_map];omega,hrest _ _ ⟨_,_,(by rw[hsn,List.map_append,List.map_cons,List.map_append];rfl),rfl⟩⟩
  ·rintro ρ δ' ⟨c3,c4,rfl,rfl⟩;rw[List.take_length];exact hq
noncomputable abbrev p9:List Str:=["_law_deck_here","_law_lines_here"]
theorem sc_law_spaced:FnScope ["_law_deck_here","_law_lines_here","_law_found","_law_places","_law_line","_law_turn"] p9 (defScope y0m):=⟨rfl,rfl,rfl,by decide +kernel,rfl,by decide +kernel,by decide +kernel⟩
noncomputable abbrev y0i(P:Program)(w:World)(K:PySem.W.Frag)(mg:Str→Option Value)(base:Heap)(cs:Cs):Prop:=Fun2 P w K mg base "_law_spaced" 5 p9 p0b
theorem p0a{f:Addr}{fd:FuncData}(Df:DefAt K mg "_law_spaced" y0m p9 f fd)(T:Txt K mg cs)(G_law_take:o6 P w K mg base cs):y0i P w K mg base cs:=by
 have nd:=sc_law_spaced.nd;refine def2 Df sc_law_spaced (fun ds δ q x h=>?_) (fun cdv A outer s H E Y hr=>⟨_,(u0 (o0a 2 nd v0)
  (u0 (o0a 3 nd v0)
  (u0 (x0j PassesOwn.leaving rfl (w0h (e2_v 1)) (x4 (i:=4) nd rfl (by first |exact Or.inl rfl |exact Or.inr rfl)) (v0f (i:=4)) (u0 (x0j PassesOwn.leaving rfl (y0v T.n_range (z0 (y3 m0o g0s (u3 G_law_take (hr.mono (by decide)) o0 (z0 (e2_v 0) (z0 s0 v0))) s0) v0)) (x4 (i:=5) nd rfl (by first |exact Or.inl rfl |exact Or.inr rfl)) (v0f (i:=5)) (o3 (y0x (g0p 2 PySem.F.slot_list_append PySem.F.type_list_append z0b w0j (z0 (y3 y0e j0r l0 (u3 G_law_take (hr.mono (by decide)) o0 (z0 (e2_v 0) (z0 s0 v0)))) v0)))))
  (u0 (y0x (g0p 3 PySem.F.slot_list_append PySem.F.type_list_append z0b w0j (z0 (y3 o4 o5 (w5 2 T.n_len) s0) v0)))
  (o3 (y0x (g0p 2 PySem.F.slot_list_append PySem.F.type_list_append z0b w0j (z0 (y3 y0 n3 (y3 y0e j0r l0 (u3 G_law_take (hr.mono (by decide)) o0 (z0 (e2_v 0) (z0 s0 v0)))) (e2_v 4)) v0)))))))
  (o3 (a3 (u6 (z0 (e2_v 2) (z0 (e2_v 3) v0)))))))),fun ds δ q x h=>?_⟩)
 ·unfold p0b at h;obtain ⟨p,ns,n,ls,M,rfl,hD,hn,hl,hM,hls,hq⟩:=h;rfl
 ·unfold p0b at h;obtain ⟨p,ns,n,ls,M,rfl,hD,hn,hl,hM,hls,hq⟩:=h;rw[show x5 ["_law_deck_here","_law_lines_here","_law_found","_law_places","_law_line","_law_turn"] _=[.val _,.val _,.no,.no,.no,.no]from rfl];walk_at "dn";refine a0a txD ls (fun i ρ δ'=>∃rs pl c4 c5,ρ=[.val (.ref p),.val (.lst (ls.map txD)),.own (rs.map txD),.own (pl.map D.int),c4,c5]∧DkAt p ns (n+3*i) δ'∧(feed rs).length≤i*(M+5)∧rs.length≤2*i∧(∀r∈rs,r.length≤41∧10∉r)∧pl.length=i∧f8 1 rs=pl.zip ((ls.take i).map m3)) ⟨[],[],_,_,rfl,hD,Nat.zero_le _,Nat.le_refl _,fun r hr=>(by cases hr),rfl,rfl⟩ ?_ ?_
  ·rintro i l ρ δ' rest hi ⟨rs,pl,c4,c5,rfl,hD,hfd,hrl,hrs,hpl,hrow⟩ hrest;have hlt:=(List.getElem?_eq_some_iff.mp hi).1;obtain ⟨l1,l2,l3⟩:=hls l (List.mem_of_getElem? hi);have e0:txD l=.str (tx l):=rfl;unfold w0e;rw[e0];walk_at "dn";refine ⟨p,ns,_,3,rfl,hD,by omega,by decide,by decide,fun b δ1 b1 b2 hD=>?_⟩;dsimp only;refine ⟨by unfold CDiv;omega,⟨by omega,by omega⟩,?_⟩;have hb:(b/2).toNat≤1:=by omega
   refine y0t (fun j ρ δ'=>∃rs c5,ρ=[.val (.ref p),.val (.lst (ls.map txD)),.own (rs.map txD),.own (pl.map D.int),.val (.str (tx l)),c5]∧DkAt p ns (n+3*i+1+j) δ'∧(feed rs).length≤i*(M+5)+3*j∧rs.length≤2*i+j∧(∀r∈rs,r.length≤41∧10∉r)∧f8 1 rs=pl.zip ((ls.take i).map m3)) ⟨rs,_,rfl,hD,hfd,hrl,hrs,hrow⟩ ?_ ?_
   ·rintro j d ρ δ2 rest' hj ⟨rs,c5,rfl,hD,hfd,hrl,hrs,hrow⟩ hrest';obtain ⟨hj2,rfl⟩:=y9 hj;unfold w0e;walk_at "dn";refine ⟨rfl,p,ns,_,3,rfl,hD,by omega,by decide,by decide,fun a δ3 a1 a2 hD=>?_⟩;dsimp only;rw[w0t,j0m a1];refine ⟨a1,by omega,by decide,by rw[List.length_map];omega,?_⟩;refine hrest' _ _ ⟨rs++[List.replicate a.toNat 32],_,by rw[List.map_append];rfl,hD,by rw[m0w,List.length_append,List.length_append,List.length_replicate];show _+_+1≤_;omega,by rw[List.length_append];show _+1≤_;omega,fun r hr=>?_,?_⟩
    ·rcases List.mem_append.mp hr with hr |hr
     ·exact hrs r hr
     ·rw[List.mem_singleton.mp hr,List.length_replicate];exact ⟨by omega,p0d (by decide)⟩
    ·rw[r0p,hrow,i7,if_pos (r0r _)];show _++[]=_;rw[List.append_nil]
   ·rintro ρ δ2 ⟨rs,c5,rfl,hD,hfd,hrl,hrs,hrow⟩;rw[w8]at hfd hrl hD;walk_at "dn";rw[List.length_map,List.length_map];refine ⟨rfl,by omega,rfl,p,ns,_,2,rfl,hD,by omega,by decide,by decide,fun a δ3 a1 a2 hD=>?_⟩;dsimp only;rw[w0t,j0m a1,u7];refine ⟨a1,by omega,by decide,by simp only[u4,List.length_replicate];omega,by omega,?_⟩;have hx:10∉List.replicate a.toNat 32++l:=fun z=>by
     rcases List.mem_append.mp z with z |z
     ·exact p0d (by decide) z
     ·exact l2 z
    refine hrest _ _ ⟨rs++[List.replicate a.toNat 32++l],pl++[(rs.length:Int)+1],_,_,by rw[List.map_append,List.map_append];rfl,hD.mono (by omega),by rw[m0w,List.length_append,List.length_append,List.length_append,List.length_replicate,Nat.add_mul,Nat.one_mul];show _+_+1≤_;omega,by rw[List.length_append];show _+1≤_;omega,fun r hr=>?_,by rw[List.length_append,hpl];rfl,?_⟩
    ·rcases List.mem_append.mp hr with hr |hr
     ·exact hrs r hr
     ·rw[List.mem_singleton.mp hr];exact ⟨by rw[List.length_append,List.length_replicate];omega,hx⟩
    ·rw[r0p,hrow,i7,q0i,if_neg l3,List.take_succ,hi,List.map_append,List.zip_append (by rw[List.length_map,List.length_take];omega)];rw[Int.add_comm];rfl
  ·rintro ρ δ' ⟨rs,pl,c4,c5,rfl,hD,hfd,hrl,hrs,hpl,hrow⟩;rw[List.take_length]at hrow;walk_at "dn";exact hq rs pl _ hfd (by omega) hrs hpl hrow (hD.mono (by omega))
theorem lt_0:Str.ofString " from"=tx [32,102,114,111,109]:=by decide +kernel
theorem lt_1:Str.ofString " 0"=tx [32,48]:=by decide +kernel
theorem lt_2:Str.ofString "rounds "=tx [114,111,117,110,100,115,32]:=by decide +kernel
theorem lt_3:Str.ofString " from "=tx [32,102,114,111,109,32]:=by decide +kernel
theorem lt_4:Str.ofString "rounds 25 from "=tx [114,111,117,110,100,115,32,50,53,32,102,114,111,109,32]:=by decide +kernel
theorem lt_5:Str.ofString " from 48"=tx [32,102,114,111,109,32,52,56]:=by decide +kernel
theorem lt_6:Str.ofString "rounds -1 from "=tx [114,111,117,110,100,115,32,45,49,32,102,114,111,109,32]:=by decide +kernel
theorem lt_7:Str.ofString "rounds 1_2 from "=tx [114,111,117,110,100,115,32,49,95,50,32,102,114,111,109,32]:=by decide +kernel
theorem lt_8:Str.ofString " from 1_2"=tx [32,102,114,111,109,32,49,95,50]:=by decide +kernel
theorem lt_9:Str.ofString ": 0"=tx [58,32,48]:=by decide +kernel
theorem lt_10:Str.ofString "rounds 999999999999999999999 from "=tx [114,111,117,110,100,115,32,57,57,57,57,57,57,57,57,57,57,57,57,57,57,57,57,57,57,57,57,57,32,102,114,111,109,32]:=by decide +kernel
theorem lt_11:Str.ofString "rounds a from "=tx [114,111,117,110,100,115,32,97,32,102,114,111,109,32]:=by decide +kernel
theorem lt_12:Str.ofString "rounds 0"=tx [114,111,117,110,100,115,32,48]:=by decide +kernel
theorem lt_13:Str.ofString " to "=tx [32,116,111,32]:=by decide +kernel
theorem lt_14:Str.ofString ": "=tx [58,32]:=by decide +kernel
theorem lt_15:Str.ofString " from 0"=tx [32,102,114,111,109,32,48]:=by decide +kernel
theorem lt_16:Str.ofString " "=tx [32]:=by decide +kernel
theorem lt_17:Str.ofString " from -"=tx [32,102,114,111,109,32,45]:=by decide +kernel
theorem lt_18:Str.ofString "rounds +"=tx [114,111,117,110,100,115,32,43]:=by decide +kernel
theorem lt_19:Str.ofString "Rounds "=tx [82,111,117,110,100,115,32]:=by decide +kernel
theorem lt_20:Str.ofString "rounds"=tx [114,111,117,110,100,115]:=by decide +kernel
theorem lt_21:Str.ofString "rounds from "=tx [114,111,117,110,100,115,32,102,114,111,109,32]:=by decide +kernel
noncomputable def x0g(n f:List Nat):List (List (List Nat)):=[[rT,n,fT],[rT,n,fT,f,[48]],[rT,48::n,fT,f],[rT,[50,53],fT,f],[rT,n,fT,[52,56]],[rT,[45,49],fT,f],[rT,n,[116,111],f],[rT,43::n,fT,f],[[82,111,117,110,100,115],n,fT,f],[n,fT,f],[rT,n++[58],f],[rT,[49,95,50],fT,f],[rT,n,fT,[49,95,50]],[rT,n,fT,48::f],[rT++n,fT,f],[rT,fT,n,f],[f++[58],[48]],[rT,[57,57,57,57,57,57,57,57,57,57,57,57,57,57,57,57,57,57,57,57,57],fT,f],[rT,n,fT,45::f],[rT,[97],fT,f]]
noncomputable def k0w:Sp2:=fun ds δ q _=>∃p ns k,∃n f:Int,ds=[.ref p,.int n,.int f]∧DkAt p ns k δ∧k<2^21∧1≤n∧n≤24∧0≤f∧f≤47∧∀ws δ',ws∈x0g (dig n.toNat) (dig f.toNat)→DkAt p ns (k+1) δ'→q (txD (u5 [32] ws)) δ'
noncomputable abbrev x0n:List Str:=["_law_deck_here","_law_many","_law_first"]
theorem sc_law_head:FnScope ["_law_deck_here","_law_many","_law_first","_law_n","_law_f","_law_rows"] x0n (defScope u0t):=⟨rfl,rfl,rfl,by decide +kernel,rfl,by decide +kernel,by decide +kernel⟩
noncomputable abbrev u0a(P:Program)(w:World)(K:PySem.W.Frag)(mg:Str→Option Value)(base:Heap)(cs:Cs):Prop:=Fun2 P w K mg base "_law_head" 5 x0n k0w
theorem k0v{f:Addr}{fd:FuncData}(Df:DefAt K mg "_law_head" u0t x0n f fd)(T:Txt K mg cs)(G_law_take:o6 P w K mg base cs):u0a P w K mg base cs:=by
 have nd:=sc_law_head.nd;refine def2 Df sc_law_head (fun ds δ q x h=>?_) (fun cdv A outer s H E Y hr=>⟨_,(u0 (v4 3 nd (n9 z5 v0d T.n_str v9 (z0 (e2_v 1) v0)))
  (u0 (v4 4 nd (n9 z5 v0d T.n_str v9 (z0 (e2_v 2) v0)))
  (u0 (v4 5 nd (l6 (z0 (y3 y0 n3 (y3 y0 n3 l0 (e2_v 3)) l0) (z0 (y3 y0 n3 (y3 y0 n3 (y3 y0 n3 (y3 y0 n3 l0 (e2_v 3)) l0) (e2_v 4)) l0) (z0 (y3 y0 n3 (y3 y0 n3 (y3 y0 n3 l0 (e2_v 3)) l0) (e2_v 4)) v0)))))
  (u0 (v4 5 nd (y3 o4 o5 (e2_v 5) (l6 (z0 (y3 y0 n3 l0 (e2_v 4)) (z0 (y3 y0 n3 (y3 y0 n3 l0 (e2_v 3)) l0) (z0 (y3 y0 n3 l0 (e2_v 4)) (z0 (y3 y0 n3 (y3 y0 n3 (y3 y0 n3 l0 (e2_v 3)) l0) (e2_v 4)) v0)))))))
  (u0 (v4 5 nd (y3 o4 o5 (e2_v 5) (l6 (z0 (y3 y0 n3 (y3 y0 n3 (y3 y0 n3 l0 (e2_v 3)) l0) (e2_v 4)) (z0 (y3 y0 n3 (y3 y0 n3 (y3 y0 n3 l0 (e2_v 3)) l0) (e2_v 4)) (z0 (y3 y0 n3 (y3 y0 n3 (e2_v 3) l0) (e2_v 4)) v0))))))
  (u0 (v4 5 nd (y3 o4 o5 (e2_v 5) (l6 (z0 (y3 y0 n3 (y3 y0 n3 (y3 y0 n3 l0 (e2_v 3)) l0) (e2_v 4)) (z0 (y3 y0 n3 l0 (e2_v 4)) (z0 (y3 y0 n3 (y3 y0 n3 l0 (e2_v 3)) l0) v0))))))
  (u0 (v4 5 nd (y3 o4 o5 (e2_v 5) (l6 (z0 (y3 y0 n3 (y3 y0 n3 (y3 y0 n3 l0 (e2_v 3)) l0) (e2_v 4)) (z0 (y3 y0 n3 (y3 y0 n3 (y3 y0 n3 l0 (e2_v 3)) l0) (e2_v 4)) (z0 (y3 y0 n3 (y3 y0 n3 (y3 y0 n3 l0 (e2_v 3)) l0) (e2_v 4)) (z0 (y3 y0 n3 (e2_v 4) l0) v0)))))))
  (u0 (v4 5 nd (y3 o4 o5 (e2_v 5) (l6 (z0 (y3 y0 n3 l0 (e2_v 4)) (z0 (y3 y0 n3 (y3 y0 n3 (y3 y0 n3 l0 (e2_v 3)) l0) (e2_v 4)) (z0 (y3 y0 n3 l0 (e2_v 4)) v0))))))
  (o3 (a3 (p4 5 (u3 G_law_take (hr.mono (by decide)) o0 (z0 (e2_v 0) (z0 (w5 5 T.n_len) v0)))))))))))))),fun ds δ q x h=>?_⟩)
 ·unfold k0w at h;obtain ⟨p,ns,k,n,f1,rfl,hD,hk,n1,n2,f2,f3,hq⟩:=h;rfl
 ·unfold k0w at h;obtain ⟨p,ns,k,n,f1,rfl,hD,hk,n1,n2,f2,f3,hq⟩:=h;rw[show x5 ["_law_deck_here","_law_many","_law_first","_law_n","_law_f","_law_rows"] _=[.val _,.val _,.val _,.no,.no,.no]from rfl];have d1:=m5 (n:=n.toNat);have d2:=m5 (n:=f1.toNat);walk_at "dn";rw[x0h (i:=n) (by omega) (by omega),x0h (i:=f1) (by omega) (by omega)];simp only[lt_0,lt_1,lt_10,lt_11,lt_12,lt_13,lt_14,lt_15,lt_16,lt_17,lt_18,lt_19,lt_2,lt_20,lt_21,lt_3,lt_4,lt_5,lt_6,lt_7,lt_8,lt_9,u7];refine ⟨h8 (by omega) (by omega),h8 (by omega) (by omega),?_⟩;simp only[u4,List.length_append,List.length_cons,List.length_nil]
  repeat (with_reducible refine ⟨by omega,?_⟩)
  refine ⟨p,ns,_,_,rfl,hD,by omega,by decide,by decide,fun a δ2 a1 a2 hD=>?_⟩;dsimp only;have key:∀(xs:List D),xs=(x0g (dig n.toNat) (dig f1.toNat)).map (fun ws=>txD (u5 [32] ws))→∀(Q:D→Prop),(∀ws∈x0g (dig n.toNat) (dig f1.toNat),Q (txD (u5 [32] ws)))→(match atI xs a with |some e=>Q e |none=>False):=fun xs e Q h=>by
   rw[e];obtain ⟨z,ez,hz⟩:=atL (xs:=(x0g (dig n.toNat) (dig f1.toNat)).map (fun ws=>txD (u5 [32] ws))) a1 (by rw[List.length_map];exact a2);rw[ez];obtain ⟨ws,hws,rfl⟩:=List.mem_map.mp hz;exact h ws hws
  refine key _ ?_ (fun d=>q d δ2) fun ws hws=>hq ws δ2 hws hD
  unfold x0g rT fT;simp[u5,txD]
theorem lt_22:Str.ofString ":"=tx [58]:=by decide +kernel
theorem lt_23:Str.ofString ":0"=tx [58,48]:=by decide +kernel
theorem lt_24:Str.ofString " : 0"=tx [32,58,32,48]:=by decide +kernel
theorem lt_25:Str.ofString ": 4"=tx [58,32,52]:=by decide +kernel
theorem lt_26:Str.ofString ": 1 0"=tx [58,32,49,32,48]:=by decide +kernel
theorem lt_27:Str.ofString "a: 0"=tx [97,58,32,48]:=by decide +kernel
theorem lt_28:Str.ofString "1_2: 0"=tx [49,95,50,58,32,48]:=by decide +kernel
theorem lt_29:Str.ofString "0"=tx [48]:=by decide +kernel
theorem lt_30:Str.ofString "+"=tx [43]:=by decide +kernel
theorem lt_31:Str.ofString ": 2 2"=tx [58,32,50,32,50]:=by decide +kernel
theorem lt_32:Str.ofString ": 00"=tx [58,32,48,48]:=by decide +kernel
theorem lt_33:Str.ofString ": -1"=tx [58,32,45,49]:=by decide +kernel
theorem lt_34:Str.ofString ": a"=tx [58,32,97]:=by decide +kernel
theorem lt_35:Str.ofString ": 0,1"=tx [58,32,48,44,49]:=by decide +kernel
theorem lt_36:Str.ofString ":: 0"=tx [58,58,32,48]:=by decide +kernel
theorem lt_37:Str.ofString ": 1"=tx [58,32,49]:=by decide +kernel
theorem lt_38:Str.ofString ": 0 :"=tx [58,32,48,32,58]:=by decide +kernel
theorem lt_39:Str.ofString ": 0 1 2 3 3"=tx [58,32,48,32,49,32,50,32,51,32,51]:=by decide +kernel
theorem lt_40:Str.ofString ": 12"=tx [58,32,49,50]:=by decide +kernel
theorem lt_41:Str.ofString ": 1_2"=tx [58,32,49,95,50]:=by decide +kernel
theorem lt_42:Str.ofString ": 0_1"=tx [58,32,48,95,49]:=by decide +kernel
theorem lt_43:Str.ofString "-"=tx [45]:=by decide +kernel
noncomputable def r0i(n m f a b e:List Nat):List (List (List Nat)):=[[n++[58]],[n,[48]],[n++[58,48]],[n,[58],[48]],[48::(n++[58]),[48]],[43::(n++[58]),[48]],[n++[58],[52]],[n++[58],[49],[48]],[n++[58],[50],[50]],[n++[58],[48,48]],[n++[58],[45,49]],[n++[58],[97]],[n++[58],[48,44,49]],[[58],[48]],[n++[58,58],[48]],[[58]],[n],[[97,58],[48]],[a++[58],[48]],[b++[58],[48]],[e++[58],[49]],[n++[58],[48],[58]],[rT,m,fT,f],[n++[58],[48],[49],[50],[51],[51]],[n++[58],[49,50]]]
noncomputable def r0h(n:List Nat):List (List (List Nat)):=[[45::(n++[58]),[48]],[[49,95,50,58],[48]],[n++[58],[49,95,50]],[n++[58],[48,95,49]]]
noncomputable def sD(v:Int):List Nat:=if v<0 then [45,49]else if v<100 then dig v.toNat else [49,48+(v.toNat-100)/10,48+v.toNat%10]
theorem sD_all:∀k:Fin 113,Str.ofString (toString ((k.val:Int)-1))=tx (sD ((k.val:Int)-1)):=by decide +kernel
theorem w1s{v:Int}(h1:-1≤v)(h2:v≤111):Str.ofString (toString v)=tx (sD v):=by
 have:=sD_all ⟨(v+1).toNat,by omega⟩;rw[show (((v+1).toNat:Nat):Int)-1=v by omega]at this;exact this
theorem q0h{v:Int}:(sD v).length≤3:=by
 unfold sD;split
 ·decide
 ·split
  ·exact Nat.le_trans m5 (by decide)
  ·exact Nat.le_refl _
theorem w1r{a:Int}(h:a.natAbs<1000):a.natAbs.log2<1920:=Nat.lt_of_le_of_lt (Nat.log2_le_self _) (by omega)
noncomputable def e0t:Sp2:=fun ds δ q _=>∃p ns k,∃(m f N:Int) (bf:List Nat),ds=[.ref p,.int m,.int f,txD bf,.int N]∧DkAt p ns k δ∧k<2^21∧1≤m∧m≤24∧0≤f∧f≤47∧0≤N∧N<100∧
 ∀t δ',(t=bf∨∃ws,(ws∈r0i (dig N.toNat) (dig m.toNat) (dig f.toNat) (sD (f+m)) (sD (f-1)) (sD (f+m+40))∨ws∈r0h (dig N.toNat))∧t=u5 [32] ws)→DkAt p ns (k+1) δ'→q (txD t) δ'
noncomputable abbrev z0g:List Str:=["_law_deck_here","_law_many","_law_first","_law_before","_law_number_here"]
theorem sc_law_entry:FnScope ["_law_deck_here","_law_many","_law_first","_law_before","_law_number_here","_law_n","_law_rows"] z0g (defScope w0w):=⟨rfl,rfl,rfl,by decide +kernel,rfl,by decide +kernel,by decide +kernel⟩
noncomputable abbrev w0q(P:Program)(w:World)(K:PySem.W.Frag)(mg:Str→Option Value)(base:Heap)(cs:Cs):Prop:=Fun2 P w K mg base "_law_entry" 5 z0g e0t
theorem m0u{f:Addr}{fd:FuncData}(Df:DefAt K mg "_law_entry" w0w z0g f fd)(T:Txt K mg cs)(G_law_take:o6 P w K mg base cs):w0q P w K mg base cs:=by
 have nd:=sc_law_entry.nd;refine def2 Df sc_law_entry (fun ds δ q x h=>?_) (fun cdv A outer s H E Y hr=>⟨_,(u0 (v4 5 nd (n9 z5 v0d T.n_str v9 (z0 (e2_v 4) v0)))
  (u0 (v4 6 nd (l6 (z0 (y3 y0 n3 (e2_v 5) l0) (z0 (y3 y0 n3 (e2_v 5) l0) (z0 (y3 y0 n3 (e2_v 5) l0) (z0 (y3 y0 n3 (e2_v 5) l0) (z0 (y3 y0 n3 (y3 y0 n3 l0 (e2_v 5)) l0) (z0 (y3 y0 n3 (y3 y0 n3 l0 (e2_v 5)) l0) (z0 (y3 y0 n3 (e2_v 5) l0) (z0 (y3 y0 n3 (e2_v 5) l0) v0))))))))))
  (u0 (v4 6 nd (y3 o4 o5 (e2_v 6) (l6 (z0 (y3 y0 n3 (e2_v 5) l0) (z0 (y3 y0 n3 (e2_v 5) l0) (z0 (y3 y0 n3 (e2_v 5) l0) (z0 (y3 y0 n3 (e2_v 5) l0) (z0 (y3 y0 n3 (e2_v 5) l0) (z0 l0 (z0 (y3 y0 n3 (e2_v 5) l0) (z0 l0 (z0 (e2_v 5) (z0 l0 v0)))))))))))))
  (u0 (v4 6 nd (y3 o4 o5 (e2_v 6) (l6 (z0 (y3 y0 n3 (n9 z5 v0d T.n_str v9 (z0 (y3 o4 o5 (e2_v 2) (e2_v 1)) v0)) l0) (z0 (y3 y0 n3 (n9 z5 v0d T.n_str v9 (z0 (y3 f9 v0g (e2_v 2) s0) v0)) l0) (z0 (y3 y0 n3 (n9 z5 v0d T.n_str v9 (z0 (y3 o4 o5 (y3 o4 o5 (e2_v 2) (e2_v 1)) s0) v0)) l0) (z0 (y3 y0 n3 (e2_v 5) l0) v0)))))))
  (u0 (v4 6 nd (y3 o4 o5 (e2_v 6) (l6 (z0 (y3 y0 n3 (y3 y0 n3 (y3 y0 n3 l0 (n9 z5 v0d T.n_str v9 (z0 (e2_v 1) v0))) l0) (n9 z5 v0d T.n_str v9 (z0 (e2_v 2) v0))) (z0 (y3 y0 n3 (e2_v 5) l0) (z0 (y3 y0 n3 (e2_v 5) l0) (z0 (e2_v 3) v0)))))))
  (u0 (v4 6 nd (y3 o4 o5 (e2_v 6) (l6 (z0 (y3 y0 n3 (y3 y0 n3 l0 (e2_v 5)) l0) (z0 l0 (z0 (y3 y0 n3 (e2_v 5) l0) (z0 (y3 y0 n3 (e2_v 5) l0) v0)))))))
  (o3 (a3 (p4 6 (u3 G_law_take (hr.mono (by decide)) o0 (z0 (e2_v 0) (z0 (w5 6 T.n_len) v0)))))))))))),fun ds δ q x h=>?_⟩)
 ·unfold e0t at h;obtain ⟨p,ns,k,m,f1,N,bf,rfl,hD,hk,m1,m2,f2,f3,N1,N2,hq⟩:=h;rfl
 ·unfold e0t at h;obtain ⟨p,ns,k,m,f1,N,bf,rfl,hD,hk,m1,m2,f2,f3,N1,N2,hq⟩:=h;rw[show x5 ["_law_deck_here","_law_many","_law_first","_law_before","_law_number_here","_law_n","_law_rows"] _=[.val _,.val _,.val _,.val _,.val _,.no,.no]from rfl];have d1:=m5 (n:=N.toNat);have d2:=m5 (n:=f1.toNat);have d3:=m5 (n:=m.toNat);have d4:=q0h (v:=f1+m);have d5:=q0h (v:=f1-1);have d6:=q0h (v:=f1+m+40);walk_at "dn";rw[x0h (i:=N) (by omega) (by omega),x0h (i:=m) (by omega) (by omega),x0h (i:=f1) (by omega) (by omega),w1s (v:=f1+m) (by omega) (by omega),w1s (v:=f1-1) (by omega) (by omega),w1s (v:=f1+m+40) (by omega) (by omega)];simp only[lt_1,lt_2,lt_22,lt_23,lt_24,lt_25,lt_26,lt_27,lt_28,lt_29,lt_3,lt_30,lt_31,lt_32,lt_33,lt_34,lt_35,lt_36,lt_37,lt_38,lt_39,lt_40,lt_41,lt_42,lt_43,lt_9,u7];simp only[u4,List.length_append,List.length_cons,List.length_nil]
  repeat (with_reducible refine ⟨by first |omega |exact w1r (by omega),?_⟩)
  refine ⟨p,ns,_,_,rfl,hD,by omega,by decide,by decide,fun a δ2 a1 a2 hD=>?_⟩;dsimp only;have key:∀(xs:List D),xs=(r0i (dig N.toNat) (dig m.toNat) (dig f1.toNat) (sD (f1+m)) (sD (f1-1)) (sD (f1+m+40))).map (fun ws=>txD (u5 [32] ws))++[txD bf]++(r0h (dig N.toNat)).map (fun ws=>txD (u5 [32] ws))→∀(Q:D→Prop),(∀t,(t=bf∨∃ws,(ws∈r0i (dig N.toNat) (dig m.toNat) (dig f1.toNat) (sD (f1+m)) (sD (f1-1)) (sD (f1+m+40))∨ws∈r0h (dig N.toNat))∧t=u5 [32] ws)→Q (txD t))→(match atI xs a with |some e=>Q e |none=>False):=fun xs e Q h=>by
   obtain ⟨z,ez,hz⟩:=atL (xs:=xs) a1 (by rw[e];exact a2);rw[ez];rw[e]at hz;rcases List.mem_append.mp hz with hz |hz
   ·rcases List.mem_append.mp hz with hz |hz
    ·obtain ⟨ws,hws,rfl⟩:=List.mem_map.mp hz;exact h _ (.inr ⟨ws,.inl hws,rfl⟩)
    ·rw[List.mem_singleton.mp hz];exact h bf (.inl rfl)
   ·obtain ⟨ws,hws,rfl⟩:=List.mem_map.mp hz;exact h _ (.inr ⟨ws,.inr hws,rfl⟩)
  refine key _ ?_ (fun d=>q d δ2) fun t ht=>hq t δ2 ht hD
  unfold r0i r0h rT fT;simp[u5,txD]
noncomputable def CL(w:List Nat):Prop:=32∉w∧10∉w∧w≠[]
noncomputable instance {w:List Nat}:Decidable (CL w):=by unfold CL;infer_instance
theorem v0m{n:Nat}(h:n<100):CL (dig n):=⟨fun z=>by have:=(p0k h _ z).1;omega,fun z=>by have:=(p0k h _ z).1;omega,z1w⟩
theorem j6{a b:List Nat}(h1:CL a)(h2:CL b):CL (a++b):=⟨fun z=>by rcases List.mem_append.mp z with z |z;exact h1.1 z;exact h2.1 z,fun z=>by rcases List.mem_append.mp z with z |z;exact h1.2.1 z;exact h2.2.1 z,fun z=>h1.2.2 (List.append_eq_nil_iff.mp z).1⟩
theorem y0h{c:Nat}{w:List Nat}(h1:c≠32)(h2:c≠10)(h:CL w):CL (c::w):=⟨fun z=>by rcases List.mem_cons.mp z with z |z;exact h1 z.symm;exact h.1 z,fun z=>by rcases List.mem_cons.mp z with z |z;exact h2 z.symm;exact h.2.1 z,by simp⟩
theorem w1q{v:Int}(h1:-1≤v)(h2:v≤111):CL (sD v):=by
 have key:∀k:Fin 113,CL (sD ((k.val:Int)-1)):=by decide +kernel
 have:=key ⟨(v+1).toNat,by omega⟩;rw[show (((v+1).toNat:Nat):Int)-1=v by omega]at this;exact this
theorem z0f{b d:List Nat}(h:j3 b 0 24=.non):i9 [rT,b,fT,d]=none:=by
 show (if rT=rT∧fT=fT then (match j3 b 0 24,j3 d 0 47 with | .int n,.int f=>some (n,f)|_,_=>none)else none)=none;rw[if_pos ⟨rfl,rfl⟩,h]
theorem t0d{b d:List Nat}(h:j3 d 0 47=.non):i9 [rT,b,fT,d]=none:=by
 show (if rT=rT∧fT=fT then (match j3 b 0 24,j3 d 0 47 with | .int n,.int f=>some (n,f)|_,_=>none)else none)=none;rw[if_pos ⟨rfl,rfl⟩,h];rcases b4 b 0 24 with ⟨e,_⟩|⟨i,e,_⟩<;>rw[e]
theorem o0z{a b c d:List Nat}(h:a≠rT∨c≠fT):i9 [a,b,c,d]=none:=by
 show (if a=rT∧c=fT then (match j3 b 0 24,j3 d 0 47 with | .int n,.int f=>some (n,f)|_,_=>none)else none)=none;rw[if_neg (fun z=>by rcases h with h |h;exact h z.1;exact h z.2)]
theorem z0w{i lo hi:Int}(h0:0≤i)(h1:i<100)(h:i<lo∨hi<i):j3 (dig i.toNat) lo hi=.non:=by
 rw[r9 (v0v h0 h1),if_neg (by omega)]
theorem n5{c:Nat}{w:List Nat}{lo hi:Int}(hc:c∉digs)(h:c∈w):j3 w lo hi=.non:=t7 (r0v (.inr (.inr (.inl ⟨c,h,hc⟩))))
theorem k0u{n:Nat}{lo hi:Int}:j3 (48::dig n) lo hi=.non:=by
 refine t7 (r0v ?_);unfold dig;split
 ·exact .inr (.inr (.inr ⟨_,rfl⟩))
 ·exact .inr (.inl (by show 2<3;decide))
theorem e0s{n f:Int}(n1:1≤n)(n2:n≤24)(f1:0≤f)(f2:f≤47):∀ws∈x0g (dig n.toNat) (dig f.toNat),i9 ws=none:=by
 intro ws h;have dn:=m5 (n:=n.toNat);unfold x0g at h;simp only[List.mem_cons,List.not_mem_nil,or_false]at h;rcases h with rfl |rfl |rfl |rfl |rfl |rfl |rfl |rfl |rfl |rfl |rfl |rfl |rfl |rfl |rfl |rfl |rfl |rfl |rfl |rfl
 ·rfl
 ·rfl
 ·exact z0f k0u
 ·exact z0f (z0w (i:=25) (by decide) (by decide) (.inr (by decide)))
 ·exact t0d (z0w (i:=48) (by decide) (by decide) (.inr (by decide)))
 ·exact z0f (n5 (c:=45) (by decide) (by decide))
 ·exact o0z (.inr (by decide))
 ·exact z0f (n5 (c:=43) (by decide) (List.mem_cons_self ..))
 ·exact o0z (.inl (by decide))
 ·rfl
 ·rfl
 ·exact z0f (n5 (c:=95) (by decide) (by decide))
 ·exact t0d (n5 (c:=95) (by decide) (by decide))
 ·exact t0d k0u
 ·rfl
 ·exact o0z (.inr (fun z=>by rw[z]at dn;exact absurd dn (by decide)))
 ·rfl
 ·exact z0f (t7 (r0v (.inr (.inl (by decide)))))
 ·exact t0d (n5 (c:=45) (by decide) (List.mem_cons_self ..))
 ·exact z0f (n5 (c:=97) (by decide) (by decide))
theorem p6{v x:List Nat}{r:List (List Nat)}{lo hi:Int}(h:j3 v lo hi=.non):b5 ((v++[58])::x::r) lo hi=none:=by
 unfold b5;dsimp only;rw[List.getLast?_concat,if_pos rfl,List.dropLast_concat,h]
theorem v0l{w x:List Nat}{r:List (List Nat)}{lo hi:Int}(h:w.getLast?≠some 58):b5 (w::x::r) lo hi=none:=by
 unfold b5;dsimp only;rw[if_neg h]
theorem v6{v x:List Nat}{r:List (List Nat)}{lo hi:Int}(h:risD (.tup ((x::r).map fun w=>j3 w 0 3)) 0 3=false):b5 ((v++[58])::x::r) lo hi=none:=by
 unfold b5;dsimp only;rw[List.getLast?_concat,if_pos rfl,List.dropLast_concat];rcases b4 v lo hi with ⟨e,_⟩|⟨i,e,_⟩
 ·rw[e]
 ·rw[e];dsimp only;rw[h];rfl
theorem u8{xs:List (List Nat)}(h:∃w∈xs,j3 w 0 3=.non):risD (.tup (xs.map fun w=>j3 w 0 3)) 0 3=false:=by
 obtain ⟨w,hw,e⟩:=h;have:(xs.map fun w=>j3 w 0 3).all (a6 · 0 3)=false:=by
  rw[List.all_eq_false];exact ⟨_,List.mem_map.mpr ⟨w,hw,rfl⟩,by rw[e];exact Bool.false_ne_true⟩
 unfold risD t0q rowD;dsimp only;rw[this,Bool.and_false,Bool.false_and]
theorem b0i{n:Nat}(h:n<100):(dig n).getLast?≠some 58:=fun z=>by
 have:=(p0k h 58 (List.mem_of_getLast? z)).2;omega
theorem nm_is(k:Fin 10):nm [48+k.val]=.int (k.val:Int):=by
 have:=v0v (i:=(k.val:Int)) (by omega) (by omega);have e:dig ((k.val:Int)).toNat=[48+k.val]:=by unfold dig;rw[if_pos (by omega)];rfl
 rw[e]at this;exact this
theorem e0r{v lo hi:Int}(h1:-1≤v)(h2:v≤111)(h:v<lo∨hi<v)(h3:0≤lo)(h4:hi<100):j3 (sD v) lo hi=.non:=by
 unfold sD;split
 ·exact n5 (c:=45) (by decide) (by decide)
 ·split
  ·exact z0w (by omega) (by omega) h
  ·exact t7 (r0v (.inr (.inl (by show 2<3;decide))))
theorem w3(k:Fin 4):j3 [48+k.val] 0 3=.int (k.val:Int):=by
 have hk:=k.isLt;rw[r9 (i:=(k.val:Int)) (nm_is ⟨k.val,by omega⟩),if_pos ⟨by omega,by omega⟩]
theorem b0h{N m f lo:Int}(N1:0≤N)(N2:N<100)(m1:1≤m)(m2:m≤24)(f1:0≤f)(f2:f≤47)(hlo:f≤lo):∀ws,(ws∈r0i (dig N.toNat) (dig m.toNat) (dig f.toNat) (sD (f+m)) (sD (f-1)) (sD (f+m+40))∨ws∈r0h (dig N.toNat))→b5 ws lo (f+m-1)=none:=by
 intro ws h;have ld:(dig N.toNat).getLast?≠some 58:=b0i (by omega);have h0:=w3 0;have h1:=w3 1;have h2:=w3 2;have h3:=w3 3;rcases h with h |h
 ·unfold r0i at h;simp only[List.mem_cons,List.not_mem_nil,or_false]at h;rcases h with rfl |rfl |rfl |rfl |rfl |rfl |rfl |rfl |rfl |rfl |rfl |rfl |rfl |rfl |rfl |rfl |rfl |rfl |rfl |rfl |rfl |rfl |rfl |rfl |rfl
  ·rfl
  ·exact v0l ld
  ·rfl
  ·exact v0l ld
  ·exact p6 (v:=48::dig N.toNat) k0u
  ·exact p6 (v:=43::dig N.toNat) (n5 (c:=43) (by decide) (List.mem_cons_self ..))
  ·exact v6 (u8 ⟨[52],by simp,z0w (i:=4) (by decide) (by decide) (.inr (by decide))⟩)
  ·exact v6 (by rw[List.map_cons,List.map_cons,List.map_nil,show j3 [49] 0 3=.int 1 from h1,show j3 [48] 0 3=.int 0 from h0];rfl)
  ·exact v6 (by rw[List.map_cons,List.map_cons,List.map_nil,show j3 [50] 0 3=.int 2 from h2];rfl)
  ·exact v6 (u8 ⟨[48,48],by simp,t7 (r0v (.inr (.inr (.inr ⟨48,rfl⟩))))⟩)
  ·exact v6 (u8 ⟨[45,49],by simp,n5 (c:=45) (by decide) (by decide)⟩)
  ·exact v6 (u8 ⟨[97],by simp,n5 (c:=97) (by decide) (by decide)⟩)
  ·exact v6 (u8 ⟨[48,44,49],by simp,n5 (c:=44) (by decide) (by decide)⟩)
  ·exact p6 (v:=[]) (t7 (r0v (.inl rfl)))
  ·rw[show dig N.toNat++[58,58]=(dig N.toNat++[58])++[58]by simp];exact p6 (n5 (c:=58) (by decide) (by simp))
  ·rfl
  ·rfl
  ·exact p6 (v:=[97]) (n5 (c:=97) (by decide) (by decide))
  ·exact p6 (e0r (by omega) (by omega) (.inr (by omega)) (by omega) (by omega))
  ·exact p6 (e0r (by omega) (by omega) (.inl (by omega)) (by omega) (by omega))
  ·exact p6 (e0r (by omega) (by omega) (.inr (by omega)) (by omega) (by omega))
  ·exact v6 (u8 ⟨[58],by simp,n5 (c:=58) (by decide) (by decide)⟩)
  ·exact v0l (by decide)
  ·exact v6 (by
    simp only[List.map_cons,List.map_nil];rw[show j3 [48] 0 3=.int 0 from h0,show j3 [49] 0 3=.int 1 from h1,show j3 [50] 0 3=.int 2 from h2,show j3 [51] 0 3=.int 3 from h3];rfl)
  ·exact v6 (u8 ⟨[49,50],by simp,z0w (i:=12) (by decide) (by decide) (.inr (by decide))⟩)
 ·unfold r0h at h;simp only[List.mem_cons,List.not_mem_nil,or_false]at h;rcases h with rfl |rfl |rfl |rfl
  ·exact p6 (v:=45::dig N.toNat) (n5 (c:=45) (by decide) (List.mem_cons_self ..))
  ·exact p6 (v:=[49,95,50]) (n5 (c:=95) (by decide) (by decide))
  ·exact v6 (u8 ⟨[49,95,50],by simp,n5 (c:=95) (by decide) (by decide)⟩)
  ·exact v6 (u8 ⟨[48,95,49],by simp,n5 (c:=95) (by decide) (by decide)⟩)
structure LnOk(ws:List (List Nat)):Prop where
 c:∀w∈ws,CL w
 n:ws≠[]
 l:(u5 [32] ws).length≤40
theorem b0g{n f:Int}(n1:1≤n)(n2:n≤24)(f1:0≤f)(f2:f≤47):∀ws∈x0g (dig n.toNat) (dig f.toNat),LnOk ws:=by
 intro ws h;have dn:=m5 (n:=n.toNat);have df:=m5 (n:=f.toNat);have cn:CL (dig n.toNat):=v0m (by omega);have cf:CL (dig f.toNat):=v0m (by omega);have lr:rT.length=6:=rfl;have lf:fT.length=4:=rfl;have cr:CL rT:=by decide
 have cfT:CL fT:=by decide
 unfold x0g at h;simp only[List.mem_cons,List.not_mem_nil,or_false]at h;rcases h with rfl |rfl |rfl |rfl |rfl |rfl |rfl |rfl |rfl |rfl |rfl |rfl |rfl |rfl |rfl |rfl |rfl |rfl |rfl |rfl
 all_goals
  refine ⟨fun w hw=>?_,by simp,by simp only[u5,List.length_append,List.length_cons,List.length_nil];omega⟩;simp only[List.mem_cons,List.not_mem_nil,or_false]at hw
  repeat' (rcases hw with rfl |hw)
  all_goals first
   |exact cn
   |exact cf
   |exact cr
   |exact cfT
   |decide
   |(subst hw;first |exact cn |exact cf |exact cr |exact cfT |decide |exact y0h (by decide) (by decide) cn |exact y0h (by decide) (by decide) cf |exact j6 cn (by decide)|exact j6 cf (by decide)|exact j6 cr cn)
   |exact y0h (by decide) (by decide) cn
   |exact y0h (by decide) (by decide) cf
   |exact j6 cn (by decide)
   |exact j6 cf (by decide)
   |exact j6 cr cn
theorem e0q{N m f:Int}(N1:0≤N)(N2:N<100)(m1:1≤m)(m2:m≤24)(f1:0≤f)(f2:f≤47):∀ws,(ws∈r0i (dig N.toNat) (dig m.toNat) (dig f.toNat) (sD (f+m)) (sD (f-1)) (sD (f+m+40))∨ws∈r0h (dig N.toNat))→LnOk ws:=by
 intro ws h;have dn:=m5 (n:=N.toNat);have dm:=m5 (n:=m.toNat);have df:=m5 (n:=f.toNat);have d4:=q0h (v:=f+m);have d5:=q0h (v:=f-1);have d6:=q0h (v:=f+m+40);have cn:CL (dig N.toNat):=v0m (by omega);have cm:CL (dig m.toNat):=v0m (by omega);have cf:CL (dig f.toNat):=v0m (by omega);have ca:CL (sD (f+m)):=w1q (by omega) (by omega);have cb:CL (sD (f-1)):=w1q (by omega) (by omega);have ce:CL (sD (f+m+40)):=w1q (by omega) (by omega);have lr:rT.length=6:=rfl;have lf:fT.length=4:=rfl;have cr:CL rT:=by decide
 have cfT:CL fT:=by decide
 have c1:CL [58]:=by decide
 rcases h with h |h
 ·unfold r0i at h;simp only[List.mem_cons,List.not_mem_nil,or_false]at h;rcases h with rfl |rfl |rfl |rfl |rfl |rfl |rfl |rfl |rfl |rfl |rfl |rfl |rfl |rfl |rfl |rfl |rfl |rfl |rfl |rfl |rfl |rfl |rfl |rfl |rfl
  all_goals
   refine ⟨fun w hw=>?_,by simp,by simp only[u5,List.length_append,List.length_cons,List.length_nil];omega⟩;simp only[List.mem_cons,List.not_mem_nil,or_false]at hw
   repeat' (rcases hw with rfl |hw)
   all_goals first
    |exact cn |exact cm |exact cf |exact cr |exact cfT |decide
    |exact j6 cn (by decide)|exact j6 ca c1 |exact j6 cb c1 |exact j6 ce c1
    |exact y0h (by decide) (by decide) (j6 cn c1)
    |(subst hw;first |exact cn |exact cm |exact cf |exact cr |exact cfT |decide |exact j6 cn (by decide)|exact j6 ca c1 |exact j6 cb c1 |exact j6 ce c1 |exact y0h (by decide) (by decide) (j6 cn c1))
 ·unfold r0h at h;simp only[List.mem_cons,List.not_mem_nil,or_false]at h;rcases h with rfl |rfl |rfl |rfl
  all_goals
   refine ⟨fun w hw=>?_,by simp,by simp only[u5,List.length_append,List.length_cons,List.length_nil];omega⟩;simp only[List.mem_cons,List.not_mem_nil,or_false]at hw
   repeat' (rcases hw with rfl |hw)
   all_goals first
    |exact cn |decide
    |exact j6 cn (by decide)
    |exact y0h (by decide) (by decide) (j6 cn c1)
    |(subst hw;first |decide |exact j6 cn (by decide)|exact y0h (by decide) (by decide) (j6 cn c1))
theorem t0c{ws:List (List Nat)}(h:LnOk ws):m3 (u5 [32] ws)=ws∧10∉u5 [32] ws∧(u5 [32] ws).length≤40:=by
 refine ⟨?_,?_,h.l⟩
 ·unfold m3;rw[i8 _ h.n fun w hw=>(h.c w hw).1];exact List.filter_eq_self.mpr fun w hw=>by simpa using (h.c w hw).2.2
 ·have key:∀ps:List (List Nat),(∀p∈ps,10∉p)→10∉u5 [32] ps:=by
   intro ps
   induction ps with
   |nil=>intro _ z;cases z
   |cons a b ih=>
    intro hh z;cases b with
    |nil=>exact hh a (List.mem_singleton.mpr rfl) z
    |cons c d=>
     have z:10∈a++([32]++u5 [32] (c::d)):=z;rcases List.mem_append.mp z with z |z
     ·exact hh a (List.mem_cons_self ..) z
     ·rcases List.mem_append.mp z with z |z
      ·revert z;decide
      ·exact ih (fun p hp=>hh p (List.mem_cons_of_mem _ hp)) z
  exact key ws fun w hw=>(h.c w hw).2.1
noncomputable def w0p(n f:Int):List (List Nat):=[rT,dig n.toNat,fT,dig f.toNat]
noncomputable def entW(r:Int)(c:List Int):List (List Nat):=(dig r.toNat++[58])::j9 c
theorem w1p{c:List Int}(h:ChOk 4 c):x0i (.tup (c.map D.int))=true∧risD (.tup (c.map D.int)) 0 3=true:=by
 refine ⟨?_,?_⟩
 ·unfold x0i rowD;dsimp only;rw[List.all_eq_true.mpr (fun d hd=>by obtain ⟨z,_,rfl⟩:=List.mem_map.mp hd;rfl)];rfl
 ·unfold risD t0q rowD;dsimp only;rw[Option.getD_some,j0n,h.2.1,Bool.and_true,List.length_map,decide_eq_true (by omega),decide_eq_true (by have:=h.2.2;omega)];simp only[Bool.true_and];rw[List.all_eq_true];intro d hd;obtain ⟨z,hz,rfl⟩:=List.mem_map.mp hd;have:=h.1 z hz;exact l0s this.1 (by omega)
noncomputable def o0y(P:List (List Int))(f:Int):List (List (List Nat)):=w0p (P.length:Int) f::(i5 P f).map fun e=>entW e.1 e.2
theorem b0f{c:List Int}:(u5 [32] (j9 c)).length≤c.length*3:=by
 have h:=z0x (s:=[32]) (ps:=j9 c) (m:=2) (fun p hp=>by obtain ⟨n,_,rfl⟩:=List.mem_map.mp hp;exact m5);have h2:(j9 c).length=c.length:=List.length_map ..;rw[h2]at h;exact h
theorem b0e{n f:Int}:(e0v n f).length≤20:=by
 have h1:=m5 (n:=n.toNat);have h2:=m5 (n:=f.toNat);unfold e0v rT fT;simp only[List.length_append,List.length_cons,List.length_nil];omega
theorem w1o{e:Int×List Int}(h:e.2.length≤4):(entT e).length≤20:=by
 have h1:=m5 (n:=e.1.toNat);have h2:=b0f (c:=e.2);unfold entT;simp only[List.length_append,List.length_cons,List.length_nil];omega
theorem b0d{P:List (List Int)}{f:Int}(hp:PlanOk P):(m6 P f).length≤25∧∀p∈m6 P f,p.length≤20:=by
 have h1:=v0n (P:=P) (f:=f);have h2:=hp.l;refine ⟨by unfold m6;rw[List.length_cons,List.length_map];omega,fun p h=>?_⟩;unfold m6 at h;rcases List.mem_cons.mp h with rfl |h
 ·exact b0e
 ·obtain ⟨e,he,rfl⟩:=List.mem_map.mp h;have:=(hp.c _ (r0q he).1).2.2;exact w1o (by omega)
theorem e0p{P:List (List Int)}{f:Int}:m6 P f=(o0y P f).map (u5 [32]):=by
 unfold m6 o0y;rw[List.map_cons,List.map_map];congr 1
 ·unfold e0v w0p;show _=rT++([32]++(dig ((P.length:Int)).toNat++([32]++(fT++([32]++dig f.toNat)))));simp
 ·refine List.map_congr_left fun e he=>?_
  have h2:=(r0q he).2.1;obtain ⟨r,c⟩:=e;cases c with
  |nil=>exact absurd rfl h2
  |cons a c=>
   show dig r.toNat++[58,32]++u5 [32] (j9 (a::c))=(dig r.toNat++[58])++([32]++u5 [32] (j9 (a::c)));simp
theorem j0c{n f:Int}(n1:0≤n)(n2:n≤24)(f1:0≤f)(f2:f≤47):i9 (w0p n f)=some (n,f):=by
 show (if rT=rT∧fT=fT then (match j3 (dig n.toNat) 0 24,j3 (dig f.toNat) 0 47 with | .int n,.int f=>some (n,f)|_,_=>none)else none)=_;rw[if_pos ⟨rfl,rfl⟩,r9 (v0v n1 (by omega)),r9 (v0v f1 (by omega)),if_pos ⟨n1,n2⟩,if_pos ⟨f1,f2⟩]
theorem i0g{c:List Int}(h:ChOk 4 c):(j9 c).map (fun w=>j3 w 0 3)=c.map D.int:=by
 unfold j9;rw[List.map_map];refine List.map_congr_left fun n hn=>?_
 have:=h.1 n hn;show j3 (dig n.toNat) 0 3=.int n;rw[r9 (v0v this.1 (by omega)),if_pos ⟨this.1,by omega⟩]
theorem e0o{r lo hi:Int}{c:List Int}(h:ChOk 4 c)(hc:c≠[])(h0:0≤r)(h1:r<100)(h2:lo≤r)(h3:r≤hi):b5 (entW r c) lo hi=some (r,c):=by
 obtain ⟨c0,cr,rfl⟩:∃c0 cr,c=c0::cr:=by cases c with |nil=>exact absurd rfl hc |cons a b=>exact ⟨a,b,rfl⟩
 have hw:=i0g h;have hi':((j9 (c0::cr)).map fun w=>intD (j3 w 0 3))=c0::cr:=by
  have:=congrArg (List.map intD) hw;rw[List.map_map,j0n]at this;exact this
 have hr:=(w1p h).2;show b5 ((dig r.toNat++[58])::dig c0.toNat::j9 cr) lo hi=_;unfold b5;dsimp only;rw[List.getLast?_concat,if_pos rfl,List.dropLast_concat,r9 (v0v h0 h1),if_pos ⟨h2,h3⟩];dsimp only;have hw:(dig c0.toNat::j9 cr).map (fun w=>j3 w 0 3)=(c0::cr).map D.int:=hw;have hi':(dig c0.toNat::j9 cr).map (fun w=>intD (j3 w 0 3))=c0::cr:=hi';rw[hw,hi',hr];rfl
noncomputable def g6(hi:Int):Int→List (Int×List Int)→Prop
 |_,[]=>True
 |lo,(r,c)::es=>lo≤r∧r≤hi∧ChOk 4 c∧c≠[]∧g6 hi (r+1) es
noncomputable def endF:Int→List (Int×List Int)→Int
 |lo,[]=>lo
 |_,(r,_)::es=>endF (r+1) es
noncomputable def wsOf(es:List (Int×List Int)):List (List (List Nat)):=es.map fun e=>entW e.1 e.2
theorem v0k:∀{P:List (List Int)} {f lo hi:Int},(∀c∈P,ChOk 4 c)→lo≤f→f+(P.length:Int)≤hi+1→g6 hi lo (i5 P f)
 | [],f,lo,hi,_,_,_=>trivial
 |c::P,f,lo,hi,hc,h1,h2=>by
  rw[e8];rw[List.length_cons]at h2;split
  ·exact v0k (fun y hy=>hc y (List.mem_cons_of_mem _ hy)) (by omega) (by omega)
  ·rename_i hz;exact ⟨h1,by omega,hc c (List.mem_cons_self ..),hz,v0k (fun y hy=>hc y (List.mem_cons_of_mem _ hy)) (Int.le_refl _) (by omega)⟩
theorem r0o{hi:Int}:∀{es:List (Int×List Int)} {lo:Int} (k:Nat),g6 hi lo es→g6 hi lo (es.take k)
 | [],lo,k,_=>by rw[List.take_nil];trivial
 |(r,c)::es,lo,0,_=>trivial
 |(r,c)::es,lo,k+1,h=>⟨h.1,h.2.1,h.2.2.1,h.2.2.2.1,r0o k h.2.2.2.2⟩
theorem e0n{hi:Int}:∀{es:List (Int×List Int)} {lo:Int},g6 hi lo es→lo≤endF lo es
 | [],lo,_=>Int.le_refl _
 |(r,c)::es,lo,h=>by
  have:=e0n h.2.2.2.2;have:=h.1;show lo≤endF (r+1) es;omega
theorem m0t:∀{es:List (Int×List Int)} {lo r:Int} {c:List Int},endF lo (es++[(r,c)])=r+1
 | [],_,_,_=>rfl
 |(_,_)::es,_,_,_=>m0t (es:=es)
theorem o0x{f hi:Int}{rest:List (Int×List (List Nat))}(h0:0≤f)(h9:hi<100):∀{es:List (Int×List Int)} {pls:List Int} {P:List (List Int)} {free:Int},pls.length=es.length→0≤free→g6 hi free es→∃P',P'.length=P.length∧v0s f hi (pls.zip (wsOf es)++rest) P free=v0s f hi rest P' (endF free es)
 | [],pls,P,free,hl,_,_=>by rw[List.eq_nil_of_length_eq_zero hl];exact ⟨P,rfl,rfl⟩
 |(r,c)::es,[],P,free,hl,_,_=>by cases hl
 |(r,c)::es,k::pls,P,free,hl,g0,h=>by
  obtain ⟨P',e1,e2⟩:=o0x h0 h9 (es:=es) (pls:=pls) (P:=P.set (r-f).toNat c) (free:=r+1) (by simpa using hl) (by have:=h.1;omega) h.2.2.2.2;refine ⟨P',by rw[e1,List.length_set],?_⟩;show v0s f hi ((k,entW r c)::(pls.zip (wsOf es)++rest)) P free=_;rw[z0z,e0o h.2.2.1 h.2.2.2.1 (by have:=h.1;omega) (by have:=h.2.1;omega) h.1 h.2.1];exact e2
theorem v0j:∀{rs:List (List Nat)},rs≠[]→feed rs=u5 [10] rs++[10]
 | [],h=>absurd rfl h
 | [a],_=>by show (a++[10])++[]=a++[10];rw[List.append_nil]
 |a::b::r,_=>by
  have ih:=v0j (rs:=b::r) (by simp);have e:feed (a::b::r)=a++[10]++feed (b::r):=by unfold feed;rw[List.map_cons,List.flatten_cons]
  rw[e,ih];show _=(a++([10]++u5 [10] (b::r)))++[10];simp
theorem e0m{rs:List (List Nat)}(h:∀r∈rs,10∉r):z0d (feed rs)=f8 1 rs:=by
 show f8 1 (i4 (feed rs))=_;rw[u0d h]
theorem m0s{rs:List (List Nat)}(h:∀r∈rs,10∉r)(hn:rs≠[]):z0d (u5 [10] rs)=f8 1 rs:=by
 show f8 1 (i4 (u5 [10] rs))=_;unfold i4;rw[i8 rs hn h];split
 ·rename_i hl;obtain ⟨rs',e⟩:∃rs',rs=rs'++[[]]:=by
   rw[List.getLast?_eq_some_getLast hn]at hl;exact ⟨rs.dropLast,by rw[←Option.some.inj hl];exact (List.dropLast_concat_getLast hn).symm⟩
  rw[e,List.dropLast_concat,r0p,i7,if_pos b9];show _=_++[];rw[List.append_nil]
 ·rfl
theorem w0o{l:List Nat}(h:z0d l≠[]):w6 l=v0r (z0d l):=by unfold w6;rw[if_neg h]
theorem e0l{pl:List Int}{w0:List (List Nat)}{rest:List (List (List Nat))}{k:Int}(h:i9 w0=none)(hk:pl[0]?=some k):v0r (pl.zip (w0::rest))=.inl k:=by
 match pl,hk with
 |p0::pl,hk=>
  cases hk;show v0r ((_,w0)::pl.zip rest)=_;rw[q8,h]
theorem b0c{n f:Int}{es:List (Int×List Int)}{pl:List Int}{bad:List (List Nat)}{rest:List (List (List Nat))}{j:Nat}{k:Int}(n1:0≤n)(n2:n≤24)(f1:0≤f)(f2:f≤47)(he:g6 (f+n-1) f es)(hj:j≤es.length)
 (hb:b5 bad (endF f (es.take j)) (f+n-1)=none) (hl:pl.length=j+2+rest.length) (hk:pl[j+1]?=some k):v0r (pl.zip (w0p n f::(wsOf (es.take j)++bad::rest)))=.inl k:=by
 match pl,hl,hk with
 |p0::pl,hl,hk=>
  show v0r ((p0,w0p n f)::pl.zip (wsOf (es.take j)++bad::rest))=_;rw[q8,j0c n1 n2 f1 f2];dsimp only;have hk:pl[j]?=some k:=hk;have hlt:=(List.getElem?_eq_some_iff.mp hk).1;have ep:pl=pl.take j++k::pl.drop (j+1):=by
   conv=>lhs;rw[←List.take_append_drop j pl,List.drop_eq_getElem_cons hlt,(List.getElem?_eq_some_iff.mp hk).2]
  have hwl:(wsOf (es.take j)).length=j:=by unfold wsOf;rw[List.length_map,List.length_take];omega
  have htl:(pl.take j).length=j:=by rw[List.length_take];omega
  rw[ep,List.zip_append (by rw[htl,hwl])];obtain ⟨P',_,e⟩:=o0x (f:=f) (hi:=f+n-1) (rest:=(k::pl.drop (j+1)).zip (bad::rest)) f1 (by omega) (es:=es.take j) (pls:=pl.take j) (P:=List.replicate n.toNat []) (free:=f) (by rw[htl,List.length_take];omega) f1 (r0o j he);rw[e];show i0l f (v0s f (f+n-1) ((k,bad)::(pl.drop (j+1)).zip rest) P' _)=_;rw[z0z,hb];rfl
theorem e0k{n f:Int}{es:List (Int×List Int)}{pl:List Int}(n1:0≤n)(n2:n≤24)(f1:0≤f)(f2:f≤47)(he:g6 (f+n-1) f es)(hl:pl.length=es.length+1):∃P,v0r (pl.zip (w0p n f::wsOf es))=.inr (P,f):=by
 match pl,hl with
 |p0::pl,hl=>
  obtain ⟨P',_,e⟩:=o0x (f:=f) (hi:=f+n-1) (rest:=[]) f1 (by omega) (es:=es) (pls:=pl) (P:=List.replicate n.toNat []) (free:=f) (by simpa using hl) f1 he;rw[List.append_nil]at e;refine ⟨P',?_⟩;show v0r ((p0,w0p n f)::pl.zip (wsOf es))=_;rw[q8,j0c n1 n2 f1 f2];dsimp only;rw[e];rfl
theorem i0f{n f:Int}{es:List (Int×List Int)}{j:Nat}{e:Int×List Int}(f1:0≤f)(h9:f+n-1<100)(he:g6 (f+n-1) f es)(hj:es[j]?=some e):b5 (entW e.1 e.2) (endF f (es.take (j+1))) (f+n-1)=none:=by
 obtain ⟨r,c⟩:=e;have hm:∀{es:List (Int×List Int)} {lo:Int},g6 (f+n-1) lo es→(r,c)∈es→lo≤r∧r≤f+n-1∧c≠[]:=by
  intro es
  induction es with
  |nil=>intro lo _ h;cases h
  |cons a es ih=>
   intro lo h hm;obtain ⟨r',c'⟩:=a;rcases List.mem_cons.mp hm with e |hm
   ·cases e;exact ⟨h.1,h.2.1,h.2.2.2.1⟩
   ·obtain ⟨g1,g2,g3⟩:=ih h.2.2.2.2 hm;exact ⟨by have:=h.1;omega,g2,g3⟩
 obtain ⟨g1,g2,g3⟩:=hm he (List.mem_of_getElem? hj);rw[List.take_succ,hj,Option.toList_some,m0t];obtain ⟨c0,cr,rfl⟩:∃c0 cr,c=c0::cr:=by cases c with |nil=>exact absurd rfl g3 |cons a b=>exact ⟨a,b,rfl⟩
 exact p6 (z0w (by omega) (by omega) (.inl (by omega)))
noncomputable def k0t:Nat→List (List Int)→List (Nat×List Int)
 |_,[]=>[]
 |k,c::P=>(k,c)::k0t (k+1) P
theorem z1r:∀(P:List (List Int)) (k:Nat),x0k k (P.map (rowT true))=(k0t k P).map fun p=>.tup [.int (p.1:Int),rowT true p.2]
 | [],_=>rfl
 |c::P,k=>by
  show D.tup [.int (k:Int),rowT true c]::x0k (k+1) (P.map (rowT true))=_;rw[z1r P (k+1)];rfl
theorem m0r:∀(P:List (List Int)) (k:Nat) (f:Int),((k0t k P).filter fun p=>decide (p.2≠[])).map (fun p=>D.int (f+(p.1:Int)))=(i5 P (f+(k:Int))).map fun e=>D.int e.1
 | [],_,_=>rfl
 |c::P,k,f=>by
  have ih:=m0r P (k+1) f;rw[e8,show f+(k:Int)+1=f+((k+1:Nat):Int)by omega];show (List.filter _ ((k,c)::k0t (k+1) P)).map _=_;by_cases h:c=[]
  ·rw[if_pos h,List.filter_cons_of_neg (by simpa using h)];exact ih
  ·rw[if_neg h,List.filter_cons_of_pos (by simpa using h),List.map_cons,ih];rfl
theorem m0q:∀(P:List (List Int)) (k:Nat),(k0t k P).length=P.length
 | [],_=>rfl
 |c::P,k=>by show (k0t (k+1) P).length+1=_;rw[m0q P];rfl
noncomputable def x0f(l:List Nat):Prop:=l.length≤40∧10∉l∧m3 l≠[]
theorem o0w{ws:List (List Nat)}(h:LnOk ws):x0f (u5 [32] ws):=by
 obtain ⟨h1,h2,h3⟩:=t0c h;exact ⟨h3,h2,by rw[h1];exact h.n⟩
theorem w1n{P:List (List Int)}{f:Int}(hp:PlanOk P)(f1:0≤f)(f2:f≤47):∀ws∈o0y P f,LnOk ws:=by
 have hl:=hp.l;intro ws h;unfold o0y at h;rcases List.mem_cons.mp h with rfl |h
 ·refine ⟨fun w hw=>?_,by unfold w0p;simp,?_⟩
  ·unfold w0p at hw;simp only[List.mem_cons,List.not_mem_nil,or_false]at hw;rcases hw with rfl |rfl |rfl |rfl
   ·decide
   ·exact v0m (by omega)
   ·decide
   ·exact v0m (by omega)
  ·have d1:=m5 (n:=((P.length:Int)).toNat);have d2:=m5 (n:=f.toNat);have lr:rT.length=6:=rfl;have lf:fT.length=4:=rfl;unfold w0p;simp only[u5,List.length_append,List.length_cons,List.length_nil];omega
 ·obtain ⟨e,he,rfl⟩:=List.mem_map.mp h;obtain ⟨h1,h2,h3,h4⟩:=r0q he;have hc:=hp.c _ h1;have hcl:=hc.2.2;have hm:∀w∈entW e.1 e.2,CL w∧w.length≤3:=fun w hw=>by
   unfold entW at hw;rcases List.mem_cons.mp hw with rfl |hw
   ·exact ⟨j6 (v0m (by omega)) (by decide),by have:=m5 (n:=e.1.toNat);rw[List.length_append];show _+1≤3;omega⟩
   ·obtain ⟨n,hn,rfl⟩:=List.mem_map.mp hw;have:=hc.1 n hn;exact ⟨v0m (by omega),Nat.le_trans m5 (by decide)⟩
  refine ⟨fun w hw=>(hm w hw).1,by unfold entW;simp,?_⟩;have hj:=z0x (s:=[32]) (ps:=entW e.1 e.2) (m:=3) fun w hw=>(hm w hw).2
  have hn:(entW e.1 e.2).length=e.2.length+1:=by unfold entW j9;simp
  rw[hn]at hj;have:(e.2.length+1)*(3+([32]:List Nat).length)≤5*4:=Nat.mul_le_mul_right _ (by omega);omega
theorem x_ok:x0f [120]:=⟨by decide,by decide,by decide⟩
structure BentT(L az:Nat)(bs:List (List Nat)):Prop where
 len:bs.length=L
 ok:∀l∈bs,x0f l
 lt:az<L
 bad:∀(rest:List (List (List Nat))) (pl:List Int) (k:Int),pl.length=az+1+rest.length→pl[az]?=some k→v0r (pl.zip ((bs.take (az+1)).map m3++rest))=.inl k
theorem x0m{P:List (List Int)}{f:Int}(hp:PlanOk P)(f1:0≤f)(f2:f≤47):(m6 P f).map m3=o0y P f∧∀l∈m6 P f,x0f l:=by
 have ht:=w1n hp f1 f2;rw[e0p];refine ⟨?_,fun l hl=>?_⟩
 ·rw[List.map_map]
  conv=>rhs;rw[←List.map_id (o0y P f)]
  exact List.map_congr_left fun ws h=>(t0c (ht ws h)).1
 ·obtain ⟨ws,h,rfl⟩:=List.mem_map.mp hl;exact o0w (ht ws h)
theorem o0v{ls:List (List Nat)}{i:Nat}{t:List Nat}(h:∀l∈ls,x0f l)(ht:x0f t):∀l∈ls.set i t,x0f l:=fun l hl=>by
 rcases List.mem_or_eq_of_mem_set hl with hl |rfl
 ·exact h l hl
 ·exact ht
theorem BentT.later{L az i:Nat}{bs:List (List Nat)}{t:List Nat}(h:BentT L az bs)(hi:az<i)(ht:x0f t):BentT L az (bs.set i t):=
 ⟨by rw[List.length_set];exact h.len,o0v h.ok ht,h.lt,by rw[List.take_set_of_le (by omega)];exact h.bad⟩
theorem y0g{P:List (List Int)}{f:Int}:(m6 P f).length=(i5 P f).length+1:=by unfold m6;rw[List.length_cons,List.length_map]
theorem e0j{P:List (List Int)}{f:Int}{ws:List (List Nat)}(hp:PlanOk P)(n1:1≤(P.length:Int))(f1:0≤f)(f2:f≤47)(h:ws∈x0g (dig ((P.length:Int)).toNat) (dig f.toNat)):BentT ((i5 P f).length+1) 0 ((m6 P f).set 0 (u5 [32] ws)):=by
 have hl:=hp.l;have hln:=b0g n1 (by omega) f1 f2 ws h;refine ⟨by rw[List.length_set,y0g],o0v (x0m hp f1 f2).2 (o0w hln),by omega,fun rest pl k _ hk=>?_⟩;show v0r (pl.zip (m3 (u5 [32] ws)::rest))=_;rw[(t0c hln).1];exact e0l (e0s n1 (by omega) f1 f2 ws h) hk
theorem b0b{P:List (List Int)}{f N:Int}{j:Nat}{t bf:List Nat}(hp:PlanOk P)(n1:1≤(P.length:Int))(f1:0≤f)(f2:f≤47)(N1:0≤N)(N2:N<100)(hj:j<(i5 P f).length)(hbf:(m6 P f)[j]?=some bf)
 (ht:t=bf∨∃ws,(ws∈r0i (dig N.toNat) (dig ((P.length:Int)).toNat) (dig f.toNat) (sD (f+(P.length:Int))) (sD (f-1)) (sD (f+(P.length:Int)+40))∨ws∈r0h (dig N.toNat))∧t=u5 [32] ws):BentT ((i5 P f).length+1) (j+1) ((m6 P f).set (j+1) t):=by
 have hl:=hp.l;obtain ⟨hsw,hso⟩:=x0m hp f1 f2;have hlen:=y0g (P:=P) (f:=f);have he:g6 (f+(P.length:Int)-1) f (i5 P f):=v0k hp.c (Int.le_refl _) (by omega);have hrb:x0f t∧b5 (m3 t) (endF f ((i5 P f).take j)) (f+(P.length:Int)-1)=none:=by
  rcases ht with rfl |⟨ws,hws,rfl⟩
  ·refine ⟨hso _ (List.mem_of_getElem? hbf),?_⟩;have hw:(o0y P f)[j]?=some (m3 t):=by rw[←hsw,List.getElem?_map,hbf];rfl
   cases j with
   |zero=>
    have hw:w0p (P.length:Int) f=m3 t:=Option.some.inj hw;rw[←hw];exact v0l (by decide)
   |succ i=>
    have hw:((i5 P f).map fun e=>entW e.1 e.2)[i]?=some (m3 t):=hw;rw[List.getElem?_map,Option.map_eq_some_iff]at hw;obtain ⟨e,he',hw⟩:=hw;rw[←hw];exact i0f f1 (by omega) he he'
  ·have hln:=e0q N1 N2 n1 (by omega) f1 f2 ws hws;refine ⟨o0w hln,?_⟩;rw[(t0c hln).1];exact b0h N1 N2 n1 (by omega) f1 f2 (e0n (r0o j he)) ws hws
 refine ⟨by rw[List.length_set,hlen],o0v hso hrb.1,by omega,fun rest pl k hpl hk=>?_⟩;have etake:(((m6 P f).set (j+1) t).take (j+1+1)).map m3=w0p (P.length:Int) f::(wsOf ((i5 P f).take j)++[m3 t]):=by
  rw[List.take_succ,List.take_set_of_le (Nat.le_refl _),List.getElem?_set_self (by omega),Option.toList_some,List.map_append,List.map_take,hsw];show (w0p (P.length:Int) f::((i5 P f).map fun e=>entW e.1 e.2).take j)++[m3 t]=_;unfold wsOf;rw[List.map_take];rfl
 rw[etake];have e2:w0p (P.length:Int) f::(wsOf ((i5 P f).take j)++[m3 t])++rest=w0p (P.length:Int) f::(wsOf ((i5 P f).take j)++m3 t::rest):=by simp
 rw[e2];exact b0c (by omega) (by omega) f1 f2 he (by omega) hrb.2 (by omega) hk
theorem b0a{N m f:Int}{t:List Nat}(N1:0≤N)(N2:N<100)(m1:1≤m)(m2:m≤24)(f1:0≤f)(f2:f≤47)(ht:t=[120]∨∃ws,(ws∈r0i (dig N.toNat) (dig m.toNat) (dig f.toNat) (sD (f+m)) (sD (f-1)) (sD (f+m+40))∨ws∈r0h (dig N.toNat))∧t=u5 [32] ws):x0f t:=by
 rcases ht with rfl |⟨ws,hws,rfl⟩
 ·exact x_ok
 ·exact o0w (e0q N1 N2 m1 m2 f1 f2 ws hws)
theorem k0s{rs:List (List Nat)}{pl:List Int}{bs:List (List Nat)}{L az:Nat}{k:Int}(h:BentT L az bs)(h10:∀r∈rs,10∉r)(hpl:pl.length=bs.length)(hrow:f8 1 rs=pl.zip (bs.map m3))(hk:pl[az]?=some k):w6 (u5 [10] rs)=.inl k∧w6 (u5 [10] rs++[10])=.inl k:=by
 have hlt:=h.lt;have hlen:=h.len;have hz:pl.zip (bs.map m3)≠[]:=fun z=>by
  have:=congrArg List.length z;rw[List.length_zip,List.length_map,List.length_nil]at this;omega
 have hrn:rs≠[]:=fun z=>by rw[z]at hrow;exact hz hrow.symm
 have hr:v0r (pl.zip (bs.map m3))=.inl k:=by
  have e:bs.map m3=(bs.take (az+1)).map m3++(bs.drop (az+1)).map m3:=by rw[←List.map_append,List.take_append_drop]
  rw[e];exact h.bad _ pl k (by rw[List.length_map,List.length_drop];omega) hk
 have e1:=m0s h10 hrn;have e2:z0d (u5 [10] rs++[10])=f8 1 rs:=by rw[←v0j hrn,e0m h10]
 rw[hrow]at e1 e2;exact ⟨by rw[w0o (by rw[e1];exact hz),e1];exact hr,by rw[w0o (by rw[e2];exact hz),e2];exact hr⟩
theorem k0r{rs:List (List Nat)}{pl:List Int}{P:List (List Int)}{f:Int}(hp:PlanOk P)(f1:0≤f)(f2:f≤47)(h10:∀r∈rs,10∉r)(hpl:pl.length=(m6 P f).length)(hrow:f8 1 rs=pl.zip ((m6 P f).map m3)):∃P',w6 (u5 [10] rs)=.inr (P',f):=by
 have hl:=hp.l;have he:g6 (f+(P.length:Int)-1) f (i5 P f):=v0k hp.c (Int.le_refl _) (by omega);rw[(x0m hp f1 f2).1]at hrow;rw[y0g]at hpl;obtain ⟨P',e⟩:=e0k (n:=(P.length:Int)) (by omega) (by omega) f1 f2 he hpl;have hz:pl.zip (o0y P f)≠[]:=fun z=>by
  have:=congrArg List.length z;rw[List.length_zip,List.length_nil]at this;unfold o0y at this;rw[List.length_cons]at this;omega
 have hrn:rs≠[]:=fun z=>by rw[z]at hrow;exact hz hrow.symm
 have e1:=m0s h10 hrn;rw[hrow]at e1;exact ⟨P',by rw[w0o (by rw[e1];exact hz),e1];exact e⟩
noncomputable def lawTB:TS2:=fun E ρ δ=>∃c0 p ns n P f az bs,ρ=[c0,.val (.ref p),.val (.lst (P.map (rowT true))),.val (.int f),.val (.lst ((m6 P f).map txD)),.val (.lst ((i5 P f).map fun e=>D.int e.1)),.val (.int ((az:Nat):Int)),.own (bs.map txD),.no,.no,.no,.no,.no]∧DkAt p ns n δ∧n<2^17∧PlanOk P∧1≤(P.length:Int)∧0≤f∧f≤47∧BentT ((i5 P f).length+1) az bs∧∀ δ',E.rt (.bl true) δ'
noncomputable def lawTC:TS2:=fun E ρ δ=>∃c0 p ns n P f az bs c8,ρ=[c0,.val (.ref p),.val (.lst (P.map (rowT true))),.val (.int f),.val (.lst ((m6 P f).map txD)),.val (.lst ((i5 P f).map fun e=>D.int e.1)),.val (.int ((az:Nat):Int)),.own (bs.map txD),c8,.no,.no,.no,.no]∧DkAt p ns n δ∧n<2^18∧PlanOk P∧1≤(P.length:Int)∧0≤f∧f≤47∧BentT ((i5 P f).length+1) az bs∧∀ δ',E.rt (.bl true) δ'
noncomputable def lawTD:TS2:=fun E ρ δ=>∃c0 p ns n P f c5 c6 c7 c8 c9 c10,ρ=[c0,.val (.ref p),.val (.lst (P.map (rowT true))),.val (.int f),.val (.lst ((m6 P f).map txD)),c5,c6,c7,c8,c9,c10,.no,.no]∧DkAt p ns n δ∧n<2^19∧PlanOk P∧1≤(P.length:Int)∧0≤f∧f≤47∧∀ δ',E.rt (.bl true) δ'
theorem j0b{rs:List (List Nat)}(h10:∀r∈rs,10∉r)(hn:rs.length≤50)(hs:∀r∈rs,r.length≤41):TxtOk (u5 [10] rs)∧TxtOk (u5 [10] rs++[10]):=by
 have hj:=z0x (s:=[10]) (ps:=rs) (m:=41) hs;have h2:rs.length*(41+([10]:List Nat).length)≤50*42:=Nat.mul_le_mul_right _ hn;cases hr:rs with
 |nil=>exact ⟨v0o (by decide),v0o (by decide)⟩
 |cons a b=>
  rw[←hr];have hne:rs≠[]:=by rw[hr];simp
  have e1:=i8 rs hne h10;refine ⟨⟨by omega,by rw[e1];omega,by rw[e1];intro p hp;have:=hs p hp;omega⟩,?_⟩;have e2:n4 10 (u5 [10] rs++[10])=rs++[[]]:=by rw[←v0j hne];exact u0e h10
  refine ⟨by rw[List.length_append];show _+1≤_;omega,by rw[e2,List.length_append];show _+1≤_;omega,?_⟩;rw[e2];intro p hp;rcases List.mem_append.mp hp with hp |hp
  ·have:=hs p hp;omega
  ·rw[List.mem_singleton.mp hp];exact Nat.zero_le _
noncomputable abbrev e0i:List Str:=["_law_script"]
theorem sc_law:FnScope ["_law_script","_law_deck_here","_law_plan_here","_law_first","_law_lines_here","_law_rounds","_law_at","_law_bent","_law_later","_law_rows","_law_places","_law_text","_law_turn"] e0i (defScope x1e):=⟨rfl,rfl,rfl,by decide +kernel,rfl,by decide +kernel,by decide +kernel⟩
theorem ok_law{f:Addr}{fd:FuncData}(Df:DefAt K mg "law" x1e e0i f fd)(T:Txt K mg cs)(G_law_deck:u0m P w K mg base cs)(G_law_plan:u0b P w K mg base cs)(G_law_take:o6 P w K mg base cs)(G_law_lines:w0r P w K mg base cs)(G_law_head:u0a P w K mg base cs)(G_law_entry:w0q P w K mg base cs)(G_law_spaced:y0i P w K mg base cs)(G_law_is:v0p P w K mg base cs)(G_law_told:z0y P w K mg base cs)(G_law_none:u0c P w K mg base cs)(G_law_same:u0f P w K mg base cs)(G_law_signed:y0j P w K mg base cs):FnOk P w K mg base (CX1 P w) 11 f fd e0i (upF K i0q):=by
 have nd:=sc_law.nd;refine def2F Df sc_law (fun ds δ q x h=>?_) (fun cdv A outer s H E Y hr=>⟨_,(u0 (v4 1 nd (u3 G_law_deck (hr.mono (by decide)) o0 (z0 (e2_v 0) v0)))
  (u0 (v4 2 nd (u3 G_law_plan (hr.mono (by decide)) o0 (z0 (e2_v 1) v0)))
  (u0 (v4 3 nd (m0i o0l d_ix (l6 (z0 s0 (z0 s0 (z0 (u3 G_law_take (hr.mono (by decide)) o0 (z0 (e2_v 1) (z0 s0 v0))) v0)))) (u3 G_law_take (hr.mono (by decide)) o0 (z0 (e2_v 1) (z0 s0 v0)))))
  (u0 (v4 4 nd (u3 G_law_lines (hr.mono (by decide)) o0 (z0 (e2_v 2) (z0 (e2_v 3) v0))))
  (u0 (t0l (i:=5) rfl (CompOkM.of ["_law_at","_law_choice"] [3] rfl) (m0d T.n_enumerate (z0 (e2_v 2) v0)) (fun nd _ _ _ _ _=>(g9 rfl (j4 (x4 (i:=0) nd rfl (by first |exact Or.inl rfl |exact Or.inr rfl)) (j4 (x4 (i:=1) nd rfl (by first |exact Or.inl rfl |exact Or.inr rfl)) m7)))) (p0w (is:=[0,1]) rfl) (fun _ _ _ _ _ _=>(x0c (w4 (j0t hr.units0) c0c (e2_v 1) (l6 v0) (y4 _)))) (fun _ _ _ _ _ _=>(y3 o4 o5 (e2_v 2) (e2_v 0))) nd)
  (u0 (v4 6 nd (u3 G_law_take (hr.mono (by decide)) o0 (z0 (e2_v 1) (z0 (w5 4 T.n_len) v0))))
  (u0 (y1h 7 nd T.n_list (z0 (e2_v 4) v0))
  (u0 (y6 (w4 (y0q hr.units0) s0l (e2_v 6) s0 (y4 _)) (o3 (y0w 7 s0 (u3 G_law_head (hr.mono (by decide)) o0 (z0 (e2_v 1) (z0 (w5 2 T.n_len) (z0 (e2_v 3) v0)))))) (o3 (y0w 7 (e2_v 6) (u3 G_law_entry (hr.mono (by decide)) o0 (z0 (e2_v 1) (z0 (w5 2 T.n_len) (z0 (e2_v 3) (z0 (p4 4 (y3 f9 v0g (e2_v 6) s0)) (z0 (p4 5 (y3 f9 v0g (e2_v 6) s0)) v0)))))))))
  (p0s (t':=lawTB) (u0 (x0j PassesOwn.leaving rfl (w0g T.n_range (z0 (y3 o4 o5 (e2_v 6) s0) (z0 (w5 4 T.n_len) v0))) (x4 (i:=8) nd rfl (by first |exact Or.inl rfl |exact Or.inr rfl)) (v0f (i:=8)) (o3 (y6 (w4 (y0q hr.units0) s0l (u3 G_law_take (hr.mono (by decide)) o0 (z0 (e2_v 1) (z0 s0 v0))) s0 (y4 _)) (o3 (y0w 7 (e2_v 8) (u3 G_law_entry (hr.mono (by decide)) o0 (z0 (e2_v 1) (z0 (w5 2 T.n_len) (z0 (e2_v 3) (z0 l0 (z0 (p4 5 (y3 f9 v0g (e2_v 8) s0)) v0)))))))) p5)))
  (p0s (t':=lawTC) (u0 (n0t (u3 G_law_spaced (hr.mono (by decide)) o0 (z0 (e2_v 1) (z0 (e2_v 7) v0))) (g9 rfl (j4 (x4 (i:=9) nd rfl (by first |exact Or.inl rfl |exact Or.inr rfl)) (j4 (x4 (i:=10) nd rfl (by first |exact Or.inl rfl |exact Or.inr rfl)) m7))) (w0f (is:=[9,10]) rfl))
  (u0 (y6 (PW2.pt (o9 (o8 (z9 (u3 G_law_is (hr.mono (by decide)) o0 (z0 (n0n PySem.F.slot_str_join PySem.F.type_str_join s0j n0m l0 (z0 (e2_v 9) v0)) (z0 (p4 10 (e2_v 6)) v0))))) (a7 (o8 (z9 (u3 G_law_is (hr.mono (by decide)) o0 (z0 (y3 y0 n3 (n0n PySem.F.slot_str_join PySem.F.type_str_join s0j n0m l0 (z0 (e2_v 9) v0)) l0) (z0 (p4 10 (e2_v 6)) v0)))))))) (o3 (a3 s0u)) p5)
  (p0s (t':=lawTD) (u0 (n0t (u3 G_law_spaced (hr.mono (by decide)) o0 (z0 (e2_v 1) (z0 (e2_v 4) v0))) (g9 rfl (j4 (x4 (i:=9) nd rfl (by first |exact Or.inl rfl |exact Or.inr rfl)) (j4 (x4 (i:=10) nd rfl (by first |exact Or.inl rfl |exact Or.inr rfl)) m7))) (w0f (is:=[9,10]) rfl))
  (u0 (v4 11 nd (n0n PySem.F.slot_str_join PySem.F.type_str_join s0j n0m l0 (z0 (e2_v 9) v0)))
  (u0 (y6 (PW2.pt (o9 (w4 (w0b hr.units0) p0v (u3 G_law_told (hr.mono (by decide)) o0 (z0 (e2_v 11) v0)) (u6 (z0 l0 (z0 s0 v0))) (y4 _)) (a7 (o8 (z9 (u3 G_law_none (hr.mono (by decide)) o0 (z0 (e2_v 1) v0))))))) (o3 (a3 s0u)) p5)
  (u0 (x0j PassesOwn.leaving rfl (y0v T.n_range (z0 s0 v0)) (x4 (i:=12) nd rfl (by first |exact Or.inl rfl |exact Or.inr rfl)) (v0f (i:=12)) (o3 (y6 (o8 (z9 (u3 G_law_same (hr.mono (by decide)) o0 (z0 (u3 G_law_signed (hr.mono (by decide)) o0 (z0 (e2_v 1) (z0 (y3 y0 n3 (e2_v 11) (y3 y0e j0r l0 (u3 G_law_take (hr.mono (by decide)) o0 (z0 (e2_v 1) (z0 s0 v0))))) v0))) v0)))) (o3 (a3 s0u)) p5)))
  (o3 (a3 (q0y (y0q hr.units0) s0l (u3 G_law_told (hr.mono (by decide)) o0 (z0 (e2_v 11) v0)) (u6 (z0 l0 (z0 s0 v0))) (y4 _)))))))) (by
   rintro E ρ δ ⟨c0,p,ns,n,P,f',c5,c6,c7,c8,c9,c10,rfl,hD,hn,hp,n1,f1,f2,hq⟩;have hpl:=hp.l;have hsl:=b0d (f:=f') hp;walk_at "ds";refine ⟨p,ns,_,m6 P f',20,rfl,hD,by omega,hsl.1,by decide,fun l hl=>⟨hsl.2 l hl,((x0m hp f1 f2).2 l hl).2⟩,fun rs pl δ1 hfd hrl hrs hpl2 hrow hD=>?_⟩;walk_at "ds";rw[f0i];dsimp only;have h10:∀r∈rs,10∉r:=fun r hr=>(hrs r hr).2
   have hsum:=p0j (ps:=rs) (m:=41) fun r hr=>(hrs r hr).1
   obtain ⟨P',hg⟩:=k0r hp f1 f2 h10 hpl2 hrow;have tok:=j0b h10 hrl (fun r hr=>(hrs r hr).1);rw[n0f,s0b,List.length_map];refine ⟨by decide,by omega,?_⟩;generalize hl:u5 [10] rs=l at hg tok;have told:∀ δ (Q:D→Dk→Prop) x,Q (.tup [.str "read",.int 0]) δ→j0i cs [txD l] δ Q x:=fun δ Q x h=>by
    refine ⟨_,rfl,.inl ⟨l,rfl,tok.1,?_⟩⟩;rw[hg];exact h
   refine told _ _ _ ?_;walk_at "ds";refine ⟨rfl,?_⟩;rw[if_neg (by simp[eqDs,eqV,toV])];refine ⟨p,ns,_,rfl,hD,by omega,fun δ2 hD=>?_⟩;walk_at "ds";refine ⟨⟨by decide,by decide⟩,?_⟩;have hll:l.length≤625:=by
    have e:rs≠[]→feed rs=l++[10]:=fun h=>by rw[←hl];exact v0j h
    by_cases hr:rs=[]
    ·rw[←hl,hr];exact Nat.zero_le _
    ·have e:=congrArg List.length (e hr);rw[List.length_append]at e;have h25:(m6 P f').length*(20+5)≤25*25:=Nat.mul_le_mul_right _ hsl.1;have e1:([10]:List Nat).length=1:=rfl;omega
   have hl0:0<l.length:=by
    cases l with
    |nil=>exact absurd hg (by rw[show w6 []=.inl 1 from rfl];exact fun z=>by cases z)
    |cons a b=>simp
   refine y0t (fun i ρ δ'=>∃c5 c6 c7 c8 c9 c10 c12,ρ=[c0,.val (.ref p),.val (.lst (P.map (rowT true))),.val (.int f'),.val (.lst ((m6 P f').map txD)),c5,c6,c7,c8,c9,c10,.val (.str (tx l)),c12]∧DkAt p ns (n+100+5*i) δ') ⟨_,_,_,_,_,_,_,rfl,hD.mono (by omega)⟩ ?_ ?_
   ·rintro i d ρ δ' rest hi ⟨c5,c6,c7,c8,c9,c10,c12,rfl,hD⟩ hrest;obtain ⟨hi2,rfl⟩:=y9 hi;have hi3:i<4:=hi2;unfold w0e;walk_at "ds";refine ⟨p,ns,_,2,rfl,hD,by omega,by decide,by decide,fun a δ3 a1 a2 hD=>?_⟩;walk_at "ds";rw[j0m a1 (c:=10),u7,u4,u4,u4,List.length_replicate];refine ⟨a1,by omega,by decide,by omega,p,ns,_,l++List.replicate a.toNat 10,rfl,hD,by omega,by rw[List.length_append];omega,by rw[List.length_append,List.length_replicate];omega,fun l' δ4 hlen hD=>?_⟩;rw[List.length_append,List.length_replicate]at hlen;walk_at "ds";refine ⟨l',rfl,v0o (by omega),?_⟩;simp only[Bool.not_true];walk_at "ds";exact hrest _ _ ⟨_,_,_,_,_,_,_,rfl,hD.mono (by omega)⟩
   ·rintro ρ δ' ⟨c5,c6,c7,c8,c9,c10,c12,rfl,hD⟩;walk_at "ds";refine told _ _ _ ?_;walk_at "ds";exact ⟨rfl,by rw[show eqDs [.str "read",.int 0] [.str "read",.int 0]=true by simp[eqDs,eqV,toV]];exact hq _⟩)))) (by
   rintro E ρ δ ⟨c0,p,ns,n,P,f',az,bs,c8,rfl,hD,hn,hp,n1,f1,f2,hb,hq⟩;have hpl:=hp.l;have hel:=v0n (P:=P) (f:=f');have hlt:=hb.lt;have hln:=hb.len;walk_at "ds";refine ⟨p,ns,_,bs,40,rfl,hD,by omega,by omega,by decide,hb.ok,fun rs pl δ1 hfd hrl hrs hpl2 hrow hD=>?_⟩;walk_at "ds";rw[f0i];dsimp only;have h10:∀r∈rs,10∉r:=fun r hr=>(hrs r hr).2
   have hsum:=p0j (ps:=rs) (m:=41) fun r hr=>(hrs r hr).1
   have hk:pl[az]?=some (pl[az]'(by omega)):=List.getElem?_eq_getElem (by omega);obtain ⟨r1,r2⟩:=k0s hb h10 hpl2 hrow hk;have hjl:(u5 [10] rs).length≤50*42:=by
    have:=z0x (s:=[10]) (ps:=rs) (m:=41) fun r hr=>(hrs r hr).1
    have h2:rs.length*(41+([10]:List Nat).length)≤50*42:=Nat.mul_le_mul_right _ hrl;omega
   have hat:atI (pl.map D.int) (az:Int)=some (.int (pl[az]'(by omega))):=z0c (by rw[List.getElem?_map,hk];rfl);have tok:=j0b h10 hrl (fun r hr=>(hrs r hr).1);rw[n0f,s0b,hat,List.length_map];refine ⟨by decide,by omega,?_⟩;generalize pl[az]'(by omega)=kk at r1 r2 hat ⊢;have ok:∀l:List Nat,TxtOk l→w6 l=.inl kk→∀(Q:D→Dk→Prop) x,Q (.bl true) δ1→f0b [txD l,.int kk] δ1 Q x:=fun l hl e Q x h=>by
    refine ⟨_,kk,rfl,.inl ⟨l,rfl,hl,?_⟩⟩;rw[e,show decide (r0u (.inl kk)=some kk)=true by simp[r0u]];exact h
   dsimp only;refine ok (u5 [10] rs) tok.1 r1 _ _ ?_;walk_at "ds";rw[f0i];dsimp only;rw[s0b,u7,hat,List.length_map,u4,u4];refine ⟨by decide,by omega,by show _+1≤_;omega,?_⟩;dsimp only;refine ok (u5 [10] rs++[10]) tok.2 r2 _ _ ?_;walk_at "ds";exact ⟨_,p,ns,_,P,f',_,_,_,_,_,_,rfl,hD,by omega,hp,n1,f1,f2,hq⟩))) (by
   rintro E ρ δ ⟨c0,p,ns,n,P,f',az,bs,rfl,hD,hn,hp,n1,f1,f2,hb,hq⟩;have hpl:=hp.l;have hsl:=y0g (P:=P) (f:=f');have hel:=v0n (P:=P) (f:=f');have hlt:=hb.lt;walk_at "ds";rw[List.length_map,hsl];refine ⟨⟨by omega,by omega,by omega,by omega⟩,?_⟩;refine y0t (fun i ρ δ'=>∃bs c8,ρ=[c0,.val (.ref p),.val (.lst (P.map (rowT true))),.val (.int f'),.val (.lst ((m6 P f').map txD)),.val (.lst ((i5 P f').map fun e=>D.int e.1)),.val (.int (az:Int)),.own (bs.map txD),c8,.no,.no,.no,.no]∧DkAt p ns (n+2*i) δ'∧BentT ((i5 P f').length+1) az bs) ⟨bs,_,rfl,hD,hb⟩ ?_ ?_
   ·rintro i d ρ δ' rest hi ⟨bs,c8,rfl,hD,hb⟩ hrest;obtain ⟨hi2,rfl⟩:=y9 hi;have hbl:=hb.len;unfold w0e;walk_at "ds";refine ⟨p,ns,_,4,rfl,hD,by omega,by decide,by decide,fun a δ1 a1 a2 hD=>?_⟩;walk_at "ds";split
    ·have hge:(az+i)<(i5 P f').length:=by omega
     have hat:atI ((i5 P f').map fun e=>D.int e.1) ((az:Int)+1+(i:Int)-1)=some (.int ((i5 P f')[az+i]).1):=by
      rw[show (az:Int)+1+(i:Int)-1=((az+i:Nat):Int)by omega];exact z0c (by rw[List.getElem?_map,List.getElem?_eq_getElem hge];rfl)
     have hin:=r0q (List.getElem_mem hge);have hN1:0≤((i5 P f')[az+i]).1:=by have:=hin.2.2.1;omega
     have hN2:((i5 P f')[az+i]).1<100:=by have:=hin.2.2.2;omega
     rw[hat];dsimp only;rw[List.length_map,show Str.ofString "x"=tx [120]by decide +kernel];refine ⟨p,ns,_,(P.length:Int),f',_,[120],rfl,hD,by omega,n1,by omega,f1,f2,hN1,hN2,fun t δ2 ht hD=>?_⟩;rw[g0a];walk_at "ds";have hix:ixN (bs.map txD).length ((az:Int)+1+(i:Int))=some (az+1+i):=by
      unfold ixN;rw[List.length_map,if_pos (by omega),if_pos (by omega)];exact congrArg some (by omega)
     rw[hix];walk_at "ds";have hset:(bs.map txD).set (az+1+i) (txD t)=(bs.set (az+1+i) t).map txD:=(List.map_set).symm;rw[hset];exact hrest _ _ ⟨_,_,rfl,hD.mono (by omega),hb.later (by omega) (b0a hN1 hN2 n1 (by omega) f1 f2 ht)⟩
    ·exact hrest _ _ ⟨_,_,rfl,hD.mono (by omega),hb⟩
   ·rintro ρ δ' ⟨bs,c8,rfl,hD,hb⟩;rw[w8]at hD;exact ⟨_,p,ns,_,P,f',az,bs,_,rfl,hD,by omega,hp,n1,f1,f2,hb,hq⟩)))))))))),fun ds δ q x h=>?_⟩)
 ·unfold i0q at h;obtain ⟨ns,rfl,hl,rfl,hq⟩:=h;rfl
 ·unfold i0q at h;obtain ⟨ns,rfl,hl,rfl,hq⟩:=h;rw[show x5 ["_law_script","_law_deck_here","_law_plan_here","_law_first","_law_lines_here","_law_rounds","_law_at","_law_bent","_law_later","_law_rows","_law_places","_law_text","_law_turn"] _=[.val _,.no,.no,.no,.no,.no,.no,.no,.no,.no,.no,.no,.no]from rfl];walk_at "ds";refine ⟨ns,rfl,rfl,fun p δ0 hD=>?_⟩;walk_at "ds";refine ⟨p,ns,_,rfl,hD,by decide,fun P δ1 hp hne hD=>?_⟩;walk_at "ds";refine ⟨p,ns,_,48,rfl,hD,by decide,by decide,by decide,fun a0 δ3 a1 a2 hD=>?_⟩;walk_at "ds";refine ⟨p,ns,_,3,rfl,hD,by decide,by decide,by decide,fun b0 δ4 b1 b2 hD=>?_⟩;obtain ⟨z,ez,hz⟩:=atL (xs:=[.int 0,.int 47,.int a0]) b1 (by simpa using b2);have hz2:∃first:Int,z=.int first∧0≤first∧first≤47:=by
   simp only[List.mem_cons,List.not_mem_nil,or_false]at hz;rcases hz with rfl |rfl |rfl
   ·exact ⟨0,rfl,by decide,by decide⟩
   ·exact ⟨47,rfl,by decide,by decide⟩
   ·exact ⟨a0,rfl,a1,by omega⟩
  obtain ⟨f0,rfl,f1,f2⟩:=hz2;walk_at "ds";rw[ez];walk_at "ds";refine ⟨P,f0,rfl,hp,f1,f2,?_⟩;walk_at "ds";have hpl:=hp.l;have hsl:=y0g (P:=P) (f:=f0);have hel:=v0n (P:=P) (f:=f0);have n1:1≤(P.length:Int):=by
   obtain ⟨c,hc,_⟩:=hne;cases P with
   |nil=>cases hc
   |cons a b=>rw[List.length_cons];omega
  rw[z1r];refine t8 (fun p:Nat×List Int=>.tup [.int (p.1:Int),rowT true p.2]) (fun p:Nat×List Int=>D.int (f0+(p.1:Int))) (fun p=>decide (p.2≠[])) (k0t 0 P) (acc:=[]) (by rw[m0q];show 0+_≤_;omega) (fun pc hpc Q k1 k2=>⟨_,rfl,?_⟩) ?_
  ·obtain ⟨k,c⟩:=pc;simp only[capt,e9,List.map_cons,List.map_nil,List.getElem?_cons_zero,List.getElem?_cons_succ,List.cons_append,List.nil_append];rw[show rowT true c=.lst (c.map D.int)from rfl];walk_at "dn";refine ⟨by rw[List.all_eq_true.mpr (fun d hd=>by obtain ⟨z,_,rfl⟩:=List.mem_map.mp hd;rfl)];rfl,?_⟩;cases c with
   |nil=>exact k2 (by simp)
   |cons a b=>exact k1 (by simp)
  ·rw[List.nil_append,m0r P 0 f0,show f0+((0:Nat):Int)=f0 by omega];rw[List.length_map,hsl];refine ⟨p,ns,_,_,rfl,hD,by decide,by omega,by omega,fun a δ5 c1 c2 hD=>?_⟩;obtain ⟨az,rfl⟩:∃k:Nat,a=(k:Int):=⟨a.toNat,by omega⟩;walk_at "ds";cases az with
   |zero=>
    rw[if_pos (by rfl),List.length_map];refine ⟨p,ns,_,(P.length:Int),f0,rfl,hD,by decide,n1,by omega,f1,f2,fun ws δ6 hws hD=>?_⟩;rw[g0a];walk_at "ds";rw[if_pos (by rw[List.length_map];omega)];walk_at "ds";have hset:((m6 P f0).map txD).set 0 (txD (u5 [32] ws))=((m6 P f0).set 0 (u5 [32] ws)).map txD:=(List.map_set).symm;rw[hset];exact ⟨_,p,ns,_,P,f0,0,_,rfl,hD,by decide,hp,n1,f1,f2,e0j hp n1 f1 f2 hws,hq⟩
   |succ j=>
    rw[if_neg (by simp;omega),show ((j+1:Nat):Int)-1=(j:Int)by omega];have hge:j<(i5 P f0).length:=by omega
    have hbf:(m6 P f0)[j]?=some ((m6 P f0)[j]'(by omega)):=List.getElem?_eq_getElem (by omega);have hat1:atI ((m6 P f0).map txD) (j:Int)=some (txD ((m6 P f0)[j]'(by omega))):=z0c (by rw[List.getElem?_map,hbf];rfl);have hat2:atI ((i5 P f0).map fun e=>D.int e.1) (j:Int)=some (.int ((i5 P f0)[j]).1):=z0c (by rw[List.getElem?_map,List.getElem?_eq_getElem hge];rfl);have hin:=r0q (List.getElem_mem hge);have hN1:0≤((i5 P f0)[j]).1:=by have:=hin.2.2.1;omega
    have hN2:((i5 P f0)[j]).1<100:=by have:=hin.2.2.2;omega
    rw[hat1,hat2];dsimp only;rw[List.length_map];refine ⟨p,ns,_,(P.length:Int),f0,_,_,rfl,hD,by decide,n1,by omega,f1,f2,hN1,hN2,fun t δ6 ht hD=>?_⟩;rw[g0a];walk_at "ds";have hix:ixN ((m6 P f0).map txD).length ((j+1:Nat):Int)=some (j+1):=by
     unfold ixN;rw[List.length_map,if_pos (by omega),if_pos (by omega)];exact congrArg some (by omega)
    rw[hix];walk_at "ds";have hset:((m6 P f0).map txD).set (j+1) (txD t)=((m6 P f0).set (j+1) t).map txD:=(List.map_set).symm;rw[hset];exact ⟨_,p,ns,_,P,f0,j+1,_,rfl,hD,by decide,hp,n1,f1,f2,b0b hp n1 f1 f2 hN1 hN2 hge hbf ht,hq⟩
theorem r0g:FnScope ["self","row"] ["self","row"] (defScope z0u):=⟨rfl,rfl,rfl,by decide +kernel,rfl,by decide +kernel,by decide +kernel⟩
theorem r0f{f C:Addr}{fd:FuncData}(F:Fun K "__init__" "NoText.__init__" z0u f fd)(xc:XC K C)(n0:NoAttr K C "row"):FnOk P w K mg base CX0 1 f fd ["self","row"] (spXI C "row"):=by
 refine F.ok r0g (fun vs H Q E h=>?_) (fun cdv A outer s H vs Q E hr h=>⟨_,i0b (ps_x0 (pv 0) (pv 1) rfl),?_⟩)
 ·obtain ⟨x,v,rfl,_⟩:=h;rfl
 ·obtain ⟨x,v,rfl,hx,q⟩:=h;exact ⟨_,rfl,_,rfl,x,C,rfl,hx,xc,n0,fun d hd hne=>q d hd hne⟩
@[elab_as_elim] theorem el0{α:Type}{motive:List α→Prop}(us:List α)(hl:us.length=0)(h:motive []):motive us:=match us,hl with
 | [],_=>h
@[elab_as_elim] theorem el1{α:Type}{motive:List α→Prop}(us:List α)(hl:us.length=1)(h:∀a,motive [a]):motive us:=match us,hl with
 | [a],_=>h a
@[elab_as_elim] theorem el2{α:Type}{motive:List α→Prop}(us:List α)(hl:us.length=2)(h:∀a b,motive [a,b]):motive us:=match us,hl with
 | [a,b],_=>h a b
@[elab_as_elim] theorem el3{α:Type}{motive:List α→Prop}(us:List α)(hl:us.length=3)(h:∀a b c,motive [a,b,c]):motive us:=match us,hl with
 | [a,b,c],_=>h a b c
@[elab_as_elim] theorem el4{α:Type}{motive:List α→Prop}(us:List α)(hl:us.length=4)(h:∀a b c d,motive [a,b,c,d]):motive us:=match us,hl with
 | [a,b,c,d],_=>h a b c d
@[elab_as_elim] theorem el5{α:Type}{motive:List α→Prop}(us:List α)(hl:us.length=5)(h:∀a b c d e,motive [a,b,c,d,e]):motive us:=match us,hl with
 | [a,b,c,d,e],_=>h a b c d e
@[elab_as_elim] theorem el6{α:Type}{motive:List α→Prop}(us:List α)(hl:us.length=6)(h:∀a b c d e f,motive [a,b,c,d,e,f]):motive us:=match us,hl with
 | [a,b,c,d,e,f],_=>h a b c d e f
@[elab_as_elim] theorem el7{α:Type}{motive:List α→Prop}(us:List α)(hl:us.length=7)(h:∀a b c d e f g,motive [a,b,c,d,e,f,g]):motive us:=match us,hl with
 | [a,b,c,d,e,f,g],_=>h a b c d e f g
@[elab_as_elim] theorem el8{α:Type}{motive:List α→Prop}(us:List α)(hl:us.length=8)(h:∀a b c d e f g i,motive [a,b,c,d,e,f,g,i]):motive us:=match us,hl with
 | [a,b,c,d,e,f,g,i],_=>h a b c d e f g i
theorem all_mk{l:PySem.W.OpenLaw}{w:World}{K:PySem.W.Frag}{h:Heap}{mg:Str→Option Value}{fa:Addr}{cs:Cs}(X:K.In h)(G:h.Ns mainGlobals mg)(hfa:mg "law"=some (.ref fa))(T:Txt K mg cs)(h_is_number:HD.FnF K "is_number" x0b)(h_is_whole:HD.FnF K "is_whole" v0b)(h_is_row:HD.FnF K "is_row" p0q)(h_is_whole_row:HD.FnF K "is_whole_row" l9)(h_is_rising_row:HD.FnF K "is_rising_row" l8)(h_is_choice_among:HD.FnF K "is_choice_among" l7)(h_lines_of:HD.FnF K "lines_of" v0a)(h_words_of:HD.FnF K "words_of" u0z)(h_number_of:HD.FnF K "number_of" x0a)(h_read_head:HD.FnF K "read_head" w0z)(h_read_round:HD.FnF K "read_round" y0o)(h_rows_of:HD.FnF K "rows_of" s0e)(h_read_plan:HD.FnF K "read_plan" w0y)(h_law_cell:HD.FnF K "_law_cell" u0y)(h_law_draw:HD.FnF K "_law_draw" u0x)(h_law_deck:HD.FnF K "_law_deck" u0w)(h_law_take:HD.FnF K "_law_take" u0v)(h_law_number:HD.FnF K "_law_number" y0n)(h_law_plan:HD.FnF K "_law_plan" u0u)(h_law_lines:HD.FnF K "_law_lines" w0x)(h_law_head:HD.FnF K "_law_head" u0t)(h_law_entry:HD.FnF K "_law_entry" w0w)(h_law_spaced:HD.FnF K "_law_spaced" y0m)(h_law_told:HD.FnF K "_law_told" u0s)(h_law_is:HD.FnF K "_law_is" p0p)(h_law_signed:HD.FnF K "_law_signed" y0l)(h_law_whole:HD.FnF K "_law_whole" w0v)(h_law_head_read:HD.FnF K "_law_head_read" k8)(h_law_entry_read:HD.FnF K "_law_entry_read" d7)(h_law_reading:HD.FnF K "_law_reading" z0v)(h_law_pair:HD.FnF K "_law_pair" u0r)(h_law_same:HD.FnF K "_law_same" u0q)(h_law_none:HD.FnF K "_law_none" u0p)(h_law:HD.FnF K "law" x1e)(x_NoText:HD.XMkF K cs.NoText "NoText.__init__" z0u):
 ∃fd:FuncData,(∀(s:Shared) (v:Value),BindsTo s fd ⟨[v],[]⟩ [("_law_script",v)])∧∀base:Heap,K.In base→base.Ns mainGlobals mg→FnOk l.prog w K mg base (CX1 l.prog w) 11 fa fd e0i (upF K i0q):=by
 obtain ⟨f_is_number,d_is_number,D_is_number⟩:=h_is_number.at X G (ps:=z0s) fun _ _ _ _ _ _ us hl=>el1 us hl (fun _=>rfl)
 obtain ⟨f_is_whole,d_is_whole,D_is_whole⟩:=h_is_whole.at X G (ps:=y0c) fun _ _ _ _ _ _ us hl=>el3 us hl (fun _ _ _=>rfl)
 obtain ⟨f_is_row,d_is_row,D_is_row⟩:=h_is_row.at X G (ps:=t0i) fun _ _ _ _ _ _ us hl=>el1 us hl (fun _=>rfl)
 obtain ⟨f_is_whole_row,d_is_whole_row,D_is_whole_row⟩:=h_is_whole_row.at X G (ps:=f7) fun _ _ _ _ _ _ us hl=>el5 us hl (fun _ _ _ _ _=>rfl)
 obtain ⟨f_is_rising_row,d_is_rising_row,D_is_rising_row⟩:=h_is_rising_row.at X G (ps:=v7) fun _ _ _ _ _ _ us hl=>el3 us hl (fun _ _ _=>rfl)
 obtain ⟨f_is_choice_among,d_is_choice_among,D_is_choice_among⟩:=h_is_choice_among.at X G (ps:=n6) fun _ _ _ _ _ _ us hl=>el2 us hl (fun _ _=>rfl)
 obtain ⟨f_lines_of,d_lines_of,D_lines_of⟩:=h_lines_of.at X G (ps:=x0u) fun _ _ _ _ _ _ us hl=>el1 us hl (fun _=>rfl)
 obtain ⟨f_words_of,d_words_of,D_words_of⟩:=h_words_of.at X G (ps:=x0v) fun _ _ _ _ _ _ us hl=>el1 us hl (fun _=>rfl)
 obtain ⟨f_number_of,d_number_of,D_number_of⟩:=h_number_of.at X G (ps:=z0r) fun _ _ _ _ _ _ us hl=>el3 us hl (fun _ _ _=>rfl)
 obtain ⟨f_read_head,d_read_head,D_read_head⟩:=h_read_head.at X G (ps:=z0p) fun _ _ _ _ _ _ us hl=>el1 us hl (fun _=>rfl)
 obtain ⟨f_read_round,d_read_round,D_read_round⟩:=h_read_round.at X G (ps:=s9) fun _ _ _ _ _ _ us hl=>el3 us hl (fun _ _ _=>rfl)
 obtain ⟨f_rows_of,d_rows_of,D_rows_of⟩:=h_rows_of.at X G (ps:=v0q) fun _ _ _ _ _ _ us hl=>el1 us hl (fun _=>rfl)
 obtain ⟨f_read_plan,d_read_plan,D_read_plan⟩:=h_read_plan.at X G (ps:=z0n) fun _ _ _ _ _ _ us hl=>el1 us hl (fun _=>rfl)
 obtain ⟨f_law_cell,d_law_cell,D_law_cell⟩:=h_law_cell.at X G (ps:=y0b) fun _ _ _ _ _ _ us hl=>el2 us hl (fun _ _=>rfl)
 obtain ⟨f_law_draw,d_law_draw,D_law_draw⟩:=h_law_draw.at X G (ps:=x0z) fun _ _ _ _ _ _ us hl=>el3 us hl (fun _ _ _=>rfl)
 obtain ⟨f_law_deck,d_law_deck,D_law_deck⟩:=h_law_deck.at X G (ps:=x0y) fun _ _ _ _ _ _ us hl=>el1 us hl (fun _=>rfl)
 obtain ⟨f_law_take,d_law_take,D_law_take⟩:=h_law_take.at X G (ps:=x0x) fun _ _ _ _ _ _ us hl=>el2 us hl (fun _ _=>rfl)
 obtain ⟨f_law_number,d_law_number,D_law_number⟩:=h_law_number.at X G (ps:=u9) fun _ _ _ _ _ _ us hl=>el2 us hl (fun _ _=>rfl)
 obtain ⟨f_law_plan,d_law_plan,D_law_plan⟩:=h_law_plan.at X G (ps:=x0o) fun _ _ _ _ _ _ us hl=>el1 us hl (fun _=>rfl)
 obtain ⟨f_law_lines,d_law_lines,D_law_lines⟩:=h_law_lines.at X G (ps:=z0h) fun _ _ _ _ _ _ us hl=>el2 us hl (fun _ _=>rfl)
 obtain ⟨f_law_head,d_law_head,D_law_head⟩:=h_law_head.at X G (ps:=x0n) fun _ _ _ _ _ _ us hl=>el3 us hl (fun _ _ _=>rfl)
 obtain ⟨f_law_entry,d_law_entry,D_law_entry⟩:=h_law_entry.at X G (ps:=z0g) fun _ _ _ _ _ _ us hl=>el5 us hl (fun _ _ _ _ _=>rfl)
 obtain ⟨f_law_spaced,d_law_spaced,D_law_spaced⟩:=h_law_spaced.at X G (ps:=p9) fun _ _ _ _ _ _ us hl=>el2 us hl (fun _ _=>rfl)
 obtain ⟨f_law_told,d_law_told,D_law_told⟩:=h_law_told.at X G (ps:=x0s) fun _ _ _ _ _ _ us hl=>el1 us hl (fun _=>rfl)
 obtain ⟨f_law_is,d_law_is,D_law_is⟩:=h_law_is.at X G (ps:=t0e) fun _ _ _ _ _ _ us hl=>el2 us hl (fun _ _=>rfl)
 obtain ⟨f_law_signed,d_law_signed,D_law_signed⟩:=h_law_signed.at X G (ps:=q9) fun _ _ _ _ _ _ us hl=>el2 us hl (fun _ _=>rfl)
 obtain ⟨f_law_whole,d_law_whole,D_law_whole⟩:=h_law_whole.at X G (ps:=z0l) fun _ _ _ _ _ _ us hl=>el3 us hl (fun _ _ _=>rfl)
 obtain ⟨f_law_head_read,d_law_head_read,D_law_head_read⟩:=h_law_head_read.at X G (ps:=o7) fun _ _ _ _ _ _ us hl=>el1 us hl (fun _=>rfl)
 obtain ⟨f_law_entry_read,d_law_entry_read,D_law_entry_read⟩:=h_law_entry_read.at X G (ps:=i6) fun _ _ _ _ _ _ us hl=>el3 us hl (fun _ _ _=>rfl)
 obtain ⟨f_law_reading,d_law_reading,D_law_reading⟩:=h_law_reading.at X G (ps:=v8) fun _ _ _ _ _ _ us hl=>el1 us hl (fun _=>rfl)
 obtain ⟨f_law_pair,d_law_pair,D_law_pair⟩:=h_law_pair.at X G (ps:=x0r) fun _ _ _ _ _ _ us hl=>el3 us hl (fun _ _ _=>rfl)
 obtain ⟨f_law_same,d_law_same,D_law_same⟩:=h_law_same.at X G (ps:=x0q) fun _ _ _ _ _ _ us hl=>el1 us hl (fun _=>rfl)
 obtain ⟨f_law_none,d_law_none,D_law_none⟩:=h_law_none.at X G (ps:=x0p) fun _ _ _ _ _ _ us hl=>el1 us hl (fun _=>rfl)
 obtain ⟨f_law,d_law,D_law⟩:=h_law.at X G (ps:=e0i) fun _ _ _ _ _ _ us hl=>el1 us hl (fun _=>rfl)
 obtain ⟨fi_NoText,fd_NoText,m_NoText,F_NoText⟩:=x_NoText;have M_NoText:∀base,MkE l.prog w K mg base "NoText" cs.NoText 1 ["self","row"] (spXI cs.NoText "row"):=fun base=>⟨⟨fi_NoText,_,m_NoText,r0f F_NoText (T.err _ (List.mem_of_getElem? (show cs.ds[0]?=some cs.NoText from rfl))).xc T.a_NoText_row,F_NoText.binds (ps:=["self","row"]) fun _ _ _ _ _ _ us hl=>el2 us hl (fun _ _=>rfl)⟩,T.c_NoText⟩
 have G_law_cell:∀base,y0a l.prog w K mg base cs:=fun base=>l0w D_law_cell T
 have G_law_deck:∀base,u0m l.prog w K mg base cs:=fun base=>l0u D_law_deck T (G_law_cell base)
 have G_law_draw:∀base,u0n l.prog w K mg base cs:=fun base=>l0v D_law_draw T (G_law_cell base)
 have G_law_take:∀base,o6 l.prog w K mg base cs:=fun base=>l0t D_law_take T (G_law_draw base)
 have G_law_plan:∀base,u0b l.prog w K mg base cs:=fun base=>k0x D_law_plan T (G_law_take base)
 have G_law_lines:∀base,w0r l.prog w K mg base cs:=fun base=>m0v D_law_lines T
 have G_law_head:∀base,u0a l.prog w K mg base cs:=fun base=>k0v D_law_head T (G_law_take base)
 have G_law_entry:∀base,w0q l.prog w K mg base cs:=fun base=>m0u D_law_entry T (G_law_take base)
 have G_law_spaced:∀base,y0i l.prog w K mg base cs:=fun base=>p0a D_law_spaced T (G_law_take base)
 have G_lines_of:∀base,u0j l.prog w K mg base cs:=fun base=>l0l D_lines_of T
 have G_words_of:∀base,u0k l.prog w K mg base cs:=fun base=>l0m D_words_of T
 have G_rows_of:∀base,r0x l.prog w K mg base cs:=fun base=>i0k D_rows_of T (G_lines_of base) (G_words_of base) (M_NoText base)
 have G_number_of:∀base,z0q l.prog w K mg base cs:=fun base=>n0e D_number_of T
 have G_read_head:∀base,w0s l.prog w K mg base cs:=fun base=>n0d D_read_head T (G_number_of base)
 have G_is_row:∀base,p0m l.prog w K mg base cs:=fun base=>f0n D_is_row T
 have G_is_number:∀base,w0u l.prog w K mg base cs:=fun base=>n0h D_is_number T
 have G_is_whole:∀base,u0o l.prog w K mg base cs:=fun base=>l0x D_is_whole T (G_is_number base)
 have G_is_whole_row:∀base,k9 l.prog w K mg base cs:=fun base=>s0c D_is_whole_row T (G_is_row base) (G_is_whole base)
 have G_is_rising_row:∀base,j8 l.prog w K mg base cs:=fun base=>t0p D_is_rising_row T (G_is_whole_row base)
 have G_is_choice_among:∀base,j7 l.prog w K mg base cs:=fun base=>v0z D_is_choice_among T (G_is_rising_row base)
 have G_read_round:∀base,y0k l.prog w K mg base cs:=fun base=>p0h D_read_round T (G_number_of base) (G_is_choice_among base)
 have G_read_plan:∀base,z0m l.prog w K mg base cs:=fun base=>n0b D_read_plan T (G_rows_of base) (G_read_head base) (G_read_round base) (M_NoText base)
 have G_law_told:∀base,z0y l.prog w K mg base cs:=fun base=>l0h D_law_told T (G_read_plan base)
 have G_law_number:∀base,t9 l.prog w K mg base cs:=fun base=>p0n D_law_number T
 have G_law_is:∀base,v0p l.prog w K mg base cs:=fun base=>f0a D_law_is T (G_law_told base) (G_law_number base)
 have G_law_none:∀base,u0c l.prog w K mg base cs:=fun base=>k0y D_law_none T (G_law_take base) (G_law_is base)
 have G_law_whole:∀base,z0k l.prog w K mg base cs:=fun base=>n0a D_law_whole T
 have G_law_head_read:∀base,g8 l.prog w K mg base cs:=fun base=>t0o D_law_head_read T (G_law_whole base)
 have G_law_entry_read:∀base,b7 l.prog w K mg base cs:=fun base=>u0h D_law_entry_read T (G_law_whole base)
 have G_law_reading:∀base,z0j l.prog w K mg base cs:=fun base=>r0j D_law_reading T (G_law_head_read base) (G_law_entry_read base)
 have G_law_pair:∀base,u0g l.prog w K mg base cs:=fun base=>l0b D_law_pair T (G_law_number base)
 have G_law_same:∀base,u0f l.prog w K mg base cs:=fun base=>l0a D_law_same T (G_law_reading base) (G_law_is base) (G_law_told base) (G_law_pair base) (G_read_plan base)
 have G_law_signed:∀base,y0j l.prog w K mg base cs:=fun base=>p0e D_law_signed T (G_law_take base)
 obtain ⟨_,_,_,_,_,_,_,_,_,rfl,_,_⟩:=D_law.F.ex;have e:=hfa.symm.trans D_law.m;cases e;exact ⟨_,fun s v=>.of_eq rfl,fun base _ _=>ok_law D_law T (G_law_deck base) (G_law_plan base) (G_law_take base) (G_law_lines base) (G_law_head base) (G_law_entry base) (G_law_spaced base) (G_law_is base) (G_law_told base) (G_law_none base) (G_law_same base) (G_law_signed base)⟩
end
end K33
namespace HD33
open PySem PySem.W PyProof.Rows PySem.Calls HD
open K33 (top)
noncomputable abbrev PW:Program:=PySem.Challenge.pw_wearplan_k33_plan_texts_refused
noncomputable def env:Env:=⟨PW.main.scope,mainNs,mainNs,[],Str.empty,none,(r 13),some 14,0⟩
noncomputable def cE:Code:=.body (behindTheImports PW) env
noncomputable abbrev fp:Pos:=⟨0,0,0,0⟩
noncomputable abbrev BB:List Frame:=[topFrame fp]
noncomputable def life:Life:={}
noncomputable def drawn:Drawn:={}
noncomputable def o11_0(P:Params):Obj:=tp []
noncomputable def o12_0(P:Params):Obj:=fl N []
noncomputable def o13_0(P:Params):Obj:=fl (ty "code") [(s "<module>" 182),(s "<module>" 183),(s "/claim/cut.py" 184),(i 1 0),(i 0 0),(i 0 0),(i 0 0),(i 0 0),(r 11),(b false),(i 181 0),(r 12),N,N,N,N,(i 185 0),(i 1 0),(s "/claim/cut.py" 186)]
noncomputable def o14_0(P:Params):Obj:={cls:=(ty "frame"),slots:=⟨[some (r 13),some (r 3),some (r 3),none,some (s "__main__" 164),none,some (r 0)]⟩}
noncomputable def t0(P:Params):BT:=(.node (boot_o_0 P) (.node (boot_o_1 P) (.node (boot_o_3 P) (.node (boot_o_7 P) .nil .nil) (.node (o11_0 P) .nil .nil)) (.node (boot_o_5 P) (.node (boot_o_9 P) .nil .nil) (.node (o13_0 P) .nil .nil))) (.node (boot_o_2 P) (.node (boot_o_4 P) (.node (boot_o_8 P) .nil .nil) (.node (o12_0 P) .nil .nil)) (.node (boot_o_6 P) (.node (boot_o_10 P) .nil .nil) (.node (o14_0 P) .nil .nil))))
theorem pre(w:World)(os:OsState):topGo treeTable PW w 11 (some (r 6)) 12 ⟨boot_heap w.params,⟨[]⟩,boot_drawn,boot_toks,os⟩ (topStub PW)=some ((SharedT.abs ⟨t0 w.params,15,life,⟨[]⟩,drawn,187,os⟩),⟨denote treeTable cE,cE,⟨0,0,0,0⟩,BB⟩):=turnGo (by rw[PySem.W.Fast.te11892475500146522536,PySem.W.Fast.te14364793385576792824];kernel_rfl)
theorem blk(w:World)(os:OsState):segRun treeTable PW w 11 (some (r 6)) 1 1 (SharedT.abs ⟨t0 w.params,15,life,⟨[]⟩,drawn,187,os⟩) (blockOf (behindTheImports PW) env cE ⟨0,0,0,0⟩ BB)=some (.next,(SharedT.abs ⟨t0 w.params,15,life,⟨[]⟩,drawn,187,os⟩),cE,⟨0,0,0,0⟩):=f0t (by kernel_rfl)
noncomputable def sts1:List Stmt:=[top 0,top 1]
noncomputable def e3_0(P:Params):List DictEntry:=[en P "__name__" 165 (s "wearplan.errors" 187),en P "__doc__" 166 N,en P "__package__" 167 N,en P "__loader__" 168 (bi "__main__.__loader__#opaque"),en P "__spec__" 169 N,en P "__annotations__" 170 (r 6),en P "__builtins__" 171 (r 4),en P "__file__" 173 (s "/claim/cut.py" 172),en P "__cached__" 174 N,en P "WearError" 206 (r 24)]
noncomputable def o3_0(P:Params):Obj:=di (e3_0 P) 10
noncomputable def e12_1(P:Params):List Value:=[(i 2 0),(i 0 0),(r 20)]
noncomputable def o12_1(P:Params):Obj:=fl N (e12_1 P)
noncomputable def g1(P:Params):List Obj:=[tp [(ty "ValueError")],fl (ty "builtin_function_or_method") [(bi "type.__prepare__"),(ty "type")],di [en P "__module__" 196 (s "wearplan.errors" 187),en P "__qualname__" 198 (s "WearError" 197),en P "__firstlineno__" 200 (i 2 199),en P "__static_attributes__" 201 (r 22)] 4,tp [],fl N [],fl (ty "code") [(s "WearError" 191),(s "WearError" 192),(s "/claim/cut.py" 193),(i 2 0),(i 0 0),(i 0 0),(i 0 0),(i 0 0),(r 18),(b false),(i 181 0),(r 19),N,N,N,N,(i 194 0),(i 2 0),(s "/claim/cut.py" 195)],{cls:=(ty "frame"),slots:=⟨[some (r 20),some (r 3),some (r 17),none,some (s "wearplan.errors" 187),none,some (r 0)]⟩},tp [],di [en P "__module__" 196 (s "wearplan.errors" 187),en P "__firstlineno__" 200 (i 2 199),en P "__static_attributes__" 201 (r 22),en P "__weakref__" 203 (r 25),en P "__doc__" 204 N] 3,co "WearError" [(ty "ValueError")] [(r 24),(ty "ValueError"),(ty "Exception"),(ty "BaseException"),(ty "object")] 23 "WearError" true false [] [some (r 15),none,some (s "WearError" 189),some (s "WearError" 197),some (bi "ValueError.__new__"),some (b true)],fl (ty "getset_descriptor") [(s "__weakref__" 202),(r 24),(bi "ExceptionGroup.__weakref__"),N],fl (ty "super") [(r 24),(r 24),(r 24)],fl (ty "builtin_function_or_method") [(bi "object.__init_subclass__"),(r 24)]]
noncomputable def t1(P:Params):BT:=insL (g1 P) 15 (setL [(3,o3_0 P),(12,o12_1 P)] (t0 P))
theorem pc1(w:World)(os:OsState):segRun treeTable PW w 11 (some (r 6)) 1 196 (SharedT.abs ⟨t0 w.params,15,life,⟨[]⟩,drawn,187,os⟩) (piecesOf sts1 env cE ⟨0,0,0,0⟩ BB)=some (.next,(SharedT.abs ⟨t1 w.params,28,life,⟨[]⟩,drawn,207,os⟩),cE,⟨2,0,3,8⟩):=segRun_of (s0f (by kernel_rfl))
noncomputable def sts2:List Stmt:=[top 2,top 3,top 4,top 5,top 6,top 7,top 8]
noncomputable def e3_1(P:Params):List DictEntry:=((e3_0 P).set 0 (en P "__name__" 165 (s "wearplan.signs" 232)))++[en P "NoText" 231 (r 44),en P "is_number" 240 (r 53),en P "is_whole" 249 (r 60),en P "is_row" 256 (r 67),en P "is_whole_row" 262 (r 72),en P "is_rising_row" 268 (r 77)]
noncomputable def o3_1(P:Params):Obj:=di (e3_1 P) 16
noncomputable def e12_2(P:Params):List Value:=e12_1 P++[(i 4 0),(i 0 0),(r 33),(i 9 0),(i 0 0),(r 52),(i 11 0),(i 0 0),(r 59),(i 13 0),(i 0 0),(r 66),(i 15 0),(i 0 0),(r 71),(i 19 0),(i 0 0),(r 76)]
noncomputable def o12_2(P:Params):Obj:=fl N (e12_2 P)
noncomputable def w1m(P:Params):Obj:=co "WearError" [(ty "ValueError")] [(r 24),(ty "ValueError"),(ty "Exception"),(ty "BaseException"),(ty "object")] 23 "WearError" true false [(r 44)] [some (r 15),none,some (s "WearError" 189),some (s "WearError" 197),some (bi "ValueError.__new__"),some (b true)]
noncomputable def g2(P:Params):List Obj:=(tp [(r 24)]::fl (ty "builtin_function_or_method") [(bi "type.__prepare__"),(ty "type")]::di [en P "__module__" 214 (s "wearplan.errors" 187),en P "__qualname__" 216 (s "NoText" 215),en P "__firstlineno__" 218 (i 4 217),en P "__init__" 226 (r 41),en P "__static_attributes__" 228 (r 42)] 5::tp []::fl N [(i 6 0),(i 4 0),(r 40)]::fl (ty "code") [(s "NoText" 209),(s "NoText" 210),(s "/claim/cut.py" 211),(i 4 0),(i 0 0),(i 0 0),(i 0 0),(i 0 0),(r 31),(b false),(i 181 0),(r 32),N,N,N,N,(i 212 0),(i 4 0),(s "/claim/cut.py" 213)]::{cls:=(ty "frame"),slots:=⟨[some (r 33),some (r 3),some (r 30),none,some (s "wearplan.errors" 187),none,some (r 0)]⟩}::tp []::fl N []::tp [(s "self" 222),(s "row" 223)]::tp []::fn N "__init__" "NoText.__init__" (L2.inClass (top 2) 0) 0 N N::fl (ty "code") [(s "__init__" 219),(s "NoText.__init__" 220),(s "/claim/cut.py" 221),(i 6 0),(i 2 0),(i 0 0),(i 0 0),(i 3 0),(r 35),(b true),(i 181 0),(r 36),N,(r 37),(r 38),(r 39),(i 224 0),(i 6 0),(s "/claim/cut.py" 225)]::fn (ty "function") "__init__" "NoText.__init__" (L2.inClass (top 2) 0) 3 (s "wearplan.errors" 187) (r 40)::tp [(s "row" 227)]::di [en P "__module__" 214 (s "wearplan.errors" 187),en P "__firstlineno__" 218 (i 4 217),en P "__init__" 226 (r 41),en P "__static_attributes__" 228 (r 42),en P "__doc__" 229 N] 2::co "NoText" [(r 24)] [(r 44),(r 24),(ty "ValueError"),(ty "Exception"),(ty "BaseException"),(ty "object")] 43 "NoText" true false [] [some (r 28),none,some (s "NoText" 207),some (s "NoText" 215),some (bi "ValueError.__new__"),some (b true)]::fl (ty "super") [(r 44),(r 44),(r 44)]::fl (ty "builtin_function_or_method") [(bi "object.__init_subclass__"),(r 44)]::tp []::fl N []::tp [(s "thing" 237)]::tp []::fn N "is_number" "is_number" (top 4) 0 N N::fl (ty "code") [(s "is_number" 234),(s "is_number" 235),(s "/claim/cut.py" 236),(i 9 0),(i 1 0),(i 0 0),(i 0 0),(i 3 0),(r 47),(b true),(i 181 0),(r 48),N,(r 49),(r 50),(r 51),(i 238 0),(i 9 0),(s "/claim/cut.py" 239)]::fn (ty "function") "is_number" "is_number" (top 4) 3 (s "wearplan.signs" 232) (r 52)::tp []::fl N []::tp [(s "thing" 244),(s "least" 245),(s "most" 246)]::tp []::fn N "is_whole" "is_whole" (top 5) 0 N N::fl (ty "code") [(s "is_whole" 241),(s "is_whole" 242),(s "/claim/cut.py" 243),(i 11 0),(i 3 0),(i 0 0),(i 0 0),(i 3 0),(r 54),(b true),(i 181 0),(r 55),N,(r 56),(r 57),(r 58),(i 247 0),(i 11 0),(s "/claim/cut.py" 248)]::fn (ty "function") "is_whole" "is_whole" (top 5) 3 (s "wearplan.signs" 232) (r 59)::tp []::fl N []::tp [(s "thing" 253)]::tp []::fn N "is_row" "is_row" (top 6) 0 N N::fl (ty "code") [(s "is_row" 250),(s "is_row" 251),(s "/claim/cut.py" 252),(i 13 0),(i 1 0),(i 0 0),(i 0 0),(i 3 0),(r 61),(b true),(i 181 0),(r 62),N,(r 63),(r 64),(r 65),(i 254 0),(i 13 0),(s "/claim/cut.py" 255)]::fn (ty "function") "is_row" "is_row" (top 6) 3 (s "wearplan.signs" 232) (r 66)::tp []::fl N []::fn N "is_whole_row" "is_whole_row" (top 7) 0 N N::fl (ty "code") [(s "is_whole_row" 257),(s "is_whole_row" 258),(s "/claim/cut.py" 259),(i 15 0),(i 5 0),(i 0 0),(i 0 0),(i 3 0),(r 68),(b true),(i 181 0),(r 69),N,N,N,(r 70),(i 260 0),(i 15 0),(s "/claim/cut.py" 261)]::fn (ty "function") "is_whole_row" "is_whole_row" (top 7) 3 (s "wearplan.signs" 232) (r 71)::tp []::fl N []::fn N "is_rising_row" "is_rising_row" (top 8) 0 N N::fl (ty "code") [(s "is_rising_row" 263),(s "is_rising_row" 264),(s "/claim/cut.py" 265),(i 19 0),(i 3 0),(i 0 0),(i 0 0),(i 3 0),(r 73),(b true),(i 181 0),(r 74),N,N,N,(r 75),(i 266 0),(i 19 0),(s "/claim/cut.py" 267)]::fn (ty "function") "is_rising_row" "is_rising_row" (top 8) 3 (s "wearplan.signs" 232) (r 76):: [])
noncomputable def t2(P:Params):BT:=insL (g2 P) 28 (setL [(3,o3_1 P),(12,o12_2 P),(24,w1m P)] (t1 P))
theorem pc2(w:World)(os:OsState):segRun treeTable PW w 11 (some (r 6)) 1 396 (SharedT.abs ⟨t1 w.params,28,life,⟨[]⟩,drawn,207,os⟩) (piecesOf sts2 env cE ⟨2,0,3,8⟩ BB)=some (.next,(SharedT.abs ⟨t2 w.params,78,life,⟨[]⟩,drawn,269,os⟩),cE,⟨19,0,22,71⟩):=segRun_of (s0f (by kernel_rfl))
noncomputable def sts3:List Stmt:=[top 9,top 10,top 11,top 12,top 13,top 14,top 15,top 16,top 17,top 18,top 19,top 20,top 21,top 22,top 23,top 24,top 25]
noncomputable def e3_2(P:Params):List DictEntry:=((e3_1 P).set 0 (en P "__name__" 165 (s "law_wearplan_k33_plan_texts_refused" 348)))++[en P "GREATEST_FIRST" 270 (i 47 269),en P "MOST_ROUNDS" 272 (i 24 271),en P "MOST_PARTS" 276 (i 4 275),en P "is_choice_among" 284 (r 84),en P "lines_of" 294 (r 91),en P "words_of" 300 (r 96),en P "number_of" 310 (r 103),en P "read_head" 319 (r 110),en P "read_round" 325 (r 115),en P "rows_of" 331 (r 120),en P "read_plan" 347 (r 127),en P "_law_cell" 357 (r 134),en P "_law_draw" 367 (r 141),en P "_law_deck" 375 (r 148)]
noncomputable def o3_2(P:Params):Obj:=di (e3_2 P) 30
noncomputable def e12_3(P:Params):List Value:=e12_2 P++[(i 27 0),(i 0 0),(r 83),(i 30 0),(i 0 0),(r 90),(i 35 0),(i 0 0),(r 95),(i 37 0),(i 0 0),(r 102),(i 42 0),(i 0 0),(r 109),(i 50 0),(i 0 0),(r 114),(i 58 0),(i 0 0),(r 119),(i 67 0),(i 0 0),(r 126),(i 83 0),(i 0 0),(r 133),(i 87 0),(i 0 0),(r 140),(i 91 0),(i 0 0),(r 147)]
noncomputable def o12_3(P:Params):Obj:=fl N (e12_3 P)
noncomputable def g3(P:Params):List Obj:=(tp []::fl N []::tp [(s "thing" 280),(s "many" 281)]::tp []::fn N "is_choice_among" "is_choice_among" (top 13) 0 N N::fl (ty "code") [(s "is_choice_among" 277),(s "is_choice_among" 278),(s "/claim/cut.py" 279),(i 27 0),(i 2 0),(i 0 0),(i 0 0),(i 3 0),(r 78),(b true),(i 181 0),(r 79),N,(r 80),(r 81),(r 82),(i 282 0),(i 27 0),(s "/claim/cut.py" 283)]::fn (ty "function") "is_choice_among" "is_choice_among" (top 13) 3 (s "wearplan.works" 273) (r 83)::tp []::fl N []::tp [(s "text" 290),(s "lines" 291)]::tp []::fn N "lines_of" "lines_of" (top 15) 0 N N::fl (ty "code") [(s "lines_of" 287),(s "lines_of" 288),(s "/claim/cut.py" 289),(i 30 0),(i 1 0),(i 0 0),(i 0 0),(i 3 0),(r 85),(b true),(i 181 0),(r 86),N,(r 87),(r 88),(r 89),(i 292 0),(i 30 0),(s "/claim/cut.py" 293)]::fn (ty "function") "lines_of" "lines_of" (top 15) 3 (s "wearplan.texts" 285) (r 90)::tp []::fl N []::fn N "words_of" "words_of" (top 16) 0 N N::fl (ty "code") [(s "words_of" 295),(s "words_of" 296),(s "/claim/cut.py" 297),(i 35 0),(i 1 0),(i 0 0),(i 0 0),(i 3 0),(r 92),(b true),(i 181 0),(r 93),N,N,N,(r 94),(i 298 0),(i 35 0),(s "/claim/cut.py" 299)]::fn (ty "function") "words_of" "words_of" (top 16) 3 (s "wearplan.texts" 285) (r 95)::tp []::fl N []::tp [(s "word" 304),(s "least" 305),(s "most" 306),(s "number" 307)]::tp []::fn N "number_of" "number_of" (top 17) 0 N N::fl (ty "code") [(s "number_of" 301),(s "number_of" 302),(s "/claim/cut.py" 303),(i 37 0),(i 3 0),(i 0 0),(i 0 0),(i 3 0),(r 97),(b true),(i 181 0),(r 98),N,(r 99),(r 100),(r 101),(i 308 0),(i 37 0),(s "/claim/cut.py" 309)]::fn (ty "function") "number_of" "number_of" (top 17) 3 (s "wearplan.texts" 285) (r 102)::tp []::fl N []::tp [(s "words" 314),(s "rounds" 315),(s "first" 316)]::tp []::fn N "read_head" "read_head" (top 18) 0 N N::fl (ty "code") [(s "read_head" 311),(s "read_head" 312),(s "/claim/cut.py" 313),(i 42 0),(i 1 0),(i 0 0),(i 0 0),(i 3 0),(r 104),(b true),(i 181 0),(r 105),N,(r 106),(r 107),(r 108),(i 317 0),(i 42 0),(s "/claim/cut.py" 318)]::fn (ty "function") "read_head" "read_head" (top 18) 3 (s "wearplan.texts" 285) (r 109)::tp []::fl N []::fn N "read_round" "read_round" (top 19) 0 N N::fl (ty "code") [(s "read_round" 320),(s "read_round" 321),(s "/claim/cut.py" 322),(i 50 0),(i 3 0),(i 0 0),(i 0 0),(i 3 0),(r 111),(b true),(i 181 0),(r 112),N,N,N,(r 113),(i 323 0),(i 50 0),(s "/claim/cut.py" 324)]::fn (ty "function") "read_round" "read_round" (top 19) 3 (s "wearplan.texts" 285) (r 114)::tp []::fl N []::fn N "rows_of" "rows_of" (top 20) 0 N N::fl (ty "code") [(s "rows_of" 326),(s "rows_of" 327),(s "/claim/cut.py" 328),(i 58 0),(i 1 0),(i 0 0),(i 0 0),(i 3 0),(r 116),(b true),(i 181 0),(r 117),N,N,N,(r 118),(i 329 0),(i 58 0),(s "/claim/cut.py" 330)]::fn (ty "function") "rows_of" "rows_of" (top 20) 3 (s "wearplan.texts" 285) (r 119)::tp []::fl N []::tp [(s "text" 335),(s "counted" 336),(s "head" 337),(s "rounds" 338),(s "first" 339),(s "plan" 340),(s "free" 341),(s "row" 342),(s "words" 343),(s "told" 344)]::tp []::fn N "read_plan" "read_plan" (top 21) 0 N N::fl (ty "code") [(s "read_plan" 332),(s "read_plan" 333),(s "/claim/cut.py" 334),(i 67 0),(i 1 0),(i 0 0),(i 0 0),(i 3 0),(r 121),(b true),(i 181 0),(r 122),N,(r 123),(r 124),(r 125),(i 345 0),(i 67 0),(s "/claim/cut.py" 346)]::fn (ty "function") "read_plan" "read_plan" (top 21) 3 (s "wearplan.texts" 285) (r 126)::tp []::fl N []::tp [(s "_law_script" 353),(s "_law_k" 354)]::tp []::fn N "_law_cell" "_law_cell" (top 23) 0 N N::fl (ty "code") [(s "_law_cell" 350),(s "_law_cell" 351),(s "/claim/cut.py" 352),(i 83 0),(i 2 0),(i 0 0),(i 0 0),(i 3 0),(r 128),(b true),(i 181 0),(r 129),N,(r 130),(r 131),(r 132),(i 355 0),(i 83 0),(s "/claim/cut.py" 356)]::fn (ty "function") "_law_cell" "_law_cell" (top 23) 3 (s "law_wearplan_k33_plan_texts_refused" 348) (r 133)::tp []::fl N []::tp [(s "_law_script" 361),(s "_law_k" 362),(s "_law_many" 363),(s "_law_a" 364)]::tp []::fn N "_law_draw" "_law_draw" (top 24) 0 N N::fl (ty "code") [(s "_law_draw" 358),(s "_law_draw" 359),(s "/claim/cut.py" 360),(i 87 0),(i 3 0),(i 0 0),(i 0 0),(i 3 0),(r 135),(b true),(i 181 0),(r 136),N,(r 137),(r 138),(r 139),(i 365 0),(i 87 0),(s "/claim/cut.py" 366)]::fn (ty "function") "_law_draw" "_law_draw" (top 24) 3 (s "law_wearplan_k33_plan_texts_refused" 348) (r 140)::tp []::fl N []::tp [(s "_law_script" 371),(s "_law_cell_here" 372)]::tp []::fn N "_law_deck" "_law_deck" (top 25) 0 N N::fl (ty "code") [(s "_law_deck" 368),(s "_law_deck" 369),(s "/claim/cut.py" 370),(i 91 0),(i 1 0),(i 0 0),(i 0 0),(i 3 0),(r 142),(b true),(i 181 0),(r 143),N,(r 144),(r 145),(r 146),(i 373 0),(i 91 0),(s "/claim/cut.py" 374)]::fn (ty "function") "_law_deck" "_law_deck" (top 25) 3 (s "law_wearplan_k33_plan_texts_refused" 348) (r 147):: [])
noncomputable def t3(P:Params):BT:=insL (g3 P) 78 (setL [(3,o3_2 P),(12,o12_3 P)] (t2 P))
theorem pc3(w:World)(os:OsState):segRun treeTable PW w 11 (some (r 6)) 1 386 (SharedT.abs ⟨t2 w.params,78,life,⟨[]⟩,drawn,269,os⟩) (piecesOf sts3 env cE ⟨19,0,22,71⟩ BB)=some (.next,(SharedT.abs ⟨t3 w.params,149,life,⟨[]⟩,drawn,376,os⟩),cE,⟨91,0,93,77⟩):=segRun_of (s0f (by kernel_rfl))
noncomputable def sts4:List Stmt:=[top 26,top 27,top 28,top 29,top 30,top 31,top 32,top 33,top 34,top 35,top 36,top 37,top 38]
noncomputable def e3_3(P:Params):List DictEntry:=(e3_2 P)++[en P "_law_take" 384 (r 155),en P "_law_number" 392 (r 162),en P "_law_plan" 398 (r 167),en P "_law_lines" 404 (r 172),en P "_law_head" 416 (r 179),en P "_law_entry" 429 (r 186),en P "_law_spaced" 441 (r 193),en P "_law_told" 450 (r 200),en P "_law_is" 459 (r 207),en P "_law_signed" 471 (r 214),en P "_law_whole" 477 (r 219),en P "_law_head_read" 486 (r 226),en P "_law_entry_read" 492 (r 231)]
noncomputable def o3_3(P:Params):Obj:=di (e3_3 P) 43
noncomputable def e12_4(P:Params):List Value:=e12_3 P++[(i 94 0),(i 0 0),(r 154),(i 101 0),(i 0 0),(r 161),(i 103 0),(i 0 0),(r 166),(i 109 0),(i 0 0),(r 171),(i 115 0),(i 0 0),(r 178),(i 125 0),(i 0 0),(r 185),(i 133 0),(i 0 0),(r 192),(i 142 0),(i 0 0),(r 199),(i 151 0),(i 0 0),(r 206),(i 154 0),(i 0 0),(r 213),(i 164 0),(i 0 0),(r 218),(i 170 0),(i 0 0),(r 225),(i 178 0),(i 0 0),(r 230)]
noncomputable def o12_4(P:Params):Obj:=fl N (e12_4 P)
noncomputable def g4(P:Params):List Obj:=(tp []::fl N []::tp [(s "_law_deck_here" 379),(s "_law_many" 380),(s "_law_digit" 381)]::tp []::fn N "_law_take" "_law_take" (top 26) 0 N N::fl (ty "code") [(s "_law_take" 376),(s "_law_take" 377),(s "/claim/cut.py" 378),(i 94 0),(i 2 0),(i 0 0),(i 0 0),(i 3 0),(r 149),(b true),(i 181 0),(r 150),N,(r 151),(r 152),(r 153),(i 382 0),(i 94 0),(s "/claim/cut.py" 383)]::fn (ty "function") "_law_take" "_law_take" (top 26) 3 (s "law_wearplan_k33_plan_texts_refused" 348) (r 154)::tp []::fl N []::tp [(s "_law_found" 388),(s "_law_due" 389)]::tp []::fn N "_law_number" "_law_number" (top 27) 0 N N::fl (ty "code") [(s "_law_number" 385),(s "_law_number" 386),(s "/claim/cut.py" 387),(i 101 0),(i 2 0),(i 0 0),(i 0 0),(i 3 0),(r 156),(b true),(i 181 0),(r 157),N,(r 158),(r 159),(r 160),(i 390 0),(i 101 0),(s "/claim/cut.py" 391)]::fn (ty "function") "_law_number" "_law_number" (top 27) 3 (s "law_wearplan_k33_plan_texts_refused" 348) (r 161)::tp []::fl N []::fn N "_law_plan" "_law_plan" (top 28) 0 N N::fl (ty "code") [(s "_law_plan" 393),(s "_law_plan" 394),(s "/claim/cut.py" 395),(i 103 0),(i 1 0),(i 0 0),(i 0 0),(i 3 0),(r 163),(b true),(i 181 0),(r 164),N,N,N,(r 165),(i 396 0),(i 103 0),(s "/claim/cut.py" 397)]::fn (ty "function") "_law_plan" "_law_plan" (top 28) 3 (s "law_wearplan_k33_plan_texts_refused" 348) (r 166)::tp []::fl N []::fn N "_law_lines" "_law_lines" (top 29) 0 N N::fl (ty "code") [(s "_law_lines" 399),(s "_law_lines" 400),(s "/claim/cut.py" 401),(i 109 0),(i 2 0),(i 0 0),(i 0 0),(i 3 0),(r 168),(b true),(i 181 0),(r 169),N,N,N,(r 170),(i 402 0),(i 109 0),(s "/claim/cut.py" 403)]::fn (ty "function") "_law_lines" "_law_lines" (top 29) 3 (s "law_wearplan_k33_plan_texts_refused" 348) (r 171)::tp []::fl N []::tp [(s "_law_deck_here" 408),(s "_law_many" 409),(s "_law_first" 410),(s "_law_n" 411),(s "_law_f" 412),(s "_law_rows" 413)]::tp []::fn N "_law_head" "_law_head" (top 30) 0 N N::fl (ty "code") [(s "_law_head" 405),(s "_law_head" 406),(s "/claim/cut.py" 407),(i 115 0),(i 3 0),(i 0 0),(i 0 0),(i 3 0),(r 173),(b true),(i 181 0),(r 174),N,(r 175),(r 176),(r 177),(i 414 0),(i 115 0),(s "/claim/cut.py" 415)]::fn (ty "function") "_law_head" "_law_head" (top 30) 3 (s "law_wearplan_k33_plan_texts_refused" 348) (r 178)::tp []::fl N []::tp [(s "_law_deck_here" 420),(s "_law_many" 421),(s "_law_first" 422),(s "_law_before" 423),(s "_law_number_here" 424),(s "_law_n" 425),(s "_law_rows" 426)]::tp []::fn N "_law_entry" "_law_entry" (top 31) 0 N N::fl (ty "code") [(s "_law_entry" 417),(s "_law_entry" 418),(s "/claim/cut.py" 419),(i 125 0),(i 5 0),(i 0 0),(i 0 0),(i 3 0),(r 180),(b true),(i 181 0),(r 181),N,(r 182),(r 183),(r 184),(i 427 0),(i 125 0),(s "/claim/cut.py" 428)]::fn (ty "function") "_law_entry" "_law_entry" (top 31) 3 (s "law_wearplan_k33_plan_texts_refused" 348) (r 185)::tp []::fl N []::tp [(s "_law_deck_here" 433),(s "_law_lines_here" 434),(s "_law_found" 435),(s "_law_places" 436),(s "_law_line" 437),(s "_law_turn" 438)]::tp []::fn N "_law_spaced" "_law_spaced" (top 32) 0 N N::fl (ty "code") [(s "_law_spaced" 430),(s "_law_spaced" 431),(s "/claim/cut.py" 432),(i 133 0),(i 2 0),(i 0 0),(i 0 0),(i 3 0),(r 187),(b true),(i 181 0),(r 188),N,(r 189),(r 190),(r 191),(i 439 0),(i 133 0),(s "/claim/cut.py" 440)]::fn (ty "function") "_law_spaced" "_law_spaced" (top 32) 3 (s "law_wearplan_k33_plan_texts_refused" 348) (r 192)::tp []::fl N []::tp [(s "_law_text" 445),(s "_law_found" 446),(s "e" 447)]::tp []::fn N "_law_told" "_law_told" (top 33) 0 N N::fl (ty "code") [(s "_law_told" 442),(s "_law_told" 443),(s "/claim/cut.py" 444),(i 142 0),(i 1 0),(i 0 0),(i 0 0),(i 3 0),(r 194),(b true),(i 181 0),(r 195),N,(r 196),(r 197),(r 198),(i 448 0),(i 142 0),(s "/claim/cut.py" 449)]::fn (ty "function") "_law_told" "_law_told" (top 33) 3 (s "law_wearplan_k33_plan_texts_refused" 348) (r 199)::tp []::fl N []::tp [(s "_law_text" 454),(s "_law_due" 455),(s "_law_found" 456)]::tp []::fn N "_law_is" "_law_is" (top 34) 0 N N::fl (ty "code") [(s "_law_is" 451),(s "_law_is" 452),(s "/claim/cut.py" 453),(i 151 0),(i 2 0),(i 0 0),(i 0 0),(i 3 0),(r 201),(b true),(i 181 0),(r 202),N,(r 203),(r 204),(r 205),(i 457 0),(i 151 0),(s "/claim/cut.py" 458)]::fn (ty "function") "_law_is" "_law_is" (top 34) 3 (s "law_wearplan_k33_plan_texts_refused" 348) (r 206)::tp []::fl N []::tp [(s "_law_deck_here" 463),(s "_law_text" 464),(s "_law_signs" 465),(s "_law_at" 466),(s "_law_sign" 467),(s "_law_kind" 468)]::tp []::fn N "_law_signed" "_law_signed" (top 35) 0 N N::fl (ty "code") [(s "_law_signed" 460),(s "_law_signed" 461),(s "/claim/cut.py" 462),(i 154 0),(i 2 0),(i 0 0),(i 0 0),(i 3 0),(r 208),(b true),(i 181 0),(r 209),N,(r 210),(r 211),(r 212),(i 469 0),(i 154 0),(s "/claim/cut.py" 470)]::fn (ty "function") "_law_signed" "_law_signed" (top 35) 3 (s "law_wearplan_k33_plan_texts_refused" 348) (r 213)::tp []::fl N []::fn N "_law_whole" "_law_whole" (top 36) 0 N N::fl (ty "code") [(s "_law_whole" 472),(s "_law_whole" 473),(s "/claim/cut.py" 474),(i 164 0),(i 3 0),(i 0 0),(i 0 0),(i 3 0),(r 215),(b true),(i 181 0),(r 216),N,N,N,(r 217),(i 475 0),(i 164 0),(s "/claim/cut.py" 476)]::fn (ty "function") "_law_whole" "_law_whole" (top 36) 3 (s "law_wearplan_k33_plan_texts_refused" 348) (r 218)::tp []::fl N []::tp [(s "_law_words" 481),(s "_law_many" 482),(s "_law_first" 483)]::tp []::fn N "_law_head_read" "_law_head_read" (top 37) 0 N N::fl (ty "code") [(s "_law_head_read" 478),(s "_law_head_read" 479),(s "/claim/cut.py" 480),(i 170 0),(i 1 0),(i 0 0),(i 0 0),(i 3 0),(r 220),(b true),(i 181 0),(r 221),N,(r 222),(r 223),(r 224),(i 484 0),(i 170 0),(s "/claim/cut.py" 485)]::fn (ty "function") "_law_head_read" "_law_head_read" (top 37) 3 (s "law_wearplan_k33_plan_texts_refused" 348) (r 225)::tp []::fl N []::fn N "_law_entry_read" "_law_entry_read" (top 38) 0 N N::fl (ty "code") [(s "_law_entry_read" 487),(s "_law_entry_read" 488),(s "/claim/cut.py" 489),(i 178 0),(i 3 0),(i 0 0),(i 0 0),(i 3 0),(r 227),(b true),(i 181 0),(r 228),N,N,N,(r 229),(i 490 0),(i 178 0),(s "/claim/cut.py" 491)]::fn (ty "function") "_law_entry_read" "_law_entry_read" (top 38) 3 (s "law_wearplan_k33_plan_texts_refused" 348) (r 230):: [])
noncomputable def t4(P:Params):BT:=insL (g4 P) 149 (setL [(3,o3_3 P),(12,o12_4 P)] (t3 P))
theorem pc4(w:World)(os:OsState):segRun treeTable PW w 11 (some (r 6)) 1 396 (SharedT.abs ⟨t3 w.params,149,life,⟨[]⟩,drawn,376,os⟩) (piecesOf sts4 env cE ⟨91,0,93,77⟩ BB)=some (.next,(SharedT.abs ⟨t4 w.params,232,life,⟨[]⟩,drawn,493,os⟩),cE,⟨178,0,188,48⟩):=segRun_of (s0f (by kernel_rfl))
noncomputable def sts5:List Stmt:=[top 39,top 40,top 41,top 42,top 43]
noncomputable def e3_4(P:Params):List DictEntry:=(e3_3 P)++[en P "_law_reading" 498 (r 236),en P "_law_pair" 504 (r 241),en P "_law_same" 513 (r 248),en P "_law_none" 519 (r 253),en P "law" 525 (r 258)]
noncomputable def o3_4(P:Params):Obj:=di (e3_4 P) 48
noncomputable def e12_5(P:Params):List Value:=e12_4 P++[(i 189 0),(i 0 0),(r 235),(i 212 0),(i 0 0),(r 240),(i 223 0),(i 0 0),(r 247),(i 228 0),(i 0 0),(r 252),(i 233 0),(i 0 0),(r 257)]
noncomputable def o12_5(P:Params):Obj:=fl N (e12_5 P)
noncomputable def g5(P:Params):List Obj:=[tp [],fl N [],fn N "_law_reading" "_law_reading" (top 39) 0 N N,fl (ty "code") [(s "_law_reading" 493),(s "_law_reading" 494),(s "/claim/cut.py" 495),(i 189 0),(i 1 0),(i 0 0),(i 0 0),(i 3 0),(r 232),(b true),(i 181 0),(r 233),N,N,N,(r 234),(i 496 0),(i 189 0),(s "/claim/cut.py" 497)],fn (ty "function") "_law_reading" "_law_reading" (top 39) 3 (s "law_wearplan_k33_plan_texts_refused" 348) (r 235),tp [],fl N [],fn N "_law_pair" "_law_pair" (top 40) 0 N N,fl (ty "code") [(s "_law_pair" 499),(s "_law_pair" 500),(s "/claim/cut.py" 501),(i 212 0),(i 3 0),(i 0 0),(i 0 0),(i 3 0),(r 237),(b true),(i 181 0),(r 238),N,N,N,(r 239),(i 502 0),(i 212 0),(s "/claim/cut.py" 503)],fn (ty "function") "_law_pair" "_law_pair" (top 40) 3 (s "law_wearplan_k33_plan_texts_refused" 348) (r 240),tp [],fl N [],tp [(s "_law_text" 508),(s "_law_word" 509),(s "_law_due" 510)],tp [],fn N "_law_same" "_law_same" (top 41) 0 N N,fl (ty "code") [(s "_law_same" 505),(s "_law_same" 506),(s "/claim/cut.py" 507),(i 223 0),(i 1 0),(i 0 0),(i 0 0),(i 3 0),(r 242),(b true),(i 181 0),(r 243),N,(r 244),(r 245),(r 246),(i 511 0),(i 223 0),(s "/claim/cut.py" 512)],fn (ty "function") "_law_same" "_law_same" (top 41) 3 (s "law_wearplan_k33_plan_texts_refused" 348) (r 247),tp [],fl N [],fn N "_law_none" "_law_none" (top 42) 0 N N,fl (ty "code") [(s "_law_none" 514),(s "_law_none" 515),(s "/claim/cut.py" 516),(i 228 0),(i 1 0),(i 0 0),(i 0 0),(i 3 0),(r 249),(b true),(i 181 0),(r 250),N,N,N,(r 251),(i 517 0),(i 228 0),(s "/claim/cut.py" 518)],fn (ty "function") "_law_none" "_law_none" (top 42) 3 (s "law_wearplan_k33_plan_texts_refused" 348) (r 252),tp [],fl N [],fn N "law" "law" (top 43) 0 N N,fl (ty "code") [(s "law" 520),(s "law" 521),(s "/claim/cut.py" 522),(i 233 0),(i 1 0),(i 0 0),(i 0 0),(i 3 0),(r 254),(b true),(i 181 0),(r 255),N,N,N,(r 256),(i 523 0),(i 233 0),(s "/claim/cut.py" 524)],fn (ty "function") "law" "law" (top 43) 3 (s "law_wearplan_k33_plan_texts_refused" 348) (r 257)]
noncomputable def t5(P:Params):BT:=insL (g5 P) 232 (setL [(3,o3_4 P),(12,o12_5 P)] (t4 P))
theorem pc5(w:World)(os:OsState):segRun treeTable PW w 11 (some (r 6)) 1 136 (SharedT.abs ⟨t4 w.params,232,life,⟨[]⟩,drawn,493,os⟩) (piecesOf sts5 env cE ⟨178,0,188,48⟩ BB)=some (.next,(SharedT.abs ⟨t5 w.params,259,life,⟨[]⟩,drawn,526,os⟩),cE,⟨233,0,258,46⟩):=segRun_of (s0f (by kernel_rfl))
noncomputable def HF(P:Params):Heap:=⟨⟨[(boot_o_0 P),(boot_o_1 P),(boot_o_2 P),(o3_4 P),(boot_o_4 P),(boot_o_5 P),(boot_o_6 P),(boot_o_7 P),(boot_o_8 P),(boot_o_9 P),(boot_o_10 P),(o11_0 P),(o12_5 P),(o13_0 P),(o14_0 P)]++(((g1 P).set 9 (w1m P))++((g2 P)++((g3 P)++((g4 P)++((g5 P))))))⟩,life⟩
theorem fin(w:World)(os:OsState):topRun treeTable PW w 11 (some (r 6)) 2 (SharedT.abs ⟨t5 w.params,259,life,⟨[]⟩,drawn,526,os⟩) (restOf [] env cE ⟨233,0,258,46⟩ BB)=some ⟨HF w.params,⟨[]⟩,drawn,526,os⟩:=piece_nil (x1f (by kernel_rfl))
theorem w1l:behindTheImports PW=(sts1++(sts2++(sts3++(sts4++(sts5++[]))))):=by kernel_rfl
theorem run(w:World)(os:OsState):topRun treeTable PW w 11 (some (r 6)) (12+(1+(196+(396+(386+(396+(136+2))))))) ⟨boot_heap w.params,⟨[]⟩,boot_drawn,boot_toks,os⟩ (topStub PW)=some ⟨HF w.params,⟨[]⟩,drawn,526,os⟩:=
 go_top (pre w os) (n0j w1l (blk w os) (piece_app (pc1 w os) (piece_app (pc2 w os) (piece_app (pc3 w os) (piece_app (pc4 w os) (piece_app (pc5 w os) (fin w os)))))))
noncomputable def K(P:Params):Frag:=((nat_lit 2,boot_o_2 P)::(nat_lit 3,o3_4 P)::(nat_lit 15,x g1 0 P)::(nat_lit 22,x g1 7 P)::(nat_lit 23,x g1 8 P)::(nat_lit 24,w1m P)::(nat_lit 25,x g1 10 P)::(nat_lit 28,x g2 0 P)::(nat_lit 35,x g2 7 P)::(nat_lit 37,x g2 9 P)::(nat_lit 38,x g2 10 P)::(nat_lit 40,x g2 12 P)::(nat_lit 41,x g2 13 P)::(nat_lit 42,x g2 14 P)::(nat_lit 43,x g2 15 P)::(nat_lit 44,x g2 16 P)::(nat_lit 47,x g2 19 P)::(nat_lit 49,x g2 21 P)::(nat_lit 50,x g2 22 P)::(nat_lit 52,x g2 24 P)::(nat_lit 53,x g2 25 P)::(nat_lit 54,x g2 26 P)::(nat_lit 56,x g2 28 P)::(nat_lit 57,x g2 29 P)::(nat_lit 59,x g2 31 P)::(nat_lit 60,x g2 32 P)::(nat_lit 61,x g2 33 P)::(nat_lit 63,x g2 35 P)::(nat_lit 64,x g2 36 P)::(nat_lit 66,x g2 38 P)::(nat_lit 67,x g2 39 P)::(nat_lit 68,x g2 40 P)::(nat_lit 71,x g2 43 P)::(nat_lit 72,x g2 44 P)::(nat_lit 73,x g2 45 P)::(nat_lit 76,x g2 48 P)::(nat_lit 77,x g2 49 P)::(nat_lit 78,x g3 0 P)::(nat_lit 80,x g3 2 P)::(nat_lit 81,x g3 3 P)::(nat_lit 83,x g3 5 P)::(nat_lit 84,x g3 6 P)::(nat_lit 85,x g3 7 P)::(nat_lit 87,x g3 9 P)::(nat_lit 88,x g3 10 P)::(nat_lit 90,x g3 12 P)::(nat_lit 91,x g3 13 P)::(nat_lit 92,x g3 14 P)::(nat_lit 95,x g3 17 P)::(nat_lit 96,x g3 18 P)::(nat_lit 97,x g3 19 P)::(nat_lit 99,x g3 21 P)::(nat_lit 100,x g3 22 P)::(nat_lit 102,x g3 24 P)::(nat_lit 103,x g3 25 P)::(nat_lit 104,x g3 26 P)::(nat_lit 106,x g3 28 P)::(nat_lit 107,x g3 29 P)::(nat_lit 109,x g3 31 P)::(nat_lit 110,x g3 32 P)::(nat_lit 111,x g3 33 P)::(nat_lit 114,x g3 36 P)::(nat_lit 115,x g3 37 P)::(nat_lit 116,x g3 38 P)::(nat_lit 119,x g3 41 P)::(nat_lit 120,x g3 42 P)::(nat_lit 121,x g3 43 P)::(nat_lit 123,x g3 45 P)::(nat_lit 124,x g3 46 P)::(nat_lit 126,x g3 48 P)::(nat_lit 127,x g3 49 P)::(nat_lit 128,x g3 50 P)::(nat_lit 130,x g3 52 P)::(nat_lit 131,x g3 53 P)::(nat_lit 133,x g3 55 P)::(nat_lit 134,x g3 56 P)::(nat_lit 135,x g3 57 P)::(nat_lit 137,x g3 59 P)::(nat_lit 138,x g3 60 P)::(nat_lit 140,x g3 62 P)::(nat_lit 141,x g3 63 P)::(nat_lit 142,x g3 64 P)::(nat_lit 144,x g3 66 P)::(nat_lit 145,x g3 67 P)::(nat_lit 147,x g3 69 P)::(nat_lit 148,x g3 70 P)::(nat_lit 149,x g4 0 P)::(nat_lit 151,x g4 2 P)::(nat_lit 152,x g4 3 P)::(nat_lit 154,x g4 5 P)::(nat_lit 155,x g4 6 P)::(nat_lit 156,x g4 7 P)::(nat_lit 158,x g4 9 P)::(nat_lit 159,x g4 10 P)::(nat_lit 161,x g4 12 P)::(nat_lit 162,x g4 13 P)::(nat_lit 163,x g4 14 P)::(nat_lit 166,x g4 17 P)::(nat_lit 167,x g4 18 P)::(nat_lit 168,x g4 19 P)::(nat_lit 171,x g4 22 P)::(nat_lit 172,x g4 23 P)::(nat_lit 173,x g4 24 P)::(nat_lit 175,x g4 26 P)::(nat_lit 176,x g4 27 P)::(nat_lit 178,x g4 29 P)::(nat_lit 179,x g4 30 P)::(nat_lit 180,x g4 31 P)::(nat_lit 182,x g4 33 P)::(nat_lit 183,x g4 34 P)::(nat_lit 185,x g4 36 P)::(nat_lit 186,x g4 37 P)::(nat_lit 187,x g4 38 P)::(nat_lit 189,x g4 40 P)::(nat_lit 190,x g4 41 P)::(nat_lit 192,x g4 43 P)::(nat_lit 193,x g4 44 P)::(nat_lit 194,x g4 45 P)::(nat_lit 196,x g4 47 P)::(nat_lit 197,x g4 48 P)::(nat_lit 199,x g4 50 P)::(nat_lit 200,x g4 51 P)::(nat_lit 201,x g4 52 P)::(nat_lit 203,x g4 54 P)::(nat_lit 204,x g4 55 P)::(nat_lit 206,x g4 57 P)::(nat_lit 207,x g4 58 P)::(nat_lit 208,x g4 59 P)::(nat_lit 210,x g4 61 P)::(nat_lit 211,x g4 62 P)::(nat_lit 213,x g4 64 P)::(nat_lit 214,x g4 65 P)::(nat_lit 215,x g4 66 P)::(nat_lit 218,x g4 69 P)::(nat_lit 219,x g4 70 P)::(nat_lit 220,x g4 71 P)::(nat_lit 222,x g4 73 P)::(nat_lit 223,x g4 74 P)::(nat_lit 225,x g4 76 P)::(nat_lit 226,x g4 77 P)::(nat_lit 227,x g4 78 P)::(nat_lit 230,x g4 81 P)::(nat_lit 231,x g4 82 P)::(nat_lit 232,x g5 0 P)::(nat_lit 235,x g5 3 P)::(nat_lit 236,x g5 4 P)::(nat_lit 237,x g5 5 P)::(nat_lit 240,x g5 8 P)::(nat_lit 241,x g5 9 P)::(nat_lit 242,x g5 10 P)::(nat_lit 244,x g5 12 P)::(nat_lit 245,x g5 13 P)::(nat_lit 247,x g5 15 P)::(nat_lit 248,x g5 16 P)::(nat_lit 249,x g5 17 P)::(nat_lit 252,x g5 20 P)::(nat_lit 253,x g5 21 P)::(nat_lit 254,x g5 22 P)::(nat_lit 257,x g5 25 P)::(nat_lit 258,x g5 26 P):: [])
noncomputable def as:List Addr:=(nat_lit 2::nat_lit 3::nat_lit 15::nat_lit 22::nat_lit 23::nat_lit 24::nat_lit 25::nat_lit 28::nat_lit 35::nat_lit 37::nat_lit 38::nat_lit 40::nat_lit 41::nat_lit 42::nat_lit 43::nat_lit 44::nat_lit 47::nat_lit 49::nat_lit 50::nat_lit 52::nat_lit 53::nat_lit 54::nat_lit 56::nat_lit 57::nat_lit 59::nat_lit 60::nat_lit 61::nat_lit 63::nat_lit 64::nat_lit 66::nat_lit 67::nat_lit 68::nat_lit 71::nat_lit 72::nat_lit 73::nat_lit 76::nat_lit 77::nat_lit 78::nat_lit 80::nat_lit 81::nat_lit 83::nat_lit 84::nat_lit 85::nat_lit 87::nat_lit 88::nat_lit 90::nat_lit 91::nat_lit 92::nat_lit 95::nat_lit 96::nat_lit 97::nat_lit 99::nat_lit 100::nat_lit 102::nat_lit 103::nat_lit 104::nat_lit 106::nat_lit 107::nat_lit 109::nat_lit 110::nat_lit 111::nat_lit 114::nat_lit 115::nat_lit 116::nat_lit 119::nat_lit 120::nat_lit 121::nat_lit 123::nat_lit 124::nat_lit 126::nat_lit 127::nat_lit 128::nat_lit 130::nat_lit 131::nat_lit 133::nat_lit 134::nat_lit 135::nat_lit 137::nat_lit 138::nat_lit 140::nat_lit 141::nat_lit 142::nat_lit 144::nat_lit 145::nat_lit 147::nat_lit 148::nat_lit 149::nat_lit 151::nat_lit 152::nat_lit 154::nat_lit 155::nat_lit 156::nat_lit 158::nat_lit 159::nat_lit 161::nat_lit 162::nat_lit 163::nat_lit 166::nat_lit 167::nat_lit 168::nat_lit 171::nat_lit 172::nat_lit 173::nat_lit 175::nat_lit 176::nat_lit 178::nat_lit 179::nat_lit 180::nat_lit 182::nat_lit 183::nat_lit 185::nat_lit 186::nat_lit 187::nat_lit 189::nat_lit 190::nat_lit 192::nat_lit 193::nat_lit 194::nat_lit 196::nat_lit 197::nat_lit 199::nat_lit 200::nat_lit 201::nat_lit 203::nat_lit 204::nat_lit 206::nat_lit 207::nat_lit 208::nat_lit 210::nat_lit 211::nat_lit 213::nat_lit 214::nat_lit 215::nat_lit 218::nat_lit 219::nat_lit 220::nat_lit 222::nat_lit 223::nat_lit 225::nat_lit 226::nat_lit 227::nat_lit 230::nat_lit 231::nat_lit 232::nat_lit 235::nat_lit 236::nat_lit 237::nat_lit 240::nat_lit 241::nat_lit 242::nat_lit 244::nat_lit 245::nat_lit 247::nat_lit 248::nat_lit 249::nat_lit 252::nat_lit 253::nat_lit 254::nat_lit 257::nat_lit 258:: [])
noncomputable def Q:Program:={PW with main:={PW.main with body:=[top 1,top 2,top 4,top 5,top 6,top 7,top 8,top 9,top 10,top 12,top 13,top 15,top 16,top 17,top 18,top 19,top 20,top 21,top 23,top 24,top 25,top 26,top 27,top 28,top 29,top 30,top 31,top 32,top 33,top 34,top 35,top 36,top 37,top 38,top 39,top 40,top 41,top 42,top 43]}}
noncomputable abbrev HK:Hook:=kHook K as (fun _=>by kernel_rfl)
noncomputable abbrev RR:RowW:=OpenRow.toRowW (OpenLaw.row PySem.Challenge.rw_wearplan_k33_plan_texts_refused)
noncomputable abbrev Xt(s:Shared):Bool:=xlAt Q [] s&&recOk (RowW.records RR) s
theorem w1k(w:World):((boot_heap w.params).isNs mainGlobals&&(Array.mk ([]:List GenState)).size==0,(boot_heap w.params).objs.size,(boot_heap w.params).nsMap mainGlobals "__annotations__")=(true,11,some (.ref 6)):=by kernel_rfl
theorem look1(w:World)(os:OsState):(staticsOk (importedModules PW.main.body) (boot_heap w.params) (HF w.params)&&namesBound PW (HF w.params)&&gensDone (⟨HF w.params,⟨[]⟩,drawn,526,os⟩:Shared)&&laidKept (boot_heap w.params) (HF w.params))=true:=by kernel_rfl
theorem look2(w:World)(os:OsState):openSeen Q [] (importedModules PW.main.body) Xt true (⟨HF w.params,⟨[]⟩,drawn,526,os⟩:Shared)=openGood Q []:=by
 rw[PySem.W.Fast.te4187177175401517315,PySem.W.Fast.te5923862056798008813];kernel_rfl
theorem look3(w:World)(os:OsState):HK.obs (⟨HF w.params,⟨[]⟩,drawn,526,os⟩:Shared)=HK.val w:=by kernel_rfl
theorem i0e:opening PW=plainProg PW.main.scope.names:=by kernel_rfl
theorem a0z(s:Shared):fenceModules? PW s=some s:=by kernel_rfl
theorem left:LeftO PW Q [] Xt HK.obs HK.val 3136:=
 LeftO.of_pieces (boot_open i0e (by decide) a0z) w1k run (by decide) fun w=>funext fun os=>Prod.ext (look1 w os) (Prod.ext (look2 w os) (look3 w os))
theorem ws:OpenLaw.wellSaid PySem.Challenge.rw_wearplan_k33_plan_texts_refused=true:=by
 rw[PySem.W.Fast.te9446332074065402090];kernel_rfl
end HD33
local macro_rules
 | `(tactic|walk_at "n0")=>`(tactic|exact PySem.W.mg_none_of (by assumption) (by assumption) (by k_is))
 | `(tactic|walk_at "n1")=>`(tactic|exact ⟨_,PySem.W.mg_of (by assumption) (by assumption) (by k_is)⟩)
 | `(tactic|walk_at "n2")=>`(tactic|exact PySem.W.mg_of (by assumption) (by assumption) (by k_is))
 | `(tactic|walk_at "tr")=>`(tactic|exact DL.topRow3 (PySem.W.mg_of (by assumption) (by assumption) (by k_is)) (by k_is))
 | `(tactic|walk_at "hd")=>`(tactic|exact ⟨by k_is,by kernel_rfl,by k_is⟩)
 | `(tactic|walk_at "ci")=>`(tactic|exact ⟨⟨by k_is,by k_is,by k_is,by k_is⟩,by k_is,by k_is,by k_is,by k_is⟩)
 | `(tactic|walk_at "kn")=>`(tactic|exact ⟨by kernel_rfl,by kernel_rfl,by kernel_rfl,by kernel_rfl,by kernel_rfl,by kernel_rfl,by kernel_rfl⟩)
 | `(tactic|walk_at "na")=>`(tactic|(unfold L2.NoAttr;k_is))
 | `(tactic|walk_at "kr")=>`(tactic|kernel_rfl)
 | `(tactic|walk_at "x0")=>`(tactic|exact ⟨by kernel_rfl,by k_is⟩)
 | `(tactic|walk_at "er")=>`(tactic|exact ⟨by kernel_rfl,by k_is,⟨by kernel_rfl,by k_is,by k_is,by k_is,by k_is,by k_is,by k_is,by k_is⟩⟩)
 | `(tactic|walk_at "ff")=>`(tactic|exact ⟨_,_,by k_is,⟨⟨_,_,_,_,_,_,_,_,_,rfl,by k_is,by k_is⟩,by k_is⟩⟩)
 | `(tactic|walk_at "xm")=>`(tactic|exact ⟨_,_,⟨by kernel_rfl,by k_is,by k_is,by k_is⟩,⟨⟨_,_,_,_,_,_,_,_,_,rfl,by k_is,by k_is⟩,by k_is⟩⟩)
 | `(tactic|walk_at "mk")=>`(tactic|exact ⟨_,_,⟨by k_is,by k_is,by k_is,by k_is⟩,⟨⟨_,_,_,_,_,_,_,_,_,rfl,by k_is,by k_is⟩,by k_is⟩⟩)
open PySem PySem.W PyProof.Rows
set_option maxRecDepth 100000 in
set_option maxHeartbeats 0 in
theorem PySem.Challenge.cw_wearplan_k33_plan_texts_refused_holds : PySem.Challenge.rw_wearplan_k33_plan_texts_refused.Holds := by
 w_on
 refine holds_law HD33.ws fun said=>?_
 refine holds_open (r:=OpenLaw.row PySem.Challenge.rw_wearplan_k33_plan_texts_refused) (q:=HD33.Q) (loose:=[]) (Xt:=HD33.Xt) (XP:=XL HD33.Q []) (Yf:=HD33.HK.obs) (Ya:=HD33.HK.val) (YP:=InK HD33.K) (N:=3136) HD33.left (Hook.of HD33.HK) (Hook.keeps HD33.HK) (fun s e=>xl_of s (Bool.and_eq_true_iff.mp e).1) XL.keeps (by rfl) (by rfl) (by rfl) (fun s e=>recFacts_of (Bool.and_eq_true_iff.mp e).2) (by rfl) said (by decide +kernel) ⟨rfl,rfl,rfl,rfl,rfl,by decide +kernel⟩ ?hw ?hc
 (case hw=>w_witness2)
 k_fill
 refine DL.walk2 (l:=PySem.Challenge.rw_wearplan_k33_plan_texts_refused) (k:=11) (x:="_law_script") rfl rfl ⟨rfl,by decide,by decide⟩ (fun w h Y=>(show (HD33.K w.params).In h from Y)) fun w mg fa h KX G hmg=>?_
 have T:K33.Txt (HD33.K w.params) mg ⟨24,44⟩:=⟨by walk_at "n0",by walk_at "n0",by walk_at "n0",by walk_at "n0",by walk_at "n0",by walk_at "n0",by walk_at "n0",by walk_at "n0",by walk_at "n0",by walk_at "n0",by walk_at "n0",by walk_at "n0",by walk_at "n0",by walk_at "n0",by walk_at "n1",by walk_at "n1",by walk_at "n1",by walk_at "n2",by walk_at "hd",List.forall_mem_cons.mpr ⟨by walk_at "er",List.forall_mem_nil _⟩,by decide,by decide,by walk_at "n2",by walk_at "hd",by walk_at "kr",by walk_at "na"⟩;exact K33.all_mk KX G hmg T (by walk_at "ff") (by walk_at "ff") (by walk_at "ff") (by walk_at "ff") (by walk_at "ff") (by walk_at "ff") (by walk_at "ff") (by walk_at "ff") (by walk_at "ff") (by walk_at "ff") (by walk_at "ff") (by walk_at "ff") (by walk_at "ff") (by walk_at "ff") (by walk_at "ff") (by walk_at "ff") (by walk_at "ff") (by walk_at "ff") (by walk_at "ff") (by walk_at "ff") (by walk_at "ff") (by walk_at "ff") (by walk_at "ff") (by walk_at "ff") (by walk_at "ff") (by walk_at "ff") (by walk_at "ff") (by walk_at "ff") (by walk_at "ff") (by walk_at "ff") (by walk_at "ff") (by walk_at "ff") (by walk_at "ff") (by walk_at "ff") (by walk_at "xm")
