import PyProof.Rows.All
import Wide.All
import OpenK.AllK
import Wide.FinOn
import Lean
import PyProof.EqAt
import PyProof.EqKinds
import PyProof.TupleCall
import PyProof.CollectIter
import PyProof.TupleOfStr
import PyProof.TupleOfSeq
import KE.KDictOf
import KE.KDictSum
import PyProof.AttrMissHeap
import PySem.Challenge.RW_wearplan_k34_parts_as_lines
set_option compiler.extract_closed false
set_option bootstrap.genMatcherCode false
set_option genSizeOf false
set_option genSizeOfSpec false
set_option linter.all false
set_option linter.unusedVariables false
open PyProof.Rows in
local macro_rules | `(tactic|walk_at "v3")=>`(tactic|first |exact Or.inl rfl |exact Or.inr (Or.inl rfl)|exact Or.inr (Or.inr rfl))
open PyProof.Rows in
local macro_rules | `(tactic|walk_at "v2")=>`(tactic|first |exact Or.inl rfl |exact Or.inr rfl)
open PyProof.Rows in
local macro_rules | `(tactic|walk_at "v1")=>`(tactic|first |exact .inl rfl |exact .inr rfl)
set_option Elab.async false
set_option maxRecDepth 100000
namespace L2
open PySem PySem.Spec PyProof.Rows
noncomputable abbrev Key:=Sum Int Str
noncomputable def keyIs:Key→Value→Bool
 | .inl k,v=>Value.isInt k v
 | .inr x,v=>Value.isStrOf x v
noncomputable def keyH(w:World):Key→Int
 | .inl k=>hashInt k
 | .inr x=>hashStr w x
theorem p5:∀{k:Key} {v:Value},keyIs k v=true→(∃i t,k=Sum.inl i∧v=Value.int i t)∨(∃x t,k=Sum.inr x∧v=Value.str x t)
 | .inl i,v,h=>by
  obtain ⟨t,e⟩:=Value.isInt_shape (k:=i) (v:=v) h;exact .inl ⟨i,t,rfl,e⟩
 | .inr x,v,h=>by
  obtain ⟨t,e⟩:=Value.isStrOf_shape (x:=x) (v:=v) h;exact .inr ⟨x,t,rfl,e⟩
theorem key_ll(a b:Int):decide ((Sum.inl a:Key)=Sum.inl b)=(a==b):=by
 by_cases e:a=b
 ·subst e;simp
 ·have h:¬(Sum.inl a:Key)=Sum.inl b:=fun q=>e (Sum.inl.inj q)
  rw[decide_eq_false h];exact (beq_eq_false_iff_ne.mpr e).symm
theorem key_rr(a b:Str):decide ((Sum.inr a:Key)=Sum.inr b)=decide (a=b):=by
 by_cases e:a=b
 ·subst e;simp
 ·have h:¬(Sum.inr a:Key)=Sum.inr b:=fun q=>e (Sum.inr.inj q)
  rw[decide_eq_false h,decide_eq_false e]
theorem key_lr(a:Int)(b:Str):decide ((Sum.inl a:Key)=Sum.inr b)=false:=decide_eq_false (fun q=>nomatch q)
theorem key_rl(a:Str)(b:Int):decide ((Sum.inr a:Key)=Sum.inl b)=false:=decide_eq_false (fun q=>nomatch q)
noncomputable def k0a(prog:Program)(w:World):PySem.KeyKind prog w Key where
 is:=keyIs
 hash:=keyH w
 inj:=fun v a b ha hb=>by
  rcases p5 ha with ⟨i,t,rfl,rfl⟩|⟨x,t,rfl,rfl⟩
  ·rcases p5 hb with ⟨j,u,rfl,e⟩|⟨y,u,rfl,e⟩
   ·injection e with e1 _;rw[e1]
   ·exact nomatch e
  ·rcases p5 hb with ⟨j,u,rfl,e⟩|⟨y,u,rfl,e⟩
   ·exact nomatch e
   ·injection e with e1 _;rw[e1]
 byValue:=fun k v h=>by
  rcases p5 h with ⟨i,t,rfl,rfl⟩|⟨x,t,rfl,rfl⟩<;>rfl
 pyHash:=fun hv h=>by
  rcases p5 hv with ⟨i,t,rfl,rfl⟩|⟨x,t,rfl,rfl⟩
  ·exact wpAny_pyHash_int h
  ·exact wpAny_pyHash_str h
 eqBool:=fun hu hv h=>by
  rcases p5 hu with ⟨i,t,rfl,rfl⟩|⟨x,t,rfl,rfl⟩
  ·rcases p5 hv with ⟨j,u,rfl,rfl⟩|⟨y,u,rfl,rfl⟩
   ·rw[key_ll]at h;exact wpAny_eqBool_int h
   ·rw[key_lr]at h;exact SeqAt.EqAt.int_str i t y u _ _ _ _ h
  ·rcases p5 hv with ⟨j,u,rfl,rfl⟩|⟨y,u,rfl,rfl⟩
   ·rw[key_rl]at h;exact SeqAt.EqAt.str_int x t j u _ _ _ _ h
   ·rw[key_rr]at h;exact wpAny_eqBool_str h
 «strs»:=fun k x t v h=>by
  rcases p5 h with ⟨i,u,rfl,e⟩|⟨y,u,rfl,e⟩
  ·exact nomatch e
  ·injection e with e1 _
   subst e1;cases v<;>rfl
end L2
namespace L2
open PySem PySem.Spec PyProof.Rows
inductive V where
 |non |bl (b:Bool)|int (i:Int)|str (x:Str)|byt (b:Array UInt8)|flt (b:UInt64)|ref (a:Addr)|ty (n:String)
 deriving DecidableEq
noncomputable def RelV:V→Value→Prop
 | .non,u=>u=Value.none
 | .bl b,u=>u=Value.bool b
 | .int i,u=>∃t,u=Value.int i t
 | .str x,u=>∃t,u=Value.str x t
 | .byt b,u=>∃t,u=Value.bytes b t
 | .flt b,u=>∃t,u=Value.float b t
 | .ref a,u=>u=Value.ref a
 | .ty n,u=>u=Value.type n
noncomputable abbrev Vals:List V→List Value→Prop:=Paired RelV
theorem Vals.length{xs:List V}{us:List Value}(r:Vals xs us):xs.length=us.length:=Paired.length r
theorem Vals.get:∀{xs:List V} {us:List Value} {i:Nat} {x:V},Vals xs us→xs[i]?=some x→∃u,us[i]?=some u∧RelV x u
 |_,_,_,_,.nil,e=>by simp at e
 |_,_,0,_,.cons r _,e=>by simp at e;subst e;exact ⟨_,rfl,r⟩
 |_,_,i+1,x,.cons _ t,e=>by
  obtain ⟨u,h1,h2⟩:=Vals.get (i:=i) (x:=x) t (by simpa using e);exact ⟨u,by simpa using h1,h2⟩
theorem Vals.set{x:V}{u:Value}(r:RelV x u):∀{xs:List V} {us:List Value} (i:Nat),Vals xs us→Vals (xs.set i x) (us.set i u)
 |_,_,_,.nil=>.nil
 |_,_,0,.cons _ t=>.cons r t
 |_,_,i+1,.cons q t=>.cons q (Vals.set r i t)
theorem Vals.append:∀{xs ys:List V} {us ws:List Value},Vals xs us→Vals ys ws→Vals (xs++ys) (us++ws)
 |_,_,_,_,.nil,s=>s
 |_,_,_,_,.cons r t,s=>.cons r (Vals.append t s)
theorem Vals.take:∀{xs:List V} {us:List Value} (n:Nat),Vals xs us→Vals (xs.take n) (us.take n)
 |_,_,0,_=>.nil
 |_,_,_+1,.nil=>.nil
 |_,_,n+1,.cons r t=>.cons r (Vals.take n t)
theorem Vals.drop:∀{xs:List V} {us:List Value} (n:Nat),Vals xs us→Vals (xs.drop n) (us.drop n)
 |_,_,0,r=>r
 |_,_,_+1,.nil=>.nil
 |_,_,n+1,.cons _ t=>Vals.drop n t
noncomputable def RelO:Option V→Option Value→Prop
 |some v,some u=>RelV v u
 |none,none=>True
 |_,_=>False
noncomputable def KV{κ:Type}:List (κ×V)→List (κ×Value)→Prop:=Paired fun (p:κ×V) (q:κ×Value)=>p.1=q.1∧RelV p.2 q.2
noncomputable def kV:Key→V
 | .inl i=>.int i
 | .inr x=>.str x
inductive HO where
 |lst (xs:List V)
 |tup (xs:List V)
 |dK (kvs:List (Key×V))|dT (kvs:List (List Key×V))
 |set (S:Int→Bool) (n:Nat)
 |ins (C dx:Addr) (fs:List (Str×V))
 |own (x:Addr)
 |xd (fs:List (Str×V))
 |met (f x:Addr)
 |rng (lo hi:Int)
 |frz (o:Obj) (u:HO)
 |tbl (ps:Array Value)
 |ext (φ:Heap→Prop)
noncomputable abbrev Hp:=Addr→Option HO
noncomputable def upd(H:Hp)(a:Addr)(o:HO):Hp:=fun b=>if b=a then some o else H b
theorem n3{H:Hp}{a:Addr}{o:HO}:upd H a o a=some o:=by unfold upd;rw[if_pos rfl]
theorem y0{H:Hp}{a b:Addr}{o:HO}(h:b≠a):upd H a o b=H b:=by unfold upd;rw[if_neg h]
theorem s0{H:Hp}{a b:Addr}{o:HO}(h:H a=some o)(h':H b=none):a≠b:=by
 intro e;subst e;rw[h]at h';cases h'
noncomputable def TupD(h:Heap)(a:Addr)(items:Array Value):Prop:=∃o,h.get? a=some o∧o.cls=.type "tuple"∧(∃n,o.data=.seq items n)∧o.dict=none
theorem TupD.tup{h:Heap}{a:Addr}{items:Array Value}(x:TupD h a items):IsTup h a items:=let ⟨o,e,c,d,_⟩:=x;⟨o,e,c,d⟩
theorem TupD.new(h:Heap)(items:Array Value):TupD (h.push {cls:=.type "tuple",data:=.seq items}) h.objs.size items:=⟨_,Heap.get?_push_size _ rfl,rfl,⟨_,rfl⟩,rfl⟩
section
variable(P:Program)(w:World)
noncomputable def ObjOk(H:Hp)(h:Heap)(a:Addr):HO→Prop
 | .lst xs=>xs.length≤sizeLine∧∃(its:List Value) (n:Nat),Vals xs its∧h.get? a=some {cls:=.type "list",data:=.seq its.toArray n}
 | .tup xs=>xs.length≤sizeLine∧∃its:List Value,Vals xs its∧TupD h a its.toArray
 | .dK kvs=>kvs.length≤sizeLine∧(a==sysModules)=false∧∃vs,KV kvs vs∧h.DictOf (k0a P w) a vs
 | .dT kvs=>kvs.length≤sizeLine∧(a==sysModules)=false∧∃xs:List (List Key×Addr×Value),
  Paired (fun (p:List Key×V) (q:List Key×Addr×Value)=>p.1=q.1∧H q.2.1=some (.tup (p.1.map kV))∧RelV p.2 q.2.2) kvs xs∧
  ∃o es ep,h.get? a=some o∧o.ExactDict∧o.data=.dict es ep∧es.toList=xs.map (entryOfKey (tupleKind (k0a P w)))∧(xs.map (·.1)).Nodup
 | .set S n=>h.SetOf (intKind P w) a S n
 | .ins C dx fs=>H dx=some (.own a)∧fs.length≤1000∧dx≠a∧h.get? a=some (PySem.W.instObj C dx)∧
  ∃mA,h.Ns1 dx mA∧(∀f,RelO (fs.lookup f) (mA f))∧PySem.Within mA (fs.map (·.1))
 | .own _=>∃o,h.get? a=some o
 | .xd fs=>∃mA,h.Ns1 a mA∧∀f,RelO (fs.lookup f) (mA f)
 | .rng lo hi=>∃t u v,h.get? a=some {cls:=.type "range",data:=.fields #[.int lo t,.int hi u,.int 1 v]}
 | .frz o u=>h.get? a=some o∧ObjOk H h a u
 | .tbl ps=>h.get? a=some {cls:=.none,data:=.fields ps}
 | .met f x=>h.get? a=some (PySem.W.methodObj (.ref f) (.ref x))
 | .ext φ=>φ h∧(∃o,h.get? a=some o)∧∀h1 h2:Heap,φ h1→(∀o,h1.get? a=some o→h2.get? a=some o)→φ h2
noncomputable def HOk(H:Hp)(h:Heap):Prop:=∀a o,H a=some o→ObjOk P w H h a o
end
section
variable{P:Program}{w:World}{H H':Hp}{h h':Heap}{a:Addr}{o:HO}
theorem ObjOk.lt(x:ObjOk P w H h a o):a<h.objs.size:=by
 cases o with
 |lst xs=>obtain ⟨_,_,_,_,e⟩:=x;exact Heap.lt_size e
 |tup xs=>obtain ⟨_,_,_,p⟩:=x;exact p.tup.lt
 |dK kvs=>obtain ⟨_,_,_,_,o,_,_,e,_⟩:=x;exact Heap.lt_size e
 |dT kvs=>obtain ⟨_,_,_,_,o,_,_,e,_⟩:=x;exact Heap.lt_size e
 |set S n=>obtain ⟨o,_,_,_,e,_⟩:=x;exact Heap.lt_size e
 |ins C dx fs=>obtain ⟨_,_,_,e,_⟩:=x;exact Heap.lt_size e
 |own y=>obtain ⟨_,e⟩:=x;exact Heap.lt_size e
 |xd fs=>obtain ⟨_,⟨_,_,_,e,_⟩,_⟩:=x;exact Heap.lt_size e
 |rng lo hi=>obtain ⟨_,_,_,e⟩:=x;exact Heap.lt_size e
 |frz ob u=>obtain ⟨e,_⟩:=x;exact Heap.lt_size e
 |tbl ps=>exact Heap.lt_size (show h.get? a=some _ from x)
 |met f y=>exact Heap.lt_size (show h.get? a=some _ from x)
 |ext φ=>obtain ⟨_,⟨_,e⟩,_⟩:=x;exact Heap.lt_size e
theorem Paired.mapP{α β:Type}{F G:α→β→Prop}:∀{l₁:List α} {l₂:List β},Paired F l₁ l₂→(∀a b,F a b→G a b)→Paired G l₁ l₂
 |_,_,.nil,_=>.nil
 |_,_,.cons r t,f=>.cons (f _ _ r) (Paired.mapP t f)
theorem ObjOk.stay(x:ObjOk P w H h a o)(k:∀b u,(b=a∨H b=some (.own a))→h.get? b=some u→h'.get? b=some u)
 (ho:∀b,H b=some (.own a)→H' b=some (.own a)) (ht:∀b xs,H b=some (.tup xs)→H' b=some (.tup xs)):ObjOk P w H' h' a o:=by
 induction o with
 |lst xs=>obtain ⟨z,its,n,r,e⟩:=x;exact ⟨z,its,n,r,k _ _ (.inl rfl) e⟩
 |tup xs=>obtain ⟨z,its,r,ob,e,c⟩:=x;exact ⟨z,its,r,ob,k _ _ (.inl rfl) e,c⟩
 |dK kvs=>obtain ⟨z,y,vs,r,ob,es,ep,e,c⟩:=x;exact ⟨z,y,vs,r,ob,es,ep,k _ _ (.inl rfl) e,c⟩
 |dT kvs=>
  obtain ⟨z,y,xs,r,ob,es,ep,e,c⟩:=x;exact ⟨z,y,xs,Paired.mapP r fun p q z=>⟨z.1,ht _ _ z.2.1,z.2.2⟩,ob,es,ep,k _ _ (.inl rfl) e,c⟩
 |set S n=>obtain ⟨ob,es,ep,t,e,c⟩:=x;exact ⟨ob,es,ep,t,k _ _ (.inl rfl) e,c⟩
 |ins C dx fs=>
  obtain ⟨d,z,ne,e,mA,⟨od,es,ep,e2,c⟩,r⟩:=x;exact ⟨ho _ d,z,ne,k _ _ (.inl rfl) e,mA,⟨od,es,ep,k _ _ (.inr d) e2,c⟩,r⟩
 |own y=>obtain ⟨ob,e⟩:=x;exact ⟨ob,k _ _ (.inl rfl) e⟩
 |xd fs=>obtain ⟨mA,⟨od,es,ep,e,c⟩,r⟩:=x;exact ⟨mA,⟨od,es,ep,k _ _ (.inl rfl) e,c⟩,r⟩
 |rng lo hi=>obtain ⟨t,u,v,e⟩:=x;exact ⟨t,u,v,k _ _ (.inl rfl) e⟩
 |frz ob u ih=>obtain ⟨e,q⟩:=x;exact ⟨k _ _ (.inl rfl) e,ih q⟩
 |tbl ps=>
  have e:h.get? a=some {cls:=.none,data:=.fields ps}:=x;show h'.get? a=some {cls:=.none,data:=.fields ps};exact k a _ (.inl rfl) e
 |met f y=>
  have e:h.get? a=some (PySem.W.methodObj (.ref f) (.ref y)):=x;show h'.get? a=some (PySem.W.methodObj (.ref f) (.ref y));exact k a _ (.inl rfl) e
 |ext φ=>obtain ⟨p,⟨o,e⟩,st⟩:=x;exact ⟨st _ _ p fun o q=>k _ _ (.inl rfl) q,⟨o,k _ _ (.inl rfl) e⟩,st⟩
theorem HOk.lt(x:HOk P w H h)(e:H a=some o):a<h.objs.size:=(x a o e).lt
theorem HOk.fresh(x:HOk P w H h)(e:h.objs.size≤a):H a=none:=by
 cases q:H a with
 |none=>rfl
 |some u=>exact absurd (Nat.lt_of_lt_of_le (x.lt q) e) (Nat.lt_irrefl _)
theorem HOk.kept(x:HOk P w H h)(k:∀b u,h.get? b=some u→h'.get? b=some u):HOk P w H h':=fun a o e=>
 (x a o e).stay (fun b u _ q=>k b u q) (fun _ q=>q) fun _ _ q=>q
theorem HOk.laid(x:HOk P w H h)(k:∀b u,h.get? b=some u→h'.get? b=some u)(hp:h.objs.size≤a)(new:ObjOk P w (upd H a o) h' a o):HOk P w (upd H a o) h':=fun b u e=>by
 have hn:=x.fresh hp;by_cases hb:b=a
 ·subst hb;rw[n3]at e;cases e;exact new
 ·rw[y0 hb]at e;exact (x b u e).stay (fun c v _ q=>k c v q) (fun c q=>by rw[y0 (s0 q hn)];exact q) fun c xs q=>by rw[y0 (s0 q hn)];exact q
end
noncomputable def Rd(H:Hp)(a:Addr)(u:HO):Prop:=H a=some u∨∃o,H a=some (.frz o u)
theorem Rd.ok{P:Program}{w:World}{H:Hp}{h:Heap}{a:Addr}{u:HO}(r:Rd H a u)(x:HOk P w H h):ObjOk P w H h a u:=by
 rcases r with r |⟨o,r⟩
 ·exact x a u r
 ·obtain ⟨_,q⟩:=x a _ r;exact q
noncomputable def Mut:Option HO→Prop
 |some (.lst _)=>True
 |some (.dK _)=>True
 |some (.dT _)=>True
 |some (.set _ _)=>True
 |some (.ins _ _ _)=>True
 |some (.ext _)=>True
 |_=>False
section
variable{P:Program}{w:World}{H:Hp}{h h':Heap}{x e:Addr}{o':HO}
theorem HOk.write(ok:HOk P w H h)(mu:Mut (H x))(he:e=x∨H e=some (.own x))(k:∀b u,b≠e→h.get? b=some u→h'.get? b=some u)(heo:∃u,h'.get? e=some u)
 (new:ObjOk P w (upd H x o') h' x o'):HOk P w (upd H x o') h':=fun b u q=>by
 have nown:∀c y,H c=some (.own y)→c≠x:=fun c y r z=>by subst z;rw[r]at mu;exact mu
 have ntup:∀c xs,H c=some (.tup xs)→c≠x:=fun c xs r z=>by subst z;rw[r]at mu;exact mu
 by_cases hb:b=x
 ·subst hb;rw[n3]at q;cases q;exact new
 ·rw[y0 hb]at q;by_cases hbe:b=e
  ·have q':H b=some (.own x):=by
    rcases he with z |z
    ·exact absurd (hbe.trans z) hb
    ·rw[hbe];exact z
   rw[q]at q';cases q';obtain ⟨v,hv⟩:=heo;exact ⟨v,by rw[hbe];exact hv⟩
  ·refine (ok b u q).stay (fun c v hc r=>k c v ?_ r) (fun c r=>by rw[y0 (nown c b r)];exact r) fun c xs r=>by rw[y0 (ntup c xs r)];exact r
   rcases hc with rfl |hc
   ·exact hbe
   ·rintro rfl;rcases he with z |z
    ·exact nown c b hc z
    ·rw[hc]at z;cases z;exact hb rfl
end
structure Un(fs ex:List Addr)(H H':Hp)(h h':Heap):Prop where
 keep:∀b o,h.get? b=some o→H b=none→b∉fs→b∉ex→h'.get? b=some o
 slot:∀b o,h.get? b=some o→H b=none→b∈fs→b∉ex→∃sl,h'.get? b=some {o with slots:=sl}
 free:∀b o,h.get? b=some o→H b=none→b∉ex→H' b=none
 there:∀b o,h.get? b=some o→b∉ex→∃o',h'.get? b=some o'
 tups:∀b xs,H b=some (.tup xs)→H' b=some (.tup xs)
 frzs:∀b o u,H b=some (.frz o u)→H' b=some (.frz o u)
 tbls:∀b ps,H b=some (.tbl ps)→∃more,H' b=some (.tbl (ps++more))
section
variable{fs fs' ex ex':List Addr}{H H1 H2:Hp}{h h1 h2 h':Heap}{a x e:Addr}{o:HO}
theorem Un.any(u:Un fs ex H H1 h h1){b:Addr}{ob:Obj}(q:h.get? b=some ob)(n:H b=none)(hx:b∉ex):∃sl,h1.get? b=some {ob with slots:=sl}:=by
 by_cases hb:b∈fs
 ·exact u.slot b ob q n hb hx
 ·exact ⟨ob.slots,u.keep b ob q n hb hx⟩
theorem Un.kept(k:∀b u,h.get? b=some u→h'.get? b=some u):Un fs ex H H h h':=
 ⟨fun b ob q _ _ _=>k b ob q,fun b ob q _ _ _=>⟨ob.slots,k b ob q⟩,fun _ _ _ n _=>n,fun b ob q _=>⟨ob,k b ob q⟩,fun _ _ q=>q,fun _ _ _ q=>q,fun _ ps q=>⟨#[],by rw[q];simp⟩⟩
theorem Un.refl:Un fs ex H H h h:=Un.kept fun _ _ q=>q
theorem Un.laid(k:∀b u,h.get? b=some u→h'.get? b=some u)(hp:h.objs.size≤a)(hn:H a=none):Un fs ex H (upd H a o) h h' where
 keep:=fun b u q _ _ _=>k b u q
 slot:=fun b u q _ _ _=>⟨u.slots,k b u q⟩
 free:=fun b u q n _=>by rw[y0 (Nat.ne_of_lt (Nat.lt_of_lt_of_le (Heap.lt_size q) hp))];exact n
 there:=fun b u q _=>⟨u,k b u q⟩
 tups:=fun b xs q=>by rw[y0 (s0 q hn)];exact q
 frzs:=fun b u xs q=>by rw[y0 (s0 q hn)];exact q
 tbls:=fun b ps q=>⟨#[],by rw[y0 (s0 q hn),q];simp⟩
theorem Un.write(mu:Mut (H x))(he:e=x∨H e=some (.own x))(k:∀b u,b≠e→h.get? b=some u→h'.get? b=some u)(heo:∃u,h'.get? e=some u):Un fs ex H (upd H x o) h h':=by
 have hx:∀b,H b=none→b≠x:=fun b n z=>by subst z;rw[n]at mu;exact mu
 have hb:∀b,H b=none→b≠e:=fun b n z=>by
  subst z;rcases he with r |r
  ·exact hx b n r
  ·rw[n]at r;cases r
 have hm:∀b u,H b=some u→¬Mut (some u)→b≠x:=fun b u q nm z=>by subst z;rw[q]at mu;exact nm mu
 refine ⟨fun b u q n _ _=>k b u (hb b n) q,fun b u q n _ _=>⟨u.slots,k b u (hb b n) q⟩,fun b u q n _=>by rw[y0 (hx b n)];exact n,fun b u q _=>?_,
  fun b xs q=>by rw[y0 (hm b _ q fun z=>z)];exact q,fun b u xs q=>by rw[y0 (hm b _ q fun z=>z)];exact q,fun b ps q=>⟨#[],by rw[y0 (hm b _ q fun z=>z),q];simp⟩⟩
 by_cases hbe:b=e
 ·subst hbe;exact heo
 ·exact ⟨u,k b u hbe q⟩
end
noncomputable def trk(h:Heap)(H:Hp):List Addr:=(List.range h.objs.size).filter fun a=>(H a).isSome
noncomputable def hidT(h:Heap)(H:Hp):Heap:=PySem.W.hideAll h (trk h H)
theorem j0z(h:Heap)(H:Hp):(hidT h H).objs.size=h.objs.size:=PySem.W.hideAll_size _ _
theorem g0f{h:Heap}{H:Hp}{b:Addr}{o:Obj}(e:h.get? b=some o)(n:H b=none):(hidT h H).get? b=some o:=
 PySem.W.hideAll_get _ e fun hm=>by
  have q:(H b).isSome=true:=(List.mem_filter.mp hm).2;rw[n]at q;simp at q
theorem c0d{h:Heap}{H:Hp}{b:Addr}{o:Obj}(e:(hidT h H).get? b=some o):h.get? b=some o∧H b=none:=by
 have e':h.get? b=some o:=PySem.W.of_hideAll (trk h H) e;refine ⟨e',?_⟩;cases q:H b with
 |none=>rfl
 |some x=>
  have hm:b∈trk h H:=List.mem_filter.mpr ⟨List.mem_range.mpr (Heap.lt_size e'),by simp[q]⟩;have z:(hidT h H).get? b=none:=PySem.W.hideAll_none (trk h H) hm;rw[z]at e;cases e
noncomputable def c0c(g h:Heap)(L:Addr):List (Addr×Obj):=(List.range h.objs.size).filterMap fun a=>if a=L∨(g.get? a).isSome=true then none else (h.get? a).map fun o=>(a,o)
noncomputable def rest(g h:Heap)(L d:Addr):List (Addr×Obj):=(c0c g h L).filter fun p=>decide (p.1≠d)
end L2
namespace L2
open PySem PySem.Spec PyProof.Rows
structure Mod(K:PySem.W.Frag)(mg:Str→Option Value)(base:Heap):Prop where
 kin:K.In base
 glob:base.Ns mainGlobals mg
 blt:∃mb,base.Ns builtinsNs mb∧∀x:Str,x≠"__name__"→mb x=bootBuiltins x
 nolimit:base.NoLimit
structure Cx where
 prog:Program
 w:World
 K:PySem.W.Frag
 mg:Str→Option Value
 base:Heap
 A:Around
 N:List Str
 s₀:Shared
 H₀:Hp
 env:Env
 outer:List Env
 stack:List Env
 ex:List Addr
 fn:Str→Bool
 calm:Bool
 pn:List (Addr×Obj)
 xe:Value→Shared→Prop
 fl:Bool:=true
noncomputable def frs(l:List Env):List Addr:=l.filterMap (·.frame)
noncomputable abbrev Cx.fs(X:Cx):List Addr:=frs X.outer
noncomputable def Vis(sc:Scope)(x:Str):Prop:=sc.names.lookup x=some .local∨sc.names.lookup x=some .cell∨sc.names.lookup x=some .free
noncomputable def Loc(sc:Scope)(x:Str):Prop:=sc.names.lookup x=some .local∨sc.names.lookup x=some .cell
noncomputable def Look(env:Env)(h:Heap)(m:Str→Option Value)(x:Str)(u:Value):Prop:=
 (env.kindOf x=some .local∧m x=some u)∨((env.kindOf x=some .cell∨env.kindOf x=some .free)∧∃c,env.cells.lookup x=some c∧h.IsCell c (some u))
structure Cx.Ok(X:Cx):Prop where
 mod:Mod X.K X.mg X.base
 kind:X.env.scope.kind=.function
 glob:X.env.globals=mainGlobals
 blt:X.env.builtins=builtinsNs
 above:X.s₀.heap.objs.size≤X.env.locals
 inj:∀x y c,X.env.cells.lookup x=some c→X.env.cells.lookup y=some c→x=y
 has:∀x,(X.env.kindOf x=some .cell∨X.env.kindOf x=some .free)→∃c,X.env.cells.lookup x=some c
 cab:∀x c,X.fn x=true→X.env.cells.lookup x=some c→X.s₀.heap.objs.size≤c
 hd:X.calm=true→X.A.handled=none
 frames:X.A.frames=some X.stack
 stk:X.stack=X.outer∨(X.stack=X.env::X.outer∧X.env.frame=some X.env.locals)
 exf:∀b∈X.ex,b≠X.env.locals∧∀x c,X.env.cells.lookup x=some c→c≠b
 bs:∀b o,X.base.get? b=some o→X.s₀.heap.get? b=some o∧X.H₀ b=none
 bsz:X.base.objs.size≤X.s₀.heap.objs.size
 noex:∀b o,X.base.get? b=some o→b∉X.ex
 exfs:∀b∈X.ex,b∉X.fs
 funs:X.s₀.heap.FunFrames X.base X.outer
 frf:∀b∈X.fs,X.H₀ b=none
structure Inv(X:Cx)(pins:List (Addr×Obj))(σ:List (Option V))(H:Hp)(s:Shared):Prop where
 ok:X.Ok
 os:s.os=X.s₀.os
 bare:AllBare s.gens
 base:Un X.fs X.ex X.H₀ H X.s₀.heap s.heap
 loc:∃m,s.heap.Ns X.env.locals m∧∀(i:Nat) (x:Str) (v:V),X.N[i]?=some x→σ[i]?=some (some v)→Vis X.env.scope x→∃u,RelV v u∧Look X.env s.heap m x u
 cell:∀x c,X.env.cells.lookup x=some c→∃v,s.heap.IsCell c v
 free:H X.env.locals=none
 freeC:∀x c,X.env.cells.lookup x=some c→H c=none
 pin:∀p∈X.pn++pins,s.heap.get? p.1=some p.2∧H p.1=none∧p.1≠X.env.locals∧p.1∉X.fs∧∀v,p.2.data≠.cell v
 hok:HOk X.prog X.w H s.heap
 len:σ.length=X.N.length
section
variable{X:Cx}{pins:List (Addr×Obj)}{σ:List (Option V)}{H H':Hp}{s:Shared}{h':Heap}
theorem Cx.Ok.nofr(ok:X.Ok){b:Addr}{o:Obj}(e:X.base.get? b=some o):b∉X.fs:=fun hb=>by
 have:=(ok.funs.mem hb).1;rw[e]at this;cases this
theorem Inv.bs(I:Inv X pins σ H s):∀b o,X.base.get? b=some o→s.heap.get? b=some o∧H b=none:=fun b o e=>
 ⟨I.base.keep b o (I.ok.bs b o e).1 (I.ok.bs b o e).2 (I.ok.nofr e) (I.ok.noex b o e),I.base.free b o (I.ok.bs b o e).1 (I.ok.bs b o e).2 (I.ok.noex b o e)⟩
theorem Inv.bk(I:Inv X pins σ H s):∀b o,X.base.get? b=some o→s.heap.get? b=some o:=fun b o e=>(I.bs b o e).1
theorem Inv.mod(I:Inv X pins σ H s):Mod X.K X.mg X.base:=I.ok.mod
theorem Inv.kIn(I:Inv X pins σ H s):X.K.In s.heap:=I.ok.mod.kin.keeps I.bk
theorem Inv.fr(I:Inv X pins σ H s):∃m,Fr X.base X.env.locals s.heap m:=
 let ⟨m,hn,_⟩:=I.loc
 ⟨m,hn,I.bk,Nat.le_trans I.ok.bsz I.ok.above⟩
theorem Inv.lt(I:Inv X pins σ H s):X.env.locals<s.heap.objs.size:=let ⟨_,hn,_⟩:=I.loc;hn.lt
theorem Inv.sz(I:Inv X pins σ H s):X.s₀.heap.objs.size≤s.heap.objs.size:=Nat.le_trans I.ok.above (Nat.le_of_lt I.lt)
theorem Inv.nofs(I:Inv X pins σ H s){a:Addr}(h:s.heap.objs.size≤a):a∉X.fs:=fun hb=>by
 obtain ⟨_,o,ho,_⟩:=I.ok.funs.mem hb;exact absurd (Nat.lt_of_lt_of_le (Heap.lt_size ho) (Nat.le_trans I.sz h)) (Nat.lt_irrefl _)
theorem Inv.cne(I:Inv X pins σ H s):∀x c,X.env.cells.lookup x=some c→c≠X.env.locals:=fun x c e z=>by
 obtain ⟨v,o,ho,hd⟩:=I.cell x c e;obtain ⟨m,⟨o',es,ep,ho',hd',_⟩,_⟩:=I.loc;rw[z,ho']at ho;cases ho;rw[hd']at hd;cases hd
theorem Inv.funs(I:Inv X pins σ H s):s.heap.FunFrames X.base X.outer:=by
 have all:∀(l:List Env),(∀b∈frs l,b∈X.fs)→X.s₀.heap.FunFrames X.base l→s.heap.FunFrames X.base l:=by
  intro l
  induction l with
  |nil=>intro _ _;trivial
  |cons env r ih=>
   intro hs hl;obtain ⟨hk,⟨L,o,hf,hn,ho,hd⟩,hr⟩:=hl;have hL:L∈X.fs:=hs L (by unfold frs;rw[List.filterMap_cons,hf];exact List.mem_cons_self);obtain ⟨sl,e⟩:=I.base.slot L o ho (I.ok.frf L hL) hL fun z=>I.ok.exfs L z hL
   exact ⟨hk,⟨L,_,hf,hn,e,hd⟩,ih (fun b hb=>hs b (by unfold frs;rw[List.filterMap_cons,hf];exact List.mem_cons_of_mem _ hb)) hr⟩
 exact all X.outer (fun _ hb=>hb) I.ok.funs
theorem Inv.stack(I:Inv X pins σ H s):s.heap.FunFrames X.base X.stack:=by
 rcases I.ok.stk with e |⟨e,hf⟩
 ·rw[e];exact I.funs
 ·rw[e];obtain ⟨m,hn,_⟩:=I.loc;refine .cons (by rw[I.ok.kind];decide) hf hn ?_ I.funs;exact Heap.get?_none_of_le (Nat.le_trans I.ok.bsz I.ok.above)
theorem Inv.stkSub(I:Inv X pins σ H s):∀b∈frs X.stack,b∈X.env.locals::X.fs:=fun b hb=>by
 rcases I.ok.stk with e |⟨e,hf⟩
 ·rw[e]at hb;exact List.mem_cons_of_mem _ hb
 ·rw[e]at hb;unfold frs at hb;rw[List.filterMap_cons,hf]at hb;exact hb
theorem Inv.stkFree(I:Inv X pins σ H s):∀b∈frs X.stack,H b=none:=fun b hb=>by
 rcases List.mem_cons.mp (I.stkSub b hb)with e |hb
 ·rw[e];exact I.free
 ·obtain ⟨_,o,ho,_⟩:=I.ok.funs.mem hb;exact I.base.free b o ho (I.ok.frf b hb) fun z=>I.ok.exfs b z hb
theorem Inv.step{g':Array GenState}{t':Nat}{d':Drawn}{ch:List Addr}(I:Inv X pins σ H s)
 (hch:∀b∈ch,(b∈X.ex∨X.s₀.heap.objs.size≤b)∧b≠X.env.locals∧(∀x c,X.env.cells.lookup x=some c→c≠b)∧∀p∈X.pn++pins,p.1≠b)
 (keep:∀b o,b≠X.env.locals→b∉X.fs→b∉ch→s.heap.get? b=some o→H b=none→h'.get? b=some o)
 (slot:∀b o,b≠X.env.locals→b∈X.fs→b∉ch→s.heap.get? b=some o→H b=none→∃sl,h'.get? b=some {o with slots:=sl}) (free:∀b o,b∉ch→s.heap.get? b=some o→H b=none→H' b=none)
 (there:∀b o,b∉ch→s.heap.get? b=some o→∃o',h'.get? b=some o')
 (tups:∀b xs,H b=some (.tup xs)→H' b=some (.tup xs)) (frzs:∀b o u,H b=some (.frz o u)→H' b=some (.frz o u)) (tbls:∀b ps,H b=some (.tbl ps)→∃more,H' b=some (.tbl (ps++more)))
 (ns:∀m,s.heap.Ns X.env.locals m→h'.Ns X.env.locals m) (hok:HOk X.prog X.w H' h') (hg:AllBare g'):
 Inv X pins σ H' {s with heap:=h',gens:=g',drawn:=d',toks:=t'}:=by
 have neL:∀b o,X.s₀.heap.get? b=some o→b≠X.env.locals:=fun b o e=>Nat.ne_of_lt (Nat.lt_of_lt_of_le (Heap.lt_size e) I.ok.above)
 have neC:∀b o,X.s₀.heap.get? b=some o→b∉X.ex→b∉ch:=fun b o e hx hb=>by
  rcases (hch b hb).1 with z |z
  ·exact hx z
  ·exact absurd (Nat.lt_of_lt_of_le (Heap.lt_size e) z) (Nat.lt_irrefl _)
 have cellK:∀x c,X.env.cells.lookup x=some c→∀v,s.heap.IsCell c v→h'.IsCell c v:=fun x c e v ⟨o,ho,hd⟩=>by
  have nch:c∉ch:=fun z=>(hch c z).2.2.1 x c e rfl
  by_cases hc:c∈X.fs
  ·obtain ⟨sl,q⟩:=slot c o (I.cne x c e) hc nch ho (I.freeC x c e);exact ⟨_,q,hd⟩
  ·exact ⟨o,keep c o (I.cne x c e) hc nch ho (I.freeC x c e),hd⟩
 refine ⟨I.ok,I.os,hg,⟨fun b o e n hb hx=>?_,fun b o e n hb hx=>?_,fun b o e n hx=>?_,fun b o e hx=>?_,fun b xs e=>tups b xs (I.base.tups b xs e),fun b o xs e=>frzs b o xs (I.base.frzs b o xs e),fun b ps e=>?_⟩,?_,fun x c e=>?_,?_,fun x c e=>?_,fun p hp=>?_,hok,I.len⟩
 ·exact keep b o (neL b o e) hb (neC b o e hx) (I.base.keep b o e n hb hx) (I.base.free b o e n hx)
 ·obtain ⟨sl,e1⟩:=I.base.slot b o e n hb hx;obtain ⟨sl',e2⟩:=slot b _ (neL b o e) hb (neC b o e hx) e1 (I.base.free b o e n hx);exact ⟨sl',e2⟩
 ·obtain ⟨o',e1⟩:=I.base.there b o e hx;exact free b o' (neC b o e hx) e1 (I.base.free b o e n hx)
 ·obtain ⟨o',e1⟩:=I.base.there b o e hx;exact there b o' (neC b o e hx) e1
 ·obtain ⟨m1,e1⟩:=I.base.tbls b ps e;obtain ⟨m2,e2⟩:=tbls b _ e1;exact ⟨m1++m2,by rw[e2,Array.append_assoc]⟩
 ·obtain ⟨m,hn,hl⟩:=I.loc;refine ⟨m,ns m hn,fun i x v e1 e2 e3=>?_⟩;obtain ⟨u,r,l⟩:=hl i x v e1 e2 e3;refine ⟨u,r,?_⟩;rcases l with l |⟨k,c,e,z⟩
  ·exact .inl l
  ·exact .inr ⟨k,c,e,cellK x c e _ z⟩
 ·obtain ⟨v,z⟩:=I.cell x c e;exact ⟨v,cellK x c e v z⟩
 ·obtain ⟨m,⟨o,_,_,ho,_⟩,_⟩:=I.loc;exact free _ o (fun z=>(hch _ z).2.1 rfl) ho I.free
 ·obtain ⟨v,o,ho,hd⟩:=I.cell x c e;exact free c o (fun z=>(hch c z).2.2.1 x c e rfl) ho (I.freeC x c e)
 ·obtain ⟨e,n,ne,nf,d⟩:=I.pin p hp;have nch:p.1∉ch:=fun z=>(hch p.1 z).2.2.2 p hp rfl
  exact ⟨keep p.1 p.2 ne nf nch e n,free p.1 p.2 nch e n,ne,nf,d⟩
theorem Inv.un{t':Nat}(I:Inv X pins σ H s)(u:Un X.fs [] H H' s.heap h')(hok:HOk X.prog X.w H' h'):Inv X pins σ H' {s with heap:=h',toks:=t'}:=by
 obtain ⟨m,⟨o,es,ep,ho,r⟩,_⟩:=id I.loc;obtain ⟨sl,hL⟩:=u.any ho I.free (by simp);exact I.step (g':=s.gens) (d':=s.drawn) (ch:=[]) (fun _ z=>nomatch z) (fun b o _ hb _ e n=>u.keep b o e n hb (by simp)) (fun b o _ hb _ e n=>u.slot b o e n hb (by simp)) (fun b o _ e n=>u.free b o e n (by simp)) (fun b o _ e=>u.there b o e (by simp)) u.tups u.frzs u.tbls (fun m' hm=>by
  obtain ⟨o',es',ep',ho',r'⟩:=hm;rw[ho]at ho';cases ho';exact ⟨_,es',ep',hL,r'⟩) hok I.bare
theorem Inv.call{g':Array GenState}{t':Nat}{d':Drawn}{ch:List Addr}(I:Inv X pins σ H s)(u:Un (frs X.stack) ch H H' s.heap h')(hok:HOk X.prog X.w H' h')(hg:AllBare g')
 (hch:∀b∈ch,(b∈X.ex∨X.s₀.heap.objs.size≤b)∧b≠X.env.locals∧(∀x c,X.env.cells.lookup x=some c→c≠b)∧∀p∈X.pn++pins,p.1≠b):
 Inv X pins σ H' {s with heap:=h',gens:=g',drawn:=d',toks:=t'}:=by
 obtain ⟨m,⟨o,es,ep,ho,r⟩,_⟩:=id I.loc;obtain ⟨sl,hL⟩:=u.any ho I.free fun z=>(hch _ z).2.1 rfl
 exact I.step (ch:=ch) hch (fun b o hL hb hc e n=>u.keep b o e n (fun z=>(List.mem_cons.mp (I.stkSub b z)).elim hL hb) hc) (fun b o _ _ hc e n=>u.any e n hc) (fun b o hc e n=>u.free b o e n hc) (fun b o hc e=>u.there b o e hc) u.tups u.frzs u.tbls (fun m' hm=>by
  obtain ⟨o',es',ep',ho',r'⟩:=hm;rw[ho]at ho';cases ho';exact ⟨_,es',ep',hL,r'⟩) hok hg
theorem Inv.turned{t':Nat}{it:Addr}(I:Inv X pins σ H s)(k:∀b o,b≠it→s.heap.get? b=some o→h'.get? b=some o)(hn:H it=none)(hL:it≠X.env.locals)
 (h1:it∈X.ex∨X.s₀.heap.objs.size≤it) (h2:∀x c,X.env.cells.lookup x=some c→c≠it) (h3:∀p∈X.pn++pins,p.1≠it):Inv X pins σ H {s with heap:=h',toks:=t'}:=by
 have nit:∀b u,H b=some u→b≠it:=fun b u e z=>by rw[z,hn]at e;cases e
 refine I.step (g':=s.gens) (d':=s.drawn) (ch:=[it]) (fun b hb=>?_) (fun b o _ _ hc e _=>k b o (fun z=>hc (by simp[z])) e) (fun b o _ _ hc e _=>⟨o.slots,k b o (fun z=>hc (by simp[z])) e⟩) (fun _ _ _ _ n=>n)
  (fun b o hc e=>⟨o,k b o (fun z=>hc (by simp[z])) e⟩) (fun _ _ e=>e) (fun _ _ _ e=>e) (fun b ps e=>⟨#[],by rw[e];simp⟩) (fun m hm=>?_) (fun b u e=>?_) I.bare
 ·have e:b=it:=by simpa using hb
  subst e;exact ⟨h1,hL,h2,h3⟩
 ·obtain ⟨o,es,ep,ho,r⟩:=hm;exact ⟨o,es,ep,k _ o (Ne.symm hL) ho,r⟩
 ·refine (I.hok b u e).stay (fun c v hc q=>k c v ?_ q) (fun _ q=>q) fun _ _ q=>q
  rcases hc with z |z
  ·rw[z];exact nit b u e
  ·exact nit c _ z
theorem Inv.tok(I:Inv X pins σ H s)(t:Nat):Inv X pins σ H {s with toks:=t}:=I.un (h':=s.heap) (t':=t) Un.refl I.hok
theorem Inv.kept{t':Nat}(I:Inv X pins σ H s)(k:∀b u,s.heap.get? b=some u→h'.get? b=some u):Inv X pins σ H {s with heap:=h',toks:=t'}:=I.un (Un.kept k) (I.hok.kept k)
theorem Inv.laid{a:Addr}{o:HO}{t':Nat}(I:Inv X pins σ H s)(k:∀b u,s.heap.get? b=some u→h'.get? b=some u)(hp:s.heap.objs.size≤a)(new:ObjOk X.prog X.w (upd H a o) h' a o):
 Inv X pins σ (upd H a o) {s with heap:=h',toks:=t'}:=I.un (Un.laid k hp (I.hok.fresh hp)) (I.hok.laid k hp new)
theorem Inv.write{x e:Addr}{o:HO}{t':Nat}(I:Inv X pins σ H s)(mu:Mut (H x))(he:e=x∨H e=some (.own x))(k:∀b u,b≠e→s.heap.get? b=some u→h'.get? b=some u)(heo:∃u,h'.get? e=some u)
 (new:ObjOk X.prog X.w (upd H x o) h' x o):Inv X pins σ (upd H x o) {s with heap:=h',toks:=t'}:=I.un (Un.write mu he k heo) (I.hok.write mu he k heo new)
theorem Inv.weak{σ':List (Option V)}(I:Inv X pins σ H s)(hl:σ'.length=σ.length)(w:∀(i:Nat) v,σ'[i]?=some (some v)→σ[i]?=some (some v)):Inv X pins σ' H s:=
 ⟨I.ok,I.os,I.bare,I.base,let ⟨m,hn,hl'⟩:=I.loc;⟨m,hn,fun i x v e1 e2 e3=>hl' i x v e1 (w i v e2) e3⟩,I.cell,I.free,I.freeC,I.pin,I.hok,hl.trans I.len⟩
theorem Inv.pins_of{pins':List (Addr×Obj)}(I:Inv X pins σ H s)(h:∀p∈pins',s.heap.get? p.1=some p.2∧H p.1=none∧p.1≠X.env.locals∧p.1∉X.fs∧∀v,p.2.data≠.cell v):Inv X pins' σ H s:=
 ⟨I.ok,I.os,I.bare,I.base,I.loc,I.cell,I.free,I.freeC,fun p hp=>(List.mem_append.mp hp).elim (fun z=>I.pin p (List.mem_append_left _ z)) (h p),I.hok,I.len⟩
theorem s0a{N:List Str}(hN:N.Nodup){i j:Nat}{x:Str}(a:N[i]?=some x)(b:N[j]?=some x):i=j:=by
 obtain ⟨h1,e1⟩:=List.getElem?_eq_some_iff.mp a;obtain ⟨h2,e2⟩:=List.getElem?_eq_some_iff.mp b;exact (List.getElem_inj hN).mp (e1.trans e2.symm)
theorem q0s{M:Model}{A:Around}{E:Value→Shared→Prop}{i:Nat}{x:Str}{v:V}{u:Value}{Q:Unit→Shared→Prop}(I:Inv X pins σ H s)(hN:X.N.Nodup)(hi:X.N[i]?=some x)(hx:Loc X.env.scope x)(r:RelV v u)
 (h:∀s',Inv X pins (σ.set i (some v)) H s'→(∃a,Heap.SameBut a s.heap s'.heap∧(a=X.env.locals∨X.env.cells.lookup x=some a))→Q () s') (hf:X.fn x=true∨X.env.scope.names.lookup x=some .local:=by first |exact .inl rfl |exact .inr rfl |assumption):wpAny M A (storeName X.env x u) Q E s:=by
 obtain ⟨m,hn,hl⟩:=id I.loc;have hcls:(X.env.scope.kind== .class||(X.env.scope.kind== .module&&X.env.locals !=X.env.globals))=false:=by rw[I.ok.kind];rfl
 have hiσ:i<σ.length:=by rw[I.len];exact (List.getElem?_eq_some_iff.mp hi).1
 have cne:=I.cne;have tracked:∀{a:Addr} {h':Heap},(∃o,s.heap.get? a=some o∧H a=none)→Heap.SameBut a s.heap h'→HOk X.prog X.w H h':=fun {a h'} ha hs b ob e=>by
  obtain ⟨_,_,hfree⟩:=ha;refine (I.hok b ob e).stay (fun c w' hc q=>(hs.2 c ?_).trans q) (fun _ q=>q) fun _ _ q=>q
  rintro rfl;rcases hc with rfl |hc
  ·rw[hfree]at e;cases e
  ·rw[hfree]at hc;cases hc
 rcases hx with hk |hk
 ·refine wpAny_storeName_local hk hn (fun h' hn' hs=>?_) hcls;obtain ⟨oL,_,_,hoL,_⟩:=id hn;refine h _ ⟨I.ok,I.os,I.bare,⟨fun b o e n hb hx=>?_,fun b o e n hb hx=>?_,I.base.free,fun b o e hx=>?_,I.base.tups,I.base.frzs,I.base.tbls⟩,⟨_,hn',fun j y v' e1 e2 e3=>?_⟩,fun y c e=>?_,I.free,I.freeC,fun p hp=>?_,tracked ⟨oL,hoL,I.free⟩ hs,by simpa using I.len⟩ ⟨_,hs,.inl rfl⟩
  ·exact (hs.2 b (Nat.ne_of_lt (Nat.lt_of_lt_of_le (Heap.lt_size e) I.ok.above))).trans (I.base.keep b o e n hb hx)
  ·obtain ⟨sl,e1⟩:=I.base.slot b o e n hb hx;exact ⟨sl,(hs.2 b (Nat.ne_of_lt (Nat.lt_of_lt_of_le (Heap.lt_size e) I.ok.above))).trans e1⟩
  ·obtain ⟨o',e1⟩:=I.base.there b o e hx;exact ⟨o',(hs.2 b (Nat.ne_of_lt (Nat.lt_of_lt_of_le (Heap.lt_size e) I.ok.above))).trans e1⟩
  ·by_cases hj:j=i
   ·subst hj;rw[hi]at e1;cases e1;rw[List.getElem?_set_self hiσ]at e2;cases e2;exact ⟨u,r,.inl ⟨hk,by simp⟩⟩
   ·rw[List.getElem?_set_ne (Ne.symm hj)]at e2;obtain ⟨u',r',q⟩:=hl j y v' e1 e2 e3;refine ⟨u',r',?_⟩;rcases q with ⟨k,e⟩|⟨k,c,e,z⟩
    ·refine .inl ⟨k,?_⟩;have:y≠x:=fun e=>hj (s0a hN e1 (e▸hi))
     simp[this,e]
    ·exact .inr ⟨k,c,e,z.sameBut hs (cne y c e)⟩
  ·obtain ⟨w',z⟩:=I.cell y c e;exact ⟨w',z.sameBut hs (cne y c e)⟩
  ·obtain ⟨e,n,ne,nf,d⟩:=I.pin p hp;exact ⟨(hs.2 p.1 ne).trans e,n,ne,nf,d⟩
 ·have hfn:X.fn x=true:=by
   rcases hf with z |z
   ·exact z
   ·rw[z]at hk;cases hk
  obtain ⟨c,hc⟩:=I.ok.has x (.inl hk);obtain ⟨w',z⟩:=I.cell x c hc;refine wpAny_storeName_cell I.ok.kind hk hc z (fun h' hc' hs=>?_);obtain ⟨oc,hoc,hocd⟩:=id z;refine h {s with heap:=h'} ⟨I.ok,I.os,I.bare,⟨fun b o e n hb hx=>?_,fun b o e n hb hx=>?_,I.base.free,fun b o e hx=>?_,I.base.tups,I.base.frzs,I.base.tbls⟩,⟨m,hn.sameBut hs (Ne.symm (cne x c hc)),fun j y v' e1 e2 e3=>?_⟩,fun y c' e=>?_,I.free,I.freeC,fun p hp=>?_,tracked ⟨oc,hoc,I.freeC x c hc⟩ hs,by simpa using I.len⟩ ⟨c,hs,.inr hc⟩
  ·exact (hs.2 b (Nat.ne_of_lt (Nat.lt_of_lt_of_le (Heap.lt_size e) (I.ok.cab x c hfn hc)))).trans (I.base.keep b o e n hb hx)
  ·obtain ⟨sl,e1⟩:=I.base.slot b o e n hb hx;exact ⟨sl,(hs.2 b (Nat.ne_of_lt (Nat.lt_of_lt_of_le (Heap.lt_size e) (I.ok.cab x c hfn hc)))).trans e1⟩
  ·obtain ⟨o',e1⟩:=I.base.there b o e hx;exact ⟨o',(hs.2 b (Nat.ne_of_lt (Nat.lt_of_lt_of_le (Heap.lt_size e) (I.ok.cab x c hfn hc)))).trans e1⟩
  ·by_cases hj:j=i
   ·subst hj;rw[hi]at e1;cases e1;rw[List.getElem?_set_self hiσ]at e2;cases e2;exact ⟨u,r,.inr ⟨.inl hk,c,hc,hc'⟩⟩
   ·rw[List.getElem?_set_ne (Ne.symm hj)]at e2;obtain ⟨u',r',q⟩:=hl j y v' e1 e2 e3;refine ⟨u',r',?_⟩;rcases q with q |⟨k,c',e,z'⟩
    ·exact .inl q
    ·refine .inr ⟨k,c',e,z'.sameBut hs ?_⟩;rintro rfl;exact hj (s0a hN e1 (I.ok.inj _ _ _ e hc▸hi))
  ·by_cases hcc:c'=c
   ·subst hcc;exact ⟨_,hc'⟩
   ·obtain ⟨w2,z2⟩:=I.cell y c' e;exact ⟨w2,z2.sameBut hs hcc⟩
  ·obtain ⟨e,n,ne,nf,d⟩:=I.pin p hp;refine ⟨(hs.2 p.1 ?_).trans e,n,ne,nf,d⟩;intro q;rw[q,hoc]at e;have q':oc=p.2:=Option.some.inj e;exact d w' (by rw[←q'];exact hocd)
theorem v0b{M:Model}{A:Around}{E:Value→Shared→Prop}{i:Nat}{x:Str}{v:V}{u:Value}{Q:Unit→Shared→Prop}(I:Inv X pins σ H s)(hN:X.N.Nodup)(hi:X.N[i]?=some x)(hx:Loc X.env.scope x)(r:RelV v u)
 (h:∀s',Inv X pins (σ.set i (some v)) H s'→Q () s') (hf:X.fn x=true∨X.env.scope.names.lookup x=some .local:=by first |exact .inl rfl |exact .inr rfl |assumption):wpAny M A (storeName X.env x u) Q E s:=
 q0s I hN hi hx r (fun s' I' _=>h s' I') hf
theorem Inv.call'{s':Shared}{ch:List Addr}(I:Inv X pins σ H s)(ho:s'.os=s.os)(u:Un (frs X.stack) ch H H' s.heap s'.heap)(hok:HOk X.prog X.w H' s'.heap)(hg:AllBare s'.gens)
 (hch:∀b∈ch,(b∈X.ex∨X.s₀.heap.objs.size≤b)∧b≠X.env.locals∧(∀x c,X.env.cells.lookup x=some c→c≠b)∧∀p∈X.pn++pins,p.1≠b):Inv X pins σ H' s':=by
 obtain ⟨h',g',d',t',o'⟩:=s';have e:o'=s.os:=ho;subst e;exact I.call (g':=g') (t':=t') (d':=d') u hok hg hch
end
noncomputable abbrev XK:=Value→Option Addr→Hp→Prop
noncomputable abbrev St:=List (Option V)
noncomputable abbrev VK:=V→Hp→Prop
noncomputable abbrev TE:=St→Hp→VK→Prop
noncomputable abbrev TT:=St→Hp→(Bool→Hp→Prop)→Prop
noncomputable abbrev TA:=St→Hp→(List V→Hp→Prop)→Prop
structure Ends where
 nx:St→Hp→Prop
 rt:VK
 bk:St→Hp→Prop:=fun _ _=>False
 ct:St→Hp→Prop:=fun _ _=>False
noncomputable abbrev TS:=Ends→St→Hp→Prop
noncomputable def EP(X:Cx)(pins:List (Addr×Obj))(σ:St)(Q:VK)(u:Value)(s':Shared):Prop:=∃v H',Inv X pins σ H' s'∧RelV v u∧Q v H'
noncomputable def TP(X:Cx)(pins:List (Addr×Obj))(σ:St)(Q:Bool→Hp→Prop)(b:Bool)(s':Shared):Prop:=∃H',Inv X pins σ H' s'∧Q b H'
noncomputable def AP(X:Cx)(pins:List (Addr×Obj))(σ:St)(Q:List V→Hp→Prop)(us:List Value)(s':Shared):Prop:=∃vs H',Inv X pins σ H' s'∧Vals vs us∧Q vs H'
noncomputable def SP(X:Cx)(pins:List (Addr×Obj))(D:Ends)(f:Flow)(s':Shared):Prop:=
 match f with
 | .next=>∃ σ' H',Inv X pins σ' H' s'∧D.nx σ' H'
 | .brk=>∃ σ' H',Inv X pins σ' H' s'∧D.bk σ' H'
 | .cont=>∃ σ' H',Inv X pins σ' H' s'∧D.ct σ' H'
 | .ret u=>∃v σ' H',Inv X pins σ' H' s'∧RelV v u∧D.rt v H'
noncomputable def PE(X:Cx)(e:Expr)(t:TE):Prop:=
 ∀(pins:List (Addr×Obj)) (s:Shared) (σ:St) (H:Hp) (Q:VK),Inv X pins σ H s→t σ H Q→wpAny (model X.prog X.w) X.A (eval e X.env) (EP X pins σ Q) X.xe s
noncomputable def PT(X:Cx)(e:Expr)(t:TT):Prop:=
 ∀(pins:List (Addr×Obj)) (s:Shared) (σ:St) (H:Hp) (Q:Bool→Hp→Prop),Inv X pins σ H s→t σ H Q→wpAny (model X.prog X.w) X.A (isTrue e X.env (eval e X.env)) (TP X pins σ Q) X.xe s
noncomputable def PW(X:Cx)(e:Expr)(t:TT):Prop:=
 ∀(whole:Sem Value) (pins:List (Addr×Obj)) (s:Shared) (σ:St) (H:Hp) (Q:Bool→Hp→Prop),Inv X pins σ H s→t σ H Q→wpAny (model X.prog X.w) X.A (isTrue e X.env whole) (TP X pins σ Q) X.xe s
theorem PW.pt{X:Cx}{e:Expr}{t:TT}(h:PW X e t):PT X e t:=h _
noncomputable def PA(X:Cx)(es:List Expr)(t:TA):Prop:=
 ∀(pos:Pos) (pins:List (Addr×Obj)) (s:Shared) (σ:St) (H:Hp) (Q:List V→Hp→Prop),Inv X pins σ H s→t σ H Q→wpAny (model X.prog X.w) X.A (spliced (backTo pos (starEach es X.env))) (AP X pins σ Q) X.xe s
noncomputable def PS(X:Cx)(st:Stmt)(t:TS):Prop:=
 ∀(pins:List (Addr×Obj)) (s:Shared) (σ:St) (H:Hp) (D:Ends),Inv X pins σ H s→t D σ H→wpAny (model X.prog X.w) X.A (exec st X.env) (SP X pins D) X.xe s
noncomputable def PSs(X:Cx)(st:List Stmt)(t:TS):Prop:=
 ∀(pins:List (Addr×Obj)) (s:Shared) (σ:St) (H:Hp) (D:Ends),Inv X pins σ H s→t D σ H→wpAny (model X.prog X.w) X.A (execs st X.env) (SP X pins D) X.xe s
theorem thn{α:Type}{t:Sem α}{Q Q':α→Shared→Prop}{M:Model}{A:Around}{E:Value→Shared→Prop}{s:Shared}(h:wpAny M A t Q E s)(hQ:∀a s,Q a s→Q' a s):wpAny M A t Q' E s:=wpAny_mono h hQ fun _ _ x=>x
end L2
namespace L2
open PySem PySem.Spec PyProof.Rows
section
variable{X:Cx}
theorem bin{a b:Expr}{ta tb:TE}(ha:PE X a ta)(hb:PE X b tb){pins:List (Addr×Obj)}{s:Shared}{σ:St}{H:Hp}{R:V→V→Hp→Prop}(I:Inv X pins σ H s)(h:ta σ H fun x H1=>tb σ H1 fun y H2=>R x y H2)
 {α:Type} {Q:α→Shared→Prop} {f:Value→Value→Sem α}
 (hf:∀v u s2 x y H2,Inv X pins σ H2 s2→RelV x v→RelV y u→R x y H2→wpAny (model X.prog X.w) X.A (f v u) Q X.xe s2):
 wpAny (model X.prog X.w) X.A (eval a X.env) (fun v s₁=>wpAny (model X.prog X.w) X.A (eval b X.env) (fun u s₂=>wpAny (model X.prog X.w) X.A (f v u) Q X.xe s₂) X.xe s₁) X.xe s:=by
 refine thn (ha pins s σ H _ I h) fun v s1 ⟨x,H1,I1,r1,q1⟩=>?_
 refine thn (hb pins s1 σ H1 _ I1 q1) fun u s2 ⟨y,H2,I2,r2,q2⟩=>?_
 exact hf v u s2 x y H2 I2 r1 r2 q2
noncomputable def tVar(i:Nat):TE:=fun σ H Q=>∃v,σ[i]?=some (some v)∧Q v H
noncomputable def tC(v:V):TE:=fun _ H Q=>Q v H
theorem s0s{i:Nat}{x:Str}{pos:Pos}(hN:X.N[i]?=some x)(hv:Vis X.env.scope x)(hd:(x==("__debug__":Str))=false:=by decide)(hcd:(x==("__classdict__":Str))=false:=by decide):PE X (.Name x pos) (tVar i):=by
 intro pins s σ H Q I h;obtain ⟨v,e,h⟩:=h;obtain ⟨m,hn,hl⟩:=I.loc;obtain ⟨u,r,l⟩:=hl i x v hN e hv;have fin:EP X pins σ Q u s:=⟨v,H,I,r,h⟩;rcases l with ⟨hk,hm⟩|⟨hk,c,hc,hcell⟩
 ·exact wpAny_Name (wpAny_loadName_local I.ok.kind hk hn hm fin) hd
 ·rcases hk with hk |hk
  ·exact wpAny_Name (wpAny_loadName_cell I.ok.kind hk hc hcell fin) hd
  ·exact wpAny_Name (wpAny_loadName_free I.ok.kind hk hc hcell fin hcd) hd
theorem pe_int{i j pos}:PE X (.Constant (.int i) j pos) (tC (.int i)):=fun _ _ _ H _ I h=>wpAny_Constant_int ⟨.int i,H,I.tok _,⟨_,rfl⟩,h⟩
theorem pe_bl{b j pos}:PE X (.Constant (.bool b) j pos) (tC (.bl b)):=fun _ _ _ H _ I h=>Constant_bool ⟨.bl b,H,I,rfl,h⟩
theorem pe_non{j pos}:PE X (.Constant .none j pos) (tC .non):=fun _ _ _ H _ I h=>Constant_none ⟨.non,H,I,rfl,h⟩
theorem pe_str{x j pos}:PE X (.Constant (.str x) j pos) (tC (.str x)):=fun _ _ _ H _ I h=>Calls.Constant_str ⟨.str x,H,I.tok _,⟨_,rfl⟩,h⟩
noncomputable def Gl(X:Cx)(x:Str):Prop:=X.env.kindOf x=some .globalImplicit
theorem g8{E:Value→Shared→Prop}{pins:List (Addr×Obj)}{s:Shared}{σ:St}{H:Hp}{x:Str}{u:Value}{pos:Pos}{Q:Value→Shared→Prop}(I:Inv X pins σ H s)(hg:Gl X x)(hm:X.mg x=some u)(h:Q u s)
 (hd:(x==("__debug__":Str))=false:=by decide):wpAny (model X.prog X.w) X.A (eval (.Name x pos) X.env) Q E s:=
 Calls.Name_function_global I.ok.kind hg (Calls.loadGlobal_global (by rw[I.ok.glob];exact I.mod.glob.keeps I.bk) hm h) hd
theorem s0r{E:Value→Shared→Prop}{pins:List (Addr×Obj)}{s:Shared}{σ:St}{H:Hp}{x:Str}{u:Value}{pos:Pos}{Q:Value→Shared→Prop}(I:Inv X pins σ H s)(hg:Gl X x)(hm:X.mg x=none)(hv:bootBuiltins x=some u)(h:Q u s)
 (hn:x≠"__name__":=by decide) (hd:(x==("__debug__":Str))=false:=by decide):wpAny (model X.prog X.w) X.A (eval (.Name x pos) X.env) Q E s:=by
 obtain ⟨mb,h1,h2⟩:=I.mod.blt;exact Calls.Name_function_global I.ok.kind hg (Calls.loadGlobal_builtin (by rw[I.ok.glob];exact I.mod.glob.keeps I.bk) hm (by rw[I.ok.blt];exact h1.keeps I.bk) ((h2 x hn).trans hv) h) hd
theorem j0y{x:Str}{v:V}{u:Value}{pos:Pos}(hg:Gl X x)(hm:X.mg x=some u)(r:RelV v u)(hd:(x==("__debug__":Str))=false:=by decide):PE X (.Name x pos) (tC v):=
 fun _ _ _ H _ I h=>g8 I hg hm ⟨v,H,I,r,h⟩ hd
theorem c0b{x:Str}{v:V}{u:Value}{pos:Pos}(hg:Gl X x)(hm:X.mg x=none)(hv:bootBuiltins x=some u)(r:RelV v u)(hn:x≠"__name__":=by decide)(hd:(x==("__debug__":Str))=false:=by decide):PE X (.Name x pos) (tC v):=
 fun _ _ _ H _ I h=>s0r I hg hm hv ⟨v,H,I,r,h⟩ hn hd
variable{a b:Expr}{ta tb:TE}{pos:Pos}
noncomputable def PC(X:Cx)(op:CmpOp)(a b:Expr)(t:TE):Prop:=
 ∀(pins:List (Addr×Obj)) (s:Shared) (σ:St) (H:Hp) (Q:VK),Inv X pins σ H s→t σ H Q→
  wpAny (model X.prog X.w) X.A (eval a X.env) (fun v s₁=>wpAny (model X.prog X.w) X.A (eval b X.env) (fun u s₂=>wpAny (model X.prog X.w) X.A (compareOp op v u) (EP X pins σ Q) X.xe s₂) X.xe s₁) X.xe s
theorem g0e(b:Expr){op:CmpOp}(h:op≠.In)(h2:op≠.NotIn):behindInMarks op b=false:=by
 have e1:(op==CmpOp.In)=false:=by cases op<;>first |rfl |exact absurd rfl h
 have e2:(op==CmpOp.NotIn)=false:=by cases op<;>first |rfl |exact absurd rfl h2
 cases b<;>simp[behindInMarks,e1,e2]
noncomputable def tB(t:TE):TT:=fun σ H Q=>t σ H fun x H1=>∃c,x=.bl c∧Q c H1
theorem pt_cmp{op:CmpOp}{t:TE}(h:PC X op a b t)(h1:behindInMarks op b=false:=by first |exact g0e _ (by decide) (by decide)|rfl):PT X (.Compare a [op] [b] pos) (tB t):=by
 intro pins s σ H Q I hw;refine wpAny_isTrue_Compare1 (thn (h pins s σ H _ I hw) fun v s1 h1=>thn h1 fun u s2 h2=>thn h2 fun c s3 ⟨x,H1,I1,r1,q1⟩=>?_) h1;obtain ⟨d,rfl,q⟩:=q1;cases r1;exact wpAny_truthy_bool ⟨H1,I1,q⟩
theorem pt_val{e:Expr}{t:TE}(h:PE X e t)(he:∀whole,isTrue e X.env whole=(do let v←whole;standAt e.pos;holding [v] (truthy v)):=by intro _;rfl):PT X e (tB t):=by
 intro pins s σ H Q I hw;refine isTrue_plain (thn (h pins s σ H _ I hw) fun v s1 ⟨x,H1,I1,r1,q1⟩=>?_) (he _);obtain ⟨d,rfl,q⟩:=q1;cases r1;exact wpAny_truthy_bool ⟨H1,I1,q⟩
variable{tA tB':TT}{rest:List Expr}
noncomputable def tAnd(t u:TT):TT:=fun σ H Q=>t σ H fun c H1=>if c=true then u σ H1 Q else Q false H1
noncomputable def tOr(t u:TT):TT:=fun σ H Q=>t σ H fun c H1=>if c=true then Q true H1 else u σ H1 Q
noncomputable def tNot(t:TT):TT:=fun σ H Q=>t σ H fun c H1=>Q (!c) H1
theorem c0a(ha:PT X a tA):PW X (.BoolOp .And [a] pos) tA:=by
 intro wh pins s σ H Q I h;refine isTrue_and (thn (ha pins s σ H Q I h) fun c s1 e=>?_);cases c with
 |true=>exact isTrue_and_nil e
 |false=>exact e
theorem pw_or1(ha:PT X a tA):PW X (.BoolOp .Or [a] pos) tA:=by
 intro wh pins s σ H Q I h;refine isTrue_or (thn (ha pins s σ H Q I h) fun c s1 e=>?_);cases c with
 |false=>exact isTrue_or_nil e
 |true=>exact e
theorem pw_and(ha:PT X a tA)(hb:PW X (.BoolOp .And (b::rest) pos) tB'):PW X (.BoolOp .And (a::b::rest) pos) (tAnd tA tB'):=by
 intro wh pins s σ H Q I h;refine isTrue_and (thn (ha pins s σ H _ I h) fun c s1 ⟨H1,I1,q1⟩=>?_);cases c with
 |true=>exact hb wh pins s1 σ H1 Q I1 q1
 |false=>exact ⟨H1,I1,q1⟩
theorem pw_or(ha:PT X a tA)(hb:PW X (.BoolOp .Or (b::rest) pos) tB'):PW X (.BoolOp .Or (a::b::rest) pos) (tOr tA tB'):=by
 intro wh pins s σ H Q I h;refine isTrue_or (thn (ha pins s σ H _ I h) fun c s1 ⟨H1,I1,q1⟩=>?_);cases c with
 |true=>exact ⟨H1,I1,q1⟩
 |false=>exact hb wh pins s1 σ H1 Q I1 q1
theorem pt_not(ha:PT X a tA):PT X (.UnaryOp .Not a pos) (tNot tA):=by
 intro pins s σ H Q I h;exact isTrue_not (ha pins s σ H (fun c H1=>Q (!c) H1) I h)
noncomputable def tAndV(ta tb:TE):TE:=fun σ H Q=>ta σ H fun x H1=>∃c,x=.bl c∧if c=true then tb σ H1 Q else Q (.bl false) H1
noncomputable def tNotV(ta:TE):TE:=fun σ H Q=>ta σ H fun x H1=>∃c,x=.bl c∧Q (.bl (!c)) H1
theorem pe_one{op}{t:TE}(h:PE X a t):PE X (.BoolOp op [a] pos) t:=fun pins s σ H Q I hw=>BoolOp_one (h pins s σ H Q I hw)
theorem pe_and(ha:PE X a ta)(hb:PE X (.BoolOp .And (b::rest) pos) tb):PE X (.BoolOp .And (a::b::rest) pos) (tAndV ta tb):=by
 intro pins s σ H Q I h;refine BoolOp_and (thn (ha pins s σ H _ I h) fun v s1 ⟨x,H1,I1,r1,q1⟩=>?_);obtain ⟨c,rfl,q1⟩:=q1;cases r1;refine wpAny_truthy_bool ?_;cases c with
 |true=>exact hb pins s1 σ H1 Q I1 q1
 |false=>exact ⟨.bl false,H1,I1,rfl,q1⟩
theorem pe_not(ha:PE X a ta):PE X (.UnaryOp .Not a pos) (tNotV ta):=by
 intro pins s σ H Q I h;refine UnaryOp_ (thn (ha pins s σ H _ I h) fun v s1 ⟨x,H1,I1,r1,q1⟩=>?_);obtain ⟨c,rfl,q1⟩:=q1;cases r1;exact not_of (wpAny_truthy_bool ⟨.bl (!c),H1,I1,rfl,q1⟩)
end
end L2
namespace L2
open PySem PySem.Spec PyProof.Rows
noncomputable def SqL(K:PySem.W.Frag)(H:Hp)(a:Addr)(xs:List V):Prop:=
 Rd H a (.lst xs)∨
  ∃(o:Obj) (its:Array Value) (n:Nat),K.lookup a=some o∧o.cls=.type "list"∧o.dict=none∧o.data=.seq its n∧its.size≤sizeLine∧Vals xs its.toList
noncomputable def SqT(K:PySem.W.Frag)(H:Hp)(a:Addr)(xs:List V):Prop:=
 Rd H a (.tup xs)∨
  ∃(o:Obj) (its:Array Value) (n:Nat),K.lookup a=some o∧o.cls=.type "tuple"∧o.data=.seq its n∧its.size≤sizeLine∧Vals xs its.toList
noncomputable def absV:Value→Option V
 | .none=>some .non
 | .bool b=>some (.bl b)
 | .int i _=>some (.int i)
 | .str x _=>some (.str x)
 | .bytes b _=>some (.byt b)
 | .float b _=>some (.flt b)
 | .ref a=>some (.ref a)
 | .type n=>some (.ty n)
 |_=>none
theorem RelV.abs{x:V}{u:Value}(r:RelV x u):absV u=some x:=by
 cases x with
 |non=>cases r;rfl
 |bl _=>cases r;rfl
 |int _=>obtain ⟨t,rfl⟩:=r;rfl
 |str _=>obtain ⟨t,rfl⟩:=r;rfl
 |byt _=>obtain ⟨t,rfl⟩:=r;rfl
 |flt _=>obtain ⟨t,rfl⟩:=r;rfl
 |ref _=>cases r;rfl
 |ty _=>cases r;rfl
theorem RelV.inj{x y:V}{u:Value}(r:RelV x u)(q:RelV y u):x=y:=Option.some.inj (r.abs.symm.trans q.abs)
theorem Vals.inj:∀{xs ys:List V} {us:List Value},Vals xs us→Vals ys us→xs=ys
 |_,_,_,.nil,.nil=>rfl
 |_,_,_,.cons r t,.cons r' t'=>by rw[r.inj r',Vals.inj t t']
section
variable{X:Cx}{pins:List (Addr×Obj)}{σ:St}{H:Hp}{s:Shared}{a:Addr}{xs ys:List V}
theorem SqL.of{K:PySem.W.Frag}(h:H a=some (.lst xs)):SqL K H a xs:=.inl (.inl h)
theorem SqT.of{K:PySem.W.Frag}(h:H a=some (.tup xs)):SqT K H a xs:=.inl (.inl h)
theorem Inv.list(I:Inv X pins σ H s)(h:SqL X.K H a xs):∃its:List Value,Vals xs its∧PlainL s.heap a its.toArray∧xs.length≤sizeLine:=by
 rcases h with h |⟨o,its,n,hk,hc,hd,hs,hz,r⟩
 ·obtain ⟨z,its,n,r,e⟩:=h.ok I.hok;exact ⟨its,r,⟨_,n,e,rfl,rfl,rfl⟩,z⟩
 ·refine ⟨its.toList,r,⟨o,n,I.kIn a o hk,hc,hd,by simpa using hs⟩,?_⟩;have e:=r.length;simp only[Array.length_toList]at e;omega
theorem Inv.tuple(I:Inv X pins σ H s)(h:SqT X.K H a xs):∃its:List Value,Vals xs its∧IsTup s.heap a its.toArray∧xs.length≤sizeLine:=by
 rcases h with h |⟨o,its,n,hk,hc,hs,hz,r⟩
 ·obtain ⟨z,its,r,p⟩:=h.ok I.hok;exact ⟨its,r,p.tup,z⟩
 ·refine ⟨its.toList,r,⟨o,I.kIn a o hk,hc,n,by simpa using hs⟩,?_⟩;have e:=r.length;simp only[Array.length_toList]at e;omega
theorem Inv.list_inj(I:Inv X pins σ H s)(h:SqL X.K H a xs)(h':SqL X.K H a ys):xs=ys:=by
 obtain ⟨its,r,⟨o,n,e,_,_,d⟩,_⟩:=I.list h;obtain ⟨its',r',⟨o',n',e',_,_,d'⟩,_⟩:=I.list h';rw[e]at e';cases e';rw[d]at d';injection d' with d1 _
 have:its=its':=by simpa using congrArg Array.toList d1
 subst this;exact r.inj r'
theorem Inv.tuple_inj(I:Inv X pins σ H s)(h:SqT X.K H a xs)(h':SqT X.K H a ys):xs=ys:=by
 obtain ⟨its,r,⟨o,e,_,n,d⟩,_⟩:=I.tuple h;obtain ⟨its',r',⟨o',e',_,n',d'⟩,_⟩:=I.tuple h';rw[e]at e';cases e';rw[d]at d';injection d' with d1 _
 have:its=its':=by simpa using congrArg Array.toList d1
 subst this;exact r.inj r'
end
noncomputable abbrev Cx.wish(X:Cx)(E:Value→Shared→Prop):Cx:={X with xe:=E}
noncomputable abbrev Cx.nox(X:Cx):Cx:=X.wish fun _ _=>False
theorem Cx.Ok.wish{X:Cx}(ok:X.Ok)(E:Value→Shared→Prop):(X.wish E).Ok:=
 ⟨ok.mod,ok.kind,ok.glob,ok.blt,ok.above,ok.inj,ok.has,ok.cab,ok.hd,ok.frames,ok.stk,ok.exf,ok.bs,ok.bsz,ok.noex,ok.exfs,ok.funs,ok.frf⟩
theorem Cx.Ok.unwish{X:Cx}{E:Value→Shared→Prop}(ok:(X.wish E).Ok):X.Ok:=
 ⟨ok.mod,ok.kind,ok.glob,ok.blt,ok.above,ok.inj,ok.has,ok.cab,ok.hd,ok.frames,ok.stk,ok.exf,ok.bs,ok.bsz,ok.noex,ok.exfs,ok.funs,ok.frf⟩
section
variable{X:Cx}{pins:List (Addr×Obj)}{σ:St}{H:Hp}{s:Shared}{E:Value→Shared→Prop}
theorem Inv.wish(I:Inv X pins σ H s)(E:Value→Shared→Prop):Inv (X.wish E) pins σ H s:=⟨I.ok.wish E,I.os,I.bare,I.base,I.loc,I.cell,I.free,I.freeC,I.pin,I.hok,I.len⟩
theorem Inv.unwish(I:Inv (X.wish E) pins σ H s):Inv X pins σ H s:=⟨I.ok.unwish,I.os,I.bare,I.base,I.loc,I.cell,I.free,I.freeC,I.pin,I.hok,I.len⟩
theorem SP.unwish{D:Ends}{f:Flow}{s':Shared}(h:SP (X.wish E) pins D f s'):SP X pins D f s':=by
 cases f with
 |next=>obtain ⟨σ',H',I,q⟩:=h;exact ⟨σ',H',I.unwish,q⟩
 |brk=>obtain ⟨σ',H',I,q⟩:=h;exact ⟨σ',H',I.unwish,q⟩
 |cont=>obtain ⟨σ',H',I,q⟩:=h;exact ⟨σ',H',I.unwish,q⟩
 |ret u=>obtain ⟨v,σ',H',I,r,q⟩:=h;exact ⟨v,σ',H',I.unwish,r,q⟩
theorem PSs.nox{st:List Stmt}{t:TS}(h:PSs X.nox st t):PSs X st t:=fun pins s σ H D I hw=>
 wpAny_mono (h pins s σ H D (I.wish _) hw) (fun _ _ q=>q.unwish) fun _ _ z=>False.elim z
end
section
variable{X:Cx}{st:Stmt}{rest:List Stmt}{t u:TS}{e:Expr}{te:TE}{pos:Pos}
noncomputable def tNext:TS:=fun D σ H=>D.nx σ H
noncomputable def tSeq(t u:TS):TS:=fun D σ H=>t {D with nx:=u D} σ H
theorem b0z:PSs X [] tNext:=fun _ _ σ H _ I h=>wpAny_execs_nil ⟨σ,H,I,h⟩
theorem g0d(h1:PS X st t)(h2:PSs X rest u):PSs X (st::rest) (tSeq t u):=by
 intro pins s σ H D I h;refine wpAny_execs_cons (thn (h1 pins s σ H {D with nx:=u D} I h) fun f s1 q=>?_);cases f with
 |next=>
  obtain ⟨σ',H',I',q⟩:=q;exact h2 pins s1 σ' H' D I' q
 |ret v=>exact q
 |brk=>exact q
 |cont=>exact q
theorem r0z(h1:PS X st t):PSs X [st] t:=by
 intro pins s σ H D I h;refine wpAny_execs_cons (thn (h1 pins s σ H D I h) fun f s1 q=>?_);cases f with
 |next=>exact wpAny_execs_nil q
 |ret v=>exact q
 |brk=>exact q
 |cont=>exact q
theorem Inv.quiet{pins:List (Addr×Obj)}{σ:St}{H:Hp}{s:Shared}(I:Inv X pins σ H s):interactive X.env=false:=by simp[interactive,I.ok.kind]
noncomputable def tDrop(te:TE):TS:=fun D σ H=>te σ H fun _ H1=>D.nx σ H1
theorem b0y(he:PE X e te)(hs:swapsWith e none pos.line X.env=pure false:=by rfl):PS X (.Expr e pos) (tDrop te):=by
 intro pins s σ H D I h;exact wpAny_Expr_any (thn (he pins s σ H _ I h) fun v s1 ⟨x,H1,I1,r1,q1⟩=>⟨σ,H1,I1,q1⟩) I.quiet hs
noncomputable def tRet(te:TE):TS:=fun D σ H=>te σ H D.rt
theorem d0j(he:PE X e te):PS X (.Return (some e) pos) (tRet te):=by
 intro pins s σ H D I h;exact wpAny_Return_some (thn (he pins s σ H _ I h) fun v s1 ⟨x,H1,I1,r1,q1⟩=>⟨x,σ,H1,I1,r1,q1⟩)
noncomputable def tIfS(c:TT)(t u:TS):TS:=fun D σ H=>c σ H fun b H1=>if b=true then t D σ H1 else u D σ H1
theorem ps_if{c:Expr}{a b:List Stmt}{tc:TT}(hc:PT X c tc)(ha:PSs X a t)(hb:PSs X b u):PS X (.If c a b pos) (tIfS tc t u):=by
 intro pins s σ H D I h;refine wpAny_If (thn (hc pins s σ H _ I h) fun d s1 ⟨H1,I1,q1⟩=>?_);cases d with
 |true=>exact ha pins s1 σ H1 D I1 q1
 |false=>exact hb pins s1 σ H1 D I1 q1
end
noncomputable abbrev TG:=V→St→Hp→(St→Hp→Prop)→Prop
noncomputable abbrev TGs:=List V→St→Hp→(St→Hp→Prop)→Prop
noncomputable def PG(X:Cx)(target:Expr)(t:TG):Prop:=
 ∀(pins:List (Addr×Obj)) (s:Shared) (σ:St) (H:Hp) (v:V) (u:Value) (Q:St→Hp→Prop),Inv X pins σ H s→RelV v u→t v σ H Q→
  wpAny (model X.prog X.w) X.A (assign target X.env u) (fun _ s'=>∃ σ' H',Inv X pins σ' H' s'∧Q σ' H') X.xe s
noncomputable def PGs(X:Cx)(ts:List Expr)(t:TGs):Prop:=
 ∀(pins:List (Addr×Obj)) (s:Shared) (σ:St) (H:Hp) (vs:List V) (us:List Value) (Q:St→Hp→Prop),Inv X pins σ H s→Vals vs us→t vs σ H Q→
  wpAny (model X.prog X.w) X.A (assignInOrder ((assignEach ts X.env).map (·.2)) us) (fun _ s'=>∃ σ' H',Inv X pins σ' H' s'∧Q σ' H') X.xe s
noncomputable abbrev TSet:=V→V→V→Hp→(Hp→Prop)→Prop
noncomputable def PSet(X:Cx)(t:TSet):Prop:=
 ∀(pins:List (Addr×Obj)) (s:Shared) (σ:St) (H:Hp) (o i v:V) (ov iv u:Value) (Q:Hp→Prop),Inv X pins σ H s→RelV o ov→RelV i iv→RelV v u→t o i v H Q→
  wpAny (model X.prog X.w) X.A (setItem ov iv u) (fun _ s'=>∃H',Inv X pins σ H' s'∧Q H') X.xe s
section
variable{X:Cx}{pos:Pos}
noncomputable def o0j(i:Nat):TG:=fun v σ H Q=>Q (σ.set i (some v)) H
theorem n5{i:Nat}{x:Str}(hN:X.N.Nodup)(hi:X.N[i]?=some x)(hx:Loc X.env.scope x)(hf:X.fn x=true∨X.env.scope.names.lookup x=some .local:=by first |exact .inl rfl |exact .inr rfl |assumption):PG X (.Name x pos) (o0j i):=by
 intro pins s σ H v u Q I r h;exact wpAny_assign_Name (v0b I hN hi hx r (fun s' I'=>⟨_,H,I',h⟩) hf)
noncomputable def gNil:TGs:=fun vs σ H Q=>vs=[]∧Q σ H
noncomputable def gCons(t:TG)(u:TGs):TGs:=fun vs σ H Q=>∃v r,vs=v::r∧t v σ H fun σ' H'=>u r σ' H' Q
theorem j0x:PGs X [] gNil:=by
 intro pins s σ H vs us Q I r h;obtain ⟨e,h⟩:=h;subst e;cases r;exact assignInOrder_nil ⟨σ,H,I,h⟩
theorem x0v{e:Expr}{es:List Expr}{t:TG}{u:TGs}(h1:PG X e t)(h2:PGs X es u)
 (hs:(assignEach (e::es) X.env).map (·.2)=assign e X.env::(assignEach es X.env).map (·.2):=by rfl):PGs X (e::es) (gCons t u):=by
 intro pins s σ H vs us Q I r h;obtain ⟨v,vr,e1,h⟩:=h;subst e1;cases r with
 |cons r rr=>
  rw[hs];refine assignInOrder_cons (thn (h1 pins s σ H _ _ _ I r h) fun _ s1 ⟨σ1,H1,I1,q1⟩=>?_);exact h2 pins s1 σ1 H1 _ _ Q I1 rr q1
noncomputable def gTup(K:PySem.W.Frag)(n:Nat)(t:TGs):TG:=fun v σ H Q=>∃a xs,v=.ref a∧SqT K H a xs∧xs.length=n∧t xs σ H Q
theorem pg_tup{es:List Expr}{k:Nat}{t:TGs}{n:Nat}(hc:X.calm=true)(h:PGs X es t)
 (hn:(assignEach es X.env).length=n:=by rfl) (hst:(assignEach es X.env).findIdx? (·.1)=none:=by rfl):PG X (.Tuple es k pos) (gTup X.K n t):=by
 intro pins s σ H v u Q I r hw;obtain ⟨a,xs,e1,hq,hl,hw⟩:=hw;subst e1;cases r;obtain ⟨its,rv,ht,hz⟩:=I.tuple hq;refine assign_Tuple_tuple (I.ok.hd hc) ht (by simp[hn,← hl,rv.length]) hst fun h' hx=>?_
 have I1:Inv X pins σ H {s with heap:=h'}:=I.kept (t':=s.toks) fun b o e=>hx b o (Nat.ne_of_lt (Heap.lt_size e)) e
 exact h pins _ σ H xs _ Q I1 (by simpa using rv) hw
noncomputable def gSub(to ti:TE)(t:TSet):TG:=fun v σ H Q=>to σ H fun o H1=>ti σ H1 fun i H2=>t o i v H2 fun H3=>Q σ H3
theorem pg_sub{o i:Expr}{to ti:TE}{t:TSet}(ho:PE X o to)(hi:PE X i ti)(hs:PSet X t)
 (ha:∀v,assign (.Subscript o i pos) X.env v=(do
  let ov←holding [v] (eval o X.env)
  let iv←holding [v,ov] (eval i X.env)
  standAt pos
  holding [v,ov,iv] (setItem ov iv v)
  release [v,ov,iv] []):=by intro _;rfl):PG X (.Subscript o i pos) (gSub to ti t):=by
 intro pins s σ H v u Q I r h;rw[ha];refine wpAny_bind (wpAny_holding (thn (ho pins s σ H _ I h) fun ov s1 ⟨x,H1,I1,r1,q1⟩=>?_));refine wpAny_bind (wpAny_holding (thn (hi pins s1 σ H1 _ I1 q1) fun iv s2 ⟨y,H2,I2,r2,q2⟩=>?_));refine wpAny_bind (wpAny_standAt (wpAny_bind (wpAny_holding (thn (hs pins s2 σ H2 x y v ov iv u _ I2 r1 r2 r q2) fun _ s3 ⟨H3,I3,q3⟩=>?_))));exact wpAny_release ⟨σ,H3,I3,q3⟩
noncomputable def tAsg(te:TE)(g:TG):TS:=fun D σ H=>te σ H fun x H1=>g x σ H1 D.nx
theorem d0i{tg e:Expr}{te:TE}{g:TG}(he:PE X e te)(hg:PG X tg g)(hs:swapsWithSole [tg] e pos.line X.env=pure false:=by rfl)(hw:swappedStores [tg] e X.env=pure none:=by rfl)
 (h1:(assignEach [tg] X.env).map (·.2)=[assign tg X.env]:=by rfl):PS X (.Assign [tg] e pos) (tAsg te g):=by
 intro pins s σ H D I h;refine wpAny_Assign_stores (thn (he pins s σ H _ I h) fun v s1 ⟨x,H1,I1,r1,q1⟩=>?_) hs hw;rw[h1];exact thn (hg pins s1 σ H1 x v _ I1 r1 q1) fun _ s2 q=>q
theorem m0l{i:Nat}{x:Str}{e:Expr}{te:TE}{pos':Pos}(hN:X.N.Nodup)(hi:X.N[i]?=some x)(hx:Loc X.env.scope x)(he:PE X e te)(hs:swapsWith e (some (.Name x pos')) pos.line X.env=pure false:=by rfl)(hf:X.fn x=true∨X.env.scope.names.lookup x=some .local:=by first |exact .inl rfl |exact .inr rfl |assumption):
 PS X (.Assign [.Name x pos'] e pos) (tAsg te (o0j i)):=by
 intro pins s σ H D I h;refine wpAny_Assign_Name (thn (he pins s σ H _ I h) fun v s1 ⟨y,H1,I1,r1,q1⟩=>?_) hs;exact v0b I1 hN hi hx r1 (fun s2 I2=>⟨_,H1,I2,q1⟩) hf
end
section
variable{X:Cx}{pos:Pos}
end
structure It where
 go:Nat→Hp→Prop
 yld:Nat→Hp→V→Hp→Prop
 stop:Nat→Hp→Prop
noncomputable def FpOk(X:Cx)(pins:List (Addr×Obj))(H:Hp)(b:Addr):Prop:=
 H b=none∧b≠X.env.locals∧b∉X.fs∧(b∈X.ex∨X.s₀.heap.objs.size≤b)∧(∀x c,X.env.cells.lookup x=some c→c≠b)∧∀p∈X.pn++pins,p.1≠b
theorem Inv.fpOk{X:Cx}{pins:List (Addr×Obj)}{σ:St}{H H':Hp}{s:Shared}{b:Addr}(I:Inv X pins σ H s)(hb:s.heap.objs.size≤b)(hn:H' b=none):FpOk X pins H' b:=by
 refine ⟨hn,Nat.ne_of_gt (Nat.lt_of_lt_of_le I.lt hb),I.nofs hb,.inr (Nat.le_trans I.sz hb),fun x c e z=>?_,fun p hp z=>?_⟩
 ·obtain ⟨v,q⟩:=I.cell x c e;exact absurd (Nat.lt_of_lt_of_le q.lt (by rw[z];exact hb)) (Nat.lt_irrefl _)
 ·exact absurd (Nat.lt_of_lt_of_le (Heap.lt_size (I.pin p hp).1) (by rw[z];exact hb)) (Nat.lt_irrefl _)
structure Turn(P:Program)(w:World)(K:PySem.W.Frag)(tg:Expr)(J:It)(fp:List Addr)(it:Addr)(tn:Nat→Heap→Prop):Prop where
 mem:it∈fp
 obj:∀i h,tn i h→∀b∈fp,∃o,h.get? b=some o∧∀v,o.data≠.cell v
 keep:∀i h h',tn i h→(∀b∈fp,∀o,h.get? b=some o→h'.get? b=some o)→tn i h'
 item:∀(X:Cx),X.prog=P→X.w=w→X.K=K→X.calm=true→∀(i:Nat) (pins:List (Addr×Obj)) (s:Shared) (σ:St) (H:Hp) (E:Value→Shared→Prop),Inv X pins σ H s→(∀b∈fp,FpOk X pins H b)→tn i s.heap→J.go i H→
  wpAny (model P w) X.A (pyNext (.ref it)) (fun r s1=>∃u,r=some u∧
   wpAny (model P w) X.A (letOwnedTupleGo tg (.ref it) u) (fun _ s2=>∃x H',Inv X pins σ H' s2∧RelV x u∧J.yld i H x H'∧tn (i+1) s2.heap∧∀b∈fp,H' b=none) E s1) E s
 done:∀(X:Cx),X.prog=P→X.w=w→X.K=K→X.calm=true→∀(i:Nat) (pins:List (Addr×Obj)) (s:Shared) (σ:St) (H:Hp) (E:Value→Shared→Prop),Inv X pins σ H s→(∀b∈fp,FpOk X pins H b)→tn i s.heap→J.stop i H→
  wpAny (model P w) X.A (pyNext (.ref it)) (fun r s1=>r=none∧Inv X pins σ H s1) E s
 self:∀(A:Around) (i:Nat) (s:Shared) (Q:Value→Shared→Prop) (E:Value→Shared→Prop),tn i s.heap→Q (.ref it) s→wpAny (model P w) A (pyIter (.ref it)) Q E s
noncomputable abbrev TI:=St→Hp→(It→Hp→Prop)→Prop
noncomputable def PIE(X:Cx)(pins:List (Addr×Obj))(σ:St)(tg:Expr)(R:It→Hp→Prop)(itv:Value)(s2:Shared):Prop:=
 ∃(it:Addr) (fp:List Addr) (tn:Nat→Heap→Prop) (J:It) (H':Hp),itv=.ref it∧Inv X pins σ H' s2∧Turn X.prog X.w X.K tg J fp it tn∧tn 0 s2.heap∧(∀b∈fp,FpOk X pins H' b)∧R J H'
noncomputable def PI(X:Cx)(tg iter:Expr)(wi:TI):Prop:=
 ∀(pins:List (Addr×Obj)) (s:Shared) (σ:St) (H:Hp) (R:It→Hp→Prop),Inv X pins σ H s→wi σ H R→
  wpAny (model X.prog X.w) X.A (eval iter X.env) (fun v s1=>wpAny (model X.prog X.w) X.A (pyIter v) (PIE X pins σ tg R) X.xe s1) X.xe s
theorem g0c{M:Model}{A:Around}{E:Value→Shared→Prop}{s:Shared}{tg:Expr}{it:Addr}{u:Value}{o:Obj}{n:String}{vs:Array Value}{Q:Unit→Shared→Prop}(ho:s.heap.get? it=some o)(hc:o.cls=.type n)(hd:o.data=.fields vs)
 (hn:["enumerate","zip","dict_itemiterator","dict_reverseitemiterator","odict_iterator","itertools.zip_longest","itertools.pairwise"].contains n=false) (hQ:Q () s):wpAny M A (letOwnedTupleGo tg (.ref it) u) Q E s:=by
 unfold letOwnedTupleGo;cases tg<;>first
  |exact wpAny_pure hQ
  |(cases u<;>first
     |exact wpAny_pure hQ
     |(refine wpAny_bind (wpAny_load ho ?_);rw[hc,hd];show wpAny M A (if (["enumerate","zip","dict_itemiterator","dict_reverseitemiterator","odict_iterator","itertools.zip_longest","itertools.pairwise"].contains n&&vs[0]? ==some (rawInt _))=true then _ else _) Q E s;rw[if_neg (by intro h;rw[hn,Bool.false_and]at h;cases h)];exact wpAny_pure hQ))
noncomputable def Itl(K:PySem.W.Frag)(a:Addr):It:=
 ⟨fun i H=>∃xs x,SqL K H a xs∧xs[i]?=some x,fun i H x H'=>H'=H∧∀xs,SqL K H a xs→xs[i]?=some x,fun i H=>∃xs,SqL K H a xs∧xs.length≤i⟩
noncomputable def Itt(K:PySem.W.Frag)(a:Addr):It:=
 ⟨fun i H=>∃xs x,SqT K H a xs∧xs[i]?=some x,fun i H x H'=>H'=H∧∀xs,SqT K H a xs→xs[i]?=some x,fun i H=>∃xs,SqT K H a xs∧xs.length≤i⟩
noncomputable def Itr(lo:Int)(n:Nat):It:=⟨fun i _=>i<n,fun i H x H'=>H'=H∧x=.int (lo+i),fun i _=>n≤i⟩
theorem j0w{P:Program}{w:World}{K:PySem.W.Frag}{tg:Expr}(a it:Addr):Turn P w K tg (Itl K a) [it] it (fun i h=>h.IsListIter it a i)where
 mem:=by simp
 obj:=fun i h st b hb=>by
  have e:b=it:=by simpa using hb
  subst e;obtain ⟨o,e,c,d⟩:=st;exact ⟨o,e,fun v z=>by rw[d]at z;cases z⟩
 keep:=fun i h h' st k=>st.at fun o e=>k it (by simp) o e
 item:=by
  intro X hP hw hK hc i pins s σ H E I hf st hg;subst hP hw hK;obtain ⟨xs,x,hq,hx⟩:=hg;obtain ⟨its,rv,p,hz⟩:=I.list hq;obtain ⟨u,hu,ru⟩:=rv.get hx;obtain ⟨f0,f1,f2,f3,f4,f5⟩:=hf it (by simp);refine wpAny_pyNext_list_item st p.isList (x:=u) (by simpa using hu) fun h' st' sb=>?_
  have I1:Inv X pins σ H {s with heap:=h'}:=I.turned (t':=s.toks) (fun b o hb e=>(sb.2 b hb).trans e) f0 f1 f3 f4 f5;obtain ⟨o,e,c,d⟩:=id st';exact ⟨u,rfl,g0c (s:={s with heap:=h'}) e c d (by decide) ⟨x,H,I1,ru,⟨rfl,fun ys hy=>by rw[I.list_inj hy hq];exact hx⟩,st',fun b hb=>(hf b hb).1⟩⟩
 done:=by
  intro X hP hw hK hc i pins s σ H E I hf st hg;subst hP hw hK;obtain ⟨xs,hq,hx⟩:=hg;obtain ⟨its,rv,p,hz⟩:=I.list hq;obtain ⟨f0,f1,f2,f3,f4,f5⟩:=hf it (by simp);have hl:=rv.length;exact wpAny_pyNext_list_end (I.ok.hd hc) st p.isList (by simp;omega) fun h' eb=>⟨rfl,I.turned (t':=s.toks) (fun b o hb e=>eb b o hb e) f0 f1 f3 f4 f5⟩
 self:=fun _ _ _ _ _ st h=>wpAny_pyIter_listiter st h
theorem k0x{P:Program}{w:World}{K:PySem.W.Frag}{tg:Expr}(a it:Addr):Turn P w K tg (Itt K a) [it] it (fun i h=>h.IsTupleIter it a i)where
 mem:=by simp
 obj:=fun i h st b hb=>by
  have e:b=it:=by simpa using hb
  subst e;obtain ⟨o,e,c,d⟩:=st;exact ⟨o,e,fun v z=>by rw[d]at z;cases z⟩
 keep:=fun i h h' st k=>st.at fun o e=>k it (by simp) o e
 item:=by
  intro X hP hw hK hc i pins s σ H E I hf st hg;subst hP hw hK;obtain ⟨xs,x,hq,hx⟩:=hg;obtain ⟨its,rv,p,hz⟩:=I.tuple hq;obtain ⟨u,hu,ru⟩:=rv.get hx;obtain ⟨f0,f1,f2,f3,f4,f5⟩:=hf it (by simp);refine wpAny_pyNext_tuple_item st (show s.heap.IsTuple a its.toArray from p) (x:=u) (by simpa using hu) fun h' st' sb=>?_
  have I1:Inv X pins σ H {s with heap:=h'}:=I.turned (t':=s.toks) (fun b o hb e=>(sb.2 b hb).trans e) f0 f1 f3 f4 f5;obtain ⟨o,e,c,d⟩:=id st';exact ⟨u,rfl,g0c (s:={s with heap:=h'}) e c d (by decide) ⟨x,H,I1,ru,⟨rfl,fun ys hy=>by rw[I.tuple_inj hy hq];exact hx⟩,st',fun b hb=>(hf b hb).1⟩⟩
 done:=by
  intro X hP hw hK hc i pins s σ H E I hf st hg;subst hP hw hK;obtain ⟨xs,hq,hx⟩:=hg;obtain ⟨its,rv,p,hz⟩:=I.tuple hq;obtain ⟨f0,f1,f2,f3,f4,f5⟩:=hf it (by simp);have hl:=rv.length;exact wpAny_pyNext_tuple_end (I.ok.hd hc) st (show s.heap.IsTuple a its.toArray from p) (by simp;omega) fun h' eb=>⟨rfl,I.turned (t':=s.toks) (fun b o hb e=>eb b o hb e) f0 f1 f3 f4 f5⟩
 self:=fun _ _ _ _ _ st h=>wpAny_pyIter_tupleiter st h
theorem k0w{P:Program}{w:World}{K:PySem.W.Frag}{tg:Expr}(it:Addr)(lo:Int)(n:Nat):Turn P w K tg (Itr lo n) [it] it (fun i h=>IsRangeIter h it (lo+(i:Nat)*1) ((n:Int)-(i:Nat)) 1)where
 mem:=by simp
 obj:=fun i h st b hb=>by
  have e:b=it:=by simpa using hb
  subst e;exact ⟨_,st,fun v z=>by
   have z':Data.fields _=Data.cell v:=z;cases z'⟩
 keep:=fun i h h' st k=>k it (by simp) _ st
 item:=by
  intro X hP hw hK hc i pins s σ H E I hf st hg;subst hP hw hK;obtain ⟨f0,f1,f2,f3,f4,f5⟩:=hf it (by simp);have W:=Walks.range (prog:=X.prog) (w:=X.w) (I.ok.hd hc) it lo 1 n;refine W.item i s _ _ hg st fun v h' tk hv st' kk=>?_
  obtain ⟨t,rfl⟩:=hv;have I1:Inv X pins σ H {s with heap:=h',toks:=tk}:=I.turned (fun b o hb e=>kk b o (by simpa using hb) e) f0 f1 f3 f4 f5;refine ⟨_,rfl,g0c (s:={s with heap:=h',toks:=tk}) (n:="range_iterator") st' rfl rfl (by decide) ⟨.int (lo+i),H,I1,⟨t,?_⟩,⟨rfl,rfl⟩,st',fun b hb=>(hf b hb).1⟩⟩;rw[Int.mul_one]
 done:=by
  intro X hP hw hK hc i pins s σ H E I hf st hg;subst hP hw hK;obtain ⟨f0,f1,f2,f3,f4,f5⟩:=hf it (by simp);exact wpAny_pyNext_range_end (I.ok.hd hc) st (by have:n≤i:=hg;omega) fun h' eb=>⟨rfl,I.turned (t':=s.toks) (fun b o hb e=>eb b o hb e) f0 f1 f3 f4 f5⟩
 self:=fun _ _ _ _ _ st h=>wpAny_pyIter_rangeiter st h
end L2
namespace L2
open PySem PySem.Spec PyProof.Rows
section
variable{X:Cx}{tg:Expr}
theorem m0k{pins:List (Addr×Obj)}{σ:St}{H:Hp}{s:Shared}{R:It→Hp→Prop}{E:Value→Shared→Prop}{lo hi:Int}{t u v:Tok}{tk:Nat}(I:Inv X pins σ H s)(h1:-(2^62)≤lo)(h2:lo<2^62)(h3:-(2^62)≤hi)(h4:hi<2^62)
 (q:R (Itr lo (hi-lo).toNat) H):wpAny (model X.prog X.w) X.A (pyIter (.ref s.heap.objs.size)) (PIE X pins σ tg R) E {s with heap:=s.heap.push {cls:=.type "range",data:=.fields #[.int lo t,.int hi u,.int 1 v]},toks:=tk}:=by
 refine wpAny_pyIter_range (IsRange.new ..) (small_one h1 h2 h3 h4) ?_;have I1:Inv X pins σ H {s with heap:=s.heap.push {cls:=.type "range",data:=.fields #[.int lo t,.int hi u,.int 1 v]},toks:=tk}:=I.kept fun b o e=>Heap.get?_push_of_some _ e
 refine ⟨(s.heap.push {cls:=.type "range",data:=.fields #[.int lo t,.int hi u,.int 1 v]}).objs.size,[(s.heap.push {cls:=.type "range",data:=.fields #[.int lo t,.int hi u,.int 1 v]}).objs.size],_,_,H,rfl,
  I1.kept (t':=tk) fun b o e=>Heap.get?_push_of_some _ e,k0w _ lo (hi-lo).toNat,?_,fun b hb=>?_,q⟩
 ·have e1:lo+((0:Nat):Int)*1=lo:=by simp
  have e2:(((hi-lo).toNat:Nat):Int)-((0:Nat):Int)=Builtin.Range.rangeSize lo hi 1:=by rw[rangeSize_one];split<;>omega
  show IsRangeIter _ _ (lo+((0:Nat):Int)*1) ((((hi-lo).toNat:Nat):Int)-((0:Nat):Int)) 1;rw[e1,e2];exact Heap.get?_push_size _ rfl
 ·have e:b=(s.heap.push {cls:=.type "range",data:=.fields #[.int lo t,.int hi u,.int 1 v]}).objs.size:=by simpa using hb
  subst e;exact I1.fpOk (Nat.le_refl _) (I1.hok.fresh (Nat.le_refl _))
noncomputable def iRng1(ta:TA):TI:=fun σ H R=>ta σ H fun vs H1=>∃j:Int,vs=[.int j]∧-(2^62)≤j∧j<2^62∧R (Itr 0 j.toNat) H1
noncomputable def iRng2(ta:TA):TI:=fun σ H R=>ta σ H fun vs H1=>∃i j:Int,vs=[.int i,.int j]∧(-(2^62)≤i∧i<2^62∧-(2^62)≤j∧j<2^62)∧R (Itr i (j-i).toNat) H1
theorem j0v{a:Expr}{ta:TA}{p pos:Pos}(hg:Gl X "range")(hm:X.mg "range"=none)(ha:PA X [a] ta)(hs:starEach [a] X.env=[(false,eval a X.env)]:=by rfl):PI X tg (.Call (.Name "range" p) [a] [] pos) (iRng1 ta):=by
 intro pins s σ H R I h;refine Call_ (s0r I hg hm boot_range (PyProof.Rows.callWith_type1 (thn (ha pos pins s σ H _ I h) fun us s1 ⟨vs,H1,I1,r1,q1⟩=>?_) hs rfl));obtain ⟨j,e,q1,q2,q⟩:=q1;subst e;cases r1 with
 |cons r rr=>
  cases rr;obtain ⟨t,rfl⟩:=r;exact call_range_1 (m0k I1 (by omega) (by omega) q1 q2 (by simpa using q))
theorem j0u{a b:Expr}{ta:TA}{p pos:Pos}(hg:Gl X "range")(hm:X.mg "range"=none)(ha:PA X [a,b] ta)(hs:starEach [a,b] X.env=[(false,eval a X.env),(false,eval b X.env)]:=by rfl)(hs2:starEach [b] X.env=[(false,eval b X.env)]:=by rfl):
 PI X tg (.Call (.Name "range" p) [a,b] [] pos) (iRng2 ta):=by
 intro pins s σ H R I h;refine Call_ (s0r I hg hm boot_range (PyProof.Rows.callWith_type1 (thn (ha pos pins s σ H _ I h) fun us s1 ⟨vs,H1,I1,r1,q1⟩=>?_) (by rw[hs,hs2]) (by rw[hs2];rfl)));obtain ⟨i,j,e,⟨q1,q2,q3,q4⟩,q⟩:=q1;subst e;cases r1 with
 |cons r rr=>
  cases rr with
  |cons r' rr=>
   cases rr;obtain ⟨t,rfl⟩:=r;obtain ⟨t',rfl⟩:=r';exact call_range_2 (m0k I1 q1 q2 q3 q4 q)
noncomputable def tFor(wi:TI)(g:TG)(tb:TS):TS:=fun D σ H=>wi σ H fun J H1=>∃W:Nat→Nat→St→Hp→Prop,(∃m,W 0 m σ H1)∧∀i m σ H,W i m σ H→
 (J.stop i H∧D.nx σ H)∨(J.go i H∧∃N:St→Hp→Prop,(∀ σ' H',N σ' H'→∃m',m'<m∧W (i+1) m' σ' H')∧∀x H',J.yld i H x H'→g x σ H' fun σ2 H2=>tb {D with nx:=N,ct:=N,bk:=D.nx} σ2 H2)
noncomputable def q0r(fp:List Addr)(h:Heap):List (Addr×Obj):=fp.filterMap fun b=>(h.get? b).map fun o=>(b,o)
theorem z0o{fp:List Addr}{h:Heap}{b:Addr}{o:Obj}(hb:b∈fp)(e:h.get? b=some o):(b,o)∈q0r fp h:=List.mem_filterMap.mpr ⟨b,hb,by rw[e];rfl⟩
theorem j0t{fp:List Addr}{h:Heap}{p:Addr×Obj}(hp:p∈q0r fp h):p.1∈fp∧h.get? p.1=some p.2:=by
 obtain ⟨b,hb,e⟩:=List.mem_filterMap.mp hp;cases q:h.get? b with
 |none=>rw[q]at e;cases e
 |some o=>
  rw[q]at e;have e':(b,o)=p:=Option.some.inj e;subst e';exact ⟨hb,q⟩
theorem Inv.pinned{pins:List (Addr×Obj)}{σ:St}{H:Hp}{s:Shared}{fp:List Addr}(I:Inv X pins σ H s)(hf:∀b∈fp,FpOk X pins H b)(ho:∀b∈fp,∃o,s.heap.get? b=some o∧∀v,o.data≠.cell v):Inv X (pins++q0r fp s.heap) σ H s:=
 I.pins_of fun p hp=>(List.mem_append.mp hp).elim (fun z=>I.pin p (List.mem_append_right _ z)) fun z=>by
  obtain ⟨hb,e⟩:=j0t z;obtain ⟨f0,f1,f2,_⟩:=hf p.1 hb;obtain ⟨o,e',d⟩:=ho p.1 hb;rw[e]at e';cases e';exact ⟨e,f0,f1,f2,d⟩
theorem Inv.unpinned{pins pl:List (Addr×Obj)}{σ:St}{H:Hp}{s:Shared}(I:Inv X (pins++pl) σ H s):Inv X pins σ H s:=I.pins_of fun p hp=>I.pin p (List.mem_append_right _ (List.mem_append_left _ hp))
theorem ps_for{iter:Expr}{body:List Stmt}{wi:TI}{g:TG}{tb:TS}{pos:Pos}(hp:PassesOwn (model X.prog X.w) X.A X.env X.xe)(hc:X.calm=true)(hi:PI X tg iter wi)(hg:PG X tg g)(hb:PSs X body tb)
 (hs:∀x,foldedSetIterable iter X.env x=pure x:=by intro _;rfl):PS X (.For tg iter body [] pos) (tFor wi g tb):=by
 intro pins s σ H D I h;refine wpAny_For (thn (hi pins s σ H _ I h) fun v s1 h1=>thn h1 fun itv s2 h2=>?_) hs;obtain ⟨it,fp,tn,J,H2,e,I2,T,st2,f2,W,⟨m0,w0⟩,turn⟩:=h2;subst e;have stat:∀{H':Hp},(∀b∈fp,H' b=none)→∀b∈fp,FpOk X pins H' b:=fun hn b hb=>⟨hn b hb,(f2 b hb).2⟩
 refine codeAny_forLoop_any (fun n s'=>∃i σ' H',Inv X pins σ' H' s'∧tn i s'.heap∧(∀b∈fp,H' b=none)∧W i n σ' H') ?_ m0 ⟨0,σ,H2,I2,st2,fun b hb=>(f2 b hb).1,w0⟩;rintro n s3 ⟨i,σ3,H3,I3,st3,fr3,w3⟩;rcases turn i n σ3 H3 w3 with ⟨stop,qn⟩|⟨go,N,hN,step⟩
 ·refine wpAny_passesOwn hp (thn (T.done X rfl rfl rfl hc i pins s3 σ3 H3 X.xe I3 (stat fr3) st3 stop) fun r s4 ⟨hr,I4⟩=>?_);subst hr;exact wpAny_execs_nil ⟨σ3,H3,I4,qn⟩
 ·refine wpAny_passesOwn hp (thn (T.item X rfl rfl rfl hc i pins s3 σ3 H3 X.xe I3 (stat fr3) st3 go) fun r s4 ⟨u,hr,h4⟩=>?_);subst hr;refine wpAny_passesOwn hp (thn h4 fun _ s5 ⟨x,H5,I5,r5,y5,st5,fr5⟩=>?_);have I5':=I5.pinned (stat fr5) (T.obj _ _ st5);refine wpAny_passesOwn hp (thn (hg _ s5 σ3 H5 x u _ I5' r5 (step x H5 y5)) fun _ s6 ⟨σ6,H6,I6,q6⟩=>?_);refine wpAny_passesOwn hp (thn (hb _ s6 σ6 H6 _ I6 q6) fun f s7 q7=>?_);have again:∀{σ7:St} {H7:Hp},Inv X (pins++q0r fp s5.heap) σ7 H7 s7→N σ7 H7→∃m,m<n∧∃i σ' H',Inv X pins σ' H' s7∧tn i s7.heap∧(∀b∈fp,H' b=none)∧W i m σ' H':=fun {σ7 H7} I7 n7=>by
   obtain ⟨m',hm,w7⟩:=hN σ7 H7 n7;refine ⟨m',hm,i+1,σ7,H7,I7.unpinned,T.keep _ _ _ st5 fun b hb o e=>(I7.pin (b,o) (List.mem_append_right _ (List.mem_append_right _ (z0o hb e)))).1,fun b hb=>?_,w7⟩;obtain ⟨o,e,d⟩:=T.obj _ _ st5 b hb;exact (I7.pin (b,o) (List.mem_append_right _ (List.mem_append_right _ (z0o hb e)))).2.1
  cases f with
  |next=>obtain ⟨σ7,H7,I7,n7⟩:=q7;exact again I7 n7
  |cont=>obtain ⟨σ7,H7,I7,n7⟩:=q7;exact again I7 n7
  |brk=>obtain ⟨σ7,H7,I7,q7⟩:=q7;exact ⟨σ7,H7,I7.unpinned,q7⟩
  |ret v=>obtain ⟨x7,σ7,H7,I7,r7,q7⟩:=q7;exact ⟨x7,σ7,H7,I7.unpinned,r7,q7⟩
end
end L2
namespace L2
open PySem PySem.Spec PyProof.Rows
noncomputable abbrev R2:=V→V→Hp→VK→Prop
noncomputable def OpR(X:Cx)(f:Value→Value→Sem Value)(r:R2):Prop:=
 ∀(pins:List (Addr×Obj)) (s:Shared) (σ:St) (H:Hp) (x y:V) (v u:Value) (Q:VK),Inv X pins σ H s→RelV x v→RelV y u→r x y H Q→
  wpAny (model X.prog X.w) X.A (f v u) (EP X pins σ Q) X.xe s
noncomputable def UnR(X:Cx)(f:Value→Sem Value)(r:V→Hp→VK→Prop):Prop:=
 ∀(pins:List (Addr×Obj)) (s:Shared) (σ:St) (H:Hp) (x:V) (v:Value) (Q:VK),Inv X pins σ H s→RelV x v→r x H Q→
  wpAny (model X.prog X.w) X.A (f v) (EP X pins σ Q) X.xe s
noncomputable def x0u(X:Cx)(f:Value)(r:List V→Hp→VK→Prop):Prop:=
 ∀(pins:List (Addr×Obj)) (s:Shared) (σ:St) (H:Hp) (xs:List V) (us:List Value) (Q:VK),Inv X pins σ H s→Vals xs us→r xs H Q→
  wpAny (model X.prog X.w) X.A (call f us) (EP X pins σ Q) X.xe s
noncomputable def tOp(r:R2)(ta tb:TE):TE:=fun σ H Q=>ta σ H fun x H1=>tb σ H1 fun y H2=>r x y H2 Q
noncomputable def tUn(r:V→Hp→VK→Prop)(ta:TE):TE:=fun σ H Q=>ta σ H fun x H1=>r x H1 Q
noncomputable def rI(C:Int→Int→Prop)(g:Int→Int→V):R2:=fun x y H Q=>∃i j,x=.int i∧y=.int j∧C i j∧Q (g i j) H
noncomputable def rI0(g:Int→Int→V):R2:=fun x y H Q=>∃i j,x=.int i∧y=.int j∧Q (g i j) H
noncomputable def rU(g:Int→V):V→Hp→VK→Prop:=fun x H Q=>∃i,x=.int i∧Q (g i) H
section
variable{X:Cx}{a b c:Expr}{ta tb tc:TE}{pos:Pos}
theorem binT(ha:PE X a ta)(hb:PE X b tb){pins:List (Addr×Obj)}{s:Shared}{σ:St}{H:Hp}{R:V→V→Hp→Prop}(I:Inv X pins σ H s)
 (h:ta σ H fun x H1=>tb σ H1 fun y H2=>R x y H2) {Q:Value→Shared→Prop} {f:Value→Value→Sem Value}
 (hf:∀v u s2 x y H2,Inv X pins σ H2 s2→RelV x v→RelV y u→R x y H2→wpAny (model X.prog X.w) X.A (f v u) Q X.xe s2):
 wpAny (model X.prog X.w) X.A (eval a X.env) (fun v s₁=>wpAny (model X.prog X.w) X.A (eval b X.env) (fun u s₂=>wpAny (model X.prog X.w) X.A (f v u) Q X.xe s₂) X.xe s₁) X.xe s:=by
 refine thn (ha pins s σ H _ I h) fun v s1 ⟨x,H1,I1,r1,q1⟩=>?_
 refine thn (hb pins s1 σ H1 _ I1 q1) fun u s2 ⟨y,H2,I2,r2,q2⟩=>?_
 exact hf v u s2 x y H2 I2 r1 r2 q2
theorem pe_op{op:Operator}{r:R2}(ho:OpR X (binaryOp op) r)(ha:PE X a ta)(hb:PE X b tb):PE X (.BinOp a op b pos) (tOp r ta tb):=by
 intro pins s σ H Q I h;exact wpAny_BinOp (binT ha hb I h fun v u s2 x y H2 I2 rx ry q=>ho pins s2 σ H2 x y v u Q I2 rx ry q)
theorem pe_un{op:UnaryOp}{r:V→Hp→VK→Prop}(ho:UnR X (unaryOp op) r)(ha:PE X a ta):PE X (.UnaryOp op a pos) (tUn r ta):=by
 intro pins s σ H Q I h;exact UnaryOp_ (thn (ha pins s σ H _ I h) fun v s1 ⟨x,H1,I1,r1,q1⟩=>ho pins s1 σ H1 x v Q I1 r1 q1)
theorem opI{f:Value→Value→Sem Value}{C:Int→Int→Prop}{g:Int→Int→Int}
 (rule:∀(i j:Int) (t u:Tok) (s:Shared) (Q:Value→Shared→Prop) (E:Value→Shared→Prop),C i j→Q (.int (g i j) s.toks) {s with toks:=s.toks+1}→wpAny (model X.prog X.w) X.A (f (.int i t) (.int j u)) Q E s):
 OpR X f (rI C fun i j=>.int (g i j)):=by
 intro pins s σ H x y v u Q I rx ry h;obtain ⟨i,j,rfl,rfl,hc,q⟩:=h;obtain ⟨t,rfl⟩:=rx;obtain ⟨t',rfl⟩:=ry;exact rule i j t t' s _ _ hc ⟨.int (g i j),H,I.tok _,⟨_,rfl⟩,q⟩
theorem opI0{f:Value→Value→Sem Value}{g:Int→Int→Int}
 (rule:∀(i j:Int) (t u:Tok) (s:Shared) (Q:Value→Shared→Prop) (E:Value→Shared→Prop),Q (.int (g i j) s.toks) {s with toks:=s.toks+1}→wpAny (model X.prog X.w) X.A (f (.int i t) (.int j u)) Q E s):
 OpR X f (rI0 fun i j=>.int (g i j)):=by
 intro pins s σ H x y v u Q I rx ry h;obtain ⟨i,j,rfl,rfl,q⟩:=h;obtain ⟨t,rfl⟩:=rx;obtain ⟨t',rfl⟩:=ry;exact rule i j t t' s _ _ ⟨.int (g i j),H,I.tok _,⟨_,rfl⟩,q⟩
theorem opB0{f:Value→Value→Sem Value}{g:Int→Int→Bool}
 (rule:∀(i j:Int) (t u:Tok) (s:Shared) (Q:Value→Shared→Prop) (E:Value→Shared→Prop),Q (.bool (g i j)) s→wpAny (model X.prog X.w) X.A (f (.int i t) (.int j u)) Q E s):
 OpR X f (rI0 fun i j=>.bl (g i j)):=by
 intro pins s σ H x y v u Q I rx ry h;obtain ⟨i,j,rfl,rfl,q⟩:=h;obtain ⟨t,rfl⟩:=rx;obtain ⟨t',rfl⟩:=ry;exact rule i j t t' s _ _ ⟨.bl (g i j),H,I,rfl,q⟩
noncomputable def CDiv(i j:Int):Prop:=0<j∧j<1073741824
noncomputable def CPow(i j:Int):Prop:=0≤j∧j≤1000000∧i.natAbs<2^64
noncomputable def CMul(i j:Int):Prop:=(-(2^64)<i∧i<2^64)∨(-(2^64)<j∧j<2^64)
theorem CMul.ok{i j:Int}(h:CMul i j):IntMulOk i j:=by
 rcases h with ⟨h1,h2⟩|⟨h1,h2⟩
 ·exact .of_left (intBits_le_64 h1 h2)
 ·exact .of_right (intBits_le_64 h1 h2)
theorem op_add:OpR X (binaryOp .Add) (rI0 fun i j=>.int (i+j)):=opI0 fun _ _ _ _ _ _ _ q=>add_int q
theorem op_sub:OpR X (binaryOp .Sub) (rI0 fun i j=>.int (i-j)):=opI0 fun _ _ _ _ _ _ _ q=>sub_int q
theorem v0t:OpR X (binaryOp .Mult) (rI CMul fun i j=>.int (i*j)):=opI fun _ _ _ _ _ _ _ hc q=>mul_int q hc.ok
theorem j0s:OpR X (binaryOp .FloorDiv) (rI CDiv fun i j=>.int (i/j)):=opI fun i j _ _ _ _ _ hc q=>by
 have h1:(0:Int)<j:=hc.1;have h2:j<1073741824:=hc.2;exact floordiv_int (by omega) (by rw[Int.fdiv_eq_ediv_of_nonneg i (by omega)];exact q) (.inl (PyProof.noPylong_small (by omega)))
theorem s0q:OpR X (binaryOp .Mod) (rI (fun _ j=>0<j) fun i j=>.int (i%j)):=opI fun i j _ _ _ _ _ hc q=>by
 have h1:(0:Int)<j:=hc;exact mod_int' (by omega) (by rw[Int.fmod_eq_emod_of_nonneg i (by omega)];exact q)
theorem op_pow:OpR X (binaryOp .Pow) (rI CPow fun i j=>.int (i^j.toNat)):=opI fun _ _ _ _ _ _ _ hc q=>pow_int_small hc.1 hc.2.1 hc.2.2 q
theorem unI{f:Value→Sem Value}{g:Int→Int}
 (rule:∀(i:Int) (t:Tok) (s:Shared) (Q:Value→Shared→Prop) (E:Value→Shared→Prop),Q (.int (g i) s.toks) {s with toks:=s.toks+1}→wpAny (model X.prog X.w) X.A (f (.int i t)) Q E s):
 UnR X f (rU fun i=>.int (g i)):=by
 intro pins s σ H x v Q I rx h;obtain ⟨i,rfl,q⟩:=h;obtain ⟨t,rfl⟩:=rx;exact rule i t s _ _ ⟨.int (g i),H,I.tok _,⟨_,rfl⟩,q⟩
theorem un_neg:UnR X (unaryOp .USub) (rU fun i=>.int (-i)):=unI fun _ _ _ _ _ q=>neg_int q
end
noncomputable def scal:V→V→Bool
 | .non,.non=>true | .non,.int _=>true | .int _,.non=>true | .non,.bl _=>true | .bl _,.non=>true | .non,.str _=>true | .str _,.non=>true
 | .int _,.int _=>true | .bl _,.bl _=>true | .str _,.str _=>true | .byt _,.byt _=>true
 | .int _,.str _=>true | .str _,.int _=>true | .bl _,.str _=>true | .str _,.bl _=>true
 |_,_=>false
noncomputable def rEq:R2:=fun x y H Q=>scal x y=true∧Q (.bl (decide (x=y))) H
noncomputable def rNe:R2:=fun x y H Q=>scal x y=true∧Q (.bl (!decide (x=y))) H
theorem j0r{i j:Int}:decide (V.int i=V.int j)=(i==j):=by
 rw[Bool.eq_iff_iff];simp
theorem d0h{i j:Bool}:decide (V.bl i=V.bl j)=(i==j):=by
 rw[Bool.eq_iff_iff];simp
theorem j0q{i j:Str}:decide (V.str i=V.str j)=(i==j):=by
 rw[Bool.eq_iff_iff];simp
theorem j0p{i j:Array UInt8}:decide (V.byt i=V.byt j)=(i.toList==j.toList):=by
 rw[Bool.eq_iff_iff];cases i;cases j;simp
section
variable{X:Cx}{a b c:Expr}{ta tb tc:TE}{pos:Pos}
theorem l4{pins:List (Addr×Obj)}{σ:St}{H:Hp}{s:Shared}{Q:VK}{k k':Bool}(I:Inv X pins σ H s)(q:Q (.bl k) H)(e:k=k'):EP X pins σ Q (.bool k') s:=by
 subst e;exact ⟨.bl k,H,I,rfl,q⟩
theorem o0i:OpR X (compareOp .Eq) rEq:=by
 intro pins s σ H x y v u Q I rx ry h;obtain ⟨hs,q⟩:=h;cases x with
 |non=>
  cases rx;cases y with
  |non=>cases ry;exact PySem.EqNone.eq_none_none (l4 I q (by simp))
  |bl j=>cases ry;exact PySem.EqNone.eq_none_bool (l4 I q (by simp))
  |int j=>obtain ⟨t',rfl⟩:=ry;exact PySem.EqNone.eq_none_int (l4 I q (by simp))
  |str j=>obtain ⟨t',rfl⟩:=ry;exact PySem.EqNone.eq_none_str (l4 I q (by simp))
  |_=>exact absurd (show false=true from hs) Bool.false_ne_true
 |bl i=>
  cases rx;cases y with
  |non=>cases ry;exact PySem.EqNone.eq_bool_none (l4 I q (by simp))
  |bl j=>cases ry;exact eq_bool (l4 I q d0h)
  |str j=>obtain ⟨t',rfl⟩:=ry;exact PySem.EqMixed.eq_bool_str (l4 I q (by simp))
  |_=>exact absurd (show false=true from hs) Bool.false_ne_true
 |int i=>
  obtain ⟨t,rfl⟩:=rx;cases y with
  |non=>cases ry;exact PySem.EqNone.eq_int_none (l4 I q (by simp))
  |int j=>obtain ⟨t',rfl⟩:=ry;exact eq_int (l4 I q j0r)
  |str j=>obtain ⟨t',rfl⟩:=ry;exact PySem.EqMixed.eq_int_str (l4 I q (by simp))
  |_=>exact absurd (show false=true from hs) Bool.false_ne_true
 |str i=>
  obtain ⟨t,rfl⟩:=rx;cases y with
  |non=>cases ry;exact PySem.EqNone.eq_str_none (l4 I q (by simp))
  |bl j=>cases ry;exact PySem.EqMixed.eq_str_bool (l4 I q (by simp))
  |int j=>obtain ⟨t',rfl⟩:=ry;exact PySem.EqMixed.eq_str_int (l4 I q (by simp))
  |str j=>obtain ⟨t',rfl⟩:=ry;exact eq_str (l4 I q j0q)
  |_=>exact absurd (show false=true from hs) Bool.false_ne_true
 |byt i=>
  obtain ⟨t,rfl⟩:=rx;cases y with
  |byt j=>obtain ⟨t',rfl⟩:=ry;exact PySem.W.eq_bytes (l4 I q j0p)
  |_=>exact absurd (show false=true from hs) Bool.false_ne_true
 |_=>cases y<;>exact absurd (show false=true from hs) Bool.false_ne_true
theorem b0x:OpR X (compareOp .NotEq) rNe:=by
 intro pins s σ H x y v u Q I rx ry h;obtain ⟨hs,q⟩:=h;cases x with
 |non=>
  cases rx;cases y with
  |non=>cases ry;exact PySem.EqNone.ne_none_none (l4 I q (by simp))
  |bl j=>cases ry;exact PySem.EqNone.ne_none_bool (l4 I q (by simp))
  |int j=>obtain ⟨t',rfl⟩:=ry;exact PySem.EqNone.ne_none_int (l4 I q (by simp))
  |str j=>obtain ⟨t',rfl⟩:=ry;exact PySem.EqNone.ne_none_str (l4 I q (by simp))
  |_=>exact absurd (show false=true from hs) Bool.false_ne_true
 |bl i=>
  cases rx;cases y with
  |non=>cases ry;exact PySem.EqNone.ne_bool_none (l4 I q (by simp))
  |bl j=>cases ry;exact ne_bool (l4 I q (congrArg not d0h))
  |str j=>obtain ⟨t',rfl⟩:=ry;exact PySem.EqMixed.ne_bool_str (l4 I q (by simp))
  |_=>exact absurd (show false=true from hs) Bool.false_ne_true
 |int i=>
  obtain ⟨t,rfl⟩:=rx;cases y with
  |non=>cases ry;exact PySem.EqNone.ne_int_none (l4 I q (by simp))
  |int j=>obtain ⟨t',rfl⟩:=ry;exact ne_int (l4 I q (congrArg not j0r))
  |str j=>obtain ⟨t',rfl⟩:=ry;exact PySem.EqMixed.ne_int_str (l4 I q (by simp))
  |_=>exact absurd (show false=true from hs) Bool.false_ne_true
 |str i=>
  obtain ⟨t,rfl⟩:=rx;cases y with
  |non=>cases ry;exact PySem.EqNone.ne_str_none (l4 I q (by simp))
  |bl j=>cases ry;exact PySem.EqMixed.ne_str_bool (l4 I q (by simp))
  |int j=>obtain ⟨t',rfl⟩:=ry;exact PySem.EqMixed.ne_str_int (l4 I q (by simp))
  |str j=>obtain ⟨t',rfl⟩:=ry;exact ne_str (l4 I q (congrArg not j0q))
  |_=>exact absurd (show false=true from hs) Bool.false_ne_true
 |byt i=>
  obtain ⟨t,rfl⟩:=rx;cases y with
  |byt j=>obtain ⟨t',rfl⟩:=ry;exact PySem.W.ne_bytes (l4 I q (congrArg not j0p))
  |_=>exact absurd (show false=true from hs) Bool.false_ne_true
 |_=>cases y<;>exact absurd (show false=true from hs) Bool.false_ne_true
theorem op_lt:OpR X (compareOp .Lt) (rI0 fun i j=>.bl (decide (i<j))):=opB0 fun _ _ _ _ _ _ _ q=>lt_int q
theorem g0b:OpR X (compareOp .LtE) (rI0 fun i j=>.bl (decide (i≤j))):=opB0 fun _ _ _ _ _ _ _ q=>le_int q
theorem j0o:OpR X (compareOp .Gt) (rI0 fun i j=>.bl (decide (j<i))):=opB0 fun _ _ _ _ _ _ _ q=>gt_int q
theorem op_ge:OpR X (compareOp .GtE) (rI0 fun i j=>.bl (decide (j≤i))):=opB0 fun _ _ _ _ _ _ _ q=>ge_int q
theorem q0q:OpR X (compareOp .In) (fun x y H Q=>∃i j,x=.str i∧y=.str j∧Q (.bl (!(Builtin.Str.occurrences j i 0 j.length 1).isEmpty)) H):=by
 intro pins s σ H x y v u Q I rx ry h;obtain ⟨i,j,rfl,rfl,q⟩:=h;obtain ⟨t,rfl⟩:=rx;obtain ⟨t',rfl⟩:=ry;exact in_str (l4 I q rfl)
theorem d0g:OpR X (compareOp .Is) (fun x y H Q=>y=.non∧Q (.bl (decide (x=.non))) H):=by
 intro pins s σ H x y v u Q I rx ry h;obtain ⟨rfl,q⟩:=h;cases ry;refine is_none_gen (l4 I q ?_);cases x<;>first
  |(cases rx;rfl)
  |(obtain ⟨t,rfl⟩:=rx;rfl)
theorem o4(b:Expr){op:CmpOp}(h:op≠.In:=by decide)(h2:op≠.NotIn:=by decide):behindInMarks op b=false:=by
 have e1:(op==CmpOp.In)=false:=by cases op<;>first |rfl |exact absurd rfl h
 have e2:(op==CmpOp.NotIn)=false:=by cases op<;>first |rfl |exact absurd rfl h2
 cases b<;>simp[behindInMarks,e1,e2]
theorem b0w{op:CmpOp}{r:R2}(ho:OpR X (compareOp op) r)(ha:PE X a ta)(hb:PE X b tb)(hm:behindInMarks op b=false):PE X (.Compare a [op] [b] pos) (tOp r ta tb):=by
 intro pins s σ H Q I h;exact wpAny_Compare1 (binT ha hb I h fun v u s2 x y H2 I2 rx ry q=>ho pins s2 σ H2 x y v u Q I2 rx ry q) hm
noncomputable def tTest(t:TE):TT:=fun σ H Q=>t σ H fun x H'=>∃k,x=.bl k∧Q k H'
theorem b0v{op:CmpOp}{r:R2}(ho:OpR X (compareOp op) r)(ha:PE X a ta)(hb:PE X b tb)(hm:behindInMarks op b=false):PT X (.Compare a [op] [b] pos) (tTest (tOp r ta tb)):=by
 intro pins s σ H Q I h;refine wpAny_isTrue_Compare1 (thn (ha pins s σ H _ I h) fun v s1 ⟨x,H1,I1,r1,q1⟩=>thn (hb pins s1 σ H1 _ I1 q1) fun u s2 ⟨y,H2,I2,r2,q2⟩=>
  thn (ho pins s2 σ H2 x y v u _ I2 r1 r2 q2) fun c s3 ⟨z,H3,I3,r3,k,e,q3⟩=>?_) hm
 subst e;cases r3;exact wpAny_truthy_bool ⟨H3,I3,q3⟩
noncomputable def j0n(r r':R2)(ta tb tc:TE):TE:=fun σ H Q=>ta σ H fun x H1=>tb σ H1 fun y H2=>r x y H2 fun z H3=>∃k,z=.bl k∧
 (if k=true then tc σ H3 fun w' H4=>r' y w' H4 Q else Q (.bl false) H3)
theorem g0a{op op':CmpOp}{r r':R2}(ho:OpR X (compareOp op) r)(ho':OpR X (compareOp op') r')(ha:PE X a ta)(hb:PE X b tb)(hc:PE X c tc)
 (hm:lastMarks [op,op'] [b,c]=false:=by with_unfolding_all rfl):PE X (.Compare a [op,op'] [b,c] pos) (j0n r r' ta tb tc):=by
 intro pins s σ H Q I h;refine Compare_chain (thn (ha pins s σ H _ I h) fun v s1 ⟨x,H1,I1,r1,q1⟩=>chain_link (thn (hb pins s1 σ H1 _ I1 q1) fun u s2 ⟨y,H2,I2,r2,q2⟩=>
  thn (ho pins s2 σ H2 x y v u _ I2 r1 r2 q2) fun d s3 ⟨z,H3,I3,r3,k,e,q3⟩=>?_)) hm
 subst e;cases r3;refine wpAny_truthy_bool ?_;cases k with
 |false=>exact ite_ff ⟨.bl false,H3,I3,rfl,q3⟩
 |true=>exact ite_tt (chain_last (thn (hc pins s3 σ H3 _ I3 q3) fun w' s4 ⟨z',H4,I4,r4,q4⟩=>ho' pins s4 σ H4 y z' u w' Q I4 r2 r4 q4))
theorem f0z{op op':CmpOp}{r r':R2}(ho:OpR X (compareOp op) r)(ho':OpR X (compareOp op') r')(ha:PE X a ta)(hb:PE X b tb)(hc:PE X c tc)
 (hm:lastMarks [op,op'] [b,c]=false:=by with_unfolding_all rfl):PT X (.Compare a [op,op'] [b,c] pos) (tTest (j0n r r' ta tb tc)):=by
 intro pins s σ H Q I h;refine isTrue_chain (thn (ha pins s σ H _ I h) fun v s1 ⟨x,H1,I1,r1,q1⟩=>test_link (thn (hb pins s1 σ H1 _ I1 q1) fun u s2 ⟨y,H2,I2,r2,q2⟩=>
  thn (ho pins s2 σ H2 x y v u _ I2 r1 r2 q2) fun d s3 ⟨z,H3,I3,r3,k,e,q3⟩=>?_)) hm
 subst e;cases r3;refine wpAny_truthy_bool ?_;cases k with
 |false=>
  obtain ⟨k',e',q'⟩:=q3;cases e';exact ite_ff ⟨H3,I3,q'⟩
 |true=>
  refine ite_tt (test_last (thn (hc pins s3 σ H3 _ I3 q3) fun w' s4 ⟨z',H4,I4,r4,q4⟩=>thn (ho' pins s4 σ H4 y z' u w' _ I4 r2 r4 q4) fun d' s5 ⟨z2,H5,I5,r5,k2,e2,q5⟩=>?_));subst e2;cases r5;exact wpAny_truthy_bool ⟨H5,I5,q5⟩
theorem s0p:(sizeLine:Nat)<2^63:=by rw[sizeLine_eq];decide
theorem w5:OpR X (binaryOp .Add) (fun x y H Q=>∃i j,x=.str i∧y=.str j∧i.length+j.length≤sizeLine∧Q (.str (i++j)) H):=by
 intro pins s σ H x y v u Q I rx ry h;obtain ⟨i,j,rfl,rfl,hz,q⟩:=h;obtain ⟨t,rfl⟩:=rx;obtain ⟨t',rfl⟩:=ry;exact add_str (fun t' tk=>⟨.str (i++j),H,I.tok _,⟨_,rfl⟩,q⟩) hz
theorem r0y{x:V}{us:List Value}(r:Vals [x] us):∃u,us=[u]∧RelV x u:=by
 cases r with
 |cons r1 r2=>cases r2;exact ⟨_,rfl,r1⟩
theorem f0y:x0u X (.builtin "abs") (fun xs H Q=>∃i,xs=[.int i]∧Q (.int (if i<0 then -i else i)) H):=by
 intro pins s σ H xs us Q I r h;obtain ⟨i,rfl,q⟩:=h;obtain ⟨u,rfl,t,rfl⟩:=r0y r;exact call_abs_int fun u tk=>⟨.int (if i<0 then -i else i),H,I.tok _,⟨_,rfl⟩,q⟩
theorem j0m:x0u X (.type "int") (fun xs H Q=>(∃i,xs=[.int i]∧Q (.int i) H)∨∃k,xs=[.bl k]∧Q (.int (if k then 1 else 0)) H):=by
 intro pins s σ H xs us Q I r h;rcases h with ⟨i,rfl,q⟩|⟨k,rfl,q⟩
 ·obtain ⟨u,rfl,t,rfl⟩:=r0y r;exact call_int_int ⟨.int i,H,I,⟨_,rfl⟩,q⟩
 ·obtain ⟨u,rfl,r1⟩:=r0y r;cases r1;exact call_int_bool ⟨.int (if k then 1 else 0),H,I.tok _,⟨_,rfl⟩,q⟩
theorem i5:x0u X (.type "str") (fun xs H Q=>∃i,xs=[.int i]∧i.natAbs.log2<1920∧Q (.str (toString i)) H):=by
 intro pins s σ H xs us Q I r h;obtain ⟨i,rfl,hz,q⟩:=h;obtain ⟨u,rfl,t,rfl⟩:=r0y r;exact PySem.P.str_of_int hz ⟨.str _,H,I.tok _,⟨_,rfl⟩,q⟩
end
end L2
namespace L2
open PySem PySem.Spec PyProof.Rows
structure ObjM(h:Heap)(x dx C:Addr)(mA:Str→Option Value):Prop where
 obj:h.get? x=some (PySem.W.instObj C dx)
 ns:h.Ns1 dx mA
 ne:dx≠x
theorem u0n{h:Heap}{dx:Addr}{mA:Str→Option Value}(n:h.Ns1 dx mA):∃od,h.get? dx=some od∧∀name,PySem.W.lookIn name od=some (mA name):=by
 obtain ⟨o,es,ep,ho,hd,hk,_,hm⟩:=n;refine ⟨o,ho,fun name=>?_⟩;have e:=hm name;unfold nsFind findBy at e;rw[←Array.find?_toList]at e;unfold PySem.W.lookIn;rw[hd];dsimp only;split
 ·rename_i y q;rw[q]at e;exact congrArg some e
 ·rename_i q;rw[q]at e;have a:es.toList.any (·.refKey)=false:=by
   rw[List.any_eq_false];intro y hy;obtain ⟨z,t,hkey⟩:=hk y (Array.mem_toList_iff.mp hy);simp[DictEntry.refKey,hkey]
  have a':¬es.toList.any (·.refKey)=true:=by rw[a];exact Bool.false_ne_true
  rw[if_neg a'];exact congrArg some e
theorem ObjM.look{h:Heap}{x dx C:Addr}{mA:Str→Option Value}(I:ObjM h x dx C mA):∃od,PySem.W.InstAt h x (PySem.W.instObj C dx) C (some od)∧∀name,PySem.W.lookIn name od=some (mA name):=
 let ⟨od,ho,hl⟩:=u0n I.ns
 ⟨od,⟨I.obj,rfl,rfl,ho⟩,hl⟩
section
variable{prog:Program}{w:World}{A:Around}{E:Value→Shared→Prop}{s:Shared}{K:PySem.W.Frag}{x dx C f:Addr}{mA:Str→Option Value}{name:Str}{v:Value}
theorem b0u{expr:Bool}{Q:Value→Shared→Prop}(X:K.In s.heap)(I:ObjM s.heap x dx C mA)(hg:PySem.W.plainGet K C name=true)(hh:PySem.W.hasDictIn K C=true)
 (ha:PySem.W.findIn K (.ref C) name=some none) (hv:mA name=some v) (hv':PySem.W.handedIn v=true) (h:Q v {s with toks:=s.toks+1}):
 wpAny (model prog w) A (getAttr (.ref x) name expr) Q E s:=by
 obtain ⟨od,J,hl⟩:=I.look;exact PySem.W.get_value X J (PySem.W.plainGet_of hg).1 (PySem.W.findObj_own hh ha rfl (by rw[hl,hv])) hv' h
theorem b0t{ns:List Str}{Q:Unit→Shared→Prop}(X:K.In s.heap)(I:ObjM s.heap x dx C mA)
 (hs:PySem.W.findIn K (.ref C) "__setattr__"=some (some (.builtin "object.__setattr__"))) (hp:PySem.W.plainOver K C=true) (ht:PySem.W.takerIn K C name=some none) (hh:PySem.W.hasDictIn K C=true)
 (hw:PySem.Within mA ns) (hsz:ns.length≤sizeLine)
 (h:∀h',ObjM h' x dx C (fun y=>if y=name then some v else mA y)→Heap.SameBut dx s.heap h'→Q () {s with heap:=h',toks:=s.toks+2}):
 wpAny (model prog w) A (setAttr (.ref x) name v) Q E s:=by
 obtain ⟨od,J,hl⟩:=I.look;refine PySem.W.set_plain X J hs (PySem.W.osa_open (s:={s with toks:=s.toks+1}) (r:=none) X J hp ht fun b=>?_);obtain ⟨cd,hc,hd'⟩:=PySem.W.any_some hh;have hx:s.heap.get? x=some ⟨.ref C,some dx,.plain,#[]⟩:=I.obj;refine wpAny_bind (wpAny_pure (wpAny_bind (wpAny_bind (wpAny_loadPart hx (wpAny_bind (PySem.W.Looks.here (s:={s with toks:=s.toks+1}) (PySem.W.looks_clsIn X hc) ?_))))));rw[hd'];refine wpAny_pure (a:=some dx) (wpAny_bind (wpAny_pure (wpAny_bind ?_)));refine wpAny_nsSet1 (s:={s with toks:=s.toks+1}) I.ns fun h' hn2 hs2=>?_
 obtain ⟨oD,esD,epD,hoD,hdD,hcD⟩:=hn2.count (PySem.Within.cons name v hw);refine wpAny_bind (wpAny_lookBehind hoD (by rw[hdD];exact pastItsLine_dict (Nat.le_trans hcD (by rw[List.length_cons];omega))) ?_);exact wpAny_pure (h _ ⟨(hs2.2 _ (Ne.symm I.ne)).trans I.obj,hn2,I.ne⟩ hs2)
theorem f0x{R:Result→Shared→Prop}{vs:List Value}{kw:List (Str×Value)}(X:K.In s.heap)(hm:PySem.W.makesIn K C=true)
 (hi:PySem.W.findIn K (.ref C) "__init__"=some (some (.ref f))) (hf:PySem.W.typeIn K (.ref f)=some (.type "function"))
 (h:codeAny (model prog w) (A.under (.builtin "type.__call__" ⟨.ref C::vs,kw⟩)) (.call (.ref f) ⟨.ref (s.heap.objs.size+1)::vs,kw⟩) (PySem.W.InitBack (s.heap.objs.size+1) R)
  {s with heap:=(s.heap.push PySem.W.emptyDict).push (PySem.W.instObj C s.heap.objs.size)}):
 codeAny (model prog w) A (.call (.ref C) ⟨vs,kw⟩) R s:=by
 obtain ⟨hh,g,d,t,os⟩:=s;exact PySem.W.make_core (PySem.W.makes_of X hm) (PySem.W.looks_findIn X hi) (fun self=>PySem.W.bind_fn X self hf) (.inl rfl) h
end
noncomputable def putF(f:Str)(v:V):List (Str×V)→List (Str×V)
 | []=>[(f,v)]
 |(g,x)::r=>if g=f then (g,v)::r else (g,x)::putF f v r
theorem y0n(f g:Str)(v:V):∀fs:List (Str×V),(putF f v fs).lookup g=if g=f then some v else fs.lookup g
 | []=>by
  show List.lookup g [(f,v)]=_;by_cases h:g=f
  ·have hb:(g==f)=true:=beq_iff_eq.mpr h;simp only[List.lookup,hb,if_pos h]
  ·have hb:(g==f)=false:=beq_eq_false_iff_ne.mpr h;simp only[List.lookup,hb,if_neg h]
 |(k,x)::r=>by
  have ih:=y0n f g v r;rw[show putF f v ((k,x)::r)=(if k=f then (k,v)::r else (k,x)::putF f v r)from rfl];by_cases hk:k=f
  ·rw[if_pos hk];by_cases h:g=k
   ·have hb:(g==k)=true:=beq_iff_eq.mpr h;simp only[List.lookup,hb,if_pos (h.trans hk)]
   ·have hb:(g==k)=false:=beq_eq_false_iff_ne.mpr h;simp only[List.lookup,hb,if_neg (fun e:g=f=>h (e.trans hk.symm))]
  ·rw[if_neg hk];by_cases h:g=k
   ·have hb:(g==k)=true:=beq_iff_eq.mpr h;simp only[List.lookup,hb,if_neg (fun e:g=f=>hk (h.symm.trans e))]
   ·have hb:(g==k)=false:=beq_eq_false_iff_ne.mpr h;simp only[List.lookup,hb];exact ih
theorem u0m(f:Str)(v:V):∀fs:List (Str×V),f∈(putF f v fs).map (·.1)∧∀g,g∈fs.map (·.1)→g∈(putF f v fs).map (·.1)
 | []=>⟨by simp[putF],fun g h=>by simp at h⟩
 |(k,x)::r=>by
  obtain ⟨i1,i2⟩:=u0m f v r;rw[show putF f v ((k,x)::r)=(if k=f then (k,v)::r else (k,x)::putF f v r)from rfl];by_cases hk:k=f
  ·rw[if_pos hk];subst hk;exact ⟨by simp,fun g h=>by simpa using h⟩
  ·rw[if_neg hk];refine ⟨?_,fun g h=>?_⟩
   ·rw[List.map_cons];exact List.mem_cons_of_mem _ i1
   ·rw[List.map_cons]at h ⊢;rcases List.mem_cons.mp h with e |e
    ·exact List.mem_cons.mpr (.inl e)
    ·exact List.mem_cons_of_mem _ (i2 g e)
theorem u0l(f:Str)(v:V):∀fs:List (Str×V),(putF f v fs).length≤fs.length+1
 | []=>by simp[putF]
 |(k,x)::r=>by
  have ih:=u0l f v r;rw[show putF f v ((k,x)::r)=(if k=f then (k,v)::r else (k,x)::putF f v r)from rfl];by_cases hk:k=f
  ·rw[if_pos hk,List.length_cons,List.length_cons];omega
  ·rw[if_neg hk,List.length_cons,List.length_cons];omega
theorem RelO.some_of{v:V}{o:Option Value}(r:RelO (some v) o):∃u,o=some u∧RelV v u:=by
 cases o with
 |none=>exact (show False from r).elim
 |some u=>exact ⟨u,rfl,r⟩
theorem q0p{v:V}{u:Value}(r:RelV v u):PySem.W.handedIn u=true:=by
 cases v with
 |non=>cases (show u=Value.none from r);rfl
 |bl b=>cases (show u=Value.bool b from r);rfl
 |int i=>obtain ⟨t,e⟩:=(show ∃t,u=Value.int i t from r);cases e;rfl
 |str x=>obtain ⟨t,e⟩:=(show ∃t,u=Value.str x t from r);cases e;rfl
 |byt b=>obtain ⟨t,e⟩:=(show ∃t,u=Value.bytes b t from r);cases e;rfl
 |flt b=>obtain ⟨t,e⟩:=(show ∃t,u=Value.float b t from r);cases e;rfl
 |ref a=>cases (show u=Value.ref a from r);rfl
 |ty n=>cases (show u=Value.type n from r);rfl
section
variable{P:Program}{w:World}{H H':Hp}{h h':Heap}{a C dx:Addr}{fs fs':List (Str×V)}
theorem o0h(hok:HOk P w H h)(e:H a=some (.ins C dx fs)):∃mA,ObjM h a dx C mA∧(∀f,RelO (fs.lookup f) (mA f))∧PySem.Within mA (fs.map (·.1))∧fs.length≤1000∧H dx=some (.own a):=by
 obtain ⟨d,z,ne,ob,mA,n,r,q⟩:=(show ObjOk P w H h a (.ins C dx fs)from hok a _ e);exact ⟨mA,⟨ob,n,ne⟩,r,q,z,d⟩
end
structure Cls(K:PySem.W.Frag)(C:Addr):Prop where
 pg:PySem.W.plainGet K C Str.empty=true
 hd:PySem.W.hasDictIn K C=true
 po:PySem.W.plainOver K C=true
 sa:PySem.W.findIn K (.ref C) "__setattr__"=some (some (.builtin "object.__setattr__"))
theorem Cls.get{K:PySem.W.Frag}{C:Addr}(c:Cls K C)(f:Str):PySem.W.plainGet K C f=true:=c.pg
noncomputable def NoAttr(K:PySem.W.Frag)(C:Addr)(f:Str):Prop:=PySem.W.findIn K (.ref C) f=some none
theorem NoAttr.taker{K:PySem.W.Frag}{C:Addr}{f:Str}(n:NoAttr K C f):PySem.W.takerIn K C f=some none:=by
 unfold PySem.W.takerIn;rw[show PySem.W.findIn K (.ref C) f=some none from n];rfl
structure Con(K:PySem.W.Frag)(C:Addr)(f:Str)(v:V)(u:Value):Prop where
 at_:PySem.W.findIn K (.ref C) f=some (some u)
 rel:RelV v u
 get:PySem.W.specialIn K u "__get__"=some none
 cp:PySem.W.copiedNames.contains f=false
structure Meth(K:PySem.W.Frag)(C:Addr)(m:Str)(f:Addr):Prop where
 at_:PySem.W.findIn K (.ref C) m=some (some (.ref f))
 fn:PySem.W.isFn K (.ref f)=true
 kp:PySem.W.keepIn K (.ref f)=true
section
variable{X:Cx}{pins:List (Addr×Obj)}{σ:St}{H:Hp}{s:Shared}{a C dx:Addr}{fs:List (Str×V)}{f:Str}{v:V}{A:Around}{E:Value→Shared→Prop}
theorem k0v{b:Bool}{Q:Value→Shared→Prop}(I:Inv X pins σ H s)(e:H a=some (.ins C dx fs))(c:Cls X.K C)(n:NoAttr X.K C f)(l:fs.lookup f=some v)
 (h:∀u s',Inv X pins σ H s'→RelV v u→Q u s'):wpAny (model X.prog X.w) A (getAttr (.ref a) f b) Q E s:=by
 obtain ⟨mA,O,r,_,_,_⟩:=o0h I.hok e;obtain ⟨u,hu,ru⟩:=RelO.some_of (v:=v) (o:=mA f) (by rw[←l];exact r f);exact b0u I.kIn O (c.get f) c.hd n hu (q0p ru) (h u _ (I.tok _) ru)
theorem k0u{y:V}{u:Value}{Q:Unit→Shared→Prop}(I:Inv X pins σ H s)(e:H a=some (.ins C dx fs))(c:Cls X.K C)(n:NoAttr X.K C f)(hl:fs.length<1000)(ry:RelV y u)
 (h:∀s',Inv X pins σ (upd H a (.ins C dx (putF f y fs))) s'→Q () s'):wpAny (model X.prog X.w) A (setAttr (.ref a) f u) Q E s:=by
 obtain ⟨mA,O,r,wi,_,ho⟩:=o0h I.hok e;have hz:(fs.map (·.1)).length≤sizeLine:=by rw[List.length_map,sizeLine_eq];omega
 refine b0t I.kIn O c.sa c.po n.taker c.hd wi hz fun h' O' sb=>h _ ?_
 have hd:∃o,h'.get? dx=some o:=let ⟨o,_,_,e',_⟩:=O'.ns;⟨o,e'⟩
 refine I.write (x:=a) (e:=dx) (by rw[e];exact True.intro) (.inr ho) (fun b q hb z=>(sb.2 b hb).trans z) hd ?_;refine ⟨by rw[y0 O.ne];exact ho,?_,O.ne,O'.obj,_,O'.ns,fun g=>?_,fun g hg=>?_⟩
 ·have:=u0l f y fs;omega
 ·show RelO ((putF f y fs).lookup g) (if g=f then some u else mA g);rw[y0n];by_cases q:g=f
  ·rw[if_pos q,if_pos q];exact ry
  ·rw[if_neg q,if_neg q];exact r g
 ·by_cases q:g=f
  ·rw[q];exact (u0m f y fs).1
  ·refine (u0m f y fs).2 g (wi g fun z=>hg ?_);show (if g=f then some u else mA g)=none;rw[if_neg q];exact z
theorem Inv.made(I:Inv X pins σ H s):Inv X pins σ (upd (upd H s.heap.objs.size (.own (s.heap.objs.size+1))) (s.heap.objs.size+1) (.ins C s.heap.objs.size []))
 {s with heap:=(s.heap.push PySem.W.emptyDict).push (PySem.W.instObj C s.heap.objs.size)}:=by
 have e1:(s.heap.push PySem.W.emptyDict).get? s.heap.objs.size=some PySem.W.emptyDict:=Heap.get?_push_size s.heap rfl;have e2:((s.heap.push PySem.W.emptyDict).push (PySem.W.instObj C s.heap.objs.size)).get? (s.heap.objs.size+1)=some (PySem.W.instObj C s.heap.objs.size):=by
  have:=Heap.get?_push_size (s.heap.push PySem.W.emptyDict) (o:=PySem.W.instObj C s.heap.objs.size) rfl
  rwa[Heap.size_push]at this
 have e3:(s.heap.push PySem.W.emptyDict).Ns s.heap.objs.size (fun _=>none):=⟨PySem.W.emptyDict,#[],_,e1,rfl,(fun e he=>absurd he (by simp)),fun _=>rfl⟩;have I1:=I.laid (a:=s.heap.objs.size) (o:=.own (s.heap.objs.size+1)) (h':=s.heap.push PySem.W.emptyDict) (t':=s.toks) (fun b u q=>Heap.get?_push_of_some _ q) (Nat.le_refl _) ⟨_,e1⟩;refine I1.laid (a:=s.heap.objs.size+1) (o:=.ins C s.heap.objs.size []) (t':=s.toks) (fun b u q=>Heap.get?_push_of_some _ q) (Nat.le_of_eq (Heap.size_push _ _)) ?_;have ne:s.heap.objs.size≠s.heap.objs.size+1:=Nat.ne_of_lt (Nat.lt_succ_self _);refine ⟨by rw[y0 ne,n3],Nat.zero_le _,ne,e2,fun _=>none,(Heap.Ns1.of_empty e3).at fun o q=>Heap.get?_push_of_some _ q,fun _=>True.intro,fun y hy=>absurd rfl hy⟩
theorem j0l{prog:Program}{w:World}{env:Env}{e:Expr}{f:Str}{pos:Pos}{s:Shared}{Q:Value→Shared→Prop}(hb:attributeBase e f env (eval e env)=eval e env)
 (h:wpAny (model prog w) A (eval e env) (fun o s₁=>wpAny (model prog w) A (getAttr o f true) Q E s₁) E s):wpAny (model prog w) A (eval (.Attribute e f pos) env) Q E s:=
 Attribute_any_ h (by rw[arm_eval_Attribute,hb])
end
noncomputable def tFld(K:PySem.W.Frag)(ta:TE)(f:Str):TE:=fun σ H Q=>ta σ H fun x H1=>∃a C dx fs v,x=.ref a∧H1 a=some (.ins C dx fs)∧Cls K C∧NoAttr K C f∧fs.lookup f=some v∧Q v H1
noncomputable def sFld(K:PySem.W.Frag)(ta tv:TE)(f:Str):TS:=fun D σ H=>tv σ H fun y H1=>ta σ H1 fun x H2=>∃a C dx fs,x=.ref a∧H2 a=some (.ins C dx fs)∧Cls K C∧NoAttr K C f∧fs.length<1000∧
 D.nx σ (upd H2 a (.ins C dx (putF f y fs)))
section
variable{X:Cx}{o e value:Expr}{f:Str}{pos pos' tpos:Pos}{ta tv:TE}
theorem pe_fld(he:PE X e ta)(hb:attributeBase e f X.env (eval e X.env)=eval e X.env):PE X (.Attribute e f pos) (tFld X.K ta f):=by
 intro pins s σ H Q I h;refine j0l hb (thn (he pins s σ H _ I h) fun u s1 ⟨x,H1,I1,rx,a,C,dx,fs,v,ex,ea,c,n,l,q⟩=>?_);subst ex;obtain rfl:u=Value.ref a:=rx;exact k0v I1 ea c n l fun u' s2 I2 ru=>⟨v,H1,I2,ru,q⟩
theorem ps_fld(ha:PE X o ta)(hv:PE X value tv)(hs:swapsWith value (some (.Attribute o f pos')) pos.line X.env=pure false):PS X (.Assign [.Attribute o f pos'] value pos) (sFld X.K ta tv f):=by
 intro pins s σ H D I h;refine plainObj_wpAny_Assign_Attribute (thn (hv pins s σ H _ I h) fun u s1 ⟨y,H1,I1,ry,q⟩=>thn (ha pins s1 σ H1 _ I1 q) fun ov s2 ⟨x,H2,I2,rx,a,C,dx,fs,ex,ea,c,n,l,q2⟩=>?_) hs;subst ex;obtain rfl:ov=Value.ref a:=rx;exact k0u I2 ea c n l ry fun s3 I3=>⟨σ,_,I3,q2⟩
end
section
variable{X:Cx}{pins:List (Addr×Obj)}{σ:St}{H:Hp}{s:Shared}{A:Around}{E:Value→Shared→Prop}{Q:Value→Shared→Prop}{c:Value}{b:Bool}
inductive TyOf(K:PySem.W.Frag)(H:Hp):V→Value→Prop where
 |non:TyOf K H .non (.type "NoneType")
 |bl (x:Bool):TyOf K H (.bl x) (.type "bool")
 |int (i:Int):TyOf K H (.int i) (.type "int")
 |str (x:Str):TyOf K H (.str x) (.type "str")
 |flt (x:UInt64):TyOf K H (.flt x) (.type "float")
 |lst {a:Addr} {xs:List V} (e:H a=some (.lst xs)):TyOf K H (.ref a) (.type "list")
 |frz {a:Addr} {o:Obj} {xs:List V} (e:H a=some (.frz o (.lst xs))):TyOf K H (.ref a) (.type "list")
 |tup {a:Addr} {xs:List V} (e:H a=some (.tup xs)):TyOf K H (.ref a) (.type "tuple")
 |dK {a:Addr} {kvs:List (Key×V)} (e:H a=some (.dK kvs)):TyOf K H (.ref a) (.type "dict")
 |dT {a:Addr} {kvs:List (List Key×V)} (e:H a=some (.dT kvs)):TyOf K H (.ref a) (.type "dict")
 |ins {a C dx:Addr} {fs:List (Str×V)} (e:H a=some (.ins C dx fs)) (cl:Cls K C) (ha:PySem.W.findIn K (.ref C) "__class__"=some (some (.builtin "object.__class__")))
  (hn:PySem.W.specialIn K (.builtin "object.__class__") "__get__"=some (some (.builtin "getset_descriptor.__get__"))) (htk:PySem.W.takesIn K (.builtin "object.__class__")=some true)
  (hm:PySem.W.mroIn K C (.type "object")=some true):TyOf K H (.ref a) (.ref C)
end
end L2
namespace L2
open PySem PySem.Spec PyProof.Rows
structure Room(k:Nat)(A:Around):Prop where
 hd:A.handled=none
 dp:A.depth+3*k+5<recursionLimit
 un:A.units+16*k+200<cLine
theorem Room.mono{j k:Nat}{A:Around}(r:Room k A)(h:j≤k):Room j A:=⟨r.hd,by have:=r.dp;omega,by have:=r.un;omega⟩
theorem Room.deeper{k:Nat}{A:Around}(r:Room (k+1) A)(env:Env):Room k (A.deeper env):=
 ⟨r.hd,by have:=r.dp;show A.depth+1+3*k+5<_;omega,by have:=r.un;show A.units+3+16*k+200<_;omega⟩
theorem s0o{A:Around}{C:Addr}{us:List Value}{kw:List (Str×Value)}:(A.under (.builtin "type.__call__" ⟨.ref C::us,kw⟩)).depth=A.depth+1:=by
 first |rfl |simp[Around.under,Code.weight,Code.isCreation,Code.isGuard,Code.isCaller,Code.frames,Code.isFrame,guardIds]
theorem s0n{A:Around}{C:Addr}{us:List Value}{kw:List (Str×Value)}:(A.under (.builtin "type.__call__" ⟨.ref C::us,kw⟩)).units=A.units+1:=by
 first |rfl |simp[Around.under,Code.cUnits,Code.frames,Code.isFrame]
theorem Room.make{k:Nat}{A:Around}(r:Room (k+1) A)(C:Addr)(us:List Value)(kw:List (Str×Value)):Room k (A.under (.builtin "type.__call__" ⟨.ref C::us,kw⟩)):=
 ⟨r.hd,by have:=r.dp;rw[s0o];omega,by have:=r.un;rw[s0n];omega⟩
theorem Room.depth{k:Nat}{A:Around}(r:Room k A):A.depth<recursionLimit:=by have:=r.dp;omega
theorem Room.units0{k:Nat}{A:Around}(r:Room k A):A.units<cLine:=by have:=r.un;omega
noncomputable def tNil:TA:=fun _ H Q=>Q [] H
noncomputable def tCons(ta:TE)(tr:TA):TA:=fun σ H Q=>ta σ H fun x H1=>tr σ H1 fun xs H2=>Q (x::xs) H2
section
variable{X:Cx}{e:Expr}{es:List Expr}{te:TE}{t:TA}{pos:Pos}
theorem d0f:PA X [] tNil:=fun _ _ _ _ H Q I h=>Calls.spliced_nil ⟨[],H,I,.nil,h⟩
theorem j0k(ha:PE X e te)(hr:PA X es t)(hs:starEach (e::es) X.env=(false,eval e X.env)::starEach es X.env:=by rfl):PA X (e::es) (tCons te t):=by
 intro pos pins s σ H Q I h;rw[hs];show wpAny _ _ (spliced ((false,eval e X.env)::backTo pos (starEach es X.env))) _ _ s;refine Calls.spliced_cons (thn (ha pins s σ H _ I h) fun u s1 ⟨x,H1,I1,r1,q1⟩=>?_);exact thn (hr pos pins s1 σ H1 _ I1 q1) fun us s2 ⟨xs,H2,I2,r2,q2⟩=>⟨x::xs,H2,I2,.cons r1 r2,q2⟩
noncomputable def tTup(t:TA):TE:=fun σ H Q=>t σ H fun xs H1=>xs.length≤sizeLine∧∀p,H1 p=none→Q (.ref p) (upd H1 p (.tup xs))
noncomputable def tLst(t:TA):TE:=fun σ H Q=>t σ H fun xs H1=>xs.length≤sizeLine∧∀p,H1 p=none→Q (.ref p) (upd H1 p (.lst xs))
theorem pe_tup{x1}(h:PA X es t):PE X (.Tuple es x1 pos) (tTup t):=by
 intro pins s σ H Q I hq;refine wpAny_Tuple_spliced (thn (h pos pins s σ H _ I hq) fun us s1 ⟨xs,H1,I1,r,z,q⟩=>⟨by rw[←r.length];exact z,?_⟩);have hf:H1 s1.heap.objs.size=none:=I1.hok.fresh (Nat.le_refl _);refine ⟨.ref s1.heap.objs.size,upd H1 s1.heap.objs.size (.tup xs),I1.laid (t':=s1.toks) (fun b u e=>Heap.get?_push_of_some _ e) (Nat.le_refl _) ?_,rfl,q _ hf⟩;exact ⟨z,us,r,⟨_,Heap.get?_push_size _ rfl,rfl,⟨_,rfl⟩,rfl⟩⟩
theorem d0e(h:PA X es t):PE X (.List es pos) (tLst t):=by
 intro pins s σ H Q I hq;refine wpAny_List_spliced (thn (h pos pins s σ H _ I hq) fun us s1 ⟨xs,H1,I1,r,z,q⟩=>⟨by rw[←r.length];exact z,?_⟩);have hf:H1 s1.heap.objs.size=none:=I1.hok.fresh (Nat.le_refl _);refine ⟨.ref s1.heap.objs.size,upd H1 s1.heap.objs.size (.lst xs),I1.laid (t':=s1.toks) (fun b u e=>Heap.get?_push_of_some _ e) (Nat.le_refl _) ?_,rfl,q _ hf⟩;exact ⟨z,us,0,r,Heap.get?_push_size _ rfl⟩
end
noncomputable abbrev Sp:=List V→Hp→VK→XK→Prop
noncomputable abbrev CXT:=List Env→Hp→Shared→XK→Value→Shared→Prop
structure Env0(P:Program)(w:World)(K:PySem.W.Frag)(mg:Str→Option Value)(base:Heap)(A:Around)(outer:List Env)(s:Shared)(H:Hp):Prop where
 frames:A.frames=some outer
 mod:Mod K mg base
 bs:∀b o,base.get? b=some o→s.heap.get? b=some o∧H b=none
 bsz:base.objs.size≤s.heap.objs.size
 funs:s.heap.FunFrames base outer
 frf:∀b∈frs outer,H b=none
 hok:HOk P w H s.heap
 bare:AllBare s.gens
noncomputable def CE(outer:List Env)(P:Program)(w:World)(H:Hp)(s:Shared)(Q:VK)(u:Value)(s':Shared):Prop:=
 ∃v H',s'.os=s.os∧AllBare s'.gens∧Un (frs outer) [] H H' s.heap s'.heap∧HOk P w H' s'.heap∧RelV v u∧Q v H'
noncomputable def CR(CX:CXT)(outer:List Env)(P:Program)(w:World)(H:Hp)(s:Shared)(Q:VK)(E:XK)(r:Result)(s':Shared):Prop:=
 match r with
 | .ok (.ret u)=>CE outer P w H s Q u s'
 | .ok _=>False
 | .error e=>CX outer H s E e s'
structure FnOk(P:Program)(w:World)(K:PySem.W.Frag)(mg:Str→Option Value)(base:Heap)(CX:CXT)(k:Nat)(f:Addr)(fd:FuncData)(ps:List Str)(sp:Sp):Prop where
 len:∀vs H Q E,sp vs H Q E→vs.length=ps.length
 run:∀(A:Around) (outer:List Env) (s:Shared) (H:Hp) (args:Args) (us:List Value) (vs:List V) (Q:VK) (E:XK),Room k A→Env0 P w K mg base A outer s H→BindsTo s fd args (ps.zip us)→Vals vs us→sp vs H Q E→
  codeAny (model P w) A (.call (.ref f) args) (CR CX outer P w H s Q E) s
theorem Env0.make{P:Program}{w:World}{K:PySem.W.Frag}{mg:Str→Option Value}{base:Heap}{A:Around}{outer:List Env}{s:Shared}{H:Hp}(e:Env0 P w K mg base A outer s H)(C:Addr)(us:List Value)(kw:List (Str×Value)):
 Env0 P w K mg base (A.under (.builtin "type.__call__" ⟨.ref C::us,kw⟩)) outer s H:=⟨by first |exact e.frames |(simpa[Around.under,Code.envs,Code.isFrame,pushEnvs]using e.frames),e.mod,e.bs,e.bsz,e.funs,e.frf,e.hok,e.bare⟩
section
variable{X:Cx}{pins:List (Addr×Obj)}{σ:St}{H:Hp}{s s':Shared}
theorem Inv.env0(I:Inv X pins σ H s):Env0 X.prog X.w X.K X.mg X.base X.A X.stack s H:=
 ⟨I.ok.frames,I.ok.mod,I.bs,Nat.le_trans I.ok.bsz I.sz,I.stack,I.stkFree,I.hok,I.bare⟩
theorem Inv.after{Q:VK}{u:Value}(I:Inv X pins σ H s)(h:CE X.stack X.prog X.w H s Q u s'):EP X pins σ Q u s':=by
 obtain ⟨v,H',os,bare,un,hok,r,q⟩:=h;obtain ⟨hh,g,d,t,os'⟩:=s';obtain rfl:os'=s.os:=os;exact ⟨v,H',I.call (h':=hh) (g':=g) (d':=d) (t':=t) (ch:=[]) un hok bare (fun b z=>absurd z (by simp)),r,q⟩
end
noncomputable def Binds(K:PySem.W.Frag)(fd:FuncData)(ps:List Str)(ds:List Value):Prop:=
 ∀(s:Shared) (us:List Value),K.In s.heap→(us++ds).length=ps.length→BindsTo s fd ⟨us,[]⟩ (ps.zip (us++ds))
theorem Binds.all{K:PySem.W.Frag}{fd:FuncData}{ps:List Str}(h:∀us:List Value,us.length=ps.length→bindArgs fd ⟨us,[]⟩=pure (ps.zip us)):Binds K fd ps []:=fun s us _ hl=>by
 rw[List.append_nil]at hl ⊢;exact .of_eq (h us hl)
noncomputable def d0d(CX:CXT)(X:Cx)(E:XK):Prop:=∀(pins:List (Addr×Obj)) (σ:St) (H:Hp) (s:Shared) (e:Value) (s':Shared),Inv X pins σ H s→CX X.stack H s E e s'→X.xe e s'
section
variable{X:Cx}{CX:CXT}{k:Nat}{f C:Addr}{fd:FuncData}{ps:List Str}{sp:Sp}{dvs:List V}{ds:List Value}{E:XK}{x m:Str}{p pos apos:Pos}{e o:Expr}{es:List Expr}{ta:TE}{t:TA}
structure Mk(K:PySem.W.Frag)(C f:Addr):Prop where
 makes:PySem.W.makesIn K C=true
 init:PySem.W.findIn K (.ref C) "__init__"=some (some (.ref f))
 fn:PySem.W.isFn K (.ref f)=true
 kp:PySem.W.keepIn K (.ref C)=true
end
section
variable{X:Cx}{CX:CXT}{k:Nat}{f C:Addr}{fd:FuncData}{ps ks:List Str}{sp:Sp}{E:XK}{x m:Str}{p pos apos kpos:Pos}{e o:Expr}{es:List Expr}{kws:List Keyword}{te ta:TE}{t tk:TA}{nm:Option Str}
structure KBinds(K:PySem.W.Frag)(fd:FuncData)(ps ks:List Str)(g:List Value→List Value→List Value)(gV:List V→List V→List V):Prop where
 to:∀(s:Shared) (us ws:List Value),K.In s.heap→(g us ws).length=ps.length→BindsTo s fd ⟨us,ks.zip ws⟩ (ps.zip (g us ws))
 rel:∀{vs:List V} {us:List Value} {zs:List V} {ws:List Value},Vals vs us→Vals zs ws→Vals (gV vs zs) (g us ws)
variable{g:List Value→List Value→List Value}{gV:List V→List V→List V}
end
structure FnScope(N P:List Str)(sc:Scope):Prop where
 kind:sc.kind=.function
 co:sc.isCoroutine=false
 gen:sc.isGenerator=false
 nd:N.Nodup
 pre:N.take P.length=P
 par:∀x∈P,sc.names.lookup x=some .local∨sc.names.lookup x=some .cell
 nofree:∀y∈sc.names,y.2≠.free
theorem q0o{kindOf:Str→Option NameKind}{x:Str}:∀{binds:List (Str×Value)} {m:Str→Option Value},(∀v,(x,v)∉binds)→bindL kindOf binds m x=m x
 | [],_,_=>rfl
 |(n,v)::r,m,h=>by
  unfold bindL;rw[q0o fun w hw=>h w (List.mem_cons_of_mem _ hw)];split
  ·have:x≠n:=by rintro rfl;exact h v List.mem_cons_self
   simp[this]
  ·rfl
theorem q0n{kindOf:Str→Option NameKind}{x:Str}:∀{binds:List (Str×Value)} {m:Str→Option Value},(∀v,(x,v)∉binds)→bindC kindOf binds m x=m x
 | [],_,_=>rfl
 |(n,v)::r,m,h=>by
  unfold bindC;rw[q0n fun w hw=>h w (List.mem_cons_of_mem _ hw)];split
  ·rfl
  ·have:x≠n:=by rintro rfl;exact h v List.mem_cons_self
   simp[this]
theorem q0m{kindOf:Str→Option NameKind}{x:Str}{v:Value}:∀{P:List Str} {vs:List Value} {i:Nat} {m:Str→Option Value},P.Nodup→P[i]?=some x→vs[i]?=some v→kindOf x=some .local→
 bindL kindOf (P.zip vs) m x=some v
 | [],_,_,_,_,h,_,_=>by simp at h
 |_::_,[],_,_,_,_,h,_=>by simp at h
 |p::P,w::vs,0,m,nd,h1,h2,hk=>by
  simp at h1 h2;subst h1;subst h2;show bindL kindOf ((p,w)::P.zip vs) m p=_;unfold bindL;rw[q0o fun v hv=>(List.nodup_cons.mp nd).1 (List.of_mem_zip hv).1,if_pos hk];simp
 |p::P,w::vs,i+1,m,nd,h1,h2,hk=>by
  show bindL kindOf ((p,w)::P.zip vs) m x=_;unfold bindL;exact q0m (i:=i) (List.nodup_cons.mp nd).2 (by simpa using h1) (by simpa using h2) hk
theorem q0l{kindOf:Str→Option NameKind}{x:Str}{v:Value}:∀{P:List Str} {vs:List Value} {i:Nat} {m:Str→Option Value},P.Nodup→P[i]?=some x→vs[i]?=some v→kindOf x≠some .local→
 bindC kindOf (P.zip vs) m x=some v
 | [],_,_,_,_,h,_,_=>by simp at h
 |_::_,[],_,_,_,_,h,_=>by simp at h
 |p::P,w::vs,0,m,nd,h1,h2,hk=>by
  simp at h1 h2;subst h1;subst h2;show bindC kindOf ((p,w)::P.zip vs) m p=_;unfold bindC;rw[q0n fun v hv=>(List.nodup_cons.mp nd).1 (List.of_mem_zip hv).1,if_neg hk];simp
 |p::P,w::vs,i+1,m,nd,h1,h2,hk=>by
  show bindC kindOf ((p,w)::P.zip vs) m x=_;unfold bindC;exact q0l (i:=i) (List.nodup_cons.mp nd).2 (by simpa using h1) (by simpa using h2) hk
noncomputable def start(N:List Str)(vs:List V):St:=vs.map some++List.replicate (N.length-vs.length) none
noncomputable def cxOf(CX:CXT)(P:Program)(w:World)(K:PySem.W.Frag)(mg:Str→Option Value)(base:Heap)(N:List Str)(qual:Str)(scope:Scope)(f:Addr)(cd:Value)(A:Around)(outer:List Env)(s:Shared)(H:Hp)(E:XK):Cx where
 prog:=P
 w:=w
 K:=K
 mg:=mg
 base:=base
 A:=A.deeper (envOfC qual scope s.heap.objs.size f cd)
 N:=N
 s₀:=s
 H₀:=H
 env:=envOfC qual scope s.heap.objs.size f cd
 outer:=outer
 stack:=envOfC qual scope s.heap.objs.size f cd::outer
 ex:=[]
 calm:=true
 fn:=fun _=>true
 pn:=[]
 xe:=fun e s'=>wpAny (model P w) (A.deeper (envOfC qual scope s.heap.objs.size f cd)) (leaving (envOfC qual scope s.heap.objs.size f cd) e) (fun _ s''=>CX outer H s E e s'') (fun e' s''=>CX outer H s E e' s'') s'
theorem m0j{sc:Scope}{n:Nat}{x:Str}(h:sc.names.lookup x=some .cell):∃c,(cellsFrom n sc.names []).lookup x=some c:=by
 have q:=PySem.W.cellsFrom_some sc.names n [] (.inl h);exact Option.isSome_iff_exists.mp q
theorem q0k{CX:CXT}{P:Program}{w:World}{K:PySem.W.Frag}{mg:Str→Option Value}{base:Heap}{N ps:List Str}{qual:Str}{scope:Scope}{f:Addr}{cd:Value}{A:Around}{outer:List Env}{s s1:Shared}{H:Hp}{E:XK}{us:List Value}{vs:List V}
 (S:FnScope N ps scope) (hd:A.handled=none) (e0:Env0 P w K mg base A outer s H) (hl:vs.length=ps.length) (r:Vals vs us)
 (x:InCallC s s.heap.objs.size (bindL (envOfC qual scope s.heap.objs.size f cd).kindOf (ps.zip us) fun _=>none) (cellsFrom (s.heap.objs.size+1) scope.names []) (bindC (envOfC qual scope s.heap.objs.size f cd).kindOf (ps.zip us) fun _=>none) s1):
 Inv (cxOf CX P w K mg base N qual scope f cd A outer s H E) [] (start N vs) H s1:=by
 have hpl:ps.length≤N.length:=by have:=congrArg List.length S.pre;rw[List.length_take]at this;omega
 obtain ⟨h1,tk,rfl,hk⟩:=x.done;have noA:∀b:Addr,b∉(cxOf CX P w K mg base N qual scope f cd A outer s H E).ex:=fun b z=>absurd (show b∈([]:List Addr)from z) (by simp)
 refine ⟨⟨e0.mod,S.kind,rfl,rfl,Nat.le_refl _,fun y z c h1 h2=>?_,fun y hy=>?_,fun y c _ h=>?_,fun _=>hd,Around.frames_deeper e0.frames,.inr ⟨rfl,rfl⟩,fun b z=>absurd z (noA b),e0.bs,e0.bsz,fun b _ _=>noA b,fun b z=>absurd z (noA b),e0.funs,e0.frf⟩,
  rfl,e0.bare,Un.kept hk,⟨_,x.toInCall.ns,fun i y v h1 h2 h3=>?_⟩,fun y c h=>⟨_,x.cell y c h⟩,e0.hok.fresh (Nat.le_refl _),fun y c h=>?_,fun p hp=>absurd (show p∈([]:List (Addr×Obj))from hp) (by simp),e0.hok.kept hk,?_⟩
 ·exact name_of_addr x.apart (PySem.mem_of_lookup h1) (PySem.mem_of_lookup h2)
 ·have hy:scope.names.lookup y=some .cell∨scope.names.lookup y=some .free:=hy;rcases hy with hy |hy
  ·exact m0j hy
  ·exact absurd rfl (S.nofree _ (PySem.mem_of_lookup hy))
 ·exact Nat.le_of_lt (x.above y c (PySem.mem_of_lookup h))
 ·have hi:i<vs.length:=by
   unfold start at h2;by_cases hi:i<vs.length
   ·exact hi
   ·rw[List.getElem?_append_right (by simpa using hi)]at h2;rw[List.getElem?_replicate]at h2;split at h2<;>cases h2
  have ha:vs[i]?=some v:=by
   unfold start at h2;rw[List.getElem?_append_left (by simpa using hi),List.getElem?_map]at h2;cases e:vs[i]? with
   |none=>rw[e]at h2;cases h2
   |some a=>rw[e]at h2;cases h2;rfl
  obtain ⟨u,hu,rv⟩:=r.get ha;have hp:ps[i]?=some y:=by
   rw[←S.pre,List.getElem?_take_of_lt (by omega)];exact h1
  have ndP:ps.Nodup:=by rw[←S.pre];exact S.nd.sublist (List.take_sublist _ _)
  refine ⟨u,rv,?_⟩;rcases S.par y (List.mem_of_getElem? hp)with k |k
  ·exact .inl ⟨k,q0m ndP hp hu k⟩
  ·obtain ⟨c,e⟩:=m0j (n:=s.heap.objs.size+1) k;refine .inr ⟨.inl k,c,e,?_⟩;have q:=x.cell y c e;rw[q0l ndP hp hu (by show scope.names.lookup y≠_;rw[k];decide)]at q;exact q
 ·exact e0.hok.fresh (Nat.le_of_lt (x.above y c (PySem.mem_of_lookup h)))
 ·unfold start;show _=N.length;rw[List.length_append,List.length_map,List.length_replicate];omega
theorem b0s{CX:CXT}{P:Program}{w:World}{K:PySem.W.Frag}{mg:Str→Option Value}{base:Heap}{k:Nat}{f:Addr}{name qual:Str}{params:Arguments}{body:List Stmt}{scope:Scope}{dV kV doc pm cdv ct oc:Value}{an od:Option Addr}
 {osl:Array (Option Value)} {N ps:List Str} {sp:Sp} (lk:K.lookup f=some ⟨oc,od,.func (PySem.W.fnOf name qual params body scope dV kV doc pm an cdv ct),osl⟩) (hcd:PySem.W.codeIn K cdv qual=true) (S:FnScope N ps scope)
 (len:∀vs H Q E,sp vs H Q E→vs.length=ps.length)
 (hbody:∀(A:Around) (outer:List Env) (s:Shared) (H:Hp) (vs:List V) (Q:VK) (E:XK),Room k (A.deeper (envOfC qual scope s.heap.objs.size f cdv))→sp vs H Q E→
  ∃t,PSs (cxOf CX P w K mg base N qual scope f cdv A outer s H E) body t∧t {nx:=fun _ H'=>Q .non H',rt:=Q} (start N vs) H):
 FnOk P w K mg base CX (k+1) f (PySem.W.fnOf name qual params body scope dV kV doc pm an cdv ct) ps sp:=by
 refine ⟨len,fun A outer s H args us vs Q E hr e0 hb r hsp=>?_⟩;have hl:=len _ _ _ _ hsp;have KX:K.In s.heap:=e0.mod.kin.keeps fun b o e=>(e0.bs b o e).1
 have lim:s.heap.NoLimit:=e0.mod.nolimit.keeps fun b o e=>(e0.bs b o e).1
 have hkind:∀y∈ps.zip us,scope.names.lookup y.1=some .local∨(scope.names.lookup y.1=some .cell∧((cellsFrom (s.heap.objs.size+1) scope.names []).lookup y.1).isSome=true):=fun ⟨n,v⟩ hy=>by
  rcases S.par n (List.of_mem_zip hy).1 with q |q
  ·exact .inl q
  ·exact .inr ⟨q,PySem.W.cellsFrom_some _ _ _ (.inl q)⟩
 refine codeAny_call_function hr.depth (KX _ _ lk) rfl S.co S.gen rfl (PySem.W.codeRec_of KX hcd) (hb _ _ _ _ ?_);refine wpAny_newFunctionEnv_cells S.kind hkind fun env he s1 x=>?_
 subst he;refine ⟨lim.keeps x.toInCall.keep,codeAny_func ?_⟩;obtain ⟨t,ht,hq⟩:=hbody A outer s H vs Q E (hr.deeper _) hsp;have I:Inv (cxOf CX P w K mg base N qual scope f cdv A outer s H E) [] (start N vs) H s1:=q0k S hr.hd e0 hl r x;refine wpAny_mono (ht [] s1 (start N vs) H _ I hq) (fun fl s' hs=>?_) fun e s' hs=>hs
 have fin:∀{σ':St} {H':Hp} {v:V} {u:Value},Inv (cxOf CX P w K mg base N qual scope f cdv A outer s H E) [] σ' H' s'→RelV v u→Q v H'→CE outer P w H s Q u s':=
  fun {σ' H' v u} J rv q=>⟨v,H',J.os,J.bare,J.base,J.hok,rv,q⟩
 cases fl with
 |ret u=>
  obtain ⟨v,σ',H',J,rv,q⟩:=hs;exact fin J rv q
 |next=>
  obtain ⟨σ',H',J,q⟩:=hs;exact fin (v:=V.non) (u:=Value.none) J rfl q
 |brk=>
  obtain ⟨_,_,_,q⟩:=hs;exact False.elim q
 |cont=>
  obtain ⟨_,_,_,q⟩:=hs;exact False.elim q
end L2
namespace L2
open PySem PySem.Spec PyProof.Rows
section
variable{X:Cx}{x:Str}{p pos:Pos}{e:Expr}{es:List Expr}{t:TA}{id T:String}{r:List V→Hp→VK→Prop}
noncomputable def tCB(r:List V→Hp→VK→Prop)(t:TA):TE:=fun σ H Q=>t σ H fun vs H1=>r vs H1 Q
theorem m0i(hc:x0u X (.builtin id) r)(hg:Gl X x)(hm:X.mg x=none)(hv:bootBuiltins x=some (.builtin id))(ha:PA X (e::es) t)(hn:x≠"__name__":=by decide)(hdb:(x==("__debug__":Str))=false:=by decide)
 (he:starEach (e::es) X.env=(false,eval e X.env)::starEach es X.env:=by rfl) (hpl:(backTo pos (starEach es X.env)).any (·.1)=false:=by rfl):PE X (.Call (.Name x p) (e::es) [] pos) (tCB r t):=by
 intro pins s σ H Q I h;refine wpAny_Call_Name_kw (s0r I hg hm hv ?_ hn hdb);exact PyProof.Rows.callWith_builtin1 (thn (ha pos pins s σ H _ I h) fun us s1 ⟨vs,H1,I1,r1,q1⟩=>hc pins s1 σ H1 vs us Q I1 r1 q1) he hpl
theorem q0j(hc:x0u X (.type T) r)(hg:Gl X x)(hm:X.mg x=none)(hv:bootBuiltins x=some (.type T))(ha:PA X (e::es) t)(hn:x≠"__name__":=by decide)(hdb:(x==("__debug__":Str))=false:=by decide)
 (he:starEach (e::es) X.env=(false,eval e X.env)::starEach es X.env:=by rfl) (hpl:(backTo pos (starEach es X.env)).any (·.1)=false:=by rfl):PE X (.Call (.Name x p) (e::es) [] pos) (tCB r t):=by
 intro pins s σ H Q I h;refine wpAny_Call_Name_kw (s0r I hg hm hv ?_ hn hdb);exact PyProof.Rows.callWith_type1 (thn (ha pos pins s σ H _ I h) fun us s1 ⟨vs,H1,I1,r1,q1⟩=>hc pins s1 σ H1 vs us Q I1 r1 q1) he hpl
end
end L2
namespace HT
open PySem PyProof.Rows
section
open PySem.SeqAt
open PySem.AutoSeq1 (wpAny_loadPart')
open PySem.MeetsSeq PySem.MeetsSeq2 PySem.MeetsSeq3
end
section
variable{prog:Program}{w:World}{A:Around}{E:Value→Shared→Prop}{s:Shared}
theorem cat_tup{t b:Addr}{vs ws:List Value}{Q:Value→Shared→Prop}(ht:IsTup s.heap t vs.toArray)(hb:IsTup s.heap b ws.toArray)(hv:vs≠[])
 (h1:ws=[]→Q (.ref t) s) (h2:ws≠[]→Q (.ref s.heap.objs.size) {s with heap:=s.heap.push {cls:=.type "tuple",data:=.seq (vs++ws).toArray}})
 (hsz:vs.length+ws.length≤sizeLine):wpAny (model prog w) A (binaryOp .Add (.ref t) (.ref b)) Q E s:=by
 obtain ⟨⟨cls,dd,data,sl⟩,ho,hc,n,hd⟩:=id ht;obtain ⟨⟨cls2,dd2,data2,sl2⟩,ho2,hc2,n2,hd2⟩:=id hb;simp only at hc hd hc2 hd2;subst hc hd hc2 hd2;have e:vs.toArray++ws.toArray=(vs++ws).toArray:=by simp
 by_cases hw:ws=[]
 ·exact concat_meets ⟨_,ho,rfl⟩ ⟨_,ho2,rfl⟩ noFill_tuple_add seq_tuple_add PySem.F.slot_tuple_add PySem.F.entry_tuple_add (PySem.F.args_tuple_add_2 _ _)
   (tuple_addW1 t b vs.toArray ws.toArray n n2 dd dd2 sl sl2 (by simpa using hv) (by simp[hw])) ⟨ho,ho2,h1 hw⟩
 ·refine concat_meets ⟨_,ho,rfl⟩ ⟨_,ho2,rfl⟩ noFill_tuple_add seq_tuple_add PySem.F.slot_tuple_add PySem.F.entry_tuple_add (PySem.F.args_tuple_add_2 _ _)
   (tuple_addW2 t b vs.toArray ws.toArray n n2 dd dd2 sl sl2 (by simpa using hv) (by simpa using hw) (by rw[List.size_toArray,List.size_toArray];exact hsz)) ⟨ho,ho2,?_⟩
  rw[e];exact h2 hw
noncomputable def sIx(n d:Nat):Option Int→Nat
 |none=>d
 |some v=>if v<0 then (v+(n:Int)).toNat else min v.toNat n
theorem sIx_none(n d:Nat):sIx n d none=d:=rfl
theorem sIx_nat(n d k:Nat):sIx n d (some (k:Int))=min k n:=by
 show (if (k:Int)<0 then ((k:Int)+(n:Int)).toNat else min (k:Int).toNat n)=min k n;rw[if_neg (by omega),Int.toNat_natCast]
theorem sIx_le(n d:Nat)(hd:d≤n)(o:Option Int):sIx n d o≤n:=by
 cases o with
 |none=>exact hd
 |some v=>
  show (if v<0 then (v+(n:Int)).toNat else min v.toNat n)≤n;by_cases hv:v<0
  ·rw[if_pos hv];omega
  ·rw[if_neg hv];exact Nat.min_le_right _ _
theorem j0j(v:Int)(n d:Nat):(if v<0 then max (v+(n:Int)) 0 else min v (n:Int))=((sIx n d (some v):Nat):Int):=by
 show (if v<0 then max (v+(n:Int)) 0 else min v (n:Int))=(((if v<0 then (v+(n:Int)).toNat else min v.toNat n):Nat):Int);by_cases hv:v<0
 ·simp only[if_pos hv];omega
 ·simp only[if_neg hv];omega
theorem k0t(lo hi:Option Int)(n:Nat):Builtin.Slice.sliceAdjust lo hi 1 (n:Int)=(((sIx n 0 lo:Nat):Int),((sIx n n hi:Nat):Int)):=by
 have h1:¬((1:Int)<0):=by omega
 unfold Builtin.Slice.sliceAdjust;simp only[h1,if_false];refine Prod.ext ?_ ?_
 ·cases lo with
  |none=>rfl
  |some v=>exact j0j v n 0
 ·cases hi with
  |none=>rfl
  |some v=>exact j0j v n n
theorem k0s(i j:Nat):Builtin.Slice.slicePlaces (i:Int) (j:Int) 1=j-i:=by
 unfold Builtin.Slice.slicePlaces;have h1:(1:Int)>0:=by omega
 simp only[h1,if_true,Int.ediv_one];split<;>omega
theorem s0m{v:Value}{o:Option Int}{Q:Option Int→Shared→Prop}(p:IsPart v o)(h:Q o s):wpAny (model prog w) A (Builtin.Slice.slicePartIndex v) Q E s:=by
 cases p with
 |none=>exact slicePart_none h
 |int i t=>exact slicePart_int h
theorem v0f{sl:Addr}{vl vu:Value}{lo hi:Option Int}{n:Nat}{Q:Int×Int×Nat→Shared→Prop}(hs:s.heap.IsSliceOf sl vl vu .none)(pl:IsPart vl lo)(pu:IsPart vu hi)
 (h:Q (((sIx n 0 lo:Nat):Int),1,sIx n n hi-sIx n 0 lo) s):wpAny (model prog w) A (Builtin.Slice.sliceApplied (.ref sl) (pure (n:Int))) Q E s:=by
 obtain ⟨os,hos,hcs,hds⟩:=id hs;unfold Builtin.Slice.sliceApplied Builtin.Slice.sliceFields;refine wpAny_bind (wpAny_bind (wpAny_field hos hds (x:=vl) rfl (wpAny_bind (wpAny_field hos hds (x:=vu) rfl (wpAny_bind (wpAny_field hos hds (x:=.none) rfl (wpAny_pure ?_)))))));refine wpAny_bind (slicePart_none ?_);show wpAny _ _ (if ((1:Int)==0)=true then _ else _) _ _ s;rw[if_neg (by decide)];refine wpAny_bind (s0m pl (wpAny_bind (s0m pu (wpAny_bind (wpAny_pure ?_)))));show wpAny _ _ (match Builtin.Slice.sliceAdjust lo hi 1 (n:Int)with |(lo,hi)=>pure (lo,(1:Int),Builtin.Slice.slicePlaces lo hi 1)) _ _ s;rw[k0t lo hi n];show wpAny _ _ (pure (((sIx n 0 lo:Nat):Int),(1:Int),Builtin.Slice.slicePlaces ((sIx n 0 lo:Nat):Int) ((sIx n n hi:Nat):Int) 1)) _ _ s;rw[k0s];exact wpAny_pure h
theorem f0w(xs:Array Value)(i k:Nat):((List.range k).filterMap fun (m:Nat)=>xs[((i:Int)+(m:Int)*1).toNat]?).toArray=((xs.toList.drop i).take k).toArray:=by
 have e:(fun (m:Nat)=>xs[((i:Int)+(m:Int)*1).toNat]?)=fun m=>xs[i+m]?:=by
  funext m;have:((i:Int)+(m:Int)*1).toNat=i+m:=by omega
  rw[this]
 rw[e];have:=pick_run xs i k;rw[List.filterMap_map]at this;have e2:((fun x=>xs[x]?)∘fun x=>i+x)=fun m=>xs[i+m]?:=rfl
 rw[e2]at this;rw[this]
theorem getItem_tuple_cut{t sl:Addr}{items:Array Value}{vl vu:Value}{lo hi:Option Int}{Q:Value→Shared→Prop}(ht:IsTup s.heap t items)(hs:s.heap.IsSliceOf sl vl vu .none)(pl:IsPart vl lo)(pu:IsPart vu hi)
 (hw:¬(sIx items.size 0 lo=0∧sIx items.size items.size hi=items.size))
 (h:Q (.ref s.heap.objs.size) {s with heap:=s.heap.push {cls:=.type "tuple",data:=.seq ((items.toList.drop (sIx items.size 0 lo)).take (sIx items.size items.size hi-sIx items.size 0 lo)).toArray}})
 (hsz:items.size≤sizeLine):wpAny (model prog w) A (getItem (.ref t) (.ref sl)) Q E s:=by
 have htake:sizeOk (.seq ((items.toList.drop (sIx items.size 0 lo)).take (sIx items.size items.size hi-sIx items.size 0 lo)).toArray):=by
  show ((items.toList.drop (sIx items.size 0 lo)).take (sIx items.size items.size hi-sIx items.size 0 lo)).toArray.size≤sizeLine;rw[List.size_toArray,List.length_take,List.length_drop,Array.length_toList];omega
 have hj:sIx items.size items.size hi≤items.size:=sIx_le _ _ (Nat.le_refl _) hi;obtain ⟨os,hos,hcs,hds⟩:=id hs;have hTs:s.TypeIs (.ref sl) "slice":=⟨os,hos,hcs⟩;unfold getItem
 try with_reducible refine wpAny_holding ?_
 first |refine wpAny_bind (wpAny_pure ?_)|skip
 refine wpAny_bind (wpAny_sequenceKey ht.typeIs (by decide) ?_);refine wpAny_bind (wpAny_callSpecial?_slot (name:=Str.ofString "__getitem__") ht.typeIs PyProof.Rows.slot_tuple_getitem
  (wpAny_call_entry PyProof.Rows.slot_tuple_getitem ht.typeIs entry_tuple_getitem ?_ (args_tuple_getitem _ _)))
 show wpAny _ _ (Builtin.Tuple.tupleItemsOf (.ref t) >>= _) _ _ s;refine wpAny_bind (tupleItemsOf_ ht ?_);refine wpAny_bind (wpAny_typeOf hTs ?_);rw[if_pos (by decide)];refine wpAny_bind (v0f hs pl pu ?_);have hno:¬((((sIx items.size 0 lo:Nat):Int)==0&&(1:Int)==1&&(sIx items.size items.size hi-sIx items.size 0 lo)==items.size)=true):=by
  intro q;rw[Bool.and_eq_true,Bool.and_eq_true]at q;have q1:((sIx items.size 0 lo:Nat):Int)=0:=eq_of_beq q.1.1;have q2:sIx items.size items.size hi-sIx items.size 0 lo=items.size:=eq_of_beq q.2;exact hw ⟨by omega,by omega⟩
 show wpAny _ _ (if (((sIx items.size 0 lo:Nat):Int)==0&&(1:Int)==1&&(sIx items.size items.size hi-sIx items.size 0 lo)==items.size)=true then _ else _) _ _ s;rw[if_neg hno,f0w]
 first
  |exact wpAny_bind (m:=Builtin.Tuple.tupleExact _) (wpAny_newObj_type (wpAny_pure ⟨_,rfl,wpAny_pure h⟩) htake)
  |exact wpAny_bind (m:=Builtin.Tuple.tupleExact _) (wpAny_newObj_type (wpAny_bind (wpAny_pure (wpAny_pure ⟨_,rfl,wpAny_pure h⟩))) htake)
  |exact wpAny_bind (wpAny_bind (m:=Builtin.Tuple.tupleExact _) (wpAny_newObj_type (wpAny_pure (wpAny_pure ⟨_,rfl,wpAny_pure h⟩)) htake))
  |exact wpAny_bind (wpAny_bind (m:=Builtin.Tuple.tupleExact _) (wpAny_newObj_type (wpAny_pure ⟨_,rfl,wpAny_pure h⟩) htake))
end
end HT
namespace L2
open PySem PySem.Spec PyProof.Rows
noncomputable abbrev TO:=St→Hp→(Option Int→Hp→Prop)→Prop
noncomputable def PO(X:Cx)(e:Option Expr)(t:TO):Prop:=
 ∀(pins:List (Addr×Obj)) (s:Shared) (σ:St) (H:Hp) (Q:Option Int→Hp→Prop),Inv X pins σ H s→t σ H Q→
  wpAny (model X.prog X.w) X.A (evalPart e X.env) (fun u s'=>∃o H',Inv X pins σ H' s'∧IsPart u o∧Q o H') X.xe s
noncomputable def b0r:TO:=fun _ H Q=>Q none H
noncomputable def tPart(t:TE):TO:=fun σ H Q=>t σ H fun x H1=>∃i,x=.int i∧Q (some i) H1
section
variable{X:Cx}{e:Expr}{te:TE}{lo hi:Option Expr}{tl th:TO}{pos p2:Pos}
theorem b0q:PO X none b0r:=by
 intro pins s σ H Q I h;rw[evalPart_none];exact wpAny_pure ⟨none,H,I,.none,h⟩
theorem b0p(h:PE X e te):PO X (some e) (tPart te):=by
 intro pins s σ H Q I hw;rw[evalPart_some];refine thn (h pins s σ H _ I hw) fun u s1 ⟨x,H1,I1,r1,q1⟩=>?_
 obtain ⟨i,rfl,q⟩:=q1;obtain ⟨t,rfl⟩:=r1;exact ⟨some i,H1,I1,.int i t,q⟩
noncomputable def SlR(X:Cx)(r:V→Option Int→Option Int→Hp→VK→Prop):Prop:=
 ∀(pins:List (Addr×Obj)) (s:Shared) (σ:St) (H:Hp) (x:V) (v vl vu:Value) (lo hi:Option Int) (sl:Addr) (Q:VK),Inv X pins σ H s→RelV x v→s.heap.IsSliceOf sl vl vu .none→IsPart vl lo→IsPart vu hi→r x lo hi H Q→
  ∃T id,typeLookup (.type T) "__getitem__"=pure (some (.builtin id))∧s.TypeIs v T∧wpAny (model X.prog X.w) X.A (getItem v (.ref sl)) (EP X pins σ Q) X.xe s
theorem SlR.or{r r':V→Option Int→Option Int→Hp→VK→Prop}(h:SlR X r)(h':SlR X r'):SlR X (fun x lo hi H Q=>r x lo hi H Q∨r' x lo hi H Q):=by
 intro pins s σ H x v vl vu lo hi sl Q I rx hs pl pu q;rcases q with q |q
 ·exact h pins s σ H x v vl vu lo hi sl Q I rx hs pl pu q
 ·exact h' pins s σ H x v vl vu lo hi sl Q I rx hs pl pu q
noncomputable def tSl(r:V→Option Int→Option Int→Hp→VK→Prop)(te:TE)(tl th:TO):TE:=fun σ H Q=>te σ H fun x H1=>tl σ H1 fun l H2=>th σ H2 fun u H3=>r x l u H3 Q
theorem r0x{r:V→Option Int→Option Int→Hp→VK→Prop}(hr:SlR X r)(he:PE X e te)(hl:PO X lo tl)(hu:PO X hi th):PE X (.Subscript e (.Slice lo hi none p2) pos) (tSl r te tl th):=by
 intro pins s σ H Q I h;refine Subscript_ (thn (he pins s σ H _ I h) fun v s1 ⟨x,H1,I1,r1,q1⟩=>?_);refine wpAny_Slice (thn (hl pins s1 σ H1 _ I1 q1) fun vl s2 ⟨l,H2,I2,pl,q2⟩=>thn (hu pins s2 σ H2 _ I2 q2) fun vu s3 ⟨u,H3,I3,pu,q3⟩=>?_);rw[evalPart_none];refine wpAny_pure ?_;have I4:Inv X pins σ H3 {s3 with heap:=s3.heap.push {cls:=.type "slice",data:=.fields #[vl,vu,.none]}}:=I3.kept (t':=s3.toks) fun b ob q=>Heap.get?_push_of_some _ q
 obtain ⟨T,id,hT,ht,hg⟩:=hr pins {s3 with heap:=s3.heap.push {cls:=.type "slice",data:=.fields #[vl,vu,.none]}} σ H3 x v vl vu l u s3.heap.objs.size Q I4 r1 (Heap.IsSliceOf.new ..) pl pu q3;show wpAny (model X.prog X.w) X.A (subscriptTail e (.Slice lo hi none p2) v (.ref s3.heap.objs.size)) (EP X pins σ Q) X.xe {s3 with heap:=s3.heap.push {cls:=.type "slice",data:=.fields #[vl,vu,.none]}};exact tail_any (ops:=[.ref s3.heap.objs.size,v]) ht hT hg (by with_unfolding_all rfl)
noncomputable def cutV(xs:List V)(lo hi:Option Int):List V:=(xs.drop (HT.sIx xs.length 0 lo)).take (HT.sIx xs.length xs.length hi-HT.sIx xs.length 0 lo)
theorem u0k(xs:List V)(lo hi:Option Int):(cutV xs lo hi).length≤xs.length:=by
 unfold cutV;rw[List.length_take,List.length_drop];omega
noncomputable def rSlT(K:PySem.W.Frag):V→Option Int→Option Int→Hp→VK→Prop:=fun x lo hi H Q=>∃a xs,x=.ref a∧SqT K H a xs∧
 ¬(HT.sIx xs.length 0 lo=0∧HT.sIx xs.length xs.length hi=xs.length)∧∀p,H p=none→Q (.ref p) (upd H p (.tup (cutV xs lo hi)))
theorem sl_tup:SlR X (rSlT X.K):=by
 intro pins s σ H x v vl vu lo hi sl Q I rx hs pl pu h;obtain ⟨a,xs,rfl,hx,hw,q⟩:=h;cases rx;obtain ⟨its,r,ht,hz⟩:=I.tuple hx;have hlen:its.toArray.size=xs.length:=by rw[List.size_toArray];exact r.length.symm
 refine ⟨"tuple",_,PyProof.Rows.slot_tuple_getitem.lookup,ht.typeIs,?_⟩;refine HT.getItem_tuple_cut ht hs pl pu (by rw[hlen];exact hw) ?_ (by rw[hlen];exact hz);rw[hlen];refine ⟨.ref s.heap.objs.size,_,I.laid (t':=s.toks) (o:=.tup (cutV xs lo hi)) (fun b ob q=>Heap.get?_push_of_some _ q) (Nat.le_refl _) ?_,rfl,q _ (I.hok.fresh (Nat.le_refl _))⟩;exact ⟨Nat.le_trans (u0k xs lo hi) hz,_,(r.drop (HT.sIx xs.length 0 lo)).take (HT.sIx xs.length xs.length hi-HT.sIx xs.length 0 lo),TupD.new _ _⟩
noncomputable def rCatT(K:PySem.W.Frag):R2:=fun x y H Q=>∃a b xs ys,x=.ref a∧y=.ref b∧SqT K H a xs∧SqT K H b ys∧xs≠[]∧xs.length+ys.length≤sizeLine∧
 (ys=[]→Q (.ref a) H)∧(ys≠[]→∀p,H p=none→Q (.ref p) (upd H p (.tup (xs++ys))))
theorem Vals.nil_iff{xs:List V}{us:List Value}(r:Vals xs us):us=[]↔xs=[]:=by
 cases r with
 |nil=>simp
 |cons _ _=>simp
theorem b0o:OpR X (binaryOp .Add) (rCatT X.K):=by
 intro pins s σ H x y v u Q I rx ry h;obtain ⟨a,b,xs,ys,rfl,rfl,ha,hb,hx,hz,q1,q2⟩:=h;cases rx;cases ry;obtain ⟨its,r1,p1,_⟩:=I.tuple ha;obtain ⟨its2,r2,p2,_⟩:=I.tuple hb;refine HT.cat_tup p1 p2 (fun z=>hx (r1.nil_iff.mp z)) (fun z=>⟨.ref a,H,I,rfl,q1 (r2.nil_iff.mp z)⟩) (fun z=>?_) (by rw[←r1.length,← r2.length];exact hz);refine ⟨.ref s.heap.objs.size,_,I.laid (t':=s.toks) (o:=.tup (xs++ys)) (fun b ob q=>Heap.get?_push_of_some _ q) (Nat.le_refl _) ?_,rfl,q2 (fun w=>z (r2.nil_iff.mpr w)) _ (I.hok.fresh (Nat.le_refl _))⟩;exact ⟨by rw[List.length_append];exact hz,_,r1.append r2,TupD.new _ _⟩
end
end L2
namespace L2
open PySem PySem.Spec PyProof.Rows
noncomputable def ixN(n:Nat)(i:Int):Option Nat:=if 0≤i then (if i<n then some i.toNat else none)else if -(n:Int)≤i then some (i+n).toNat else none
noncomputable def atI{α:Type}(xs:List α)(i:Int):Option α:=(ixN xs.length i).bind fun j=>xs[j]?
theorem j0i{n:Nat}{i:Int}{j:Nat}(h:ixN n i=some j):seqIndex? i n=some j∧j<n∧-(n:Int)≤i∧i<n:=by
 unfold ixN at h;by_cases h0:0≤i
 ·rw[if_pos h0]at h;by_cases h1:i<n
  ·rw[if_pos h1]at h;have e:i.toNat=j:=Option.some.inj h;exact ⟨by rw[seqIndex_of h0 h1,e],by omega,by omega,h1⟩
  ·rw[if_neg h1]at h;cases h
 ·rw[if_neg h0]at h;by_cases h1:-(n:Int)≤i
  ·rw[if_pos h1]at h;have e:(i+n).toNat=j:=Option.some.inj h;exact ⟨by rw[seqIndex_neg (by omega) h1,e],by omega,h1,by omega⟩
  ·rw[if_neg h1]at h;cases h
theorem o0g{α:Type}{xs:List α}{i:Int}{v:α}(h:atI xs i=some v):∃j,seqIndex? i xs.length=some j∧xs[j]?=some v∧j<xs.length∧-(xs.length:Int)≤i∧i<xs.length:=by
 unfold atI at h;cases e:ixN xs.length i with
 |none=>rw[e]at h;cases h
 |some j=>
  rw[e]at h;obtain ⟨h1,h2,h3,h4⟩:=j0i e;exact ⟨j,h1,h,h2,h3,h4⟩
theorem o0f{α:Type}{xs:List α}{j:Nat}{v:α}(h:xs[j]?=some v):atI xs (j:Int)=some v:=by
 have hj:j<xs.length:=(List.getElem?_eq_some_iff.mp h).1;have e:ixN xs.length (j:Int)=some j:=by
  unfold ixN;rw[if_pos (by omega),if_pos (by omega)];simp
 unfold atI;rw[e];exact h
noncomputable def o0e(b:Expr):Prop:=∀o i,subscripted b false o i=operate [o,i] (getItem o i)
noncomputable def IxR(X:Cx)(r:R2):Prop:=
 ∀(value slice:Expr) (pins:List (Addr×Obj)) (s:Shared) (σ:St) (H:Hp) (x y:V) (v u:Value) (Q:VK),Inv X pins σ H s→RelV x v→RelV y u→r x y H Q→
  subscripted slice false v u=operate [v,u] (getItem v u)→wpAny (model X.prog X.w) X.A (subscriptTail value slice v u) (EP X pins σ Q) X.xe s
noncomputable def MtR(X:Cx)(id:String)(r:V→List V→Hp→VK→Prop):Prop:=
 ∀(pins:List (Addr×Obj)) (s:Shared) (σ:St) (H:Hp) (x:V) (xs:List V) (v:Value) (us:List Value) (Q:VK),Inv X pins σ H s→RelV x v→Vals xs us→r x xs H Q→
  wpAny (model X.prog X.w) X.A (call (.builtin id) (v::us)) (EP X pins σ Q) X.xe s
section
variable{X:Cx}{a b:Expr}{ta tb:TE}{pos:Pos}
theorem IxR.or{r r':R2}(h:IxR X r)(h':IxR X r'):IxR X (fun x y H Q=>r x y H Q∨r' x y H Q):=by
 intro value slice pins s σ H x y v u Q I rx ry q hs;rcases q with q |q
 ·exact h value slice pins s σ H x y v u Q I rx ry q hs
 ·exact h' value slice pins s σ H x y v u Q I rx ry q hs
theorem pe_ix{r:R2}(hr:IxR X r)(ha:PE X a ta)(hb:PE X b tb)(hs:o0e b):PE X (.Subscript a b pos) (tOp r ta tb):=by
 intro pins s σ H Q I h;exact Subscript_ (binT ha hb I h fun v u s2 x y H2 I2 rx ry q=>hr a b pins s2 σ H2 x y v u Q I2 rx ry q (hs _ _))
noncomputable def rIxL(K:PySem.W.Frag):R2:=fun x y H Q=>∃p xs i v,x=.ref p∧y=.int i∧SqL K H p xs∧atI xs i=some v∧Q v H
noncomputable def rIxT(K:PySem.W.Frag):R2:=fun x y H Q=>∃p xs i v,x=.ref p∧y=.int i∧SqT K H p xs∧atI xs i=some v∧Q v H
noncomputable def rIxS:R2:=fun x y H Q=>∃z i c,x=.str z∧y=.int i∧z.length≤sizeLine∧atI z.cps.toList i=some c∧Q (.str ⟨#[c]⟩) H
theorem ix_list:IxR X (rIxL X.K):=by
 intro value slice pins s σ H x y v u Q I rx ry h hs;obtain ⟨p,xs,i,z,rfl,rfl,hq,he,q⟩:=h;cases rx;obtain ⟨t,rfl⟩:=ry;obtain ⟨its,r,pl,hz⟩:=I.list hq;obtain ⟨j,h1,h2,h3,h4,h5⟩:=o0g he;obtain ⟨w,ew,rw'⟩:=r.get h2;have hl:=r.length;have hn:=s0p;have fin:EP X pins σ Q w s:=⟨z,H,I,rw',q⟩;by_cases h0:0≤i
 ·have hj:i.toNat=j:=by
   rw[seqIndex_of h0 h5]at h1;exact Option.some.inj h1
  exact item_listR pl.isList h0 (by omega) (by rw[hj];simpa using ew) fin hs
 ·have hj:(i+(its.toArray.size:Int)).toNat=j:=by
   rw[seqIndex_neg (by omega) h4]at h1;rw[List.size_toArray,← hl];exact Option.some.inj h1
  exact subscriptTail_builtinR (x:=w) pl.isList.typeIs slot_list_getitem.lookup
   (wpAny_getItem_list_neg (Q:=fun r s'=>r=w∧EP X pins σ Q r s') pl.isList (by omega) (by rw[List.size_toArray]<;>omega) (by omega) (by rw[hj];simpa using ew) ⟨rfl,fin⟩) hs
theorem ix_tup:IxR X (rIxT X.K):=by
 intro value slice pins s σ H x y v u Q I rx ry h hs;obtain ⟨p,xs,i,z,rfl,rfl,hq,he,q⟩:=h;cases rx;obtain ⟨t,rfl⟩:=ry;obtain ⟨its,r,pl,hz⟩:=I.tuple hq;obtain ⟨j,h1,h2,h3,h4,h5⟩:=o0g he;obtain ⟨w,ew,rw'⟩:=r.get h2;have hl:=r.length;have hn:=s0p;have fin:EP X pins σ Q w s:=⟨z,H,I,rw',q⟩;exact subscriptTail_builtinR (x:=w) pl.typeIs slot_tuple_getitem.lookup
  (getItem_tuple (j:=j) (Q:=fun r s'=>r=w∧EP X pins σ Q r s') pl (by omega) (by omega) (by rw[List.size_toArray,← hl];exact h1) (by simpa using ew) ⟨rfl,fin⟩) hs
theorem j0h:IxR X rIxS:=by
 intro value slice pins s σ H x y v u Q I rx ry h hs;obtain ⟨z,i,c,rfl,rfl,hz,he,q⟩:=h;obtain ⟨t,rfl⟩:=rx;obtain ⟨t',rfl⟩:=ry;obtain ⟨j,h1,h2,h3,h4,h5⟩:=o0g he;have hl:z.cps.toList.length=z.length:=by simp[Str.length]
 rw[hl]at h1 h4 h5;have hn:=s0p;exact tail_any (typeIs_str s z t) slot_str_getitem.lookup (getItem_str (c:=c) (by
  have e1:decide (i< -(2^63:Int))=false:=decide_eq_false (by omega);have e2:decide (i≥2^63)=false:=decide_eq_false (by omega);rw[e1,e2,Bool.or_false]) (by rw[h1];simpa using h2) ⟨.str ⟨#[c]⟩,H,I.tok _,⟨_,rfl⟩,q⟩) hs
noncomputable def rIx(K:PySem.W.Frag):R2:=fun x y H Q=>rIxL K x y H Q∨rIxT K x y H Q∨rIxS x y H Q
theorem m0h:IxR X (rIx X.K):=ix_list.or (ix_tup.or j0h)
theorem k0r(its:List Value)(n j:Nat)(u:Value):Obj.mapSeq (·.setIfInBounds j u) {cls:=.type "list",data:=.seq its.toArray n}={cls:=.type "list",data:=.seq (its.set j u).toArray n}:=by
 simp[Obj.mapSeq]
theorem Inv.lst{pins:List (Addr×Obj)}{σ:St}{H:Hp}{s:Shared}{p:Addr}{xs:List V}(I:Inv X pins σ H s)(h:H p=some (.lst xs)):
 ∃(its:List Value) (n:Nat),Vals xs its∧s.heap.get? p=some {cls:=.type "list",data:=.seq its.toArray n}∧xs.length≤sizeLine:=by
 obtain ⟨z,its,n,r,e⟩:=I.hok p _ h;exact ⟨its,n,r,e,z⟩
theorem Inv.lstUpd{pins:List (Addr×Obj)}{σ:St}{H:Hp}{s:Shared}{p:Addr}{xs ys:List V}{its its':List Value}{n n':Nat}{f:Obj→Obj}(I:Inv X pins σ H s)(h:H p=some (.lst xs))
 (ho:s.heap.get? p=some {cls:=.type "list",data:=.seq its.toArray n}) (hf:f {cls:=.type "list",data:=.seq its.toArray n}={cls:=.type "list",data:=.seq its'.toArray n'}) (r:Vals ys its') (hz:ys.length≤sizeLine) (t:Nat):
 Inv X pins σ (upd H p (.lst ys)) {s with heap:=s.heap.update p f,toks:=t}:=by
 have e:(s.heap.update p f).get? p=some {cls:=.type "list",data:=.seq its'.toArray n'}:=by
  rw[Heap.get?_update_self f ho (by rw[hf]<;>rfl),hf]
 refine I.write (x:=p) (e:=p) (by rw[h];trivial) (.inl rfl) (fun b u hb q=>(Heap.get?_update_other _ _ (Ne.symm hb)).trans q) ⟨_,e⟩ ?_;exact ⟨hz,its',n',r,e⟩
noncomputable def rSetL:V→V→V→Hp→(Hp→Prop)→Prop:=fun o i v H Q=>∃p xs k j,o=.ref p∧i=.int k∧H p=some (.lst xs)∧ixN xs.length k=some j∧Q (upd H p (.lst (xs.set j v)))
theorem f0v:PSet X rSetL:=by
 intro pins s σ H o i v ov iv u Q I ro ri rv h;obtain ⟨p,xs,k,j,rfl,rfl,hp,hj,q⟩:=h;cases ro;obtain ⟨t,rfl⟩:=ri;obtain ⟨its,n,r,ho,hz⟩:=I.lst hp;obtain ⟨h1,h2,h3,h4⟩:=j0i hj;have hl:=r.length;have hn:=s0p;have I':Inv X pins σ (upd H p (.lst (xs.set j v))) {s with heap:=s.heap.update p (Obj.mapSeq (·.setIfInBounds j u))}:=
  I.lstUpd hp ho (k0r its n j u) (r.set rv j) (by rw[List.length_set];exact hz) s.toks
 by_cases h0:0≤k
 ·have hk:k.toNat=j:=by
   rw[seqIndex_of h0 h4]at h1;exact Option.some.inj h1
  exact PySem.W.ki_setAt ho h0 (by omega) (by rw[List.size_toArray,← hl];exact h4) (by rw[hk];exact ⟨_,I',q⟩)
 ·have hk:(k+(its.toArray.size:Int)).toNat=j:=by
   rw[seqIndex_neg (by omega) h3]at h1;rw[List.size_toArray,← hl];exact Option.some.inj h1
  exact PySem.W.ki_setBack ho (by omega) (by rw[List.size_toArray,← hl];exact h3) (by omega) (by rw[hk];exact ⟨_,I',q⟩)
theorem v0s(lo hi:Option Int)(n:Nat):(sliceBounds lo hi none n).1=((HT.sIx n 0 lo:Nat):Int)∧(sliceBounds lo hi none n).2.1=((HT.sIx n n hi:Nat):Int)∧(sliceBounds lo hi none n).2.2=1:=by
 refine ⟨?_,?_,rfl⟩
 ·cases lo with
  |none=>simp[sliceBounds,HT.sIx]
  |some i=>
   simp only[sliceBounds,HT.sIx,Option.getD_none,show (1:Int)>0 by decide,if_true];by_cases h:i<0
   ·simp only[h,if_true]<;>omega
   ·simp only[h,if_false]<;>omega
 ·cases hi with
  |none=>simp[sliceBounds,HT.sIx]
  |some i=>
   simp only[sliceBounds,HT.sIx,Option.getD_none,show (1:Int)>0 by decide,if_true];by_cases h:i<0
   ·simp only[h,if_true]<;>omega
   ·simp only[h,if_false]<;>omega
theorem r0w(its:List Value)(lo hi:Option Int):slicePick its.toArray lo hi none=((its.drop (HT.sIx its.length 0 lo)).take (HT.sIx its.length its.length hi-HT.sIx its.length 0 lo)).toArray:=by
 obtain ⟨h1,h2,h3⟩:=v0s lo hi its.toArray.size;unfold slicePick;rw[h1,h2,h3];simp only[sliceRange_one,pick_run,List.size_toArray]<;>rfl
noncomputable def rSlL(K:PySem.W.Frag):V→Option Int→Option Int→Hp→VK→Prop:=fun x lo hi H Q=>∃a xs,x=.ref a∧SqL K H a xs∧∀p,H p=none→Q (.ref p) (upd H p (.lst (cutV xs lo hi)))
theorem j0g:SlR X (rSlL X.K):=by
 intro pins s σ H x v vl vu lo hi sl Q I rx hs pl pu h;obtain ⟨a,xs,rfl,hx,q⟩:=h;cases rx;obtain ⟨its,r,ht,hz⟩:=I.list hx;have hlen:=r.length;refine ⟨"list",_,slot_list_getitem.lookup,ht.isList.typeIs,?_⟩;refine wpAny_getItem_list_slice ht.isList hs pl pu .none (by simp) ?_ (by rw[List.size_toArray]<;>omega);rw[r0w,← hlen];refine ⟨.ref s.heap.objs.size,_,I.laid (t':=s.toks) (o:=.lst (cutV xs lo hi)) (fun b ob q=>Heap.get?_push_of_some _ q) (Nat.le_refl _) ?_,rfl,q _ (I.hok.fresh (Nat.le_refl _))⟩;exact ⟨Nat.le_trans (u0k xs lo hi) hz,_,0,(r.drop (HT.sIx xs.length 0 lo)).take (HT.sIx xs.length xs.length hi-HT.sIx xs.length 0 lo),Heap.get?_push_size _ rfl⟩
noncomputable def y0t:V→Bool
 | .non=>true
 | .bl _=>true
 | .int _=>true
 | .str _=>true
 |_=>false
noncomputable def eqV:V→V→Bool
 | .non,.non=>true
 | .bl a,.bl b=>a==b
 | .bl a,.int b=>(if a then 1 else 0)==b
 | .int a,.bl b=>a==(if b then 1 else 0)
 | .int a,.int b=>a==b
 | .str a,.str b=>a==b
 |_,_=>false
theorem d0c{A:Around}{s:Shared}{y x:V}{u v:Value}(ry:RelV y u)(rx:RelV x v)(fy:y0t y=true)(fx:y0t x=true):SeqAt.EqAt A s u v (eqV y x):=by
 cases y with
 |non=>
  cases ry;cases x with
  |non=>cases rx;exact SeqAt.EqAt.same _
  |bl b=>cases rx;exact SeqAt.EqAt.none_bool b
  |int b=>obtain ⟨t,rfl⟩:=rx;exact SeqAt.EqAt.none_int b t
  |str b=>obtain ⟨t,rfl⟩:=rx;exact SeqAt.EqAt.none_str b t
  |_=>exact absurd (show false=true from fx) Bool.false_ne_true
 |bl a=>
  cases ry;cases x with
  |non=>cases rx;exact SeqAt.EqAt.bool_none a
  |bl b=>cases rx;exact SeqAt.EqAt.bool_bool a b
  |int b=>obtain ⟨t,rfl⟩:=rx;exact SeqAt.EqAt.bool_int a b t
  |str b=>obtain ⟨t,rfl⟩:=rx;exact SeqAt.EqAt.bool_str a b t
  |_=>exact absurd (show false=true from fx) Bool.false_ne_true
 |int a=>
  obtain ⟨t',rfl⟩:=ry;cases x with
  |non=>cases rx;exact SeqAt.EqAt.int_none a t'
  |bl b=>cases rx;exact SeqAt.EqAt.int_bool a t' b
  |int b=>obtain ⟨t,rfl⟩:=rx;exact SeqAt.EqAt.int_int a t' b t
  |str b=>obtain ⟨t,rfl⟩:=rx;exact SeqAt.EqAt.int_str a t' b t
  |_=>exact absurd (show false=true from fx) Bool.false_ne_true
 |str a=>
  obtain ⟨t',rfl⟩:=ry;cases x with
  |non=>cases rx;exact SeqAt.EqAt.str_none a t'
  |bl b=>cases rx;exact SeqAt.EqAt.str_bool a t' b
  |int b=>obtain ⟨t,rfl⟩:=rx;exact SeqAt.EqAt.str_int a t' b t
  |str b=>obtain ⟨t,rfl⟩:=rx;exact SeqAt.EqAt.str_str a t' b t
  |_=>exact absurd (show false=true from fx) Bool.false_ne_true
 |_=>exact absurd (show false=true from fy) Bool.false_ne_true
noncomputable def eqU(x:V)(u:Value):Bool:=match u with
 | .none=>eqV .non x
 | .bool b=>eqV (.bl b) x
 | .int i _=>eqV (.int i) x
 | .str z _=>eqV (.str z) x
 |_=>false
theorem d0b{x y:V}{u:Value}(r:RelV y u)(f:y0t y=true):eqU x u=eqV y x:=by
 cases y with
 |non=>cases r;rfl
 |bl b=>cases r;rfl
 |int i=>obtain ⟨t,rfl⟩:=r;rfl
 |str z=>obtain ⟨t,rfl⟩:=r;rfl
 |_=>exact absurd (show false=true from f) Bool.false_ne_true
theorem o0d{x:V}:∀{xs:List V} {us:List Value},Vals xs us→xs.all y0t=true→us.any (eqU x)=xs.any fun y=>eqV y x
 |_,_,.nil,_=>rfl
 |y::xs,u::us,.cons r t,f=>by
  rw[List.all_cons,Bool.and_eq_true]at f;rw[List.any_cons,List.any_cons,d0b r f.1,o0d t f.2]
theorem r0v{A:Around}{s:Shared}{x:V}{v:Value}(rx:RelV x v)(fx:y0t x=true):∀{xs:List V} {us:List Value},Vals xs us→xs.all y0t=true→∀u∈us,SeqAt.EqAt A s u v (eqU x u)
 |_,_,.nil,_=>fun u hu=>by cases hu
 |y::xs,u::us,.cons r t,f=>fun u' hu=>by
  rw[List.all_cons,Bool.and_eq_true]at f;rcases List.mem_cons.mp hu with rfl |hu
  ·rw[d0b r f.1];exact d0c r rx f.1 fx
  ·exact r0v rx fx t f.2 u' hu
noncomputable def inV(x:V)(xs:List V):Bool:=xs.any fun y=>eqV y x
noncomputable def rIn(K:PySem.W.Frag)(neg:Bool):R2:=fun x y H Q=>∃p xs,y=.ref p∧(SqL K H p xs∨SqT K H p xs)∧y0t x=true∧xs.all y0t=true∧Q (.bl (if neg then !inV x xs else inV x xs)) H
theorem q0i:OpR X (compareOp .In) (rIn X.K false):=by
 intro pins s σ H x y v u Q I rx ry h;obtain ⟨p,xs,rfl,hq,fx,fs,q⟩:=h;cases ry;rcases hq with hq |hq
 ·obtain ⟨its,r,pl,hz⟩:=I.list hq;refine SeqAt.in_listAt (eqU x) pl.isList (fun w hw=>r0v rx fx r fs w (by simpa using hw)) ⟨.bl _,H,I,rfl,?_⟩;rw[show its.toArray.any (eqU x)=its.any (eqU x)by simp,o0d r fs];exact q
 ·obtain ⟨its,r,pl,hz⟩:=I.tuple hq;refine SeqAt.in_tupleAt (eqU x) pl (fun w hw=>r0v rx fx r fs w (by simpa using hw)) ⟨.bl _,H,I,rfl,?_⟩;rw[show its.toArray.any (eqU x)=its.any (eqU x)by simp,o0d r fs];exact q
theorem q0h:OpR X (compareOp .NotIn) (fun x y H Q=>∃i j,x=.str i∧y=.str j∧Q (.bl (!(!(Builtin.Str.occurrences j i 0 j.length 1).isEmpty))) H):=by
 intro pins s σ H x y v u Q I rx ry h;obtain ⟨i,j,rfl,rfl,q⟩:=h;obtain ⟨t,rfl⟩:=rx;obtain ⟨t',rfl⟩:=ry;exact notIn_str ⟨.bl _,H,I,rfl,q⟩
theorem f9:x0u X (.builtin "len") (fun xs H Q=>∃p ys,xs=[.ref p]∧(SqL X.K H p ys∨SqT X.K H p ys)∧Q (.int ys.length) H):=by
 intro pins s σ H xs us Q I r h;obtain ⟨p,ys,rfl,hq,q⟩:=h;obtain ⟨u,rfl,rx⟩:=r0y r;cases rx;have hn:=s0p;rcases hq with hq |hq
 ·obtain ⟨its,r',pl,hz⟩:=I.list hq;have hlen:=r'.length;exact Calls.call_len_list pl.isList (by simp only[List.size_toArray]<;>omega) ⟨.int ys.length,H,I.tok _,⟨s.toks+1,by rw[List.size_toArray,hlen]⟩,q⟩
 ·obtain ⟨its,r',pl,hz⟩:=I.tuple hq;have hlen:=r'.length;exact len_tuple pl (by simp only[List.size_toArray]<;>omega) ⟨.int ys.length,H,I.tok _,⟨s.toks+1,by rw[List.size_toArray,hlen]⟩,q⟩
theorem w8:x0u X (.builtin "len") (fun xs H Q=>∃z,xs=[.str z]∧z.length≤sizeLine∧Q (.int z.length) H):=by
 intro pins s σ H xs us Q I r h;obtain ⟨z,rfl,hz,q⟩:=h;obtain ⟨u,rfl,t,rfl⟩:=r0y r;have hn:=s0p;exact len_str (by omega) ⟨.int z.length,H,I.tok _,⟨_,rfl⟩,q⟩
theorem q0g:x0u X (.type "list") (fun xs H Q=>∃p ys,xs=[.ref p]∧(SqL X.K H p ys∨SqT X.K H p ys)∧∀l,H l=none→Q (.ref l) (upd H l (.lst ys))):=by
 intro pins s σ H xs us Q I r h;obtain ⟨p,ys,rfl,hq,q⟩:=h;obtain ⟨u,rfl,rx⟩:=r0y r;cases rx;have fin:∀(its:List Value),Vals ys its→ys.length≤sizeLine→∀(h':Heap) (c':Nat),(∀b o',s.heap.get? b=some o'→h'.get? b=some o')→
  h'.get? s.heap.objs.size=some {cls:=.type "list",dict:=none,data:=.seq its.toArray c',slots:=#[]}→EP X pins σ Q (.ref s.heap.objs.size) {s with heap:=h'}:=fun its r' hz h' c' kp e=>
  ⟨.ref s.heap.objs.size,_,I.laid (t':=s.toks) kp (Nat.le_refl _) (show ObjOk X.prog X.w _ h' _ (.lst ys)from ⟨hz,its,c',r',e⟩),rfl,q _ (I.hok.fresh (Nat.le_refl _))⟩
 rcases hq with hq |hq
 ·obtain ⟨its,r',pl,hz⟩:=I.list hq;have hlen:=r'.length;obtain ⟨o,ho,hc,n,hd⟩:=pl.isList;exact call_list_seq p (.inl rfl) ho hc hd (fun h' c' kp e=>fin its r' hz h' c' kp e) (by simp only[List.size_toArray]<;>omega)
 ·obtain ⟨its,r',pl,hz⟩:=I.tuple hq;have hlen:=r'.length;obtain ⟨o,ho,hc,n,hd⟩:=pl;exact call_list_seq p (.inr rfl) ho hc hd (fun h' c' kp e=>fin its r' hz h' c' kp e) (by simp only[List.size_toArray]<;>omega)
theorem f8:x0u X (.type "tuple") (fun xs H Q=>∃p ys,xs=[.ref p]∧((SqL X.K H p ys∧∀l,H l=none→Q (.ref l) (upd H l (.tup ys)))∨(SqT X.K H p ys∧Q (.ref p) H))):=by
 intro pins s σ H xs us Q I r h;obtain ⟨p,ys,rfl,h⟩:=h;obtain ⟨u,rfl,rx⟩:=r0y r;cases rx;rcases h with ⟨hq,q⟩|⟨hq,q⟩
 ·obtain ⟨its,r',pl,hz⟩:=I.list hq;have hlen:=r'.length;refine call_tuple_list pl.isList (fun h' kp=>?_) (by simp only[List.size_toArray]<;>omega);have I1:Inv X pins σ H {s with heap:=h'}:=I.kept (t':=s.toks) kp;have I2:Inv X pins σ (upd H h'.objs.size (.tup ys)) {s with heap:=h'.push {cls:=.type "tuple",data:=.seq its.toArray}}:=
   I1.laid (t':=s.toks) (fun b o e=>Heap.get?_push_of_some _ e) (Nat.le_refl _) (show ObjOk X.prog X.w _ _ _ (.tup ys)from ⟨hz,its,r',TupD.new _ _⟩)
  exact ⟨.ref h'.objs.size,_,I2,rfl,q _ (I1.hok.fresh (Nat.le_refl _))⟩
 ·obtain ⟨its,r',pl,hz⟩:=I.tuple hq;exact call_tuple_same pl ⟨.ref p,H,I,rfl,q⟩
noncomputable def tyV(K:PySem.W.Frag)(T:String)(x:V)(H:Hp):Prop:=match x with
 | .str _=>T="str"
 | .int _=>T="int"
 | .ref p=>(T="list"∧∃xs,SqL K H p xs)∨(T="tuple"∧∃o,K.lookup p=some o∧o.cls=.type "tuple"∧o.dict=none)∨
  (T="dict"∧((∃kvs,H p=some (.dK kvs))∨∃kvs,H p=some (.dT kvs)))∨(T="set"∧∃S n,H p=some (.set S n))∨(T="tuple"∧∃xs,H p=some (.tup xs))
 |_=>False
theorem tyV_is{pins:List (Addr×Obj)}{σ:St}{H:Hp}{s:Shared}{T:String}{x:V}{v:Value}(I:Inv X pins σ H s)(r:RelV x v)(ty:tyV X.K T x H):
 s.TypeIs v T∧∀a,v=.ref a→∃ob,s.heap.get? a=some ob∧ob.dict=none:=by
 cases x with
 |str z=>
  obtain ⟨t,rfl⟩:=r;cases (show T="str" from ty);exact ⟨typeIs_str s z t,fun _ e=>nomatch e⟩
 |int i=>
  obtain ⟨t,rfl⟩:=r;cases (show T="int" from ty);exact ⟨typeIs_int s i t,fun _ e=>nomatch e⟩
 |ref p=>
  cases r;rcases ty with ⟨rfl,xs,hq⟩|⟨rfl,o,hk,hc,hd⟩|⟨rfl,hk⟩|⟨rfl,S,n,hk⟩|⟨rfl,xs,hk⟩
  ·obtain ⟨its,_,pl,_⟩:=I.list hq;refine ⟨pl.isList.typeIs,fun a e=>?_⟩;cases e;obtain ⟨o,n,e,c,hd,_⟩:=pl;exact ⟨o,e,hd⟩
  ·refine ⟨⟨o,I.kIn p o hk,hc⟩,fun a e=>?_⟩;cases e;exact ⟨o,I.kIn _ o hk,hd⟩
  ·have z:∃o,s.heap.get? p=some o∧o.ExactDict:=by
    rcases hk with ⟨kvs,hk⟩|⟨kvs,hk⟩
    ·obtain ⟨_,_,_,_,o,_,_,e,ex,_⟩:=I.hok p _ hk;exact ⟨o,e,ex⟩
    ·obtain ⟨_,_,_,_,o,_,_,e,ex,_⟩:=I.hok p _ hk;exact ⟨o,e,ex⟩
   obtain ⟨o,e,ex⟩:=z;refine ⟨⟨o,e,ex.1⟩,fun a e2=>?_⟩;cases e2;exact ⟨o,e,ex.2.1⟩
  ·obtain ⟨o,_,_,_,e,ex,_⟩:=I.hok p _ hk;refine ⟨⟨o,e,ex.1⟩,fun a e2=>?_⟩;cases e2;exact ⟨o,e,ex.2.1⟩
  ·obtain ⟨_,its,_,o,e,c,_,hd⟩:=I.hok p _ hk;refine ⟨⟨o,e,c⟩,fun a e2=>?_⟩;cases e2;exact ⟨o,e,hd⟩
 |_=>exact False.elim ty
noncomputable def tBM(K:PySem.W.Frag)(T:String)(r:V→List V→Hp→VK→Prop)(to:TE)(t:TA):TE:=fun σ H Q=>to σ H fun x H1=>tyV K T x H1∧t σ H1 fun xs H2=>r x xs H2 Q
variable{o e:Expr}{es:List Expr}{to:TE}{t:TA}{name:Str}{apos cpos:Pos}{T id:String}{r:V→List V→Hp→VK→Prop}
theorem pe_bm(pa:PlainAttrs T)(slot:Slot T name id)(hty:typeOf (.builtin id)=pure (.type "method_descriptor"))(hm:MtR X id r)(ho:PE X o to)(ha:PA X (e::es) t)
 (hbase:attributeBase o name X.env (eval o X.env)=eval o X.env:=by rfl)
 (hfew:((backTo cpos (starEach (e::es) X.env)).all (fun x=>!x.1)&&(backToKw cpos (keywordEach [] X.env)).all (fun x=>x.1.isSome)
  &&decide ((e::es).length+([]:List Keyword).length+(if ([]:List Keyword).isEmpty then 0 else 1)<30))=true:=by rfl)
 (hline:(apos.endLine==cpos.line)=true:=by rfl) (hs:starEach (e::es) X.env=(false,eval e X.env)::starEach es X.env:=by rfl) (hplain:(backTo cpos (starEach es X.env)).any (·.1)=false:=by rfl):
 PE X (.Call (.Attribute o name apos) (e::es) [] cpos) (tBM X.K T r to t):=by
 intro pins s σ H Q I h;refine wpAny_Call_method_late hbase hfew hline rfl (thn (ho pins s σ H _ I h) fun v s1 ⟨x,H1,I1,r1,ty,q1⟩=>?_);obtain ⟨h1,h2⟩:=tyV_is I1 r1 ty;refine ⟨T,id,pa,slot,hty,h1,h2,?_⟩;have hA:=ha cpos pins s1 σ H1 _ I1 q1;rw[hs]at hA ⊢;refine Calls.callWith_builtin (by show (false||(backTo cpos (starEach es X.env)).any (·.1))=false;rw[hplain]<;>rfl) (Calls.evalArgs_plain ?_);exact thn hA fun us s2 ⟨vs,H2,I2,r2,q2⟩=>hm pins s2 σ H2 x vs v us Q I2 r1 r2 q2
end
end L2
namespace L2
open PySem PySem.Spec PyProof.Rows
theorem Vals.one:∀{x:V} {us:List Value},Vals [x] us→∃u,us=[u]∧RelV x u
 |_,_,.cons r .nil=>⟨_,rfl,r⟩
theorem Vals.two:∀{x y:V} {us:List Value},Vals [x,y] us→∃u v,us=[u,v]∧RelV x u∧RelV y v
 |_,_,_,.cons r (.cons q .nil)=>⟨_,_,rfl,r,q⟩
theorem Vals.rep{xs:List V}{us:List Value}(h:Vals xs us):∀k:Nat,Vals (List.replicate k xs).flatten (List.replicate k us).flatten
 | 0=>.nil
 |k+1=>by
  rw[List.replicate_succ,List.replicate_succ,List.flatten_cons,List.flatten_cons];exact Vals.append h (Vals.rep h k)
theorem q0f(its:List Value):∀(k:Nat) (acc:List Value),
 List.foldl (fun x1 x2=>x1++x2) acc.toArray (List.replicate k its.toArray)=(acc++(List.replicate k its).flatten).toArray
 | 0,acc=>by simp
 |k+1,acc=>by
  have e:acc.toArray++its.toArray=(acc++its).toArray:=by simp
  have e2:(acc++its)++(List.replicate k its).flatten=acc++(List.replicate (k+1) its).flatten:=by
   rw[List.replicate_succ,List.flatten_cons,List.append_assoc]
  rw[←e2,← q0f its k (acc++its),← e,List.replicate_succ,List.foldl_cons]
section
variable{X:Cx}{pins:List (Addr×Obj)}{σ:St}{H:Hp}{s:Shared}{l b:Addr}{xs ys zs:List V}
theorem Inv.lset{its its':List Value}{n:Nat}{f:Array Value→Array Value}{t':Nat}(I:Inv X pins σ H s)(hH:H l=some (.lst xs))
 (e:s.heap.get? l=some {cls:=.type "list",data:=.seq its.toArray n}) (hf:f its.toArray=its'.toArray) (hv:Vals ys its') (hz:ys.length≤sizeLine):
 Inv X pins σ (upd H l (.lst ys)) {s with heap:=s.heap.update l (Obj.mapSeq f),toks:=t'}:=by
 have q:=PySem.IsL.update e f;rw[hf]at q;refine I.write (x:=l) (e:=l) (by rw[hH];exact trivial) (.inl rfl) (fun b' u hb hu=>(Heap.get?_update_other s.heap (Obj.mapSeq f) (Ne.symm hb)).trans hu) ⟨_,q⟩ ?_;exact ⟨hz,its',_,hv,q⟩
theorem Inv.lnew{its:List Value}{t':Nat}(I:Inv X pins σ H s)(hv:Vals ys its)(hz:ys.length≤sizeLine):
 Inv X pins σ (upd H s.heap.objs.size (.lst ys)) {s with heap:=s.heap.push {cls:=.type "list",data:=.seq its.toArray},toks:=t'}:=
 I.laid (fun _ _ q=>Heap.get?_push_of_some _ q) (Nat.le_refl _) ⟨hz,its,0,hv,Heap.get?_push_size _ rfl⟩
theorem Inv.fresh(I:Inv X pins σ H s):H s.heap.objs.size=none:=I.hok.fresh (Nat.le_refl _)
theorem Inv.lstM(I:Inv X pins σ H s)(hH:H l=some (.lst xs)):xs.length≤sizeLine∧∃(its:List Value) (n:Nat),Vals xs its∧xs.length=its.length∧s.heap.get? l=some {cls:=.type "list",data:=.seq its.toArray n}:=by
 obtain ⟨z,its,n,r,e⟩:=I.hok l _ hH;exact ⟨z,its,n,r,r.length,e⟩
theorem f0u{n:Nat}(h:n≤sizeLine):Builtin.List.listTooLong n=false:=by
 unfold Builtin.List.listTooLong;exact decide_eq_false (by omega)
end
section
variable{X:Cx}
noncomputable def rCat:R2:=fun x y H Q=>∃l b xs zs,x=.ref l∧y=.ref b∧H l=some (.lst xs)∧H b=some (.lst zs)∧xs.length+zs.length≤sizeLine∧∀p,H p=none→Q (.ref p) (upd H p (.lst (xs++zs)))
theorem d0a:OpR X (binaryOp .Add) rCat:=by
 intro pins s σ H x y v u Q I rx ry h;obtain ⟨l,b,xs,zs,rfl,rfl,hH,hB,hz,q⟩:=h;cases rx;cases ry;obtain ⟨z,its,n,r,hl,e⟩:=I.lstM hH;obtain ⟨z2,its2,n2,r2,hl2,e2⟩:=I.lstM hB;refine PySem.P.add_list e e2 ?_ (by rw[List.size_toArray,List.size_toArray];omega);have ea:its.toArray++its2.toArray=(its++its2).toArray:=by simp
 rw[ea];exact ⟨.ref _,_,I.lnew (t':=s.toks) (r.append r2) (by rw[List.length_append];omega),rfl,q _ I.fresh⟩
noncomputable def rRep:R2:=fun x y H Q=>∃l k xs,x=.ref l∧y=.int k∧H l=some (.lst xs)∧-(2^63)≤k∧k<2^63∧xs.length*k.toNat≤sizeLine∧
 ∀p,H p=none→Q (.ref p) (upd H p (.lst (List.replicate k.toNat xs).flatten))
theorem b0n{α:Type}(xs:List α)(k:Nat):(List.replicate k xs).flatten.length=k*xs.length:=by
 induction k with
 |zero=>simp
 |succ k ih=>rw[List.replicate_succ,List.flatten_cons,List.length_append,ih,Nat.succ_mul,Nat.add_comm]
theorem op_rep:OpR X (binaryOp .Mult) rRep:=by
 intro pins s σ H x y v u Q I rx ry h;obtain ⟨l,k,xs,rfl,rfl,hH,h1,h2,hz,q⟩:=h;cases rx;obtain ⟨t,rfl⟩:=ry;obtain ⟨z,its,n,r,hl,e⟩:=I.lstM hH;have hlen:its.toArray.size*k.toNat≤sizeLine:=by rw[List.size_toArray,← hl];exact hz
 have hcap:¬its.toArray.size*k.toNat>(2^63-1)/8:=by
  have:(sizeLine:Nat)≤(2^63-1)/8:=by decide
  omega
 have hfit:¬(!Builtin.List.listFitsIndex k)=true:=by
  rw[fitsIndex_both h1 h2];exact Bool.false_ne_true
 have hlong:¬Builtin.List.listTooLong (its.toArray.size*k.toNat)=true:=by
  rw[f0u hlen];exact Bool.false_ne_true
 have hnew:List.foldl (fun x1 x2=>x1++x2) #[] (List.replicate (if its.toArray.isEmpty=true then 0 else k.toNat) its.toArray)=(List.replicate k.toNat its).flatten.toArray:=by
  have f0:∀m:Nat,List.foldl (fun x1 x2=>x1++x2) #[] (List.replicate m its.toArray)=(List.replicate m its).flatten.toArray:=fun m=>by
   have:=q0f its m [];rw[List.nil_append]at this;exact this
  rw[f0];cases its with
  |nil=>simp
  |cons a r'=>rw[if_neg (by simp)]
 refine wpAny_binaryOp_repeat_ref (T:="list") (U:="int") (by decide) ⟨_,e,rfl⟩ (fun s'=>typeIs_int s' k t) noFill_list_mul F.fills_int_mul F.slot_int_rmul repeat_list F.slot_int_index.lookup
  (call_meets F.slot_int_rmul (typeIs_int s k t) F.entry_int_rmul (F.args_int_rmul_2 _ _) (int___rmul___int_list k t l its.toArray n)
   ⟨e,rfl,⟨_,e,rfl⟩,call_meets F.slot_list_mul ⟨_,e,rfl⟩ F.entry_list_mul (F.args_list_mul_2 _ _) (AutoListH.list___mul___list_int_3 l its.toArray n k t hfit hcap hlong) ⟨e,?_⟩⟩)
 rw[hnew];exact ⟨.ref _,_,I.lnew (t':=s.toks) (r.rep k.toNat) (by rw[b0n,Nat.mul_comm];exact hz),rfl,q _ I.fresh⟩
end
section
variable{prog:Program}{w:World}{A:Around}{E:Value→Shared→Prop}{s:Shared}
set_option maxRecDepth 100000 in
end
section
variable{X:Cx}
end
end L2
namespace Att
open PySem PySem.W PySem.Calls PyProof.Rows
theorem u0j{P:Params}{h:Heap}:∀(ns:List Int) (vs:List Value),WellAll P h vs (ns.map WData.int)→IntsAre vs ns:=by
 intro ns
 induction ns with
 |nil=>
  intro vs w;rw[List.map_nil]at w;cases w;exact .nil
 |cons n ns ih=>
  intro vs w;rw[List.map_cons]at w;cases w with
  |cons a b=>
   cases a;exact .cons _ _ (ih _ b)
theorem j0f{l:OpenLaw}{n:Nat}(hn:l.most=some n){P:Params}{h:Heap}{args:List WData}{vals:List Value}
 (hpre:l.row.toRowW.claim.pre args=true) (hwl:WellAll P h vals args):
 ∃a vs ns,vals=[Value.ref a]∧args=[WData.list (ns.map WData.int)]∧h.get? a=some {cls:=.type "list",data:=.seq vs.toArray}∧IntsAre vs ns∧ns.length≤n:=by
 have hsh:WShape.hasAll [] args [.list .int]=true:=(pre_splitW hpre).1;have hc:l.pre.holds [] {args:=args}=true:=(pre_splitW hpre).2;obtain ⟨d,r,rfl,h1,h2⟩:=hasAllW_cons hsh;obtain rfl:=hasAllW_nil h2;obtain ⟨xs,rfl,h3⟩:=hasW_list h1;obtain ⟨ns,rfl⟩:=items_int h3;have hlen:ns.length≤n:=by
  unfold OpenLaw.pre at hc;have h4:(WTm.not (.lt (.lit (.int (n:Int))) (.len (.arg 0)))).holds [] {args:=[.list (ns.map .int)]}=true:=by
   have h4:=(holds_andW hc).1;rw[hn]at h4;exact h4
  have h5:=condW_of h4 (w_not (w_lt w_lit (w_len_list (w_arg rfl))));rw[List.length_map]at h5;refine Nat.le_of_not_lt fun q=>?_
  have q':(n:Int)<((ns.length:Nat):Int):=by omega
  first
   |(rw[decide_eq_true q']at h5;exact absurd h5 (by decide))
   |(simp at h5;omega)
 cases hwl with
 |cons w1 w2=>
  cases w2;cases w1 with
  |list ho hall=>exact ⟨_,_,ns,rfl,rfl,ho,u0j ns _ hall,hlen⟩
theorem j0e(l:OpenLaw)(args:List WData):l.row.toRowW.claim.post args (.bool true) args=true:=
 postW_of (r:=l.row.toRowW) (X:=(true==true))
  (show WShape.has [] (.bool true) .bool=true by first |rfl |decide |simp[WShape.has,WShape.arms,WShape.armsAll])
  (show (WTm.eq .res (.lit (.bool true))).value [] {args:=args,res:=some (.bool true),after:=args}=some (.bool (true==true))from w_eq_bool (w_res rfl) w_lit) rfl
theorem attach_call{l:OpenLaw}{n:Nat}{q:Program}{loose:List Str}{XP:(Str→Option Value)→Heap→Prop}{YP:World→Heap→Prop}{d:DefRec}
 (hn:l.most=some n) (hdf:d.params.defaults=[])
 (call:∀(w:World) (s₀ s₁:Shared) (mg mb:Str→Option Value) (fa:Addr) (o:Obj) (pm cd doc:Value) (a:Addr) (vs:List Value) (ns:List Int),
  Ground q loose [] XP w s₀ mg mb s₁.heap→YP w s₁.heap→
  s₁.heap.get? fa=some o→o.data=.func (docDef d.name d.params d.body d.scope pm cd doc)→s₁.heap.CodeRec cd d.name→mg d.name=some (.ref fa)→
  s₁.heap.get? a=some {cls:=.type "list",data:=.seq vs.toArray}→IntsAre vs ns→ns.length≤n→s₁.gens=#[]→
  codeAny (model l.prog w) callerA (.call (.ref fa) ⟨[.ref a],[]⟩) (fun r s'=>r=.ok (.ret (.bool true))∧OldK s₁.heap s'.heap∧s'.os=s₁.os∧AllBare s'.gens) s₁):
 WalkO q loose XP YP l.row.toRowW d [] (fun f vs=>PySem.call f vs):=by
 intro w s₀ s₁ mg mb G Y fa o pm cd doc dV kV ho hd hcd hD hmg hg args vals as hpre hlay hrd hwl hlo;obtain rfl:dV=.none:=Dflts.none hD hdf;obtain rfl:kV=.none:=Dflts.noKw hD;obtain ⟨a,vs,ns,rfl,rfl,hobj,hints,hlen⟩:=j0f hn hpre hwl;refine enter_call (codeAny_mono (call w s₀ s₁ mg mb fa o pm cd doc a vs ns G Y ho (fd_plain hd) hcd hmg hobj hints hlen hg) fun r s' hq=>?_);obtain ⟨rfl,h2,h3,h4⟩:=hq;exact ⟨.inl ⟨.bool true,.bool true,[],rfl,fun _=>rfl,.bool true,j0e l _,fun _=>⟨List.Pairwise.nil,fun _ hm=>(nomatch hm)⟩⟩,h2,h3,h4⟩
section
variable{prog:Program}{w:World}{A:Around}{E:Value→Shared→Prop}{s:Shared}{K:Frag}
noncomputable def ledger(h:Heap)(L d:Addr):List (Addr×Obj):=(List.range h.objs.size).filterMap fun a=>if a=L∨a=d then none else (h.get? a).map fun o=>(a,o)
end
end Att
namespace L2
open PySem PySem.Spec PyProof.Rows
theorem q0e:∀{vs:List Value} {ns:List Int},IntsAre vs ns→Vals (ns.map V.int) vs
 |_,_,.nil=>.nil
 |_,_,.cons n t h=>.cons ⟨t,rfl⟩ (q0e h)
noncomputable def Only(H:Hp):Prop:=∀b,H b=none∨∃o xs,H b=some (.frz o (.lst xs))
theorem f0t{P:Program}{w:World}{K:PySem.W.Frag}{mg mb:Str→Option Value}{CX:CXT}{k:Nat}{fa a:Addr}{fd:FuncData}{x:Str}{sp:Sp}{s₁:Shared}{vs:List Value}{ns:List Int}
 (KX:K.In s₁.heap) (hns:s₁.heap.Ns mainGlobals mg) (hb:s₁.heap.Ns builtinsNs mb) (hbb:∀x:Str,x≠"__name__"→mb x=bootBuiltins x) (hlim:s₁.heap.NoLimit) (hg:s₁.gens=#[])
 (ha:s₁.heap.get? a=some {cls:=.type "list",data:=.seq vs.toArray}) (hi:IntsAre vs ns) (hl:ns.length≤sizeLine) (hr:Room k callerA)
 (F:∀base:Heap,K.In base→base.Ns mainGlobals mg→FnOk P w K mg base CX k fa fd [x] sp) (hbind:∀(s:Shared) (u:Value),BindsTo s fd ⟨[u],[]⟩ [(x,u)])
 (hsp:∀H:Hp,Only H→SqL K H a (ns.map V.int)→sp [.ref a] H (fun v _=>v=.bl true) fun _ _ _=>False)
 (hCX:∀H e s',CX [] H s₁ (fun _ _ _=>False) e s'→False):
 codeAny (model P w) callerA (.call (.ref fa) ⟨[.ref a],[]⟩) (fun r s'=>r=.ok (.ret (.bool true))∧OldK s₁.heap s'.heap∧s'.os=s₁.os∧AllBare s'.gens) s₁:=by
 have rv:=q0e hi;have lenV:=hi.length;have core:∀H:Hp,Only H→SqL K H a (ns.map V.int)→HOk P w H s₁.heap→(∀b,H b≠none→b=a)→(H a≠none→K.lookup a=none)→
  codeAny (model P w) callerA (.call (.ref fa) ⟨[.ref a],[]⟩) (fun r s'=>r=.ok (.ret (.bool true))∧OldK s₁.heap s'.heap∧s'.os=s₁.os∧AllBare s'.gens) s₁:=by
  intro H hO hS hok hA hK;have base_of:∀{b:Addr} {o:Obj},s₁.heap.get? b=some o→H b=none→(hidT s₁.heap H).get? b=some o:=fun e n=>g0f e n
  have noA:∀{b:Addr} {o:Obj} {es:Array DictEntry} {ep:Nat},s₁.heap.get? b=some o→o.data=.dict es ep→H b=none:=fun {b o es ep} e d=>by
   cases q:H b with
   |none=>rfl
   |some u=>
    have e':b=a:=hA b (by rw[q];simp);subst e';rw[ha]at e;cases e;have d':Data.seq vs.toArray _=Data.dict es ep:=d;cases d'
  have nsK:∀{b:Addr} {m:Str→Option Value},s₁.heap.Ns b m→(hidT s₁.heap H).Ns b m:=fun {b m} ⟨o,es,ep,e,d,r⟩=>⟨o,es,ep,base_of e (noA e d),d,r⟩
  have hKb:K.In (hidT s₁.heap H):=fun b o e=>base_of (KX b o e) (by
   cases q:H b with
   |none=>rfl
   |some u=>
    have e':b=a:=hA b (by rw[q];simp);subst e';rw[hK (by rw[q];simp)]at e;cases e)
  have hM:Mod K mg (hidT s₁.heap H):=⟨hKb,nsK hns,⟨mb,nsK hb,hbb⟩,let ⟨mc,h1,h2⟩:=hlim;⟨mc,nsK h1,h2⟩⟩;have e0:Env0 P w K mg (hidT s₁.heap H) callerA [] s₁ H:=⟨rfl,hM,fun b o e=>c0d e,Nat.le_of_eq (j0z _ _),trivial,fun b hb=>absurd (show b∈([]:List Addr)from hb) (by simp),hok,.of_eq hg⟩;refine codeAny_mono ((F _ hKb (nsK hns)).run callerA [] s₁ H ⟨[.ref a],[]⟩ [.ref a] [.ref a] _ _ hr e0 (hbind s₁ (.ref a)) (.cons rfl .nil) (hsp H hO hS)) fun r s' h=>?_
  cases r with
  |error e=>exact (hCX H e s' h).elim
  |ok fl=>
   cases fl with
   |next=>exact False.elim h
   |brk=>exact False.elim h
   |cont=>exact False.elim h
   |ret u=>
    obtain ⟨v,H',os,bare,un,hok',r',q⟩:=h;have q':v=.bl true:=q;subst q';obtain rfl:u=Value.bool true:=r';refine ⟨rfl,OldK.of_keep fun b o e=>?_,os,bare⟩;cases q:H b with
    |none=>exact un.keep b o e q (by intro z;exact absurd (show b∈([]:List Addr)from z) (by simp)) (by simp)
    |some u=>
     rcases hO b with z |⟨ob,xs,z⟩
     ·rw[q]at z;cases z
     ·have z2:=un.frzs b ob _ z;obtain ⟨e1,_⟩:=hok b _ z;obtain ⟨e2,_⟩:=hok' b _ z2;rw[e]at e1;cases e1;exact e2
 cases hk:K.lookup a with
 |some o=>
  have e:=KX a o hk;rw[ha]at e;cases e;refine core (fun _=>none) (fun _=>.inl rfl) (.inr ⟨_,vs.toArray,_,hk,rfl,rfl,rfl,by rw[List.size_toArray,lenV];exact hl,by simpa using rv⟩) (fun b u z=>by have z':(none:Option HO)=some u:=z;cases z') (fun b z=>absurd rfl z) fun z=>absurd rfl z
 |none=>
  refine core (fun b=>if b=a then some (.frz {cls:=.type "list",data:=.seq vs.toArray} (.lst (ns.map V.int)))else none) (fun b=>?_) (.inl (.inr ⟨{cls:=.type "list",data:=.seq vs.toArray},if_pos rfl⟩)) (fun b u z=>?_) (fun b z=>?_) fun _=>hk
  ·by_cases hb:b=a
   ·exact .inr ⟨_,_,if_pos hb⟩
   ·exact .inl (if_neg hb)
  ·by_cases hb:b=a
   ·have z':=(if_pos hb).symm.trans z;cases z';subst hb;exact ⟨ha,by rw[List.length_map];exact hl,vs,_,rv,ha⟩
   ·have z':=(if_neg hb).symm.trans z;cases z'
  ·by_cases hb:b=a
   ·exact hb
   ·exact absurd (if_neg hb) z
end L2
namespace L2
open PySem PySem.Spec PyProof.Rows
noncomputable abbrev KOf{K:PySem.W.Frag}{h:Heap}(_:K.In h):PySem.W.Frag:=K
theorem walk_of{l:PySem.W.OpenLaw}{n k:Nat}{q:Program}{loose:List Str}{XP:(Str→Option Value)→Heap→Prop}{YP:World→Heap→Prop}{d:DefRec}{K:Params→PySem.W.Frag}{CX:World→CXT}{sp:World→Sp}{x:Str}
 (hn:l.most=some n) (hn2:n≤sizeLine) (hdf:d.params.defaults=[]) (hr:Room k callerA)
 (hY:∀(w:World) (h:Heap),YP w h→(K w.params).In h)
 (F:∀(w:World) (mg:Str→Option Value) (fa:Addr) (h:Heap),(K w.params).In h→h.Ns mainGlobals mg→mg d.name=some (.ref fa)→
  ∃fd:FuncData,(∀(s:Shared) (u:Value),BindsTo s fd ⟨[u],[]⟩ [(x,u)])∧
   ∀base:Heap,(K w.params).In base→base.Ns mainGlobals mg→FnOk l.prog w (K w.params) mg base (CX w) k fa fd [x] (sp w))
 (hsp:∀(w:World) (H:Hp) (a:Addr) (ns:List Int),ns.length≤n→Only H→SqL (K w.params) H a (ns.map V.int)→sp w [.ref a] H (fun v _=>v=.bl true) fun _ _ _=>False)
 (hCX:∀(w:World) (H:Hp) (s:Shared) (e:Value) (s':Shared),CX w [] H s (fun _ _ _=>False) e s'→False):
 PySem.W.WalkO q loose XP YP l.row.toRowW d [] (fun f vs=>PySem.call f vs):=by
 refine Att.attach_call hn hdf fun w s₀ s₁ mg mb fa o pm cd doc a vs ns G Y ho hd hcd hmg hobj hints hlen hg=>?_
 have KX:=hY w _ Y;obtain ⟨fd,hb,hF⟩:=F w mg fa _ KX G.T.g hmg;exact f0t KX G.T.g G.T.b G.T.builtins G.T.nolimit hg hobj hints (Nat.le_trans hlen hn2) hr hF hb (fun H hO hS=>hsp w H a ns hlen hO hS) fun H e s'=>hCX w H s₁ e s'
end L2
namespace L2
open PySem PySem.Spec PyProof.Rows
noncomputable def inClass(s:Stmt)(j:Nat):Stmt:=match s with
 | .ClassDef _ _ _ body _ _ _ _ _ _ _=>body.getD j (.Pass ⟨0,0,0,0⟩)
 |_=>.Pass ⟨0,0,0,0⟩
noncomputable def defArgs(s:Stmt):Arguments:=match s with
 | .FunctionDef _ a _ _ _ _ _ _ _ _=>a
 |_=>{posonlyargs:=[],args:=[],vararg:=none,kwonlyargs:=[],kw_defaults:=[],kwarg:=none,defaults:=[]}
noncomputable def defBody(s:Stmt):List Stmt:=match s with
 | .FunctionDef _ _ b _ _ _ _ _ _ _=>b
 |_=>[]
noncomputable def defScope(s:Stmt):Scope:=match s with
 | .FunctionDef _ _ _ _ _ _ sc _ _ _=>sc
 |_=>{kind:=.function,names:=[],isGenerator:=false,isCoroutine:=false}
noncomputable abbrev CX0:CXT:=fun _ _ _ _ _ _=>False
noncomputable abbrev E0:XK:=fun _ _ _=>False
theorem pass0{X:Cx}:d0d CX0 X E0:=fun _ _ _ _ _ _ _ h=>h.elim
structure Fun(K:PySem.W.Frag)(x qual:Str)(st:Stmt)(f:Addr)(fd:FuncData):Prop where
 ex:∃(oc:Value) (od:Option Addr) (kV doc pm:Value) (an:Option Addr) (cdv ct:Value) (osl:Array (Option Value)),
  fd=PySem.W.fnOf x qual (defArgs st) (defBody st) (defScope st) .none kV doc pm an cdv ct∧K.lookup f=some ⟨oc,od,.func fd,osl⟩∧PySem.W.codeIn K cdv qual=true
 kp:PySem.W.keepIn K (.ref f)=true
section
variable{P:Program}{w:World}{K:PySem.W.Frag}{mg:Str→Option Value}{base:Heap}
theorem Fun.ok{x qual:Str}{st:Stmt}{f:Addr}{fd:FuncData}{N ps:List Str}{k:Nat}{sp:Sp}(F:Fun K x qual st f fd)(S:FnScope N ps (defScope st))(len:∀vs H Q E,sp vs H Q E→vs.length=ps.length)
 (hbody:∀(cdv:Value) (A:Around) (outer:List Env) (s:Shared) (H:Hp) (vs:List V) (Q:VK) (E:XK),Room k (A.deeper (envOfC qual (defScope st) s.heap.objs.size f cdv))→sp vs H Q E→
  ∃t,PSs (cxOf CX0 P w K mg base N qual (defScope st) f cdv A outer s H E).nox (defBody st) t∧t {nx:=fun _ H'=>Q .non H',rt:=Q} (start N vs) H):FnOk P w K mg base CX0 (k+1) f fd ps sp:=by
 obtain ⟨oc,od,kV,doc,pm,an,cdv,ct,osl,rfl,lk,hcd⟩:=F.ex;refine b0s lk hcd S len fun A outer s H vs Q E hr hsp=>?_
 obtain ⟨t,h,q⟩:=hbody cdv A outer s H vs Q E hr hsp;exact ⟨t,h.nox,q⟩
theorem Fun.binds{x qual:Str}{st:Stmt}{f:Addr}{fd:FuncData}{ps:List Str}(F:Fun K x qual st f fd)
 (h:∀(kV doc pm:Value) (an:Option Addr) (cdv ct:Value) (us:List Value),us.length=ps.length→bindArgs (PySem.W.fnOf x qual (defArgs st) (defBody st) (defScope st) .none kV doc pm an cdv ct) ⟨us,[]⟩=pure (ps.zip us)):Binds K fd ps []:=by
 obtain ⟨oc,od,kV,doc,pm,an,cdv,ct,osl,rfl,lk,hcd⟩:=F.ex;exact .all (h kV doc pm an cdv ct)
end
section
variable{X:Cx}
theorem pv(i:Nat){x:Str}{pos:Pos}(hN:X.N[i]?=some x:=by rfl)(hv:Vis X.env.scope x:=by walk_at "v3")(hd:(x==("__debug__":Str))=false:=by decide)
 (hcd:(x==("__classdict__":Str))=false:=by decide):PE X (.Name x pos) (tVar i):=s0s hN hv hd hcd
end
noncomputable def Same(H H':Hp):Prop:=∀b o,H b=some o→H' b=some o
theorem Same.refl(H:Hp):Same H H:=fun _ _ h=>h
theorem Same.trans{H H1 H2:Hp}(a:Same H H1)(b:Same H1 H2):Same H H2:=fun c o h=>b c o (a c o h)
theorem Same.free{H H':Hp}(e:Same H H'){l:Addr}(h:H' l=Option.none):H l=Option.none:=by
 cases q:H l with
 |none=>rfl
 |some o=>
  rw[e l o q]at h;cases h
end L2
set_option maxRecDepth 20000
namespace L2
open PySem PySem.Spec PyProof.Rows
section
variable{κ:Type}[DecidableEq κ]
end
section
variable{P:Program}{w:World}{H:Hp}{h:Heap}{a:Addr}
end
section
variable{X:Cx}{pins:List (Addr×Obj)}{σ:St}{H:Hp}{s:Shared}{a:Addr}{y v:V}{u r:Value}{o:Option V}{A:Around}{E:Value→Shared→Prop}
theorem Inv.big(I:Inv X pins σ H s):sysModules<s.heap.objs.size:=by
 have h:mainGlobals<s.heap.objs.size:=(I.mod.glob.keeps I.bk).lt;exact Nat.lt_trans (by decide) h
end
section
variable{X:Cx}{pins:List (Addr×Obj)}{σ:St}{H:Hp}{s:Shared}{a:Addr}{kvs:List (Key×V)}{k:Key}{u:Value}{A:Around}{E:Value→Shared→Prop}
end
section
variable{X:Cx}{o i e value:Expr}{pos pos' tpos:Pos}{td ty tv:TE}
end
theorem f0s{P:Program}{w:World}{H:Hp}(h:Heap)(hb:sysModules<h.objs.size):ObjOk P w H (h.push {cls:=.type "dict",data:=.dict #[]}) h.objs.size (.dK []):=
 ⟨Nat.zero_le _,beq_eq_false_iff_ne.mpr (Ne.symm (Nat.ne_of_lt hb)),[],.nil,Heap.DictOf.new h⟩
noncomputable def tDNewK:TE:=fun _ H Q=>∀p,H p=none→Q (.ref p) (upd H p (.dK []))
section
variable{X:Cx}{pos:Pos}
theorem f0r:PE X (.Dict [] [] pos) tDNewK:=fun pins s σ H Q I h=>
 wpAny_Dict_empty ⟨.ref s.heap.objs.size,_,I.laid (a:=s.heap.objs.size) (o:=.dK []) (t':=s.toks) (fun _ _ q=>Heap.get?_push_of_some _ q) (Nat.le_refl _) (f0s s.heap I.big),rfl,h _ (I.hok.fresh (Nat.le_refl _))⟩
end
structure M1(X:Cx)(o:Expr)(m:Str)(apos:Pos)(e:Expr)(cpos:Pos):Prop where
 base:attributeBase o m X.env (eval o X.env)=eval o X.env
 few:((backTo cpos (starEach [e] X.env)).all (fun x=>!x.1)&&(backToKw cpos (keywordEach [] X.env)).all (fun x=>x.1.isSome)
  &&decide (([e]:List Expr).length+([]:List Keyword).length+(if ([]:List Keyword).isEmpty then 0 else 1)<30))=true
 line:(apos.endLine==cpos.line)=true
 trees:backTo cpos (starEach [e] X.env)=[(false,eval e X.env)]
structure M2(X:Cx)(o:Expr)(m:Str)(apos:Pos)(e f:Expr)(cpos:Pos):Prop where
 base:attributeBase o m X.env (eval o X.env)=eval o X.env
 few:((backTo cpos (starEach [e,f] X.env)).all (fun x=>!x.1)&&(backToKw cpos (keywordEach [] X.env)).all (fun x=>x.1.isSome)
  &&decide (([e,f]:List Expr).length+([]:List Keyword).length+(if ([]:List Keyword).isEmpty then 0 else 1)<30))=true
 line:(apos.endLine==cpos.line)=true
 trees:backTo cpos (starEach [e,f] X.env)=[(false,eval e X.env),(false,eval f X.env)]
section
variable{X:Cx}{pins:List (Addr×Obj)}{σ:St}{H:Hp}{s:Shared}{a:Addr}{y d:V}{u r:Value}{o:Option V}{A:Around}{E:Value→Shared→Prop}
end
section
variable{X:Cx}{o e f:Expr}{apos cpos:Pos}{td ty tx:TE}
end
section
variable{X:Cx}{pins:List (Addr×Obj)}{σ:St}{H:Hp}{s:Shared}{a:Addr}{kvs:List (Key×V)}{A:Around}{E:Value→Shared→Prop}
end
section
variable{X:Cx}{pins:List (Addr×Obj)}{σ:St}{H:Hp}{s:Shared}{a:Addr}{y:V}{u:Value}{A:Around}{E:Value→Shared→Prop}
end
end L2
set_option maxHeartbeats 4000000
namespace PySem.W
open PySem PySem.Calls PyProof.Rows Builtin Builtin.ObjectAttr Builtin.Getset_descriptor
section
variable{prog:Program}{w:World}{A:Around}{E:Value→Shared→Prop}{R:Result→Shared→Prop}{h:Heap}{g:Array GenState}{d:Drawn}{t:Nat}{os:OsState}
variable{nm q:Str}{C N:Addr}{bs bm bmB:List Value}{hdct:Bool}{sn:List Str}{sub:List Value}{ab:Bool}{col:Option Bool}{dd:Option Addr}{k0 k1 k2 k3 k5:Option Value}{B newId initId:String}
noncomputable abbrev xObj(C t:Addr):Obj:={cls:=.ref C,data:=.fields #[.ref t,.none,.none,.none,.bool false,.none]}
noncomputable abbrev xTup(rest:List Value):Obj:={cls:=.type "tuple",data:=.seq rest.toArray}
theorem type_call_x(F:ExcBaseFacts B newId initId bmB)(T:OwnTail h bmB bm){rest:List Value}{f:Addr}
 (hC:h.get? C=some (excClassObj nm q C N bs bm hdct sn sub ab col dd k0 k1 k2 k3 k5 newId))
 (hi:Looks (model prog w) h (typeLookup (.ref C) "__init__") (some (.ref f))) (hb:∀self,Looks (model prog w) h (bindSpecial (.ref f) self) (.ref f,[self]))
 (hq:codeAny (model prog w) (A.under (.builtin "type.__call__" ⟨.ref C::rest,[]⟩)) (.call (.ref f) ⟨.ref (h.objs.size+1)::rest,[]⟩) (InitBack (h.objs.size+1) R) ⟨(h.push (xTup rest)).push (xObj C h.objs.size),g,d,t,os⟩)
 (hrest:rest.length≤sizeLine):
 codeAny (model prog w) A (.call (.ref C) ⟨rest,[]⟩) R ⟨h,g,d,t,os⟩:=by
 have f1:=tc_lookup;have f2:=tc_bind (.ref C);have hT:(⟨h,g,d,t,os⟩:Shared).TypeIs (.ref C) "type":=⟨_,hC,rfl⟩;refine codeAny_of_tree ?_;show wpAny _ _ (callAny (.ref C) _) _ _ _
 repeat (any_goals (first |assumption |with_reducible refine wpAny_loadPart_at hC ?_ |wp_step))
 refine ⟨rfl,?_⟩;refine codeAny_call_builtin_at (Code.quiet_builtin _ (by decide +kernel)) entry_typeCall (wpAny_check_type_call_sub hC ?_)
 repeat (first |with_reducible refine wpAny_loadPart_at hC ?_ |with_reducible refine wpAny_madeBy_exc hC ?_ |wp_step)
 refine codeAny_call_builtin_code (Code.quiet_builtin _ F.quiet) (wpAny_check_new_subT F T hC ?_);refine codeAny_exc_new_subT F T hC ?_ hrest;show wpAny _ _ _ _ _ _;have k:∀b o,h.get? b=some o→((h.push (xTup rest)).push (xObj C h.objs.size)).get? b=some o:=fun b o e=>Heap.get?_push_of_some _ (Heap.get?_push_of_some _ e)
 have hC₁:=k _ _ hC;have hget:((h.push (xTup rest)).push (xObj C h.objs.size)).get? (h.objs.size+1)=some (xObj C h.objs.size):=by heap_get
 have hcC:(Value.ref C::bm).contains (.ref C)=true:=by simp
 have i1:=hi.keeps k;have b1:=(hb (.ref (h.objs.size+1))).keeps k;unfold isInstance
 repeat (first |with_reducible refine wpAny_loadPart_at hget ?_ |(with_reducible refine wpAny_isSubtype_exc hC₁ ?_;rw[hcC])|wp_step)
 refine wpAny_isSubtype_exc hC₁ ?_;rw[hcC];have t1:Looks (model prog w) ((h.push (xTup rest)).push (xObj C h.objs.size)) (typeOf (.ref (h.objs.size+1))) (.ref C):=(Looks.ld hget).andThen .now;unfold callSpecial? specialOf;simp only[Bool.not_true,Bool.false_eq_true,if_false];refine wpAny_bind (wpAny_holding (wpAny_bind (wpAny_bind (t1.at (i1.at ?_)))));dsimp only;refine wpAny_holding (wpAny_bind (b1.at (wpAny_bind (wpAny_call (codeAny_mono hq fun r s' z=>?_)))));rcases r with e |(v |_ |_ |_)<;>first |exact z |exact z.elim |skip
 obtain ⟨rfl,z⟩:=z;exact wpAny_pure (wpAny_pure z)
end
end PySem.W
namespace PySem.W
open PySem PySem.Calls PyProof.Rows Builtin Builtin.ObjectAttr Builtin.Getset_descriptor
noncomputable abbrev veMro:List Value:=[.type "ValueError",.type "Exception",.type "BaseException",.type "object"]
noncomputable def m0g:List Value→Bool
 | .ref _::r=>m0g r
 |l=>l==veMro
theorem q0d(self:Value):∀{l:List Value},m0g l=true→refuseLoop self "__setattr__" l=pure ()
 | .ref c::r,e=>by rw[refuseLoop_ref];exact q0d self (l:=r) e
 | [],e=>by cases e
 | .type n::r,e=>by
  have e':(Value.type n::r)=veMro:=beq_iff_eq.mp e;rw[e'];exact PySem.F.store_ValueError.passes self
 | .none::r,e=>by cases (beq_iff_eq.mp e:(Value.none::r)=veMro)
 | .bool _::r,e=>by cases (beq_iff_eq.mp e:(Value.bool _::r)=veMro)
 | .int _ _::r,e=>by cases (beq_iff_eq.mp e:(Value.int _ _::r)=veMro)
 | .str _ _::r,e=>by cases (beq_iff_eq.mp e:(Value.str _ _::r)=veMro)
 | .bytes _ _::r,e=>by cases (beq_iff_eq.mp e:(Value.bytes _ _::r)=veMro)
 | .float _ _::r,e=>by cases (beq_iff_eq.mp e:(Value.float _ _::r)=veMro)
 | .builtin _::r,e=>by cases (beq_iff_eq.mp e:(Value.builtin _::r)=veMro)
 | .notImplemented::r,e=>by cases (beq_iff_eq.mp e:(Value.notImplemented::r)=veMro)
 | .ellipsis::r,e=>by cases (beq_iff_eq.mp e:(Value.ellipsis::r)=veMro)
theorem c0z:∀{l:List Value} {b:Value},m0g l=true→veMro.contains b=true→l.contains b=true
 | .ref c::r,b,e,q=>by rw[List.contains_cons,c0z (l:=r) e q,Bool.or_true]
 | [],b,e,q=>by cases e
 | .type n::r,b,e,q=>by rw[(beq_iff_eq.mp e:(Value.type n::r)=veMro)];exact q
 | .none::r,_,e,_=>by cases (beq_iff_eq.mp e:(Value.none::r)=veMro)
 | .bool _::r,_,e,_=>by cases (beq_iff_eq.mp e:(Value.bool _::r)=veMro)
 | .int _ _::r,_,e,_=>by cases (beq_iff_eq.mp e:(Value.int _ _::r)=veMro)
 | .str _ _::r,_,e,_=>by cases (beq_iff_eq.mp e:(Value.str _ _::r)=veMro)
 | .bytes _ _::r,_,e,_=>by cases (beq_iff_eq.mp e:(Value.bytes _ _::r)=veMro)
 | .float _ _::r,_,e,_=>by cases (beq_iff_eq.mp e:(Value.float _ _::r)=veMro)
 | .builtin _::r,_,e,_=>by cases (beq_iff_eq.mp e:(Value.builtin _::r)=veMro)
 | .notImplemented::r,_,e,_=>by cases (beq_iff_eq.mp e:(Value.notImplemented::r)=veMro)
 | .ellipsis::r,_,e,_=>by cases (beq_iff_eq.mp e:(Value.ellipsis::r)=veMro)
structure XC(K:Frag)(C:Addr):Prop where
 over:(clsIn K C).any (fun cd=>m0g cd.mro)=true
 sa:findIn K (.ref C) "__setattr__"=some (some (.builtin "object.__setattr__"))
 ga:findIn K (.ref C) "__getattribute__"=some (some (.builtin "BaseException.__getattribute__"))
 gh:findIn K (.ref C) "__getattr__"=some none
 hd:hasDictIn K C=true
 ca:findIn K (.ref C) "__class__"=some (some (.builtin "object.__class__"))
 cg:specialIn K (.builtin "object.__class__") "__get__"=some (some (.builtin "getset_descriptor.__get__"))
 ct:takesIn K (.builtin "object.__class__")=some true
section
variable{prog:Program}{w:World}{A:Around}{E:Value→Shared→Prop}{K:Frag}{C x:Addr}{s:Shared}{R:Result→Shared→Prop}
theorem XC.mro(c:XC K C){b:Value}(hb:veMro.contains b=true):mroIn K C b=some true:=by
 obtain ⟨cd,hc,ho⟩:=any_some c.over;have ne:cd.mro.isEmpty=false:=by cases q:cd.mro with |nil=>rw[q]at ho;cases ho |cons _ _=>rfl
 unfold mroIn;rw[hc,Option.bind_some,if_neg (by rw[ne];decide),c0z ho hb]
theorem osa_x{ox:Obj}{od:Option Obj}{name:Str}{tk:Tok}{v:Value}{r:Option Value}(X:K.In s.heap)(I:InstAt s.heap x ox C od)(c:XC K C)(ht:takerIn K C name=some r)
 (h:∀b,wpAny (model prog w) A.in1 (match r with |some a=>setByDescriptor a (.ref x) v |none=>storeInOwnDict (.ref x) (.ref C) (.str name tk) name v b)
  (fun fin s'=>match fin with | .done f=>R (.ok f) s' | .again c'=>c'.quiet=true∧codeAny (model prog w) A c' R s') (fun e s'=>R (.error e) s') s):
 codeAny (model prog w) A (.call (.builtin "object.__setattr__") ⟨[.ref x,.str name tk,v],[]⟩) R s:=by
 have SF:=PySem.F.store_object;obtain ⟨cd,hc,ho⟩:=any_some c.over;have sub:Looks (model prog w) s.heap (isInstance (.ref x) (.type "object")) true:=I.type.andThen (looks_mroIn X (c.mro (by decide)));refine codeAny_call_builtin SF.slot.plain SF.entry (@check_slot (model prog w) _ _ s "object.__setattr__" "object" "__setattr__" (.ref x) [.str name tk,v] [] _ SF.kind SF.split sub (SF.args (.ref x) (.str name tk) v) ?_);obtain ⟨attr,ha,hr⟩:=Option.bind_eq_some_iff.mp ht;have hm:Looks (model prog w) s.heap (mroOf (.ref C)) cd.mro:=(looks_clsIn X hc).andThen .now;have L3:Looks (model prog w) s.heap (storeTaker? attr) r:=by
  cases attr with
  |none=>cases hr;exact .now
  |some a=>
   obtain ⟨b,hb,rfl⟩:=Option.map_eq_some_iff.mp hr;refine (looks_takesIn X hb).andThen ?_;cases b<;>exact .now
 rw[osa_eq,refuse_eq];refine wpAny_bind (wpAny_bind (I.type.here (wpAny_bind (hm.here ?_))));rw[q0d _ ho];refine wpAny_pure (wpAny_bind (I.type.here (wpAny_bind ((looks_findIn X ha).here (wpAny_bind (L3.here ?_))))));exact h _
theorem set_x0{name:Str}{v:Value}{Q:Unit→Shared→Prop}{vs:Array Value}(X:K.In s.heap)(c:XC K C)(hx:s.heap.get? x=some ⟨.ref C,none,.fields vs,#[]⟩)(ht:takerIn K C name=some none)
 (h:∀h',h'.get? x=some ⟨.ref C,some s.heap.objs.size,.fields vs,#[]⟩→h'.Ns1 s.heap.objs.size (fun y=>if y=name then some v else none)→
  (∀b o,b≠x→s.heap.get? b=some o→h'.get? b=some o)→Q () {s with heap:=h',toks:=s.toks+2}):
 wpAny (model prog w) A (setAttr (.ref x) name v) Q E s:=by
 have J:InstAt s.heap x ⟨.ref C,none,.fields vs,#[]⟩ C none:=⟨hx,rfl,rfl,trivial⟩;refine set_plain X J c.sa (osa_x (s:={s with toks:=s.toks+1}) (r:=none) X J c ht fun b=>?_);obtain ⟨cd,hc,hd'⟩:=any_some c.hd;obtain ⟨hp,g,d,t,os⟩:=s;refine wpAny_bind (wpAny_pure (wpAny_bind (wpAny_bind (wpAny_loadPart hx (wpAny_bind (Looks.here (s:=⟨hp,g,d,t+1,os⟩) (looks_clsIn X hc) ?_))))));rw[hd'];have hx₁:(hp.push {cls:=.type "dict",data:=.dict #[]}).get? x=some ⟨.ref C,none,.fields vs,#[]⟩:=Heap.get?_push_of_some _ hx;have hxs:x≠hp.objs.size:=Nat.ne_of_lt (Heap.lt_size hx);show wpAny _ _ (alloc {cls:=.type "dict",data:=.dict #[]} >>= fun d=>update x (fun o=>{cls:=o.cls,dict:=some d,data:=o.data,slots:=o.slots}) >>= fun _=>dictMade (.ref C) x d) _ _ _;refine wpAny_bind (wpAny_alloc' ?_);refine wpAny_bind (wpAny_update' hx₁ ?_);refine wpAny_pure ?_;have hgd:((hp.push {cls:=.type "dict",data:=.dict #[]}).update x fun o=>{cls:=o.cls,dict:=some hp.objs.size,data:=o.data,slots:=o.slots}).get? hp.objs.size
  =some {cls:=.type "dict",data:=.dict #[]}:=
  (Heap.get?_update_ne _ _ _ _ hxs.symm).trans (Heap.get?_push_at rfl rfl)
 have hnd:((hp.push {cls:=.type "dict",data:=.dict #[]}).update x fun o=>{cls:=o.cls,dict:=some hp.objs.size,data:=o.data,slots:=o.slots}).Ns hp.objs.size (fun _=>none):=
  ⟨_,#[],_,hgd,rfl,fun e he=>absurd he (by simp),fun _=>rfl⟩
 show wpAny _ _ (storeInDict hp.objs.size (.str name t) name v) _ _ _;unfold storeInDict newKeyGuard;refine wpAny_bind (wpAny_pure (wpAny_bind (wpAny_nsSet1 (Heap.Ns1.of_empty hnd) fun h' hn' hs=>?_)));obtain ⟨oD,esD,epD,hoD,hdD,hcD⟩:=hn'.count (Within.cons name v Within.nil);refine wpAny_bind (wpAny_lookBehind hoD (by rw[hdD];exact pastItsLine_dict (Nat.le_trans hcD (by rw[List.length_cons,List.length_nil,sizeLine_eq];omega))) ?_);refine wpAny_pure (h h' ?_ hn' fun b o hb e=>?_)
 ·refine (hs.2 x hxs).trans (Heap.get?_update_self _ hx₁ rfl)
 ·exact (hs.2 b (Nat.ne_of_lt (Heap.lt_size e))).trans ((Heap.get?_update_ne _ _ _ _ hb).trans (Heap.get?_push_of_some _ e))
theorem f0q:builtinKind "BaseException.__getattribute__"=some .slot:=by decide +kernel
theorem j0d:splitId "BaseException.__getattribute__"=some ("BaseException","__getattribute__"):=by decide +kernel
theorem bga_slot:Slot "ValueError" "__getattribute__" "BaseException.__getattribute__":=
 .of (owner:="BaseException") (n:="__getattribute__") (by rw[typeLookup_type,builtinLookup_eq_fast];kernel_rfl) (by decide +kernel) (by decide +kernel) (by decide +kernel)
  (by first |exact .inl (by decide +kernel)|exact .inr (by decide +kernel)) (by rw[isSubtype_type];kernel_rfl)
theorem j0c{ox:Obj}{od:Option Obj}{name:Str}{fill expr:Bool}{r:Found}{t:Tok}{Q:Value→Shared→Prop}(X:K.In s.heap)(I:InstAt s.heap x ox C od)(c:XC K C)
 (hf:findObj K C od name=some r)
 (h:wpAny (model prog w) A.in1 (match r with | .value v=>ret v | .bind g a=>bindTo g a (.ref x) (.ref C)| .missing=>unsupported "") (fun fin s'=>∃v,fin=.done (.ret v)∧wpAny (model prog w) A (handedOut v) Q E s') (fun _ _=>False) s)
 (hr:r≠.missing):wpAny (model prog w) A (getAttrBy (.ref x) (.str name t) fill expr) Q E s:=by
 obtain ⟨hp,g,d,tk,os⟩:=s;have L0:=I.type (M:=model prog w);have L1:=looks_findIn (M:=model prog w) X c.ga;have LG:=looks_findIn (M:=model prog w) X c.gh;have L2:=looks_find (M:=model prog w) X I hf;have hx0:(expr&&onTheHeap (Value.builtin "BaseException.__getattribute__"))=false:=by cases expr<;>rfl
 have hx2:(Value.builtin "BaseException.__getattribute__"==Value.builtin "object.__getattribute__")=false:=by decide +kernel
 have hx1:(onTheHeap (Value.ref C)&&Value.builtin "BaseException.__getattribute__"==Value.builtin "object.__getattribute__")=false:=by rw[hx2];rfl
 have sub:Looks (model prog w) hp (isInstance (.ref x) (.type "BaseException")) true:=I.type.andThen (looks_mroIn X (c.mro (by decide)));have hbnd:=bga_slot.bind (.ref x);unfold getAttrBy;refine wpAny_holding (wpAny_bind (L0.at (wpAny_bind (L1.at ?_))));dsimp only;rw[if_neg (by rw[hx1];decide)];unfold getAttrByItsOwn hookBefore;rw[if_pos (show onTheHeap (Value.ref C)=true from rfl)];refine wpAny_bind (LG.at (wpAny_bind (wpAny_attempt (wpAny_holding ?_))));unfold callGetattribute;rw[if_neg (by rw[hx0];decide)];unfold boundAndCalled;rw[hbnd];refine wpAny_bind (wpAny_pure ?_);refine wpAny_call (codeAny_call_builtin bga_slot.plain F.entry_bexc_ga (@check_slot (model prog w) _ _ ⟨hp,g,d,tk,os⟩ "BaseException.__getattribute__" "BaseException" "__getattribute__" (.ref x) [.str name t] [] _ f0q j0d sub (F.args_bexc_ga (.ref x) (.str name t)) ?_));refine wpAny_bind (wpAny_pure (wpAny_bind (wpAny_pure (wpAny_bind (L0.at (wpAny_bind (L2.at ?_)))))));cases r with
 |value v=>
  refine wpAny_mono h (fun fin s' z=>?_) fun _ _ z=>z.elim
  obtain ⟨v,rfl,z⟩:=z;exact z
 |bind g a=>
  refine wpAny_mono h (fun fin s' z=>?_) fun _ _ z=>z.elim
  obtain ⟨v,rfl,z⟩:=z;exact z
 |missing=>exact absurd rfl hr
theorem get_x{ox:Obj}{od:Option Obj}{name:Str}{expr:Bool}{v:Value}{Q:Value→Shared→Prop}(X:K.In s.heap)(I:InstAt s.heap x ox C od)(c:XC K C)
 (hf:findObj K C od name=some (.value v)) (hh:handedIn v=true) (h:Q v {s with toks:=s.toks+1}):wpAny (model prog w) A (getAttr (.ref x) name expr) Q E s:=by
 unfold getAttr;refine wpAny_bind (wpAny_mkText (j0c (s:={s with toks:=s.toks+1}) X I c hf (wpAny_pure ⟨v,rfl,?_⟩) (fun q=>by cases q)));rw[handedOut_of hh];exact wpAny_pure h
theorem cls_x{ox:Obj}{od:Option Obj}{Q:Option Value→Shared→Prop}(X:K.In s.heap)(I:InstAt s.heap x ox C od)(c:XC K C)(h:Q (some (.ref C)) {s with toks:=s.toks+1}):
 wpAny (model prog w) A (getAttr? (.ref x) "__class__") Q E s:=by
 have hf:findObj K C od "__class__"=some (.bind (.builtin "getset_descriptor.__get__") (.builtin "object.__class__")):=by
  obtain ⟨cd,hc,_⟩:=any_some c.hd;unfold findObj;rw[hc,Option.bind_some,c.ca,Option.bind_some];show ((specialIn K (.builtin "object.__class__") "__get__").bind _)=_;rw[c.cg,Option.bind_some];show ((takesIn K (.builtin "object.__class__")).bind _)=_;rw[c.ct];rfl
 unfold getAttr? getAttrBy?;refine wpAny_bind (wpAny_mkText (wpAny_bind (wpAny_attempt (j0c (s:={s with toks:=s.toks+1}) X I c hf ?_ (fun q=>by cases q)))));show wpAny _ _ (holding [_] (call (.builtin "getset_descriptor.__get__") [.builtin "object.__class__",.ref x,.ref C]) >>= ret) _ _ _;refine wpAny_bind (wpAny_holding (wpAny_call (class_get (s:={s with toks:=s.toks+1}) X I (c.mro (by decide)) (wpAny_pure ⟨_,rfl,?_⟩))));exact handed_on rfl (wpAny_pure h)
theorem kitx_x{ox:Obj}{od:Option Obj}(c:XC K C):KitX K (.ref x) (.ref C) (fun h=>InstAt h x ox C od)where
 ty:=fun _ _ _ I=>I.type
 it:=fun _ _ X _=>by
  obtain ⟨cdD,hcD,_⟩:=any_some c.hd;unfold clsIn at hcD;split at hcD
  ·rename_i c' d' cd' sl' ho;intro A' Q' E' s' k q;unfold isType loadHead;exact wpAny_bind (wpAny_loadPart (k _ _ (X _ _ ho)) (wpAny_pure q))
  ·cases hcD
 ne:=fun h tp dd its n sl X htp=>by
  obtain ⟨cdD,hcD,_⟩:=any_some c.hd;refine Bool.eq_false_iff.mpr fun q=>?_
  have e:C=tp:=Value.ref.inj (beq_iff_eq.mp q);subst e;unfold clsIn at hcD;split at hcD
  ·rename_i c' d' cd' sl' ho;have z:=(X _ _ ho).symm.trans htp;cases z
  ·cases hcD
 ca:=fun X I k=>cls_x X I c k
end
end PySem.W
namespace L2
open PySem PySem.Spec PyProof.Rows
open PySem.W (XC)
noncomputable def XO(fr:Nat)(x C:Addr)(od:Option Addr):HO:=.ext fun h=>∃o vs,h.get? x=some o∧o.cls=.ref C∧o.dict=od∧o.data=.fields vs∧((fr=1→o.slots=#[]∧vs[1]?=some .none∧4<vs.size)∧(fr≠0→vs[2]?=some .none))
noncomputable def XD(dx:Addr)(fs:List (Str×V)):HO:=.ext fun h=>∃mA,h.Ns1 dx mA∧(∀f,RelO (fs.lookup f) (mA f))∧PySem.Within mA (fs.map (·.1))
theorem XO.ok{P:Program}{w:World}{H:Hp}{h:Heap}{fr:Nat}{x C:Addr}{od:Option Addr}(hx:∃o vs,h.get? x=some o∧o.cls=.ref C∧o.dict=od∧o.data=.fields vs∧((fr=1→o.slots=#[]∧vs[1]?=some .none∧4<vs.size)∧(fr≠0→vs[2]?=some .none))):ObjOk P w H h x (XO fr x C od):=by
 refine ⟨hx,?_,fun h1 h2 q k=>?_⟩
 ·obtain ⟨o,_,e,_⟩:=hx;exact ⟨o,e⟩
 ·obtain ⟨o,vs,e,r⟩:=q;exact ⟨o,vs,k o e,r⟩
theorem XD.ok{P:Program}{w:World}{H:Hp}{h:Heap}{dx:Addr}{fs:List (Str×V)}(hx:∃mA,h.Ns1 dx mA∧(∀f,RelO (fs.lookup f) (mA f))∧PySem.Within mA (fs.map (·.1))):ObjOk P w H h dx (XD dx fs):=by
 refine ⟨hx,?_,fun h1 h2 q k=>?_⟩
 ·obtain ⟨mA,⟨o,es,ep,e,_⟩,_⟩:=hx;exact ⟨o,e⟩
 ·obtain ⟨mA,⟨o,es,ep,e,r⟩,z⟩:=q;exact ⟨mA,⟨o,es,ep,k o e,r⟩,z⟩
theorem XO.get{P:Program}{w:World}{H:Hp}{h:Heap}{fr:Nat}{x C:Addr}{od:Option Addr}(hok:HOk P w H h)(e:H x=some (XO fr x C od)):
 ∃o vs,h.get? x=some o∧o.cls=.ref C∧o.dict=od∧o.data=.fields vs∧((fr=1→o.slots=#[]∧vs[1]?=some .none∧4<vs.size)∧(fr≠0→vs[2]?=some .none)):=(show ObjOk P w H h x (XO fr x C od)from hok x _ e).1
theorem XD.get{P:Program}{w:World}{H:Hp}{h:Heap}{dx:Addr}{fs:List (Str×V)}(hok:HOk P w H h)(e:H dx=some (XD dx fs)):
 ∃mA,h.Ns1 dx mA∧(∀f,RelO (fs.lookup f) (mA f))∧PySem.Within mA (fs.map (·.1)):=(show ObjOk P w H h dx (XD dx fs)from hok dx _ e).1
section
variable{X:Cx}{pins:List (Addr×Obj)}{σ:St}{H:Hp}{s:Shared}{x C dx:Addr}{fs:List (Str×V)}{f:Str}{v:V}{A:Around}{E:Value→Shared→Prop}
theorem xset0{y:V}{u:Value}{Q:Unit→Shared→Prop}(I:Inv X pins σ H s)(e:H x=some (XO 1 x C none))(c:XC X.K C)(n:NoAttr X.K C f)(ry:RelV y u)
 (h:∀d s',H d=none→d≠x→Inv X pins σ (upd (upd H d (XD d [(f,y)])) x (XO 1 x C (some d))) s'→Q () s'):wpAny (model X.prog X.w) A (setAttr (.ref x) f u) Q E s:=by
 obtain ⟨o,vs,hx,h1,h2,h3,h40⟩:=XO.get I.hok e;obtain ⟨h4,h5,h7⟩:=h40.1 rfl;have h6:=h40.2;clear h40;obtain ⟨oc,od,odt,osl⟩:=o;dsimp only at h1 h2 h3 h4;subst h1 h2 h3 h4;have hxs:x≠s.heap.objs.size:=Nat.ne_of_lt (Heap.lt_size hx);refine PySem.W.set_x0 I.kIn c hx n.taker fun h' e1 e2 e3=>h s.heap.objs.size _ (I.hok.fresh (Nat.le_refl _)) hxs.symm ?_
 have mu:Mut (H x):=by rw[e];exact True.intro
 have keep:∀b o,b≠x→s.heap.get? b=some o→h'.get? b=some o:=e3;have hx':∃o vs,h'.get? x=some o∧o.cls=.ref C∧o.dict=some s.heap.objs.size∧o.data=.fields vs∧((1=1→o.slots=#[]∧vs[1]?=some .none∧4<vs.size)∧(1≠0→vs[2]?=some .none)):=⟨_,vs,e1,rfl,rfl,rfl,fun _=>⟨rfl,h5,h7⟩,h6⟩;have hfree:H s.heap.objs.size=none:=I.hok.fresh (Nat.le_refl _);have neF:∀b o,s.heap.get? b=some o→b≠s.heap.objs.size:=fun b o q=>Nat.ne_of_lt (Heap.lt_size q)
 have neT:∀b u,H b=some u→b≠s.heap.objs.size:=fun b u q z=>by rw[z,hfree]at q;cases q
 have nx:∀b,H b=none→b≠x:=fun b q z=>by rw[z,e]at q;cases q
 have tr:∀b u,H b=some u→b≠x→(upd (upd H s.heap.objs.size (XD s.heap.objs.size [(f,y)])) x (XO 1 x C (some s.heap.objs.size))) b=some u:=fun b u q z=>by rw[y0 z,y0 (neT b u q)];exact q
 refine I.un (t':=s.toks+2) ⟨fun b o q q2 _ _=>keep b o (nx b q2) q,fun b o q q2 _ _=>⟨o.slots,keep b o (nx b q2) q⟩,fun b o q q2 _=>?_,fun b o q _=>?_,fun b xs q=>?_,fun b o u q=>?_,fun b ps q=>⟨#[],?_⟩⟩ ?_
 ·rw[y0 (nx b q2),y0 (neF b o q)];exact q2
 ·by_cases z:b=x
  ·subst z;exact ⟨_,e1⟩
  ·exact ⟨o,keep b o z q⟩
 ·exact tr b _ q (fun z=>by rw[z,e]at q;cases q)
 ·exact tr b _ q (fun z=>by rw[z,e]at q;cases q)
 ·rw[tr b _ q (fun z=>by rw[z,e]at q;cases q)];simp
 ·intro b u q;by_cases z:b=x
  ·subst z;rw[n3]at q;cases q;exact XO.ok hx'
  ·rw[y0 z]at q;by_cases z2:b=s.heap.objs.size
   ·subst z2;rw[n3]at q;cases q;refine XD.ok ⟨_,e2,fun g=>?_,fun g hg=>?_⟩
    ·have l:=y0n f g y [];rw[show putF f y []=[(f,y)]from rfl]at l;rw[l];by_cases w:g=f
     ·rw[if_pos w,if_pos w];exact ry
     ·rw[if_neg w,if_neg w];exact True.intro
    ·by_cases w:g=f
     ·rw[w];simp
     ·exact absurd (if_neg w) hg
   ·rw[y0 z2]at q;refine (I.hok b u q).stay (fun c' v' hc q'=>keep c' v' ?_ q') (fun b' q'=>tr b' _ q' (fun z=>by rw[z,e]at q';cases q')) (fun b' xs q'=>tr b' _ q' (fun z=>by rw[z,e]at q';cases q'));rcases hc with hc |hc
    ·rw[hc];exact z
    ·exact fun z=>by rw[z,e]at hc;cases hc
theorem XO.inst{fr:Nat}{od:Option Addr}(I:Inv X pins σ H s)(e:H x=some (XO fr x C od))(he:∀d,od=some d→∃o,s.heap.get? d=some o):∃ox odo,PySem.W.InstAt s.heap x ox C odo∧∀d,od=some d→∃o,odo=some o∧s.heap.get? d=some o:=by
 obtain ⟨o,vs,hx,h1,h2,h3,_⟩:=XO.get I.hok e;cases od with
 |none=>exact ⟨o,none,⟨hx,h1,by unfold PySem.W.notCls;rw[h3],by rw[h2];trivial⟩,fun d z=>by cases z⟩
 |some d=>
  obtain ⟨od,hd⟩:=he d rfl;exact ⟨o,some od,⟨hx,h1,by unfold PySem.W.notCls;rw[h3],by rw[h2];exact hd⟩,fun d' z=>by cases z;exact ⟨od,rfl,hd⟩⟩
theorem xget{fr:Nat}{b:Bool}{Q:Value→Shared→Prop}(I:Inv X pins σ H s)(e:H x=some (XO fr x C (some dx)))(ed:H dx=some (XD dx fs))(c:XC X.K C)(n:NoAttr X.K C f)(l:fs.lookup f=some v)
 (h:∀u s',Inv X pins σ H s'→RelV v u→Q u s'):wpAny (model X.prog X.w) A (getAttr (.ref x) f b) Q E s:=by
 obtain ⟨mA,hn,r,wi⟩:=XD.get I.hok ed;obtain ⟨u,hu,ru⟩:=RelO.some_of (v:=v) (o:=mA f) (by rw[←l];exact r f);obtain ⟨od,hod,hl⟩:=u0n hn;obtain ⟨ox,odo,J,k⟩:=XO.inst I e fun d z=>by cases z;exact ⟨od,hod⟩
 obtain ⟨o',rfl,ho'⟩:=k dx rfl;rw[hod]at ho';cases ho';exact PySem.W.get_x I.kIn J c (PySem.W.findObj_own c.hd n rfl (by rw[hl,hu])) (q0p ru) (h u _ (I.tok _) ru)
end
noncomputable def sX0(K:PySem.W.Frag)(ta tv:TE)(f:Str):TS:=fun D σ H=>tv σ H fun y H1=>ta σ H1 fun x H2=>∃a C,x=.ref a∧H2 a=some (XO 1 a C none)∧XC K C∧NoAttr K C f∧
 ∀d,H2 d=none→d≠a→D.nx σ (upd (upd H2 d (XD d [(f,y)])) a (XO 1 a C (some d)))
noncomputable def tXFld(K:PySem.W.Frag)(ta:TE)(f:Str):TE:=fun σ H Q=>ta σ H fun x H1=>∃fr a C d fs v,x=.ref a∧H1 a=some (XO fr a C (some d))∧H1 d=some (XD d fs)∧XC K C∧NoAttr K C f∧fs.lookup f=some v∧Q v H1
section
variable{X:Cx}{o e value:Expr}{f:Str}{pos pos' tpos:Pos}{ta tv:TE}
theorem b0m(ha:PE X o ta)(hv:PE X value tv)(hs:swapsWith value (some (.Attribute o f pos')) pos.line X.env=pure false):PS X (.Assign [.Attribute o f pos'] value pos) (sX0 X.K ta tv f):=by
 intro pins s σ H D I h;refine plainObj_wpAny_Assign_Attribute (thn (hv pins s σ H _ I h) fun u s1 ⟨y,H1,I1,ry,q⟩=>thn (ha pins s1 σ H1 _ I1 q) fun ov s2 ⟨x,H2,I2,rx,a,C,ex,ea,c,n,q2⟩=>?_) hs;subst ex;obtain rfl:ov=Value.ref a:=rx;exact xset0 I2 ea c n ry fun d s3 hd hne I3=>⟨σ,_,I3,q2 d hd hne⟩
theorem b0l(he:PE X e ta)(hb:attributeBase e f X.env (eval e X.env)=eval e X.env):PE X (.Attribute e f pos) (tXFld X.K ta f):=by
 intro pins s σ H Q I h;refine j0l hb (thn (he pins s σ H _ I h) fun u s1 ⟨x,H1,I1,rx,fr,a,C,dx,fs,v,ex,ea,ed,c,n,l,q⟩=>?_);subst ex;obtain rfl:u=Value.ref a:=rx;exact xget I1 ea ed c n l fun u' s2 I2 ru=>⟨v,H1,I2,ru,q⟩
end
noncomputable def xcIn(K:PySem.W.Frag)(C:Addr):Bool:=match K.lookup C with
 |some ⟨.type "type",_,.cls cd,sl⟩=>(match cd.mro,sl.toList with
  | .ref C'::bm,[_,_,_,_,some (.builtin n),_]=>C'==C&&n=="ValueError.__new__"&&!cd.hasDel&&PySem.W.tailIn K PySem.W.veMro bm
  |_,_=>false)
 |_=>false
theorem m0f{K:PySem.W.Frag}{h:Heap}{C:Addr}(X:K.In h)(q:xcIn K C=true):∃nm qn N bs bm hdct sn sub ab col dd k0 k1 k2 k3 k5,
 h.get? C=some (excClassObj nm qn C N bs bm hdct sn sub ab col dd k0 k1 k2 k3 k5 "ValueError.__new__")∧OwnTail h PySem.W.veMro bm:=by
 unfold xcIn at q;split at q
 ·rename_i dd cd sl ho;split at q
  ·rename_i C' bm k0 k1 k2 k3 n k5 hm hs;simp only[Bool.and_eq_true,beq_iff_eq,Bool.not_eq_true']at q;obtain ⟨⟨⟨rfl,rfl⟩,hdel⟩,ht⟩:=q;obtain ⟨nm,bs,mro,ns,qn,hd,sn,sub,ab,col,del⟩:=cd;dsimp only at hm hdel;subst hm hdel;have hsl:sl=#[k0,k1,k2,k3,some (.builtin "ValueError.__new__"),k5]:=by
    obtain ⟨l⟩:=sl;simp only at hs;rw[hs]
   subst hsl;exact ⟨nm,qn,ns,bs,bm,hd,sn,sub,ab,col,dd,k0,k1,k2,k3,k5,X _ _ ho,PySem.W.tail_of_in X ht⟩
  ·cases q
 ·cases q
structure XMk(K:PySem.W.Frag)(C f:Addr):Prop where
 sh:xcIn K C=true
 init:PySem.W.findIn K (.ref C) "__init__"=some (some (.ref f))
 fn:PySem.W.isFn K (.ref f)=true
 kp:PySem.W.keepIn K (.ref C)=true
section
variable{X:Cx}{CX:CXT}{k:Nat}{f C:Addr}{fd:FuncData}{ps:List Str}{sp:Sp}{E:XK}{x m:Str}{p pos apos:Pos}{e o:Expr}{es:List Expr}{ta:TE}{t:TA}
theorem Inv.madeX{pins:List (Addr×Obj)}{σ:St}{H:Hp}{s:Shared}{us:List Value}(I:Inv X pins σ H s):
 Inv X pins σ (upd H (s.heap.objs.size+1) (XO 1 (s.heap.objs.size+1) C none)) {s with heap:=(s.heap.push (PySem.W.xTup us)).push (PySem.W.xObj C s.heap.objs.size)}:=by
 have I1:=I.kept (h':=s.heap.push (PySem.W.xTup us)) (t':=s.toks) fun b o e=>Heap.get?_push_of_some _ e
 have e2:((s.heap.push (PySem.W.xTup us)).push (PySem.W.xObj C s.heap.objs.size)).get? (s.heap.objs.size+1)=some (PySem.W.xObj C s.heap.objs.size):=by
  have:=Heap.get?_push_size (s.heap.push (PySem.W.xTup us)) (o:=PySem.W.xObj C s.heap.objs.size) rfl
  rwa[Heap.size_push]at this
 exact I1.laid (a:=s.heap.objs.size+1) (o:=XO 1 (s.heap.objs.size+1) C none) (t':=s.toks) (fun b u q=>Heap.get?_push_of_some _ q) (Nat.le_of_eq (Heap.size_push _ _)) (XO.ok ⟨_,_,e2,rfl,rfl,rfl,⟨fun _=>⟨rfl,rfl,by simp⟩,fun _=>rfl⟩⟩)
theorem q0c{pins:List (Addr×Obj)}{σ:St}{H:Hp}{s:Shared}{Q:VK}{us:List Value}{vs:List V}(M:XMk X.K C f)(F:FnOk X.prog X.w X.K X.mg X.base CX k f fd ps sp)(hr:Room (k+1) X.A)(hb:Binds X.K fd ps [])
 (hx:d0d CX X E) (I:Inv X pins σ H s) (r:Vals vs us) (hz:vs.length≤sizeLine)
 (hq:sp (.ref (s.heap.objs.size+1)::vs) (upd H (s.heap.objs.size+1) (XO 1 (s.heap.objs.size+1) C none)) (fun v H2=>v=.non∧Q (.ref (s.heap.objs.size+1)) H2) E):
 wpAny (model X.prog X.w) X.A (call (.ref C) us) (fun u s'=>u=.ref (s.heap.objs.size+1)∧EP X pins σ Q u s') X.xe s:=by
 have I2:=Inv.madeX (C:=C) (us:=us) I;have r2:Vals (V.ref (s.heap.objs.size+1)::vs) (Value.ref (s.heap.objs.size+1)::us):=.cons rfl r;have hl:(Value.ref (s.heap.objs.size+1)::us++[]).length=ps.length:=by
  have e:=r2.length;rw[F.len _ _ _ _ hq]at e;rw[List.append_nil];exact e.symm
 obtain ⟨nm,qn,N,bs,bm,hdct,sn,sub,ab,col,dd,k0,k1,k2,k3,k5,hC,hT⟩:=m0f I.kIn M.sh;have hbd:=hb _ (Value.ref (s.heap.objs.size+1)::us) I2.kIn hl;rw[List.append_nil]at hbd;have hrun:=F.run _ X.stack _ _ ⟨Value.ref (s.heap.objs.size+1)::us,[]⟩ (Value.ref (s.heap.objs.size+1)::us) _ _ E (hr.make C us []) (I2.env0.make C us []) hbd r2 hq;obtain ⟨hh,g,d,tk,os⟩:=s;refine wpAny_call (PySem.W.type_call_x PySem.F.excBase_ValueError hT hC (PySem.W.looks_findIn I.kIn M.init) (fun self=>PySem.W.bind_fn I.kIn self (beq_iff_eq.mp M.fn)) (codeAny_mono hrun fun r s' hq'=>?_) (by rw[←r.length];exact hz));cases r with
 |error e=>exact hx pins σ _ _ e s' I2 hq'
 |ok fl=>
  cases fl with
  |ret u=>
   obtain ⟨v,H',I3,rv,ev,q3⟩:=I2.after hq';subst ev;exact ⟨rv,rfl,⟨V.ref (hh.objs.size+1),H',I3,rfl,q3⟩⟩
  |next=>exact False.elim hq'
  |brk=>exact False.elim hq'
  |cont=>exact False.elim hq'
structure XMk0(K:PySem.W.Frag)(C:Addr):Prop where
 ex:PySem.W.excIn K C PySem.W.veMro "ValueError.__new__"=true
 kp:PySem.W.keepIn K (.ref C)=true
end
end L2
namespace L2
open PySem PySem.Spec PyProof.Rows
open PySem.W (XC)
inductive TyX(K:PySem.W.Frag)(H:Hp):V→Value→Prop where
 |of {x:V} {t:Value} (h:TyOf K H x t):TyX K H x t
 |exc {fr:Nat} {a C d:Addr} {fs:List (Str×V)} (e:H a=some (XO fr a C (some d))) (ed:H d=some (XD d fs)) (c:XC K C):TyX K H (.ref a) (.ref C)
 |exc0 {fr:Nat} {a C:Addr} (e:H a=some (XO fr a C none)) (c:XC K C):TyX K H (.ref a) (.ref C)
section
variable{X:Cx}
noncomputable def InstB(K:PySem.W.Frag)(H:Hp)(t:Value)(c:V)(b:Bool):Prop:=
 (∃n,c=.ty n∧PySem.W.kitOne K t (.type n)=some b)∨(∃C,c=.ref C∧PySem.W.kitOne K t (.ref C)=some b)∨∃(a:Addr) (cs:List String),c=.ref a∧H a=some (.tup (cs.map V.ty))∧PySem.W.kitAny K t (cs.map Value.type)=some b
noncomputable def rInst(K:PySem.W.Frag):List V→Hp→VK→Prop:=fun vs H Q=>∃x c t b,vs=[x,c]∧TyX K H x t∧InstB K H t c b∧Q (.bl b) H
theorem c0y:∀{cs:List String} {us:List Value},Vals (cs.map V.ty) us→us=cs.map Value.type
 | [],_,.nil=>rfl
 |c::cs,_,.cons r t=>by
  have e:_=Value.type c:=r;rw[e,c0y t];rfl
theorem u5{pins:List (Addr×Obj)}{s:Shared}{σ:St}{H:Hp}{Q:VK}{c:V}{u cv t:Value}{b:Bool}{HH:Heap→Prop}(I:Inv X pins σ H s)(Z:PySem.W.KitX X.K u t HH)(p:HH s.heap)(rc:RelV c cv)(e:InstB X.K H t c b)
 (hx:u≠.builtin "__main__.__loader__#opaque") (q:Q (.bl b) H):wpAny (model X.prog X.w) X.A (call (.builtin "isinstance") [u,cv]) (EP X pins σ Q) X.xe s:=by
 have fin:∀tk,EP X pins σ Q (.bool b) {s with toks:=tk}:=fun tk=>⟨.bl b,H,I.tok tk,rfl,q⟩
 rcases e with ⟨n,rfl,e⟩|⟨C,rfl,e⟩|⟨a,cs,rfl,ha,e⟩
 ·cases rc;exact PySem.W.kia_one Z I.kIn p e hx fin
 ·cases rc;exact PySem.W.kia_one Z I.kIn p e hx fin
 ·cases rc;obtain ⟨z,its,r,o,ho,hc,⟨n,hd⟩,_⟩:=(show ObjOk X.prog X.w H s.heap a (.tup (cs.map V.ty))from I.hok a _ ha);obtain rfl:=c0y r;obtain ⟨oc,od,odt,osl⟩:=o;dsimp only at hc hd;subst hc hd;exact PySem.W.kia_tup Z I.kIn p ho e hx fin
theorem j6:x0u X (.builtin "isinstance") (rInst X.K):=by
 intro pins s σ H xs us Q I rv h;obtain ⟨x,c,t,b,rfl,ty,e,q⟩:=h;obtain ⟨u,cv,rfl,rx,rc⟩:=Vals.two rv;cases ty with
 |exc ea ed c=>
  rename_i fr a C d fs;cases (show u=Value.ref a from rx);obtain ⟨mA,hn,_,_⟩:=XD.get I.hok ed;obtain ⟨od,hod,_⟩:=u0n hn;obtain ⟨ox,odo,J,k⟩:=XO.inst I ea fun d z=>by cases z;exact ⟨od,hod⟩
  exact u5 I (PySem.W.kitx_x c) J rc e (fun z=>nomatch z) q
 |exc0 ea c=>
  rename_i fr a C;cases (show u=Value.ref a from rx);obtain ⟨ox,odo,J,k⟩:=XO.inst I ea fun d z=>by cases z
  exact u5 I (PySem.W.kitx_x c) J rc e (fun z=>nomatch z) q
 |of ty=>
  cases ty with
  |non=>cases (show u=Value.none from rx);exact u5 I PySem.W.kitx_none True.intro rc e (fun z=>nomatch z) q
  |bl y=>cases (show u=Value.bool y from rx);exact u5 I PySem.W.kitx_bool True.intro rc e (fun z=>nomatch z) q
  |int i=>obtain ⟨t,z⟩:=(show ∃t,u=Value.int i t from rx);cases z;exact u5 I PySem.W.kitx_int True.intro rc e (fun z=>nomatch z) q
  |str y=>obtain ⟨t,z⟩:=(show ∃t,u=Value.str y t from rx);cases z;exact u5 I PySem.W.kitx_str True.intro rc e (fun z=>nomatch z) q
  |flt y=>obtain ⟨t,z⟩:=(show ∃t,u=Value.float y t from rx);cases z;exact u5 I PySem.W.kitx_float True.intro rc e (fun z=>nomatch z) q
  | @lst a xs ea=>
   cases (show u=Value.ref a from rx);obtain ⟨_,_,n,_,h1⟩:=(show ObjOk X.prog X.w H s.heap a (.lst xs)from I.hok a _ ea);exact u5 I PySem.W.kitx_list ⟨_,h1,rfl⟩ rc e (fun z=>nomatch z) q
  | @frz a ob xs ea=>
   cases (show u=Value.ref a from rx);obtain ⟨_,_,_,n,_,h1⟩:=(show ObjOk X.prog X.w H s.heap a (.frz ob (.lst xs))from I.hok a _ ea);exact u5 I PySem.W.kitx_list ⟨_,h1,rfl⟩ rc e (fun z=>nomatch z) q
  | @tup a xs ea=>
   cases (show u=Value.ref a from rx);obtain ⟨_,_,_,p⟩:=(show ObjOk X.prog X.w H s.heap a (.tup xs)from I.hok a _ ea);obtain ⟨o,h1,h2,_⟩:=p;exact u5 I PySem.W.kitx_tuple ⟨o,h1,h2⟩ rc e (fun z=>nomatch z) q
  | @dK a kvs ea=>
   cases (show u=Value.ref a from rx);obtain ⟨_,_,vs,_,p⟩:=(show ObjOk X.prog X.w H s.heap a (.dK kvs)from I.hok a _ ea);obtain ⟨o,es,ep,h1,h2,_⟩:=p;exact u5 I PySem.W.kitx_dict ⟨o,h1,h2.1⟩ rc e (fun z=>nomatch z) q
  | @dT a kvs ea=>
   cases (show u=Value.ref a from rx);obtain ⟨_,_,xs,_,o,es,ep,h1,h2,_⟩:=(show ObjOk X.prog X.w H s.heap a (.dT kvs)from I.hok a _ ea);exact u5 I PySem.W.kitx_dict ⟨o,h1,h2.1⟩ rc e (fun z=>nomatch z) q
  | @ins a C dx fs ea cl ha hn htk hm=>
   cases (show u=Value.ref a from rx);obtain ⟨mA,O,_⟩:=o0h I.hok ea;obtain ⟨od,J,_⟩:=O.look;exact u5 I (PySem.W.kitx_own (cl.get _) cl.hd ha hn htk hm) J rc e (fun z=>nomatch z) q
noncomputable def rAll(K:PySem.W.Frag):List V→Hp→VK→Prop:=fun vs H Q=>∃(a:Addr) (bs:List Bool),vs=[.ref a]∧SqL K H a (bs.map V.bl)∧Q (.bl (bs.all id)) H
theorem m0e:∀{bs:List Bool} {us:List Value},Vals (bs.map V.bl) us→PyProof.Rows.LSm.BoolsAre us bs
 | [],_,.nil=>.nil
 |b::bs,_,.cons r t=>by
  have e:_=Value.bool b:=r;subst e;exact .cons b (m0e t)
theorem f0p(hc:X.calm=true):x0u X (.builtin "all") (rAll X.K):=by
 intro pins s σ H xs us Q I rv h;obtain ⟨a,bs,rfl,hq,q⟩:=h;obtain ⟨u,rfl,ru⟩:=rv.one;cases (show u=Value.ref a from ru);obtain ⟨its,r,p,hz⟩:=I.list hq;have hl:=p.isList;have hb:=m0e r;have hlt:a<s.heap.objs.size:=by obtain ⟨_,e,_⟩:=hl;exact Heap.lt_size e
 refine call_all_walk (wpAny_pyIter_list hl ?_);refine ⟨s.heap.objs.size,[s.heap.objs.size,a],[s.heap.objs.size],its.toArray.size,_,_,fun i=>(bs[i]?).getD true,rfl,Walks.list (A:=X.A.in1) (I.ok.hd hc) _ a (Nat.ne_of_lt hlt) its.toArray,
  ⟨⟨_,Heap.get?_push_size _ rfl,rfl,rfl⟩,hl.push _⟩,fun i v s' Q' E' hP hQ=>?_,fun h' tk hk=>?_⟩
 ·obtain ⟨b,e,rfl⟩:=hb.get i v (by simpa using hP);simp only[e,Option.getD_some]at hQ;exact wpAny_truthy_bool hQ
 ·have e:((List.range its.toArray.size).all fun i=>(bs[i]?).getD true)=bs.all id:=by
   rw[List.size_toArray,hb.length];exact PyProof.Rows.LSm.range_all bs
  rw[e];exact ⟨.bl _,H,I.kept (PyProof.Rows.LSm.kept_iter hk),rfl,q⟩
end
end L2
namespace L2
open PySem PySem.Spec PyProof.Rows
theorem s0l{scope:Scope}{env:Env}(h:∀p∈scope.names,p.2=.free→∃c,env.cells.lookup p.1=some c):
 ∃cl,closureFor scope env=pure cl∧(∀y c,cl.lookup y=some c→env.cells.lookup y=some c)∧∀y,(y,NameKind.free)∈scope.names→∃c,cl.lookup y=some c:=by
 have key:∀(names:List (Str×NameKind)) (cs:List (Str×Addr)),(∀p∈names,p.2=.free→∃c,env.cells.lookup p.1=some c)→(∀y c,cs.lookup y=some c→env.cells.lookup y=some c)→
  ∃cl,(forIn names cs (fun (p:Str×NameKind) (r:List (Str×Addr))=>match p with |(name,kind)=>if (kind==NameKind.free)=true then cellOf env name >>= fun c=>pure (ForInStep.yield ((name,c)::r))else pure (ForInStep.yield r)):Sem (List (Str×Addr)))=pure cl∧
   (∀y c,cl.lookup y=some c→env.cells.lookup y=some c)∧(∀y,(y,NameKind.free)∈names→∃c,cl.lookup y=some c)∧∀y c,cs.lookup y=some c→∃c',cl.lookup y=some c':=by
  intro names
  induction names with
  |nil=>intro cs _ hc;exact ⟨cs,rfl,hc,(fun y hy=>by cases hy),fun y c e=>⟨c,e⟩⟩
  |cons p r ih=>
   intro cs hp hc;obtain ⟨pn,pk⟩:=p;rw[List.forIn_cons];dsimp only;by_cases hk:pk=.free
   ·obtain ⟨c,e⟩:=hp (pn,pk) List.mem_cons_self hk;have hco:cellOf env pn=pure c:=by
     unfold cellOf;dsimp only at e;rw[e]
    have hb:(pk==NameKind.free)=true:=by rw[hk];rfl
    obtain ⟨cl,h1,h2,h3,h4⟩:=ih ((pn,c)::cs) (fun q hq=>hp q (List.mem_cons_of_mem _ hq)) (fun y c' e'=>by
     rw[List.lookup_cons]at e';split at e'
     ·rename_i z;have:y=pn:=beq_iff_eq.mp z;subst this;cases e';exact e
     ·exact hc y c' e')
    refine ⟨cl,?_,h2,fun y hy=>?_,fun y c' e'=>?_⟩
    ·rw[if_pos hb,hco,pure_bind,pure_bind];exact h1
    ·rcases List.mem_cons.mp hy with z |z
     ·have:y=pn:=congrArg Prod.fst z;subst this;exact h4 _ c (by rw[List.lookup_cons];simp)
     ·exact h3 y z
    ·by_cases z:y=pn
     ·subst z;exact h4 _ c (by rw[List.lookup_cons];simp)
     ·exact h4 y c' (by rw[List.lookup_cons,beq_eq_false_iff_ne.mpr z];exact e')
   ·have hb:¬(pk==NameKind.free)=true:=by simpa using hk
    obtain ⟨cl,h1,h2,h3,h4⟩:=ih cs (fun q hq=>hp q (List.mem_cons_of_mem _ hq)) hc;refine ⟨cl,?_,h2,fun y hy=>?_,h4⟩
    ·rw[if_neg hb,pure_bind];exact h1
    ·rcases List.mem_cons.mp hy with z |z
     ·exact absurd (congrArg Prod.snd z).symm hk
     ·exact h3 y z
 obtain ⟨cl,h1,h2,h3,_⟩:=key scope.names [] h (fun y c e=>by cases e);refine ⟨cl,?_,h2,h3⟩;unfold closureFor;exact (bind_pure _).trans h1
theorem e9{env:Env}:∀{names:List (Str×NameKind)} {x:Str} {k:NameKind},(names.map fun (n,k)=>if (k==NameKind.free&&env.scope.kind== .function&&env.kindOf n==some .cell)then (n,NameKind.cell)else (n,k)).lookup x=some k→
 k=.cell∨k=.free→(∀y∈names,y.2≠.cell)→(x,NameKind.free)∈names
 | [],_,_,h,_,_=>by simp at h
 |(n,k0)::r,x,k,h,hk,hc=>by
  have h:List.lookup x ((if (k0==NameKind.free&&env.scope.kind== .function&&env.kindOf n==some .cell)=true then (n,NameKind.cell)else (n,k0))::(r.map fun (n,k)=>if (k==NameKind.free&&env.scope.kind== .function&&env.kindOf n==some .cell)then (n,NameKind.cell)else (n,k)))=some k:=h;by_cases hx:x=n
  ·subst hx;by_cases hcnd:(k0==NameKind.free&&env.scope.kind== .function&&env.kindOf x==some .cell)=true
   ·have:k0=.free:=by
     rw[Bool.and_eq_true,Bool.and_eq_true]at hcnd;exact beq_iff_eq.mp hcnd.1.1
    rw[this];exact List.mem_cons_self
   ·rw[if_neg hcnd,List.lookup_cons,beq_self_eq_true]at h;have e:k0=k:=Option.some.inj h;subst e;rcases hk with e |e
    ·exact absurd e (hc (x,k0) List.mem_cons_self)
    ·rw[e];exact List.mem_cons_self
  ·refine List.mem_cons_of_mem _ (e9 (env:=env) (k:=k) ?_ hk fun y hy=>hc y (List.mem_cons_of_mem _ hy));have hb:(x==n)=false:=beq_eq_false_iff_ne.mpr hx;by_cases hcnd:(k0==NameKind.free&&env.scope.kind== .function&&env.kindOf n==some .cell)=true
   ·rw[if_pos hcnd,List.lookup_cons,hb]at h;exact h
   ·rw[if_neg hcnd,List.lookup_cons,hb]at h;exact h
structure CompOk(X:Cx)(x:Str)(js:List Nat)(scope:Scope):Prop where
 kind:scope.kind=.function
 cell:∀y∈scope.names,y.2≠.cell
 loc:∀y∈scope.names,y.2=.local→scope.names.lookup y.1=some .local
 xl:scope.names.lookup x=some .local
 free:∀y∈scope.names,y.2=.free→X.env.kindOf y.1=some .cell∨X.env.kindOf y.1=some .free
 caps:∀j∈js,scope.names.lookup (X.N.getD j x)=some .free
 nd:(x::js.map (fun j=>X.N.getD j x)).Nodup
section
variable{X:Cx}{pins:List (Addr×Obj)}{σ:St}{H:Hp}{s:Shared}
theorem q0b{scope:Scope}{env:Env}{y:Str}(h:scope.names.lookup y=some .free):(relabel scope env).names.lookup y=some .cell∨(relabel scope env).names.lookup y=some .free:=by
 unfold relabel;generalize scope.names=names at h;dsimp only
 induction names with
 |nil=>cases h
 |cons p r ih=>
  obtain ⟨n,k⟩:=p;rw[List.map_cons];dsimp only;by_cases hx:y=n
  ·subst hx;rw[List.lookup_cons,beq_self_eq_true]at h;have e:k=.free:=Option.some.inj h;subst e;by_cases hc:(NameKind.free==NameKind.free&&env.scope.kind== .function&&env.kindOf y==some .cell)=true
   ·rw[if_pos hc,List.lookup_cons,beq_self_eq_true];exact .inl rfl
   ·rw[if_neg hc,List.lookup_cons,beq_self_eq_true];exact .inr rfl
  ·have hb:(y==n)=false:=beq_eq_false_iff_ne.mpr hx;rw[List.lookup_cons,hb]at h;by_cases hc:(k==NameKind.free&&env.scope.kind== .function&&env.kindOf n==some .cell)=true
   ·rw[if_pos hc,List.lookup_cons,hb];exact ih h
   ·rw[if_neg hc,List.lookup_cons,hb];exact ih h
end
end L2
namespace L2
open PySem PySem.Spec PyProof.Rows
structure Loose(X:Cx)(pins:List (Addr×Obj))(H:Hp)(C:Addr):Prop where
 free:H C=none
 ne:C≠X.env.locals
 yng:X.s₀.heap.objs.size≤C
 cell:∀x c,X.env.cells.lookup x=some c→c≠C
 pin:∀p∈X.pn++pins,p.1≠C
section
variable{X:Cx}
end
end L2
namespace L2
open PySem PySem.Spec PyProof.Rows
open PySem.W (XC)
noncomputable def Fly(c:Bool)(h:Heap)(x C:Addr)(od T:Option Addr):Prop:=∃o vs,h.get? x=some o∧o.cls=.ref C∧o.dict=od∧o.data=.fields vs∧(1<vs.size∧(c=true→vs[2]?=some .none))∧
 match T with
 |none=>vs[1]?=some .none
 |some t=>vs[1]?=some (.ref t)∧t≠x∧∃ot ts,h.get? t=some ot∧ot.data=.fields ts∧3<ts.size
theorem s0y(o:Obj)(f):(o.mapFields f).dict=o.dict:=by
 obtain ⟨c,d,dt,sl⟩:=o;cases dt<;>rfl
section
variable{M:Model}{A:Around}{E:Value→Shared→Prop}{s:Shared}
theorem f0o{base:Heap}{env:Env}{outer:List Env}{L x:Addr}{oe:Obj}{vs:Array Value}{head:Value}{hadNext:Bool}{Q:Unit→Shared→Prop}
 (hfr:A.frames=some (env::outer)) (hl:s.heap.FunFrames base (env::outer)) (hf:env.frame=some L) (he:s.heap.get? x=some oe) (hd:oe.data=.fields vs) (hsz:1<vs.size)
 (h:∀h' T,(∀b o,b≠x→b∉frs (env::outer)→s.heap.get? b=some o→h'.get? b=some o)→(∀b o,s.heap.get? b=some o→b≠x→∃sl,h'.get? b=some {o with slots:=sl})→
  h'.get? x=some (oe.mapFields (·.setIfInBounds 1 (.ref T)))→s.heap.objs.size≤T→(∃ot ts,h'.get? T=some ot∧ot.data=.fields ts∧3<ts.size)→Q () {s with heap:=h'}):
 wpAny M A (do let a←frameOf env;let pl←entryPlaceOf L hadNext;let b←EntryCells.newEntry head a .none (rawInt L) .none pl;setField (.ref x) 1 b) Q E s:=by
 have hene:x∉(env::outer).filterMap (·.frame):=fun hm=>by
  obtain ⟨_,o,ho,hnf⟩:=hl.mem hm;rw[he]at ho;injection ho with ho
  subst ho;exact hnf vs hd
 refine wpAny_bind (wpAny_frameOf_fun hfr hl hf fun h₁ hs₁=>?_);refine wpAny_bind (wpAny_entryPlaceOf fun pl hpl=>?_);unfold EntryCells.newEntry newFields;refine wpAny_bind (wpAny_newObj_type ?_ (hpl.sizeOk5 _ _ _ _ _));have he₁:h₁.get? x=some oe:=(hs₁.2.1 x hene).trans he;generalize hO:({cls:=.type "traceback",dict:=none,data:=.fields ([head,.ref L,.none,rawInt L,.none]++(if pl.isEmpty then List.replicate 6 Value.none else pl)).toArray}:Obj)=ot;have hod:ot.data=.fields ([head,.ref L,.none,rawInt L,.none]++(if pl.isEmpty then List.replicate 6 Value.none else pl)).toArray:=by rw[←hO]
 have he₂:=Heap.get?_push_of_some (h:=h₁) ot he₁;refine wpAny_setField he₂ hd hsz ?_;have hTe:h₁.objs.size≠x:=Nat.ne_of_gt (Heap.lt_size he₁);have hd₃:=Obj.data_mapFields hd (·.setIfInBounds 1 (Value.ref h₁.objs.size));have hfree:ot.isFreed=false:=Obj.isFreed_of_fields hod;refine h _ h₁.objs.size (fun b o hbe hbf hb=>?_) (fun b o hb hbe=>?_) (Heap.get?_update_self _ he₂ (Obj.isFreed_of_fields hd₃)) (by rw[hs₁.1];exact Nat.le_refl _) ⟨ot,_,?_,hod,?_⟩
 ·rw[Heap.get?_update_other _ _ (Ne.symm hbe)];exact Heap.get?_push_of_some _ ((hs₁.2.1 b hbf).trans hb)
 ·obtain ⟨sl,e⟩:=hs₁.2.2 b o hb;exact ⟨sl,by rw[Heap.get?_update_other _ _ (Ne.symm hbe)];exact Heap.get?_push_of_some _ e⟩
 ·rw[Heap.get?_update_other _ _ (Ne.symm hTe)];exact Heap.get?_push_size h₁ hfree
 ·simp only[List.size_toArray,List.length_append,List.length_cons,List.length_nil];omega
end
noncomputable def Top(X:Cx):Prop:=X.stack=X.env::X.outer∧X.env.frame=some X.env.locals
section
variable{X:Cx}{pins:List (Addr×Obj)}{σ:St}{H:Hp}{s:Shared}{A:Around}{E:Value→Shared→Prop}{x C:Addr}{od T:Option Addr}{c:Bool}
theorem Inv.stir{h':Heap}{ch:List Addr}(I:Inv X pins σ H s)(hch:∀b∈ch,Loose X pins H b)(tp:Top X)
 (keep:∀b o,b∉ch→b∉frs X.stack→s.heap.get? b=some o→h'.get? b=some o) (slot:∀b o,b∉ch→s.heap.get? b=some o→∃sl,h'.get? b=some {o with slots:=sl})
 (nx:∀b∈ch,∃o,h'.get? b=some o):Inv X pins σ H {s with heap:=h'}:=by
 have mem:∀b,b≠X.env.locals→b∉X.fs→b∉frs X.stack:=fun b h1 h2 h3=>by
  rcases List.mem_cons.mp (I.stkSub b h3)with z |z
  ·exact h1 z
  ·exact h2 z
 refine I.step (g':=s.gens) (d':=s.drawn) (t':=s.toks) (ch:=ch) (fun b hb=>⟨.inr (hch b hb).yng,(hch b hb).ne,(hch b hb).cell,(hch b hb).pin⟩) (fun b o h1 h2 h3 e _=>keep b o h3 (mem b h1 h2) e) (fun b o _ _ h3 e _=>slot b o h3 e) (fun b o _ _ n=>n)
  (fun b o h3 e=>by obtain ⟨sl,q⟩:=slot b o h3 e;exact ⟨_,q⟩) (fun _ _ e=>e) (fun _ _ _ e=>e) (fun b ps e=>⟨#[],by rw[e];simp⟩) (fun m hm=>?_) (fun b u e=>?_) I.bare
 ·obtain ⟨o,es,ep,ho,r⟩:=hm;obtain ⟨sl,q⟩:=slot _ o (fun z=>(hch _ z).ne rfl) ho;exact ⟨_,es,ep,q,r⟩
 ·have nch:∀c v,H c=some v→c∉ch:=fun c v q z=>by rw[(hch c z).free]at q;cases q
  have nfr:∀c v,H c=some v→c∉frs X.stack:=fun c v q z=>by rw[I.stkFree c z]at q;cases q
  refine (I.hok b u e).stay (fun c v hc q=>?_) (fun _ q=>q) fun _ _ q=>q
  rcases hc with z |z
  ·subst z;exact keep c v (nch c _ e) (nfr c _ e) q
  ·exact keep c v (nch c _ z) (nfr c _ z) q
theorem Inv.loose_new(I:Inv X pins σ H s){t:Addr}(h:s.heap.objs.size≤t):Loose X pins H t:=
 ⟨I.hok.fresh h,Nat.ne_of_gt (Nat.lt_of_lt_of_le I.lt h),Nat.le_trans I.sz h,fun y c e=>by obtain ⟨v,z⟩:=I.cell y c e;exact Nat.ne_of_lt (Nat.lt_of_lt_of_le z.lt h),fun p hp=>Nat.ne_of_lt (Nat.lt_of_lt_of_le (Heap.lt_size (I.pin p hp).1) h)⟩
theorem m0d{M:Model}{Q:Unit→Shared→Prop}{head:Value}{hadNext:Bool}(I:Inv X pins σ H s)(tp:Top X)(hA:A.frames=some X.stack)(f:Fly c s.heap x C od T)(lx:Loose X pins H x)
 (h:∀s' t,Inv X pins σ H s'→Fly c s'.heap x C od (some t)→Loose X pins H t→Q () s'):
 wpAny M A (do let a←frameOf X.env;let pl←entryPlaceOf X.env.locals hadNext;let b←EntryCells.newEntry head a .none (rawInt X.env.locals) .none pl;setField (.ref x) 1 b) Q E s:=by
 obtain ⟨t1,tf⟩:=id tp;rw[t1]at hA;have hlF:s.heap.FunFrames X.base (X.env::X.outer):=t1▸I.stack;obtain ⟨o,vs,hx,hc,hd,hdat,hsz,_⟩:=f;refine f0o hA hlF tf hx hdat hsz.1 fun h' t k1 k2 k3 k4 ⟨ot,ts,k5,k6,k7⟩=>h _ t ?_ ?_ (I.loose_new k4)
 ·refine I.stir (ch:=[x]) (fun b hb=>by rw[List.mem_singleton.mp hb];exact lx) tp (fun b o hb hf e=>k1 b o (fun z=>hb (by simp[z])) (by rw[←t1];exact hf) e) (fun b o hb e=>k2 b o e fun z=>hb (by simp[z])) (fun b hb=>by rw[List.mem_singleton.mp hb];exact ⟨_,k3⟩)
 ·have hne:t≠x:=Nat.ne_of_gt (Nat.lt_of_lt_of_le (Heap.lt_size hx) k4);refine ⟨_,_,k3,(Obj.cls_mapFields _ _).trans hc,(s0y _ _).trans hd,Obj.data_mapFields hdat _,⟨by simpa using hsz.1,fun z=>by simpa using hsz.2 z⟩,by simp[hsz.1],hne,ot,ts,k5,k6,k7⟩
theorem u0i{M:Model}{Q:Unit→Shared→Prop}(I:Inv X pins σ H s)(tp:Top X)(hA:A.frames=some X.stack)(f:Fly c s.heap x C od T)(lx:Loose X pins H x)(lt:∀t,T=some t→Loose X pins H t)
 (h:∀s' t,Inv X pins σ H s'→Fly c s'.heap x C od (some t)→Loose X pins H t→Q () s'):wpAny M A (noteFrame (.ref x) X.env) Q E s:=by
 obtain ⟨o,vs,hx,hc,hd,hdat,hsz,hT⟩:=id f;unfold noteFrame;simp only[tp.2];cases T with
 |none=>
  refine wpAny_bind (wpAny_field hx hdat hT ?_);rw[if_neg (by decide)];exact m0d I tp hA f lx h
 |some t=>
  obtain ⟨h1,hne,ot,ts,ht,htd,hts⟩:=hT;have lt:=lt t rfl;refine wpAny_bind (wpAny_field hx hdat h1 ?_);rw[if_pos (show (Value.ref t !=Value.none)=true from by simp)];have h3:ts[3]?=some ts[3]:=by simp[hts]
  refine wpAny_bind (wpAny_field ht htd h3 ?_);by_cases q:(ts[3]==rawInt X.env.locals)=true
  ·rw[if_pos q];exact wpAny_pure (h s t I f lt)
  ·rw[if_neg q];refine wpAny_bind (wpAny_setField ht htd hts ?_);have other:∀b,b≠t→(s.heap.update t (Obj.mapFields (·.setIfInBounds 3 Value.none))).get? b=s.heap.get? b:=fun b hb=>Heap.get?_update_other _ _ (Ne.symm hb)
   have ht':=Heap.get?_update_self (Obj.mapFields (·.setIfInBounds 3 Value.none)) ht (Obj.isFreed_of_fields (Obj.data_mapFields htd _));have I1:Inv X pins σ H {s with heap:=s.heap.update t (Obj.mapFields (·.setIfInBounds 3 Value.none))}:=
    I.stir (ch:=[t]) (fun b hb=>by rw[List.mem_singleton.mp hb];exact lt) tp (fun b o hb hf e=>(other b fun z=>hb (by simp[z])).trans e) (fun b o hb e=>⟨o.slots,(other b fun z=>hb (by simp[z])).trans e⟩) (fun b hb=>by rw[List.mem_singleton.mp hb];exact ⟨_,ht'⟩)
   exact m0d (T:=some t) I1 tp hA ⟨o,vs,(other x (Ne.symm hne)).trans hx,hc,hd,hdat,hsz,h1,hne,_,_,ht',Obj.data_mapFields htd _,by simpa using hts⟩ lx h
theorem m7{M:Model}{fr:Option Addr}{Q:Unit→Shared→Prop}(I:Inv X pins σ H s)(tp:Top X)(f:Fly c s.heap x C od T)(lt:∀t,T=some t→Loose X pins H t)
 (h:∀s',Inv X pins σ H s'→Fly c s'.heap x C od T→Q () s'):wpAny M A (setFlight (.ref x) fr) Q E s:=by
 obtain ⟨o,vs,hx,hc,hd,hdat,hsz,hT⟩:=id f;unfold setFlight;cases T with
 |none=>
  refine wpAny_bind (wpAny_field hx hdat hT ?_);rw[if_neg (by decide)];exact wpAny_pure (h s I f)
 |some t=>
  obtain ⟨h1,hne,ot,ts,ht,htd,hts⟩:=hT;have lt:=lt t rfl;refine wpAny_bind (wpAny_field hx hdat h1 ?_);rw[if_pos (show (Value.ref t !=Value.none)=true from by simp)];refine wpAny_setField ht htd hts (h _ ?_ ?_)
  ·have other:∀b,b≠t→(s.heap.update t (Obj.mapFields (·.setIfInBounds 3 (fr.elim Value.none fun f=>rawInt f)))).get? b=s.heap.get? b:=fun b hb=>Heap.get?_update_other _ _ (Ne.symm hb)
   have ht':=Heap.get?_update_self (Obj.mapFields (·.setIfInBounds 3 (fr.elim Value.none fun f=>rawInt f))) ht (Obj.isFreed_of_fields (Obj.data_mapFields htd _));exact I.stir (ch:=[t]) (fun b hb=>by rw[List.mem_singleton.mp hb];exact lt) tp (fun b o hb hf e=>(other b fun z=>hb (by simp[z])).trans e) (fun b o hb e=>⟨o.slots,(other b fun z=>hb (by simp[z])).trans e⟩) (fun b hb=>by rw[List.mem_singleton.mp hb];exact ⟨_,ht'⟩)
  ·have ht':=Heap.get?_update_self (Obj.mapFields (·.setIfInBounds 3 (fr.elim Value.none fun f=>rawInt f))) ht (Obj.isFreed_of_fields (Obj.data_mapFields htd _));exact ⟨o,vs,(Heap.get?_update_other _ _ hne).trans hx,hc,hd,hdat,hsz,h1,hne,_,_,ht',Obj.data_mapFields htd _,by simpa using hts⟩
end
end L2
namespace L2
open PySem PySem.Spec PyProof.Rows
open PySem.W (XC)
noncomputable abbrev XW:=Addr→Option Addr→St→Hp→Prop
noncomputable def f0n(X:Cx)(pins:List (Addr×Obj))(W:XW)(e:Value)(s:Shared):Prop:=
 ∃x C od T σ H,e=.ref x∧Inv X pins σ H s∧Fly X.fl s.heap x C od T∧Loose X pins H x∧(∀t,T=some t→Loose X pins H t)∧W C od σ H
noncomputable def e8(X:Cx)(W:XW):Prop:=∀pins e s,f0n X pins W e s→X.xe e s
noncomputable def CXc(c:Bool)(P:Program)(w:World):CXT:=fun outer H s E e s'=>
 ∃x C od T H',e=.ref x∧s'.os=s.os∧AllBare s'.gens∧Un (frs outer) [] H H' s.heap s'.heap∧HOk P w H' s'.heap∧Fly c s'.heap x C od T∧H' x=none∧s.heap.objs.size≤x∧(∀t,T=some t→H' t=none∧s.heap.objs.size≤t)∧E (.ref C) od H'
noncomputable abbrev CX1(P:Program)(w:World):CXT:=CXc true P w
theorem Fly.weak{h:Heap}{x C:Addr}{od T:Option Addr}{c:Bool}(f:Fly true h x C od T):Fly c h x C od T:=by
 obtain ⟨o,vs,hx,hc,hd,hdat,hsz,hT⟩:=f;exact ⟨o,vs,hx,hc,hd,hdat,⟨hsz.1,fun _=>hsz.2 rfl⟩,hT⟩
section
variable{X:Cx}{pins:List (Addr×Obj)}{σ:St}{H:Hp}{s:Shared}{A:Around}{E:Value→Shared→Prop}
theorem m0c{W:XW}{e:Value}{s':Shared}(I:Inv X pins σ H s)(h:CX1 X.prog X.w X.stack H s (fun Cv od H'=>∃C,Cv=.ref C∧W C od σ H') e s'):f0n X pins W e s':=by
 obtain ⟨x,C,od,T,H',rfl,os,bare,un,hok,f,hx,hy,ht,C',ec,q⟩:=h;cases ec;have I':Inv X pins σ H' s':=I.call' (ch:=[]) os un hok bare fun b z=>by cases z
 have ls:∀t,H' t=none→s.heap.objs.size≤t→Loose X pins H' t:=fun t h0 hz=>by
  have l:=I.loose_new hz;exact ⟨h0,l.ne,l.yng,l.cell,l.pin⟩
 exact ⟨x,C,od,T,σ,H',rfl,I',f.weak,ls x hx hy,fun t e=>ls t (ht t e).1 (ht t e).2,q⟩
noncomputable def m0b(sp:Sp)(W:XW)(t:TA):TE:=fun σ H Q=>t σ H fun vs H1=>sp vs H1 Q fun Cv od H'=>∃C,Cv=.ref C∧W C od σ H'
theorem b0k{k:Nat}{f:Addr}{fd:FuncData}{ps:List Str}{sp:Sp}{W:XW}{Q:VK}{us:List Value}{vs:List V}(F:FnOk X.prog X.w X.K X.mg X.base (CX1 X.prog X.w) k f fd ps sp)(hr:Room k X.A)(hb:Binds X.K fd ps [])(hf:e8 X W)
 (I:Inv X pins σ H s) (r:Vals vs us) (h:sp vs H Q fun Cv od H'=>∃C,Cv=.ref C∧W C od σ H'):wpAny (model X.prog X.w) X.A (call (.ref f) us) (EP X pins σ Q) X.xe s:=by
 have hl:(us++[]).length=ps.length:=by rw[List.append_nil,← r.length];exact F.len _ _ _ _ h
 have hbd:=hb s us I.kIn hl;rw[List.append_nil]at hbd;refine wpAny_call (codeAny_mono (F.run X.A X.stack s H ⟨us,[]⟩ us vs Q _ hr I.env0 hbd r h) fun r s' hq=>?_);cases r with
 |error e=>exact hf pins e s' (m0c I hq)
 |ok fl=>
  cases fl with
  |ret u=>exact I.after hq
  |next=>exact False.elim hq
  |brk=>exact False.elim hq
  |cont=>exact False.elim hq
theorem f0m{k:Nat}{f:Addr}{fd:FuncData}{ps:List Str}{sp:Sp}{W:XW}{x:Str}{p pos:Pos}{e:Expr}{es:List Expr}{t:TA}(F:FnOk X.prog X.w X.K X.mg X.base (CX1 X.prog X.w) k f fd ps sp)(hr:Room k X.A)(hg:Gl X x)(hm:X.mg x=some (.ref f))
 (hk:PySem.W.keepIn X.K (.ref f)=true) (hb:Binds X.K fd ps []) (hf:e8 X W)
 (ha:PA X (e::es) t) (hdb:(x==("__debug__":Str))=false:=by decide) (he:starEach (e::es) X.env=(false,eval e X.env)::starEach es X.env:=by rfl) (hpl:(backTo pos (starEach es X.env)).any (·.1)=false:=by rfl):
 PE X (.Call (.Name x p) (e::es) [] pos) (m0b sp W t):=by
 intro pins s σ H Q I h;refine wpAny_Call_Name_kw (g8 I hg hm ?_ hdb);refine PySem.W.callWith_K (h₀:=X.base) I.ok.mod.kin hk (thn (ha pos pins s σ H _ I h) fun us s1 ⟨vs,H1,I1,r,q⟩=>⟨I1.kIn,?_⟩) he hpl;exact b0k F hr hb hf I1 r q
noncomputable def tMakeX(C:Addr)(sp:Sp)(W:XW)(t:TA):TE:=fun σ H Q=>t σ H fun vs H1=>∀x dx,H1 x=none→H1 dx=none→dx≠x→
 sp (.ref x::vs) (upd (upd H1 dx (.own x)) x (.ins C dx [])) (fun v H2=>v=.non∧Q (.ref x) H2) fun Cv od H'=>∃C,Cv=.ref C∧W C od σ H'
theorem f0l{k:Nat}{f C:Addr}{fd:FuncData}{ps:List Str}{sp:Sp}{W:XW}{x:Str}{p pos:Pos}{e:Expr}{es:List Expr}{t:TA}(M:Mk X.K C f)(F:FnOk X.prog X.w X.K X.mg X.base (CX1 X.prog X.w) k f fd ps sp)(hr:Room (k+1) X.A)(hg:Gl X x)
 (hm:X.mg x=some (.ref C)) (hb:Binds X.K fd ps []) (hf:e8 X W)
 (ha:PA X (e::es) t) (hdb:(x==("__debug__":Str))=false:=by decide) (he:starEach (e::es) X.env=(false,eval e X.env)::starEach es X.env:=by rfl) (hpl:(backTo pos (starEach es X.env)).any (·.1)=false:=by rfl):
 PE X (.Call (.Name x p) (e::es) [] pos) (tMakeX C sp W t):=by
 intro pins s σ H Q I h;refine wpAny_Call_Name_kw (g8 I hg hm ?_ hdb);refine PySem.W.callWith_K (h₀:=X.base) I.ok.mod.kin M.kp (thn (ha pos pins s σ H _ I h) fun us s1 ⟨vs,H1,I1,r,q⟩=>⟨I1.kIn,?_⟩) he hpl;have hq:=q (s1.heap.objs.size+1) s1.heap.objs.size (I1.hok.fresh (Nat.le_succ _)) (I1.hok.fresh (Nat.le_refl _)) (Nat.ne_of_lt (Nat.lt_succ_self _));have I2:=Inv.made (C:=C) I1;have r2:Vals (V.ref (s1.heap.objs.size+1)::vs) (Value.ref (s1.heap.objs.size+1)::us):=.cons rfl r;have hl:(Value.ref (s1.heap.objs.size+1)::us++[]).length=ps.length:=by
  have e:=r2.length;rw[F.len _ _ _ _ hq]at e;rw[List.append_nil];exact e.symm
 have hbd:=hb _ (Value.ref (s1.heap.objs.size+1)::us) I2.kIn hl;rw[List.append_nil]at hbd;refine wpAny_call (f0x (f:=f) I1.kIn M.makes M.init (beq_iff_eq.mp M.fn) (codeAny_mono (F.run _ X.stack _ _ ⟨Value.ref (s1.heap.objs.size+1)::us,[]⟩ (Value.ref (s1.heap.objs.size+1)::us) _ _ _ (hr.make C us [])
  (I2.env0.make C us []) hbd r2 hq) fun r s' hq'=>?_))
 cases r with
 |error e=>exact hf pins e s' (m0c I2 hq')
 |ok fl=>
  cases fl with
  |ret u=>
   obtain ⟨v,H',I3,rv,ev,q3⟩:=I2.after hq';subst ev;exact ⟨rv,⟨V.ref (s1.heap.objs.size+1),H',I3,rfl,q3⟩⟩
  |next=>exact False.elim hq'
  |brk=>exact False.elim hq'
  |cont=>exact False.elim hq'
end
section
variable{P:Program}{w:World}{K:PySem.W.Frag}{mg:Str→Option Value}{base:Heap}
noncomputable abbrev cxX(P:Program)(w:World)(K:PySem.W.Frag)(mg:Str→Option Value)(base:Heap)(N:List Str)(qual:Str)(scope:Scope)(f:Addr)(cd:Value)(A:Around)(outer:List Env)(s:Shared)(H:Hp)(E:XK):Cx:=
 cxOf (CX1 P w) P w K mg base N qual scope f cd A outer s H E
theorem o0{N:List Str}{qual:Str}{scope:Scope}{f:Addr}{cd:Value}{A:Around}{outer:List Env}{s:Shared}{H:Hp}{E:XK}:e8 (cxX P w K mg base N qual scope f cd A outer s H E) fun C od _ H'=>E (.ref C) od H':=by
 intro pins e s' h;obtain ⟨x,C,od,T,σ,H',rfl,I,ff,lx,lt,q⟩:=h;have tp:Top (cxX P w K mg base N qual scope f cd A outer s H E):=⟨rfl,rfl⟩;show wpAny _ _ (leaving _ (.ref x)) _ _ _;unfold leaving;refine wpAny_bind (u0i I tp I.ok.frames ff lx lt fun s1 t I1 f1 l1=>m7 I1 tp f1 (fun t' e=>by cases e;exact l1) fun s2 I2 f2=>?_);exact ⟨x,C,od,some t,H',rfl,I2.os,I2.bare,I2.base,I2.hok,f2,lx.free,lx.yng,fun t' e=>by cases e;exact ⟨l1.free,l1.yng⟩,q⟩
theorem Fun.okX{x qual:Str}{st:Stmt}{f:Addr}{fd:FuncData}{N ps:List Str}{k:Nat}{sp:Sp}(F:Fun K x qual st f fd)(S:FnScope N ps (defScope st))(len:∀vs H Q E,sp vs H Q E→vs.length=ps.length)
 (hbody:∀(cdv:Value) (A:Around) (outer:List Env) (s:Shared) (H:Hp) (vs:List V) (Q:VK) (E:XK),Room k (A.deeper (envOfC qual (defScope st) s.heap.objs.size f cdv))→sp vs H Q E→
  ∃t,PSs (cxX P w K mg base N qual (defScope st) f cdv A outer s H E) (defBody st) t∧t {nx:=fun _ H'=>Q .non H',rt:=Q} (start N vs) H):FnOk P w K mg base (CX1 P w) (k+1) f fd ps sp:=by
 obtain ⟨oc,od,kV,doc,pm,an,cdv,ct,osl,rfl,lk,hcd⟩:=F.ex;exact b0s lk hcd S len fun A outer s H vs Q E hr hsp=>hbody cdv A outer s H vs Q E hr hsp
end
section
variable{X:Cx}{pins:List (Addr×Obj)}{σ:St}{H:Hp}{s:Shared}
noncomputable def drop(H:Hp)(x:Addr):Hp:=fun b=>if b=x then none else H b
theorem y0m{H:Hp}{x b:Addr}(h:b≠x):drop H x b=H b:=if_neg h
theorem d9{H:Hp}{x:Addr}:drop H x x=none:=if_pos rfl
theorem Inv.drop{φ:Heap→Prop}{x:Addr}(I:Inv X pins σ H s)(e:H x=some (.ext φ)):Inv X pins σ (drop H x) s:=by
 have ne:∀b u,H b=some u→(∀ ψ,u≠.ext ψ)→b≠x:=fun b u q n z=>by rw[z,e]at q;exact n φ (Option.some.inj q).symm
 have nn:∀b,H b=none→L2.drop H x b=none:=fun b q=>by
  by_cases z:b=x
  ·rw[z];exact d9
  ·rw[y0m z];exact q
 have hown:∀b a,H b=some (.own a)→L2.drop H x b=some (.own a):=fun b a q=>by rw[y0m (ne b _ q fun ψ z=>by cases z)];exact q
 have htup:∀b xs,H b=some (.tup xs)→L2.drop H x b=some (.tup xs):=fun b xs q=>by rw[y0m (ne b _ q fun ψ z=>by cases z)];exact q
 refine ⟨I.ok,I.os,I.bare,⟨I.base.keep,I.base.slot,fun b o q n hx=>nn b (I.base.free b o q n hx),I.base.there,fun b xs q=>htup b xs (I.base.tups b xs q),fun b o u q=>?_,fun b ps q=>?_⟩,I.loc,I.cell,nn _ I.free,fun y c q=>nn c (I.freeC y c q),fun p hp=>?_,fun b u q=>?_,I.len⟩
 ·have z:=I.base.frzs b o u q;rw[y0m (ne b _ z fun ψ z=>by cases z)];exact z
 ·obtain ⟨m,z⟩:=I.base.tbls b ps q;exact ⟨m,by rw[y0m (ne b _ z fun ψ z=>by cases z)];exact z⟩
 ·obtain ⟨a,b,c⟩:=I.pin p hp;exact ⟨a,nn _ b,c⟩
 ·have hb:b≠x:=fun z=>by rw[z,d9]at q;cases q
  rw[y0m hb]at q;exact (I.hok b u q).stay (fun _ _ _ z=>z) (fun c z=>hown c _ z) fun c xs z=>htup c xs z
theorem j0b{M:Model}{A:Around}{E:Value→Shared→Prop}{env:Env}{xt:Sem Value}{Q:Flow→Shared→Prop}{C:Addr}{s:Shared}(hh:A.handled=none)
 (h:wpAny M A xt (fun v s1=>∃e od vs nm qn N bs bm hdct sn sub ab col dd k0 k1 k2 k3 k5 nid,v=.ref e∧s1.heap.get? C=some (excClassObj nm qn C N bs bm hdct sn sub ab col dd k0 k1 k2 k3 k5 nid)∧bm.contains (.type "BaseException")=true∧
  s1.heap.get? e=some ⟨.ref C,od,.fields vs,#[]⟩∧vs[1]?=some .none∧E (.ref e) s1) E s):
 wpAny M A (raiseStmt env (some xt) none) Q E s:=by
 unfold raiseStmt;refine wpAny_bind (wpAny_mono h (fun v s1 h1=>?_) fun _ _ x=>x);obtain ⟨e,od,vs,nm,qn,N,bs,bm,hdct,sn,sub,ab,col,dd,k0,k1,k2,k3,k5,nid,rfl,hC,hb,he,hv,hE⟩:=h1;have hcB:(Value.ref C::bm).contains (.type "BaseException")=true:=by rw[List.contains_cons,hb,Bool.or_true]
 obtain ⟨hp,g,d,tk,os⟩:=s1
 repeat (first |with_reducible refine wpAny_loadPart_at he ?_ |with_reducible refine wpAny_loadPart_at hC ?_ |(with_reducible refine wpAny_isSubtype_exc hC ?_;rw[hcB])|wp_step)
 rw[hv];refine wpAny_pure ?_;rw[if_neg (by decide)];exact wpAny_pure (wpAny_raiseNew_none hh hE)
theorem f0k{M:Model}{C x:Addr}{od:Option Addr}{W:XW}(hf:e8 X W)(I:Inv X pins σ H s)(e:H x=some (XO 1 x C od))(hK:xcIn X.K C=true)(hy:X.s₀.heap.objs.size≤x)(q:W C od σ (L2.drop H x)):
 ∃e' od' vs nm qn N bs bm hdct sn sub ab col dd k0 k1 k2 k3 k5 nid,Value.ref x=.ref e'∧s.heap.get? C=some (excClassObj nm qn C N bs bm hdct sn sub ab col dd k0 k1 k2 k3 k5 nid)∧bm.contains (.type "BaseException")=true∧
  s.heap.get? e'=some ⟨.ref C,od',.fields vs,#[]⟩∧vs[1]?=some .none∧X.xe (.ref e') s:=by
 obtain ⟨o,vs,hx,h1,h2,h3,h40⟩:=XO.get I.hok e;obtain ⟨h4,h5,h7⟩:=h40.1 rfl;have h6:=h40.2;clear h40;obtain ⟨nm,qn,N,bs,bm,hdct,sn,sub,ab,col,dd,k0,k1,k2,k3,k5,hC,hT⟩:=m0f I.kIn hK;have I':=Inv.drop I e;obtain ⟨oc,odd,odt,osl⟩:=o;dsimp only at h1 h2 h3 h4;subst h1 h2 h3 h4;refine ⟨x,odd,vs,nm,qn,N,bs,bm,hdct,sn,sub,ab,col,dd,k0,k1,k2,k3,k5,_,rfl,hC,hT.hasType rfl,hx,h5,?_⟩;refine hf pins _ _ ⟨x,C,odd,none,σ,_,rfl,I',⟨_,vs,hx,rfl,rfl,rfl,⟨(Array.getElem?_eq_some_iff.mp h5).1,fun _=>h6 (by decide)⟩,h5⟩,⟨d9,fun z=>?_,hy,fun y c q z=>?_,fun p hp z=>?_⟩,(fun t z=>by cases z),q⟩
 ·have:=I.free;rw[←z,e]at this;cases this
 ·have:=I.freeC y c q;rw[z,e]at this;cases this
 ·have:=(I.pin p hp).2.1;rw[z,e]at this;cases this
noncomputable def j0a(C:Addr)(sp:Sp)(W:XW)(t:TA):TS:=fun _ σ H=>t σ H fun vs H1=>vs.length≤sizeLine∧∀x,H1 x=none→
 sp (.ref x::vs) (upd H1 x (XO 1 x C none)) (fun v H2=>v=.non∧∃od,H2 x=some (XO 1 x C od)∧W C od σ (L2.drop H2 x)) E0
theorem i0z{k:Nat}{f C:Addr}{fd:FuncData}{ps:List Str}{sp:Sp}{W:XW}{x:Str}{p cpos pos:Pos}{e:Expr}{es:List Expr}{t:TA}(hc:X.calm=true)(hf:e8 X W)(M:XMk X.K C f)(F:FnOk X.prog X.w X.K X.mg X.base CX0 k f fd ps sp)(hr:Room (k+1) X.A)
 (hg:Gl X x) (hm:X.mg x=some (.ref C)) (hb:Binds X.K fd ps [])
 (ha:PA X (e::es) t) (hdb:(x==("__debug__":Str))=false:=by decide) (he:starEach (e::es) X.env=(false,eval e X.env)::starEach es X.env:=by rfl) (hpl:(backTo cpos (starEach es X.env)).any (·.1)=false:=by rfl):
 PS X (.Raise (some (.Call (.Name x p) (e::es) [] cpos)) none pos) (j0a C sp W t):=by
 intro pins s σ H D I h;show wpAny _ _ (do standAt pos;raiseStmt X.env (some (do let v←eval (.Call (.Name x p) (e::es) [] cpos) X.env;standAt pos;pure v)) none) _ _ _;refine wpAny_bind (wpAny_standAt (j0b (C:=C) (I.ok.hd hc) (wpAny_bind (thn (Q:=fun v s1=>∃x H2 od,v=.ref x∧X.s₀.heap.objs.size≤x∧Inv X pins σ H2 s1∧H2 x=some (XO 1 x C od)∧W C od σ (L2.drop H2 x)) ?_ fun v s1 ⟨x,H2,od,ev,hy,I2,e2,q2⟩=>wpAny_bind (wpAny_standAt (wpAny_pure ?_))))))
 ·refine wpAny_Call_Name_kw (g8 I hg hm ?_ hdb);refine PySem.W.callWith_K (h₀:=X.base) I.ok.mod.kin M.kp (thn (ha cpos pins s σ H _ I h) fun us s1 ⟨vs,H1,I1,r,hz,q⟩=>⟨I1.kIn,?_⟩) he hpl;refine thn (q0c (Q:=fun v H2=>∃od,H2 (s1.heap.objs.size+1)=some (XO 1 (s1.heap.objs.size+1) C od)∧W C od σ (L2.drop H2 (s1.heap.objs.size+1))) M F hr hb (pass0 (X:=X)) I1 r hz (q _ (I1.hok.fresh (Nat.le_succ _)))) fun v s2 ⟨ev,y,H2,I2,ry,od,q1,q2⟩=>?_
  exact ⟨_,H2,od,ev,Nat.le_trans I1.sz (Nat.le_succ _),I2,q1,q2⟩
 ·subst ev;exact f0k (M:=model X.prog X.w) hf I2 e2 M.sh hy q2
end
end L2
namespace L2
open PySem PySem.Spec PyProof.Rows
open PySem.W (XC)
section
variable{X:Cx}{pins:List (Addr×Obj)}{σ:St}{H:Hp}{s:Shared}
theorem r0u{M:Model}{A:Around}{E:Value→Shared→Prop}{i:Nat}{n:Str}{pos:Pos}{Q:Unit→Shared→Prop}(I:Inv X pins σ H s)(hN:X.N.Nodup)(hi:X.N[i]?=some n)(hk:X.env.scope.names.lookup n=some .local)
 (h:∀s',Inv X pins (σ.set i none) H s'→Q () s'):wpAny M A (do bindName X.env n .none;unbindBehindTheSuite X.env n pos) Q E s:=by
 have hcls:(X.env.scope.kind== .class||(X.env.scope.kind== .module&&X.env.locals !=X.env.globals))=false:=by rw[I.ok.kind];rfl
 refine wpAny_bind (wpAny_bindName (v0b (v:=.non) I hN hi (.inl hk) rfl (fun s1 I1=>?_) (.inr hk)));unfold unbindBehindTheSuite;refine wpAny_onRaise ?_;obtain ⟨m,hn,hl⟩:=id I1.loc;have hiσ:i<σ.length:=by rw[I.len];exact (List.getElem?_eq_some_iff.mp hi).1
 obtain ⟨u,ru,l⟩:=hl i n .non hi (List.getElem?_set_self hiσ) (.inl hk);have hm:m n=some u:=by
  rcases l with ⟨_,z⟩|⟨z,_⟩
  ·exact z
  ·have z':X.env.scope.names.lookup n=some .cell∨X.env.scope.names.lookup n=some .free:=z;rw[hk]at z';rcases z' with z' |z'<;>cases z'
 refine wpAny_unbindName_local hk hn hm hcls fun h' w hn' hs=>h _ ?_
 have cne:=I1.cne;obtain ⟨oL,_,_,hoL,_⟩:=id hn;have up:∀b,X.s₀.heap.objs.size≤X.env.locals→∀o,X.s₀.heap.get? b=some o→b≠X.env.locals:=fun b hz o e=>Nat.ne_of_lt (Nat.lt_of_lt_of_le (Heap.lt_size e) hz)
 refine ⟨I1.ok,I1.os,I1.bare,⟨fun b o e n hb hx=>?_,fun b o e n hb hx=>?_,I1.base.free,fun b o e hx=>?_,I1.base.tups,I1.base.frzs,I1.base.tbls⟩,⟨_,hn',fun j y v' e1 e2 e3=>?_⟩,fun y c e=>?_,I1.free,I1.freeC,fun p hp=>?_,fun b ob e=>?_,?_⟩
 ·exact (hs.2 b (up b I1.ok.above o e)).trans (I1.base.keep b o e n hb hx)
 ·obtain ⟨sl,q⟩:=I1.base.slot b o e n hb hx;exact ⟨sl,(hs.2 b (up b I1.ok.above o e)).trans q⟩
 ·obtain ⟨o',q⟩:=I1.base.there b o e hx;exact ⟨o',(hs.2 b (up b I1.ok.above o e)).trans q⟩
 ·by_cases hj:j=i
  ·subst hj;rw[List.getElem?_set_self hiσ]at e2;cases e2
  ·rw[List.getElem?_set_ne (Ne.symm hj)]at e2;obtain ⟨u',r',q⟩:=hl j y v' e1 (by rw[List.getElem?_set_ne (Ne.symm hj)];exact e2) e3;refine ⟨u',r',?_⟩;rcases q with ⟨k,e⟩|⟨k,c,e,z⟩
   ·refine .inl ⟨k,?_⟩;have:y≠n:=fun e=>hj (s0a hN e1 (e▸hi))
    simp[this,e]
   ·exact .inr ⟨k,c,e,z.sameBut hs (cne y c e)⟩
 ·obtain ⟨w',z⟩:=I1.cell y c e;exact ⟨w',z.sameBut hs (cne y c e)⟩
 ·obtain ⟨e,n,ne,nf,d⟩:=I1.pin p hp;exact ⟨(hs.2 p.1 ne).trans e,n,ne,nf,d⟩
 ·refine (I1.hok b ob e).stay (fun c w' hc q=>(hs.2 c ?_).trans q) (fun _ q=>q) fun _ _ q=>q
  intro z;have fr:=I1.free;rw[←z]at fr;rcases hc with hc |hc
  ·rw[hc,e]at fr;cases fr
  ·rw[hc]at fr;cases fr
 ·rw[List.length_set];exact I.len
noncomputable abbrev Cx.more(X:Cx)(pins:List (Addr×Obj)):Cx:={X with pn:=X.pn++pins}
noncomputable abbrev Cx.tr(X:Cx)(pins:List (Addr×Obj))(W:XW):Cx:={X with pn:=X.pn++pins,xe:=fun e s'=>f0n (X.more pins) [] W e s'}
noncomputable abbrev Cx.hdl(X:Cx)(x:Addr):Cx:={X with A:=X.A.mark (some (.ref x)),calm:=false,fl:=false,xe:=fun _ _=>False}
theorem okMore(ok:X.Ok):(X.more pins).Ok:=⟨ok.mod,ok.kind,ok.glob,ok.blt,ok.above,ok.inj,ok.has,ok.cab,ok.hd,ok.frames,ok.stk,ok.exf,ok.bs,ok.bsz,ok.noex,ok.exfs,ok.funs,ok.frf⟩
theorem Inv.tr{W:XW}(I:Inv X pins σ H s):Inv (X.tr pins W) [] σ H s:=
 ⟨⟨I.ok.mod,I.ok.kind,I.ok.glob,I.ok.blt,I.ok.above,I.ok.inj,I.ok.has,I.ok.cab,I.ok.hd,I.ok.frames,I.ok.stk,I.ok.exf,I.ok.bs,I.ok.bsz,I.ok.noex,I.ok.exfs,I.ok.funs,I.ok.frf⟩,I.os,I.bare,I.base,I.loc,I.cell,I.free,I.freeC,fun p hp=>I.pin p (by simpa using hp),I.hok,I.len⟩
theorem Inv.untr{pins':List (Addr×Obj)}{Y:Cx}{W:XW}(hY:Y=X.tr pins W∨Y=X.more pins)(I:Inv Y pins' σ H s):Inv X pins σ H s:=by
 rcases hY with rfl |rfl
 ·exact ⟨⟨I.ok.mod,I.ok.kind,I.ok.glob,I.ok.blt,I.ok.above,I.ok.inj,I.ok.has,I.ok.cab,I.ok.hd,I.ok.frames,I.ok.stk,I.ok.exf,I.ok.bs,I.ok.bsz,I.ok.noex,I.ok.exfs,I.ok.funs,I.ok.frf⟩,I.os,I.bare,I.base,I.loc,I.cell,I.free,I.freeC,fun p hp=>I.pin p (List.mem_append_left _ hp),I.hok,I.len⟩
 ·exact ⟨⟨I.ok.mod,I.ok.kind,I.ok.glob,I.ok.blt,I.ok.above,I.ok.inj,I.ok.has,I.ok.cab,I.ok.hd,I.ok.frames,I.ok.stk,I.ok.exf,I.ok.bs,I.ok.bsz,I.ok.noex,I.ok.exfs,I.ok.funs,I.ok.frf⟩,I.os,I.bare,I.base,I.loc,I.cell,I.free,I.freeC,fun p hp=>I.pin p (List.mem_append_left _ hp),I.hok,I.len⟩
theorem Inv.hdl{x:Addr}(I:Inv X pins σ H s):Inv (X.hdl x) pins σ H s:=
 ⟨⟨I.ok.mod,I.ok.kind,I.ok.glob,I.ok.blt,I.ok.above,I.ok.inj,I.ok.has,I.ok.cab,(fun z=>by cases z),I.ok.frames,I.ok.stk,I.ok.exf,I.ok.bs,I.ok.bsz,I.ok.noex,I.ok.exfs,I.ok.funs,I.ok.frf⟩,I.os,I.bare,I.base,I.loc,I.cell,I.free,I.freeC,I.pin,I.hok,I.len⟩
theorem Inv.unhdl{x:Addr}(ok:X.Ok)(I:Inv (X.hdl x) pins σ H s):Inv X pins σ H s:=⟨ok,I.os,I.bare,I.base,I.loc,I.cell,I.free,I.freeC,I.pin,I.hok,I.len⟩
theorem m0a{W:XW}:e8 (X.tr pins W) W:=by
 intro pins' e s' h;obtain ⟨x,C,od,T,σ,H',rfl,I,f,lx,lt,q⟩:=h;have ls:∀t,Loose (X.tr pins W) pins' H' t→Loose (X.more pins) [] H' t:=fun t l=>⟨l.free,l.ne,l.yng,l.cell,fun p hp=>l.pin p (List.mem_append_left _ (by simpa using hp))⟩
 have I0:Inv X pins σ H' s':=I.untr (W:=W) (.inl rfl);exact ⟨x,C,od,T,σ,H',rfl,⟨okMore I0.ok,I.os,I.bare,I.base,I.loc,I.cell,I.free,I.freeC,fun p hp=>I0.pin p (by simpa using hp),I.hok,I.len⟩,f,ls x lx,fun t e=>ls t (lt t e),q⟩
theorem SP.untr{W:XW}{D:Ends}{f:Flow}{s':Shared}(h:SP (X.tr pins W) [] D f s'):SP X pins D f s':=by
 cases f with
 |next=>obtain ⟨σ',H',I,q⟩:=h;exact ⟨σ',H',I.untr (W:=W) (.inl rfl),q⟩
 |brk=>obtain ⟨σ',H',I,q⟩:=h;exact ⟨σ',H',I.untr (W:=W) (.inl rfl),q⟩
 |cont=>obtain ⟨σ',H',I,q⟩:=h;exact ⟨σ',H',I.untr (W:=W) (.inl rfl),q⟩
 |ret u=>obtain ⟨v,σ',H',I,r,q⟩:=h;exact ⟨v,σ',H',I.untr (W:=W) (.inl rfl),r,q⟩
theorem SP.unhdl{x:Addr}{D:Ends}{f:Flow}{s':Shared}(ok:X.Ok)(h:SP (X.hdl x) pins D f s'):SP X pins D f s':=by
 cases f with
 |next=>obtain ⟨σ',H',I,q⟩:=h;exact ⟨σ',H',I.unhdl ok,q⟩
 |brk=>obtain ⟨σ',H',I,q⟩:=h;exact ⟨σ',H',I.unhdl ok,q⟩
 |cont=>obtain ⟨σ',H',I,q⟩:=h;exact ⟨σ',H',I.unhdl ok,q⟩
 |ret u=>obtain ⟨v,σ',H',I,r,q⟩:=h;exact ⟨v,σ',H',I.unhdl ok,r,q⟩
noncomputable abbrev XTS:=Addr→Option Addr→TS
noncomputable def PH(X:Cx)(hs:List ExceptHandler)(t:XTS):Prop:=∀(pins:List (Addr×Obj)) (x C:Addr) (od T:Option Addr) (s:Shared) (σ:St) (H:Hp) (D:Ends),Inv X pins σ H s→Fly X.fl s.heap x C od T→Loose X pins H x→(∀t,T=some t→Loose X pins H t)→t C od D σ H→
 wpAny (model X.prog X.w) X.A (handleBy (.ref x) X.env hs) (SP X pins D) X.xe s
theorem ph_nil:PH X [] fun _ _ _ _ _=>False:=fun _ _ _ _ _ _ _ _ _ _ _ _ _ h=>h.elim
structure XHd(K:PySem.W.Frag)(D:Addr):Prop where
 ty:PySem.W.typeIn K (.ref D)=some (.type "type")
 cl:(PySem.W.clsIn K D).isSome=true
 sub:PySem.W.mroIn K D (.type "BaseException")=some true
theorem u0h{A:Around}{E:Value→Shared→Prop}{x C D:Addr}{od T:Option Addr}{b:Bool}{Q:Bool→Shared→Prop}(I:Inv X pins σ H s)(f:Fly X.fl s.heap x C od T)(d:XHd X.K D)(hb:PySem.W.mroIn X.K C (.ref D)=some b)(q:Q b s):
 wpAny (model X.prog X.w) A (excMatches (.ref x) (.ref D)) Q E s:=by
 obtain ⟨o,vs,hx,hc,_⟩:=f;have L1:=PySem.W.looks_typeIn (M:=model X.prog X.w) I.kIn d.ty;have L2:=PySem.W.looks_mroIn (M:=model X.prog X.w) I.kIn d.sub;have L3:=PySem.W.looks_mroIn (M:=model X.prog X.w) I.kIn hb;have L0:PySem.W.Looks (model X.prog X.w) s.heap (typeOf (.ref x)) (.ref C):=hc▸(PySem.W.Looks.ld hx).andThen .now;have L4:PySem.W.Looks (model X.prog X.w) s.heap (isType (.ref D)) true:=by
  have z:=d.cl;unfold PySem.W.clsIn at z;split at z
  ·rename_i ho;intro A' Q' E' s' k q;unfold isType loadHead;exact wpAny_bind (wpAny_loadPart (k _ _ (I.kIn _ _ ho)) (wpAny_pure q))
  ·cases z
 have LT:PySem.W.Looks (model X.prog X.w) s.heap (isInstance (.ref D) (.type "tuple")) false:=L1.andThen (PySem.W.Looks.of_pure tc_notTuple);have LE:PySem.W.Looks (model X.prog X.w) s.heap (isExcClass (.ref D)) true:=L4.andThen L2;unfold excMatches;refine wpAny_bind (LT.here ?_);dsimp only;rw[if_neg Bool.false_ne_true];refine wpAny_bind (wpAny_pure ?_);simp only[List.forIn_cons,List.forIn_nil];refine wpAny_bind (wpAny_bind (wpAny_bind (LE.here ?_)));rw[if_neg (by decide)];refine wpAny_pure (wpAny_pure (wpAny_bind (L0.here (wpAny_bind (wpAny_bind (wpAny_bind (L3.here ?_)))))));cases b with
 |true=>
  rw[if_pos rfl];exact wpAny_pure (wpAny_pure (wpAny_pure q))
 |false=>
  rw[if_neg Bool.false_ne_true];exact wpAny_pure (wpAny_pure (wpAny_pure q))
theorem b0j{D:Addr}{y:Str}{np pos:Pos}{b₀:Stmt}{suite:List Stmt}{rest:List ExceptHandler}{ts:TS}{tr:XTS}(tp:Top X)(d:XHd X.K D)(hg:Gl X y)(hm:X.mg y=some (.ref D))(hs:∀x,PSs (X.hdl x) (b₀::suite) ts)(hr:PH X rest tr)
 (hdb:(y==("__debug__":Str))=false:=by decide):
 PH X (.ExceptHandler (some (.Name y np)) none (b₀::suite) pos::rest) (fun C od E σ H=>∃b,PySem.W.mroIn X.K C (.ref D)=some b∧if b=true then ts E σ H else tr C od E σ H):=by
 intro pins x C od T s σ H E I f lx lt ⟨b,hb,q⟩;refine wpAny_handleBy_cons (codeAny_handlers_test (g8 (X:=X.hdl x) I.hdl hg hm ?_ hdb)) (by intro z;cases z);refine u0h I f d hb ?_;cases b with
 |true=>
  rw[if_pos rfl]at q;refine codeAny_handlers_suite (m7 I tp f lt fun s1 I1 f1=>?_);exact wpAny_mono (hs x pins s1 σ H E I1.hdl q) (fun fl s2 z=>z.unhdl I.ok) fun _ _ z=>z.elim
 |false=>
  rw[if_neg Bool.false_ne_true]at q;exact hr pins x C od T s σ H E I f lx lt q
theorem Inv.track{x C:Addr}{od T:Option Addr}(I:Inv X pins σ H s)(l:Loose X pins H x)(f:Fly X.fl s.heap x C od T):Inv X pins σ (upd H x (XO (bif X.fl then 2 else 0) x C od)) s:=by
 obtain ⟨o,vs,hx,h1,h2,h3,h4,_⟩:=f;have nx:∀b u,H b=some u→b≠x:=fun b u q z=>by rw[z,l.free]at q;cases q
 refine ⟨I.ok,I.os,I.bare,⟨I.base.keep,I.base.slot,fun b ob q n hx=>?_,I.base.there,fun b xs q=>?_,fun b ob u q=>?_,fun b ps q=>?_⟩,I.loc,I.cell,?_,fun y c q=>?_,fun p hp=>?_,fun b u q=>?_,I.len⟩
 ·rw[y0 (Nat.ne_of_lt (Nat.lt_of_lt_of_le (Heap.lt_size q) l.yng))];exact I.base.free b ob q n hx
 ·have z:=I.base.tups b xs q;rw[y0 (nx b _ z)];exact z
 ·have z:=I.base.frzs b ob u q;rw[y0 (nx b _ z)];exact z
 ·obtain ⟨m,z⟩:=I.base.tbls b ps q;exact ⟨m,by rw[y0 (nx b _ z)];exact z⟩
 ·rw[y0 l.ne.symm];exact I.free
 ·rw[y0 (l.cell y c q)];exact I.freeC y c q
 ·obtain ⟨a,b,c⟩:=I.pin p hp;exact ⟨a,by rw[y0 (l.pin p hp)];exact b,c⟩
 ·by_cases z:b=x
  ·subst z;rw[n3]at q;cases q;exact XO.ok ⟨o,vs,hx,h1,h2,h3,(fun z=>by cases hc:X.fl<;>rw[hc]at z<;>cases z),fun z=>h4.2 (by cases hc:X.fl with |true=>rfl |false=>rw[hc]at z;exact absurd rfl z)⟩
  ·rw[y0 z]at q;exact (I.hok b u q).stay (fun _ _ _ w=>w) (fun c w=>by rw[y0 (nx c _ w)];exact w) fun c xs w=>by rw[y0 (nx c _ w)];exact w
theorem ph_as{D:Addr}{y n:Str}{i:Nat}{np pos:Pos}{b₀:Stmt}{suite:List Stmt}{rest:List ExceptHandler}{ts:Addr→TS}{tr:XTS}(tp:Top X)(d:XHd X.K D)(hg:Gl X y)(hm:X.mg y=some (.ref D))(hN:X.N.Nodup)(hi:X.N[i]?=some n)(hk:X.env.scope.names.lookup n=some .local)
 (hs:∀x,PSs (X.hdl x) (b₀::suite) (ts x)) (hr:PH X rest tr) (hdb:(y==("__debug__":Str))=false:=by decide):
 PH X (.ExceptHandler (some (.Name y np)) (some n) (b₀::suite) pos::rest) (fun C od E σ H=>∃b,PySem.W.mroIn X.K C (.ref D)=some b∧if b=true then
  (∀x,H x=none→ts x {nx:=fun σ' H'=>E.nx (σ'.set i none) H',rt:=E.rt,bk:=fun σ' H'=>E.bk (σ'.set i none) H',ct:=fun σ' H'=>E.ct (σ'.set i none) H'} (σ.set i (some (.ref x))) (upd H x (XO (bif X.fl then 2 else 0) x C od)))else tr C od E σ H):=by
 intro pins x C od T s σ H E I f lx lt ⟨b,hb,q⟩;refine wpAny_handleBy_cons (codeAny_handlers_test (g8 (X:=X.hdl x) I.hdl hg hm ?_ hdb)) (by intro z;cases z);refine u0h I f d hb ?_;cases b with
 |true=>
  rw[if_pos rfl]at q;refine codeAny_handlers_suite_as (m7 I tp f lt fun s1 I1 f1=>?_);have I2:Inv X pins σ (upd H x (XO (bif X.fl then 2 else 0) x C od)) s1:=I1.track lx f1;refine v0b (v:=.ref x) I2 hN hi (.inl hk) rfl (fun s2 I3=>?_) (.inr hk);refine wpAny_mono (hs x pins s2 _ _ _ I3.hdl (q x lx.free)) (fun fl s3 z=>?_) fun _ _ z=>z.elim
  have z:=z.unhdl I.ok;cases fl with
  |next=>obtain ⟨σ',H',I4,q4⟩:=z;exact r0u I4 hN hi hk fun s4 I5=>⟨_,H',I5,q4⟩
  |brk=>obtain ⟨σ',H',I4,q4⟩:=z;exact r0u I4 hN hi hk fun s4 I5=>⟨_,H',I5,q4⟩
  |cont=>obtain ⟨σ',H',I4,q4⟩:=z;exact r0u I4 hN hi hk fun s4 I5=>⟨_,H',I5,q4⟩
  |ret u=>obtain ⟨v,σ',H',I4,r4,q4⟩:=z;exact r0u I4 hN hi hk fun s4 I5=>⟨v,_,H',I5,r4,q4⟩
 |false=>
  rw[if_neg Bool.false_ne_true]at q;exact hr pins x C od T s σ H E I f lx lt q
noncomputable def tTry(tb:XW→TS)(th:XTS):TS:=fun D σ H=>∃W:XW,tb W D σ H∧∀C od σ' H',W C od σ' H'→th C od D σ' H'
theorem ps_try{body:List Stmt}{h₀:ExceptHandler}{hs:List ExceptHandler}{pos:Pos}{tb:XW→TS}{th:XTS}(tp:Top X)(hb:∀pins W,PSs (X.tr pins W) body (tb W))(hh:PH X (h₀::hs) th):PS X (.Try body (h₀::hs) [] [] pos) (tTry tb th):=by
 intro pins s σ H D I ⟨W,q,hW⟩;refine wpAny_Try_except (wpAny_mono (hb pins W [] s σ H D I.tr q) (fun f s1 z=>?_) fun e s1 z=>?_)
 ·have z:=z.untr;cases f with
  |next=>exact wpAny_execs_nil z
  |brk=>exact z
  |cont=>exact z
  |ret u=>exact z
 ·obtain ⟨x,C,od,T,σ',H',rfl,I1,f,lx,lt,q1⟩:=z;have I0:Inv X pins σ' H' s1:=I1.untr (W:=W) (.inr rfl);have ls:∀t,Loose (X.more pins) [] H' t→Loose X pins H' t:=fun t l=>⟨l.free,l.ne,l.yng,l.cell,fun p hp=>l.pin p (List.mem_append_left _ hp)⟩
  refine u0i I0 tp I0.ok.frames f (ls x lx) (fun t e=>ls t (lt t e)) fun s2 t I2 f2 l2=>?_
  refine m7 I2 tp f2 (fun t' e=>by cases e;exact l2) fun s3 I3 f3=>?_
  exact hh pins x C od (some t) s3 σ' H' D I3 f3 (ls x lx) (fun t' e=>by cases e;exact l2) (hW C od σ' H' q1)
end
end L2
namespace L2
open PySem PySem.Spec PyProof.Rows
open PySem.W (XC)
structure DefAt(K:PySem.W.Frag)(mg:Str→Option Value)(x:Str)(st:Stmt)(ps:List Str)(f:Addr)(fd:FuncData):Prop where
 F:Fun K x x st f fd
 m:mg x=some (.ref f)
 b:Binds K fd ps []
structure FnAt(P:Program)(w:World)(K:PySem.W.Frag)(mg:Str→Option Value)(base:Heap)(CX:CXT)(x:Str)(k:Nat)(ps:List Str)(sp:Sp):Prop where
 ex:∃f fd,FnOk P w K mg base CX k f fd ps sp∧mg x=some (.ref f)∧PySem.W.keepIn K (.ref f)=true∧Binds K fd ps []
theorem DefAt.at{P:Program}{w:World}{K:PySem.W.Frag}{mg:Str→Option Value}{base:Heap}{CX:CXT}{x:Str}{st:Stmt}{ps:List Str}{f:Addr}{fd:FuncData}{k:Nat}{sp:Sp}(D:DefAt K mg x st ps f fd)(F:FnOk P w K mg base CX k f fd ps sp):FnAt P w K mg base CX x k ps sp:=
 ⟨f,fd,F,D.m,D.F.kp,D.b⟩
section
variable{X:Cx}{x:Str}{p pos:Pos}{e:Expr}{es:List Expr}{t:TA}{k:Nat}{ps:List Str}{sp:Sp}
theorem pe_cX{W:XW}(G:FnAt X.prog X.w X.K X.mg X.base (CX1 X.prog X.w) x k ps sp)(hr:Room k X.A)(hf:e8 X W)(ha:PA X (e::es) t)(hg:Gl X x:=by rfl)(hdb:(x==("__debug__":Str))=false:=by decide)
 (he:starEach (e::es) X.env=(false,eval e X.env)::starEach es X.env:=by rfl) (hpl:(backTo pos (starEach es X.env)).any (·.1)=false:=by rfl):PE X (.Call (.Name x p) (e::es) [] pos) (m0b sp W t):=by
 obtain ⟨f,fd,F,m,kp,b⟩:=G.ex;exact f0m F hr hg m kp b hf ha hdb he hpl
theorem pty(n:String){y:Str}(hm:X.mg y=none)(hv:bootBuiltins y=some (.type n))(hg:Gl X y:=by rfl)(hn:y≠"__name__":=by decide)(hd:(y==("__debug__":Str))=false:=by decide):PE X (.Name y pos) (tC (.ty n)):=c0b hg hm hv rfl hn hd
end
theorem u0g:bootBuiltins "len"=some (.builtin "len"):=by kernel_rfl
theorem bt_abs:bootBuiltins "abs"=some (.builtin "abs"):=by kernel_rfl
theorem bt_all:bootBuiltins "all"=some (.builtin "all"):=by kernel_rfl
theorem m4:bootBuiltins "isinstance"=some (.builtin "isinstance"):=by kernel_rfl
theorem s0k:bootBuiltins "int"=some (.type "int"):=by kernel_rfl
theorem i0y:bootBuiltins "bool"=some (.type "bool"):=by kernel_rfl
theorem i0x:bootBuiltins "list"=some (.type "list"):=by kernel_rfl
theorem x0t:bootBuiltins "tuple"=some (.type "tuple"):=by kernel_rfl
structure Deck(H:Hp)(D S:Addr)(n:Nat):Prop where
 ex:∃c k:Int,H D=some (.lst [.ref S,.int c,.int k])∧0≤c∧0≤k∧k≤n
end L2
namespace L2
open PySem PySem.Spec PyProof.Rows
end L2
namespace L2
theorem b0i{α:Type}{xs:List α}{k:Int}(h:0<xs.length):∃v,atI xs (k%(xs.length:Nat))=some v∧v∈xs:=by
 have h1:=Int.emod_nonneg k (b:=(xs.length:Int)) (by omega);have h2:=Int.emod_lt_of_pos k (b:=(xs.length:Int)) (by omega);have hj:(k%(xs.length:Nat)).toNat<xs.length:=by omega
 refine ⟨xs[(k%(xs.length:Nat)).toNat],?_,List.getElem_mem hj⟩;have e:k%(xs.length:Nat)=(((k%(xs.length:Nat)).toNat:Nat):Int):=by omega
 have q:∀z:Int,z=k%(xs.length:Nat)→z=((z.toNat:Nat):Int)→∀hz:z.toNat<xs.length,atI xs z=some xs[z.toNat]:=by
  intro z _ hz2 hz3;generalize z.toNat=j at hz2 hz3;subst hz2;exact o0f (List.getElem?_eq_getElem hz3)
 exact q _ rfl e hj
end L2
set_option maxHeartbeats 8000000
namespace L2
open PySem PySem.Spec PyProof.Rows
noncomputable def BT:List String:=["NoneType","bool","int","str","list","tuple","dict"]
theorem kt_all(K:PySem.W.Frag){n:String}(h:n∈BT):PySem.W.kitOne K (.type n) (.type "bool")=some (n=="bool")∧PySem.W.kitOne K (.type n) (.type "int")=some (n=="int"||n=="bool")∧
 PySem.W.kitOne K (.type n) (.type "list")=some (n=="list")∧PySem.W.kitOne K (.type n) (.type "tuple")=some (n=="tuple")∧PySem.W.kitAny K (.type n) [.type "list",.type "tuple"]=some (n=="list"||n=="tuple"):=by
 simp only[BT,List.mem_cons,List.not_mem_nil,or_false]at h;rcases h with rfl |rfl |rfl |rfl |rfl |rfl |rfl
 ·exact ⟨by kernel_rfl,by kernel_rfl,by kernel_rfl,by kernel_rfl,by kernel_rfl⟩
 ·exact ⟨by kernel_rfl,by kernel_rfl,by kernel_rfl,by kernel_rfl,by kernel_rfl⟩
 ·exact ⟨by kernel_rfl,by kernel_rfl,by kernel_rfl,by kernel_rfl,by kernel_rfl⟩
 ·exact ⟨by kernel_rfl,by kernel_rfl,by kernel_rfl,by kernel_rfl,by kernel_rfl⟩
 ·exact ⟨by kernel_rfl,by kernel_rfl,by kernel_rfl,by kernel_rfl,by kernel_rfl⟩
 ·exact ⟨by kernel_rfl,by kernel_rfl,by kernel_rfl,by kernel_rfl,by kernel_rfl⟩
 ·exact ⟨by kernel_rfl,by kernel_rfl,by kernel_rfl,by kernel_rfl,by kernel_rfl⟩
structure Thing(K:PySem.W.Frag)(H:Hp)(x:V)(n:String):Prop where
 ty:TyOf K H x (.type n)
 mem:n∈BT
end L2
set_option maxHeartbeats 8000000
namespace L2
open PySem PySem.Spec PyProof.Rows
open PySem.W (XC veMro)
structure ErrC(K:PySem.W.Frag)(W C:Addr):Prop where
 mro:(PySem.W.clsIn K C).map (·.mro)=some (.ref C:: .ref W::veMro)
 ty:PySem.W.typeIn K (.ref C)=some (.type "type")
 xc:XC K C
theorem ErrC.mroIn{K:PySem.W.Frag}{W C:Addr}(c:ErrC K W C)(b:Value):PySem.W.mroIn K C b=some ((Value.ref C:: .ref W::veMro).contains b):=by
 obtain ⟨cd,h1,h2⟩:=Option.map_eq_some_iff.mp c.mro;unfold PySem.W.mroIn;rw[h1,Option.bind_some,h2];rfl
theorem Same.new{H:Hp}{p:Addr}{o:HO}(h:H p=none):Same H (upd H p o):=fun b u e=>by rw[y0 (s0 e h)];exact e
noncomputable def spXI(C:Addr)(a:Str):Sp:=fun vs H Q _=>∃(x:Addr) (v:V),vs=[.ref x,v]∧H x=some (XO 1 x C none)∧∀d,H d=none→d≠x→Q .non (upd (upd H d (XD d [(a,v)])) x (XO 1 x C (some d)))
end L2
namespace L2
open PySem PySem.Spec PyProof.Rows
open PySem.W (XC veMro)
structure MkE(P:Program)(w:World)(K:PySem.W.Frag)(mg:Str→Option Value)(base:Heap)(x:Str)(C:Addr)(k:Nat)(ps:List Str)(sp:Sp):Prop where
 ex:∃f fd,XMk K C f∧FnOk P w K mg base CX0 k f fd ps sp∧Binds K fd ps []
 m:mg x=some (.ref C)
theorem i0w{X:Cx}{W:XW}{x:Str}{C:Addr}{k:Nat}{ps:List Str}{sp:Sp}{p cpos pos:Pos}{e:Expr}{es:List Expr}{t:TA}(hc:X.calm=true)(hf:e8 X W)(M:MkE X.prog X.w X.K X.mg X.base x C k ps sp)(hr:Room (k+1) X.A)(ha:PA X (e::es) t)(hg:Gl X x:=by rfl)
 (hdb:(x==("__debug__":Str))=false:=by decide) (he:starEach (e::es) X.env=(false,eval e X.env)::starEach es X.env:=by rfl) (hpl:(backTo cpos (starEach es X.env)).any (·.1)=false:=by rfl):
 PS X (.Raise (some (.Call (.Name x p) (e::es) [] cpos)) none pos) (j0a C sp W t):=by
 obtain ⟨f,fd,h1,h2,h3⟩:=M.ex;exact i0z hc hf h1 h2 hr hg M.m h3 ha hdb he hpl
theorem sz1{a:V}:[a].length≤PySem.sizeLine:=by show 1≤PySem.sizeLine;decide
end L2
namespace DL
open PySem PySem.Spec L2
open PySem.W (XC)
inductive D where
 |non |bl (b:Bool)|int (i:Int)|str (x:Str)
 |lst (xs:List D)|tup (xs:List D)|scr (xs:List D)|dic (kvs:List (Key×D))|dwk (kvs:List (Key×D))
 |ins (C:Addr) (fs:List (Str×D))|exc (C:Addr) (fs:List (Str×D))
 |ref (a:Addr)|ty (n:String)
noncomputable abbrev Frag:=PySem.W.Frag
mutual
noncomputable def Rep(K:Frag)(F:Hp):D→V→Prop
 | .non,v=>v=.non
 | .bl b,v=>v=.bl b
 | .int i,v=>v=.int i
 | .str x,v=>v=.str x
 | .lst ds,v=>∃a vs,v=.ref a∧F a=some (.lst vs)∧Reps K F ds vs
 | .tup ds,v=>∃a vs,v=.ref a∧F a=some (.tup vs)∧Reps K F ds vs
 | .scr ds,v=>∃a vs,v=.ref a∧SqL K F a vs∧Reps K F ds vs
 | .dic kvs,v=>∃a us,v=.ref a∧F a=some (.dK us)∧RepK K F kvs us
 | .dwk kvs,v=>∃a o us,v=.ref a∧F a=some (.frz o (.dK us))∧RepK K F kvs us
 | .ins C fs,v=>∃a dx us,v=.ref a∧F a=some (.ins C dx us)∧F dx=some (.own a)∧RepF K F fs us
 | .exc C fs,v=>∃a fr,v=.ref a∧((fs=[]∧F a=some (XO fr a C none))∨∃d us,F a=some (XO fr a C (some d))∧F d=some (XD d us)∧RepF K F fs us)
 | .ref a,v=>v=.ref a
 | .ty n,v=>v=.ty n
noncomputable def Reps(K:Frag)(F:Hp):List D→List V→Prop
 | [],vs=>vs=[]
 |d::ds,vs=>∃v r,vs=v::r∧Rep K F d v∧Reps K F ds r
noncomputable def RepF(K:Frag)(F:Hp):List (Str×D)→List (Str×V)→Prop
 | [],vs=>vs=[]
 |(x,d)::ds,vs=>∃v r,vs=(x,v)::r∧Rep K F d v∧RepF K F ds r
noncomputable def RepK(K:Frag)(F:Hp):List (Key×D)→List (Key×V)→Prop
 | [],vs=>vs=[]
 |(x,d)::ds,vs=>∃v r,vs=(x,v)::r∧Rep K F d v∧RepK K F ds r
end
theorem _root_.L2.Same.rd{F F':Hp}{a:Addr}{u:HO}(s:Same F F')(h:Rd F a u):Rd F' a u:=by
 rcases h with h |⟨o,h⟩
 ·exact .inl (s _ _ h)
 ·exact .inr ⟨o,s _ _ h⟩
theorem _root_.L2.Same.sqL{K:Frag}{F F':Hp}{a:Addr}{xs:List V}(s:Same F F')(h:SqL K F a xs):SqL K F' a xs:=h.imp s.rd id
theorem _root_.L2.Same.sqT{K:Frag}{F F':Hp}{a:Addr}{xs:List V}(s:Same F F')(h:SqT K F a xs):SqT K F' a xs:=h.imp s.rd id
mutual
theorem Rep.mono{K:Frag}{F F':Hp}(s:Same F F'):∀{d:D} {v:V},Rep K F d v→Rep K F' d v
 | .non,v,h=>by unfold Rep at h ⊢; exact h
 | .bl b,v,h=>by unfold Rep at h ⊢; exact h
 | .int i,v,h=>by unfold Rep at h ⊢; exact h
 | .str x,v,h=>by unfold Rep at h ⊢; exact h
 | .lst ds,v,h=>by unfold Rep at h ⊢; obtain ⟨a,vs,e,q,r⟩:=h;exact ⟨a,vs,e,s _ _ q,Reps.mono s r⟩
 | .tup ds,v,h=>by unfold Rep at h ⊢; obtain ⟨a,vs,e,q,r⟩:=h;exact ⟨a,vs,e,s _ _ q,Reps.mono s r⟩
 | .scr ds,v,h=>by unfold Rep at h ⊢; obtain ⟨a,vs,e,q,r⟩:=h;exact ⟨a,vs,e,s.sqL q,Reps.mono s r⟩
 | .dic ds,v,h=>by unfold Rep at h ⊢; obtain ⟨a,vs,e,q,r⟩:=h;exact ⟨a,vs,e,s _ _ q,RepK.mono s r⟩
 | .dwk ds,v,h=>by unfold Rep at h ⊢; obtain ⟨a,o,vs,e,q,r⟩:=h;exact ⟨a,o,vs,e,s _ _ q,RepK.mono s r⟩
 | .ins C fs,v,h=>by unfold Rep at h ⊢; obtain ⟨a,dx,vs,e,q,q2,r⟩:=h;exact ⟨a,dx,vs,e,s _ _ q,s _ _ q2,RepF.mono s r⟩
 | .exc C fs,v,h=>by
  unfold Rep at h ⊢;obtain ⟨a,fr,e,h⟩:=h;refine ⟨a,fr,e,?_⟩;rcases h with ⟨e1,q⟩|⟨d,us,q,q2,r⟩
  ·exact .inl ⟨e1,s _ _ q⟩
  ·exact .inr ⟨d,us,s _ _ q,s _ _ q2,RepF.mono s r⟩
 | .ref a,v,h=>by unfold Rep at h ⊢; exact h
 | .ty n,v,h=>by unfold Rep at h ⊢; exact h
theorem Reps.mono{K:Frag}{F F':Hp}(s:Same F F'):∀{ds:List D} {vs:List V},Reps K F ds vs→Reps K F' ds vs
 | [],vs,h=>by unfold Reps at h ⊢; exact h
 |d::ds,vs,h=>by unfold Reps at h ⊢; obtain ⟨v,r,e,q,z⟩:=h;exact ⟨v,r,e,Rep.mono s q,Reps.mono s z⟩
theorem RepF.mono{K:Frag}{F F':Hp}(s:Same F F'):∀{ds:List (Str×D)} {vs:List (Str×V)},RepF K F ds vs→RepF K F' ds vs
 | [],vs,h=>by unfold RepF at h ⊢; exact h
 |(x,d)::ds,vs,h=>by unfold RepF at h ⊢; obtain ⟨v,r,e,q,z⟩:=h;exact ⟨v,r,e,Rep.mono s q,RepF.mono s z⟩
theorem RepK.mono{K:Frag}{F F':Hp}(s:Same F F'):∀{ds:List (Key×D)} {vs:List (Key×V)},RepK K F ds vs→RepK K F' ds vs
 | [],vs,h=>by unfold RepK at h ⊢; exact h
 |(x,d)::ds,vs,h=>by unfold RepK at h ⊢; obtain ⟨v,r,e,q,z⟩:=h;exact ⟨v,r,e,Rep.mono s q,RepK.mono s z⟩
end
section
variable{K:Frag}{F H:Hp}
theorem rep_non{v:V}:Rep K F .non v↔v=.non:=by unfold Rep;exact Iff.rfl
theorem rep_bl{b:Bool}{v:V}:Rep K F (.bl b) v↔v=.bl b:=by unfold Rep;exact Iff.rfl
theorem rep_int{i:Int}{v:V}:Rep K F (.int i) v↔v=.int i:=by unfold Rep;exact Iff.rfl
theorem rep_str{x:Str}{v:V}:Rep K F (.str x) v↔v=.str x:=by unfold Rep;exact Iff.rfl
theorem rep_ref{a:Addr}{v:V}:Rep K F (.ref a) v↔v=.ref a:=by unfold Rep;exact Iff.rfl
theorem rep_ty{n:String}{v:V}:Rep K F (.ty n) v↔v=.ty n:=by unfold Rep;exact Iff.rfl
theorem rep_lst{ds:List D}{v:V}:Rep K F (.lst ds) v↔∃a vs,v=.ref a∧F a=some (.lst vs)∧Reps K F ds vs:=by rw[Rep]
theorem rep_tup{ds:List D}{v:V}:Rep K F (.tup ds) v↔∃a vs,v=.ref a∧F a=some (.tup vs)∧Reps K F ds vs:=by rw[Rep]
theorem rep_scr{ds:List D}{v:V}:Rep K F (.scr ds) v↔∃a vs,v=.ref a∧SqL K F a vs∧Reps K F ds vs:=by rw[Rep]
theorem rep_dwk{ds:List (Key×D)}{v:V}:Rep K F (.dwk ds) v↔∃a o us,v=.ref a∧F a=some (.frz o (.dK us))∧RepK K F ds us:=by rw[Rep]
theorem rep_dic{ds:List (Key×D)}{v:V}:Rep K F (.dic ds) v↔∃a us,v=.ref a∧F a=some (.dK us)∧RepK K F ds us:=by rw[Rep]
theorem rep_ins{C:Addr}{fs:List (Str×D)}{v:V}:Rep K F (.ins C fs) v↔∃a dx us,v=.ref a∧F a=some (.ins C dx us)∧F dx=some (.own a)∧RepF K F fs us:=by rw[Rep]
theorem rep_exc{C:Addr}{fs:List (Str×D)}{v:V}:Rep K F (.exc C fs) v↔∃a fr,v=.ref a∧((fs=[]∧F a=some (XO fr a C none))∨∃d us,F a=some (XO fr a C (some d))∧F d=some (XD d us)∧RepF K F fs us):=by rw[Rep]
theorem reps_nil{vs:List V}:Reps K F [] vs↔vs=[]:=by rw[Reps]
theorem reps_cons{d:D}{ds:List D}{vs:List V}:Reps K F (d::ds) vs↔∃v r,vs=v::r∧Rep K F d v∧Reps K F ds r:=by rw[Reps]
theorem Reps.cons{d:D}{ds:List D}{v:V}{vs:List V}(h:Rep K F d v)(t:Reps K F ds vs):Reps K F (d::ds) (v::vs):=reps_cons.mpr ⟨v,vs,rfl,h,t⟩
theorem Reps.nil:Reps K F [] []:=reps_nil.mpr rfl
theorem Reps.length:∀{ds:List D} {vs:List V},Reps K F ds vs→vs.length=ds.length
 | [],vs,h=>by rw[reps_nil.mp h];rfl
 |d::ds,vs,h=>by obtain ⟨v,r,rfl,_,z⟩:=reps_cons.mp h;rw[List.length_cons,List.length_cons,Reps.length z]
theorem Reps.append:∀{ds es:List D} {vs us:List V},Reps K F ds vs→Reps K F es us→Reps K F (ds++es) (vs++us)
 | [],es,vs,us,h,h'=>by rw[reps_nil.mp h];exact h'
 |d::ds,es,vs,us,h,h'=>by obtain ⟨v,r,rfl,q,z⟩:=reps_cons.mp h;exact Reps.cons q (Reps.append z h')
theorem Reps.get:∀{ds:List D} {vs:List V} {i:Nat} {d:D},Reps K F ds vs→ds[i]?=some d→∃v,vs[i]?=some v∧Rep K F d v
 | [],vs,i,d,h,e=>by simp at e
 |d::ds,vs,0,d',h,e=>by obtain ⟨v,r,rfl,q,z⟩:=reps_cons.mp h;simp at e;subst e;exact ⟨v,rfl,q⟩
 |d::ds,vs,i+1,d',h,e=>by obtain ⟨v,r,rfl,q,z⟩:=reps_cons.mp h;simp at e;obtain ⟨u,a,b⟩:=Reps.get z e;exact ⟨u,by simpa using a,b⟩
theorem Reps.set{d:D}{v:V}(q:Rep K F d v):∀{ds:List D} {vs:List V} (i:Nat),Reps K F ds vs→Reps K F (ds.set i d) (vs.set i v)
 | [],vs,i,h=>by rw[reps_nil.mp h];exact Reps.nil
 |e::ds,vs,0,h=>by obtain ⟨u,r,rfl,_,z⟩:=reps_cons.mp h;exact Reps.cons q z
 |e::ds,vs,i+1,h=>by obtain ⟨u,r,rfl,p,z⟩:=reps_cons.mp h;exact Reps.cons p (Reps.set q i z)
theorem Reps.take:∀{ds:List D} {vs:List V} (n:Nat),Reps K F ds vs→Reps K F (ds.take n) (vs.take n)
 | [],vs,n,h=>by rw[reps_nil.mp h];simp;exact Reps.nil
 |d::ds,vs,0,h=>by simp;exact Reps.nil
 |d::ds,vs,n+1,h=>by obtain ⟨u,r,rfl,p,z⟩:=reps_cons.mp h;simp;exact Reps.cons p (Reps.take n z)
theorem Reps.drop:∀{ds:List D} {vs:List V} (n:Nat),Reps K F ds vs→Reps K F (ds.drop n) (vs.drop n)
 | [],vs,n,h=>by rw[reps_nil.mp h];simp;exact Reps.nil
 |d::ds,vs,0,h=>by simpa using h
 |d::ds,vs,n+1,h=>by obtain ⟨u,r,rfl,p,z⟩:=reps_cons.mp h;simp;exact Reps.drop n z
theorem Reps.atI{ds:List D}{vs:List V}{i:Int}{d:D}(h:Reps K F ds vs)(e:L2.atI ds i=some d):∃v,L2.atI vs i=some v∧Rep K F d v:=by
 unfold L2.atI at e ⊢;rw[h.length];cases hj:ixN ds.length i with
 |none=>rw[hj]at e;cases e
 |some j=>
  rw[hj]at e;obtain ⟨v,a,b⟩:=h.get e;exact ⟨v,a,b⟩
end
end DL
namespace DL
open PySem PySem.Spec L2
open PySem.W (XC)
noncomputable abbrev Dk:=Option (Addr×List D)
inductive Cell where
 |no |val (d:D)|own (ds:List D)|obj (C:Addr) (fs:List (Str×D))|ownD (kvs:List (Key×D))
noncomputable abbrev En:=List Cell
noncomputable def CellOk(K:Frag)(F H H₀:Hp)(sf:Option Addr):Cell→Option V→Prop
 | .no,_=>True
 | .val d,v=>∃u,v=some u∧Rep K F d u
 | .own ds,v=>∃a vs,v=some (.ref a)∧H a=some (.lst vs)∧F a=none∧H₀ a=none∧Reps K F ds vs
 | .obj C fs,v=>∃a dx us,v=some (.ref a)∧sf=some a∧H a=some (.ins C dx us)∧H dx=some (.own a)∧F a=none∧F dx=none∧H₀ a=none∧H₀ dx=none∧RepF K F fs us
 | .ownD kvs,v=>∃a us,v=some (.ref a)∧H a=some (.dK us)∧F a=none∧H₀ a=none∧RepK K F kvs us
noncomputable def Off(δ:Dk)(b:Addr):Prop:=∀a ds,δ=some (a,ds)→b≠a
noncomputable def DkOk(K:Frag)(F H:Hp)(δ:Dk):Prop:=∀a ds,δ=some (a,ds)→F a=none∧∃vs,H a=some (.lst vs)∧Reps K F ds vs
noncomputable def DkTo(H₀:Hp)(δ₀ δ:Dk):Prop:=(∀a ds,δ₀=some (a,ds)→∃es,δ=some (a,es))∧∀a ds,δ=some (a,ds)→δ₀=none→H₀ a=none
structure Ran(K:Frag)(F₀ H₀:Hp)(δ₀:Dk)(F H:Hp)(δ:Dk):Prop where
 sub:Same F H
 dk:DkOk K F H δ
 keep:∀b o,H₀ b=some o→Off δ₀ b→H b=some o
 f0:Same F₀ F
 fnew:∀b o,F b=some o→F₀ b=some o∨H₀ b=none
 dto:DkTo H₀ δ₀ δ
structure Y2 where
 F₀:Hp
 H₀:Hp
 δ₀:Dk
 sf:Option Addr:=none
noncomputable def a6(ρ:En)(σ:St)(i:Nat)(a:Addr):Prop:=((∃ds,ρ[i]?=some (.own ds))∨(∃C fs,ρ[i]?=some (.obj C fs))∨∃kvs,ρ[i]?=some (.ownD kvs))∧σ[i]?=some (some (.ref a))
structure I2(K:Frag)(Y:Y2)(F H:Hp)(σ:St)(ρ:En)(δ:Dk):Prop where
 ran:Ran K Y.F₀ Y.H₀ Y.δ₀ F H δ
 env:∀(i:Nat) (c:Cell),ρ[i]?=some c→CellOk K F H Y.H₀ Y.sf c (σ[i]?).join
 len:ρ.length=σ.length
 apart:∀(i j:Nat) (a:Addr),i≠j→a6 ρ σ i a→a6 ρ σ j a→False
 off:∀(i:Nat) (a:Addr),a6 ρ σ i a→Off δ a
section
variable{K:Frag}{Y:Y2}{F H F' H':Hp}{σ:St}{ρ:En}{δ:Dk}
theorem I2.sub(I:I2 K Y F H σ ρ δ):Same F H:=I.ran.sub
theorem a3{σ:St}{i:Nat}{v:V}(h:(σ[i]?).join=some v):σ[i]?=some (some v):=by
 cases e:σ[i]? with
 |none=>rw[e]at h;cases h
 |some o=>rw[e]at h;exact congrArg some h
theorem Ran.fresh(R:Ran K Y.F₀ Y.H₀ Y.δ₀ F H δ){p:Addr}(h:H p=none):Y.H₀ p=none:=by
 cases q:Y.H₀ p with
 |none=>rfl
 |some o=>
  by_cases z:∃ds,Y.δ₀=some (p,ds)
  ·obtain ⟨ds,z⟩:=z;obtain ⟨es,z2⟩:=R.dto.1 p ds z;obtain ⟨_,vs,z3,_⟩:=R.dk p es z2;rw[h]at z3;cases z3
  ·have:=R.keep p o q (fun a ds e w=>z ⟨ds,by rw[e,w]⟩);rw[h]at this;cases this
theorem Ran.alloc{o:HO}{p:Addr}(R:Ran K Y.F₀ Y.H₀ Y.δ₀ F H δ)(h:H p=none):Ran K Y.F₀ Y.H₀ Y.δ₀ (upd F p o) (upd H p o) δ:=by
 have hF:F p=none:=R.sub.free h;have h0:=R.fresh h;refine ⟨fun b u e=>?_,fun a ds e=>?_,fun b u e f=>?_,fun b u e=>?_,fun b u e=>?_,R.dto⟩
 ·by_cases z:b=p
  ·subst z;rw[n3]at e ⊢; exact e
  ·rw[y0 z]at e ⊢; exact R.sub _ _ e
 ·obtain ⟨q,vs,q2,r⟩:=R.dk a ds e;have z:a≠p:=s0 q2 h;exact ⟨by rw[y0 z];exact q,vs,by rw[y0 z];exact q2,r.mono (Same.new hF)⟩
 ·rw[y0 (s0 (R.keep b u e f) h)];exact R.keep b u e f
 ·rw[y0 (s0 (R.f0 b u e) hF)];exact R.f0 b u e
 ·by_cases z:b=p
  ·subst z;exact .inr h0
  ·rw[y0 z]at e;exact R.fnew b u e
theorem CellOk.alloc{o:HO}{p:Addr}{c:Cell}{v:Option V}{H₀:Hp}{sf:Option Addr}(s:Same F H)(h:H p=none)(x:CellOk K F H H₀ sf c v):CellOk K (upd F p o) (upd H p o) H₀ sf c v:=by
 have hF:F p=none:=s.free h;cases c with
 |no=>trivial
 |val d=>obtain ⟨u,e,r⟩:=x;exact ⟨u,e,r.mono (Same.new hF)⟩
 |own ds=>
  obtain ⟨a,vs,e,q,f,g,r⟩:=x;have z:=s0 q h;exact ⟨a,vs,e,by rw[y0 z];exact q,by rw[y0 z];exact f,g,r.mono (Same.new hF)⟩
 |obj C fs=>
  obtain ⟨a,dx,us,e,es,q,q2,f,f2,g,g2,r⟩:=x;have z:=s0 q h;have z2:=s0 q2 h;exact ⟨a,dx,us,e,es,by rw[y0 z];exact q,by rw[y0 z2];exact q2,by rw[y0 z];exact f,by rw[y0 z2];exact f2,g,g2,r.mono (Same.new hF)⟩
 |ownD kvs=>
  obtain ⟨a,us,e,q,f,g,r⟩:=x;have z:=s0 q h;exact ⟨a,us,e,by rw[y0 z];exact q,by rw[y0 z];exact f,g,r.mono (Same.new hF)⟩
theorem I2.alloc{o:HO}{p:Addr}(I:I2 K Y F H σ ρ δ)(h:H p=none):I2 K Y (upd F p o) (upd H p o) σ ρ δ:=
 ⟨I.ran.alloc h,fun i c e=>(I.env i c e).alloc I.sub h,I.len,I.apart,I.off⟩
theorem I2.lst{ds:List D}{vs:List V}{p:Addr}(I:I2 K Y F H σ ρ δ)(h:H p=none)(r:Reps K F ds vs):Rep K (upd F p (.lst vs)) (.lst ds) (.ref p):=
 rep_lst.mpr ⟨p,vs,rfl,n3,r.mono (Same.new (I.sub.free h))⟩
theorem I2.tup{ds:List D}{vs:List V}{p:Addr}(I:I2 K Y F H σ ρ δ)(h:H p=none)(r:Reps K F ds vs):Rep K (upd F p (.tup vs)) (.tup ds) (.ref p):=
 rep_tup.mpr ⟨p,vs,rfl,n3,r.mono (Same.new (I.sub.free h))⟩
theorem I2.grow{o:HO}{p:Addr}(I:I2 K Y F H σ ρ δ)(h:H p=none):Same F (upd F p o):=Same.new (I.sub.free h)
theorem I2.put{i:Nat}{v:V}{d:D}(I:I2 K Y F H σ ρ δ)(r:Rep K F d v):I2 K Y F H (σ.set i (some v)) (ρ.set i (.val d)) δ:=by
 have key:∀j a,a6 (ρ.set i (.val d)) (σ.set i (some v)) j a→j≠i∧a6 ρ σ j a:=fun j a o=>by
  by_cases z:j=i
  ·subst z;rcases o.1 with ⟨ds,q⟩|⟨C,fs,q⟩|⟨kvs,q⟩<;>
   ·rw[List.getElem?_set]at q;simp at q
  ·refine ⟨z,?_⟩;obtain ⟨o1,o2⟩:=o;simp only[List.getElem?_set_ne (Ne.symm z)]at o1 o2;exact ⟨o1,o2⟩
 refine ⟨I.ran,fun j c e=>?_,by simp[I.len],fun a b c n o1 o2=>I.apart a b c n (key a c o1).2 (key b c o2).2,fun j a o=>I.off j a (key j a o).2⟩;by_cases z:j=i
 ·subst z;rw[List.getElem?_set]at e;by_cases hl:j<ρ.length
  ·simp[hl]at e;subst e;refine ⟨v,?_,r⟩;rw[List.getElem?_set];simp[I.len▸hl]
  ·simp[hl]at e
 ·rw[List.getElem?_set_ne (Ne.symm z)]at e ⊢;exact I.env j c e
theorem I2.gone{i:Nat}(I:I2 K Y F H σ ρ δ):I2 K Y F H (σ.set i none) (ρ.set i .no) δ:=by
 have key:∀j a,a6 (ρ.set i .no) (σ.set i none) j a→j≠i∧a6 ρ σ j a:=fun j a o=>by
  by_cases z:j=i
  ·subst z;rcases o.1 with ⟨ds,q⟩|⟨C,fs,q⟩|⟨kvs,q⟩<;>
   ·rw[List.getElem?_set]at q;simp at q
  ·refine ⟨z,?_⟩;obtain ⟨o1,o2⟩:=o;simp only[List.getElem?_set_ne (Ne.symm z)]at o1 o2;exact ⟨o1,o2⟩
 refine ⟨I.ran,fun j c e=>?_,by simp[I.len],fun a b c n o1 o2=>I.apart a b c n (key a c o1).2 (key b c o2).2,fun j a o=>I.off j a (key j a o).2⟩;by_cases z:j=i
 ·subst z;rw[List.getElem?_set]at e;by_cases hl:j<ρ.length
  ·simp[hl]at e;subst e;trivial
  ·simp[hl]at e
 ·rw[List.getElem?_set_ne (Ne.symm z)]at e ⊢;exact I.env j c e
theorem I2.freeze{i:Nat}{ds:List D}(I:I2 K Y F H σ ρ δ)(e:ρ[i]?=some (.own ds)):
 ∃a vs,σ[i]?=some (some (.ref a))∧F a=none∧I2 K Y (upd F a (.lst vs)) H σ (ρ.set i (.val (.lst ds))) δ∧Rep K (upd F a (.lst vs)) (.lst ds) (.ref a):=by
 obtain ⟨a,vs,q,h,f,g,r⟩:=I.env i _ e;have hs:=a3 q;have ho:a6 ρ σ i a:=⟨.inl ⟨ds,e⟩,hs⟩;have rr:Rep K (upd F a (.lst vs)) (.lst ds) (.ref a):=rep_lst.mpr ⟨a,vs,rfl,n3,r.mono (Same.new f)⟩;refine ⟨a,vs,hs,f,?_,rr⟩;have key:∀j b,a6 (ρ.set i (.val (.lst ds))) σ j b→j≠i∧a6 ρ σ j b:=fun j b o=>by
  by_cases z:j=i
  ·subst z;rcases o.1 with ⟨ds,q⟩|⟨C,fs,q⟩|⟨kvs,q⟩<;>
   ·rw[List.getElem?_set]at q;simp at q
  ·refine ⟨z,?_⟩;obtain ⟨o1,o2⟩:=o;simp only[List.getElem?_set_ne (Ne.symm z)]at o1;exact ⟨o1,o2⟩
 refine ⟨⟨fun b u e=>?_,fun b es e=>?_,I.ran.keep,fun b u e=>?_,fun b u e=>?_,I.ran.dto⟩,fun j c e'=>?_,by simp[I.len],fun x y b n o1 o2=>I.apart x y b n (key x b o1).2 (key y b o2).2,fun j b o=>I.off j b (key j b o).2⟩
 ·by_cases z:b=a
  ·subst z;rw[n3]at e;cases e;exact h
  ·rw[y0 z]at e;exact I.sub _ _ e
 ·obtain ⟨q1,us,q2,q3⟩:=I.ran.dk b es e;exact ⟨by rw[y0 (Ne.symm (I.off i a ho b es e))];exact q1,us,q2,q3.mono (Same.new f)⟩
 ·rw[y0 (s0 (I.ran.f0 b u e) f)];exact I.ran.f0 b u e
 ·by_cases z:b=a
  ·subst z;exact .inr g
  ·rw[y0 z]at e;exact I.ran.fnew b u e
 ·by_cases z:j=i
  ·subst z;rw[List.getElem?_set]at e';by_cases hl:j<ρ.length
   ·simp[hl]at e';subst e';exact ⟨_,q,rr⟩
   ·simp[hl]at e'
  ·rw[List.getElem?_set_ne (Ne.symm z)]at e';have w:=I.env j c e';cases c with
   |no=>trivial
   |val d=>obtain ⟨u,e1,r1⟩:=w;exact ⟨u,e1,r1.mono (Same.new f)⟩
   |own es=>
    obtain ⟨b,us,e1,h1,f1,g1,r1⟩:=w;have nb:b≠a:=fun w=>I.apart j i a z ⟨.inl ⟨es,e'⟩,by rw[←w];exact a3 e1⟩ ho
    exact ⟨b,us,e1,h1,by rw[y0 nb];exact f1,g1,r1.mono (Same.new f)⟩
   |obj C fs=>
    obtain ⟨b,dx,us,e1,es1,h1,h2,f1,f2,g1,g2,r1⟩:=w;have nb:b≠a:=fun w=>by rw[w,h]at h1;cases h1
    have nd:dx≠a:=fun w=>by rw[w,h]at h2;cases h2
    exact ⟨b,dx,us,e1,es1,h1,h2,by rw[y0 nb];exact f1,by rw[y0 nd];exact f2,g1,g2,r1.mono (Same.new f)⟩
   |ownD kvs=>
    obtain ⟨b,us,e1,h1,f1,g1,r1⟩:=w;have nb:b≠a:=fun w=>by rw[w,h]at h1;cases h1
    exact ⟨b,us,e1,h1,by rw[y0 nb];exact f1,g1,r1.mono (Same.new f)⟩
end
end DL
namespace DL
open PySem PySem.Spec L2
open PySem.W (XC)
noncomputable abbrev XK2:=Addr→List (Str×D)→En→Dk→Prop
noncomputable abbrev K2:=D→En→Dk→Prop
noncomputable abbrev TE2:=XK2→En→Dk→K2→Prop
noncomputable abbrev TT2:=XK2→En→Dk→(Bool→En→Dk→Prop)→Prop
noncomputable abbrev TA2:=XK2→En→Dk→(List D→En→Dk→Prop)→Prop
noncomputable def XRep(K:Frag)(F:Hp)(od:Option Addr)(fs:List (Str×D)):Prop:=match od with
 |none=>fs=[]
 |some d=>∃us,F d=some (XD d us)∧RepF K F fs us
noncomputable def XR(K:Frag)(Y:Y2)(W:XW)(F:Hp)(x:XK2):Prop:=∀C od fs σ' F' H' ρ' δ',I2 K Y F' H' σ' ρ' δ'→Same F F'→XRep K F' od fs→x C fs ρ' δ'→W C od σ' H'
theorem XR.mono{K:Frag}{Y:Y2}{W:XW}{F F1:Hp}{x:XK2}(h:XR K Y W F x)(s:Same F F1):XR K Y W F1 x:=fun C od fs σ' F' H' ρ' δ' I s'=>h C od fs σ' F' H' ρ' δ' I (s.trans s')
noncomputable def upE(K:Frag)(Y:Y2)(W:XW)(t:TE2):TE:=fun σ H Q=>∃F ρ δ x q,I2 K Y F H σ ρ δ∧t x ρ δ q∧(∀d v F' H' ρ' δ',I2 K Y F' H' σ ρ' δ'→Same F F'→Rep K F' d v→q d ρ' δ'→Q v H')∧XR K Y W F x
noncomputable def upT(K:Frag)(Y:Y2)(W:XW)(t:TT2):TT:=fun σ H Q=>∃F ρ δ x q,I2 K Y F H σ ρ δ∧t x ρ δ q∧(∀b F' H' ρ' δ',I2 K Y F' H' σ ρ' δ'→Same F F'→q b ρ' δ'→Q b H')∧XR K Y W F x
noncomputable def upA(K:Frag)(Y:Y2)(W:XW)(t:TA2):TA:=fun σ H Q=>∃F ρ δ x q,I2 K Y F H σ ρ δ∧t x ρ δ q∧(∀ds vs F' H' ρ' δ',I2 K Y F' H' σ ρ' δ'→Same F F'→Reps K F' ds vs→q ds ρ' δ'→Q vs H')∧XR K Y W F x
structure PE2(X:Cx)(Y:Y2)(W:XW)(e:Expr)(t:TE2):Prop where
 go:PE X e (upE X.K Y W t)
structure PT2(X:Cx)(Y:Y2)(W:XW)(e:Expr)(t:TT2):Prop where
 go:PT X e (upT X.K Y W t)
structure PW2(X:Cx)(Y:Y2)(W:XW)(e:Expr)(t:TT2):Prop where
 go:PW X e (upT X.K Y W t)
structure PA2(X:Cx)(Y:Y2)(W:XW)(es:List Expr)(t:TA2):Prop where
 go:PA X es (upA X.K Y W t)
theorem b0h{X:Cx}{e:Expr}{t t':TE}(h:PE X e t)(k:∀ σ H Q,t' σ H Q→t σ H Q):PE X e t':=fun pins s σ H Q I q=>h pins s σ H Q I (k σ H Q q)
theorem b0g{X:Cx}{e:Expr}{t t':TT}(h:PT X e t)(k:∀ σ H Q,t' σ H Q→t σ H Q):PT X e t':=fun pins s σ H Q I q=>h pins s σ H Q I (k σ H Q q)
theorem b0f{X:Cx}{e:Expr}{t t':TT}(h:PW X e t)(k:∀ σ H Q,t' σ H Q→t σ H Q):PW X e t':=fun w pins s σ H Q I q=>h w pins s σ H Q I (k σ H Q q)
theorem b0e{X:Cx}{es:List Expr}{t t':TA}(h:PA X es t)(k:∀ σ H Q,t' σ H Q→t σ H Q):PA X es t':=fun p pins s σ H Q I q=>h p pins s σ H Q I (k σ H Q q)
noncomputable def c0x:Expr→Bool | .Starred _ _=>false |_=>true
theorem b5{e:Expr}{es:List Expr}{env:Env}(h:c0x e=true):starEach (e::es) env=(false,eval e env)::starEach es env:=by
 cases e<;>first |rfl |cases h
theorem p6{pos:Pos}{env:Env}:∀{es:List Expr},es.all c0x=true→(backTo pos (starEach es env)).any (·.1)=false
 | [],_=>rfl
 |e::es,h=>by
  rw[List.all_cons,Bool.and_eq_true]at h;rw[b5 h.1];show (false||(backTo pos (starEach es env)).any (·.1))=false;rw[p6 h.2];rfl
theorem pe2{X:Cx}{Y:Y2}{W:XW}{e:Expr}{t:TE}{u:TE2}(h:PE X e t)(k:∀ σ H Q,upE X.K Y W u σ H Q→t σ H Q):PE2 X Y W e u:=⟨b0h h k⟩
theorem pt2{X:Cx}{Y:Y2}{W:XW}{e:Expr}{t:TT}{u:TT2}(h:PT X e t)(k:∀ σ H Q,upT X.K Y W u σ H Q→t σ H Q):PT2 X Y W e u:=⟨b0g h k⟩
theorem pw2{X:Cx}{Y:Y2}{W:XW}{e:Expr}{t:TT}{u:TT2}(h:PW X e t)(k:∀ σ H Q,upT X.K Y W u σ H Q→t σ H Q):PW2 X Y W e u:=⟨b0f h k⟩
theorem pa2{X:Cx}{Y:Y2}{W:XW}{es:List Expr}{t:TA}{u:TA2}(h:PA X es t)(k:∀ σ H Q,upA X.K Y W u σ H Q→t σ H Q):PA2 X Y W es u:=⟨b0e h k⟩
section
variable{X:Cx}{Y:Y2}{W:XW}{a b c:Expr}{ta tb tc:TE2}{pos:Pos}
noncomputable def t2C(d:D):TE2:=fun _ ρ δ q=>q d ρ δ
theorem e2_c{e:Expr}{v:V}{d:D}(h:PE X e (tC v))(r:∀F,Rep X.K F d v):PE2 X Y W e (t2C d):=pe2 h fun σ H Q ⟨F,ρ,δ,x,q,I,h,k,kx⟩=>k d v F H ρ δ I (Same.refl F) (r F) h
theorem v0{i j pos}:PE2 X Y W (.Constant (.int i) j pos) (t2C (.int i)):=e2_c pe_int fun F=>rep_int.mpr rfl
theorem u0f{i j pos}:PE2 X Y W (.Constant (.bool i) j pos) (t2C (.bl i)):=e2_c pe_bl fun F=>rep_bl.mpr rfl
theorem g9{j pos}:PE2 X Y W (.Constant .none j pos) (t2C .non):=e2_c pe_non fun F=>rep_non.mpr rfl
theorem j3{i j pos}:PE2 X Y W (.Constant (.str i) j pos) (t2C (.str i)):=e2_c pe_str fun F=>rep_str.mpr rfl
noncomputable def rdV(ρ:En)(i:Nat)(k:D→En→Prop):Prop:=match ρ[i]? with
 |some (.val d)=>k d ρ
 |some (.own ds)=>k (.lst ds) (ρ.set i (.val (.lst ds)))
 |_=>False
noncomputable def t2V(i:Nat):TE2:=fun _ ρ δ q=>rdV ρ i fun d ρ'=>q d ρ' δ
theorem rd_use{K:Frag}{F H:Hp}{σ:St}{ρ:En}{δ:Dk}{i:Nat}{k:D→En→Prop}(I:I2 K Y F H σ ρ δ)(h:rdV ρ i k):
 ∃d v F' ρ',σ[i]?=some (some v)∧I2 K Y F' H σ ρ' δ∧Same F F'∧Rep K F' d v∧k d ρ':=by
 unfold rdV at h;split at h
 ·rename_i d e;obtain ⟨v,q,r⟩:=I.env i _ e;exact ⟨d,v,F,ρ,a3 q,I,Same.refl F,r,h⟩
 ·rename_i ds e;obtain ⟨a,vs,q,f,I',r⟩:=I.freeze e;exact ⟨_,_,_,_,q,I',Same.new f,r,h⟩
 ·exact h.elim
theorem e2_v(i:Nat){x:Str}{pos:Pos}(hN:X.N[i]?=some x:=by rfl)(hv:Vis X.env.scope x:=by walk_at "v3")(hd:(x==("__debug__":Str))=false:=by decide)
 (hcd:(x==("__classdict__":Str))=false:=by decide):PE2 X Y W (.Name x pos) (t2V i):=pe2 (s0s hN hv hd hcd) fun σ H Q ⟨F,ρ,δ,x,q,I,h,k,kx⟩=>by
 obtain ⟨d,v,F',ρ',e,I',s,r,h'⟩:=rd_use I h;exact ⟨v,e,k d v F' H ρ' δ I' s r h'⟩
theorem e2_gi{x:Str}{n:Int}{u:Value}(hm:X.mg x=some u)(r:∃t,u=.int n t)(hg:Gl X x:=by rfl)(hd:(x==("__debug__":Str))=false:=by decide):PE2 X Y W (.Name x pos) (t2C (.int n)):=e2_c (j0y (v:=.int n) hg hm r hd) fun F=>rep_int.mpr rfl
theorem e2_cl{x:Str}{C:Addr}(hm:X.mg x=some (.ref C))(hg:Gl X x:=by rfl)(hd:(x==("__debug__":Str))=false:=by decide):PE2 X Y W (.Name x pos) (t2C (.ref C)):=e2_c (j0y (v:=.ref C) hg hm rfl hd) fun F=>rep_ref.mpr rfl
theorem r0t(n:String){y:Str}(hm:X.mg y=none)(hv:bootBuiltins y=some (.type n))(hg:Gl X y:=by rfl)(hn:y≠"__name__":=by decide)(hd:(y==("__debug__":Str))=false:=by decide):PE2 X Y W (.Name y pos) (t2C (.ty n)):=
 e2_c (pty n hm hv hg hn hd) fun F=>rep_ty.mpr rfl
noncomputable def o0c:TA2:=fun _ ρ δ q=>q [] ρ δ
noncomputable def y0s(te:TE2)(tr:TA2):TA2:=fun x ρ δ q=>te x ρ δ fun d ρ1 δ1=>tr x ρ1 δ1 fun ds ρ2 δ2=>q (d::ds) ρ2 δ2
theorem u0:PA2 X Y W [] o0c:=pa2 d0f fun σ H Q ⟨F,ρ,δ,x,q,I,h,k,kx⟩=>k [] [] F H ρ δ I (Same.refl F) Reps.nil h
theorem z0{e:Expr}{es:List Expr}{te:TE2}{t:TA2}(ha:PE2 X Y W e te)(hr:PA2 X Y W es t)(hs:starEach (e::es) X.env=(false,eval e X.env)::starEach es X.env:=by exact b5 rfl):PA2 X Y W (e::es) (y0s te t):=
 pa2 (j0k ha.go hr.go hs) fun σ H Q ⟨F,ρ,δ,x,q,I,h,k,kx⟩=>⟨F,ρ,δ,x,_,I,h,fun d1 v1 F1 H1 ρ1 δ1 I1 s1 r1 h1=>⟨F1,ρ1,δ1,x,_,I1,h1,fun ds vs F2 H2 ρ2 δ2 I' s2 r2 h2=>
  k (d1::ds) (v1::vs) F2 H2 ρ2 δ2 I' (s1.trans s2) (Reps.cons (r1.mono s2) r2) h2,kx.mono s1⟩,kx⟩
theorem o0b{n:Nat}(h:n≤1000):n≤PySem.sizeLine:=Nat.le_trans h (by decide)
noncomputable def f0j(t:TA2):TE2:=fun x ρ δ q=>t x ρ δ fun ds ρ1 δ1=>ds.length≤1000∧q (.lst ds) ρ1 δ1
noncomputable def f0i(t:TA2):TE2:=fun x ρ δ q=>t x ρ δ fun ds ρ1 δ1=>ds.length≤1000∧q (.tup ds) ρ1 δ1
theorem y0r{es:List Expr}{t:TA2}(h:PA2 X Y W es t):PE2 X Y W (.List es pos) (f0j t):=pe2 (d0e h.go) fun σ H Q ⟨F,ρ,δ,x,q,I,h,k,kx⟩=>
 ⟨F,ρ,δ,x,_,I,h,fun ds vs F1 H1 ρ1 δ1 I1 s1 r1 h1=>⟨o0b (by rw[r1.length];exact h1.1),fun p hp=>k _ _ _ _ ρ1 δ1 (I1.alloc hp) (s1.trans (I1.grow hp)) (I1.lst hp r1) h1.2⟩,kx⟩
theorem q0a{x1}{es:List Expr}{t:TA2}(h:PA2 X Y W es t):PE2 X Y W (.Tuple es x1 pos) (f0i t):=pe2 (pe_tup h.go) fun σ H Q ⟨F,ρ,δ,x,q,I,h,k,kx⟩=>
 ⟨F,ρ,δ,x,_,I,h,fun ds vs F1 H1 ρ1 δ1 I1 s1 r1 h1=>⟨o0b (by rw[r1.length];exact h1.1),fun p hp=>k _ _ _ _ ρ1 δ1 (I1.alloc hp) (s1.trans (I1.grow hp)) (I1.tup hp r1) h1.2⟩,kx⟩
noncomputable abbrev F2:=D→D→(D→Prop)→Prop
noncomputable def OpD(K:Frag)(r:R2)(f:F2):Prop:=∀(Y:Y2) (F H:Hp) (σ:St) (ρ:En) (δ:Dk) (x y:V) (d1 d2:D) (Q1:VK) (q:D→Prop),I2 K Y F H σ ρ δ→Rep K F d1 x→Rep K F d2 y→f d1 d2 q→
 (∀d v F' H',I2 K Y F' H' σ ρ δ→Same F F'→Rep K F' d v→q d→Q1 v H')→r x y H Q1
noncomputable def t2Op(f:F2)(ta tb:TE2):TE2:=fun x ρ δ q=>ta x ρ δ fun d1 ρ1 δ1=>tb x ρ1 δ1 fun d2 ρ2 δ2=>f d1 d2 fun d=>q d ρ2 δ2
theorem f0h{r:R2}{f:F2}(hf:OpD X.K r f){σ:St}{H:Hp}{Q:VK}(h:upE X.K Y W (t2Op f ta tb) σ H Q):tOp r (upE X.K Y W ta) (upE X.K Y W tb) σ H Q:=by
 obtain ⟨F,ρ,δ,x,q,I,h,k,kx⟩:=h;exact ⟨F,ρ,δ,x,_,I,h,fun d1 v1 F1 H1 ρ1 δ1 I1 s1 r1 h1=>⟨F1,ρ1,δ1,x,_,I1,h1,fun d2 v2 F2 H2 ρ2 δ2 I' s2 r2 h2=>
  hf Y F2 H2 σ ρ2 δ2 v1 v2 d1 d2 _ _ I' (r1.mono s2) r2 h2 fun d v F' H' I' s' r' q'=>k d v F' H' ρ2 δ2 I' ((s1.trans s2).trans s') r' q',kx.mono s1⟩,kx⟩
theorem n4{op:Operator}{r:R2}{f:F2}(ho:OpR X (binaryOp op) r)(hf:OpD X.K r f)(ha:PE2 X Y W a ta)(hb:PE2 X Y W b tb):PE2 X Y W (.BinOp a op b pos) (t2Op f ta tb):=pe2 (pe_op ho ha.go hb.go) fun σ H Q h=>f0h hf h
theorem l0z{op:CmpOp}{r:R2}{f:F2}(ho:OpR X (compareOp op) r)(hf:OpD X.K r f)(ha:PE2 X Y W a ta)(hb:PE2 X Y W b tb)(hm:behindInMarks op b=false):PE2 X Y W (.Compare a [op] [b] pos) (t2Op f ta tb):=pe2 (b0w ho ha.go hb.go hm) fun σ H Q h=>f0h hf h
theorem i0v{r:R2}{f:F2}(hr:IxR X r)(hf:OpD X.K r f)(ha:PE2 X Y W a ta)(hb:PE2 X Y W b tb)(hs:o0e b:=by exact fun _ _=>rfl):PE2 X Y W (.Subscript a b pos) (t2Op f ta tb):=pe2 (pe_ix hr ha.go hb.go hs) fun σ H Q h=>f0h hf h
noncomputable def t2B(t:TE2):TT2:=fun x ρ δ q=>t x ρ δ fun d ρ1 δ1=>match d with | .bl k=>q k ρ1 δ1 |_=>False
theorem o0a{t:TE2}{σ:St}{H:Hp}{Q:Bool→Hp→Prop}(h:upT X.K Y W (t2B t) σ H Q):upE X.K Y W t σ H fun x H1=>∃c,x=.bl c∧Q c H1:=by
 obtain ⟨F,ρ,δ,x,q,I,h,k,kx⟩:=h;refine ⟨F,ρ,δ,x,_,I,h,fun d v F' H' ρ' δ' I' s' r' h'=>?_,kx⟩;cases d with
 |bl b=>exact ⟨b,rep_bl.mp r',k b F' H' ρ' δ' I' s' h'⟩
 |_=>exact h'.elim
theorem i6{e:Expr}{t:TE2}(h:PE2 X Y W e t)(he:∀whole,isTrue e X.env whole=(do let v←whole;standAt e.pos;holding [v] (truthy v)):=by intro _;rfl):PT2 X Y W e (t2B t):=pt2 (pt_val h.go he) fun σ H Q h=>o0a h
theorem u4{op:CmpOp}{r:R2}{f:F2}(ho:OpR X (compareOp op) r)(hf:OpD X.K r f)(ha:PE2 X Y W a ta)(hb:PE2 X Y W b tb)(hm:behindInMarks op b=false):PT2 X Y W (.Compare a [op] [b] pos) (t2B (t2Op f ta tb)):=
 pt2 (b0v ho ha.go hb.go hm) fun σ H Q h=>f0h hf (o0a h)
noncomputable def i0u(t:TT2):TT2:=fun x ρ δ q=>t x ρ δ fun k ρ1 δ1=>q (!k) ρ1 δ1
theorem m6{t:TT2}(h:PT2 X Y W a t):PT2 X Y W (.UnaryOp .Not a pos) (i0u t):=pt2 (pt_not h.go) fun σ H Q ⟨F,ρ,δ,x,q,I,h,k,kx⟩=>⟨F,ρ,δ,x,_,I,h,fun b F' H' ρ' δ' I' s' h'=>k _ F' H' ρ' δ' I' s' h',kx⟩
noncomputable def f0g(t u:TT2):TT2:=fun x ρ δ q=>t x ρ δ fun k ρ1 δ1=>if k=true then u x ρ1 δ1 q else q false ρ1 δ1
noncomputable def t2Or(t u:TT2):TT2:=fun x ρ δ q=>t x ρ δ fun k ρ1 δ1=>if k=true then q true ρ1 δ1 else u x ρ1 δ1 q
variable{tA tB':TT2}{rest:List Expr}
theorem i0t(ha:PT2 X Y W a tA):PW2 X Y W (.BoolOp .And [a] pos) tA:=⟨c0a ha.go⟩
theorem c9(ha:PT2 X Y W a tA):PW2 X Y W (.BoolOp .Or [a] pos) tA:=⟨pw_or1 ha.go⟩
theorem c0w(ha:PT2 X Y W a tA)(hb:PW2 X Y W (.BoolOp .And (b::rest) pos) tB'):PW2 X Y W (.BoolOp .And (a::b::rest) pos) (f0g tA tB'):=pw2 (pw_and ha.go hb.go) fun σ H Q ⟨F,ρ,δ,x,q,I,h,k,kx⟩=>by
 refine ⟨F,ρ,δ,x,_,I,h,fun b F' H' ρ' δ' I' s' h'=>?_,kx⟩;cases b with
 |true=>rw[if_pos rfl]at h' ⊢; exact ⟨F',ρ',δ',x,q,I',h',fun b F2 H2 ρ2 δ2 I2 s2 h2=>k b F2 H2 ρ2 δ2 I2 (s'.trans s2) h2,kx.mono s'⟩
 |false=>rw[if_neg Bool.false_ne_true]at h' ⊢; exact k false F' H' ρ' δ' I' s' h'
theorem x0s(ha:PT2 X Y W a tA)(hb:PW2 X Y W (.BoolOp .Or (b::rest) pos) tB'):PW2 X Y W (.BoolOp .Or (a::b::rest) pos) (t2Or tA tB'):=pw2 (pw_or ha.go hb.go) fun σ H Q ⟨F,ρ,δ,x,q,I,h,k,kx⟩=>by
 refine ⟨F,ρ,δ,x,_,I,h,fun b F' H' ρ' δ' I' s' h'=>?_,kx⟩;cases b with
 |true=>rw[if_pos rfl]at h' ⊢; exact k true F' H' ρ' δ' I' s' h'
 |false=>rw[if_neg Bool.false_ne_true]at h' ⊢; exact ⟨F',ρ',δ',x,q,I',h',fun b F2 H2 ρ2 δ2 I2 s2 h2=>k b F2 H2 ρ2 δ2 I2 (s'.trans s2) h2,kx.mono s'⟩
theorem PW2.pt(h:PW2 X Y W a tA):PT2 X Y W a tA:=⟨PW.pt h.go⟩
noncomputable def l0y(ta tb:TE2):TE2:=fun x ρ δ q=>ta x ρ δ fun d ρ1 δ1=>match d with | .bl k=>if k=true then tb x ρ1 δ1 q else q (.bl false) ρ1 δ1 |_=>False
noncomputable def t2OrV(ta tb:TE2):TE2:=fun x ρ δ q=>ta x ρ δ fun d ρ1 δ1=>match d with | .bl k=>if k=true then q (.bl true) ρ1 δ1 else tb x ρ1 δ1 q |_=>False
noncomputable def l0x(ta:TE2):TE2:=fun x ρ δ q=>ta x ρ δ fun d ρ1 δ1=>match d with | .bl k=>q (.bl (!k)) ρ1 δ1 |_=>False
theorem p0z{op}(h:PE2 X Y W a ta):PE2 X Y W (.BoolOp op [a] pos) ta:=⟨pe_one h.go⟩
theorem s0j(ha:PE2 X Y W a ta)(hb:PE2 X Y W (.BoolOp .And (b::rest) pos) tb):PE2 X Y W (.BoolOp .And (a::b::rest) pos) (l0y ta tb):=pe2 (pe_and ha.go hb.go) fun σ H Q ⟨F,ρ,δ,x,q,I,h,k,kx⟩=>by
 refine ⟨F,ρ,δ,x,_,I,h,fun d v F' H' ρ' δ' I' s' r' h'=>?_,kx⟩;cases d with
 |bl b=>
  refine ⟨b,rep_bl.mp r',?_⟩;cases b with
  |true=>dsimp only at h';rw[if_pos rfl]at h' ⊢; exact ⟨F',ρ',δ',x,q,I',h',fun d v F2 H2 ρ2 δ2 I2 s2 r2 h2=>k d v F2 H2 ρ2 δ2 I2 (s'.trans s2) r2 h2,kx.mono s'⟩
  |false=>dsimp only at h';rw[if_neg Bool.false_ne_true]at h' ⊢; exact k _ _ F' H' ρ' δ' I' s' (rep_bl.mpr rfl) h'
 |_=>exact h'.elim
theorem c0v(ha:PE2 X Y W a ta):PE2 X Y W (.UnaryOp .Not a pos) (l0x ta):=pe2 (pe_not ha.go) fun σ H Q ⟨F,ρ,δ,x,q,I,h,k,kx⟩=>by
 refine ⟨F,ρ,δ,x,_,I,h,fun d v F' H' ρ' δ' I' s' r' h'=>?_,kx⟩;cases d with
 |bl b=>exact ⟨b,rep_bl.mp r',k _ _ F' H' ρ' δ' I' s' (rep_bl.mpr rfl) h'⟩
 |_=>exact h'.elim
noncomputable def t2If(t:TT2)(ta tb:TE2):TE2:=fun x ρ δ q=>t x ρ δ fun k ρ1 δ1=>if k=true then ta x ρ1 δ1 q else tb x ρ1 δ1 q
noncomputable def x0a(f f':F2)(ta tb tc:TE2):TE2:=fun x ρ δ q=>ta x ρ δ fun d1 ρ1 δ1=>tb x ρ1 δ1 fun d2 ρ2 δ2=>f d1 d2 fun d=>match d with
 | .bl k=>if k=true then tc x ρ2 δ2 fun d3 ρ3 δ3=>f' d2 d3 fun d=>q d ρ3 δ3 else q (.bl false) ρ2 δ2
 |_=>False
theorem l0w{r r':R2}{f f':F2}(hf:OpD X.K r f)(hf':OpD X.K r' f'){σ:St}{H:Hp}{Q:VK}(h:upE X.K Y W (x0a f f' ta tb tc) σ H Q):j0n r r' (upE X.K Y W ta) (upE X.K Y W tb) (upE X.K Y W tc) σ H Q:=by
 obtain ⟨F,ρ,δ,x,q,I,h,k,kx⟩:=h;refine ⟨F,ρ,δ,x,_,I,h,fun d1 v1 F1 H1 ρ1 δ1 I1 s1 r1 h1=>⟨F1,ρ1,δ1,x,_,I1,h1,fun d2 v2 F2 H2 ρ2 δ2 I2 s2 r2 h2=>?_,kx.mono s1⟩,kx⟩;refine hf Y F2 H2 σ ρ2 δ2 v1 v2 d1 d2 _ _ I2 (r1.mono s2) r2 h2 fun d v F' H' I' s' r' q'=>?_
 cases d with
 |bl b=>
  refine ⟨b,rep_bl.mp r',?_⟩;have s3:=(s1.trans s2).trans s';cases b with
  |true=>
   dsimp only at q';rw[if_pos rfl]at q' ⊢;exact ⟨F',ρ2,δ2,x,_,I',q',fun d3 v3 F3 H3 ρ3 δ3 I3 s4 r3 h3=>hf' Y F3 H3 σ ρ3 δ3 v2 v3 d2 d3 _ _ I3 (r2.mono (s'.trans s4)) r3 h3 fun d v F4 H4 I4 s5 r4 q4=>k d v F4 H4 ρ3 δ3 I4 ((s3.trans s4).trans s5) r4 q4,kx.mono s3⟩
  |false=>
   dsimp only at q';rw[if_neg Bool.false_ne_true]at q' ⊢;exact k _ _ F' H' ρ2 δ2 I' s3 (rep_bl.mpr rfl) q'
 |_=>exact q'.elim
theorem f0f{op op':CmpOp}{r r':R2}{f f':F2}(ho:OpR X (compareOp op) r)(ho':OpR X (compareOp op') r')(hf:OpD X.K r f)(hf':OpD X.K r' f')(ha:PE2 X Y W a ta)(hb:PE2 X Y W b tb)(hc:PE2 X Y W c tc)
 (hm:lastMarks [op,op'] [b,c]=false:=by with_unfolding_all rfl):PE2 X Y W (.Compare a [op,op'] [b,c] pos) (x0a f f' ta tb tc):=pe2 (g0a ho ho' ha.go hb.go hc.go hm) fun σ H Q h=>l0w hf hf' h
theorem f0e{op op':CmpOp}{r r':R2}{f f':F2}(ho:OpR X (compareOp op) r)(ho':OpR X (compareOp op') r')(hf:OpD X.K r f)(hf':OpD X.K r' f')(ha:PE2 X Y W a ta)(hb:PE2 X Y W b tb)(hc:PE2 X Y W c tc)
 (hm:lastMarks [op,op'] [b,c]=false:=by with_unfolding_all rfl):PT2 X Y W (.Compare a [op,op'] [b,c] pos) (t2B (x0a f f' ta tb tc)):=pt2 (f0z ho ho' ha.go hb.go hc.go hm) fun σ H Q h=>l0w hf hf' (o0a h)
noncomputable abbrev F1:=List D→(D→Prop)→Prop
noncomputable def v0e(K:Frag)(r:List V→Hp→VK→Prop)(f:F1):Prop:=∀(Y:Y2) (F H:Hp) (σ:St) (ρ:En) (δ:Dk) (vs:List V) (ds:List D) (Q1:VK) (q:D→Prop),I2 K Y F H σ ρ δ→Reps K F ds vs→f ds q→
 (∀d v F' H',I2 K Y F' H' σ ρ δ→Same F F'→Rep K F' d v→q d→Q1 v H')→r vs H Q1
noncomputable def t2Bi(f:F1)(t:TA2):TE2:=fun x ρ δ q=>t x ρ δ fun ds ρ1 δ1=>f ds fun d=>q d ρ1 δ1
theorem up_bi{r:List V→Hp→VK→Prop}{f:F1}{t:TA2}(hf:v0e X.K r f){σ:St}{H:Hp}{Q:VK}(h:upE X.K Y W (t2Bi f t) σ H Q):tCB r (upA X.K Y W t) σ H Q:=by
 obtain ⟨F,ρ,δ,x,q,I,h,k,kx⟩:=h;exact ⟨F,ρ,δ,x,_,I,h,fun ds vs F1 H1 ρ1 δ1 I1 s1 r1 h1=>hf Y F1 H1 σ ρ1 δ1 vs ds _ _ I1 r1 h1 fun d v F' H' I' s' r' q'=>k d v F' H' ρ1 δ1 I' (s1.trans s') r' q',kx⟩
variable{x:Str}{e:Expr}{es:List Expr}{t:TA2}{p:Pos}
theorem e2_b{id:String}{r:List V→Hp→VK→Prop}{f:F1}(hc:x0u X (.builtin id) r)(hf:v0e X.K r f)(hm:X.mg x=none)(hv:bootBuiltins x=some (.builtin id))(ha:PA2 X Y W (e::es) t)(hg:Gl X x:=by rfl)(hn:x≠"__name__":=by decide)(hdb:(x==("__debug__":Str))=false:=by decide)
 (he:starEach (e::es) X.env=(false,eval e X.env)::starEach es X.env:=by exact b5 rfl) (hpl:(backTo pos (starEach es X.env)).any (·.1)=false:=by exact p6 rfl):PE2 X Y W (.Call (.Name x p) (e::es) [] pos) (t2Bi f t):=pe2 (m0i hc hg hm hv ha.go hn hdb he hpl) fun σ H Q h=>up_bi hf h
theorem x0r{T:String}{r:List V→Hp→VK→Prop}{f:F1}(hc:x0u X (.type T) r)(hf:v0e X.K r f)(hm:X.mg x=none)(hv:bootBuiltins x=some (.type T))(ha:PA2 X Y W (e::es) t)(hg:Gl X x:=by rfl)(hn:x≠"__name__":=by decide)(hdb:(x==("__debug__":Str))=false:=by decide)
 (he:starEach (e::es) X.env=(false,eval e X.env)::starEach es X.env:=by exact b5 rfl) (hpl:(backTo pos (starEach es X.env)).any (·.1)=false:=by exact p6 rfl):PE2 X Y W (.Call (.Name x p) (e::es) [] pos) (t2Bi f t):=pe2 (q0j hc hg hm hv ha.go hn hdb he hpl) fun σ H Q h=>up_bi hf h
noncomputable def t2Un(f:D→(D→Prop)→Prop)(ta:TE2):TE2:=fun x ρ δ q=>ta x ρ δ fun d ρ1 δ1=>f d fun d=>q d ρ1 δ1
theorem i0s(ha:PE2 X Y W a ta):PE2 X Y W (.UnaryOp .USub a pos) (t2Un (fun d q=>match d with | .int i=>q (.int (-i))|_=>False) ta):=pe2 (pe_un un_neg ha.go) fun σ H Q ⟨F,ρ,δ,x,q,I,h,k,kx⟩=>by
 refine ⟨F,ρ,δ,x,_,I,h,fun d v F' H' ρ' δ' I' s' r' h'=>?_,kx⟩;cases d with
 |int i=>exact ⟨i,rep_int.mp r',k _ _ F' H' ρ' δ' I' s' (rep_int.mpr rfl) h'⟩
 |_=>exact h'.elim
end
end DL
namespace DL
open PySem PySem.Spec L2
open PySem.W (XC)
section
variable{X:Cx}{K:Frag}
theorem l0v{f:Value→Value→Sem Value}{r r':R2}(h:OpR X f r)(h':OpR X f r'):OpR X f (fun x y H Q=>r x y H Q∨r' x y H Q):=by
 intro pins s σ H x y v u Q I rx ry q;rcases q with q |q
 ·exact h pins s σ H x y v u Q I rx ry q
 ·exact h' pins s σ H x y v u Q I rx ry q
noncomputable def fI(C:Int→Int→Prop)(g:Int→Int→D):F2:=fun d1 d2 q=>match d1,d2 with
 | .int i,.int j=>C i j∧q (g i j)
 |_,_=>False
theorem dI{C:Int→Int→Prop}{g:Int→Int→V}{g':Int→Int→D}(h:∀F i j,Rep K F (g' i j) (g i j)):OpD K (rI C g) (fI C g'):=by
 intro Y F H σ ρ δ x y d1 d2 Q1 q I r1 r2 h' k;unfold fI at h';split at h'
 ·rename_i i j;exact ⟨i,j,rep_int.mp r1,rep_int.mp r2,h'.1,k _ _ F H I (Same.refl F) (h F i j) h'.2⟩
 ·exact h'.elim
noncomputable def fI0(g:Int→Int→D):F2:=fun d1 d2 q=>match d1,d2 with
 | .int i,.int j=>q (g i j)
 |_,_=>False
theorem dI0{g:Int→Int→V}{g':Int→Int→D}(h:∀F i j,Rep K F (g' i j) (g i j)):OpD K (rI0 g) (fI0 g'):=by
 intro Y F H σ ρ δ x y d1 d2 Q1 q I r1 r2 h' k;unfold fI0 at h';split at h'
 ·rename_i i j;exact ⟨i,j,rep_int.mp r1,rep_int.mp r2,k _ _ F H I (Same.refl F) (h F i j) h'⟩
 ·exact h'.elim
noncomputable def b0d(K:Frag):R2:=fun x y H Q=>rI0 (fun i j=>.int (i+j)) x y H Q∨rCat x y H Q
noncomputable def addF:F2:=fun d1 d2 q=>match d1,d2 with
 | .int i,.int j=>q (.int (i+j))
 | .lst xs,.lst ys=>xs.length+ys.length≤1000∧q (.lst (xs++ys))
 |_,_=>False
theorem b0c:OpR X (binaryOp .Add) (b0d X.K):=l0v op_add d0a
theorem d_add:OpD K (b0d K) addF:=by
 intro Y F H σ ρ δ x y d1 d2 Q1 q I r1 r2 h' k;unfold addF at h';split at h'
 ·rename_i i j;exact .inl ⟨i,j,rep_int.mp r1,rep_int.mp r2,k _ _ F H I (Same.refl F) (rep_int.mpr rfl) h'⟩
 ·rename_i xs ys;obtain ⟨a,vs,rfl,e1,z1⟩:=rep_lst.mp r1;obtain ⟨b,us,rfl,e2,z2⟩:=rep_lst.mp r2;refine .inr ⟨a,b,vs,us,rfl,rfl,I.sub _ _ e1,I.sub _ _ e2,o0b (by rw[z1.length,z2.length];exact h'.1),fun p hp=>k _ _ _ _ (I.alloc hp) (I.grow hp) (I.lst hp (z1.append z2)) h'.2⟩
 ·exact h'.elim
noncomputable abbrev subF:F2:=fI0 fun i j=>.int (i-j)
noncomputable abbrev mulF:F2:=fI CMul fun i j=>.int (i*j)
noncomputable abbrev f0d:F2:=fI CDiv fun i j=>.int (i/j)
noncomputable abbrev modF:F2:=fI (fun _ j=>0<j) fun i j=>.int (i%j)
noncomputable abbrev powF:F2:=fI CPow fun i j=>.int (i^j.toNat)
noncomputable abbrev ltF:F2:=fI0 fun i j=>.bl (decide (i<j))
noncomputable abbrev leF:F2:=fI0 fun i j=>.bl (decide (i≤j))
noncomputable abbrev gtF:F2:=fI0 fun i j=>.bl (decide (j<i))
noncomputable abbrev geF:F2:=fI0 fun i j=>.bl (decide (j≤i))
theorem d_sub:OpD K (rI0 fun i j=>.int (i-j)) subF:=dI0 fun _ _ _=>rep_int.mpr rfl
theorem p0y:OpD K (rI CMul fun i j=>.int (i*j)) mulF:=dI fun _ _ _=>rep_int.mpr rfl
theorem c0u:OpD K (rI CDiv fun i j=>.int (i/j)) f0d:=dI fun _ _ _=>rep_int.mpr rfl
theorem k0q:OpD K (rI (fun _ j=>0<j) fun i j=>.int (i%j)) modF:=dI fun _ _ _=>rep_int.mpr rfl
theorem d_pow:OpD K (rI CPow fun i j=>.int (i^j.toNat)) powF:=dI fun _ _ _=>rep_int.mpr rfl
theorem d_lt:OpD K (rI0 fun i j=>.bl (decide (i<j))) ltF:=dI0 fun _ _ _=>rep_bl.mpr rfl
theorem d_le:OpD K (rI0 fun i j=>.bl (decide (i≤j))) leF:=dI0 fun _ _ _=>rep_bl.mpr rfl
theorem d_gt:OpD K (rI0 fun i j=>.bl (decide (j<i))) gtF:=dI0 fun _ _ _=>rep_bl.mpr rfl
theorem d_ge:OpD K (rI0 fun i j=>.bl (decide (j≤i))) geF:=dI0 fun _ _ _=>rep_bl.mpr rfl
noncomputable def repF:F2:=fun d1 d2 q=>match d1,d2 with
 | .lst xs,.int k=>xs.length*k.toNat≤1000∧0≤k∧k≤1000∧q (.lst (List.replicate k.toNat xs).flatten)
 |_,_=>False
theorem Reps.rep{F:Hp}{ds:List D}{vs:List V}(h:Reps K F ds vs):∀n:Nat,Reps K F (List.replicate n ds).flatten (List.replicate n vs).flatten
 | 0=>by simp;exact Reps.nil
 |n+1=>by rw[List.replicate_succ,List.replicate_succ,List.flatten_cons,List.flatten_cons];exact h.append (Reps.rep h n)
theorem d_rep:OpD K rRep repF:=by
 intro Y F H σ ρ δ x y d1 d2 Q1 q I r1 r2 h' k;unfold repF at h';split at h'
 ·rename_i xs n;obtain ⟨a,vs,rfl,e1,z1⟩:=rep_lst.mp r1;obtain ⟨h1,h2,h3,h4⟩:=h';refine ⟨a,n,vs,rfl,rep_int.mp r2,I.sub _ _ e1,by omega,by omega,o0b (by rw[z1.length];exact h1),fun p hp=>k _ _ _ _ (I.alloc hp) (I.grow hp) (I.lst hp (z1.rep _)) h4⟩
 ·exact h'.elim
noncomputable def eqD:D→D→Option Bool
 | .int i,.int j=>some (decide (i=j))
 | .bl i,.bl j=>some (decide (i=j))
 | .str i,.str j=>some (decide (i=j))
 | .non,.non=>some true
 | .non,.int _=>some false | .non,.bl _=>some false | .non,.str _=>some false
 | .int _,.non=>some false | .bl _,.non=>some false | .str _,.non=>some false
 | .int _,.str _=>some false | .bl _,.str _=>some false
 | .str _,.int _=>some false | .str _,.bl _=>some false
 |_,_=>none
noncomputable def eqF:F2:=fun d1 d2 q=>match eqD d1 d2 with |some b=>q (.bl b)|none=>False
noncomputable def neF:F2:=fun d1 d2 q=>match eqD d1 d2 with |some b=>q (.bl (!b))|none=>False
theorem eqD_v{F:Hp}{d1 d2:D}{x y:V}{b:Bool}(h:eqD d1 d2=some b)(r1:Rep K F d1 x)(r2:Rep K F d2 y):scal x y=true∧decide (x=y)=b:=by
 unfold eqD at h;split at h<;>first |cases h |skip
 all_goals
  first
   |(rw[rep_int.mp r1,rep_int.mp r2];exact ⟨rfl,by simp⟩)
   |(rw[rep_bl.mp r1,rep_bl.mp r2];exact ⟨rfl,by simp⟩)
   |(rw[rep_str.mp r1,rep_str.mp r2];exact ⟨rfl,by simp⟩)
   |(rw[rep_non.mp r1,rep_non.mp r2];exact ⟨rfl,by simp⟩)
   |(rw[rep_non.mp r1,rep_int.mp r2];exact ⟨rfl,by simp⟩)
   |(rw[rep_non.mp r1,rep_bl.mp r2];exact ⟨rfl,by simp⟩)
   |(rw[rep_non.mp r1,rep_str.mp r2];exact ⟨rfl,by simp⟩)
   |(rw[rep_int.mp r1,rep_non.mp r2];exact ⟨rfl,by simp⟩)
   |(rw[rep_bl.mp r1,rep_non.mp r2];exact ⟨rfl,by simp⟩)
   |(rw[rep_str.mp r1,rep_non.mp r2];exact ⟨rfl,by simp⟩)
   |(rw[rep_int.mp r1,rep_str.mp r2];exact ⟨rfl,by simp⟩)
   |(rw[rep_bl.mp r1,rep_str.mp r2];exact ⟨rfl,by simp⟩)
   |(rw[rep_str.mp r1,rep_int.mp r2];exact ⟨rfl,by simp⟩)
   |(rw[rep_str.mp r1,rep_bl.mp r2];exact ⟨rfl,by simp⟩)
theorem d_eq:OpD K rEq eqF:=by
 intro Y F H σ ρ δ x y d1 d2 Q1 q I r1 r2 h' k;unfold eqF at h';split at h'
 ·rename_i b e;obtain ⟨s,e2⟩:=eqD_v e r1 r2;exact ⟨s,by rw[e2];exact k _ _ F H I (Same.refl F) (rep_bl.mpr rfl) h'⟩
 ·exact h'.elim
theorem d_ne:OpD K rNe neF:=by
 intro Y F H σ ρ δ x y d1 d2 Q1 q I r1 r2 h' k;unfold neF at h';split at h'
 ·rename_i b e;obtain ⟨s,e2⟩:=eqD_v e r1 r2;exact ⟨s,by rw[e2];exact k _ _ F H I (Same.refl F) (rep_bl.mpr rfl) h'⟩
 ·exact h'.elim
noncomputable def s0i:D→Bool | .non=>true |_=>false
noncomputable def isNF:F2:=fun d1 d2 q=>match d2 with | .non=>q (.bl (s0i d1))|_=>False
noncomputable def notNF:F2:=fun d1 d2 q=>match d2 with | .non=>q (.bl (!s0i d1))|_=>False
theorem b0b{F:Hp}{d:D}{x:V}(r:Rep K F d x):decide (x=.non)=s0i d:=by
 cases d with
 |non=>rw[rep_non.mp r];rfl
 |bl b=>rw[rep_bl.mp r];rfl
 |int b=>rw[rep_int.mp r];rfl
 |str b=>rw[rep_str.mp r];rfl
 |lst b=>obtain ⟨a,vs,rfl,_⟩:=rep_lst.mp r;rfl
 |tup b=>obtain ⟨a,vs,rfl,_⟩:=rep_tup.mp r;rfl
 |scr b=>obtain ⟨a,vs,rfl,_⟩:=rep_scr.mp r;rfl
 |dic b=>obtain ⟨a,vs,rfl,_⟩:=rep_dic.mp r;rfl
 |dwk b=>obtain ⟨a,o,vs,rfl,_⟩:=rep_dwk.mp r;rfl
 |ins C b=>obtain ⟨a,dx,vs,rfl,_⟩:=rep_ins.mp r;rfl
 |exc C b=>obtain ⟨a,fr,rfl,_⟩:=rep_exc.mp r;rfl
 |ref a=>rw[rep_ref.mp r];rfl
 |ty a=>rw[rep_ty.mp r];rfl
theorem d_isN:OpD K (fun x y H Q=>y=.non∧Q (.bl (decide (x=.non))) H) isNF:=by
 intro Y F H σ ρ δ x y d1 d2 Q1 q I r1 r2 h' k;cases d2 with
 |non=>exact ⟨rep_non.mp r2,by rw[b0b r1];exact k _ _ F H I (Same.refl F) (rep_bl.mpr rfl) h'⟩
 |_=>exact h'.elim
noncomputable def isBF:F2:=fun d1 d2 q=>match d1,d2 with | .bl i,.bl j=>q (.bl (i==j))|_,_=>False
noncomputable def notBF:F2:=fun d1 d2 q=>match d1,d2 with | .bl i,.bl j=>q (.bl (!(i==j)))|_,_=>False
noncomputable def seqD:D→Option (List D)
 | .lst xs=>some xs | .tup xs=>some xs | .scr xs=>some xs |_=>none
noncomputable def ixF:F2:=fun d1 d2 q=>match seqD d1,d2 with
 |some xs,.int i=>match atI xs i with |some d=>q d |none=>False
 |_,_=>False
theorem s0h{F H:Hp}{d:D}{xs:List D}{x:V}(s:Same F H)(h:seqD d=some xs)(r:Rep K F d x):∃a vs,x=.ref a∧(SqL K H a vs∨SqT K H a vs)∧Reps K F xs vs:=by
 cases d with
 |lst ys=>cases h;obtain ⟨a,vs,rfl,e,z⟩:=rep_lst.mp r;exact ⟨a,vs,rfl,.inl (SqL.of (s _ _ e)),z⟩
 |tup ys=>cases h;obtain ⟨a,vs,rfl,e,z⟩:=rep_tup.mp r;exact ⟨a,vs,rfl,.inr (SqT.of (s _ _ e)),z⟩
 |scr ys=>cases h;obtain ⟨a,vs,rfl,e,z⟩:=rep_scr.mp r;exact ⟨a,vs,rfl,.inl (s.sqL e),z⟩
 |_=>cases h
theorem d_ix:OpD K (rIx K) ixF:=by
 intro Y F H σ ρ δ x y d1 d2 Q1 q I r1 r2 h' k;unfold ixF at h';split at h'
 ·rename_i xs i e;split at h'
  ·rename_i d ed;obtain ⟨a,vs,rfl,sq,z⟩:=s0h I.sub e r1;obtain ⟨v,ev,rv⟩:=z.atI ed;have fin:=k d v F H I (Same.refl F) rv h';rcases sq with sq |sq
   ·exact .inl ⟨a,vs,i,v,rfl,rep_int.mp r2,sq,ev,fin⟩
   ·exact .inr (.inl ⟨a,vs,i,v,rfl,rep_int.mp r2,sq,ev,fin⟩)
  ·exact h'.elim
 ·exact h'.elim
noncomputable def y7:D→Bool | .non=>true | .bl _=>true | .int _=>true | .str _=>true |_=>false
noncomputable def toV:D→V | .bl b=>.bl b | .int i=>.int i | .str x=>.str x |_=>.non
theorem c0t{F:Hp}{d:D}{x:V}(h:y7 d=true)(r:Rep K F d x):x=toV d∧y0t x=true:=by
 cases d with
 |non=>rw[rep_non.mp r];exact ⟨rfl,rfl⟩
 |bl b=>rw[rep_bl.mp r];exact ⟨rfl,rfl⟩
 |int b=>rw[rep_int.mp r];exact ⟨rfl,rfl⟩
 |str b=>rw[rep_str.mp r];exact ⟨rfl,rfl⟩
 |_=>cases h
theorem q8{F:Hp}:∀{ds:List D} {xs:List V},ds.all y7=true→Reps K F ds xs→xs=ds.map toV∧xs.all y0t=true
 | [],xs,_,r=>by rw[reps_nil.mp r];exact ⟨rfl,rfl⟩
 |d::ds,xs,h,r=>by
  obtain ⟨v,vs,rfl,r1,r2⟩:=reps_cons.mp r;rw[List.all_cons,Bool.and_eq_true]at h;obtain ⟨e1,e2⟩:=c0t h.1 r1;obtain ⟨e3,e4⟩:=q8 h.2 r2;rw[List.all_cons,e2,e4,List.map_cons,← e1,← e3];exact ⟨rfl,rfl⟩
noncomputable def inD(d:D)(xs:List D):Bool:=xs.any fun e=>eqV (toV e) (toV d)
noncomputable def inF:F2:=fun d1 d2 q=>match seqD d2 with |some xs=>(y7 d1&&xs.all y7)=true∧q (.bl (inD d1 xs))|none=>False
noncomputable def notInF:F2:=fun d1 d2 q=>match seqD d2 with |some xs=>(y7 d1&&xs.all y7)=true∧q (.bl (!inD d1 xs))|none=>False
theorem b0a(d:D)(xs:List D):inV (toV d) (xs.map toV)=inD d xs:=by unfold inV inD;rw[List.any_map];rfl
theorem d_in:OpD K (rIn K false) inF:=by
 intro Y F H σ ρ δ x y d1 d2 Q1 q I r1 r2 h' k;unfold inF at h';split at h'
 ·rename_i xs e;obtain ⟨h1,h2⟩:=h';rw[Bool.and_eq_true]at h1;obtain ⟨a,vs,rfl,sq,z⟩:=s0h I.sub e r2;obtain ⟨e1,e2⟩:=c0t h1.1 r1;obtain ⟨e3,e4⟩:=q8 h1.2 z;refine ⟨a,vs,rfl,sq,e2,e4,?_⟩;rw[e1,e3,b0a];exact k _ _ F H I (Same.refl F) (rep_bl.mpr rfl) h2
 ·exact h'.elim
noncomputable def lenF:F1:=fun ds q=>match ds with | [d]=>(match seqD d with |some xs=>q (.int (xs.length:Nat))|none=>False)|_=>False
theorem d8{F:Hp}{d:D}{vs:List V}(r:Reps K F [d] vs):∃v,vs=[v]∧Rep K F d v:=by
 obtain ⟨v,l,rfl,r1,r2⟩:=reps_cons.mp r;rw[reps_nil.mp r2];exact ⟨v,rfl,r1⟩
theorem a0z{F:Hp}{d e:D}{vs:List V}(r:Reps K F [d,e] vs):∃v u,vs=[v,u]∧Rep K F d v∧Rep K F e u:=by
 obtain ⟨v,l,rfl,r1,r2⟩:=reps_cons.mp r;obtain ⟨u,rfl,r3⟩:=d8 r2;exact ⟨v,u,rfl,r1,r3⟩
theorem d_len:v0e K (fun xs H Q=>∃p ys,xs=[.ref p]∧(SqL K H p ys∨SqT K H p ys)∧Q (.int ys.length) H) lenF:=by
 intro Y F H σ ρ δ vs ds Q1 q I r h' k;unfold lenF at h';split at h'
 ·split at h'
  ·rename_i xs e;obtain ⟨v,rfl,r1⟩:=d8 r;obtain ⟨a,us,rfl,sq,z⟩:=s0h I.sub e r1;exact ⟨a,us,rfl,sq,by rw[z.length];exact k _ _ F H I (Same.refl F) (rep_int.mpr rfl) h'⟩
  ·exact h'.elim
 ·exact h'.elim
noncomputable def absF:F1:=fun ds q=>match ds with | [.int i]=>q (.int (if i<0 then -i else i))|_=>False
theorem d_abs:v0e K (fun xs H Q=>∃i,xs=[.int i]∧Q (.int (if i<0 then -i else i)) H) absF:=by
 intro Y F H σ ρ δ vs ds Q1 q I r h' k;unfold absF at h';split at h'
 ·obtain ⟨v,rfl,r1⟩:=d8 r;rw[rep_int.mp r1];exact ⟨_,rfl,k _ _ F H I (Same.refl F) (rep_int.mpr rfl) h'⟩
 ·exact h'.elim
noncomputable def minF:F1:=fun ds q=>match ds with | [.int i,.int j]=>q (.int (if j<i then j else i))|_=>False
noncomputable def maxF:F1:=fun ds q=>match ds with | [.int i,.int j]=>q (.int (if j>i then j else i))|_=>False
noncomputable def intF:F1:=fun ds q=>match ds with | [.int i]=>q (.int i)| [.bl k]=>q (.int (if k then 1 else 0))|_=>False
theorem d_int:v0e K (fun xs H Q=>(∃i,xs=[.int i]∧Q (.int i) H)∨∃k,xs=[.bl k]∧Q (.int (if k then 1 else 0)) H) intF:=by
 intro Y F H σ ρ δ vs ds Q1 q I r h' k;unfold intF at h';split at h'
 ·obtain ⟨v,rfl,r1⟩:=d8 r;rw[rep_int.mp r1];exact .inl ⟨_,rfl,k _ _ F H I (Same.refl F) (rep_int.mpr rfl) h'⟩
 ·obtain ⟨v,rfl,r1⟩:=d8 r;rw[rep_bl.mp r1];exact .inr ⟨_,rfl,k _ _ F H I (Same.refl F) (rep_int.mpr rfl) h'⟩
 ·exact h'.elim
noncomputable def listF:F1:=fun ds q=>match ds with | [d]=>(match seqD d with |some xs=>q (.lst xs)|none=>False)|_=>False
noncomputable def p0x:F1:=fun ds q=>match ds with | [.lst xs]=>q (.tup xs)| [.scr xs]=>q (.tup xs)| [.tup xs]=>q (.tup xs)|_=>False
theorem n0z:v0e K (fun xs H Q=>∃p ys,xs=[.ref p]∧((SqL K H p ys∧∀l,H l=none→Q (.ref l) (upd H l (.tup ys)))∨(SqT K H p ys∧Q (.ref p) H))) p0x:=by
 intro Y F H σ ρ δ vs ds Q1 q I r h' k;unfold p0x at h';split at h'
 ·obtain ⟨v,rfl,r1⟩:=d8 r;obtain ⟨a,us,rfl,e,z⟩:=rep_lst.mp r1;exact ⟨a,us,rfl,.inl ⟨SqL.of (I.sub _ _ e),fun l hl=>k _ _ _ _ (I.alloc hl) (I.grow hl) (I.tup hl z) h'⟩⟩
 ·obtain ⟨v,rfl,r1⟩:=d8 r;obtain ⟨a,us,rfl,e,z⟩:=rep_scr.mp r1;exact ⟨a,us,rfl,.inl ⟨I.sub.sqL e,fun l hl=>k _ _ _ _ (I.alloc hl) (I.grow hl) (I.tup hl z) h'⟩⟩
 ·obtain ⟨v,rfl,r1⟩:=d8 r;obtain ⟨a,us,rfl,e,z⟩:=rep_tup.mp r1;exact ⟨a,us,rfl,.inr ⟨SqT.of (I.sub _ _ e),k _ _ F H I (Same.refl F) (rep_tup.mpr ⟨a,us,rfl,e,z⟩) h'⟩⟩
 ·exact h'.elim
noncomputable def blsD:List D→Option (List Bool)
 | []=>some []
 | .bl b::r=>(blsD r).map (b::·)
 |_=>none
theorem bls_v{F:Hp}:∀{ds:List D} {bs:List Bool} {vs:List V},blsD ds=some bs→Reps K F ds vs→vs=bs.map V.bl
 | [],bs,vs,h,r=>by cases h;rw[reps_nil.mp r];rfl
 |d::ds,bs,vs,h,r=>by
  obtain ⟨v,l,rfl,r1,r2⟩:=reps_cons.mp r;cases d with
  |bl b=>
   unfold blsD at h;obtain ⟨cs,e1,rfl⟩:=Option.map_eq_some_iff.mp h;rw[rep_bl.mp r1,bls_v e1 r2];rfl
  |_=>cases h
noncomputable def allF:F1:=fun ds q=>match ds with | [.lst xs]=>(match blsD xs with |some bs=>q (.bl (bs.all id))|none=>False)|_=>False
theorem d_all:v0e K (rAll K) allF:=by
 intro Y F H σ ρ δ vs ds Q1 q I r h' k;unfold allF at h';split at h'
 ·split at h'
  ·rename_i xs _ bs e;obtain ⟨v,rfl,r1⟩:=d8 r;obtain ⟨a,us,rfl,e2,z⟩:=rep_lst.mp r1;exact ⟨a,bs,rfl,SqL.of (by rw[←bls_v e z];exact I.sub _ _ e2),k _ _ F H I (Same.refl F) (rep_bl.mpr rfl) h'⟩
  ·exact h'.elim
 ·exact h'.elim
structure ClsI(K:Frag)(C:Addr):Prop where
 cl:Cls K C
 ha:PySem.W.findIn K (.ref C) "__class__"=some (some (.builtin "object.__class__"))
 hn:PySem.W.specialIn K (.builtin "object.__class__") "__get__"=some (some (.builtin "getset_descriptor.__get__"))
 htk:PySem.W.takesIn K (.builtin "object.__class__")=some true
 hm:PySem.W.mroIn K C (.type "object")=some true
noncomputable def tyD:D→Value
 | .non=>.type "NoneType" | .bl _=>.type "bool" | .int _=>.type "int" | .str _=>.type "str" | .lst _=>.type "list" | .scr _=>.type "list" | .tup _=>.type "tuple" | .dic _=>.type "dict"
 | .ins C _=>.ref C | .exc C _=>.ref C |_=>.none
noncomputable def TyD(K:Frag):D→Prop
 | .ins C _=>ClsI K C | .exc C _=>XC K C | .ref _=>False | .ty _=>False | .scr _=>False | .dwk _=>False |_=>True
theorem tyD_v{F H:Hp}{d:D}{x:V}(s:Same F H)(t:TyD K d)(r:Rep K F d x):TyX K H x (tyD d):=by
 cases d with
 |non=>rw[rep_non.mp r];exact .of .non
 |bl b=>rw[rep_bl.mp r];exact .of (.bl b)
 |int b=>rw[rep_int.mp r];exact .of (.int b)
 |str b=>rw[rep_str.mp r];exact .of (.str b)
 |lst b=>obtain ⟨a,vs,rfl,e,_⟩:=rep_lst.mp r;exact .of (.lst (s _ _ e))
 |tup b=>obtain ⟨a,vs,rfl,e,_⟩:=rep_tup.mp r;exact .of (.tup (s _ _ e))
 |scr b=>exact t.elim
 |dic b=>obtain ⟨a,vs,rfl,e,_⟩:=rep_dic.mp r;exact .of (.dK (s _ _ e))
 |dwk b=>exact t.elim
 |ins C b=>obtain ⟨a,dx,vs,rfl,e,_⟩:=rep_ins.mp r;exact .of (.ins (s _ _ e) t.cl t.ha t.hn t.htk t.hm)
 |exc C b=>
  obtain ⟨a,fr,rfl,h⟩:=rep_exc.mp r;rcases h with ⟨_,e⟩|⟨d,us,e,e2,_⟩
  ·exact .exc0 (s _ _ e) t
  ·exact .exc (s _ _ e) (s _ _ e2) t
 |ref a=>exact t.elim
 |ty a=>exact t.elim
noncomputable def tysD:List D→Option (List String)
 | []=>some []
 | .ty n::r=>(tysD r).map (n::·)
 |_=>none
theorem tys_v{F:Hp}:∀{ds:List D} {ns:List String} {vs:List V},tysD ds=some ns→Reps K F ds vs→vs=ns.map V.ty
 | [],bs,vs,h,r=>by cases h;rw[reps_nil.mp r];rfl
 |d::ds,bs,vs,h,r=>by
  obtain ⟨v,l,rfl,r1,r2⟩:=reps_cons.mp r;cases d with
  |ty b=>
   unfold tysD at h;obtain ⟨cs,e1,rfl⟩:=Option.map_eq_some_iff.mp h;rw[rep_ty.mp r1,tys_v e1 r2];rfl
  |_=>cases h
noncomputable def b9(K:Frag)(d c:D):Option Bool:=match c with
 | .ty n=>PySem.W.kitOne K (tyD d) (.type n)
 | .ref C=>PySem.W.kitOne K (tyD d) (.ref C)
 | .tup cs=>match tysD cs with |some ns=>PySem.W.kitAny K (tyD d) (ns.map Value.type)|none=>none
 |_=>none
noncomputable def i0r(K:Frag):F1:=fun ds q=>match ds with | [d,c]=>TyD K d∧(match b9 K d c with |some b=>q (.bl b)|none=>False)|_=>False
theorem x0q:v0e K (rInst K) (i0r K):=by
 intro Y F H σ ρ δ vs ds Q1 q I r h' k;unfold i0r at h';split at h'
 ·rename_i d c;obtain ⟨ht,h'⟩:=h';obtain ⟨v,u,rfl,r1,r2⟩:=a0z r;split at h'
  ·rename_i b e;refine ⟨v,u,_,b,rfl,tyD_v I.sub ht r1,?_,k _ _ F H I (Same.refl F) (rep_bl.mpr rfl) h'⟩;unfold b9 at e;split at e
   ·exact .inl ⟨_,rep_ty.mp r2,e⟩
   ·exact .inr (.inl ⟨_,rep_ref.mp r2,e⟩)
   ·split at e
    ·rename_i ns en;obtain ⟨a,us,rfl,e2,z⟩:=rep_tup.mp r2;exact .inr (.inr ⟨a,ns,rfl,by rw[←tys_v en z];exact I.sub _ _ e2,e⟩)
    ·cases e
   ·cases e
  ·exact h'.elim
 ·exact h'.elim
end
end DL
namespace DL
open PySem PySem.Spec L2
open PySem.W (XC)
structure End2 where
 nx:En→Dk→Prop
 rt:D→Dk→Prop
 xc:XK2
 bk:En→Dk→Prop:=fun _ _=>False
 ct:En→Dk→Prop:=fun _ _=>False
noncomputable abbrev TS2:=End2→En→Dk→Prop
structure ER(K:Frag)(Y:Y2)(W:XW)(F:Hp)(E2:End2)(E1:Ends):Prop where
 nx:∀ σ' F' H' ρ' δ',I2 K Y F' H' σ' ρ' δ'→Same F F'→E2.nx ρ' δ'→E1.nx σ' H'
 rt:∀d v σ' F' H' ρ' δ',I2 K Y F' H' σ' ρ' δ'→Same F F'→Rep K F' d v→E2.rt d δ'→E1.rt v H'
 xc:XR K Y W F E2.xc
 bk:∀ σ' F' H' ρ' δ',I2 K Y F' H' σ' ρ' δ'→Same F F'→E2.bk ρ' δ'→E1.bk σ' H'
 ct:∀ σ' F' H' ρ' δ',I2 K Y F' H' σ' ρ' δ'→Same F F'→E2.ct ρ' δ'→E1.ct σ' H'
theorem ER.mono{K:Frag}{Y:Y2}{W:XW}{F F1:Hp}{E2:End2}{E1:Ends}(h:ER K Y W F E2 E1)(s:Same F F1):ER K Y W F1 E2 E1:=
 ⟨fun σ' F' H' ρ' δ' I s'=>h.nx σ' F' H' ρ' δ' I (s.trans s'),fun d v σ' F' H' ρ' δ' I s'=>h.rt d v σ' F' H' ρ' δ' I (s.trans s'),h.xc.mono s,fun σ' F' H' ρ' δ' I s'=>h.bk σ' F' H' ρ' δ' I (s.trans s'),fun σ' F' H' ρ' δ' I s'=>h.ct σ' F' H' ρ' δ' I (s.trans s')⟩
noncomputable def upS(K:Frag)(Y:Y2)(W:XW)(t:TS2):TS:=fun E1 σ H=>∃F ρ δ E2,I2 K Y F H σ ρ δ∧t E2 ρ δ∧ER K Y W F E2 E1
structure PS2(X:Cx)(Y:Y2)(W:XW)(st:Stmt)(t:TS2):Prop where
 go:PS X st (upS X.K Y W t)
structure PSs2(X:Cx)(Y:Y2)(W:XW)(st:List Stmt)(t:TS2):Prop where
 go:PSs X st (upS X.K Y W t)
theorem a0y{X:Cx}{st:Stmt}{t t':TS}(h:PS X st t)(k:∀D σ H,t' D σ H→t D σ H):PS X st t':=fun pins s σ H D I q=>h pins s σ H D I (k D σ H q)
theorem l0u{X:Cx}{st:List Stmt}{t t':TS}(h:PSs X st t)(k:∀D σ H,t' D σ H→t D σ H):PSs X st t':=fun pins s σ H D I q=>h pins s σ H D I (k D σ H q)
theorem ps2{X:Cx}{Y:Y2}{W:XW}{st:Stmt}{t:TS}{u:TS2}(h:PS X st t)(k:∀D σ H,upS X.K Y W u D σ H→t D σ H):PS2 X Y W st u:=⟨a0y h k⟩
theorem pss2{X:Cx}{Y:Y2}{W:XW}{st:List Stmt}{t:TS}{u:TS2}(h:PSs X st t)(k:∀D σ H,upS X.K Y W u D σ H→t D σ H):PSs2 X Y W st u:=⟨l0u h k⟩
section
variable{X:Cx}{Y:Y2}{W:XW}{st:Stmt}{rest:List Stmt}{t u:TS2}{e:Expr}{te:TE2}{pos:Pos}
noncomputable def p0w:TS2:=fun E ρ δ=>E.nx ρ δ
noncomputable def f0c(t u:TS2):TS2:=fun E ρ δ=>t {E with nx:=u E} ρ δ
theorem v4:PSs2 X Y W [] p0w:=pss2 b0z fun E1 σ H ⟨F,ρ,δ,E2,I,h,er⟩=>er.nx σ F H ρ δ I (Same.refl F) h
theorem l0(h1:PS2 X Y W st t)(h2:PSs2 X Y W rest u):PSs2 X Y W (st::rest) (f0c t u):=pss2 (g0d h1.go h2.go) fun E1 σ H ⟨F,ρ,δ,E2,I,h,er⟩=>
 ⟨F,ρ,δ,{E2 with nx:=u E2},I,h,⟨fun σ' F' H' ρ' δ' I' s' h'=>⟨F',ρ',δ',E2,I',h',er.mono s'⟩,er.rt,er.xc,er.bk,er.ct⟩⟩
theorem g0(h1:PS2 X Y W st t):PSs2 X Y W [st] t:=⟨r0z h1.go⟩
noncomputable def a0x:TS2:=fun E ρ δ=>E.bk ρ δ
noncomputable def t2Cont:TS2:=fun E ρ δ=>E.ct ρ δ
noncomputable def l0t(te:TE2):TS2:=fun E ρ δ=>te E.xc ρ δ fun _ ρ1 δ1=>E.nx ρ1 δ1
theorem a0w(he:PE2 X Y W e te)(hs:swapsWith e none pos.line X.env=pure false:=by rfl):PS2 X Y W (.Expr e pos) (l0t te):=ps2 (b0y he.go hs) fun E1 σ H ⟨F,ρ,δ,E2,I,h,er⟩=>
 ⟨F,ρ,δ,E2.xc,_,I,h,fun d v F' H' ρ' δ' I' s' r' h'=>er.nx σ F' H' ρ' δ' I' s' h',er.xc⟩
noncomputable def i0q(te:TE2):TS2:=fun E ρ δ=>te E.xc ρ δ fun d _ δ1=>E.rt d δ1
theorem y4(he:PE2 X Y W e te):PS2 X Y W (.Return (some e) pos) (i0q te):=ps2 (d0j he.go) fun E1 σ H ⟨F,ρ,δ,E2,I,h,er⟩=>
 ⟨F,ρ,δ,E2.xc,_,I,h,fun d v F' H' ρ' δ' I' s' r' h'=>er.rt d v σ F' H' ρ' δ' I' s' r' h',er.xc⟩
noncomputable def t2RetN:TS2:=fun E _ δ=>E.rt .non δ
noncomputable def i0p(c:TT2)(t u:TS2):TS2:=fun E ρ δ=>c E.xc ρ δ fun b ρ1 δ1=>if b=true then t E ρ1 δ1 else u E ρ1 δ1
theorem m5{c:Expr}{a b:List Stmt}{tc:TT2}(hc:PT2 X Y W c tc)(ha:PSs2 X Y W a t)(hb:PSs2 X Y W b u):PS2 X Y W (.If c a b pos) (i0p tc t u):=ps2 (ps_if hc.go ha.go hb.go) fun E1 σ H ⟨F,ρ,δ,E2,I,h,er⟩=>by
 refine ⟨F,ρ,δ,E2.xc,_,I,h,fun b F' H' ρ' δ' I' s' h'=>?_,er.xc⟩;cases b with
 |true=>rw[if_pos rfl]at h' ⊢; exact ⟨F',ρ',δ',E2,I',h',er.mono s'⟩
 |false=>rw[if_neg Bool.false_ne_true]at h' ⊢; exact ⟨F',ρ',δ',E2,I',h',er.mono s'⟩
variable{i:Nat}{x:Str}{pos' p:Pos}
noncomputable def i0o(i:Nat)(te:TE2):TS2:=fun E ρ δ=>te E.xc ρ δ fun d ρ1 δ1=>E.nx (ρ1.set i (.val d)) δ1
theorem b4(i:Nat)(hN:X.N.Nodup)(he:PE2 X Y W e te)(hi:X.N[i]?=some x:=by rfl)(hx:Loc X.env.scope x:=by walk_at "v2")(hs:swapsWith e (some (.Name x pos')) pos.line X.env=pure false:=by rfl)
 (hf:X.fn x=true∨X.env.scope.names.lookup x=some .local:=by walk_at "v1"):PS2 X Y W (.Assign [.Name x pos'] e pos) (i0o i te):=ps2 (m0l (i:=i) hN hi hx he.go hs hf) fun E1 σ H ⟨F,ρ,δ,E2,I,h,er⟩=>
 ⟨F,ρ,δ,E2.xc,_,I,h,fun d v F' H' ρ' δ' I' s' r' h'=>er.nx _ F' H' _ δ' (I'.put r') s' h',er.xc⟩
theorem I2.own{K:Frag}{F H:Hp}{σ:St}{ρ:En}{δ:Dk}{i:Nat}{p:Addr}{ds:List D}{vs:List V}(I:I2 K Y F H σ ρ δ)(h:H p=none)(r:Reps K F ds vs):I2 K Y F (upd H p (.lst vs)) (σ.set i (some (.ref p))) (ρ.set i (.own ds)) δ:=by
 have hF:F p=none:=I.sub.free h;have h0:=I.ran.fresh h;have key:∀j a,a6 (ρ.set i (.own ds)) (σ.set i (some (.ref p))) j a→(j=i∧a=p)∨(j≠i∧a6 ρ σ j a):=fun j a o=>by
  by_cases z:j=i
  ·subst z;have:=o.2;rw[List.getElem?_set]at this;by_cases hl:j<σ.length
   ·simp[hl]at this;exact .inl ⟨rfl,this.symm⟩
   ·simp[hl]at this
  ·obtain ⟨o1,o2⟩:=o;simp only[List.getElem?_set_ne (Ne.symm z)]at o1 o2;exact .inr ⟨z,o1,o2⟩
 have addr:∀j a,a6 ρ σ j a→a≠p:=fun j a o=>by
  rcases o.1 with ⟨ds,q⟩|⟨C,fs,q⟩|⟨kvs,q⟩
  ·obtain ⟨b,us,e,hb,_⟩:=I.env j _ q;rw[o.2]at e;cases e;exact s0 hb h
  ·obtain ⟨b,dx,us,e,es0,hb,_⟩:=I.env j _ q;rw[o.2]at e;cases e;exact s0 hb h
  ·obtain ⟨b,us,e,hb,_⟩:=I.env j _ q;rw[o.2]at e;cases e;exact s0 hb h
 refine ⟨⟨fun b u e=>?_,fun a es e=>?_,fun b u e f=>?_,I.ran.f0,I.ran.fnew,I.ran.dto⟩,fun j c e=>?_,by simp[I.len],fun a b c n o1 o2=>?_,fun j a o=>?_⟩
 ·rw[y0 (s0 e hF)];exact I.sub _ _ e
 ·obtain ⟨q,us,q2,r2⟩:=I.ran.dk a es e;exact ⟨q,us,by rw[y0 (s0 q2 h)];exact q2,r2⟩
 ·rw[y0 (s0 (I.ran.keep b u e f) h)];exact I.ran.keep b u e f
 ·by_cases z:j=i
  ·subst z;rw[List.getElem?_set]at e;by_cases hl:j<ρ.length
   ·simp[hl]at e;subst e;refine ⟨p,vs,?_,n3,hF,h0,r⟩;rw[List.getElem?_set];simp[I.len▸hl]
   ·simp[hl]at e
  ·rw[List.getElem?_set_ne (Ne.symm z)]at e ⊢;have w:=I.env j c e;cases c with
   |no=>trivial
   |val d=>exact w
   |own es=>
    obtain ⟨b,us,e1,h1,f1,g1,r1⟩:=w;exact ⟨b,us,e1,by rw[y0 (s0 h1 h)];exact h1,f1,g1,r1⟩
   |obj C fs=>
    obtain ⟨b,dx,us,e1,es1,h1,h2,f1,f2,g1,g2,r1⟩:=w;exact ⟨b,dx,us,e1,es1,by rw[y0 (s0 h1 h)];exact h1,by rw[y0 (s0 h2 h)];exact h2,f1,f2,g1,g2,r1⟩
   |ownD kvs=>
    obtain ⟨b,us,e1,h1,f1,g1,r1⟩:=w;exact ⟨b,us,e1,by rw[y0 (s0 h1 h)];exact h1,f1,g1,r1⟩
 ·rcases key a c o1 with ⟨z1,z2⟩|⟨z1,z2⟩
  ·rcases key b c o2 with ⟨y1,y2⟩|⟨y1,y2⟩
   ·exact n (z1.trans y1.symm)
   ·exact addr b c y2 z2
  ·rcases key b c o2 with ⟨y1,y2⟩|⟨y1,y2⟩
   ·exact addr a c z2 y2
   ·exact I.apart a b c n z2 y2
 ·rcases key j a o with ⟨z1,z2⟩|⟨z1,z2⟩
  ·intro b es eb w;obtain ⟨_,us,q2,_⟩:=I.ran.dk b es eb;rw[←w,z2,h]at q2;cases q2
  ·exact I.off j a z2
noncomputable def t2Own(i:Nat)(ta:TA2):TS2:=fun E ρ δ=>ta E.xc ρ δ fun ds ρ1 δ1=>ds.length≤1000∧E.nx (ρ1.set i (.own ds)) δ1
noncomputable def l0s(i:Nat)(ta:TA2):TS2:=fun E ρ δ=>ta E.xc ρ δ fun ds ρ1 δ1=>match ds with | [d]=>(match seqD d with |some xs=>E.nx (ρ1.set i (.own xs)) δ1 |none=>False)|_=>False
theorem a0v(i:Nat){a:Expr}{ta:TA2}{cpos np:Pos}(hN:X.N.Nodup)(hm:X.mg "list"=none)(ha:PA2 X Y W [a] ta)(hg:Gl X "list":=by rfl)(hst:starEach [a] X.env=[(false,eval a X.env)]:=by rfl)(hi:X.N[i]?=some x:=by rfl)(hx:Loc X.env.scope x:=by walk_at "v2")
 (hs:swapsWith (.Call (.Name "list" np) [a] [] cpos) (some (.Name x pos')) pos.line X.env=pure false:=by rfl) (hf:X.fn x=true∨X.env.scope.names.lookup x=some .local:=by walk_at "v1") (hpl:(backTo cpos (starEach [] X.env)).any (·.1)=false:=by exact p6 rfl):
 PS2 X Y W (.Assign [.Name x pos'] (.Call (.Name "list" np) [a] [] cpos) pos) (l0s i ta):=ps2 (m0l (i:=i) hN hi hx (q0j q0g hg hm i0x ha.go (by decide) (by decide) hst hpl) hs hf) fun E1 σ H ⟨F,ρ,δ,E2,I,h,er⟩=>by
 refine ⟨F,ρ,δ,E2.xc,_,I,h,fun ds vs F1 H1 ρ1 δ1 I1 s1 r1 h1=>?_,er.xc⟩;split at h1
 ·split at h1
  ·rename_i xs e;obtain ⟨v,rfl,r2⟩:=d8 r1;obtain ⟨a,us,rfl,sq,z⟩:=s0h I1.sub e r2;exact ⟨a,us,rfl,sq,fun l hl=>er.nx _ F1 _ _ δ1 (I1.own hl z) s1 h1⟩
  ·exact h1.elim
 ·exact h1.elim
noncomputable def hasV(ρ:En)(i:Nat):Bool:=match ρ[i]? with |some .no=>false |none=>false |_=>true
theorem has_v{K:Frag}{F H:Hp}{σ:St}{ρ:En}{δ:Dk}(I:I2 K Y F H σ ρ δ)(h:hasV ρ i=true):∃v,σ[i]?=some (some v):=by
 unfold hasV at h;split at h
 ·cases h
 ·cases h
 ·rename_i o n1 n2;cases e:ρ[i]? with
  |none=>exact absurd e n2
  |some c=>
   have w:=I.env i c e;cases c with
   |no=>exact absurd e n1
   |val d=>obtain ⟨v,q,_⟩:=w;exact ⟨v,a3 q⟩
   |own ds=>obtain ⟨a,vs,q,_⟩:=w;exact ⟨_,a3 q⟩
   |obj C fs=>obtain ⟨a,dx,vs,q,_⟩:=w;exact ⟨_,a3 q⟩
   |ownD kvs=>obtain ⟨a,vs,q,_⟩:=w;exact ⟨_,a3 q⟩
noncomputable def seqV(ρ:En)(δ:Dk)(i:Nat):Option (List D):=match ρ[i]? with
 |some (.own ds)=>some ds
 |some (.val (.ref a))=>(match δ with |some (b,ds)=>if a=b then some ds else none |none=>none)
 |some (.val d)=>seqD d
 |_=>none
theorem seq_v{K:Frag}{F H:Hp}{σ:St}{ρ:En}{δ:Dk}{ds:List D}(I:I2 K Y F H σ ρ δ)(h:seqV ρ δ i=some ds):∃a vs,σ[i]?=some (some (.ref a))∧(SqL K H a vs∨SqT K H a vs)∧Reps K F ds vs:=by
 unfold seqV at h;split at h
 ·rename_i es e;cases h;obtain ⟨a,vs,q,hh,_,_,r⟩:=I.env i _ e;exact ⟨a,vs,a3 q,.inl (SqL.of hh),r⟩
 ·rename_i a e;split at h
  ·rename_i b es;by_cases z:a=b
   ·subst z;simp at h;subst h;obtain ⟨u,q,r⟩:=I.env i _ e;rw[rep_ref.mp r]at q;obtain ⟨_,vs,hh,rr⟩:=I.ran.dk a es rfl;exact ⟨a,vs,a3 q,.inl (SqL.of hh),rr⟩
   ·simp[z]at h
  ·cases h
 ·rename_i d _ e;obtain ⟨u,q,r⟩:=I.env i _ e;obtain ⟨a,vs,rfl,sq,z⟩:=s0h I.sub h r;exact ⟨a,vs,a3 q,sq,z⟩
 ·cases h
variable{a b:Expr}{ta tb:TE2}
noncomputable def ixQ(o:Option (List D))(d:D):Option D:=match o,d with |some xs,.int j=>atI xs j |_,_=>none
noncomputable def f0b(i:Nat)(tb:TE2):TE2:=fun x ρ δ q=>hasV ρ i=true∧tb x ρ δ fun d ρ1 δ1=>match ixQ (seqV ρ1 δ1 i) d with |some e=>q e ρ1 δ1 |none=>False
theorem j4(i:Nat)(hb:PE2 X Y W b tb)(hN:X.N[i]?=some x:=by rfl)(hv:Vis X.env.scope x:=by walk_at "v3")(hd:(x==("__debug__":Str))=false:=by decide)
 (hcd:(x==("__classdict__":Str))=false:=by decide) (hs:o0e b:=by exact fun _ _=>rfl):PE2 X Y W (.Subscript (.Name x p) b pos) (f0b i tb):=pe2 (pe_ix m0h (s0s hN hv hd hcd) hb.go hs) fun σ H Q ⟨F,ρ,δ,x,q,I,h,k,kx⟩=>by
 obtain ⟨v,ev⟩:=has_v I h.1;refine ⟨v,ev,F,ρ,δ,x,_,I,h.2,fun d w F' H' ρ' δ' I' s' r' h'=>?_,kx⟩;split at h'
 ·rename_i e ee;unfold ixQ at ee;split at ee
  ·rename_i xs j es;obtain ⟨a,vs,ea,sq,z⟩:=seq_v I' es;rw[ev]at ea;cases ea;obtain ⟨v2,e2,r2⟩:=z.atI ee;have fin:=k e v2 F' H' ρ' δ' I' s' r2 h';rcases sq with sq |sq
   ·exact .inl ⟨a,vs,j,v2,rfl,rep_int.mp r',sq,e2,fin⟩
   ·exact .inr (.inl ⟨a,vs,j,v2,rfl,rep_int.mp r',sq,e2,fin⟩)
  ·cases ee
 ·exact h'.elim
noncomputable def p0v(i:Nat):TE2:=fun x ρ δ q=>match seqV ρ δ i with |some xs=>q (.int (xs.length:Nat)) ρ δ |none=>False
theorem a9(i:Nat){np:Pos}(hm:X.mg "len"=none)(hg:Gl X "len":=by rfl)(hN:X.N[i]?=some x:=by rfl)(hv:Vis X.env.scope x:=by walk_at "v3")(hd:(x==("__debug__":Str))=false:=by decide)
 (hcd:(x==("__classdict__":Str))=false:=by decide) (hst:starEach [.Name x p] X.env=[(false,eval (.Name x p) X.env)]:=by rfl) (hpl:(backTo pos (starEach [] X.env)).any (·.1)=false:=by exact p6 rfl):
 PE2 X Y W (.Call (.Name "len" np) [.Name x p] [] pos) (p0v i):=pe2 (m0i f9 hg hm u0g (j0k (s0s hN hv hd hcd) d0f hst) (by decide) (by decide) hst hpl) fun σ H Q ⟨F,ρ,δ,x,q,I,h,k,kx⟩=>by
 unfold p0v at h;split at h
 ·rename_i xs e;obtain ⟨a,vs,ea,sq,z⟩:=seq_v I e;exact ⟨_,ea,a,vs,rfl,sq,by rw[z.length];exact k _ _ F H ρ δ I (Same.refl F) (rep_int.mpr rfl) h⟩
 ·exact h.elim
noncomputable def mutV(ρ:En)(δ:Dk)(i:Nat):Option (List D×(List D→En×Dk)):=match ρ[i]? with
 |some (.own ds)=>some (ds,fun es=>(ρ.set i (.own es),δ))
 |some (.val (.ref a))=>(match δ with |some (b,ds)=>if a=b then some (ds,fun es=>(ρ,some (b,es)))else none |none=>none)
 |_=>none
theorem mut_v{K:Frag}{F H:Hp}{σ:St}{ρ:En}{δ:Dk}{ds:List D}{put:List D→En×Dk}(I:I2 K Y F H σ ρ δ)(h:mutV ρ δ i=some (ds,put)):
 ∃a vs,σ[i]?=some (some (.ref a))∧H a=some (.lst vs)∧Reps K F ds vs∧∀es us,Reps K F es us→I2 K Y F (upd H a (.lst us)) σ (put es).1 (put es).2:=by
 unfold mutV at h;split at h
 ·rename_i es e;cases h;obtain ⟨a,vs,q,hh,hF,h0,r⟩:=I.env i _ e;have hs:=a3 q;have ho:a6 ρ σ i a:=⟨.inl ⟨_,e⟩,hs⟩;refine ⟨a,vs,hs,hh,r,fun es us r2=>?_⟩;have key:∀j b,a6 (ρ.set i (.own es)) σ j b→a6 ρ σ j b:=fun j b o=>by
   by_cases z:j=i
   ·subst z;exact ⟨ho.1,o.2⟩
   ·obtain ⟨o1,o2⟩:=o;simp only[List.getElem?_set_ne (Ne.symm z)]at o1;exact ⟨o1,o2⟩
  refine ⟨⟨fun b u e=>?_,fun b fs e=>?_,fun b u e f=>?_,I.ran.f0,I.ran.fnew,I.ran.dto⟩,fun j c e'=>?_,by simp[I.len],fun x y b n o1 o2=>I.apart x y b n (key x b o1) (key y b o2),fun j b o=>I.off j b (key j b o)⟩
  ·rw[y0 (s0 e hF)];exact I.sub _ _ e
  ·obtain ⟨q1,ws,q2,q3⟩:=I.ran.dk b fs e;exact ⟨q1,ws,by rw[y0 (Ne.symm (I.off i a ho b fs e))];exact q2,q3⟩
  ·rw[y0 (s0 e h0)];exact I.ran.keep b u e f
  ·by_cases z:j=i
   ·subst z;rw[List.getElem?_set]at e';by_cases hl:j<ρ.length
    ·simp[hl]at e';subst e';exact ⟨a,us,q,n3,hF,h0,r2⟩
    ·simp[hl]at e'
   ·rw[List.getElem?_set_ne (Ne.symm z)]at e';have w:=I.env j c e';cases c with
    |no=>trivial
    |val d=>exact w
    |own fs=>
     obtain ⟨b,ws,e1,h1,f1,g1,r1⟩:=w;have nb:b≠a:=fun w=>I.apart j i a z ⟨.inl ⟨fs,e'⟩,by rw[←w];exact a3 e1⟩ ho
     exact ⟨b,ws,e1,by rw[y0 nb];exact h1,f1,g1,r1⟩
    |obj C fs=>
     obtain ⟨b,dx,ws,e1,es1,h1,h2,f1,f2,g1,g2,r1⟩:=w;have nb:b≠a:=fun w=>by rw[w,hh]at h1;cases h1
     have nd:dx≠a:=fun w=>by rw[w,hh]at h2;cases h2
     exact ⟨b,dx,ws,e1,es1,by rw[y0 nb];exact h1,by rw[y0 nd];exact h2,f1,f2,g1,g2,r1⟩
    |ownD kvs=>
     obtain ⟨b,ws,e1,h1,f1,g1,r1⟩:=w;have nb:b≠a:=fun w=>by rw[w,hh]at h1;cases h1
     exact ⟨b,ws,e1,by rw[y0 nb];exact h1,f1,g1,r1⟩
 ·rename_i a e;split at h
  ·rename_i b es;by_cases z:a=b
   ·subst z;simp at h;obtain ⟨rfl,rfl⟩:=h;obtain ⟨u,q,r⟩:=I.env i _ e;rw[rep_ref.mp r]at q;obtain ⟨hF,vs,hh,rr⟩:=I.ran.dk a es rfl;refine ⟨a,vs,a3 q,hh,rr,fun fs us r2=>?_⟩;refine ⟨⟨fun b u e=>?_,fun b gs e=>?_,fun b u eb fb=>?_,I.ran.f0,I.ran.fnew,⟨fun b gs e=>?_,fun b gs e n=>?_⟩⟩,fun j c e'=>?_,I.len,I.apart,fun j b o c gs e=>?_⟩
    ·rw[y0 (s0 e hF)];exact I.sub _ _ e
    ·cases e;exact ⟨hF,us,n3,r2⟩
    ·have nb:b≠a:=by
      intro w;subst w;cases hd:Y.δ₀ with
      |none=>
       have:=I.ran.dto.2 b es rfl hd;rw[eb]at this;cases this
      |some p0=>
       obtain ⟨c,gs⟩:=p0;obtain ⟨es',w2⟩:=I.ran.dto.1 c gs hd;cases w2;exact fb b gs hd rfl
     rw[y0 nb];exact I.ran.keep b u eb fb
    ·obtain ⟨es',w⟩:=I.ran.dto.1 b gs e;cases w;exact ⟨_,rfl⟩
    ·cases e;exact I.ran.dto.2 a es rfl n
    ·have w:=I.env j c e';cases c with
     |no=>trivial
     |val d=>exact w
     |own fs=>
      obtain ⟨b,ws,e1,h1,f1,g1,r1⟩:=w;have nb:b≠a:=I.off j b ⟨.inl ⟨fs,e'⟩,a3 e1⟩ a es rfl;exact ⟨b,ws,e1,by rw[y0 nb];exact h1,f1,g1,r1⟩
     |obj C fs=>
      obtain ⟨b,dx,ws,e1,es1,h1,h2,f1,f2,g1,g2,r1⟩:=w;have nb:b≠a:=fun w=>by rw[w,hh]at h1;cases h1
      have nd:dx≠a:=fun w=>by rw[w,hh]at h2;cases h2
      exact ⟨b,dx,ws,e1,es1,by rw[y0 nb];exact h1,by rw[y0 nd];exact h2,f1,f2,g1,g2,r1⟩
     |ownD kvs=>
      obtain ⟨b,ws,e1,h1,f1,g1,r1⟩:=w;have nb:b≠a:=fun w=>by rw[w,hh]at h1;cases h1
      exact ⟨b,ws,e1,by rw[y0 nb];exact h1,f1,g1,r1⟩
    ·cases e;exact I.off j b o a es rfl
   ·simp[z]at h
  ·cases h
 ·cases h
noncomputable def l0r(i:Nat)(tj te:TE2):TS2:=fun E ρ δ=>te E.xc ρ δ fun d ρ1 δ1=>hasV ρ1 i=true∧tj E.xc ρ1 δ1 fun dj ρ2 δ2=>match mutV ρ2 δ2 i,dj with
 |some (ds,put),.int j=>(match ixN ds.length j with |some m=>E.nx (put (ds.set m d)).1 (put (ds.set m d)).2 |none=>False)
 |_,_=>False
theorem w0z(i:Nat){j:Expr}{tj:TE2}{spos:Pos}(hj:PE2 X Y W j tj)(he:PE2 X Y W e te)(hN:X.N[i]?=some x:=by rfl)(hv:Vis X.env.scope x:=by walk_at "v3")(hd:(x==("__debug__":Str))=false:=by decide)
 (hcd:(x==("__classdict__":Str))=false:=by decide)
 (ha:∀v,assign (.Subscript (.Name x p) j spos) X.env v=(do
  let ov←holding [v] (eval (.Name x p) X.env)
  let iv←holding [v,ov] (eval j X.env)
  standAt spos
  holding [v,ov,iv] (setItem ov iv v)
  release [v,ov,iv] []):=by intro _;rfl)
 (hs:swapsWithSole [.Subscript (.Name x p) j spos] e pos.line X.env=pure false:=by rfl) (hw:swappedStores [.Subscript (.Name x p) j spos] e X.env=pure none:=by rfl)
 (h1:(assignEach [.Subscript (.Name x p) j spos] X.env).map (·.2)=[assign (.Subscript (.Name x p) j spos) X.env]:=by rfl):
 PS2 X Y W (.Assign [.Subscript (.Name x p) j spos] e pos) (l0r i tj te):=ps2 (d0i he.go (pg_sub (s0s hN hv hd hcd) hj.go f0v ha) hs hw h1) fun E1 σ H ⟨F,ρ,δ,E2,I,h,er⟩=>by
 refine ⟨F,ρ,δ,E2.xc,_,I,h,fun d v F1 H1 ρ1 δ1 I1 s1 r1 h1=>?_,er.xc⟩;obtain ⟨o,eo⟩:=has_v I1 h1.1;refine ⟨o,eo,F1,ρ1,δ1,E2.xc,_,I1,h1.2,fun dj w F2 H2 ρ2 δ2 I2' s2 r2 h2=>?_,er.xc.mono s1⟩;split at h2
 ·rename_i ds put j em;split at h2
  ·rename_i m hm;obtain ⟨a,vs,ea,hh,z,up⟩:=mut_v I2' em;rw[eo]at ea;cases ea;refine ⟨a,vs,j,m,rfl,rep_int.mp r2,hh,by rw[z.length];exact hm,er.nx σ F2 _ _ _ (up _ _ (z.set (r1.mono s2) m)) (s1.trans s2) h2⟩
  ·exact h2.elim
 ·exact h2.elim
noncomputable abbrev FM:=List D→List D→(D→List D→Prop)→Prop
noncomputable def t2MV(i:Nat)(m:FM)(ta:TA2):TE2:=fun x ρ δ q=>(mutV ρ δ i).isSome=true∧ta x ρ δ fun es ρ1 δ1=>match mutV ρ1 δ1 i with
 |some (ds,put)=>m ds es fun d ds'=>q d (put ds').1 (put ds').2
 |none=>False
noncomputable def t2MV0(i:Nat)(m:FM):TE2:=fun x ρ δ q=>match mutV ρ δ i with
 |some (ds,put)=>m ds [] fun d ds'=>q d (put ds').1 (put ds').2
 |none=>False
noncomputable def a0u:FM:=fun ds es q=>match es with | [e]=>ds.length<1000∧q .non (ds++[e])|_=>False
noncomputable def popM:FM:=fun ds es q=>match es,ds.getLast? with | [],some d=>q d ds.dropLast |_,_=>False
noncomputable def t2Aug(i:Nat)(f:F2)(te:TE2):TS2:=fun E ρ δ=>rdV ρ i fun d1 ρ0=>te E.xc ρ0 δ fun d2 ρ1 δ1=>f d1 d2 fun d=>E.nx (ρ1.set i (.val d)) δ1
noncomputable def i0n(K:Frag)(f:Str)(ta:TE2):TE2:=fun x ρ δ q=>ta x ρ δ fun d ρ1 δ1=>match d with
 | .ins C fs=>(Cls K C∧NoAttr K C f)∧(match fs.lookup f with |some e=>q e ρ1 δ1 |none=>False)
 |_=>False
theorem RepF.look{K:Frag}{F:Hp}{f:Str}:∀{fs:List (Str×D)} {us:List (Str×V)} {d:D},RepF K F fs us→fs.lookup f=some d→∃v,us.lookup f=some v∧Rep K F d v
 | [],us,d,r,e=>by cases e
 |(g,c)::fs,us,d,r,e=>by
  unfold RepF at r;obtain ⟨v,l,rfl,r1,r2⟩:=r;rw[List.lookup_cons]at e ⊢;split at e
  ·cases e;exact ⟨v,rfl,r1⟩
  ·exact RepF.look r2 e
theorem e2_fld{f:Str}(ha:PE2 X Y W a ta)(hb:attributeBase a f X.env (eval a X.env)=eval a X.env:=by rfl):PE2 X Y W (.Attribute a f pos) (i0n X.K f ta):=pe2 (pe_fld ha.go hb) fun σ H Q ⟨F,ρ,δ,x,q,I,h,k,kx⟩=>by
 refine ⟨F,ρ,δ,x,_,I,h,fun d v F' H' ρ' δ' I' s' r' h'=>?_,kx⟩;cases d with
 |ins C fs=>
  obtain ⟨⟨c,n⟩,h'⟩:=h';obtain ⟨a,dx,us,rfl,e1,e2,rf⟩:=rep_ins.mp r';split at h'
  ·rename_i e ee;obtain ⟨v,ev,rv⟩:=rf.look ee;exact ⟨a,C,dx,us,v,rfl,I'.sub _ _ e1,c,n,ev,k e v F' H' ρ' δ' I' s' rv h'⟩
  ·exact h'.elim
 |_=>exact h'.elim
noncomputable def p0u(K:Frag)(f:Str)(ta:TE2):TE2:=fun x ρ δ q=>ta x ρ δ fun d ρ1 δ1=>match d with
 | .exc C fs=>(XC K C∧NoAttr K C f)∧(match fs.lookup f with |some e=>q e ρ1 δ1 |none=>False)
 |_=>False
theorem a0t{f:Str}(ha:PE2 X Y W a ta)(hb:attributeBase a f X.env (eval a X.env)=eval a X.env:=by rfl):PE2 X Y W (.Attribute a f pos) (p0u X.K f ta):=pe2 (b0l ha.go hb) fun σ H Q ⟨F,ρ,δ,x,q,I,h,k,kx⟩=>by
 refine ⟨F,ρ,δ,x,_,I,h,fun d v F' H' ρ' δ' I' s' r' h'=>?_,kx⟩;cases d with
 |exc C fs=>
  obtain ⟨⟨c,n⟩,h'⟩:=h';obtain ⟨a,fr,rfl,rr⟩:=rep_exc.mp r';split at h'
  ·rename_i e ee;rcases rr with ⟨hnil,_⟩|⟨d,us,e1,e2,rf⟩
   ·rw[hnil]at ee;cases ee
   ·obtain ⟨v,ev,rv⟩:=rf.look ee;exact ⟨fr,a,C,d,us,v,rfl,I'.sub _ _ e1,I'.sub _ _ e2,c,n,ev,k e v F' H' ρ' δ' I' s' rv h'⟩
  ·exact h'.elim
 |_=>exact h'.elim
noncomputable def r0s(f:Str)(v:D):List (Str×D)→List (Str×D)
 | []=>[(f,v)]
 |(g,u)::r=>if g=f then (g,v)::r else (g,u)::r0s f v r
theorem RepF.put{K:Frag}{F:Hp}{f:Str}{d:D}{v:V}(q:Rep K F d v):∀{fs:List (Str×D)} {us:List (Str×V)},RepF K F fs us→RepF K F (r0s f d fs) (putF f v us)
 | [],us,r=>by
  unfold RepF at r;subst r;unfold r0s putF RepF;exact ⟨v,[],rfl,q,by unfold RepF;rfl⟩
 |(g,c)::fs,us,r=>by
  unfold RepF at r;obtain ⟨w,l,rfl,r1,r2⟩:=r;unfold r0s putF;by_cases z:g=f
  ·rw[if_pos z,if_pos z];unfold RepF;exact ⟨v,l,rfl,q,r2⟩
  ·rw[if_neg z,if_neg z];unfold RepF;exact ⟨w,_,rfl,r1,RepF.put q r2⟩
theorem RepF.length{K:Frag}{F:Hp}:∀{fs:List (Str×D)} {us:List (Str×V)},RepF K F fs us→us.length=fs.length
 | [],us,r=>by unfold RepF at r;subst r;rfl
 |(g,c)::fs,us,r=>by
  unfold RepF at r;obtain ⟨w,l,rfl,r1,r2⟩:=r;rw[List.length_cons,List.length_cons,RepF.length r2]
noncomputable def p0t(K:Frag)(i:Nat)(f:Str)(te:TE2):TS2:=fun E ρ δ=>te E.xc ρ δ fun d ρ1 δ1=>match ρ1[i]? with
 |some (.obj C fs)=>(Cls K C∧NoAttr K C f)∧fs.length<1000∧E.nx (ρ1.set i (.obj C (r0s f d fs))) δ1
 |_=>False
theorem I2.self{K:Frag}{F H:Hp}{σ:St}{ρ:En}{δ:Dk}{C:Addr}{fs:List (Str×D)}(I:I2 K Y F H σ ρ δ)(e:ρ[i]?=some (.obj C fs)):
 ∃a dx us,σ[i]?=some (some (.ref a))∧H a=some (.ins C dx us)∧RepF K F fs us∧∀gs ws,RepF K F gs ws→I2 K Y F (upd H a (.ins C dx ws)) σ (ρ.set i (.obj C gs)) δ:=by
 obtain ⟨a,dx,us,q,es0,hh,hd,hF,hF2,h0,h02,r⟩:=I.env i _ e;have hs:=a3 q;have ho:a6 ρ σ i a:=⟨.inr (.inl ⟨_,_,e⟩),hs⟩;refine ⟨a,dx,us,hs,hh,r,fun gs ws r2=>?_⟩;have ndx:dx≠a:=fun w=>by rw[w,hh]at hd;cases hd
 have key:∀j b,a6 (ρ.set i (.obj C gs)) σ j b→a6 ρ σ j b:=fun j b o=>by
  by_cases z:j=i
  ·subst z;exact ⟨ho.1,o.2⟩
  ·obtain ⟨o1,o2⟩:=o;simp only[List.getElem?_set_ne (Ne.symm z)]at o1;exact ⟨o1,o2⟩
 refine ⟨⟨fun b u e=>?_,fun b fs e=>?_,fun b u e f=>?_,I.ran.f0,I.ran.fnew,I.ran.dto⟩,fun j c e'=>?_,by simp[I.len],fun x y b n o1 o2=>I.apart x y b n (key x b o1) (key y b o2),fun j b o=>I.off j b (key j b o)⟩
 ·rw[y0 (s0 e hF)];exact I.sub _ _ e
 ·obtain ⟨q1,ys,q2,q3⟩:=I.ran.dk b fs e;exact ⟨q1,ys,by rw[y0 (Ne.symm (I.off i a ho b fs e))];exact q2,q3⟩
 ·rw[y0 (s0 e h0)];exact I.ran.keep b u e f
 ·by_cases z:j=i
  ·subst z;rw[List.getElem?_set]at e';by_cases hl:j<ρ.length
   ·simp[hl]at e';subst e';exact ⟨a,dx,ws,q,es0,n3,by rw[y0 ndx];exact hd,hF,hF2,h0,h02,r2⟩
   ·simp[hl]at e'
  ·rw[List.getElem?_set_ne (Ne.symm z)]at e';have w:=I.env j c e';cases c with
   |no=>trivial
   |val d=>exact w
   |own fs=>
    obtain ⟨b,ys,e1,h1,f1,g1,r1⟩:=w;have nb:b≠a:=fun w=>by rw[w,hh]at h1;cases h1
    exact ⟨b,ys,e1,by rw[y0 nb];exact h1,f1,g1,r1⟩
   |obj C' fs=>
    obtain ⟨b,dy,ys,e1,es1,h1,h2,f1,f2,g1,g2,r1⟩:=w;have nb:b≠a:=fun w=>I.apart j i a z ⟨.inr (.inl ⟨_,_,e'⟩),by rw[←w];exact a3 e1⟩ ho
    have nd:dy≠a:=fun w=>by rw[w,hh]at h2;cases h2
    exact ⟨b,dy,ys,e1,es1,by rw[y0 nb];exact h1,by rw[y0 nd];exact h2,f1,f2,g1,g2,r1⟩
   |ownD kvs=>
    obtain ⟨b,ys,e1,h1,f1,g1,r1⟩:=w;have nb:b≠a:=fun w=>by rw[w,hh]at h1;cases h1
    exact ⟨b,ys,e1,by rw[y0 nb];exact h1,f1,g1,r1⟩
theorem a0s(i:Nat){f:Str}{tpos:Pos}(he:PE2 X Y W e te)(hN:X.N[i]?=some x:=by rfl)(hv:Vis X.env.scope x:=by walk_at "v3")(hd:(x==("__debug__":Str))=false:=by decide)(hcd:(x==("__classdict__":Str))=false:=by decide)
 (hs:swapsWith e (some (.Attribute (.Name x p) f tpos)) pos.line X.env=pure false:=by rfl):PS2 X Y W (.Assign [.Attribute (.Name x p) f tpos] e pos) (p0t X.K i f te):=ps2 (ps_fld (s0s hN hv hd hcd) he.go hs) fun E1 σ H ⟨F,ρ,δ,E2,I,h,er⟩=>by
 refine ⟨F,ρ,δ,E2.xc,_,I,h,fun d v F1 H1 ρ1 δ1 I1 s1 r1 h1=>?_,er.xc⟩;split at h1
 ·rename_i C fs ee;obtain ⟨⟨c,n⟩,hl,h1⟩:=h1;obtain ⟨a,dx,us,ea,hh,rf,up⟩:=I1.self ee;exact ⟨_,ea,a,C,dx,us,rfl,hh,c,n,by rw[rf.length];exact hl,er.nx σ F1 _ _ δ1 (up _ _ (rf.put r1)) s1 h1⟩
 ·exact h1.elim
end
end DL
namespace DL
open PySem PySem.Spec L2
open PySem.W (XC)
open PyProof.Rows (envOfC)
noncomputable abbrev Sp2:=List D→Dk→(D→Dk→Prop)→(Addr→List (Str×D)→Dk→Prop)→Prop
noncomputable def upF(K:Frag)(sp:Sp2):Sp:=fun vs H Q E=>∃F ds δ q x,Same F H∧DkOk K F H δ∧Reps K F ds vs∧sp ds δ q x∧
 (∀d v F' H' δ',Ran K F H δ F' H' δ'→Rep K F' d v→q d δ'→Q v H')∧∀C od fs F' H' δ',Ran K F H δ F' H' δ'→XRep K F' od fs→x C fs δ'→E (.ref C) od H'
noncomputable abbrev Fun2(P:Program)(w:World)(K:Frag)(mg:Str→Option Value)(base:Heap)(x:Str)(k:Nat)(ps:List Str)(sp:Sp2):Prop:=FnAt P w K mg base (CX1 P w) x k ps (upF K sp)
section
variable{K:Frag}{Y:Y2}{F H F' H':Hp}{σ:St}{ρ:En}{δ δ':Dk}
theorem Ran.trans{F₀ H₀:Hp}{δ₀:Dk}(R:Ran K F₀ H₀ δ₀ F H δ)(S:Ran K F H δ F' H' δ'):Ran K F₀ H₀ δ₀ F' H' δ':=by
 have offs:∀b o,H₀ b=some o→Off δ₀ b→Off δ b:=fun b o e f a ds q w=>by
  subst w;cases hd:δ₀ with
  |none=>have:=R.dto.2 b ds q hd;rw[e]at this;cases this
  |some p=>
   obtain ⟨c,gs⟩:=p;obtain ⟨es,z⟩:=R.dto.1 c gs hd;rw[q]at z;cases z;exact f b gs hd rfl
 have fr:∀p,H p=none→H₀ p=none:=fun p h=>(Ran.fresh (Y:=⟨F₀,H₀,δ₀,none⟩) R h)
 refine ⟨S.sub,S.dk,fun b o e f=>S.keep b o (R.keep b o e f) (offs b o e f),R.f0.trans S.f0,fun b o e=>?_,⟨fun a ds e=>?_,fun a ds e n=>?_⟩⟩
 ·rcases S.fnew b o e with z |z
  ·exact R.fnew b o z
  ·exact .inr (fr b z)
 ·obtain ⟨es,z⟩:=R.dto.1 a ds e;exact S.dto.1 a es z
 ·cases hd:δ with
  |none=>exact fr a (S.dto.2 a ds e hd)
  |some p=>
   obtain ⟨c,gs⟩:=p;obtain ⟨es,z⟩:=S.dto.1 c gs hd;rw[e]at z;cases z;exact R.dto.2 a gs hd n
theorem I2.call(I:I2 K Y F H σ ρ δ)(S:Ran K F H δ F' H' δ'):I2 K Y F' H' σ ρ δ':=by
 have fno:∀a o,H a=some o→F a=none→F' a=none:=fun a o h f=>by
  cases q:F' a with
  |none=>rfl
  |some u=>
   rcases S.fnew a u q with z |z
   ·rw[f]at z;cases z
   ·rw[h]at z;cases z
 have addr:∀j a,a6 ρ σ j a→∃o,H a=some o:=fun j a o=>by
  rcases o.1 with ⟨ds,q⟩|⟨C,fs,q⟩|⟨kvs,q⟩
  ·obtain ⟨b,us,e,hb,_⟩:=I.env j _ q;rw[o.2]at e;cases e;exact ⟨_,hb⟩
  ·obtain ⟨b,dx,us,e,es0,hb,_⟩:=I.env j _ q;rw[o.2]at e;cases e;exact ⟨_,hb⟩
  ·obtain ⟨b,us,e,hb,_⟩:=I.env j _ q;rw[o.2]at e;cases e;exact ⟨_,hb⟩
 refine ⟨I.ran.trans S,fun i c e=>?_,I.len,I.apart,fun j a o b ds e w=>?_⟩
 ·have w:=I.env i c e;cases c with
  |no=>trivial
  |val d=>obtain ⟨u,e1,r⟩:=w;exact ⟨u,e1,r.mono S.f0⟩
  |own ds=>
   obtain ⟨a,vs,e1,h1,f1,g1,r1⟩:=w;have of:=I.off i a ⟨.inl ⟨ds,e⟩,a3 e1⟩;exact ⟨a,vs,e1,S.keep a _ h1 of,fno a _ h1 f1,g1,r1.mono S.f0⟩
  |obj C fs=>
   obtain ⟨a,dx,us,e1,es1,h1,h2,f1,f2,g1,g2,r1⟩:=w;have of:=I.off i a ⟨.inr (.inl ⟨C,fs,e⟩),a3 e1⟩;have od:Off δ dx:=fun b ds q w=>by
    obtain ⟨_,vs,q2,_⟩:=I.ran.dk b ds q;rw[←w,h2]at q2;cases q2
   exact ⟨a,dx,us,e1,es1,S.keep a _ h1 of,S.keep dx _ h2 od,fno a _ h1 f1,fno dx _ h2 f2,g1,g2,r1.mono S.f0⟩
  |ownD ds=>
   obtain ⟨a,vs,e1,h1,f1,g1,r1⟩:=w;have of:=I.off i a ⟨.inr (.inr ⟨ds,e⟩),a3 e1⟩;exact ⟨a,vs,e1,S.keep a _ h1 of,fno a _ h1 f1,g1,r1.mono S.f0⟩
 ·subst w;obtain ⟨u,hu⟩:=addr j a o;cases hd:δ with
  |none=>have:=S.dto.2 a ds e hd;rw[hu]at this;cases this
  |some p=>
   obtain ⟨c,gs⟩:=p;obtain ⟨es,z⟩:=S.dto.1 c gs hd;rw[e]at z;cases z;exact I.off j a o a gs hd rfl
theorem Ran.refl(s:Same F H)(d:DkOk K F H δ):Ran K F H δ F H δ:=⟨s,d,fun _ _ e _=>e,Same.refl F,fun _ _ e=>.inl e,fun a ds e=>⟨ds,e⟩,fun a ds e n=>by rw[n]at e;cases e⟩
end
section
variable{X:Cx}{Y:Y2}{W:XW}{x:Str}{p pos:Pos}{e:Expr}{es:List Expr}{t:TA2}{k:Nat}{ps:List Str}{sp:Sp2}
noncomputable def x0p(sp:Sp2)(t:TA2):TE2:=fun x ρ δ q=>t x ρ δ fun ds ρ1 δ1=>sp ds δ1 (fun d δ2=>q d ρ1 δ2) fun C fs δ2=>x C fs ρ1 δ2
theorem i0m{σ:St}{H:Hp}{Q:VK}(h:upE X.K Y W (x0p sp t) σ H Q):m0b (upF X.K sp) W (upA X.K Y W t) σ H Q:=by
 obtain ⟨F,ρ,δ,x,q,I,h,k,kx⟩:=h;refine ⟨F,ρ,δ,x,_,I,h,fun ds vs F1 H1 ρ1 δ1 I1 s1 r1 h1=>⟨F1,ds,δ1,_,_,I1.sub,I1.ran.dk,r1,h1,fun d v F' H' δ' R r' q'=>?_,fun C od fs F' H' δ' R r' q'=>?_⟩,kx⟩
 ·exact k d v F' H' ρ1 δ' (I1.call R) (s1.trans R.f0) r' q'
 ·exact ⟨C,rfl,kx C od fs σ F' H' ρ1 δ' (I1.call R) (s1.trans R.f0) r' q'⟩
theorem j0(G:Fun2 X.prog X.w X.K X.mg X.base x k ps sp)(hr:Room k X.A)(hf:e8 X W)(ha:PA2 X Y W (e::es) t)(hg:Gl X x:=by rfl)(hdb:(x==("__debug__":Str))=false:=by decide)
 (he:starEach (e::es) X.env=(false,eval e X.env)::starEach es X.env:=by exact b5 rfl) (hpl:(backTo pos (starEach es X.env)).any (·.1)=false:=by exact p6 rfl):PE2 X Y W (.Call (.Name x p) (e::es) [] pos) (x0p sp t):=pe2 (pe_cX G hr hf ha.go hg hdb he hpl) fun σ H Q h=>i0m h
theorem p0s:e8 X (fun _ _ _ _=>False):=fun pins e s ⟨_,_,_,_,_,_,_,_,_,_,_,q⟩=>q.elim
end
noncomputable def x4(N:List Str)(ds:List D):En:=ds.map .val++List.replicate (N.length-ds.length) .no
theorem y0l{K:Frag}{F H H₀:Hp}{sf:Option Addr}:∀{ds:List D} {vs:List V},Reps K F ds vs→∀(n i:Nat) (c:Cell),(ds.map Cell.val++List.replicate n Cell.no)[i]?=some c→CellOk K F H H₀ sf c ((vs.map some++List.replicate n none:St)[i]?).join
 | [],vs,r,n,i,c,e=>by
  rw[List.map_nil,List.nil_append,List.getElem?_replicate]at e;split at e
  ·cases e;trivial
  ·cases e
 |d::ds,vs,r,n,0,c,e=>by
  obtain ⟨v,l,rfl,r1,r2⟩:=reps_cons.mp r;cases e;exact ⟨v,rfl,r1⟩
 |d::ds,vs,r,n,i+1,c,e=>by
  obtain ⟨v,l,rfl,r1,r2⟩:=reps_cons.mp r;exact y0l r2 n i c e
theorem l8{ds:List D}{n i:Nat}{c:Cell}(e:(ds.map Cell.val++List.replicate n Cell.no)[i]?=some c):(∃d,c=.val d)∨c=.no:=by
 have m:=List.mem_of_getElem? e;rcases List.mem_append.mp m with m |m
 ·obtain ⟨d,_,rfl⟩:=List.mem_map.mp m;exact .inl ⟨d,rfl⟩
 ·exact .inr (List.mem_replicate.mp m).2
theorem I2.start{K:Frag}{F H:Hp}{δ:Dk}{ds:List D}{vs:List V}{N:List Str}(s:Same F H)(dk:DkOk K F H δ)(r:Reps K F ds vs):I2 K ⟨F,H,δ,none⟩ F H (L2.start N vs) (x4 N ds) δ:=by
 have no:∀i a,¬a6 (x4 N ds) (L2.start N vs) i a:=fun i a o=>by
  rcases o.1 with ⟨es,q⟩|⟨C,fs,q⟩|⟨kvs,q⟩
  ·rcases l8 q with ⟨d,z⟩|z<;>cases z
  ·rcases l8 q with ⟨d,z⟩|z<;>cases z
  ·rcases l8 q with ⟨d,z⟩|z<;>cases z
 refine ⟨Ran.refl s dk,fun i c e=>?_,?_,fun i j a _ o _=>no i a o,fun i a o=>absurd o (no i a)⟩
 ·unfold L2.start;rw[r.length];exact y0l r _ i c e
 ·unfold L2.start x4;simp[r.length]
section
variable{P:Program}{w:World}{K:Frag}{mg:Str→Option Value}{base:Heap}
theorem def2F{x:Str}{st:Stmt}{f:Addr}{fd:FuncData}{N ps:List Str}{k:Nat}{sp:Sp2}(D:DefAt K mg x st ps f fd)(S:FnScope N ps (defScope st))(len:∀ds δ q x,sp ds δ q x→ds.length=ps.length)
 (hbody:∀(cdv:Value) (A:Around) (outer:List Env) (s:Shared) (H:Hp) (E:XK) (Y:Y2),Room k (A.deeper (envOfC x (defScope st) s.heap.objs.size f cdv))→
  ∃t,PSs2 (cxX P w K mg base N x (defScope st) f cdv A outer s H E) Y (fun C od _ H'=>E (.ref C) od H') (defBody st) t∧
   ∀ds δ q x,sp ds δ q x→t {nx:=fun _ δ=>q .non δ,rt:=q,xc:=fun C fs _ δ=>x C fs δ} (x4 N ds) δ):FnOk P w K mg base (CX1 P w) (k+1) f fd ps (upF K sp):=by
 refine D.F.okX S (fun vs H Q E h=>?_) fun cdv A outer s H vs Q E hr h=>?_
 ·obtain ⟨F,ds,δ,q,x,_,_,r,h,_⟩:=h;rw[r.length];exact len ds δ q x h
 ·obtain ⟨F,ds,δ,q,x,s1,dk,r,h,kq,kx⟩:=h;obtain ⟨t,ht,rd⟩:=hbody cdv A outer s H E ⟨F,H,δ,none⟩ hr;refine ⟨_,ht.go,F,x4 N ds,δ,_,I2.start s1 dk r,rd ds δ q x h,⟨fun σ' F' H' ρ' δ' I' s' h'=>?_,fun d v σ' F' H' ρ' δ' I' s' r' h'=>?_,fun C od fs σ' F' H' ρ' δ' I' s' r' h'=>?_,fun _ _ _ _ _ _ _ z=>z.elim,fun _ _ _ _ _ _ _ z=>z.elim⟩⟩
  ·exact kq .non .non F' H' δ' I'.ran (rep_non.mpr rfl) h'
  ·exact kq d v F' H' δ' I'.ran r' h'
  ·exact kx C od fs F' H' δ' I'.ran r' h'
theorem def2{x:Str}{st:Stmt}{f:Addr}{fd:FuncData}{N ps:List Str}{k:Nat}{sp:Sp2}(D:DefAt K mg x st ps f fd)(S:FnScope N ps (defScope st))(len:∀ds δ q x,sp ds δ q x→ds.length=ps.length)
 (hbody:∀(cdv:Value) (A:Around) (outer:List Env) (s:Shared) (H:Hp) (E:XK) (Y:Y2),Room k (A.deeper (envOfC x (defScope st) s.heap.objs.size f cdv))→
  ∃t,PSs2 (cxX P w K mg base N x (defScope st) f cdv A outer s H E) Y (fun C od _ H'=>E (.ref C) od H') (defBody st) t∧
   ∀ds δ q x,sp ds δ q x→t {nx:=fun _ δ=>q .non δ,rt:=q,xc:=fun C fs _ δ=>x C fs δ} (x4 N ds) δ):Fun2 P w K mg base x (k+1) ps sp:=D.at (def2F D S len hbody)
noncomputable def upI(K:Frag)(C:Addr)(sp:Sp2):Sp:=fun vs H Q E=>∃p dx us H1 F ds δ q x,vs=.ref p::us∧H=upd (upd H1 dx (.own p)) p (.ins C dx [])∧H1 p=none∧H1 dx=none∧dx≠p∧Same F H1∧DkOk K F H1 δ∧Reps K F ds us∧sp ds δ q x∧
 (∀fs F' H' δ',Ran K F H1 δ F' H' δ'→Rep K F' (.ins C fs) (.ref p)→q (.ins C fs) δ'→Q .non H')∧∀C od fs F' H' δ',Ran K F H1 δ F' H' δ'→XRep K F' od fs→x C fs δ'→E (.ref C) od H'
structure Make2(P:Program)(w:World)(K:Frag)(mg:Str→Option Value)(base:Heap)(x:Str)(k:Nat)(sp:Sp2):Prop where
 ex:∃C f fd ps,Mk K C f∧FnOk P w K mg base (CX1 P w) k f fd ps (upI K C sp)∧mg x=some (.ref C)∧Binds K fd ps []
end
section
variable{X:Cx}{Y:Y2}{W:XW}{x:Str}{p pos:Pos}{e:Expr}{es:List Expr}{t:TA2}{k:Nat}{sp:Sp2}
theorem i0l(G:Make2 X.prog X.w X.K X.mg X.base x k sp)(hr:Room (k+1) X.A)(hf:e8 X W)(ha:PA2 X Y W (e::es) t)(hg:Gl X x:=by rfl)(hdb:(x==("__debug__":Str))=false:=by decide)
 (he:starEach (e::es) X.env=(false,eval e X.env)::starEach es X.env:=by exact b5 rfl) (hpl:(backTo pos (starEach es X.env)).any (·.1)=false:=by exact p6 rfl):PE2 X Y W (.Call (.Name x p) (e::es) [] pos) (x0p sp t):=by
 obtain ⟨C,f,fd,ps,M,F,m,b⟩:=G.ex;refine pe2 (f0l M F hr hg m b hf ha.go hdb he hpl) fun σ H Q h=>?_
 obtain ⟨F,ρ,δ,x,q,I,h,k,kx⟩:=h;refine ⟨F,ρ,δ,x,_,I,h,fun ds vs F1 H1 ρ1 δ1 I1 s1 r1 h1=>fun y dx hy hdx ne=>⟨y,dx,vs,H1,F1,ds,δ1,_,_,rfl,rfl,hy,hdx,ne,I1.sub,I1.ran.dk,r1,h1,fun fs F' H' δ' R r' q'=>⟨rfl,?_⟩,fun C od fs F' H' δ' R r' q'=>?_⟩,kx⟩
 ·exact k _ _ F' H' ρ1 δ' (I1.call R) (s1.trans R.f0) r' q'
 ·exact ⟨C,rfl,kx C od fs σ F' H' ρ1 δ' (I1.call R) (s1.trans R.f0) r' q'⟩
end
theorem I2.startO{K:Frag}{F H1:Hp}{δ:Dk}{ds:List D}{us:List V}{N:List Str}{C p dx:Addr}(s:Same F H1)(dk:DkOk K F H1 δ)(r:Reps K F ds us)(hp:H1 p=none)(hdx:H1 dx=none)(ne:dx≠p):
 I2 K ⟨F,H1,δ,some p⟩ F (upd (upd H1 dx (.own p)) p (.ins C dx [])) (some (.ref p)::L2.start N us) (.obj C []::x4 N ds) δ:=by
 have own:∀i a,a6 (.obj C []::x4 N ds) (some (.ref p)::L2.start N us) i a→i=0∧a=p:=fun i a o=>by
  cases i with
  |zero=>have z:=o.2;cases z;exact ⟨rfl,rfl⟩
  |succ i=>
   rcases o.1 with ⟨es,q⟩|⟨C,fs,q⟩|⟨kvs,q⟩
   ·rcases l8 (show (ds.map Cell.val++List.replicate _ Cell.no)[i]?=some _ from q)with ⟨d,z⟩|z<;>cases z
   ·rcases l8 (show (ds.map Cell.val++List.replicate _ Cell.no)[i]?=some _ from q)with ⟨d,z⟩|z<;>cases z
   ·rcases l8 (show (ds.map Cell.val++List.replicate _ Cell.no)[i]?=some _ from q)with ⟨d,z⟩|z<;>cases z
 have kp:∀b o,H1 b=some o→upd (upd H1 dx (.own p)) p (.ins C dx []) b=some o:=fun b o e=>by
  rw[y0 (s0 e hp),y0 (s0 e hdx)];exact e
 refine ⟨⟨fun b o e=>kp b o (s b o e),fun a ds e=>?_,fun b o e _=>kp b o e,Same.refl F,fun b o e=>.inl e,fun a ds e=>⟨ds,e⟩,fun a ds e n=>by rw[show δ=none from n]at e;cases e⟩,fun i c e=>?_,?_,fun i j a n o1 o2=>n ((own i a o1).1.trans (own j a o2).1.symm),fun i a o b ds e w=>?_⟩
 ·obtain ⟨q,vs,q2,r⟩:=dk a ds e;exact ⟨q,vs,kp a _ q2,r⟩
 ·cases i with
  |zero=>
   cases e;refine ⟨p,dx,[],rfl,rfl,n3,by rw[y0 ne,n3],s.free hp,s.free hdx,hp,hdx,?_⟩;unfold RepF;rfl
  |succ i=>
   show CellOk K F _ _ _ c ((L2.start N us)[i]?).join;unfold L2.start;rw[r.length];exact y0l r _ i c e
 ·unfold L2.start x4;simp[r.length]
 ·obtain ⟨_,rfl⟩:=own i a o;obtain ⟨_,vs,q2,_⟩:=dk b ds e;rw[←w,hp]at q2;cases q2
section
variable{P:Program}{w:World}{K:Frag}{mg:Str→Option Value}{base:Heap}
theorem init2{x qual cn:Str}{st:Stmt}{f C:Addr}{fd:FuncData}{N ps:List Str}{k:Nat}{sp:Sp2}(Fn:Fun K x qual st f fd)(M:Mk K C f)(hm:mg cn=some (.ref C))(b:Binds K fd ("self"::ps) [])(S:FnScope ("self"::N) ("self"::ps) (defScope st))(len:∀ds δ q x,sp ds δ q x→ds.length=ps.length)
 (hbody:∀(cdv:Value) (A:Around) (outer:List Env) (s:Shared) (H:Hp) (E:XK) (Y:Y2),Room k (A.deeper (envOfC qual (defScope st) s.heap.objs.size f cdv))→
  ∃t,PSs2 (cxX P w K mg base ("self"::N) qual (defScope st) f cdv A outer s H E) Y (fun C od _ H'=>E (.ref C) od H') (defBody st) t∧
   ∀ds δ q x,sp ds δ q x→t {nx:=fun ρ δ=>∃fs,ρ[0]?=some (.obj C fs)∧q (.ins C fs) δ,rt:=fun _ _=>False,xc:=fun C fs _ δ=>x C fs δ} (.obj C []::x4 N ds) δ):Make2 P w K mg base cn (k+1) sp:=by
 refine ⟨C,f,fd,_,M,Fn.okX S (fun vs H Q E h=>?_) (fun cdv A outer s H vs Q E hr h=>?_),hm,b⟩
 ·obtain ⟨p,dx,us,H1,F,ds,δ,q,x,rfl,_,_,_,_,_,_,r,h,_⟩:=h;rw[List.length_cons,List.length_cons,r.length,len ds δ q x h]
 ·obtain ⟨p,dx,us,H1,F,ds,δ,q,x,rfl,rfl,hp,hdx,ne,s1,dk,r,h,kq,kx⟩:=h;obtain ⟨t,ht,rd⟩:=hbody cdv A outer s _ E ⟨F,H1,δ,some p⟩ hr;have es:L2.start ("self"::N) (V.ref p::us)=some (.ref p)::L2.start N us:=by unfold L2.start;simp
  refine ⟨_,ht.go,?_⟩;rw[es];refine ⟨F,_,δ,_,I2.startO s1 dk r hp hdx ne,rd ds δ q x h,⟨fun σ' F' H' ρ' δ' I' s' h'=>?_,fun d v σ' F' H' ρ' δ' I' s' r' h'=>h'.elim,fun C od fs σ' F' H' ρ' δ' I' s' r' h'=>?_,fun _ _ _ _ _ _ _ z=>z.elim,fun _ _ _ _ _ _ _ z=>z.elim⟩⟩
  ·obtain ⟨fs,e0,hq⟩:=h';obtain ⟨a,dy,ws,e1,es1,h1,h2,f1,f2,g1,g2,r1⟩:=I'.env 0 _ e0;cases (show some p=some a from es1);have nd:dy≠p:=fun w=>by rw[w,h1]at h2;cases h2
   have sF:Same F' (upd (upd F' dy (.own p)) p (.ins C dy ws)):=fun b o e=>by rw[y0 (s0 e f1),y0 (s0 e f2)];exact e
   have R:=I'.ran;refine kq fs (upd (upd F' dy (.own p)) p (.ins C dy ws)) H' δ' ⟨fun b o e=>?_,fun a ds e=>?_,R.keep,R.f0.trans sF,fun b o e=>?_,R.dto⟩ (rep_ins.mpr ⟨p,dy,ws,rfl,n3,by rw[y0 nd,n3],r1.mono sF⟩) hq
   ·by_cases z:b=p
    ·subst z;rw[n3]at e;cases e;exact h1
    ·rw[y0 z]at e;by_cases z2:b=dy
     ·subst z2;rw[n3]at e;cases e;exact h2
     ·rw[y0 z2]at e;exact R.sub _ _ e
   ·obtain ⟨q1,vs,q2,q3⟩:=R.dk a ds e;have n1:a≠p:=fun w=>by rw[w,h1]at q2;cases q2
    have n2:a≠dy:=fun w=>by rw[w,h2]at q2;cases q2
    exact ⟨by rw[y0 n1,y0 n2];exact q1,vs,q2,q3.mono sF⟩
   ·by_cases z:b=p
    ·subst z;exact .inr g1
    ·rw[y0 z]at e;by_cases z2:b=dy
     ·subst z2;exact .inr g2
     ·rw[y0 z2]at e;exact R.fnew b o e
  ·exact kx C od fs F' H' δ' I'.ran r' h'
end
section
variable{X:Cx}{Y:Y2}{W:XW}{x:Str}{p pos cpos:Pos}{e:Expr}{es:List Expr}{t:TA2}{k:Nat}{ps:List Str}{C:Addr}{f g:Str}
theorem l0q{H:Hp}{x d:Addr}{o o1 o2:HO}(hx:H x=none)(ne:d≠x):L2.drop (upd (upd (upd H x o1) d o) x o2) x=upd H d o:=by
 funext b;by_cases z:b=x
 ·subst z;rw[d9,y0 (Ne.symm ne)];exact hx.symm
 ·rw[y0m z,y0 z];by_cases z2:b=d
  ·subst z2;rw[n3,n3]
  ·rw[y0 z2,y0 z2,y0 z]
theorem repF1{K:Frag}{F:Hp}{f:Str}{d:D}{v:V}(r:Rep K F d v):RepF K F [(f,d)] [(f,v)]:=by
 unfold RepF;exact ⟨v,[],rfl,r,by unfold RepF;rfl⟩
noncomputable def v0a(C:Addr)(f:Str)(t:TA2):TS2:=fun E ρ δ=>t E.xc ρ δ fun ds ρ1 δ1=>match ds with | [d]=>E.xc C [(f,d)] ρ1 δ1 |_=>False
theorem j8(hc:X.calm=true)(hf:e8 X W)(M:MkE X.prog X.w X.K X.mg X.base x C k ps (spXI C f))(hr:Room (k+1) X.A)(ha:PA2 X Y W (e::es) t)(hg:Gl X x:=by rfl)(hdb:(x==("__debug__":Str))=false:=by decide)
 (he:starEach (e::es) X.env=(false,eval e X.env)::starEach es X.env:=by exact b5 rfl) (hpl:(backTo cpos (starEach es X.env)).any (·.1)=false:=by exact p6 rfl):
 PS2 X Y W (.Raise (some (.Call (.Name x p) (e::es) [] cpos)) none pos) (v0a C f t):=ps2 (i0w hc hf M hr ha.go hg hdb he hpl) fun E1 σ H ⟨F,ρ,δ,E2,I,h,er⟩=>by
 refine ⟨F,ρ,δ,E2.xc,_,I,h,fun ds vs F1 H1 ρ1 δ1 I1 s1 r1 h1=>?_,er.xc⟩;split at h1
 ·rename_i d;obtain ⟨v,rfl,r2⟩:=d8 r1;refine ⟨sz1,fun y hy=>⟨y,v,rfl,n3,fun dx hdx ne=>⟨rfl,some dx,n3,?_⟩⟩⟩;rw[l0q hy ne];have hd:H1 dx=none:=by rw[y0 ne]at hdx;exact hdx
  exact er.xc C (some dx) _ σ _ _ ρ1 δ1 (I1.alloc hd) (s1.trans (I1.grow hd)) ⟨_,n3,(repF1 r2).mono (I1.grow hd)⟩ h1
 ·exact h1.elim
noncomputable def f0a(C:Addr)(f g:Str)(t:TA2):TS2:=fun E ρ δ=>t E.xc ρ δ fun ds ρ1 δ1=>match ds with | [d,d']=>E.xc C (r0s g d' [(f,d)]) ρ1 δ1 |_=>False
noncomputable def e0z(C:Addr):TS2:=fun E ρ δ=>E.xc C [] ρ δ
noncomputable def t2Exc1(C:Addr)(f:Str)(t:TA2):TE2:=fun x ρ δ q=>t x ρ δ fun ds ρ1 δ1=>match ds with | [d]=>q (.exc C [(f,d)]) ρ1 δ1 |_=>False
noncomputable def t2Exc2(C:Addr)(f g:Str)(t:TA2):TE2:=fun x ρ δ q=>t x ρ δ fun ds ρ1 δ1=>match ds with | [d,d']=>q (.exc C (r0s g d' [(f,d)])) ρ1 δ1 |_=>False
noncomputable abbrev XTS2:=Addr→List (Str×D)→TS2
noncomputable def upH(K:Frag)(Y:Y2)(W:XW)(t:XTS2):XTS:=fun C od E1 σ H=>∃F ρ δ E2 fs,I2 K Y F H σ ρ δ∧XRep K F od fs∧t C fs E2 ρ δ∧ER K Y W F E2 E1
structure PH2(X:Cx)(Y:Y2)(W:XW)(hs:List ExceptHandler)(t:XTS2):Prop where
 go:PH X hs (upH X.K Y W t)
theorem i0k{hs:List ExceptHandler}{t t':XTS}(h:PH X hs t)(k:∀C od D σ H,t' C od D σ H→t C od D σ H):PH X hs t':=fun pins x C od T s σ H D I f l lt q=>h pins x C od T s σ H D I f l lt (k C od D σ H q)
noncomputable def t2H0:XTS2:=fun _ _ _ _ _=>False
theorem h2_nil:PH2 X Y W [] t2H0:=⟨i0k ph_nil fun C od D σ H ⟨F,ρ,δ,E2,fs,I,r,h,er⟩=>h.elim⟩
theorem ph2{hs:List ExceptHandler}{t:XTS}{u:XTS2}(h:PH X hs t)(k:∀C od D σ H,upH X.K Y W u C od D σ H→t C od D σ H):PH2 X Y W hs u:=⟨i0k h k⟩
noncomputable abbrev W0:XW:=fun _ _ _ _=>False
noncomputable def noX(E:End2):End2:={E with xc:=fun _ _ _ _=>False}
noncomputable def t2H(K:Frag)(D:Addr)(ts:TS2)(tr:XTS2):XTS2:=fun C fs E ρ δ=>match PySem.W.mroIn K C (.ref D)with |some b=>if b=true then ts (noX E) ρ δ else tr C fs E ρ δ |none=>False
theorem ER.noX{K:Frag}{F:Hp}{E2:End2}{E1:Ends}(h:ER K Y W F E2 E1):ER K Y W0 F (noX E2) E1:=⟨h.nx,h.rt,fun _ _ _ _ _ _ _ _ _ _ _ z=>z,h.bk,h.ct⟩
variable{D:Addr}{y n:Str}{np:Pos}{b₀:Stmt}{suite:List Stmt}{rest:List ExceptHandler}{ts:TS2}{tr:XTS2}
theorem a0r(tp:Top X)(d:XHd X.K D)(hm:X.mg y=some (.ref D))(hs:∀x,PSs2 (X.hdl x) Y W0 (b₀::suite) ts)(hr:PH2 X Y W rest tr)(hg:Gl X y:=by rfl)(hdb:(y==("__debug__":Str))=false:=by decide):
 PH2 X Y W (.ExceptHandler (some (.Name y np)) none (b₀::suite) pos::rest) (t2H X.K D ts tr):=ph2 (b0j (ts:=upS X.K Y W0 ts) tp d hg hm (fun x=>(hs x).go) hr.go hdb) fun C od E1 σ H ⟨F,ρ,δ,E2,fs,I,r,h,er⟩=>by
 unfold t2H at h;split at h
 ·rename_i b e;refine ⟨b,e,?_⟩;cases b with
  |true=>rw[if_pos rfl]at h ⊢; exact ⟨F,ρ,δ,noX E2,I,h,er.noX⟩
  |false=>rw[if_neg Bool.false_ne_true]at h ⊢; exact ⟨F,ρ,δ,E2,fs,I,r,h,er⟩
 ·exact h.elim
noncomputable def asE(i:Nat)(E:End2):End2:={nx:=fun ρ δ=>E.nx (ρ.set i .no) δ,rt:=E.rt,xc:=fun _ _ _ _=>False,bk:=fun ρ δ=>E.bk (ρ.set i .no) δ,ct:=fun ρ δ=>E.ct (ρ.set i .no) δ}
noncomputable def k0p(K:Frag)(i:Nat)(D:Addr)(ts:TS2)(tr:XTS2):XTS2:=fun C fs E ρ δ=>match PySem.W.mroIn K C (.ref D)with |some b=>if b=true then ts (asE i E) (ρ.set i (.val (.exc C fs))) δ else tr C fs E ρ δ |none=>False
theorem h2_as(i:Nat)(tp:Top X)(d:XHd X.K D)(hm:X.mg y=some (.ref D))(hN:X.N.Nodup)(hs:∀x,PSs2 (X.hdl x) Y W0 (b₀::suite) ts)(hr:PH2 X Y W rest tr)(hi:X.N[i]?=some n:=by rfl)(hk:X.env.scope.names.lookup n=some .local:=by rfl)(hg:Gl X y:=by rfl)(hdb:(y==("__debug__":Str))=false:=by decide):
 PH2 X Y W (.ExceptHandler (some (.Name y np)) (some n) (b₀::suite) pos::rest) (k0p X.K i D ts tr):=ph2 (ph_as (ts:=fun _=>upS X.K Y W0 ts) tp d hg hm hN hi hk (fun x=>(hs x).go) hr.go hdb) fun C od E1 σ H ⟨F,ρ,δ,E2,fs,I,r,h,er⟩=>by
 unfold k0p at h;split at h
 ·rename_i b e;refine ⟨b,e,?_⟩;cases b with
  |true=>
   rw[if_pos rfl]at h ⊢;intro y hy;have s1:=I.grow (o:=XO (bif X.fl then 2 else 0) y C od) hy;have rr:Rep X.K (upd F y (XO (bif X.fl then 2 else 0) y C od)) (.exc C fs) (.ref y):=by
    refine rep_exc.mpr ⟨y,(bif X.fl then 2 else 0),rfl,?_⟩;cases od with
    |none=>exact .inl ⟨r,n3⟩
    |some dx=>
     obtain ⟨us,e1,rf⟩:=r;refine .inr ⟨dx,us,n3,?_,rf.mono s1⟩;rw[y0 (s0 (I.sub _ _ e1) hy)];exact e1
   refine ⟨_,_,δ,asE i E2,(I.alloc hy).put rr,h,⟨fun σ' F' H' ρ' δ' I' s' h'=>?_,fun d v σ' F' H' ρ' δ' I' s'=>er.rt d v σ' F' H' ρ' δ' I' (s1.trans s'),fun _ _ _ _ _ _ _ _ _ _ _ z=>z,fun σ' F' H' ρ' δ' I' s' h'=>?_,fun σ' F' H' ρ' δ' I' s' h'=>?_⟩⟩
   ·exact er.nx _ F' H' _ δ' I'.gone (s1.trans s') h'
   ·exact er.bk _ F' H' _ δ' I'.gone (s1.trans s') h'
   ·exact er.ct _ F' H' _ δ' I'.gone (s1.trans s') h'
  |false=>rw[if_neg Bool.false_ne_true]at h ⊢; exact ⟨F,ρ,δ,E2,fs,I,r,h,er⟩
 ·exact h.elim
noncomputable def e0y(tb:TS2)(th:XTS2):TS2:=fun E ρ δ=>tb {E with xc:=fun C fs ρ' δ'=>th C fs E ρ' δ'} ρ δ
theorem s2_try{body:List Stmt}{h₀:ExceptHandler}{hs:List ExceptHandler}{tb:TS2}{th:XTS2}(tp:Top X)(hb:∀pins W',PSs2 (X.tr pins W') Y W' body tb)(hh:PH2 X Y W (h₀::hs) th):PS2 X Y W (.Try body (h₀::hs) [] [] pos) (e0y tb th):=
 ps2 (ps_try (tb:=fun W'=>upS X.K Y W' tb) tp (fun p W'=>(hb p W').go) hh.go) fun E1 σ H ⟨F,ρ,δ,E2,I,h,er⟩=>
  ⟨fun C od σ' H'=>∃F' ρ' δ' fs,I2 X.K Y F' H' σ' ρ' δ'∧Same F F'∧XRep X.K F' od fs∧th C fs E2 ρ' δ',
   ⟨F,ρ,δ,_,I,h,⟨er.nx,er.rt,fun C od fs σ' F' H' ρ' δ' I' s' r' h'=>⟨F',ρ',δ',fs,I',s',r',h'⟩,er.bk,er.ct⟩⟩,
   fun C od σ' H' ⟨F',ρ',δ',fs,I',s',r',h'⟩=>⟨F',ρ',δ',E2,fs,I',r',h',er.mono s'⟩⟩
end
end DL
namespace DL
open PySem PySem.Spec L2
open PySem.W (XC)
noncomputable def c0s(K:Frag)(F H:Hp)(d:D)(v:V)(H':Hp):Prop:=(H'=H∧Rep K F d v)∨∃p vs es,H p=none∧H'=upd H p (.tup vs)∧v=.ref p∧d=.tup es∧Reps K F es vs
structure SrcOk(K:Frag)(J:It)(F:Hp)(ds:List D):Prop where
 item:∀(i:Nat) (d:D) (F' H:Hp),ds[i]?=some d→Same F F'→Same F' H→J.go i H∧∀v H',J.yld i H v H'→c0s K F' H d v H'
 stop:∀(F' H:Hp),Same F F'→Same F' H→J.stop ds.length H
theorem I2.yld{K:Frag}{Y:Y2}{F H H':Hp}{σ:St}{ρ:En}{δ:Dk}{d:D}{v:V}(I:I2 K Y F H σ ρ δ)(y:c0s K F H d v H'):∃F',I2 K Y F' H' σ ρ δ∧Same F F'∧Rep K F' d v∧∀D u,H D=some u→F D=none→F' D=none:=by
 rcases y with ⟨rfl,r⟩|⟨p,vs,es,hp,rfl,rfl,rfl,r⟩
 ·exact ⟨F,I,Same.refl F,r,fun _ _ _ z=>z⟩
 ·exact ⟨_,I.alloc hp,I.grow hp,I.tup hp r,fun D u h z=>by rw[y0 (s0 h hp)];exact z⟩
noncomputable abbrev TI2:=XK2→En→Dk→(List D→En→Dk→Prop)→Prop
noncomputable def upI2(K:Frag)(Y:Y2)(W:XW)(t:TI2):TI:=fun σ H R=>∃F ρ δ x q,I2 K Y F H σ ρ δ∧t x ρ δ q∧(∀ds J F' H' ρ' δ',I2 K Y F' H' σ ρ' δ'→Same F F'→SrcOk K J F' ds→q ds ρ' δ'→R J H')∧XR K Y W F x
structure PI2(X:Cx)(Y:Y2)(W:XW)(tg iter:Expr)(t:TI2):Prop where
 go:PI X tg iter (upI2 X.K Y W t)
theorem a0q{X:Cx}{tg iter:Expr}{t t':TI}(h:PI X tg iter t)(k:∀ σ H R,t' σ H R→t σ H R):PI X tg iter t':=fun pins s σ H R I q=>h pins s σ H R I (k σ H R q)
theorem pi2{X:Cx}{Y:Y2}{W:XW}{tg iter:Expr}{t:TI}{u:TI2}(h:PI X tg iter t)(k:∀ σ H R,upI2 X.K Y W u σ H R→t σ H R):PI2 X Y W tg iter u:=⟨a0q h k⟩
section
variable{X:Cx}{Y:Y2}{W:XW}{tg:Expr}{K:Frag}
theorem a0p{F:Hp}{a:Addr}{xs:List V}{ds:List D}(h:SqT K F a xs)(r:Reps K F ds xs):SrcOk K (Itt K a) F ds:=by
 refine ⟨fun i d F' H e s1 s2=>?_,fun F' H s1 s2=>?_⟩
 ·obtain ⟨v,ev,rv⟩:=r.get e;have hs:=(s1.trans s2).sqT h;refine ⟨⟨xs,v,hs,ev⟩,fun u H' y=>?_⟩;obtain ⟨rfl,y⟩:=y;have:=y xs hs;rw[ev]at this;cases this;exact .inl ⟨rfl,rv.mono s1⟩
 ·exact ⟨xs,(s1.trans s2).sqT h,by rw[r.length];exact Nat.le_refl _⟩
theorem i0j{F:Hp}{a:Addr}{xs:List V}{ds:List D}(h:SqL K F a xs)(r:Reps K F ds xs):SrcOk K (Itl K a) F ds:=by
 refine ⟨fun i d F' H e s1 s2=>?_,fun F' H s1 s2=>?_⟩
 ·obtain ⟨v,ev,rv⟩:=r.get e;have hs:=(s1.trans s2).sqL h;refine ⟨⟨xs,v,hs,ev⟩,fun u H' y=>?_⟩;obtain ⟨rfl,y⟩:=y;have:=y xs hs;rw[ev]at this;cases this;exact .inl ⟨rfl,rv.mono s1⟩
 ·exact ⟨xs,(s1.trans s2).sqL h,by rw[r.length];exact Nat.le_refl _⟩
noncomputable def rngD(lo:Int)(n:Nat):List D:=(List.range n).map fun (k:Nat)=>D.int (lo+(k:Int))
theorem r0r{lo:Int}{n i:Nat}{d:D}(e:(rngD lo n)[i]?=some d):i<n∧d=.int (lo+(i:Int)):=by
 unfold rngD at e;rw[List.getElem?_map,Option.map_eq_some_iff]at e;obtain ⟨k,ek,rfl⟩:=e;obtain ⟨h1,h2⟩:=List.getElem?_eq_some_iff.mp ek;rw[List.length_range]at h1;rw[List.getElem_range]at h2;subst h2;exact ⟨h1,rfl⟩
theorem u0z{lo:Int}{n:Nat}:(rngD lo n).length=n:=by unfold rngD;simp
theorem i0i{F:Hp}{lo:Int}{n:Nat}:SrcOk K (Itr lo n) F (rngD lo n):=by
 refine ⟨fun i d F' H e s1 s2=>?_,fun F' H s1 s2=>?_⟩
 ·obtain ⟨hi,rfl⟩:=r0r e;refine ⟨hi,fun v H' y=>?_⟩;obtain ⟨rfl,rfl⟩:=y;exact .inl ⟨rfl,rep_int.mpr rfl⟩
 ·show n≤_;rw[u0z];exact Nat.le_refl _
noncomputable def iSeq(K:Frag)(tl:TE):TI:=fun σ H R=>tl σ H fun x H1=>∃a,x=.ref a∧(((∃xs,SqL K H1 a xs)∧R (Itl K a) H1)∨((∃xs,SqT K H1 a xs)∧R (Itt K a) H1))
theorem pi_seq{l:Expr}{tl:TE}(hl:PE X l tl):PI X tg l (iSeq X.K tl):=by
 intro pins s σ H R I h;refine thn (hl pins s σ H _ I h) fun v s1 ⟨x,H1,I1,r1,q1⟩=>?_
 obtain ⟨a,e,q⟩:=q1;subst e;cases r1;rcases q with ⟨⟨xs,hq⟩,q⟩|⟨⟨xs,hq⟩,q⟩
 ·obtain ⟨its,rv,p,hz⟩:=I1.list hq;refine wpAny_pyIter_list p.isList ?_;refine ⟨s1.heap.objs.size,[s1.heap.objs.size],_,_,H1,rfl,I1.kept (t':=s1.toks) fun b o e=>Heap.get?_push_of_some _ e,j0w a _,⟨_,Heap.get?_push_size _ rfl,rfl,rfl⟩,fun b hb=>?_,q⟩;have e:b=s1.heap.objs.size:=by simpa using hb
  subst e;exact I1.fpOk (Nat.le_refl _) (I1.hok.fresh (Nat.le_refl _))
 ·obtain ⟨its,rv,p,hz⟩:=I1.tuple hq;refine wpAny_pyIter_tuple (show s1.heap.IsTuple a its.toArray from p) ?_;refine ⟨s1.heap.objs.size,[s1.heap.objs.size],_,_,H1,rfl,I1.kept (t':=s1.toks) fun b o e=>Heap.get?_push_of_some _ e,k0x a _,⟨_,Heap.get?_push_size _ rfl,rfl,rfl⟩,fun b hb=>?_,q⟩;have e:b=s1.heap.objs.size:=by simpa using hb
  subst e;exact I1.fpOk (Nat.le_refl _) (I1.hok.fresh (Nat.le_refl _))
noncomputable def t2Is(te:TE2):TI2:=fun x ρ δ q=>te x ρ δ fun d ρ1 δ1=>match seqD d with |some ds=>q ds ρ1 δ1 |none=>False
theorem c0r{F:Hp}{d:D}{xs:List D}{x:V}(h:seqD d=some xs)(r:Rep K F d x):∃a vs,x=.ref a∧(SqL K F a vs∨SqT K F a vs)∧Reps K F xs vs:=s0h (Same.refl F) h r
theorem x0o{l:Expr}{te:TE2}(hl:PE2 X Y W l te):PI2 X Y W tg l (t2Is te):=pi2 (pi_seq hl.go) fun σ H R ⟨F,ρ,δ,x,q,I,h,k,kx⟩=>by
 refine ⟨F,ρ,δ,x,_,I,h,fun d v F' H' ρ' δ' I' s' r' h'=>?_,kx⟩;split at h'
 ·rename_i ds e;obtain ⟨a,vs,rfl,sq,z⟩:=c0r e r';refine ⟨a,rfl,?_⟩;rcases sq with sq |sq
  ·exact .inl ⟨⟨vs,I'.sub.sqL sq⟩,k ds _ F' H' ρ' δ' I' s' (i0j sq z) h'⟩
  ·exact .inr ⟨⟨vs,I'.sub.sqT sq⟩,k ds _ F' H' ρ' δ' I' s' (a0p sq z) h'⟩
 ·exact h'.elim
variable{a b:Expr}{ta:TA2}{p pos:Pos}
noncomputable def t2R1(ta:TA2):TI2:=fun x ρ δ q=>ta x ρ δ fun ds ρ1 δ1=>match ds with | [.int j]=>(-(2^62)≤j∧j<2^62)∧q (rngD 0 j.toNat) ρ1 δ1 |_=>False
theorem p0r(hm:X.mg "range"=none)(ha:PA2 X Y W [a] ta)(hg:Gl X "range":=by rfl)(hs:starEach [a] X.env=[(false,eval a X.env)]:=by rfl):PI2 X Y W tg (.Call (.Name "range" p) [a] [] pos) (t2R1 ta):=pi2 (j0v hg hm ha.go hs) fun σ H R ⟨F,ρ,δ,x,q,I,h,k,kx⟩=>by
 refine ⟨F,ρ,δ,x,_,I,h,fun ds vs F' H' ρ' δ' I' s' r' h'=>?_,kx⟩;split at h'
 ·rename_i j;obtain ⟨v,rfl,r1⟩:=d8 r';rw[rep_int.mp r1];exact ⟨j,rfl,h'.1.1,h'.1.2,k _ _ F' H' ρ' δ' I' s' i0i h'.2⟩
 ·exact h'.elim
noncomputable def t2R2(ta:TA2):TI2:=fun x ρ δ q=>ta x ρ δ fun ds ρ1 δ1=>match ds with | [.int i,.int j]=>(-(2^62)≤i∧i<2^62∧-(2^62)≤j∧j<2^62)∧q (rngD i (j-i).toNat) ρ1 δ1 |_=>False
theorem i0h(hm:X.mg "range"=none)(ha:PA2 X Y W [a,b] ta)(hg:Gl X "range":=by rfl)(hs:starEach [a,b] X.env=[(false,eval a X.env),(false,eval b X.env)]:=by rfl)(hs2:starEach [b] X.env=[(false,eval b X.env)]:=by rfl):
 PI2 X Y W tg (.Call (.Name "range" p) [a,b] [] pos) (t2R2 ta):=pi2 (j0u hg hm ha.go hs hs2) fun σ H R ⟨F,ρ,δ,x,q,I,h,k,kx⟩=>by
 refine ⟨F,ρ,δ,x,_,I,h,fun ds vs F' H' ρ' δ' I' s' r' h'=>?_,kx⟩;split at h'
 ·rename_i i j;obtain ⟨v,u,rfl,r1,r2⟩:=a0z r';rw[rep_int.mp r1,rep_int.mp r2];exact ⟨i,j,rfl,h'.1,k _ _ F' H' ρ' δ' I' s' i0i h'.2⟩
 ·exact h'.elim
end
noncomputable abbrev G2:=D→En→Option En
noncomputable def TgD(K:Frag)(g:TG)(g2:G2):Prop:=∀(Y:Y2) (F H:Hp) (σ:St) (ρ ρ':En) (δ:Dk) (d:D) (v:V) (Q:St→Hp→Prop),I2 K Y F H σ ρ δ→Rep K F d v→g2 d ρ=some ρ'→(∀ σ',I2 K Y F H σ' ρ' δ→Q σ' H)→g v σ H Q
noncomputable def g2N(i:Nat):G2:=fun d ρ=>some (ρ.set i (.val d))
theorem n0y{K:Frag}{i:Nat}:TgD K (o0j i) (g2N i):=fun Y F H σ ρ ρ' δ d v Q I r e k=>by cases e;exact k _ (I.put r)
noncomputable def v0r:List Nat→List D→En→Option En
 | [],[],ρ=>some ρ
 |i::is,d::ds,ρ=>v0r is ds (ρ.set i (.val d))
 |_,_,_=>none
noncomputable def g2T(is:List Nat):G2:=fun d ρ=>match d with | .tup ds=>v0r is ds ρ |_=>none
noncomputable def gAll:List Nat→TGs
 | []=>gNil
 |i::is=>gCons (o0j i) (gAll is)
theorem i0g{K:Frag}:∀{is:List Nat} {ds:List D} {vs:List V} {Y:Y2} {F H:Hp} {σ:St} {ρ ρ':En} {δ:Dk} {Q:St→Hp→Prop},I2 K Y F H σ ρ δ→Reps K F ds vs→v0r is ds ρ=some ρ'→(∀ σ',I2 K Y F H σ' ρ' δ→Q σ' H)→gAll is vs σ H Q∧vs.length=is.length
 | [],[],vs,Y,F,H,σ,ρ,ρ',δ,Q,I,r,e,k=>by cases e;rw[reps_nil.mp r];exact ⟨⟨rfl,k σ I⟩,rfl⟩
 |i::is,d::ds,vs,Y,F,H,σ,ρ,ρ',δ,Q,I,r,e,k=>by
  obtain ⟨v,l,rfl,r1,r2⟩:=reps_cons.mp r;obtain ⟨h1,h2⟩:=i0g (I.put (i:=i) r1) r2 e k;exact ⟨⟨v,l,rfl,h1⟩,by rw[List.length_cons,List.length_cons,h2]⟩
 | [],d::ds,vs,Y,F,H,σ,ρ,ρ',δ,Q,I,r,e,k=>by cases e
 |i::is,[],vs,Y,F,H,σ,ρ,ρ',δ,Q,I,r,e,k=>by cases e
theorem td_tup{K:Frag}{is:List Nat}{n:Nat}(hn:is.length=n):TgD K (gTup K n (gAll is)) (g2T is):=fun Y F H σ ρ ρ' δ d v Q I r e k=>by
 unfold g2T at e;split at e
 ·rename_i ds;obtain ⟨a,vs,rfl,ea,z⟩:=rep_tup.mp r;obtain ⟨h1,h2⟩:=i0g I z e k;exact ⟨a,vs,rfl,SqT.of (I.sub _ _ ea),by rw[h2,hn],h1⟩
 ·cases e
noncomputable def forL(g:G2)(body:TS2)(E:End2):List D→En→Dk→Prop
 | [],ρ,δ=>E.nx ρ δ
 |d::ds,ρ,δ=>match g d ρ with
  |some ρ'=>body {E with nx:=forL g body E ds,ct:=forL g body E ds,bk:=E.nx} ρ' δ
  |none=>False
noncomputable def e0x(ti:TI2)(g:G2)(body:TS2):TS2:=fun E ρ δ=>ti E.xc ρ δ fun ds ρ1 δ1=>forL g body E ds ρ1 δ1
section
variable{X:Cx}{Y:Y2}{W:XW}{tg iter:Expr}{pos:Pos}
theorem l0p{body:List Stmt}{ti:TI2}{g:TG}{g2:G2}{tb:TS2}(hp:PassesOwn (model X.prog X.w) X.A X.env X.xe)(hc:X.calm=true)(hi:PI2 X Y W tg iter ti)(hg:PG X tg g)(hd:TgD X.K g g2)(hb:PSs2 X Y W body tb)
 (hs:∀x,foldedSetIterable iter X.env x=pure x:=by intro _;rfl):PS2 X Y W (.For tg iter body [] pos) (e0x ti g2 tb):=ps2 (ps_for hp hc hi.go hg hb.go hs) fun E1 σ H ⟨F,ρ,δ,E2,I,h,er⟩=>by
 refine ⟨F,ρ,δ,E2.xc,_,I,h,fun ds J F1 H1 ρ1 δ1 I1 s1 src h1=>?_,er.xc⟩;refine ⟨fun i m σ H=>∃F' ρ' δ',I2 X.K Y F' H σ ρ' δ'∧Same F1 F'∧forL g2 tb E2 (ds.drop i) ρ' δ'∧i≤ds.length∧m=ds.length-i,⟨ds.length,F1,ρ1,δ1,I1,Same.refl F1,by simpa using h1,Nat.zero_le _,by simp⟩,?_⟩;rintro i m σ' H' ⟨F',ρ',δ',I',s',h',hi,rfl⟩;cases e:ds[i]? with
 |none=>
  have hl:ds.length≤i:=List.getElem?_eq_none_iff.mp e;have ei:i=ds.length:=by omega
  subst ei;rw[List.drop_length]at h';exact .inl ⟨src.stop F' H' s' I'.sub,er.nx σ' F' H' ρ' δ' I' (s1.trans s') h'⟩
 |some d=>
  have hl:i<ds.length:=(List.getElem?_eq_some_iff.mp e).1;obtain ⟨go,yl⟩:=src.item i d F' H' e s' I'.sub;refine .inr ⟨go,fun σ2 H2=>∃F2 ρ2 δ2,I2 X.K Y F2 H2 σ2 ρ2 δ2∧Same F1 F2∧forL g2 tb E2 (ds.drop (i+1)) ρ2 δ2,fun σ2 H2 ⟨F2,ρ2,δ2,I2',s2,h2⟩=>⟨ds.length-(i+1),by omega,F2,ρ2,δ2,I2',s2,h2,hl,rfl⟩,fun x H2 y=>?_⟩;obtain ⟨F2,I2',s2,r2,_⟩:=I'.yld (yl x H2 y);have ed:ds.drop i=d::ds.drop (i+1):=by rw[List.drop_eq_getElem_cons hl];congr 1;exact (List.getElem?_eq_some_iff.mp e).2
  rw[ed]at h';unfold forL at h';split at h'
  ·rename_i ρ3 e3;refine hd Y F2 H2 σ' ρ' ρ3 δ' d x _ I2' r2 e3 fun σ3 I3=>?_
   have sa:Same F1 F2:=s'.trans s2;refine ⟨F2,ρ3,δ',_,I3,h',⟨fun σ4 F4 H4 ρ4 δ4 I4 s4 h4=>⟨F4,ρ4,δ4,I4,sa.trans s4,h4⟩,fun d v σ4 F4 H4 ρ4 δ4 I4 s4=>er.rt d v σ4 F4 H4 ρ4 δ4 I4 ((s1.trans sa).trans s4),er.xc.mono (s1.trans sa),fun σ4 F4 H4 ρ4 δ4 I4 s4 h4=>er.nx σ4 F4 H4 ρ4 δ4 I4 ((s1.trans sa).trans s4) h4,fun σ4 F4 H4 ρ4 δ4 I4 s4 h4=>⟨F4,ρ4,δ4,I4,sa.trans s4,h4⟩⟩⟩
  ·exact h'.elim
end
section
variable{K:Frag}{Y:Y2}{F H:Hp}{σ:St}{ρ:En}{δ:Dk}
theorem I2.side{D:Addr}{o:HO}(I:I2 K Y F H σ ρ δ)(hF:F D=none)(h0:Y.H₀ D=none)(hd:Off δ D)(hD:∃vs,H D=some (.lst vs))(no:∀j a,a6 ρ σ j a→a≠D):I2 K Y F (upd H D o) σ ρ δ:=by
 obtain ⟨vs,hD⟩:=hD;refine ⟨⟨fun b u e=>?_,fun b fs e=>?_,fun b u e f=>?_,I.ran.f0,I.ran.fnew,I.ran.dto⟩,fun j c e=>?_,I.len,I.apart,I.off⟩
 ·rw[y0 (s0 e hF)];exact I.sub _ _ e
 ·obtain ⟨q1,ws,q2,q3⟩:=I.ran.dk b fs e;exact ⟨q1,ws,by rw[y0 (Ne.symm (hd b fs e))];exact q2,q3⟩
 ·rw[y0 (s0 e h0)];exact I.ran.keep b u e f
 ·have w:=I.env j c e;cases c with
  |no=>trivial
  |val d=>exact w
  |own fs=>
   obtain ⟨b,ws,e1,h1,f1,g1,r1⟩:=w;exact ⟨b,ws,e1,by rw[y0 (no j b ⟨.inl ⟨fs,e⟩,a3 e1⟩)];exact h1,f1,g1,r1⟩
  |obj C fs=>
   obtain ⟨b,dx,ws,e1,es1,h1,h2,f1,f2,g1,g2,r1⟩:=w;have nd:dx≠D:=fun w=>by rw[w,hD]at h2;cases h2
   exact ⟨b,dx,ws,e1,es1,by rw[y0 (no j b ⟨.inr (.inl ⟨C,fs,e⟩),a3 e1⟩)];exact h1,by rw[y0 nd];exact h2,f1,f2,g1,g2,r1⟩
  |ownD fs=>
   obtain ⟨b,ws,e1,h1,f1,g1,r1⟩:=w;exact ⟨b,ws,e1,by rw[y0 (no j b ⟨.inr (.inr ⟨fs,e⟩),a3 e1⟩)];exact h1,f1,g1,r1⟩
theorem I2.ice{D:Addr}{vs:List V}(I:I2 K Y F H σ ρ δ)(hF:F D=none)(h0:Y.H₀ D=none)(hd:Off δ D)(hD:H D=some (.lst vs))(no:∀j a,a6 ρ σ j a→a≠D):I2 K Y (upd F D (.lst vs)) H σ ρ δ:=by
 refine ⟨⟨fun b u e=>?_,fun b fs e=>?_,I.ran.keep,fun b u e=>?_,fun b u e=>?_,I.ran.dto⟩,fun j c e=>?_,I.len,I.apart,I.off⟩
 ·by_cases z:b=D
  ·subst z;rw[n3]at e;cases e;exact hD
  ·rw[y0 z]at e;exact I.sub _ _ e
 ·obtain ⟨q1,ws,q2,q3⟩:=I.ran.dk b fs e;exact ⟨by rw[y0 (Ne.symm (hd b fs e))];exact q1,ws,q2,q3.mono (Same.new hF)⟩
 ·rw[y0 (s0 (I.ran.f0 b u e) hF)];exact I.ran.f0 b u e
 ·by_cases z:b=D
  ·subst z;exact .inr h0
  ·rw[y0 z]at e;exact I.ran.fnew b u e
 ·have w:=I.env j c e;cases c with
  |no=>trivial
  |val d=>obtain ⟨u,e1,r1⟩:=w;exact ⟨u,e1,r1.mono (Same.new hF)⟩
  |own fs=>
   obtain ⟨b,ws,e1,h1,f1,g1,r1⟩:=w;exact ⟨b,ws,e1,h1,by rw[y0 (no j b ⟨.inl ⟨fs,e⟩,a3 e1⟩)];exact f1,g1,r1.mono (Same.new hF)⟩
  |obj C fs=>
   obtain ⟨b,dx,ws,e1,es1,h1,h2,f1,f2,g1,g2,r1⟩:=w;have nd:dx≠D:=fun w=>by rw[w,hD]at h2;cases h2
   exact ⟨b,dx,ws,e1,es1,h1,h2,by rw[y0 (no j b ⟨.inr (.inl ⟨C,fs,e⟩),a3 e1⟩)];exact f1,by rw[y0 nd];exact f2,g1,g2,r1.mono (Same.new hF)⟩
  |ownD fs=>
   obtain ⟨b,ws,e1,h1,f1,g1,r1⟩:=w;exact ⟨b,ws,e1,h1,by rw[y0 (no j b ⟨.inr (.inr ⟨fs,e⟩),a3 e1⟩)];exact f1,g1,r1.mono (Same.new hF)⟩
theorem I2.ownAddr{j:Nat}{a:Addr}(I:I2 K Y F H σ ρ δ)(o:a6 ρ σ j a):∃u,H a=some u:=by
 rcases o.1 with ⟨ds,q⟩|⟨C,fs,q⟩|⟨kvs,q⟩
 rotate_left 2
 ·obtain ⟨b,us,e,hb,_⟩:=I.env j _ q;rw[o.2]at e;cases e;exact ⟨_,hb⟩
 ·obtain ⟨b,us,e,hb,_⟩:=I.env j _ q;rw[o.2]at e;cases e;exact ⟨_,hb⟩
 ·obtain ⟨b,dx,us,e,es0,hb,_⟩:=I.env j _ q;rw[o.2]at e;cases e;exact ⟨_,hb⟩
noncomputable def x0n:Option Cell→Cell |some (.val d)=>.val d |_=>.no
noncomputable def capt(ρ:En)(js:List Nat):En:=js.map fun j=>x0n ρ[j]?
noncomputable def c8(te:TE2)(js:List Nat)(ρ:En)(q:List D→Dk→Prop):List D→List D→Dk→Prop
 | [],acc,δ=>q acc δ
 |d::ds,acc,δ=>te (fun _ _ _ _=>False) (.val d::capt ρ js) δ fun e _ δ1=>acc.length<1000∧c8 te js ρ q ds (acc++[e]) δ1
end
section
variable{X:Cx}{Y:Y2}{W:XW}{x:Str}{px pos:Pos}{elt iter:Expr}{js:List Nat}{scope:Scope}{te:TE2}{ti:TI2}
noncomputable def teY(K:Frag)(te:TE2):TE:=fun σ H Q=>∃Y',upE K Y' W0 te σ H Q
variable{i:Nat}{y:Str}{py spos:Pos}
noncomputable def t2Comp(ti:TI2)(js:List Nat)(te:TE2):TE2:=fun x ρ δ q=>ti x ρ δ fun ds ρ1 δ1=>c8 te js ρ1 (fun acc δ2=>q (.lst acc) ρ1 δ2) ds [] δ1
noncomputable def t2OwnC(i:Nat)(ti:TI2)(js:List Nat)(te:TE2):TS2:=fun E ρ δ=>ti E.xc ρ δ fun ds ρ1 δ1=>c8 te js ρ1 (fun acc δ2=>E.nx (ρ1.set i (.own acc)) δ2) ds [] δ1
end
section
variable{X:Cx}{Y:Y2}{W:XW}{pos:Pos}
theorem I2.deck{K:Frag}{F H:Hp}{σ:St}{ρ:En}{p:Addr}{ds:List D}{vs:List V}(I:I2 K Y F H σ ρ none)(h:H p=none)(r:Reps K F ds vs):I2 K Y F (upd H p (.lst vs)) σ ρ (some (p,ds)):=by
 have hF:F p=none:=I.sub.free h;have h0:=I.ran.fresh h;have n0:Y.δ₀=none:=by
  cases hd:Y.δ₀ with
  |none=>rfl
  |some q=>
   obtain ⟨a,gs⟩:=q;obtain ⟨es,z⟩:=I.ran.dto.1 a gs hd;cases z
 refine ⟨⟨fun b u e=>by rw[y0 (s0 e hF)];exact I.sub _ _ e,fun a es e=>(by cases e;exact ⟨hF,vs,n3,r⟩),fun b u e f=>by rw[y0 (s0 e h0)];exact I.ran.keep b u e f,I.ran.f0,I.ran.fnew,⟨fun a gs e=>(by rw[n0]at e;cases e),fun a gs e _=>(by cases e;exact h0)⟩⟩,fun j c e=>?_,I.len,I.apart,fun j a o b es e=>?_⟩
 ·have w:=I.env j c e;cases c with
  |no=>trivial
  |val d=>exact w
  |own fs=>
   obtain ⟨b,ws,e1,h1,f1,g1,r1⟩:=w;exact ⟨b,ws,e1,by rw[y0 (s0 h1 h)];exact h1,f1,g1,r1⟩
  |obj C fs=>
   obtain ⟨b,dx,ws,e1,es1,h1,h2,f1,f2,g1,g2,r1⟩:=w;exact ⟨b,dx,ws,e1,es1,by rw[y0 (s0 h1 h)];exact h1,by rw[y0 (s0 h2 h)];exact h2,f1,f2,g1,g2,r1⟩
  |ownD fs=>
   obtain ⟨b,ws,e1,h1,f1,g1,r1⟩:=w;exact ⟨b,ws,e1,by rw[y0 (s0 h1 h)];exact h1,f1,g1,r1⟩
 ·cases e;obtain ⟨u,hu⟩:=I.ownAddr o;exact s0 hu h
noncomputable def r0q(ta:TA2):TS2:=fun E ρ δ=>ta E.xc ρ δ fun ds ρ1 δ1=>δ1=none∧ds.length≤1000∧∀p,E.rt (.ref p) (some (p,ds))
theorem e0w{es:List Expr}{ta:TA2}{lpos:Pos}(ha:PA2 X Y W es ta):PS2 X Y W (.Return (some (.List es lpos)) pos) (r0q ta):=ps2 (d0j (d0e ha.go)) fun E1 σ H ⟨F,ρ,δ,E2,I,h,er⟩=>
 ⟨F,ρ,δ,E2.xc,_,I,h,fun ds vs F1 H1 ρ1 δ1 I1 s1 r1 h1=>⟨o0b (by rw[r1.length];exact h1.2.1),fun p hp=>by
  obtain ⟨rfl,_,h2⟩:=h1;exact er.rt _ _ σ F1 _ ρ1 _ (I1.deck hp r1) s1 (rep_ref.mpr rfl) (h2 p)⟩,er.xc⟩
theorem e2_new{e:Expr}{o:HO}{d:D}(h:PE X e (fun σ H Q=>∀p,H p=none→Q (.ref p) (upd H p o)))(r:∀F p,Rep X.K (upd F p o) d (.ref p)):PE2 X Y W e (t2C d):=pe2 h fun σ H Q ⟨F,ρ,δ,x,q,I,h,k,kx⟩=>fun p hp=>
 k _ _ _ _ ρ δ (I.alloc hp) (I.grow hp) (r F p) h
noncomputable def countQ(xs:List D)(y:D):Nat:=xs.countP fun z=>eqV (toV z) (toV y)
noncomputable def a0o(ta:TE2)(t:TA2):TE2:=fun x ρ δ q=>ta x ρ δ fun d ρ1 δ1=>match d with
 | .lst xs=>t x ρ1 δ1 fun es ρ2 δ2=>(match es with | [y]=>(y7 y&&xs.all y7)=true∧q (.int (countQ xs y:Nat)) ρ2 δ2 |_=>False)
 |_=>False
end
end DL
namespace DL
open PySem PySem.Spec L2
open PySem.W (XC)
section
variable{X:Cx}{Y:Y2}{W:XW}{pos:Pos}
theorem a0n:PE2 X Y W (.Dict [] [] pos) (t2C (.dic [])):=e2_new f0r fun F p=>rep_dic.mpr ⟨p,[],rfl,n3,by unfold RepK;rfl⟩
end
section
variable(K:Frag)
open PySem.W (kitOne kitAny)
theorem ko{n:String}(h:n∈BT):kitOne K (.type n) (.type "bool")=some (n=="bool")∧kitOne K (.type n) (.type "int")=some (n=="int"||n=="bool")∧
 kitOne K (.type n) (.type "list")=some (n=="list")∧kitOne K (.type n) (.type "tuple")=some (n=="tuple")∧kitAny K (.type n) [.type "list",.type "tuple"]=some (n=="list"||n=="tuple"):=kt_all K h
theorem i0f{d:D}(h:TyD K d)(hp:∀C fs,d≠.ins C fs∧d≠.exc C fs):b9 K d (.ty "bool")=some (match d with | .bl _=>true |_=>false):=by
 cases d with
 |non=>exact (ko K (n:="NoneType") (by decide)).1
 |bl b=>exact (ko K (n:="bool") (by decide)).1
 |int b=>exact (ko K (n:="int") (by decide)).1
 |str b=>exact (ko K (n:="str") (by decide)).1
 |lst b=>exact (ko K (n:="list") (by decide)).1
 |tup b=>exact (ko K (n:="tuple") (by decide)).1
 |scr b=>exact h.elim
 |dic b=>exact (ko K (n:="dict") (by decide)).1
 |dwk b=>exact h.elim
 |ins C b=>exact absurd rfl (hp C b).1
 |exc C b=>exact absurd rfl (hp C b).2
 |ref a=>exact h.elim
 |ty a=>exact h.elim
theorem c0q{d:D}(h:TyD K d)(hp:∀C fs,d≠.ins C fs∧d≠.exc C fs):b9 K d (.ty "int")=some (match d with | .bl _=>true | .int _=>true |_=>false):=by
 cases d with
 |non=>exact (ko K (n:="NoneType") (by decide)).2.1
 |bl b=>exact (ko K (n:="bool") (by decide)).2.1
 |int b=>exact (ko K (n:="int") (by decide)).2.1
 |str b=>exact (ko K (n:="str") (by decide)).2.1
 |lst b=>exact (ko K (n:="list") (by decide)).2.1
 |tup b=>exact (ko K (n:="tuple") (by decide)).2.1
 |scr b=>exact h.elim
 |dic b=>exact (ko K (n:="dict") (by decide)).2.1
 |dwk b=>exact h.elim
 |ins C b=>exact absurd rfl (hp C b).1
 |exc C b=>exact absurd rfl (hp C b).2
 |ref a=>exact h.elim
 |ty a=>exact h.elim
theorem e0v{d:D}(h:TyD K d)(hp:∀C fs,d≠.ins C fs∧d≠.exc C fs):b9 K d (.ty "tuple")=some (match d with | .tup _=>true |_=>false):=by
 cases d with
 |non=>exact (ko K (n:="NoneType") (by decide)).2.2.2.1
 |bl b=>exact (ko K (n:="bool") (by decide)).2.2.2.1
 |int b=>exact (ko K (n:="int") (by decide)).2.2.2.1
 |str b=>exact (ko K (n:="str") (by decide)).2.2.2.1
 |lst b=>exact (ko K (n:="list") (by decide)).2.2.2.1
 |tup b=>exact (ko K (n:="tuple") (by decide)).2.2.2.1
 |scr b=>exact h.elim
 |dic b=>exact (ko K (n:="dict") (by decide)).2.2.2.1
 |dwk b=>exact h.elim
 |ins C b=>exact absurd rfl (hp C b).1
 |exc C b=>exact absurd rfl (hp C b).2
 |ref a=>exact h.elim
 |ty a=>exact h.elim
theorem ko_row{d:D}(h:TyD K d)(hp:∀C fs,d≠.ins C fs∧d≠.exc C fs):b9 K d (.tup [.ty "list",.ty "tuple"])=some (match d with | .lst _=>true | .tup _=>true |_=>false):=by
 cases d with
 |non=>exact (ko K (n:="NoneType") (by decide)).2.2.2.2
 |bl b=>exact (ko K (n:="bool") (by decide)).2.2.2.2
 |int b=>exact (ko K (n:="int") (by decide)).2.2.2.2
 |str b=>exact (ko K (n:="str") (by decide)).2.2.2.2
 |lst b=>exact (ko K (n:="list") (by decide)).2.2.2.2
 |tup b=>exact (ko K (n:="tuple") (by decide)).2.2.2.2
 |scr b=>exact h.elim
 |dic b=>exact (ko K (n:="dict") (by decide)).2.2.2.2
 |dwk b=>exact h.elim
 |ins C b=>exact absurd rfl (hp C b).1
 |exc C b=>exact absurd rfl (hp C b).2
 |ref a=>exact h.elim
 |ty a=>exact h.elim
end
noncomputable def f6:D→Bool
 | .non=>true | .bl _=>true | .int _=>true | .str _=>true | .lst _=>true | .tup _=>true | .dic _=>true |_=>false
theorem r0p{K:Frag}{d:D}(h:f6 d=true):TyD K d∧∀C fs,d≠.ins C fs∧d≠.exc C fs:=by
 cases d with
 |scr b=>cases h
 |dwk b=>cases h
 |ins C b=>cases h
 |exc C b=>cases h
 |ref a=>cases h
 |ty a=>cases h
 |_=>exact ⟨trivial,fun C fs=>⟨(by intro z;cases z),(by intro z;cases z)⟩⟩
noncomputable def a4:D→Int→Int→Bool
 | .int i,lo,hi=>decide (lo≤i)&&decide (i≤hi)
 |_,_,_=>false
end DL
namespace DL
open PySem PySem.Spec L2
section
variable{X:Cx}{Y:Y2}{W:XW}{pos:Pos}{a:Expr}{ta:TE2}
theorem e2_gx{x:Str}{n:Int}(hm:∃t,X.mg x=some (.int n t))(hg:Gl X x:=by rfl)(hd:(x==("__debug__":Str))=false:=by decide):PE2 X Y W (.Name x pos) (t2C (.int n)):=by
 obtain ⟨t,hm⟩:=hm;exact e2_gi hm ⟨t,rfl⟩ hg hd
theorem z0z(K:Frag){f:Str}(ha:PE2 X Y W a ta)(hK:X.K=K:=by rfl)(hb:attributeBase a f X.env (eval a X.env)=eval a X.env:=by rfl):PE2 X Y W (.Attribute a f pos) (i0n K f ta):=hK▸e2_fld ha hb
theorem e0u(K:Frag){f:Str}(ha:PE2 X Y W a ta)(hK:X.K=K:=by rfl)(hb:attributeBase a f X.env (eval a X.env)=eval a X.env:=by rfl):PE2 X Y W (.Attribute a f pos) (p0u K f ta):=hK▸a0t ha hb
variable{x:Str}{p:Pos}{e:Expr}{te:TE2}
theorem u0y(K:Frag)(i:Nat){f:Str}{tpos:Pos}(he:PE2 X Y W e te)(hK:X.K=K:=by rfl)(hN:X.N[i]?=some x:=by rfl)(hv:Vis X.env.scope x:=by walk_at "v3")(hd:(x==("__debug__":Str))=false:=by decide)(hcd:(x==("__classdict__":Str))=false:=by decide)
 (hs:swapsWith e (some (.Attribute (.Name x p) f tpos)) pos.line X.env=pure false:=by rfl):PS2 X Y W (.Assign [.Attribute (.Name x p) f tpos] e pos) (p0t K i f te):=hK▸a0s i he hN hv hd hcd hs
variable{D:Addr}{y n:Str}{np:Pos}{b₀:Stmt}{suite:List Stmt}{rest:List ExceptHandler}{ts:TS2}{tr:XTS2}
theorem e0t(K:Frag)(tp:Top X)(d:XHd K D)(hm:X.mg y=some (.ref D))(hs:∀x,PSs2 (X.hdl x) Y W0 (b₀::suite) ts)(hr:PH2 X Y W rest tr)(hK:X.K=K:=by rfl)(hg:Gl X y:=by rfl)(hdb:(y==("__debug__":Str))=false:=by decide):
 PH2 X Y W (.ExceptHandler (some (.Name y np)) none (b₀::suite) pos::rest) (t2H K D ts tr):=by subst hK;exact a0r tp d hm hs hr hg hdb
theorem h2_asK(K:Frag)(i:Nat)(tp:Top X)(d:XHd K D)(hm:X.mg y=some (.ref D))(hN:X.N.Nodup)(hs:∀x,PSs2 (X.hdl x) Y W0 (b₀::suite) ts)(hr:PH2 X Y W rest tr)(hK:X.K=K:=by rfl)(hi:X.N[i]?=some n:=by rfl)(hk:X.env.scope.names.lookup n=some .local:=by rfl)(hg:Gl X y:=by rfl)(hdb:(y==("__debug__":Str))=false:=by decide):
 PH2 X Y W (.ExceptHandler (some (.Name y np)) (some n) (b₀::suite) pos::rest) (k0p K i D ts tr):=by subst hK;exact h2_as i tp d hm hN hs hr hi hk hg hdb
end
end DL
namespace DL
open L2
theorem n0x{α:Type}(l:List α)(k:Nat):atI l (no_index (OfNat.ofNat k))=l[k]?:=by
 have e:(OfNat.ofNat k:Int)=((k:Nat):Int):=rfl;rw[e];unfold atI ixN;rw[if_pos (by omega)];by_cases h:k<l.length
 ·rw[if_pos (by omega)];show l[((k:Nat):Int).toNat]?=_;rw[Int.toNat_natCast]
 ·rw[if_neg (by omega),List.getElem?_eq_none (by omega)];rfl
theorem n0w(n k:Nat):ixN n (no_index (OfNat.ofNat k))=if k<n then some k else none:=by
 have e:(OfNat.ofNat k:Int)=((k:Nat):Int):=rfl;rw[e];unfold ixN;rw[if_pos (by omega)];by_cases h:k<n
 ·rw[if_pos (by omega),if_pos h,Int.toNat_natCast]
 ·rw[if_neg (by omega),if_neg h]
end DL
namespace DL
open PySem PySem.Spec L2
noncomputable def n0v(g:G2)(body:TS2)(E:End2)(rest:En→Dk→Prop)(d:D)(ρ:En)(δ:Dk):Prop:=match g d ρ with
 |some ρ'=>body {E with nx:=rest,ct:=rest,bk:=E.nx} ρ' δ
 |none=>False
theorem r0o{g:G2}{body:TS2}{E:End2}{ρ:En}{δ:Dk}{ds:List D}(P:Nat→En→Dk→Prop)(h0:P 0 ρ δ)
 (step:∀(i:Nat) (d:D) (ρ:En) (δ:Dk) (rest:En→Dk→Prop),ds[i]?=some d→P i ρ δ→(∀ ρ' δ',P (i+1) ρ' δ'→rest ρ' δ')→n0v g body E rest d ρ δ) (fin:∀ ρ δ,P ds.length ρ δ→E.nx ρ δ):forL g body E ds ρ δ:=by
 have key:∀(k i:Nat) (ρ:En) (δ:Dk),i+k=ds.length→P i ρ δ→forL g body E (ds.drop i) ρ δ:=by
  intro k
  induction k with
  |zero=>
   intro i ρ δ hi p;rw[List.drop_eq_nil_of_le (by omega)];have:i=ds.length:=by omega
   subst this;exact fin ρ δ p
  |succ k ih=>
   intro i ρ δ hi p;have hl:i<ds.length:=by omega
   rw[List.drop_eq_getElem_cons hl];have:=step i ds[i] ρ δ (forL g body E (ds.drop (i+1))) (by simp[hl]) p fun ρ' δ' p'=>ih (i+1) ρ' δ' (by omega) p'
   unfold n0v at this;unfold forL;exact this
 have:=key ds.length 0 ρ δ (by omega) h0
 rwa[List.drop_zero]at this
theorem r0n{te:TE2}{js:List Nat}{ρ:En}{q:List D→Dk→Prop}{ds:List D}{acc:List D}{δ:Dk}(P:Nat→List D→Dk→Prop)(h0:P 0 acc δ)
 (step:∀(i:Nat) (d:D) (acc:List D) (δ:Dk) (rest:List D→Dk→Prop),ds[i]?=some d→P i acc δ→(∀acc' δ',P (i+1) acc' δ'→rest acc' δ')→te (fun _ _ _ _=>False) (.val d::capt ρ js) δ fun e _ δ1=>acc.length<1000∧rest (acc++[e]) δ1)
 (fin:∀acc δ,P ds.length acc δ→q acc δ):c8 te js ρ q ds acc δ:=by
 have key:∀(k i:Nat) (acc:List D) (δ:Dk),i+k=ds.length→P i acc δ→c8 te js ρ q (ds.drop i) acc δ:=by
  intro k
  induction k with
  |zero=>
   intro i acc δ hi p;rw[List.drop_eq_nil_of_le (by omega)];have:i=ds.length:=by omega
   subst this;exact fin acc δ p
  |succ k ih=>
   intro i acc δ hi p;have hl:i<ds.length:=by omega
   rw[List.drop_eq_getElem_cons hl];unfold c8;exact step i ds[i] acc δ (fun acc' δ'=>c8 te js ρ q (ds.drop (i+1)) acc' δ') (by simp[hl]) p fun acc' δ' p'=>ih (i+1) acc' δ' (by omega) p'
 have:=key ds.length 0 acc δ (by omega) h0
 rwa[List.drop_zero]at this
theorem p0q{K:Frag}{F:Hp}:∀ns:List Int,Reps K F (ns.map D.int) (ns.map V.int)
 | []=>Reps.nil
 |n::ns=>Reps.cons (rep_int.mpr rfl) (p0q ns)
noncomputable def k0o:Sp2:=fun ds δ q _=>∃ns:List Int,ds=[.scr (ns.map D.int)]∧ns.length≤63∧δ=none∧∀ δ',q (.bl true) δ'
theorem walk2{l:PySem.W.OpenLaw}{k:Nat}{q:Program}{loose:List Str}{XP:(Str→Option Value)→Heap→Prop}{YP:World→Heap→Prop}{d:DefRec}{K:Params→PySem.W.Frag}{x:Str}(hn:l.most=some 63)(hdf:d.params.defaults=[])(hr:Room k callerA)
 (hY:∀(w:World) (h:Heap),YP w h→(K w.params).In h)
 (F:∀(w:World) (mg:Str→Option Value) (fa:Addr) (h:Heap),(K w.params).In h→h.Ns mainGlobals mg→mg d.name=some (.ref fa)→
  ∃fd:FuncData,(∀(s:Shared) (u:Value),BindsTo s fd ⟨[u],[]⟩ [(x,u)])∧∀base:Heap,(K w.params).In base→base.Ns mainGlobals mg→FnOk l.prog w (K w.params) mg base (CX1 l.prog w) k fa fd [x] (upF (K w.params) k0o)):
 PySem.W.WalkO q loose XP YP l.row.toRowW d [] (fun f vs=>PySem.call f vs):=
 L2.walk_of (n:=63) (k:=k) (x:=x) (CX:=fun w=>CX1 l.prog w) (sp:=fun w=>upF (K w.params) k0o) hn (by decide) hdf hr hY F
  (fun w H a ns hl _ hS=>⟨H,[.scr (ns.map D.int)],none,fun d _=>d=.bl true,fun _ _ _=>False,Same.refl H,fun a ds e=>(by cases e),Reps.cons (rep_scr.mpr ⟨a,_,rfl,hS,p0q ns⟩) Reps.nil,⟨ns,rfl,hl,rfl,fun _=>rfl⟩,
   fun d v F' H' δ' R r e=>(by subst e;exact rep_bl.mp r),fun _ _ _ _ _ _ _ _ z=>z⟩)
  fun w H s e s' ⟨_,_,_,_,_,_,_,_,_,_,_,_,_,_,z⟩=>z
end DL
namespace L2
open PySem PySem.Spec PyProof.Rows
section
variable{prog:Program}{w:World}{A:Around}{E:Value→Shared→Prop}{s:Shared}
theorem nx_tup{j t:Addr}{i:Nat}{xs:Array Value}{x:Value}{Q:Value→Shared→Prop}(hj:s.heap.IsTupleIter j t i)(ht:s.heap.IsTuple t xs)(hx:xs[i]?=some x)
 (hQ:∀h',h'.IsTupleIter j t (i+1)→Heap.SameBut j s.heap h'→Q x {s with heap:=h'}):wpAny (model prog w) A (Builtin.SmallTypes.nextOf (.ref j)) Q E s:=by
 obtain ⟨o,ho,hc,hd⟩:=id hj;obtain ⟨ot,hot,_,nt,hdt⟩:=ht;unfold Builtin.SmallTypes.nextOf;refine wpAny_bind (wpAny_callSpecial?_slot (name:=Str.ofString "__next__") hj.typeIs F.slot_tuple_iterator_next (wpAny_call_entry F.slot_tuple_iterator_next hj.typeIs F.entry_tuple_iterator_next ?_ (F.args_tuple_iterator_next_1 _)));show wpAny _ _ (field (.ref j) 0 >>= _) _ _ s;refine wpAny_bind (wpAny_field ho hd (x:=.ref t) rfl ?_);show wpAny _ _ (if ((Value.ref t)==Value.none)=true then _ else _) _ _ s;rw[if_neg (show ¬(((Value.ref t)==Value.none)=true)from Bool.false_ne_true)];show wpAny _ _ (field (.ref j) 1 >>= _) _ _ s;refine wpAny_bind (wpAny_field ho hd (x:=(.int i 0)) rfl ?_);refine wpAny_bind (m:=seqItems? (.ref t)) (wpAny_seqItems hot hdt ?_);simp only[Int.toNat_natCast,hx];refine wpAny_bind (wpAny_setField ho hd (by simp) (wpAny_pure ⟨x,rfl,wpAny_pure (hQ _ ⟨_,Heap.get?_update_self _ ho (Obj.isFreed_of_fields (Obj.data_mapFields hd _)),(Obj.cls_mapFields ..).trans hc,?_⟩ (Heap.SameBut.update ..))⟩));rw[Obj.data_mapFields hd];simp[rawInt]
theorem k0n{j t:Addr}{i:Nat}{xs:Array Value}{Q:Value→Shared→Prop}(hh:A.handled=none)(hj:s.heap.IsTupleIter j t i)(ht:s.heap.IsTuple t xs)(hx:xs[i]?=none)
 (hE:∀h' e,Heap.ExtBut j s.heap h'→(∃o,h'.get? e=some o∧o.cls=.type "StopIteration")→E (.ref e) {s with heap:=h'}):wpAny (model prog w) A (Builtin.SmallTypes.nextOf (.ref j)) Q E s:=by
 obtain ⟨o,ho,hc,hd⟩:=id hj;obtain ⟨ot,hot,_,nt,hdt⟩:=ht;unfold Builtin.SmallTypes.nextOf;refine wpAny_bind (wpAny_callSpecial?_slot (name:=Str.ofString "__next__") hj.typeIs F.slot_tuple_iterator_next (wpAny_call_entry F.slot_tuple_iterator_next hj.typeIs F.entry_tuple_iterator_next ?_ (F.args_tuple_iterator_next_1 _)));show wpAny _ _ (field (.ref j) 0 >>= _) _ _ s;refine wpAny_bind (wpAny_field ho hd (x:=.ref t) rfl ?_);show wpAny _ _ (if ((Value.ref t)==Value.none)=true then _ else _) _ _ s;rw[if_neg (show ¬(((Value.ref t)==Value.none)=true)from Bool.false_ne_true)];show wpAny _ _ (field (.ref j) 1 >>= _) _ _ s;refine wpAny_bind (wpAny_field ho hd (x:=(.int i 0)) rfl ?_);refine wpAny_bind (m:=seqItems? (.ref t)) (wpAny_seqItems hot hdt ?_);simp only[Int.toNat_natCast,hx];refine wpAny_bind (wpAny_rule (wpAny_bind (wpAny_setField ho hd (by simp) (wpAny_bind ?_))));simp only[newExc,newTuple];refine wpAny_bind (wpAny_newObj_type (wpAny_bind (m:=firstArgMember _ _) (wpAny_of_eq (a:=Value.none) (by first |rfl |(simp only[firstArgMember];rfl)) (wpAny_newObj_type ?_ (by size_fits)))) (by size_fits));simp only[raiseNew];refine wpAny_bind (wpAny_handled ?_)
 first |rw[show A.in1.handled=none from hh]|rw[hh]
 exact wpAny_bind (wpAny_pure (wpAny_throw (hE _ _ (((Heap.SameBut.update ..).extBut.push _).push _) ⟨_,Heap.get?_push_size _ rfl,rfl⟩)))
end
theorem i0e{prog:Program}{w:World}{A:Around}(hh:A.handled=none)(j t:Addr)(ne:t≠j)(xs:Array Value):
 Draws prog w A j [j,t] xs.size (fun i v=>xs[i]?=some v) (fun i h=>h.IsTupleIter j t i∧h.IsTuple t xs)where
 live:=fun _ _ st=>let ⟨o,ho,_⟩:=st.1;⟨o,ho⟩
 frame:=fun _ _ _ st k=>⟨st.1.at fun o e=>k j (by simp) o e,let ⟨o,e,r⟩:=st.2;⟨o,k t (by simp) o e,r⟩⟩
 item:=fun i s Q E hi st hQ=>nx_tup st.1 st.2 (x:=xs[i]) (by simp[hi]) fun h' st' sb=>hQ _ h' s.toks (by simp[hi]) ⟨st',let ⟨o,e,r⟩:=st.2;⟨o,sb.extBut _ _ ne e,r⟩⟩ sb
 done:=fun s Q E st hE=>k0n hh st.1 st.2 (by simp) hE
noncomputable def SqAt(b:Bool)(h:Heap)(l:Addr)(xs:Array Value):Prop:=match b with |true=>h.IsTuple l xs |false=>h.IsList l xs
noncomputable def ItAt(b:Bool)(h:Heap)(j l:Addr)(i:Nat):Prop:=match b with |true=>h.IsTupleIter j l i |false=>h.IsListIter j l i
noncomputable def itN(b:Bool):String:=match b with |true=>"tuple_iterator" |false=>"list_iterator"
theorem u0x(b:Bool){prog:Program}{w:World}{A:Around}(hh:A.handled=none)(j l:Addr)(ne:l≠j)(xs:Array Value):
 Draws prog w A j [j,l] xs.size (fun i v=>xs[i]?=some v) (fun i h=>ItAt b h j l i∧SqAt b h l xs):=by
 cases b
 ·exact Draws.list hh j l ne xs
 ·exact i0e hh j l ne xs
theorem ItAt.obj{b:Bool}{h:Heap}{j l:Addr}{i:Nat}(q:ItAt b h j l i):∃o,h.get? j=some o∧o.cls=.type (itN b)∧o.data=.fields #[.ref l,.int i 0]:=by
 cases b
 ·obtain ⟨o,e,c,d⟩:=q;exact ⟨o,e,c,d⟩
 ·obtain ⟨o,e,c,d⟩:=q;exact ⟨o,e,c,d⟩
theorem ItAt.of{b:Bool}{h:Heap}{j l:Addr}{i:Nat}{o:Obj}(e:h.get? j=some o)(c:o.cls=.type (itN b))(d:o.data=.fields #[.ref l,.int i 0]):ItAt b h j l i:=by
 cases b
 ·exact ⟨o,e,c,d⟩
 ·exact ⟨o,e,c,d⟩
theorem ItAt.stay{b:Bool}{h h':Heap}{j l:Addr}{i:Nat}(q:ItAt b h j l i)(k:∀o,h.get? j=some o→h'.get? j=some o):ItAt b h' j l i:=by
 obtain ⟨o,e,c,d⟩:=q.obj;exact .of (k o e) c d
theorem SqAt.obj{b:Bool}{h:Heap}{l:Addr}{xs:Array Value}(q:SqAt b h l xs):∃o,h.get? l=some o∧o.cls=.type (if b=true then "tuple" else "list")∧∃n,o.data=.seq xs n:=by
 cases b
 ·obtain ⟨o,e,c,n,d⟩:=q;exact ⟨o,e,c,n,d⟩
 ·obtain ⟨o,e,c,n,d⟩:=q;exact ⟨o,e,c,n,d⟩
theorem SqAt.stay{b:Bool}{h h':Heap}{l:Addr}{xs:Array Value}(q:SqAt b h l xs)(k:∀o,h.get? l=some o→h'.get? l=some o):SqAt b h' l xs:=by
 cases b
 ·obtain ⟨o,e,c,n,d⟩:=q;exact ⟨o,k o e,c,n,d⟩
 ·obtain ⟨o,e,c,n,d⟩:=q;exact ⟨o,k o e,c,n,d⟩
theorem n0u{b:Bool}{prog:Program}{w:World}{A:Around}{E:Value→Shared→Prop}{s:Shared}{l:Addr}{xs:Array Value}{Q:Value→Shared→Prop}(hl:SqAt b s.heap l xs)
 (h:Q (.ref s.heap.objs.size) {s with heap:=s.heap.push {cls:=.type (itN b),data:=.fields #[.ref l,.int 0 0]}}):wpAny (model prog w) A (pyIter (.ref l)) Q E s:=by
 cases b
 ·exact wpAny_pyIter_list hl h
 ·exact wpAny_pyIter_tuple hl h
end L2
namespace L2
open PySem PySem.Spec PyProof.Rows
open AutoSeq1 (wpAny_loadPart')
section
variable{prog:Program}{w:World}{A:Around}{E:Value→Shared→Prop}{s:Shared}
end
noncomputable abbrev zp1(b:Bool)(h:Heap)(l:Addr):Heap:=h.push {cls:=.type (itN b),data:=.fields #[.ref l,.int 0 0]}
noncomputable abbrev zp2(b b':Bool)(h:Heap)(l l':Addr):Heap:=(zp1 b h l).push {cls:=.type (itN b'),data:=.fields #[.ref l',.int 0 0]}
noncomputable abbrev zp3(b b':Bool)(h:Heap)(l l':Addr):Heap:=(zp2 b b' h l l').push {cls:=.type "tuple",data:=.seq #[.ref h.objs.size,.ref (zp1 b h l).objs.size]}
noncomputable abbrev zp4(b b':Bool)(h:Heap)(l l':Addr):Heap:=(zp3 b b' h l l').push {cls:=.type "tuple",data:=.seq #[.none,.none]}
noncomputable abbrev zp5(b b':Bool)(h:Heap)(l l':Addr):Heap:=(zp4 b b' h l l').push {cls:=.type "zip",data:=.fields #[.none,.bool false,.bool false,.ref (zp2 b b' h l l').objs.size,.ref (zp3 b b' h l l').objs.size]}
theorem e0s(b b':Bool)(l l':Addr)(xs ys:Array Value):
 Meets (Builtin.«zip.__new__» ⟨[.type "zip",.ref l,.ref l'],[]⟩) (fun _ R s=>SqAt b s.heap l xs∧SqAt b' s.heap l' ys∧R (.ok (.ret (.ref (zp4 b b' s.heap l l').objs.size))) {s with heap:=zp5 b b' s.heap l l'}):=
 .of_wp fun prog w A R s h=>by
  obtain ⟨hp,g,d,tk,os⟩:=s;obtain ⟨h1,h2,h⟩:=h;have hsub:=sub_zip;have q1:SqAt b (Shared.heap ⟨hp,g,d,tk,os⟩) l xs:=h1;have q2:SqAt b' (Shared.heap ⟨zp1 b hp l,g,d,tk,os⟩) l' ys:=h2.stay fun o e=>Heap.get?_push_of_some _ e
  wp_walk using n0u q1,n0u q2
  exact ⟨_,rfl,h⟩
section
variable{prog:Program}{w:World}{A:Around}{E:Value→Shared→Prop}{s:Shared}
theorem a0m{b b':Bool}{l l':Addr}{xs ys:Array Value}{Q:Value→Shared→Prop}(h1:SqAt b s.heap l xs)(h2:SqAt b' s.heap l' ys)
 (h:∀h',IsZip h' (s.heap.objs.size+4) (s.heap.objs.size+2) (s.heap.objs.size+3) .none→IsPair h' (s.heap.objs.size+2) (.ref s.heap.objs.size) (.ref (s.heap.objs.size+1))→IsPair h' (s.heap.objs.size+3) .none .none→
  ItAt b h' s.heap.objs.size l 0→ItAt b' h' (s.heap.objs.size+1) l' 0→(∀c o,s.heap.get? c=some o→h'.get? c=some o)→Q (.ref (s.heap.objs.size+4)) {s with heap:=h'}):
 wpAny (model prog w) A (call (.type "zip") [.ref l,.ref l']) Q E s:=by
 refine callType_new F.called_zip (by decide) (F.typeCall_zip_2 _ _) (F.newCall_zip_2 _ _) (fun obj=>F.args_object_init_3 obj _ _) F.entry_zip_new (e0s b b' l l' xs ys) ⟨h1,h2,?_⟩;have z1:(zp1 b s.heap l).objs.size=s.heap.objs.size+1:=Heap.size_push ..;have z2:(zp2 b b' s.heap l l').objs.size=s.heap.objs.size+2:=by rw[Heap.size_push,z1]
 have z3:(zp3 b b' s.heap l l').objs.size=s.heap.objs.size+3:=by rw[Heap.size_push,z2]
 have z4:(zp4 b b' s.heap l l').objs.size=s.heap.objs.size+4:=by rw[Heap.size_push,z3]
 have u:∀{h:Heap} {o} {c u},h.get? c=some u→(h.push o).get? c=some u:=fun e=>Heap.get?_push_of_some _ e
 have g5:(zp5 b b' s.heap l l').get? (zp4 b b' s.heap l l').objs.size=some _:=Heap.get?_push_size _ rfl;have g4:(zp5 b b' s.heap l l').get? (zp3 b b' s.heap l l').objs.size=some _:=u (Heap.get?_push_size _ rfl);have g3:(zp5 b b' s.heap l l').get? (zp2 b b' s.heap l l').objs.size=some _:=u (u (Heap.get?_push_size _ rfl));have g2:(zp5 b b' s.heap l l').get? (zp1 b s.heap l).objs.size=some _:=u (u (u (Heap.get?_push_size _ rfl)));have g1:(zp5 b b' s.heap l l').get? s.heap.objs.size=some _:=u (u (u (u (Heap.get?_push_size _ rfl))));show _∧_;rw[z2,z3,z4]at g5;rw[z1,z2]at g3;rw[z3]at g4;rw[z1]at g2;rw[z4];exact ⟨⟨_,g5,rfl⟩,h _ g5 g3 g4 (.of g1 rfl rfl) (.of g2 rfl rfl) fun c o x=>u (u (u (u (u x))))⟩
structure ZA(z TI TO j1 j2:Addr):Prop where
 a:TI≠z
 b:TO≠z
 c:j1≠z
 d:j2≠z
 e:TI≠TO
 f:TI≠j1
 g:TI≠j2
 h:TO≠j1
 i:TO≠j2
 j:j1≠j2
theorem a0l{z TI TO j1 j2:Addr}{f1 f2:List Addr}{n1 n2 k:Nat}{P1 P2:Nat→Value→Prop}{S1 S2:Nat→Heap→Prop}{a0 b0:Value}{Q:Value→Shared→Prop}(D1:Draws prog w A j1 f1 n1 P1 S1)(D2:Draws prog w A j2 f2 n2 P2 S2)
 (Z:ZA z TI TO j1 j2) (o1:∀c∈f1,c≠z∧c≠TO∧c≠j2) (o2:∀c∈f2,c≠z∧c≠TO∧c≠j1)
 (hz:IsZip s.heap z TI TO .none) (hTI:IsPair s.heap TI (.ref j1) (.ref j2)) (hTO:IsPair s.heap TO a0 b0) (s1:S1 k s.heap) (s2:S2 k s.heap) (l1:k<n1) (l2:k<n2)
 (hQ:∀x y h' tk,P1 k x→P2 k y→IsZip h' z TI TO (rawInt s.heap.objs.size)→IsPair h' TO x y→S1 (k+1) h'→S2 (k+1) h'→IsPair h' s.heap.objs.size x y→
  (∀c o,c≠z→c≠TO→c≠j1→c≠j2→s.heap.get? c=some o→h'.get? c=some o)→Q (.ref s.heap.objs.size) {s with heap:=h',toks:=tk}):
 wpAny (model prog w) A (Builtin.«zip.__next__» ⟨[.ref z],[]⟩) (fun fin s'=>∃v,fin=.done (.ret v)∧Q v s') E s:=by
 obtain ⟨hp,ge,dr,tk0,os⟩:=s;show wpAny _ _ (field (.ref z) 2 >>= _) _ _ _;refine wpAny_bind (wpAny_field hz rfl (x:=.bool false) rfl ?_);show wpAny _ _ (field (.ref z) 3 >>= _) _ _ _;refine wpAny_bind (wpAny_field hz rfl (x:=.ref TI) rfl (wpAny_bind (wpAny_seqItems hTI rfl ?_)));show wpAny _ _ (Builtin.SmallTypes.ownedTupleIsFree (.ref z) >>= _) _ _ _;refine wpAny_bind ?_;unfold Builtin.SmallTypes.ownedTupleIsFree;refine wpAny_bind (wpAny_field hz rfl (x:=.none) rfl (wpAny_pure ?_));simp only[if_true];refine wpAny_bind (wpAny_rule (wpAny_bind (wpAny_field hz rfl (x:=.ref TO) rfl (wpAny_bind (wpAny_setField_rec hz (by simp) fun h₁ hz₁ hs₁=>?_)))));replace hz₁:IsZip h₁ z TI TO .ellipsis:=hz₁;replace hs₁:Heap.SameBut z hp h₁:=hs₁;refine wpAny_bind ?_;simp only[List.zipIdx_cons,List.zipIdx_nil,List.forIn_cons,List.forIn_nil];refine wpAny_bind (wpAny_bind (wpAny_onRaise ?_));show wpAny _ _ (Builtin.SmallTypes.nextOf (.ref j1) >>= _) _ _ _;have s1₁:S1 k h₁:=D1.frame _ _ _ s1 fun c hc o e=>hs₁.extBut c o (o1 c hc).1 e
 refine wpAny_bind (D1.item k ⟨h₁,ge,dr,tk0,os⟩ _ _ l1 s1₁ fun x h₂ t₂ px s1₂ hs₂=>wpAny_pure ?_);replace hs₂:Heap.SameBut j1 h₁ h₂:=hs₂;have hTO₂:IsPair h₂ TO a0 b0:=hs₂.extBut _ _ Z.h (hs₁.extBut _ _ Z.b hTO);refine wpAny_bind (wpAny_seqItems hTO₂ rfl (wpAny_bind (wpAny_updateSeq_pair hTO₂ fun h₃ hTO₃ hs₃=>?_)));replace hTO₃:IsPair h₃ TO x b0:=hTO₃;replace hs₃:Heap.SameBut TO h₂ h₃:=hs₃;refine wpAny_bind (wpAny_letGo (wpAny_pure (wpAny_bind (wpAny_bind (wpAny_onRaise ?_)))));show wpAny _ _ (Builtin.SmallTypes.nextOf (.ref j2) >>= _) _ _ _;have s2₃:S2 k h₃:=D2.frame _ _ _ s2 fun c hc o e=>hs₃.extBut c o (o2 c hc).2.1 (hs₂.extBut c o (o2 c hc).2.2 (hs₁.extBut c o (o2 c hc).1 e))
 refine wpAny_bind (D2.item k ⟨h₃,ge,dr,t₂,os⟩ _ _ l2 s2₃ fun y h₄ t₄ py s2₄ hs₄=>wpAny_pure ?_);replace hs₄:Heap.SameBut j2 h₃ h₄:=hs₄;have hTO₄:IsPair h₄ TO x b0:=hs₄.extBut _ _ Z.i hTO₃;refine wpAny_bind (wpAny_seqItems hTO₄ rfl (wpAny_bind (wpAny_updateSeq_pair hTO₄ fun h₅ hTO₅ hs₅=>?_)));replace hTO₅:IsPair h₅ TO x y:=hTO₅;replace hs₅:Heap.SameBut TO h₄ h₅:=hs₅;refine wpAny_bind (wpAny_letGo (wpAny_pure (wpAny_pure (wpAny_bind (wpAny_seqItems hTO₅ rfl (wpAny_bind (wpAny_newTuple ?_)))))));have hsz:h₅.objs.size=hp.objs.size:=by rw[hs₅.1,hs₄.1,hs₃.1,hs₂.1,hs₁.1]
 have hz₅:IsZip h₅ z TI TO .ellipsis:=hs₅.extBut _ _ Z.b.symm (hs₄.extBut _ _ Z.d.symm (hs₃.extBut _ _ Z.b.symm (hs₂.extBut _ _ Z.c.symm hz₁)));have hk₅:∀c o,c≠z→c≠TO→c≠j1→c≠j2→hp.get? c=some o→h₅.get? c=some o:=fun c o c1 c2 c3 c4 e=>
  hs₅.extBut _ _ c2 (hs₄.extBut _ _ c4 (hs₃.extBut _ _ c2 (hs₂.extBut _ _ c3 (hs₁.extBut _ _ c1 e))))
 have hzlt:z<h₅.objs.size:=Heap.lt_size hz₅;have s1₅:S1 (k+1) h₅:=D1.frame _ _ _ s1₂ fun c hc o e=>hs₅.extBut c o (o1 c hc).2.1 (hs₄.extBut c o (o1 c hc).2.2 (hs₃.extBut c o (o1 c hc).2.1 e))
 have s2₅:S2 (k+1) h₅:=D2.frame _ _ _ s2₄ fun c hc o e=>hs₅.extBut c o (o2 c hc).2.1 e
 show wpAny _ _ (Builtin.SmallTypes.ownedTupleHandOut (.ref z) (.ref h₅.objs.size) >>= _) _ _ _;refine wpAny_bind ?_;unfold Builtin.SmallTypes.ownedTupleHandOut;have hz₆:IsZip (h₅.push {cls:=.type "tuple",data:=.seq #[x,y]}) z TI TO .ellipsis:=Heap.get?_push_of_some _ hz₅;refine wpAny_bind (wpAny_setField_rec hz₆ (by simp) fun h₇ hz₇ hs₇=>?_);replace hz₇:IsZip h₇ z TI TO (rawInt h₅.objs.size):=hz₇;refine wpAny_setField_rec hz₇ (by simp) fun h₈ hz₈ hs₈=>?_
 replace hz₈:IsZip h₈ z TI TO (rawInt h₅.objs.size):=hz₈;have up:∀c o,c≠z→h₅.get? c=some o→h₈.get? c=some o:=fun c o c1 e=>hs₈.extBut _ _ c1 (hs₇.extBut _ _ c1 (Heap.get?_push_of_some _ e))
 have hT₈:IsPair h₈ h₅.objs.size x y:=hs₈.extBut _ _ (Nat.ne_of_gt hzlt) (hs₇.extBut _ _ (Nat.ne_of_gt hzlt) (Heap.get?_push_size _ rfl));rw[hsz]at hz₈ hT₈;refine wpAny_pure ⟨_,rfl,?_⟩;show Q (.ref h₅.objs.size) _;rw[hsz];exact hQ x y h₈ t₄ px py hz₈ (up _ _ Z.b hTO₅) (D1.frame _ _ _ s1₅ fun c hc o e=>up c o (o1 c hc).1 e) (D2.frame _ _ _ s2₅ fun c hc o e=>up c o (o2 c hc).1 e) hT₈ fun c o c1 c2 c3 c4 e=>up c o c1 (hk₅ c o c1 c2 c3 c4 e)
end
end L2
namespace L2
open PySem PySem.Spec PyProof.Rows
section
variable{prog:Program}{w:World}{A:Around}{E:Value→Shared→Prop}{s:Shared}
theorem zp_end{z TI TO j1 j2:Addr}{f1 f2:List Addr}{n1 n2 k:Nat}{P1 P2:Nat→Value→Prop}{S1 S2:Nat→Heap→Prop}{a0 b0:Value}{Q:Fin→Shared→Prop}(D1:Draws prog w A j1 f1 n1 P1 S1)(D2:Draws prog w A j2 f2 n2 P2 S2)
 (Z:ZA z TI TO j1 j2) (o1:∀c∈f1,c≠z∧c≠TO∧c≠j2) (o2:∀c∈f2,c≠z∧c≠TO∧c≠j1)
 (hz:IsZip s.heap z TI TO .none) (hTI:IsPair s.heap TI (.ref j1) (.ref j2)) (hTO:IsPair s.heap TO a0 b0) (s1:S1 k s.heap) (s2:S2 k s.heap) (le:k=n1∨(k<n1∧k=n2))
 (hE:∀h' e tk,(∀c o,c≠z→c≠TO→c≠j1→c≠j2→s.heap.get? c=some o→h'.get? c=some o)→(∃o,h'.get? e=some o∧o.cls=.type "StopIteration")→E (.ref e) {s with heap:=h',toks:=tk}):
 wpAny (model prog w) A (Builtin.«zip.__next__» ⟨[.ref z],[]⟩) Q E s:=by
 obtain ⟨hp,ge,dr,tk0,os⟩:=s;show wpAny _ _ (field (.ref z) 2 >>= _) _ _ _;refine wpAny_bind (wpAny_field hz rfl (x:=.bool false) rfl ?_);show wpAny _ _ (field (.ref z) 3 >>= _) _ _ _;refine wpAny_bind (wpAny_field hz rfl (x:=.ref TI) rfl (wpAny_bind (wpAny_seqItems hTI rfl ?_)));show wpAny _ _ (Builtin.SmallTypes.ownedTupleIsFree (.ref z) >>= _) _ _ _;refine wpAny_bind ?_;unfold Builtin.SmallTypes.ownedTupleIsFree;refine wpAny_bind (wpAny_field hz rfl (x:=.none) rfl (wpAny_pure ?_));simp only[if_true];refine wpAny_bind (wpAny_rule (wpAny_bind (wpAny_field hz rfl (x:=.ref TO) rfl (wpAny_bind (wpAny_setField_rec hz (by simp) fun h₁ hz₁ hs₁=>?_)))));replace hz₁:IsZip h₁ z TI TO .ellipsis:=hz₁;replace hs₁:Heap.SameBut z hp h₁:=hs₁;refine wpAny_bind ?_;simp only[List.zipIdx_cons,List.zipIdx_nil,List.forIn_cons,List.forIn_nil];refine wpAny_bind (wpAny_bind (wpAny_onRaise ?_));show wpAny _ _ (Builtin.SmallTypes.nextOf (.ref j1) >>= _) _ _ _;have s1₁:S1 k h₁:=D1.frame _ _ _ s1 fun c hc o e=>hs₁.extBut c o (o1 c hc).1 e
 rcases le with rfl |⟨l1,rfl⟩
 ·refine wpAny_bind (D1.done ⟨h₁,ge,dr,tk0,os⟩ _ _ s1₁ fun h₂ e hs₂ ⟨oe,hoe,hce⟩=>?_);replace hs₂:Heap.ExtBut j1 h₁ h₂:=hs₂;have hz₂:IsZip h₂ z TI TO .ellipsis:=hs₂ _ _ Z.c.symm hz₁;have hez:e≠z:=fun q=>by subst q;rw[hz₂]at hoe;cases hoe;simp at hce
  refine wpAny_setField_rec hz₂ (by simp) fun h₃ _ hs₃=>hE h₃ e tk0 (fun c o c1 _ c3 _ q=>hs₃.extBut _ _ c1 (hs₂ _ _ c3 (hs₁.extBut _ _ c1 q))) ⟨oe,hs₃.extBut _ _ hez hoe,hce⟩
 ·refine wpAny_bind (D1.item k ⟨h₁,ge,dr,tk0,os⟩ _ _ l1 s1₁ fun x h₂ t₂ px s1₂ hs₂=>wpAny_pure ?_);replace hs₂:Heap.SameBut j1 h₁ h₂:=hs₂;have hTO₂:IsPair h₂ TO a0 b0:=hs₂.extBut _ _ Z.h (hs₁.extBut _ _ Z.b hTO);refine wpAny_bind (wpAny_seqItems hTO₂ rfl (wpAny_bind (wpAny_updateSeq_pair hTO₂ fun h₃ hTO₃ hs₃=>?_)));replace hs₃:Heap.SameBut TO h₂ h₃:=hs₃;refine wpAny_bind (wpAny_letGo (wpAny_pure (wpAny_bind (wpAny_bind (wpAny_onRaise ?_)))));show wpAny _ _ (Builtin.SmallTypes.nextOf (.ref j2) >>= _) _ _ _;have s2₃:S2 k h₃:=D2.frame _ _ _ s2 fun c hc o e=>hs₃.extBut c o (o2 c hc).2.1 (hs₂.extBut c o (o2 c hc).2.2 (hs₁.extBut c o (o2 c hc).1 e))
  refine wpAny_bind (D2.done ⟨h₃,ge,dr,t₂,os⟩ _ _ s2₃ fun h₄ e hs₄ ⟨oe,hoe,hce⟩=>?_);replace hs₄:Heap.ExtBut j2 h₃ h₄:=hs₄;have hz₄:IsZip h₄ z TI TO .ellipsis:=hs₄ _ _ Z.d.symm (hs₃.extBut _ _ Z.b.symm (hs₂.extBut _ _ Z.c.symm hz₁));have hez:e≠z:=fun q=>by subst q;rw[hz₄]at hoe;cases hoe;simp at hce
  refine wpAny_setField_rec hz₄ (by simp) fun h₅ _ hs₅=>hE h₅ e t₂ (fun c o c1 c2 c3 c4 q=>hs₅.extBut _ _ c1 (hs₄ _ _ c4 (hs₃.extBut _ _ c2 (hs₂.extBut _ _ c3 (hs₁.extBut _ _ c1 q))))) ⟨oe,hs₅.extBut _ _ hez hoe,hce⟩
end
theorem Inv.turnedL{X:Cx}{pins:List (Addr×Obj)}{σ:List (Option V)}{H:Hp}{s:Shared}{h':Heap}{t':Nat}{ch:List Addr}(I:Inv X pins σ H s)(k:∀b o,b∉ch→s.heap.get? b=some o→h'.get? b=some o)(hf:∀b∈ch,FpOk X pins H b):
 Inv X pins σ H {s with heap:=h',toks:=t'}:=by
 have nit:∀b u,H b=some u→b∉ch:=fun b u e z=>by rw[(hf b z).1]at e;cases e
 refine I.step (g':=s.gens) (d':=s.drawn) (ch:=ch) (fun b hb=>?_) (fun b o _ _ hc e _=>k b o hc e) (fun b o _ _ hc e _=>⟨o.slots,k b o hc e⟩) (fun _ _ _ _ n=>n)
  (fun b o hc e=>⟨o,k b o hc e⟩) (fun _ _ e=>e) (fun _ _ _ e=>e) (fun b ps e=>⟨#[],by rw[e];simp⟩) (fun m hm=>?_) (fun b u e=>?_) I.bare
 ·obtain ⟨_,f1,_,f3,f4,f5⟩:=hf b hb;exact ⟨f3,f1,f4,f5⟩
 ·obtain ⟨o,es,ep,ho,r⟩:=hm;exact ⟨o,es,ep,k _ o (fun z=>(hf _ z).2.1 rfl) ho,r⟩
 ·refine (I.hok b u e).stay (fun c v hc q=>k c v ?_ q) (fun _ q=>q) fun _ _ q=>q
  rcases hc with z |z
  ·rw[z];exact nit b u e
  ·exact nit c _ z
noncomputable def Sq(K:PySem.W.Frag)(b:Bool)(H:Hp)(a:Addr)(xs:List V):Prop:=match b with |true=>SqT K H a xs |false=>SqL K H a xs
theorem Inv.sq{b:Bool}{X:Cx}{pins:List (Addr×Obj)}{σ:List (Option V)}{H:Hp}{s:Shared}{a:Addr}{xs:List V}(I:Inv X pins σ H s)(h:Sq X.K b H a xs):∃its:List Value,Vals xs its∧SqAt b s.heap a its.toArray∧xs.length≤sizeLine:=by
 cases b
 ·obtain ⟨its,r,p,z⟩:=I.list h;exact ⟨its,r,p.isList,z⟩
 ·obtain ⟨its,r,p,z⟩:=I.tuple h;exact ⟨its,r,p,z⟩
theorem Inv.sq_inj{b:Bool}{X:Cx}{pins:List (Addr×Obj)}{σ:List (Option V)}{H:Hp}{s:Shared}{a:Addr}{xs ys:List V}(I:Inv X pins σ H s)(h:Sq X.K b H a xs)(h':Sq X.K b H a ys):xs=ys:=by
 cases b
 ·exact I.list_inj h h'
 ·exact I.tuple_inj h h'
noncomputable def Itz(K:PySem.W.Frag)(b b':Bool)(a a':Addr):It:=
 ⟨fun i H=>∃xs ys x y,Sq K b H a xs∧xs[i]?=some x∧Sq K b' H a' ys∧ys[i]?=some y,
  fun i H v H'=>∃p x y,H p=none∧v=.ref p∧H'=upd H p (.tup [x,y])∧(∀xs,Sq K b H a xs→xs[i]?=some x)∧∀ys,Sq K b' H a' ys→ys[i]?=some y,
  fun i H=>∃xs ys,Sq K b H a xs∧Sq K b' H a' ys∧(xs.length=i∨(i<xs.length∧ys.length=i))⟩
noncomputable def zipT(b b':Bool)(a a' z TI TO j1 j2:Addr)(i:Nat)(h:Heap):Prop:=IsZip h z TI TO .none∧IsPair h TI (.ref j1) (.ref j2)∧(∃u v,IsPair h TO u v)∧ItAt b h j1 a i∧ItAt b' h j2 a' i
theorem e0r{P:Program}{w:World}{K:PySem.W.Frag}{elts:List Expr}{x1}{pos:Pos}(b b':Bool)(a a' z TI TO j1 j2:Addr)(Z:ZA z TI TO j1 j2)(na:a≠z∧a≠TO∧a≠j1∧a≠j2)(na':a'≠z∧a'≠TO∧a'≠j1∧a'≠j2):
 Turn P w K (.Tuple elts x1 pos) (Itz K b b' a a') [z,TI,TO,j1,j2] z (zipT b b' a a' z TI TO j1 j2)where
 mem:=by simp
 obj:=fun i h st c hc=>by
  obtain ⟨hz,hTI,⟨u,v,hTO⟩,h1,h2⟩:=st;have hc':c=z∨c=TI∨c=TO∨c=j1∨c=j2:=by simpa using hc
  rcases hc' with rfl |rfl |rfl |rfl |rfl
  ·exact ⟨_,hz,fun v q=>by simp at q⟩
  ·exact ⟨_,hTI,fun v q=>by simp at q⟩
  ·exact ⟨_,hTO,fun v q=>by simp at q⟩
  ·obtain ⟨o,e,_,d⟩:=h1.obj;exact ⟨o,e,fun v q=>by rw[d]at q;cases q⟩
  ·obtain ⟨o,e,_,d⟩:=h2.obj;exact ⟨o,e,fun v q=>by rw[d]at q;cases q⟩
 keep:=fun i h h' st k=>by
  obtain ⟨hz,hTI,⟨u,v,hTO⟩,h1,h2⟩:=st;exact ⟨k z (by simp) _ hz,k TI (by simp) _ hTI,⟨u,v,k TO (by simp) _ hTO⟩,h1.stay fun o e=>k j1 (by simp) o e,h2.stay fun o e=>k j2 (by simp) o e⟩
 item:=by
  intro X hP hw hK hc i pins s σ H E I hf st hg;subst hP hw hK;obtain ⟨xs,ys,x,y,q1,e1,q2,e2⟩:=hg;obtain ⟨its1,r1,p1,z1⟩:=I.sq q1;obtain ⟨its2,r2,p2,z2⟩:=I.sq q2;obtain ⟨u1,g1,v1⟩:=r1.get e1;obtain ⟨u2,g2,v2⟩:=r2.get e2;obtain ⟨hz,hTI,⟨u,v,hTO⟩,h1,h2⟩:=st;have l1:=(List.getElem?_eq_some_iff.mp g1).1;have l2:=(List.getElem?_eq_some_iff.mp g2).1;have hh:X.A.in1.handled=none:=I.ok.hd hc;have D1:=u0x b (prog:=X.prog) (w:=X.w) hh j1 a na.2.2.1 its1.toArray;have D2:=u0x b' (prog:=X.prog) (w:=X.w) hh j2 a' na'.2.2.2 its2.toArray;have hT:s.TypeIs (.ref z) "zip":=⟨_,hz,rfl⟩;unfold pyNext;refine wpAny_bind (wpAny_attempt (wpAny_callSpecial?_slot (name:=Str.ofString "__next__") hT F.slot_zip_next (wpAny_call_entry F.slot_zip_next hT F.entry_zip_next
   (a0l D1 D2 Z (fun c hc=>?_) (fun c hc=>?_) hz hTI hTO ⟨h1,p1⟩ ⟨h2,p2⟩ (by simpa using l1) (by simpa using l2) fun x' y' h' tk px py hz' hTO' st1 st2 hT' kk=>wpAny_pure ⟨_,rfl,?_⟩) (F.args_zip_next_1 _))))
  ·have:c=j1∨c=a:=by simpa using hc
   rcases this with rfl |rfl
   ·exact ⟨Z.c,Z.h.symm,Z.j⟩
   ·exact ⟨na.1,na.2.1,na.2.2.2⟩
  ·have:c=j2∨c=a':=by simpa using hc
   rcases this with rfl |rfl
   ·exact ⟨Z.d,Z.i.symm,Z.j.symm⟩
   ·exact ⟨na'.1,na'.2.1,na'.2.2.1⟩
  have ex:x'=u1:=by
   have px':its1.toArray[i]?=some x':=px;rw[List.getElem?_toArray,g1]at px';exact (Option.some.inj px').symm
  have ey:y'=u2:=by
   have py':its2.toArray[i]?=some y':=py;rw[List.getElem?_toArray,g2]at py';exact (Option.some.inj py').symm
  subst ex ey;refine wpAny_letOwnedTupleGo_zip (s:={s with heap:=h',toks:=tk}) hz' fun h₂ hz₂ hs₂=>?_
  replace hs₂:Heap.SameBut z h' h₂:=hs₂;have hfr:H s.heap.objs.size=none:=I.hok.fresh (Nat.le_refl _);have Il:Inv X pins σ (upd H s.heap.objs.size (.tup [x,y])) {s with heap:=s.heap.push {cls:=.type "tuple",data:=.seq #[x',y']}}:=I.laid (t':=s.toks) (fun b u e=>Heap.get?_push_of_some _ e) (Nat.le_refl _)
   ⟨by show 2≤sizeLine;decide,[x',y'],.cons v1 (.cons v2 .nil),⟨_,Heap.get?_push_size _ rfl,rfl,⟨_,rfl⟩,rfl⟩⟩
  have lt:∀{c o},s.heap.get? c=some o→c≠s.heap.objs.size:=fun e=>Nat.ne_of_lt (Heap.lt_size e)
  have nT:∀c∈[z,TI,TO,j1,j2],c≠s.heap.objs.size:=fun c hc=>by
   have hc':c=z∨c=TI∨c=TO∨c=j1∨c=j2:=by simpa using hc
   rcases hc' with rfl |rfl |rfl |rfl |rfl
   ·exact lt hz
   ·exact lt hTI
   ·exact lt hTO
   ·obtain ⟨o,e,_⟩:=h1.obj;exact lt e
   ·obtain ⟨o,e,_⟩:=h2.obj;exact lt e
  have hn2:∀c∈[z,TI,TO,j1,j2],upd H s.heap.objs.size (.tup [x,y]) c=none:=fun c hc=>by rw[y0 (nT c hc)];exact (hf c hc).1
  have If:Inv X pins σ (upd H s.heap.objs.size (.tup [x,y])) {s with heap:=h₂,toks:=tk}:=Inv.turnedL (s:={s with heap:=s.heap.push {cls:=.type "tuple",data:=.seq #[x',y']}}) (ch:=[z,TI,TO,j1,j2]) (h':=h₂) (t':=tk) Il (fun c o hc e=>by
   have hc':c≠z∧c≠TI∧c≠TO∧c≠j1∧c≠j2:=by simpa using hc
   rcases Heap.get?_push_cases e with ⟨rfl,rfl⟩|e
   ·exact hs₂.extBut _ _ hc'.1 hT'
   ·exact hs₂.extBut _ _ hc'.1 (kk c o hc'.1 hc'.2.2.1 hc'.2.2.2.1 hc'.2.2.2.2 e)) fun c hc=>⟨hn2 c hc,(hf c hc).2⟩
  refine ⟨.ref s.heap.objs.size,_,If,rfl,⟨s.heap.objs.size,x,y,hfr,rfl,rfl,fun zs hq=>by rw[I.sq_inj hq q1];exact e1,fun zs hq=>by rw[I.sq_inj hq q2];exact e2⟩,?_,hn2⟩;exact ⟨hz₂,hs₂.extBut _ _ Z.a (kk _ _ Z.a Z.e Z.f Z.g hTI),⟨_,_,hs₂.extBut _ _ Z.b hTO'⟩,st1.1.stay fun o e=>hs₂.extBut _ _ Z.c e,st2.1.stay fun o e=>hs₂.extBut _ _ Z.d e⟩
 done:=by
  intro X hP hw hK hc i pins s σ H E I hf st hg;subst hP hw hK;obtain ⟨xs,ys,q1,q2,le⟩:=hg;obtain ⟨its1,r1,p1,z1⟩:=I.sq q1;obtain ⟨its2,r2,p2,z2⟩:=I.sq q2;obtain ⟨hz,hTI,⟨u,v,hTO⟩,h1,h2⟩:=st;have hh:X.A.in1.handled=none:=I.ok.hd hc;have D1:=u0x b (prog:=X.prog) (w:=X.w) hh j1 a na.2.2.1 its1.toArray;have D2:=u0x b' (prog:=X.prog) (w:=X.w) hh j2 a' na'.2.2.2 its2.toArray;have hT:s.TypeIs (.ref z) "zip":=⟨_,hz,rfl⟩;have len1:=r1.length;have len2:=r2.length;unfold pyNext;refine wpAny_bind (wpAny_attempt (wpAny_callSpecial?_slot (name:=Str.ofString "__next__") hT F.slot_zip_next (wpAny_call_entry F.slot_zip_next hT F.entry_zip_next
   (zp_end D1 D2 Z (fun c hc=>?_) (fun c hc=>?_) hz hTI hTO ⟨h1,p1⟩ ⟨h2,p2⟩ ?_ fun h' e tk kk ⟨o,ho,hco⟩=>?_) (F.args_zip_next_1 _))))
  ·have:c=j1∨c=a:=by simpa using hc
   rcases this with rfl |rfl
   ·exact ⟨Z.c,Z.h.symm,Z.j⟩
   ·exact ⟨na.1,na.2.1,na.2.2.2⟩
  ·have:c=j2∨c=a':=by simpa using hc
   rcases this with rfl |rfl
   ·exact ⟨Z.d,Z.i.symm,Z.j.symm⟩
   ·exact ⟨na'.1,na'.2.1,na'.2.2.1⟩
  ·simp only[List.size_toArray];omega
  ·refine wpAny_bind (wpAny_isInstance (T:="StopIteration") (b:=true) ⟨o,ho,hco⟩ isSubtype_stop (wpAny_pure ⟨rfl,?_⟩));exact I.turnedL (ch:=[z,TI,TO,j1,j2]) (h':=h') (t':=tk) (fun c o hc e=>by
    have hc':c≠z∧c≠TI∧c≠TO∧c≠j1∧c≠j2:=by simpa using hc
    exact kk c o hc'.1 hc'.2.2.1 hc'.2.2.2.1 hc'.2.2.2.2 e) hf
 self:=fun A i s Q E st h=>wpAny_pyIter_zip st.1 h
end L2
namespace L2
open PySem PySem.Spec PyProof.Rows
theorem bt_zip:bootBuiltins "zip"=some (.type "zip"):=by decide +kernel
end L2
namespace L2
open PySem PySem.Spec PyProof.Rows
theorem p0p{prog:Program}{w:World}{A:Around}{R:Result→Shared→Prop}{s:Shared}{elt target iter:Expr}{ifs:List Expr}{scope:Scope}{pos:Pos}{it acc:Value}{env:Env}(I:Nat→Shared→Prop)
 (turn:∀n s,I n s→wpAny (model prog w) A (pyNext it) (fun r s₁=>match r with
  |none=>R (.ok .next) s₁
  |some v=>wpAny (model prog w) A (letOwnedTupleGo target it v) (fun _ s₁'=>wpAny (model prog w) A (assign target env v) (fun _ s₂=>
   wpAny (model prog w) A (forIn ifs true fun c r=>if r=true then do let ok←isTrue c env (eval c env);pure (ForInStep.yield ok)else pure (ForInStep.yield r)) (fun ok s₃=>
    if ok=true then wpAny (model prog w) A (eval elt env) (fun x s₄=>wpAny (model prog w) A (call (.builtin "list.append") [acc,x]) (fun _ s₅=>∃m,m<n∧I m s₅) (fun _ _=>False) s₄) (fun _ _=>False) s₃
    else ∃m,m<n∧I m s₃) (fun _ _=>False) s₂) (fun _ _=>False) s₁') (fun _ _=>False) s₁) (fun _ _=>False) s)
 (n:Nat) (h:I n s):codeAny (model prog w) A (.compLoop (.ListComp elt [⟨target,iter,ifs,0⟩] scope pos) 0 it acc env) R s:=by
 refine codeAny_loop rfl I (fun n s hI=>?_) n h;show wpAny _ _ ((compTurn (.ListComp elt [⟨target,iter,ifs,0⟩] scope pos) 0 it acc env).onRaise (fun y=>do noteFrame y env;theTreesLotGoes y)) _ _ s;refine wpAny_noted ?_;rw[compTurn_list];refine wpAny_bind (wpAny_standAt (wpAny_bind (wpAny_mono (turn n s hI) (fun r s₁ h₁=>?_) fun _ _ z=>z.elim)));cases r with
 |none=>exact wpAny_pure h₁
 |some v=>
  refine wpAny_bind (wpAny_mono h₁ (fun _ s₁' h₁'=>?_) fun _ _ z=>z.elim);refine wpAny_bind (wpAny_mono h₁' (fun _ s₂ h₂=>wpAny_bind (wpAny_mono h₂ (fun ok s₃ h₃=>?_) fun _ _ z=>z.elim)) fun _ _ z=>z.elim);cases ok with
  |false=>exact wpAny_pure ⟨rfl,h₃⟩
  |true=>exact wpAny_bind (wpAny_bind (wpAny_mono h₃ (fun x s₄ h₄=>wpAny_bind (wpAny_mono h₄ (fun _ s₅ h₅=>wpAny_pure (wpAny_pure ⟨rfl,h₅⟩)) fun _ _ z=>z.elim)) fun _ _ z=>z.elim))
noncomputable def Cx.compM(X:Cx)(xs:List Str)(js:List Nat)(scope:Scope)(cl:List (Str×Addr))(C:Addr)(s₀:Shared)(H₀:Hp)(fp:List Addr):Cx:=
 {X with N:=xs++js.map (fun j=>X.N.getD j ""),s₀:=s₀,H₀:=H₀,env:=compEnvC scope cl C X.env,outer:=X.stack,ex:=fp,fn:=fun _=>false,pn:=[],xe:=fun _ _=>False}
noncomputable def o8(σ:St)(js:List Nat):St:=js.map fun j=>(σ[j]?).join
structure CompOkM(X:Cx)(xs:List Str)(js:List Nat)(scope:Scope):Prop where
 kind:scope.kind=.function
 cell:∀y∈scope.names,y.2≠.cell
 loc:∀y∈scope.names,y.2=.local→scope.names.lookup y.1=some .local
 free:∀y∈scope.names,y.2=.free→X.env.kindOf y.1=some .cell∨X.env.kindOf y.1=some .free
 caps:∀j∈js,scope.names.lookup (X.N.getD j "")=some .free
 nd:(xs++js.map (fun j=>X.N.getD j "")).Nodup
noncomputable def l0o(names:List (Str×NameKind))(N xs:List Str)(js:List Nat)(scope:Scope):Bool:=
 (scope.kind== .function)&&(scope.names.all fun y=>(y.2 !=.cell)&&((y.2 !=.local)||scope.names.lookup y.1==some .local)&&((y.2 !=.free)||(names.lookup y.1==some .cell||names.lookup y.1==some .free)))&&
  (js.all fun j=>scope.names.lookup (N.getD j "")==some .free)&&decide ((xs++js.map (fun j=>N.getD j "")).Nodup)
theorem CompOkM.of{X:Cx}{scope:Scope}(xs:List Str)(js:List Nat)(h:l0o X.env.scope.names X.N xs js scope=true):CompOkM X xs js scope:=by
 unfold l0o at h;simp only[Bool.and_eq_true,List.all_eq_true,beq_iff_eq,bne_iff_ne,Bool.or_eq_true,decide_eq_true_eq]at h;obtain ⟨⟨⟨h1,h2⟩,h4⟩,h5⟩:=h;refine ⟨h1,fun y hy=>(h2 y hy).1.1,fun y hy e=>?_,fun y hy e=>?_,h4,h5⟩
 ·rcases (h2 y hy).1.2 with z |z
  ·exact absurd e z
  ·exact z
 ·rcases (h2 y hy).2 with z |z
  ·exact absurd e z
  ·exact z
section
variable{X:Cx}{pins:List (Addr×Obj)}{σ:St}{H:Hp}{s:Shared}
theorem i0d{xs:List Str}{js:List Nat}{scope:Scope}{cl:List (Str×Addr)}{fp:List Addr}{h':Heap}{tk:Nat}(I:Inv X pins σ H s)(S:CompOkM X xs js scope)
 (h1:∀y c,cl.lookup y=some c→X.env.cells.lookup y=some c) (h2:∀y,(y,NameKind.free)∈scope.names→∃c,cl.lookup y=some c)
 (hf:∀b∈fp,FpOk X pins H b) (hfl:∀b∈fp,b<s.heap.objs.size)
 (hn:h'.Ns s.heap.objs.size (fun _=>none)) (hk:∀b o,s.heap.get? b=some o→h'.get? b=some o):
 Inv (X.compM xs js scope cl s.heap.objs.size s H fp) [] (List.replicate xs.length none++o8 σ js) H {s with heap:=h',toks:=tk}:=by
 have e0:=I.env0;have hfree:H s.heap.objs.size=none:=I.hok.fresh (Nat.le_refl _);refine ⟨⟨I.ok.mod,S.kind,I.ok.glob,I.ok.blt,Nat.le_refl _,fun y z c a b=>I.ok.inj y z c (h1 y c a) (h1 z c b),fun y hy=>?_,(fun y c z=>by cases z),I.ok.hd,I.ok.frames,.inl rfl,fun b hb=>⟨Nat.ne_of_lt (hfl b hb),fun y c e=>(hf b hb).2.2.2.2.1 y c (h1 y c e)⟩,
  I.bs,Nat.le_trans I.ok.bsz I.sz,fun b o e hb=>?_,fun b hb z=>?_,I.stack,I.stkFree⟩,rfl,I.bare,Un.kept hk,⟨_,hn,fun i y v e1 e2 e3=>?_⟩,fun y c e=>?_,hfree,fun y c e=>I.freeC y c (h1 y c e),(fun p hp=>by cases hp),I.hok.kept hk,?_⟩
 ·have hy:(relabel scope X.env).names.lookup y=some .cell∨(relabel scope X.env).names.lookup y=some .free:=hy;rcases hy with hy |hy
  ·exact h2 y (e9 hy (.inl rfl) S.cell)
  ·exact h2 y (e9 hy (.inr rfl) S.cell)
 ·rcases (hf b hb).2.2.2.1 with z |z
  ·exact I.ok.noex b o e z
  ·exact absurd (Nat.lt_of_lt_of_le (Heap.lt_size e) (Nat.le_trans I.ok.bsz z)) (Nat.lt_irrefl _)
 ·have z:b∈frs X.stack:=z;rcases List.mem_cons.mp (I.stkSub b z)with q |q
  ·exact (hf b hb).2.1 q
  ·exact (hf b hb).2.2.1 q
 ·have e1:(xs++js.map (fun j=>X.N.getD j ""))[i]?=some y:=e1;by_cases hi:i<xs.length
  ·rw[List.getElem?_append_left (by simpa using hi),List.getElem?_replicate,if_pos hi]at e2;cases e2
  ·rw[List.getElem?_append_right (by omega)]at e1;rw[List.getElem?_append_right (by simp;omega)]at e2;simp only[List.length_replicate]at e2;generalize i-xs.length=i at e1 e2;unfold o8 at e2;rw[List.getElem?_map]at e1 e2;cases ej:js[i]? with
   |none=>rw[ej]at e1;cases e1
   |some j=>
    rw[ej]at e1 e2;have e1:X.N.getD j ""=y:=Option.some.inj e1;have e2:(σ[j]?).join=some v:=Option.some.inj e2;have hjm:j∈js:=List.mem_of_getElem? ej;have e2':σ[j]?=some (some v):=by
     cases q:σ[j]? with
     |none=>rw[q]at e2;cases e2
     |some o=>rw[q]at e2;cases o with
      |none=>cases e2
      |some v'=>cases e2;rfl
    have hjl:j<X.N.length:=by rw[←I.len];exact (List.getElem?_eq_some_iff.mp e2').1
    have eN:X.N[j]?=some y:=by
     rw[←e1,List.getD_eq_getElem?_getD,List.getElem?_eq_getElem hjl];rfl
    have hfr:scope.names.lookup y=some .free:=by rw[←e1];exact S.caps j hjm
    have hmem:(y,NameKind.free)∈scope.names:=PySem.mem_of_lookup hfr;obtain ⟨c,hc⟩:=h2 y hmem;have hXc:=h1 y c hc;have hkd:=S.free (y,.free) hmem rfl;obtain ⟨m,hm,hl⟩:=I.loc;have hvis:Vis X.env.scope y:=by rcases hkd with q |q;exact .inr (.inl q);exact .inr (.inr q)
    obtain ⟨u,r,l⟩:=hl j y v eN e2' hvis;refine ⟨u,r,.inr ⟨q0b hfr,c,hc,?_⟩⟩;rcases l with ⟨q,_⟩|⟨q,c',q1,q2⟩
    ·rcases hkd with z |z
     ·rw[z]at q;cases q
     ·rw[z]at q;cases q
    ·rw[hXc]at q1;cases q1;obtain ⟨o,ho,hd⟩:=q2;exact ⟨o,hk _ _ ho,hd⟩
 ·obtain ⟨v,o,ho,hd⟩:=I.cell y c (h1 y c e);exact ⟨v,o,hk _ _ ho,hd⟩
 ·show (List.replicate xs.length none++o8 σ js).length=(xs++js.map (fun j=>X.N.getD j "")).length;unfold o8;simp
end
noncomputable def tgV(K:PySem.W.Frag)(tup:Bool)(n:Nat)(v:V)(H:Hp)(k:List V→Prop):Prop:=match tup with
 |false=>k [v]
 |true=>∃a ws,v=.ref a∧SqT K H a ws∧ws.length=n∧k ws
structure TgM(K:PySem.W.Frag)(tup:Bool)(n:Nat)(g:TG):Prop where
 go:∀(caps:St) (v:V) (H:Hp) (Q:St→Hp→Prop),tgV K tup n v H (fun ws=>Q (ws.map some++caps) H)→g v (List.replicate n none++caps) H Q
theorem u7{K:PySem.W.Frag}:TgM K false 1 (o0j 0):=⟨fun caps v H Q h=>h⟩
noncomputable def PIfs(X:Cx)(ifs:List Expr)(t:TT):Prop:=∀(pins:List (Addr×Obj)) (s:Shared) (σ:St) (H:Hp) (Q:Bool→Hp→Prop),Inv X pins σ H s→t σ H Q→
 wpAny (model X.prog X.w) X.A (forIn ifs true fun c r=>if r=true then do let ok←isTrue c X.env (eval c X.env);pure (ForInStep.yield ok)else pure (ForInStep.yield r)) (TP X pins σ Q) X.xe s
theorem e0q{X:Cx}:PIfs X [] (fun _ H Q=>Q true H):=fun pins s σ H Q I h=>wpAny_tests_nil ⟨H,I,h⟩
theorem e0p{X:Cx}{c:Expr}{t:TT}(h:PT X c t):PIfs X [c] t:=fun pins s σ H Q I q=>wpAny_tests_one (h pins s σ H Q I q)
noncomputable def i0c(K:PySem.W.Frag)(J:It)(tup:Bool)(n:Nat)(caps:St)(D:Addr)(tc:TT)(te:TE)(H1:Hp)(Q:Hp→Prop):Prop:=∃P:Nat→Nat→List V→Hp→Prop,(∃m,P 0 m [] (upd H1 D (.lst [])))∧∀i m ys H2,P i m ys H2→H2 D=some (.lst ys)∧
 ((J.stop i H2∧Q H2)∨(J.go i H2∧∀v H3,J.yld i H2 v H3→tgV K tup n v H3 fun ws=>tc (ws.map some++caps) H3 fun ok H4=>
  if ok=true then te (ws.map some++caps) H4 fun y H5=>H5 D=some (.lst ys)∧ys.length<sizeLine∧∃m',m'<m∧P (i+1) m' (ys++[y]) (upd H5 D (.lst (ys++[y])))
  else ∃m',m'<m∧P (i+1) m' ys H4))
noncomputable def i0b(K:PySem.W.Frag)(wi:TI)(tup:Bool)(n:Nat)(js:List Nat)(tc:TT)(te:TE):TE:=fun σ H Q=>wi σ H fun J H1=>∀D,H1 D=none→i0c K J tup n (o8 σ js) D tc te H1 fun H2=>Q (.ref D) H2
section
variable{X:Cx}
theorem u0e{xs:List Str}{target elt iter:Expr}{ifs:List Expr}{js:List Nat}{scope:Scope}{cl:List (Str×Addr)}{pos:Pos}{tup:Bool}{g:TG}{tc:TT}{te:TE}{J:It}{fp:List Addr}{it:Addr}{tn:Nat→Heap→Prop}{pins:List (Addr×Obj)}{σ:St}{H1:Hp}{s1:Shared}
 {Q:V→Hp→Prop} {RR:Value→Addr→Result→Shared→Prop} {E:Value→Shared→Prop} (hc:X.calm=true) (S:CompOkM X xs js scope)
 (hg:∀C s₀ H₀ fp cl,PG (X.compM xs js scope cl C s₀ H₀ fp) target g) (gm:TgM X.K tup xs.length g) (ht:∀C s₀ H₀ fp cl,PIfs (X.compM xs js scope cl C s₀ H₀ fp) ifs tc)
 (he:∀C s₀ H₀ fp cl,PE (X.compM xs js scope cl C s₀ H₀ fp) elt te)
 (h1:∀y c,cl.lookup y=some c→X.env.cells.lookup y=some c) (h2:∀y,(y,NameKind.free)∈scope.names→∃c,cl.lookup y=some c)
 (I:Inv X pins σ H1 s1) (T:Turn X.prog X.w X.K target J fp it tn) (st:tn 0 s1.heap) (hf:∀b∈fp,FpOk X pins H1 b)
 (q:∀D,H1 D=none→i0c X.K J tup xs.length (o8 σ js) D tc te H1 fun H2=>Q (.ref D) H2)
 (hRR:∀D C H' s',Inv X pins σ H' s'→Loose X pins H' C→(∃m,s'.heap.Ns C m)→Q (.ref D) H'→RR (.ref D) C (.ok .next) s'):
 wpAny (model X.prog X.w) X.A (newList []) (fun acc s₃=>wpAny (model X.prog X.w) X.A (newFunctionEnv scope X.env.globals cl [] X.env.qual none .none (some X.env)) (fun cenv s₄=>
  codeAny (model X.prog X.w) X.A (.compStart (.ListComp elt [⟨target,iter,ifs,0⟩] scope pos) 0 (.ref it) acc {cenv with scope:=relabel scope X.env}) (RR acc cenv.locals) s₄) E s₃) E s1:=by
 have hfr:H1 s1.heap.objs.size=none:=I.hok.fresh (Nat.le_refl _);refine wpAny_newObj_type (wpAny_newFunctionEnv S.cell (by intro y hy;simp at hy) (fun h₁ hns₁ hsb₁=>?_) S.kind);dsimp only at hns₁ hsb₁ ⊢;have I3:=I.laid (a:=s1.heap.objs.size) (o:=.lst []) (h':=s1.heap.push {cls:=.type "list",dict:=none,data:=.seq ([]:List Value).toArray}) (t':=s1.toks) (fun b u e=>Heap.get?_push_of_some _ e) (Nat.le_refl _)
  ⟨by simp,[],0,.nil,Heap.get?_push_size _ rfl⟩
 generalize hD:s1.heap.objs.size=D at*
 generalize hH2:s1.heap.push {cls:=.type "list",dict:=none,data:=.seq ([]:List Value).toArray}=G at*
 have hGD:G.objs.size=D+1:=by rw[←hH2,Heap.size_push,hD]
 have hkG:∀b o,G.get? b=some o→h₁.get? b=some o:=fun b o e=>hsb₁.extBut b o (Nat.ne_of_lt (Heap.lt_size e)) (Heap.get?_push_of_some _ e)
 have hold:∀b o,s1.heap.get? b=some o→h₁.get? b=some o:=fun b o e=>hkG b o (by rw[←hH2];exact Heap.get?_push_of_some _ e)
 have hfpl:∀b∈fp,b<s1.heap.objs.size:=fun b hb=>by obtain ⟨o,e,_⟩:=T.obj _ _ st b hb;exact Heap.lt_size e
 have hf3:∀b∈fp,FpOk X pins (upd H1 D (.lst [])) b:=fun b hb=>⟨by rw[y0 (by rw[←hD];exact Nat.ne_of_lt (hfpl b hb))];exact (hf b hb).1,(hf b hb).2⟩
 have IC:=i0d (xs:=xs) (js:=js) (scope:=scope) (cl:=cl) (fp:=fp) (h':=h₁) (tk:=s1.toks+([]:List (Str×Value)).length) I3 S h1 h2 hf3 (fun b hb=>Nat.lt_of_lt_of_le (hfpl b hb) (by show s1.heap.objs.size≤G.objs.size;rw[hGD,hD];exact Nat.le_succ _)) hns₁ hkG;obtain ⟨P,⟨m0,p0⟩,turn⟩:=q D hfr;have loop:∀s':Shared,s'={s1 with heap:=h₁,toks:=s1.toks+([]:List (Str×Value)).length}→
  codeAny (model X.prog X.w) X.A (.compLoop (.ListComp elt [⟨target,iter,ifs,0⟩] scope pos) 0 (.ref it) (.ref D) (compEnvC scope cl G.objs.size X.env)) (RR (.ref D) G.objs.size) s':=by
  rintro s' rfl;refine p0p (fun n s'=>∃i ys H',Inv (X.compM xs js scope cl G.objs.size {s1 with heap:=G} (upd H1 D (.lst [])) fp) [] (List.replicate xs.length none++o8 σ js) H' s'∧tn i s'.heap∧(∀b∈fp,H' b=none)∧P i n ys H') ?_ m0 ⟨0,[],_,IC,T.keep _ _ _ st fun b hb o e=>hold b o e,fun b hb=>(hf3 b hb).1,p0⟩;rintro n s3 ⟨i,ys,H3,J3,st3,fr3,p3⟩;obtain ⟨hD3,tr⟩:=turn i n ys H3 p3;have stat:∀{H':Hp} {s':Shared} {σ':St},Inv (X.compM xs js scope cl G.objs.size {s1 with heap:=G} (upd H1 D (.lst [])) fp) [] σ' H' s'→(∀b∈fp,H' b=none)→∀b∈fp,FpOk (X.compM xs js scope cl G.objs.size {s1 with heap:=G} (upd H1 D (.lst [])) fp) [] H' b:=
   fun {H' s' σ'} JJ hn b hb=>⟨hn b hb,(JJ.ok.exf b hb).1,JJ.ok.exfs b hb,.inl hb,(JJ.ok.exf b hb).2,fun p hp=>by cases hp⟩
  rcases tr with ⟨stop,qn⟩|⟨go,step⟩
  ·refine wpAny_mono (T.done (X.compM xs js scope cl G.objs.size {s1 with heap:=G} (upd H1 D (.lst [])) fp) rfl rfl rfl hc i [] s3 _ H3 (fun _ _=>False) J3 (stat J3 fr3) st3 stop) (fun r s4 ⟨hr,J4⟩=>?_) fun _ _ z=>z
   subst hr;have I4:Inv X pins σ H3 s4:=by
    refine I3.call' (ch:=fp) (s':=s4) J4.os J4.base J4.hok J4.bare fun b hb=>?_
    obtain ⟨_,f1,f2,f3,f4,f5⟩:=hf3 b hb;exact ⟨f3,f1,f4,f5⟩
   refine hRR D G.objs.size H3 s4 I4 ⟨J4.free,?_,?_,?_,?_⟩ (let ⟨m,hm,_⟩:=J4.loc;⟨m,hm⟩) qn
   ·exact Nat.ne_of_gt I3.lt
   ·exact I3.sz
   ·exact fun y c e=>by obtain ⟨v,z⟩:=I3.cell y c e;exact Nat.ne_of_lt z.lt
   ·exact fun p hp=>Nat.ne_of_lt (Heap.lt_size (I3.pin p hp).1)
  ·refine wpAny_mono (T.item (X.compM xs js scope cl G.objs.size {s1 with heap:=G} (upd H1 D (.lst [])) fp) rfl rfl rfl hc i [] s3 _ H3 (fun _ _=>False) J3 (stat J3 fr3) st3 go) (fun r s4 ⟨u,hr,h4⟩=>?_) fun _ _ z=>z
   subst hr;refine wpAny_mono h4 (fun _ s5 ⟨v,H5,J5,r5,y5,st5,fr5⟩=>?_) fun _ _ z=>z
   have J5':=J5.pinned (stat J5 fr5) (T.obj _ _ st5);have back:∀{ws:List V} {H':Hp} {s':Shared} {pp},Inv (X.compM xs js scope cl G.objs.size {s1 with heap:=G} (upd H1 D (.lst [])) fp) pp (ws.map some++o8 σ js) H' s'→Inv (X.compM xs js scope cl G.objs.size {s1 with heap:=G} (upd H1 D (.lst [])) fp) pp (List.replicate xs.length none++o8 σ js) H' s':=
    fun {ws H' s' pp} JJ=>by
     have hl:(ws.map some++o8 σ js).length=(List.replicate xs.length none++o8 σ js).length:=by rw[JJ.len,← J3.len]
     have hw:ws.length=xs.length:=by simpa using hl
     refine JJ.weak hl.symm fun k v e=>?_
     by_cases hk:k<xs.length
     ·rw[List.getElem?_append_left (by simpa using hk),List.getElem?_replicate,if_pos hk]at e;cases e
     ·rw[List.getElem?_append_right (by simp;omega)]at e ⊢;simpa[hw]using e
   have seen:∀{H':Hp} {s':Shared} {σ':St},Inv (X.compM xs js scope cl G.objs.size {s1 with heap:=G} (upd H1 D (.lst [])) fp) ([]++q0r fp s5.heap) σ' H' s'→tn (i+1) s'.heap∧∀b∈fp,H' b=none:=fun {H' s' σ'} JJ=>by
    refine ⟨T.keep _ _ _ st5 fun b hb o e=>(JJ.pin (b,o) (List.mem_append_right _ (List.mem_append_right _ (z0o hb e)))).1,fun b hb=>?_⟩;obtain ⟨o,e,d⟩:=T.obj _ _ st5 b hb;exact (JJ.pin (b,o) (List.mem_append_right _ (List.mem_append_right _ (z0o hb e)))).2.1
   have st5':=step v H5 y5;refine wpAny_mono (hg G.objs.size {s1 with heap:=G} (upd H1 D (.lst [])) fp cl _ s5 _ H5 v u (fun σ' H'=>∃ws:List V,σ'=ws.map some++o8 σ js∧H'=H5∧tc (ws.map some++o8 σ js) H5 fun ok H4=>
    if ok=true then te (ws.map some++o8 σ js) H4 fun y H5=>H5 D=some (.lst ys)∧ys.length<sizeLine∧∃m',m'<n∧P (i+1) m' (ys++[y]) (upd H5 D (.lst (ys++[y])))else ∃m',m'<n∧P (i+1) m' ys H4) J5' r5 (gm.go _ _ _ _ ?_)) (fun _ s6 ⟨σ6,H6,J6,ws,e1,e2,h6⟩=>?_) fun _ _ z=>z
   ·unfold tgV at st5' ⊢;cases tup
    ·exact ⟨_,rfl,rfl,st5'⟩
    ·obtain ⟨a,ws,z1,z2,z3,z4⟩:=st5';exact ⟨a,ws,z1,z2,z3,ws,rfl,rfl,z4⟩
   subst e1 e2;refine wpAny_mono (ht G.objs.size {s1 with heap:=G} (upd H1 D (.lst [])) fp cl _ s6 _ _ _ J6 h6) (fun ok s7 ⟨H7,J7,q7⟩=>?_) fun _ _ z=>z
   cases ok with
   |false=>
    rw[if_neg Bool.false_ne_true]at q7 ⊢;obtain ⟨m',hm',p7⟩:=q7;obtain ⟨w1,w2⟩:=seen J7;exact ⟨m',hm',i+1,ys,H7,back J7.unpinned,w1,w2,p7⟩
   |true=>
    rw[if_pos rfl]at q7 ⊢;refine wpAny_mono (he G.objs.size {s1 with heap:=G} (upd H1 D (.lst [])) fp cl _ s7 _ H7 _ J7 q7) (fun y s8 ⟨yv,H8,J8,ry,hD8,hz8,m',hm',p8⟩=>?_) fun _ _ z=>z
    obtain ⟨z,its,nn,r,hl,e⟩:=J8.lstM hD8;refine call_meets F.slot_list_append ⟨_,e,rfl⟩ F.entry_list_append (F.args_list_append_2 _ _) (PySem.list_append D its.toArray nn y (by rw[List.size_toArray];omega)) ⟨e,?_⟩;have J9:=J8.lset (its':=its++[y]) (t':=s8.toks) hD8 e (f:=fun xs=>xs.push y) (by simp) (r.append (.cons ry .nil)) (by rw[List.length_append,List.length_singleton];omega);obtain ⟨w1,w2⟩:=seen J9;exact ⟨m',hm',i+1,ys++[yv],_,back J9.unpinned,w1,w2,p8⟩
 exact codeAny_compStart_list (loop _ rfl) (T.self X.A 0 _ _ _ (T.keep _ _ _ st fun b hb o e=>hold b o e) (loop _ rfl))
theorem e0o{xs:List Str}{target elt iter:Expr}{ifs:List Expr}{js:List Nat}{scope:Scope}{pos:Pos}{tup:Bool}{g:TG}{tc:TT}{te:TE}{wi:TI}(hc:X.calm=true)(S:CompOkM X xs js scope)(hi:PI X target iter wi)
 (hg:∀C s₀ H₀ fp cl,PG (X.compM xs js scope cl C s₀ H₀ fp) target g) (gm:TgM X.K tup xs.length g) (ht:∀C s₀ H₀ fp cl,PIfs (X.compM xs js scope cl C s₀ H₀ fp) ifs tc)
 (he:∀C s₀ H₀ fp cl,PE (X.compM xs js scope cl C s₀ H₀ fp) elt te) (hs:∀v,foldedSetIterable iter X.env v=pure v:=by intro _;rfl):
 PE X (.ListComp elt [⟨target,iter,ifs,0⟩] scope pos) (i0b X.K wi tup xs.length js tc te):=by
 intro pins s σ H Q I h;obtain ⟨cl,c0,c1,c2⟩:=s0l (scope:=scope) (env:=X.env) fun p hp hk=>I.ok.has p.1 (S.free p hp hk)
 rw[eval_ListComp];refine wpAny_comprehension_free (use:=none) rfl hs c0 S.kind S.loc (thn (hi pins s σ H _ I h) fun xv s₁ h₁=>thn h₁ fun itv s₂ h₂=>?_);obtain ⟨it,fp,tn,J,H',rfl,I2,T,st,hf,q⟩:=h₂;refine u0e (RR:=fun acc C=>compPost (model X.prog X.w) X.A X.xe none (EP X pins σ Q) acc C) hc S hg gm ht he c1 c2 I2 T st hf q ?_;rintro D C H' s' I' L ⟨m,hm⟩ qq;refine ⟨m,hm,fun h' hs'=>⟨.ref D,H',?_,rfl,qq⟩⟩;exact I'.turned (t':=s'.toks) (it:=C) (fun b o hb e=>hs'.extBut b o hb e) L.free L.ne (.inr L.yng) L.cell L.pin
theorem e0n{i:Nat}{y:Str}{py:Pos}{xs:List Str}{target elt iter:Expr}{ifs:List Expr}{js:List Nat}{scope:Scope}{pos spos:Pos}{tup:Bool}{g:TG}{tc:TT}{te:TE}{wi:TI}(hc:X.calm=true)(S:CompOkM X xs js scope)(hi:PI X target iter wi)
 (hg:∀C s₀ H₀ fp cl,PG (X.compM xs js scope cl C s₀ H₀ fp) target g) (gm:TgM X.K tup xs.length g) (ht:∀C s₀ H₀ fp cl,PIfs (X.compM xs js scope cl C s₀ H₀ fp) ifs tc)
 (he:∀C s₀ H₀ fp cl,PE (X.compM xs js scope cl C s₀ H₀ fp) elt te) (hN:X.N.Nodup) (hy:X.N[i]?=some y) (hl:Loc X.env.scope y)
 (hsw:swapsWith (.ListComp elt [⟨target,iter,ifs,0⟩] scope pos) (some (.Name y py)) spos.line X.env=pure true)
 (hs:∀v,foldedSetIterable iter X.env v=pure v:=by intro _;rfl) (hfn:X.fn y=true∨X.env.scope.names.lookup y=some .local:=by first |exact .inl rfl |exact .inr rfl |assumption):
 PS X (.Assign [.Name y py] (.ListComp elt [⟨target,iter,ifs,0⟩] scope pos) spos) (tAsg (i0b X.K wi tup xs.length js tc te) (o0j i)):=by
 intro pins s σ H D I h;obtain ⟨cl,c0,c1,c2⟩:=s0l (scope:=scope) (env:=X.env) fun p hp hk=>I.ok.has p.1 (S.free p hp hk)
 rw[exec_Assign_Name_used _ _ _ _ hsw];refine wpAny_bind (wpAny_standAt (wpAny_bind ?_));show wpAny _ _ (do let _←comprehension (.ListComp elt [⟨target,iter,ifs,0⟩] scope pos) scope X.env _ (newList []) false (eval iter X.env) (some (assign (.Name y py) X.env))) _ _ s;refine wpAny_bind (wpAny_mono (wpAny_comprehension_free (use:=some (assign (.Name y py) X.env)) (Q:=fun _ s'=>SP X pins D .next s') rfl hs c0 S.kind S.loc
  (thn (hi pins s σ H _ I h) fun xv s₁ h₁=>thn h₁ fun itv s₂ h₂=>?_)) (fun _ s' hq=>wpAny_pure (wpAny_pure hq)) fun _ _ e=>e)
 obtain ⟨it,fp,tn,J,H',rfl,I2,T,st,hf,q⟩:=h₂;refine u0e (Q:=fun v H1=>o0j i v σ H1 D.nx) (RR:=fun acc C=>compPost (model X.prog X.w) X.A X.xe (some (assign (.Name y py) X.env)) (fun _ s'=>SP X pins D .next s') acc C) hc S hg gm ht he c1 c2 I2 T st hf q ?_;rintro E C H' s' I' L ⟨m,hm⟩ qq;show wpAny _ _ (assign (.Name y py) X.env (.ref E)) _ _ _;refine wpAny_assign_Name (q0s (v:=.ref E) I' hN hy hl rfl (fun s2 I2 ⟨a,sb,ha⟩=>?_) hfn);have nca:C≠a:=by
  rcases ha with z |z
  ·rw[z];exact L.ne
  ·exact (L.cell y a z).symm
 refine ⟨m,hm.sameBut sb nca,fun h' hs'=>⟨_,H',?_,qq⟩⟩;exact I2.turned (t':=s2.toks) (it:=C) (fun b o hb e=>hs'.extBut b o hb e) L.free L.ne (.inr L.yng) L.cell L.pin
end
section
variable{X:Cx}{elts:List Expr}{x1:Nat}{tpos:Pos}
noncomputable def iZip(K:PySem.W.Frag)(ta:TA):TI:=fun σ H R=>ta σ H fun vs H1=>∃a a' b b',vs=[.ref a,.ref a']∧(∃xs,Sq K b H1 a xs)∧(∃ys,Sq K b' H1 a' ys)∧R (Itz K b b' a a') H1
theorem pi_zip{a b:Expr}{ta:TA}{p pos:Pos}(hg:Gl X "zip")(hm:X.mg "zip"=none)(ha:PA X [a,b] ta)(hs:starEach [a,b] X.env=[(false,eval a X.env),(false,eval b X.env)]:=by rfl)(hs2:starEach [b] X.env=[(false,eval b X.env)]:=by rfl):
 PI X (.Tuple elts x1 tpos) (.Call (.Name "zip" p) [a,b] [] pos) (iZip X.K ta):=by
 intro pins s σ H R I h;refine Call_ (s0r I hg hm bt_zip (PyProof.Rows.callWith_type1 (thn (ha pos pins s σ H _ I h) fun us s1 ⟨vs,H1,I1,r1,q1⟩=>?_) (by rw[hs,hs2]) (by rw[hs2];rfl)));obtain ⟨a1,a2,b1,b2,e,⟨xs,k1⟩,⟨ys,k2⟩,q⟩:=q1;subst e;cases r1 with
 |cons r rr=>
  cases rr with
  |cons r' rr=>
   cases rr;cases r;cases r';obtain ⟨its1,v1,p1,z1⟩:=I1.sq k1;obtain ⟨its2,v2,p2,z2⟩:=I1.sq k2;have l1:a1<s1.heap.objs.size:=by obtain ⟨o,e,_⟩:=p1.obj;exact Heap.lt_size e
   have l2:a2<s1.heap.objs.size:=by obtain ⟨o,e,_⟩:=p2.obj;exact Heap.lt_size e
   refine a0m p1 p2 fun h' hz hTI hTO i1 i2 kk=>wpAny_pyIter_zip (s:={s1 with heap:=h'}) hz ?_
   have ne:∀{c k:Nat},c<s1.heap.objs.size→c≠s1.heap.objs.size+k:=fun h z=>by omega
   have ap:∀{k l:Nat},k≠l→s1.heap.objs.size+k≠s1.heap.objs.size+l:=fun h z=>h (by omega)
   have ap0:∀{l:Nat},l≠0→s1.heap.objs.size≠s1.heap.objs.size+l:=fun h z=>h (by omega)
   refine ⟨_,[s1.heap.objs.size+4,s1.heap.objs.size+2,s1.heap.objs.size+3,s1.heap.objs.size,s1.heap.objs.size+1],_,_,H1,rfl,I1.kept (t':=s1.toks) kk,e0r b1 b2 a1 a2 _ _ _ _ _ ⟨ap (by decide),ap (by decide),ap0 (by decide),ap (by decide),ap (by decide),(ap0 (by decide)).symm,ap (by decide),(ap0 (by decide)).symm,ap (by decide),ap0 (by decide)⟩
    ⟨ne l1,ne l1,Nat.ne_of_lt l1,ne l1⟩ ⟨ne l2,ne l2,Nat.ne_of_lt l2,ne l2⟩,⟨hz,hTI,⟨_,_,hTO⟩,i1,i2⟩,fun c hc=>?_,q⟩
   have hle:s1.heap.objs.size≤c:=by
    have hc':c=s1.heap.objs.size+4∨c=s1.heap.objs.size+2∨c=s1.heap.objs.size+3∨c=s1.heap.objs.size∨c=s1.heap.objs.size+1:=by simpa using hc
    rcases hc' with e |e |e |e |e<;>(rw[e];omega)
   exact I1.fpOk hle (I1.hok.fresh hle)
end
end L2
namespace L2
open PySem PySem.Spec PyProof.Rows
section
variable{X:Cx}
theorem e0m(b:Bool){prog:Program}{w:World}{A:Around}(hh:A.handled=none)(j a:Addr)(ne:a≠j)(xs:Array Value):
 Walks prog w A j [j,a] [j] xs.size (fun i v=>xs[i]?=some v) (fun i h=>ItAt b h j a i∧SqAt b h a xs):=by
 cases b
 ·exact Walks.list hh j a ne xs
 ·exact Walks.tuple hh j a ne xs
noncomputable def rCatA(K:PySem.W.Frag):R2:=fun x y H Q=>∃a b xs ys,x=.ref a∧y=.ref b∧SqT K H a xs∧SqT K H b ys∧xs.length+ys.length≤sizeLine∧
 (xs=[]→Q (.ref b) H)∧(xs≠[]→ys=[]→Q (.ref a) H)∧(xs≠[]→ys≠[]→∀p,H p=none→Q (.ref p) (upd H p (.tup (xs++ys))))
theorem a0k:OpR X (binaryOp .Add) (rCatA X.K):=by
 intro pins s σ H x y v u Q I rx ry h;obtain ⟨a,b,xs,ys,rfl,rfl,ha,hb,hz,q0,q1,q2⟩:=h;by_cases hx:xs=[]
 ·cases rx;cases ry;obtain ⟨its,r1,p1,_⟩:=I.tuple ha;obtain ⟨its2,r2,p2,_⟩:=I.tuple hb;have hv:its=[]:=r1.nil_iff.mpr hx;obtain ⟨⟨cls,dd,data,sl⟩,ho,hc,n,hd⟩:=id p1;obtain ⟨⟨cls2,dd2,data2,sl2⟩,ho2,hc2,n2,hd2⟩:=id p2;simp only at hc hd hc2 hd2;subst hc hd hc2 hd2;exact concat_meets ⟨_,ho,rfl⟩ ⟨_,ho2,rfl⟩ noFill_tuple_add seq_tuple_add PySem.F.slot_tuple_add PySem.F.entry_tuple_add (PySem.F.args_tuple_add_2 _ _) (tuple_addW0 a b its.toArray its2.toArray n n2 dd dd2 sl sl2 (by simp[hv])) ⟨ho,ho2,.ref b,H,I,rfl,q0 hx⟩
 ·exact b0o pins s σ H _ _ v u Q I rx ry ⟨a,b,xs,ys,rfl,rfl,ha,hb,hx,hz,q1 hx,q2 hx⟩
end
end L2
namespace DL
open PySem PySem.Spec L2
open PySem.W (XC)
section
variable{X:Cx}{Y:Y2}{W:XW}{tg:Expr}{K:Frag}
noncomputable def sqb:D→Bool | .tup _=>true |_=>false
theorem c0p{F:Hp}{d:D}{xs:List D}{x:V}(h:seqD d=some xs)(r:Rep K F d x):∃a vs b,x=.ref a∧Sq K b F a vs∧Reps K F xs vs:=by
 obtain ⟨a,vs,e,sq,z⟩:=c0r h r;rcases sq with sq |sq
 ·exact ⟨a,vs,false,e,sq,z⟩
 ·exact ⟨a,vs,true,e,sq,z⟩
theorem _root_.L2.Same.sq{F F':Hp}{b:Bool}{a:Addr}{xs:List V}(s:Same F F')(h:Sq K b F a xs):Sq K b F' a xs:=by
 cases b
 ·exact s.sqL h
 ·exact s.sqT h
noncomputable def zipD(ds es:List D):List D:=List.zipWith (fun d e=>D.tup [d,e]) ds es
theorem l0n{ds es:List D}{i:Nat}{c:D}(h:(zipD ds es)[i]?=some c):∃d e,ds[i]?=some d∧es[i]?=some e∧c=.tup [d,e]:=by
 unfold zipD at h;rw[List.getElem?_zipWith]at h;cases h1:ds[i]? with
 |none=>rw[h1]at h;cases h
 |some d=>
  cases h2:es[i]? with
  |none=>rw[h1,h2]at h;cases h
  |some e=>rw[h1,h2]at h;exact ⟨d,e,rfl,rfl,(Option.some.inj h).symm⟩
theorem l0m{ds es:List D}:(zipD ds es).length=min ds.length es.length:=by unfold zipD;simp
theorem a0j{F:Hp}{b b':Bool}{a a':Addr}{xs ys:List V}{ds es:List D}(h:Sq K b F a xs)(h':Sq K b' F a' ys)(r:Reps K F ds xs)(r':Reps K F es ys):SrcOk K (Itz K b b' a a') F (zipD ds es):=by
 refine ⟨fun i c F' H e s1 s2=>?_,fun F' H s1 s2=>?_⟩
 ·obtain ⟨d,e',e1,e2,rfl⟩:=l0n e;obtain ⟨v,ev,rv⟩:=r.get e1;obtain ⟨v',ev',rv'⟩:=r'.get e2;have q1:=(s1.trans s2).sq h;have q2:=(s1.trans s2).sq h';refine ⟨⟨xs,ys,v,v',q1,ev,q2,ev'⟩,fun u H' y=>?_⟩;obtain ⟨p,x,y,hp,rfl,rfl,k1,k2⟩:=y;have e3:=k1 xs q1;have e4:=k2 ys q2;rw[ev]at e3;rw[ev']at e4;cases e3;cases e4;exact .inr ⟨p,_,_,hp,rfl,rfl,rfl,Reps.cons (rv.mono s1) (Reps.cons (rv'.mono s1) Reps.nil)⟩
 ·rw[l0m];refine ⟨xs,ys,(s1.trans s2).sq h,(s1.trans s2).sq h',?_⟩;rw[r.length,r'.length];omega
noncomputable def a0i(k:Nat)(ds:List D):List D:=match ds with | []=>[]|d::r=>.tup [.int (k:Int),d]::a0i (k+1) r
variable{a b:Expr}{ta:TA2}{p pos tpos:Pos}{elts:List Expr}{x1:Nat}
noncomputable def e0l(ta:TA2):TI2:=fun x ρ δ q=>ta x ρ δ fun ds ρ1 δ1=>match ds with | [d,e]=>(match seqD d,seqD e with |some xs,some ys=>q (zipD xs ys) ρ1 δ1 |_,_=>False)|_=>False
theorem i2_zip(hm:X.mg "zip"=none)(ha:PA2 X Y W [a,b] ta)(hg:Gl X "zip":=by rfl)(hs:starEach [a,b] X.env=[(false,eval a X.env),(false,eval b X.env)]:=by rfl)(hs2:starEach [b] X.env=[(false,eval b X.env)]:=by rfl):
 PI2 X Y W (.Tuple elts x1 tpos) (.Call (.Name "zip" p) [a,b] [] pos) (e0l ta):=pi2 (pi_zip hg hm ha.go hs hs2) fun σ H R ⟨F,ρ,δ,x,q,I,h,k,kx⟩=>by
 refine ⟨F,ρ,δ,x,_,I,h,fun ds vs F' H' ρ' δ' I' s' r' h'=>?_,kx⟩;split at h'
 ·rename_i d e;split at h'
  ·rename_i xs ys e1 e2;obtain ⟨v,u,rfl,r1,r2⟩:=a0z r';obtain ⟨a1,vs1,b1,rfl,q1,z1⟩:=c0p e1 r1;obtain ⟨a2,vs2,b2,rfl,q2,z2⟩:=c0p e2 r2;exact ⟨a1,a2,b1,b2,rfl,⟨_,I'.sub.sq q1⟩,⟨_,I'.sub.sq q2⟩,k _ _ F' H' ρ' δ' I' s' (a0j q1 q2 z1 z2) h'⟩
  ·exact h'.elim
 ·exact h'.elim
noncomputable def a0h(ta:TA2):TI2:=fun x ρ δ q=>ta x ρ δ fun ds ρ1 δ1=>match ds with | [d]=>(match seqD d with |some xs=>q (a0i 0 xs) ρ1 δ1 |none=>False)|_=>False
end
noncomputable def tgD(tup:Bool)(n:Nat)(d:D):Option (List D):=match tup,d with
 |false,d=>some [d]
 |true,.tup ds=>if ds.length=n then some ds else none
 |true,_=>none
noncomputable def compM(tup:Bool)(n:Nat)(tc:TT2)(te:TE2)(js:List Nat)(ρ:En)(q:List D→Dk→Prop):List D→List D→Dk→Prop
 | [],acc,δ=>q acc δ
 |d::ds,acc,δ=>match tgD tup n d with
  |some es=>tc (fun _ _ _ _=>False) (es.map .val++capt ρ js) δ fun b ρ1 δ1=>if b=true then te (fun _ _ _ _=>False) ρ1 δ1 fun e _ δ2=>acc.length<1000∧compM tup n tc te js ρ q ds (acc++[e]) δ2 else compM tup n tc te js ρ q ds acc δ1
  |none=>False
section
variable{K:Frag}{Y:Y2}{F H:Hp}{σ:St}{ρ:En}{δ:Dk}
theorem p0o{H₀:Hp}{sf:Option Addr}{cs:En}{ss:St}(hc:∀(i:Nat) (c:Cell),cs[i]?=some c→CellOk K F H H₀ sf c (ss[i]?).join):∀{es:List D} {ws:List V},Reps K F es ws→∀(i:Nat) (c:Cell),(es.map Cell.val++cs)[i]?=some c→CellOk K F H H₀ sf c ((ws.map some++ss:St)[i]?).join
 | [],ws,r,i,c,e=>by rw[reps_nil.mp r];exact hc i c e
 |d::es,ws,r,0,c,e=>by
  obtain ⟨v,l,rfl,r1,r2⟩:=reps_cons.mp r;cases e;exact ⟨v,rfl,r1⟩
 |d::es,ws,r,i+1,c,e=>by
  obtain ⟨v,l,rfl,r1,r2⟩:=reps_cons.mp r;exact p0o hc r2 i c e
theorem I2.blockM{es:List D}{ws:List V}{js:List Nat}(I:I2 K Y F H σ ρ δ)(r:Reps K F es ws):I2 K ⟨F,H,δ,none⟩ F H (ws.map some++o8 σ js) (es.map .val++capt ρ js) δ:=by
 have vals:∀(i:Nat) c,(es.map Cell.val++capt ρ js)[i]?=some c→(∃e,c=.val e)∨c=.no:=fun i c e=>by
  have m:=List.mem_of_getElem? e;rcases List.mem_append.mp m with m |m
  ·obtain ⟨d,_,rfl⟩:=List.mem_map.mp m;exact .inl ⟨d,rfl⟩
  ·unfold capt at m;obtain ⟨j,_,rfl⟩:=List.mem_map.mp m;unfold x0n;split
   ·exact .inl ⟨_,rfl⟩
   ·exact .inr rfl
 have no:∀i a,¬a6 (es.map .val++capt ρ js) (ws.map some++o8 σ js) i a:=fun i a o=>by
  rcases o.1 with ⟨es,q⟩|⟨C,fs,q⟩|⟨kvs,q⟩
  ·rcases vals i _ q with ⟨d,z⟩|z<;>cases z
  ·rcases vals i _ q with ⟨d,z⟩|z<;>cases z
  ·rcases vals i _ q with ⟨d,z⟩|z<;>cases z
 refine ⟨Ran.refl I.sub I.ran.dk,p0o (fun i c e=>?_) r,by simp[o8,capt,r.length],fun i j a _ o _=>absurd o (no i a),fun i a o=>absurd o (no i a)⟩;unfold capt at e;rw[List.getElem?_map,Option.map_eq_some_iff]at e;obtain ⟨j,ej,rfl⟩:=e;unfold o8;rw[List.getElem?_map,ej];show CellOk K F H H none _ (σ[j]?).join;cases ec:ρ[j]? with
 |none=>trivial
 |some c=>
  have w:=I.env j c ec;cases c with
  |val e=>exact w
  |_=>trivial
end
section
variable{X:Cx}{Y:Y2}{W:XW}{px pos:Pos}{target elt iter:Expr}{ifs:List Expr}{xs:List Str}{js:List Nat}{scope:Scope}{tc:TT2}{te:TE2}{ti:TI2}{tup:Bool}{g:TG}
noncomputable def tcY(K:Frag)(tc:TT2):TT:=fun σ H Q=>∃Y',upT K Y' W0 tc σ H Q
theorem i0a{σ:St}{ρ1:En}{δ1:Dk}{F1 H1:Hp}{J:It}{n:Nat}{ds:List D}{q:List D→Dk→Prop}{Q:Addr→Hp→Prop}(I1:I2 X.K Y F1 H1 σ ρ1 δ1)(src:SrcOk X.K J F1 ds)(h1:compM tup n tc te js ρ1 q ds [] δ1)
 (k:∀D F' H' δ' acc vs,I2 X.K Y F' H' σ ρ1 δ'→Same F1 F'→H' D=some (.lst vs)→F' D=none→Y.H₀ D=none→Off δ' D→(∀j a,a6 ρ1 σ j a→a≠D)→Reps X.K F' acc vs→q acc δ'→Q D H'):
 ∀D,H1 D=none→i0c X.K J tup n (o8 σ js) D (tcY X.K tc) (teY X.K te) H1 fun H2=>Q D H2:=by
 intro D hD;have hF:F1 D=none:=I1.sub.free hD;have h0:=I1.ran.fresh hD;have no:∀j a,a6 ρ1 σ j a→a≠D:=fun j a o=>by
  obtain ⟨u,hu⟩:=I1.ownAddr o;exact s0 hu hD
 have off:Off δ1 D:=fun b es e w=>by
  obtain ⟨_,vs,q2,_⟩:=I1.ran.dk b es e;rw[←w,hD]at q2;cases q2
 have I0:I2 X.K Y F1 (upd H1 D (.lst [])) σ ρ1 δ1:=by
  refine ⟨⟨fun b u e=>by rw[y0 (s0 e hF)];exact I1.sub _ _ e,fun b fs e=>?_,fun b u e f=>by rw[y0 (s0 e h0)];exact I1.ran.keep b u e f,I1.ran.f0,I1.ran.fnew,I1.ran.dto⟩,fun j c e=>?_,I1.len,I1.apart,I1.off⟩
  ·obtain ⟨q1,ws,q2,q3⟩:=I1.ran.dk b fs e;exact ⟨q1,ws,by rw[y0 (Ne.symm (off b fs e))];exact q2,q3⟩
  ·have w:=I1.env j c e;cases c with
   |no=>trivial
   |val d=>exact w
   |own fs=>
    obtain ⟨b,ws,e1,h1,f1,g1,r1⟩:=w;exact ⟨b,ws,e1,by rw[y0 (s0 h1 hD)];exact h1,f1,g1,r1⟩
   |obj C fs=>
    obtain ⟨b,dx,ws,e1,es1,h1,h2,f1,f2,g1,g2,r1⟩:=w;exact ⟨b,dx,ws,e1,es1,by rw[y0 (s0 h1 hD)];exact h1,by rw[y0 (s0 h2 hD)];exact h2,f1,f2,g1,g2,r1⟩
   |ownD fs=>
    obtain ⟨b,ws,e1,h1,f1,g1,r1⟩:=w;exact ⟨b,ws,e1,by rw[y0 (s0 h1 hD)];exact h1,f1,g1,r1⟩
 refine ⟨fun i m ys H2=>∃F2 δ2 acc,I2 X.K Y F2 H2 σ ρ1 δ2∧Same F1 F2∧H2 D=some (.lst ys)∧F2 D=none∧Off δ2 D∧Reps X.K F2 acc ys∧compM tup n tc te js ρ1 q (ds.drop i) acc δ2∧i≤ds.length∧m=ds.length-i,⟨ds.length,F1,δ1,[],I0,Same.refl F1,n3,hF,off,Reps.nil,by simpa using h1,Nat.zero_le _,by simp⟩,?_⟩;rintro i m ys H2 ⟨F2,δ2,acc,I2',s2,hD2,hF2,of2,r2,h2,hi,rfl⟩;refine ⟨hD2,?_⟩;cases e:ds[i]? with
 |none=>
  have hl:ds.length≤i:=List.getElem?_eq_none_iff.mp e;have ei:i=ds.length:=by omega
  subst ei;rw[List.drop_length]at h2;exact .inl ⟨src.stop F2 H2 s2 I2'.sub,k D F2 H2 δ2 acc ys I2' s2 hD2 hF2 h0 of2 no r2 h2⟩
 |some d=>
  have hl:i<ds.length:=(List.getElem?_eq_some_iff.mp e).1;obtain ⟨go,yl⟩:=src.item i d F2 H2 e s2 I2'.sub;refine .inr ⟨go,fun v H3 y=>?_⟩;have hy:=yl v H3 y;obtain ⟨F3,I3,s3,r3,nf3⟩:=I2'.yld hy;have hD3:H3 D=some (.lst ys):=by
   rcases hy with ⟨rfl,_⟩|⟨p,vs,es,hp,rfl,_⟩
   ·exact hD2
   ·rw[y0 (s0 hD2 hp)];exact hD2
  have hF3:F3 D=none:=nf3 D _ hD2 hF2;have ed:ds.drop i=d::ds.drop (i+1):=by rw[List.drop_eq_getElem_cons hl];congr 1;exact (List.getElem?_eq_some_iff.mp e).2
  rw[ed]at h2;unfold compM at h2;split at h2
  ·rename_i es ees;have body:∀ws:List V,Reps X.K F3 es ws→tcY X.K tc (ws.map some++o8 σ js) H3 fun ok H4=>if ok=true then teY X.K te (ws.map some++o8 σ js) H4 fun y H5=>H5 D=some (.lst ys)∧ys.length<sizeLine∧∃m',m'<ds.length-i∧
    ∃F2 δ2 acc,I2 X.K Y F2 (upd H5 D (.lst (ys++[y]))) σ ρ1 δ2∧Same F1 F2∧upd H5 D (.lst (ys++[y])) D=some (.lst (ys++[y]))∧F2 D=none∧Off δ2 D∧Reps X.K F2 acc (ys++[y])∧compM tup n tc te js ρ1 q (ds.drop (i+1)) acc δ2∧i+1≤ds.length∧m'=ds.length-(i+1)
    else ∃m',m'<ds.length-i∧∃F2 δ2 acc,I2 X.K Y F2 H4 σ ρ1 δ2∧Same F1 F2∧H4 D=some (.lst ys)∧F2 D=none∧Off δ2 D∧Reps X.K F2 acc ys∧compM tup n tc te js ρ1 q (ds.drop (i+1)) acc δ2∧i+1≤ds.length∧m'=ds.length-(i+1):=by
    intro ws rw';have kept:∀{F4 H4 δ4},Ran X.K F3 H3 δ2 F4 H4 δ4→H4 D=some (.lst ys)∧F4 D=none∧Off δ4 D:=fun {F4 H4 δ4} R=>by
     refine ⟨R.keep D _ hD3 of2,?_,fun b es e w=>?_⟩
     ·cases z:F4 D with
      |none=>rfl
      |some u=>
       rcases R.fnew D u z with w |w
       ·rw[hF3]at w;cases w
       ·rw[hD3]at w;cases w
     ·cases hd:δ2 with
      |none=>have:=R.dto.2 b es e hd;rw[←w,hD3]at this;cases this
      |some p=>
       obtain ⟨c,gs⟩:=p;obtain ⟨es',z⟩:=R.dto.1 c gs hd;rw[e]at z;cases z;exact of2 b gs hd w
    refine ⟨⟨F3,H3,δ2,none⟩,F3,_,δ2,_,_,I3.blockM rw',h2,fun bb F4 H4 ρ4 δ4 I4 s4 h4=>?_,fun _ _ _ _ _ _ _ _ _ _ _ z=>z⟩;obtain ⟨hD4,hF4,of4⟩:=kept I4.ran;cases bb with
    |false=>
     rw[if_neg Bool.false_ne_true]at h4 ⊢;exact ⟨ds.length-(i+1),by omega,F4,δ4,acc,I3.call I4.ran,(s2.trans s3).trans s4,hD4,hF4,of4,r2.mono (s3.trans s4),h4,hl,rfl⟩
    |true=>
     rw[if_pos rfl]at h4 ⊢;refine ⟨⟨F3,H3,δ2,none⟩,F4,ρ4,δ4,_,_,I4,h4,fun d5 v5 F5 H5 ρ5 δ5 I5 s5 r5 h5=>?_,fun _ _ _ _ _ _ _ _ _ _ _ z=>z⟩;obtain ⟨hD5,hF5,of5⟩:=kept I5.ran;have hlen:acc.length<1000:=h5.1;have s35:Same F3 F5:=s4.trans s5;exact ⟨hD5,by rw[r2.length];exact Nat.lt_of_lt_of_le hlen (by decide),ds.length-(i+1),by omega,F5,δ5,acc++[d5],(I3.call I5.ran).side hF5 h0 of5 ⟨_,hD5⟩ no,(s2.trans s3).trans s35,n3,hF5,of5,(r2.mono (s3.trans s35)).append (Reps.cons r5 Reps.nil),h5.2,hl,rfl⟩
   unfold tgD at ees;split at ees
   ·cases ees;exact body [v] (Reps.cons r3 Reps.nil)
   ·rename_i _ es0;split at ees
    ·rename_i hn;cases ees;obtain ⟨a,vs,rfl,ea,z⟩:=rep_tup.mp r3;exact ⟨a,vs,rfl,SqT.of (I3.sub _ _ ea),by rw[z.length];exact hn,body vs z⟩
    ·cases ees
   ·cases ees
  ·exact h2.elim
structure PIf2(X:Cx)(Y:Y2)(W:XW)(ifs:List Expr)(t:TT2):Prop where
 go:PIfs X ifs (upT X.K Y W t)
noncomputable def u0d:TT2:=fun _ ρ δ q=>q true ρ δ
theorem y0k:PIf2 X Y W [] u0d:=⟨fun pins s σ H Q I ⟨F,ρ,δ,x,q,I2',h,k,kx⟩=>e0q pins s σ H Q I (k true F H ρ δ I2' (Same.refl F) h)⟩
theorem n0t{c:Expr}(h:PT2 X Y W c tc):PIf2 X Y W [c] tc:=⟨e0p h.go⟩
variable{i:Nat}{y:Str}{py spos:Pos}
noncomputable def w0y(ti:TI2)(tup:Bool)(n:Nat)(js:List Nat)(tc:TT2)(te:TE2):TE2:=fun x ρ δ q=>ti x ρ δ fun ds ρ1 δ1=>compM tup n tc te js ρ1 (fun acc δ2=>q (.lst acc) ρ1 δ2) ds [] δ1
theorem l0l{n:Nat}{σ:St}{H:Hp}{Q:VK}(h:upE X.K Y W (w0y ti tup n js tc te) σ H Q):i0b X.K (upI2 X.K Y W ti) tup n js (tcY X.K tc) (teY X.K te) σ H Q:=by
 obtain ⟨F,ρ,δ,x,q,I,h,k,kx⟩:=h;refine ⟨F,ρ,δ,x,_,I,h,fun ds J F1 H1 ρ1 δ1 I1 s1 src h1=>i0a (Q:=fun D H2=>Q (.ref D) H2) I1 src h1 fun D F' H' δ' acc vs I' s' hD hF h0 of no r hq=>?_,kx⟩;exact k _ _ _ _ ρ1 δ' (I'.ice hF h0 of hD no) ((s1.trans s').trans (Same.new hF)) (rep_lst.mpr ⟨D,vs,rfl,n3,r.mono (Same.new hF)⟩) hq
variable(hc:X.calm=true)(S:CompOkM X xs js scope)(hi:PI2 X Y W target iter ti)(hg:(xs++js.map (fun j=>X.N.getD j "")).Nodup→∀C s₀ H₀ fp cl,PG (X.compM xs js scope cl C s₀ H₀ fp) target g)(gm:TgM X.K tup xs.length g)
 (ht:∀C s₀ H₀ fp cl Y',PIf2 (X.compM xs js scope cl C s₀ H₀ fp) Y' W0 ifs tc) (he:∀C s₀ H₀ fp cl Y',PE2 (X.compM xs js scope cl C s₀ H₀ fp) Y' W0 elt te)
include hc S hi hg gm ht he
theorem z0n(hs:∀v,foldedSetIterable iter X.env v=pure v:=by intro _;rfl):PE2 X Y W (.ListComp elt [⟨target,iter,ifs,0⟩] scope pos) (w0y ti tup xs.length js tc te):=
 pe2 (e0o (tc:=tcY X.K tc) (te:=teY X.K te) hc S hi.go (hg S.nd) gm (fun C s₀ H₀ fp cl pins s σ H Q I ⟨Y',h⟩=>(ht C s₀ H₀ fp cl Y').go pins s σ H Q I h) (fun C s₀ H₀ fp cl pins s σ H Q I ⟨Y',h⟩=>(he C s₀ H₀ fp cl Y').go pins s σ H Q I h) hs) fun σ H Q h=>l0l h
theorem u0w(hN:X.N.Nodup)(hy:X.N[i]?=some y:=by rfl)(hl:Loc X.env.scope y:=by walk_at "v2")
 (hsw:swapsWith (.ListComp elt [⟨target,iter,ifs,0⟩] scope pos) (some (.Name y py)) spos.line X.env=pure true:=by rfl) (hs:∀v,foldedSetIterable iter X.env v=pure v:=by intro _;rfl) (hfn:X.fn y=true∨X.env.scope.names.lookup y=some .local:=by walk_at "v1"):
 PS2 X Y W (.Assign [.Name y py] (.ListComp elt [⟨target,iter,ifs,0⟩] scope pos) spos) (i0o i (w0y ti tup xs.length js tc te)):=
 ps2 (e0n (i:=i) (tc:=tcY X.K tc) (te:=teY X.K te) hc S hi.go (hg S.nd) gm (fun C s₀ H₀ fp cl pins s σ H Q I ⟨Y',h⟩=>(ht C s₀ H₀ fp cl Y').go pins s σ H Q I h) (fun C s₀ H₀ fp cl pins s σ H Q I ⟨Y',h⟩=>(he C s₀ H₀ fp cl Y').go pins s σ H Q I h) hN hy hl hsw hs hfn) fun E1 σ H ⟨F,ρ,δ,E2,I,h,er⟩=>
  l0l ⟨F,ρ,δ,E2.xc,_,I,h,fun d v F' H' ρ' δ' I' s' r' h'=>er.nx _ F' H' _ δ' (I'.put r') s' h',er.xc⟩
omit hc S hi hg gm ht he in
noncomputable def t2OwnM(i:Nat)(ti:TI2)(tup:Bool)(n:Nat)(js:List Nat)(tc:TT2)(te:TE2):TS2:=fun E ρ δ=>ti E.xc ρ δ fun ds ρ1 δ1=>compM tup n tc te js ρ1 (fun acc δ2=>E.nx (ρ1.set i (.own acc)) δ2) ds [] δ1
end
end DL
namespace DL
open PySem PySem.Spec L2
open PySem.W (XC)
mutual
noncomputable def lfD:D→Bool
 | .lst _=>false | .scr _=>false | .dic _=>false | .dwk _=>false
 | .tup xs=>lfDs xs
 | .ins _ fs=>lfFs fs | .exc _ fs=>lfFs fs
 |_=>true
noncomputable def lfDs:List D→Bool
 | []=>true
 |d::ds=>lfD d&&lfDs ds
noncomputable def lfFs:List (Str×D)→Bool
 | []=>true
 |(_,d)::ds=>lfD d&&lfFs ds
end
mutual
theorem Rep.lf{K:Frag}{F F':Hp}(s:∀b o,F b=some o→(∀vs,o≠.lst vs)→F' b=some o):∀{d:D} {v:V},lfD d=true→Rep K F d v→Rep K F' d v
 | .non,v,_,h=>by unfold Rep at h ⊢; exact h
 | .bl b,v,_,h=>by unfold Rep at h ⊢; exact h
 | .int i,v,_,h=>by unfold Rep at h ⊢; exact h
 | .str x,v,_,h=>by unfold Rep at h ⊢; exact h
 | .lst ds,v,l,h=>by unfold lfD at l;cases l
 | .tup ds,v,l,h=>by unfold Rep at h ⊢; unfold lfD at l;obtain ⟨a,vs,e,q,r⟩:=h;exact ⟨a,vs,e,s _ _ q (fun vs z=>by cases z),Reps.lf s l r⟩
 | .scr ds,v,l,h=>by unfold lfD at l;cases l
 | .dic ds,v,l,h=>by unfold lfD at l;cases l
 | .dwk ds,v,l,h=>by unfold lfD at l;cases l
 | .ins C fs,v,l,h=>by unfold Rep at h ⊢; unfold lfD at l;obtain ⟨a,dx,vs,e,q,q2,r⟩:=h;exact ⟨a,dx,vs,e,s _ _ q (fun vs z=>by cases z),s _ _ q2 (fun vs z=>by cases z),RepF.lf s l r⟩
 | .exc C fs,v,l,h=>by
  unfold Rep at h ⊢;unfold lfD at l;obtain ⟨a,fr,e,h⟩:=h;refine ⟨a,fr,e,?_⟩;rcases h with ⟨e1,q⟩|⟨d,us,q,q2,r⟩
  ·exact .inl ⟨e1,s _ _ q (fun vs z=>by cases z)⟩
  ·exact .inr ⟨d,us,s _ _ q (fun vs z=>by cases z),s _ _ q2 (fun vs z=>by cases z),RepF.lf s l r⟩
 | .ref a,v,_,h=>by unfold Rep at h ⊢; exact h
 | .ty n,v,_,h=>by unfold Rep at h ⊢; exact h
theorem Reps.lf{K:Frag}{F F':Hp}(s:∀b o,F b=some o→(∀vs,o≠.lst vs)→F' b=some o):∀{ds:List D} {vs:List V},lfDs ds=true→Reps K F ds vs→Reps K F' ds vs
 | [],vs,_,h=>by unfold Reps at h ⊢; exact h
 |d::ds,vs,l,h=>by
  unfold Reps at h ⊢;unfold lfDs at l;rw[Bool.and_eq_true]at l;obtain ⟨v,r,e,q,z⟩:=h;exact ⟨v,r,e,Rep.lf s l.1 q,Reps.lf s l.2 z⟩
theorem RepF.lf{K:Frag}{F F':Hp}(s:∀b o,F b=some o→(∀vs,o≠.lst vs)→F' b=some o):∀{ds:List (Str×D)} {vs:List (Str×V)},lfFs ds=true→RepF K F ds vs→RepF K F' ds vs
 | [],vs,_,h=>by unfold RepF at h ⊢; exact h
 |(x,d)::ds,vs,l,h=>by
  unfold RepF at h ⊢;unfold lfFs at l;rw[Bool.and_eq_true]at l;obtain ⟨v,r,e,q,z⟩:=h;exact ⟨v,r,e,Rep.lf s l.1 q,RepF.lf s l.2 z⟩
end
inductive BA where |v (d:D)|o (i:Nat)
noncomputable def RepB(K:Frag)(F:Hp)(σ:St):BA→V→Prop
 | .v d,v=>Rep K F d v
 | .o i,v=>σ[i]?=some (some v)
inductive RepsB(K:Frag)(F:Hp)(σ:St):List BA→List V→Prop
 |nil:RepsB K F σ [] []
 |cons {b v bs vs}:RepB K F σ b v→RepsB K F σ bs vs→RepsB K F σ (b::bs) (v::vs)
noncomputable abbrev TB2:=XK2→En→Dk→(List BA→En→Dk→Prop)→Prop
noncomputable def upB(K:Frag)(Y:Y2)(W:XW)(t:TB2):TA:=fun σ H Q=>∃F ρ δ x q,I2 K Y F H σ ρ δ∧t x ρ δ q∧(∀bs vs F' H' ρ' δ',I2 K Y F' H' σ ρ' δ'→Same F F'→RepsB K F' σ bs vs→q bs ρ' δ'→Q vs H')∧XR K Y W F x
structure PB2(X:Cx)(Y:Y2)(W:XW)(es:List Expr)(t:TB2):Prop where
 go:PA X es (upB X.K Y W t)
section
variable{X:Cx}{Y:Y2}{W:XW}{e:Expr}{es:List Expr}{te:TE2}{t:TB2}{x:Str}{p pos:Pos}
noncomputable def t2BNil:TB2:=fun _ ρ δ q=>q [] ρ δ
noncomputable def t2BV(te:TE2)(t:TB2):TB2:=fun x ρ δ q=>te x ρ δ fun d ρ1 δ1=>t x ρ1 δ1 fun bs ρ2 δ2=>q (.v d::bs) ρ2 δ2
noncomputable def t2BO(i:Nat)(t:TB2):TB2:=fun x ρ δ q=>hasV ρ i=true∧t x ρ δ fun bs ρ2 δ2=>q (.o i::bs) ρ2 δ2
noncomputable def argB(ρ:En):BA→Option D
 | .v d=>some d
 | .o i=>match ρ[i]? with |some (.own ds)=>some (.lst ds)|some (.val d)=>some d |_=>none
noncomputable def argsB(ρ:En):List BA→Option (List D)
 | []=>some []
 |b::bs=>match argB ρ b,argsB ρ bs with |some d,some ds=>some (d::ds)|_,_=>none
noncomputable def c0o(ρ:En)(σ:St)(b:Addr):Prop:=∃(i:Nat) (ds:List D),ρ[i]?=some (Cell.own ds)∧σ[i]?=some (some (V.ref b))
open Classical in
noncomputable def lend(ρ:En)(σ:St)(F H:Hp):Hp:=fun b=>if c0o ρ σ b then H b else F b
open Classical in
noncomputable def back(ρ:En)(σ:St)(F:Hp):Hp:=fun b=>if c0o ρ σ b then none else F b
section
variable{K:Frag}{F H F' H':Hp}{σ:St}{ρ:En}{δ δ':Dk}
end
noncomputable def a0g(sp:Sp2)(t:TB2):TE2:=fun x ρ δ q=>t x ρ δ fun bs ρ1 δ1=>match argsB ρ1 bs with
 |some ds=>sp ds none (fun d _=>lfD d=true∧q d ρ1 δ1) fun C fs _=>lfFs fs=true∧x C fs ρ1 δ1
 |none=>False
variable{k:Nat}{ps:List Str}{sp:Sp2}
end
end DL
namespace DL
open PySem PySem.Spec L2
open PySem.W (XC)
section
variable{X:Cx}{K:Frag}
noncomputable def k0m:List D→Option (List Int)
 | []=>some []
 | .int i::r=>(k0m r).map (i::·)
 |_=>none
noncomputable def fewD(ns:List Int):Prop:=ns.length≤1000∧∀n∈ns,-(2^40)≤n∧n≤2^40
noncomputable def sumF:F1:=fun ds q=>match ds with | [d]=>(match seqD d with |some xs=>(match k0m xs with |some ns=>fewD ns∧q (.int ns.sum)|none=>False)|none=>False)|_=>False
noncomputable def rAddE(K:Frag):R2:=fun x y H Q=>b0d K x y H Q∨rCatA K x y H Q
noncomputable def addG:F2:=fun d1 d2 q=>match d1,d2 with
 | .int i,.int j=>q (.int (i+j))
 | .lst xs,.lst ys=>xs.length+ys.length≤1000∧q (.lst (xs++ys))
 | .tup xs,.tup ys=>xs.length+ys.length≤1000∧q (.tup (xs++ys))
 |_,_=>False
theorem a5:OpR X (binaryOp .Add) (rAddE X.K):=l0v b0c a0k
theorem l7:OpD K (rAddE K) addG:=by
 intro Y F H σ ρ δ x y d1 d2 Q1 q I r1 r2 h' k;unfold addG at h';split at h'
 ·exact .inl (d_add Y F H σ ρ δ x y _ _ Q1 q I r1 r2 h' k)
 ·exact .inl (d_add Y F H σ ρ δ x y _ _ Q1 q I r1 r2 h' k)
 ·rename_i xs ys;have r1':=r1;have r2':=r2;obtain ⟨a,vs,rfl,e1,z1⟩:=rep_tup.mp r1;obtain ⟨b,us,rfl,e2,z2⟩:=rep_tup.mp r2;refine .inr ⟨a,b,vs,us,rfl,rfl,SqT.of (I.sub _ _ e1),SqT.of (I.sub _ _ e2),o0b (by rw[z1.length,z2.length];exact h'.1),fun hv=>?_,fun hv hu=>?_,fun _ _ p hp=>k _ _ _ _ (I.alloc hp) (I.grow hp) (I.tup hp (z1.append z2)) h'.2⟩
  ·have:xs=[]:=List.eq_nil_of_length_eq_zero (by rw[←z1.length,hv];rfl);subst this;exact k _ _ F H I (Same.refl F) r2' h'.2
  ·have:ys=[]:=List.eq_nil_of_length_eq_zero (by rw[←z2.length,hu];rfl);subst this;exact k _ _ F H I (Same.refl F) (by rw[List.append_nil];exact r1') h'.2
 ·exact h'.elim
noncomputable def a0f:FM:=fun ds es q=>match es with | [.int k,e]=>ds.length<1000∧(0≤k∧k≤1000)∧q .non (ds.take (min k.toNat ds.length)++[e]++ds.drop (min k.toNat ds.length))|_=>False
end
section
variable{X:Cx}{Y:Y2}{W:XW}{a:Expr}{ta:TA2}{p p2 pos pos2:Pos}{i:Nat}{x:Str}{pos':Pos}
noncomputable def lrQ(ds:List D)(q:List D→Prop):Prop:=match ds with | [.int n]=>(0≤n∧n≤1000)∧q (rngD 0 n.toNat)|_=>False
noncomputable def t2LR(ta:TA2):TE2:=fun x ρ δ q=>ta x ρ δ fun ds ρ1 δ1=>lrQ ds fun l=>q (.lst l) ρ1 δ1
noncomputable def a0e(i:Nat)(ta:TA2):TS2:=fun E ρ δ=>ta E.xc ρ δ fun ds ρ1 δ1=>lrQ ds fun l=>E.nx (ρ1.set i (.own l)) δ1
end
structure KNo(K:Frag)(C:Addr):Prop where
 n:PySem.W.kitOne K (.type "NoneType") (.ref C)=some false
 b:PySem.W.kitOne K (.type "bool") (.ref C)=some false
 i:PySem.W.kitOne K (.type "int") (.ref C)=some false
 s:PySem.W.kitOne K (.type "str") (.ref C)=some false
 l:PySem.W.kitOne K (.type "list") (.ref C)=some false
 t:PySem.W.kitOne K (.type "tuple") (.ref C)=some false
 d:PySem.W.kitOne K (.type "dict") (.ref C)=some false
theorem e0k{K:Frag}{C:Addr}{fs:List (Str×D)}:b9 K (.ins C fs) (.ref C)=some true:=by
 show PySem.W.kitOne K (.ref C) (.ref C)=some true;unfold PySem.W.kitOne;rw[if_pos (by simp)]
theorem e0j{tup:Bool}{n:Nat}{tc:TT2}{te:TE2}{js:List Nat}{ρ:En}{q:List D→Dk→Prop}{ds:List D}{acc:List D}{δ:Dk}(P:Nat→List D→Dk→Prop)(h0:P 0 acc δ)
 (step:∀(i:Nat) (d:D) (acc:List D) (δ:Dk) (rest:List D→Dk→Prop),ds[i]?=some d→P i acc δ→(∀acc' δ',P (i+1) acc' δ'→rest acc' δ')→match tgD tup n d with
  |some es=>tc (fun _ _ _ _=>False) (es.map .val++capt ρ js) δ fun b ρ1 δ1=>if b=true then te (fun _ _ _ _=>False) ρ1 δ1 fun e _ δ2=>acc.length<1000∧rest (acc++[e]) δ2 else rest acc δ1
  |none=>False)
 (fin:∀acc δ,P ds.length acc δ→q acc δ):compM tup n tc te js ρ q ds acc δ:=by
 have key:∀(k i:Nat) (acc:List D) (δ:Dk),i+k=ds.length→P i acc δ→compM tup n tc te js ρ q (ds.drop i) acc δ:=by
  intro k
  induction k with
  |zero=>
   intro i acc δ hi p;rw[List.drop_eq_nil_of_le (by omega)];have:i=ds.length:=by omega
   subst this;exact fin acc δ p
  |succ k ih=>
   intro i acc δ hi p;have hl:i<ds.length:=by omega
   rw[List.drop_eq_getElem_cons hl];have:=step i ds[i] acc δ (compM tup n tc te js ρ q (ds.drop (i+1))) (by simp[hl]) p fun acc' δ' p'=>ih (i+1) acc' δ' (by omega) p'
   unfold compM;exact this
 have:=key ds.length 0 acc δ (by omega) h0
 rwa[List.drop_zero]at this
end DL
namespace L2
open PySem PySem.Spec PyProof.Rows
section
variable{X:Cx}
noncomputable def eqVs:List V→List V→Bool
 | [],[]=>true
 |x::xs,y::ys=>eqV x y&&eqVs xs ys
 |_,_=>false
theorem x0m:∀(xs ys:List V),((List.range (min xs.length ys.length)).all (fun j=>match xs[j]?,ys[j]? with |some x,some y=>eqV x y |_,_=>false)&&xs.length==ys.length)=eqVs xs ys
 | [],[]=>rfl
 | [],_::_=>by simp[eqVs]
 |_::_,[]=>by simp[eqVs]
 |x::xs,y::ys=>by
  have ih:=x0m xs ys;have e:min (x::xs).length (y::ys).length=min xs.length ys.length+1:=by simp only[List.length_cons];omega
  rw[e,List.range_succ_eq_map,List.all_cons,List.all_map];unfold eqVs;rw[←ih,← Bool.and_assoc];simp only[List.length_cons,List.getElem?_cons_zero];congr 1;simp
noncomputable def rEqT(K:PySem.W.Frag)(neg:Bool):R2:=fun x y H Q=>∃a b xs ys,x=.ref a∧y=.ref b∧SqT K H a xs∧SqT K H b ys∧xs.all y0t=true∧ys.all y0t=true∧Q (.bl (if neg then !eqVs xs ys else eqVs xs ys)) H
theorem r0m{A:Around}{s:Shared}{xs ys:List V}{us ws:List Value}(r:Vals xs us)(r':Vals ys ws)(f:xs.all y0t=true)(f':ys.all y0t=true):∀j (h1:j<us.toArray.size) (h2:j<ws.toArray.size),SeqAt.EqAt A s us.toArray[j] ws.toArray[j] (match xs[j]?,ys[j]? with |some x,some y=>eqV x y |_,_=>false):=by
 intro j h1 h2;have l1:j<xs.length:=by rw[r.length];simpa using h1
 have l2:j<ys.length:=by rw[r'.length];simpa using h2
 obtain ⟨u,hu,ru⟩:=r.get (List.getElem?_eq_getElem l1);obtain ⟨w,hw,rw'⟩:=r'.get (List.getElem?_eq_getElem l2);have eu:us.toArray[j]=u:=by
  have:us[j]?=some us.toArray[j]:=by simp
  rw[hu]at this;exact (Option.some.inj this).symm
 have ew:ws.toArray[j]=w:=by
  have:ws[j]?=some ws.toArray[j]:=by simp
  rw[hw]at this;exact (Option.some.inj this).symm
 rw[eu,ew,List.getElem?_eq_getElem l1,List.getElem?_eq_getElem l2];exact d0c ru rw' (List.all_eq_true.mp f _ (List.getElem_mem l1)) (List.all_eq_true.mp f' _ (List.getElem_mem l2))
theorem op_eqT(hu:X.A.units<cLine):OpR X (compareOp .Eq) (rEqT X.K false):=by
 intro pins s σ H x y v u Q I rx ry h;obtain ⟨a,b,xs,ys,rfl,rfl,ha,hb,f1,f2,q⟩:=h;cases rx;cases ry;obtain ⟨its,r,p,_⟩:=I.tuple ha;obtain ⟨its2,r2,p2,_⟩:=I.tuple hb;refine SeqAt.eq_tupleAt p p2 hu (r0m r r2 f1 f2) ⟨.bl (eqVs xs ys),H,I,?_,q⟩;rw[←x0m,r.length,r2.length];simp only[List.size_toArray];rfl
theorem op_neT(hu:X.A.units<cLine):OpR X (compareOp .NotEq) (rEqT X.K true):=by
 intro pins s σ H x y v u Q I rx ry h;obtain ⟨a,b,xs,ys,rfl,rfl,ha,hb,f1,f2,q⟩:=h;cases rx;cases ry;obtain ⟨its,r,p,_⟩:=I.tuple ha;obtain ⟨its2,r2,p2,_⟩:=I.tuple hb;refine SeqAt.RcNeAt.tuples p p2 hu (r0m r r2 f1 f2) X.prog X.w X.xe _ ⟨.bl (!eqVs xs ys),H,I,?_,q⟩;rw[←x0m,r.length,r2.length];simp only[List.size_toArray];rfl
end
end L2
namespace DL
open PySem PySem.Spec L2
open PySem.W (XC)
section
variable{X:Cx}{K:Frag}
noncomputable def rEqE(K:Frag):R2:=fun x y H Q=>rEq x y H Q∨rEqT K false x y H Q
noncomputable def rNeE(K:Frag):R2:=fun x y H Q=>rNe x y H Q∨rEqT K true x y H Q
theorem z0y(hu:X.A.units<cLine):OpR X (compareOp .Eq) (rEqE X.K):=l0v o0i (op_eqT hu)
theorem h0z(hu:X.A.units<cLine):OpR X (compareOp .NotEq) (rNeE X.K):=l0v b0x (op_neT hu)
noncomputable def eqDs:List D→List D→Bool
 | [],[]=>true
 |x::xs,y::ys=>eqV (toV x) (toV y)&&eqDs xs ys
 |_,_=>false
theorem p0n:∀xs ys:List D,eqVs (xs.map toV) (ys.map toV)=eqDs xs ys
 | [],[]=>rfl
 | [],_::_=>rfl
 |_::_,[]=>rfl
 |x::xs,y::ys=>by rw[List.map_cons,List.map_cons];unfold eqVs eqDs;rw[p0n xs ys]
noncomputable def eqG:F2:=fun d1 d2 q=>match eqD d1 d2 with
 |some b=>q (.bl b)
 |none=>match d1,d2 with | .tup xs,.tup ys=>(xs.all y7&&ys.all y7)=true∧q (.bl (eqDs xs ys))|_,_=>False
noncomputable def neG:F2:=fun d1 d2 q=>match eqD d1 d2 with
 |some b=>q (.bl (!b))
 |none=>match d1,d2 with | .tup xs,.tup ys=>(xs.all y7&&ys.all y7)=true∧q (.bl (!eqDs xs ys))|_,_=>False
theorem u0c:OpD K (rEqE K) eqG:=by
 intro Y F H σ ρ δ x y d1 d2 Q1 q I r1 r2 h' k;unfold eqG at h';split at h'
 ·rename_i b e;exact .inl (d_eq Y F H σ ρ δ x y d1 d2 Q1 q I r1 r2 (by unfold eqF;rw[e];exact h') k)
 ·split at h'
  ·rename_i xs ys;obtain ⟨hf,h'⟩:=h';rw[Bool.and_eq_true]at hf;obtain ⟨a,vs,rfl,e1,z1⟩:=rep_tup.mp r1;obtain ⟨b,us,rfl,e2,z2⟩:=rep_tup.mp r2;obtain ⟨e3,e4⟩:=q8 hf.1 z1;obtain ⟨e5,e6⟩:=q8 hf.2 z2;refine .inr ⟨a,b,vs,us,rfl,rfl,SqT.of (I.sub _ _ e1),SqT.of (I.sub _ _ e2),e4,e6,?_⟩;rw[if_neg Bool.false_ne_true,e3,e5,p0n];exact k _ _ F H I (Same.refl F) (rep_bl.mpr rfl) h'
  ·exact h'.elim
theorem a0d:OpD K (rNeE K) neG:=by
 intro Y F H σ ρ δ x y d1 d2 Q1 q I r1 r2 h' k;unfold neG at h';split at h'
 ·rename_i b e;exact .inl (d_ne Y F H σ ρ δ x y d1 d2 Q1 q I r1 r2 (by unfold neF;rw[e];exact h') k)
 ·split at h'
  ·rename_i xs ys;obtain ⟨hf,h'⟩:=h';rw[Bool.and_eq_true]at hf;obtain ⟨a,vs,rfl,e1,z1⟩:=rep_tup.mp r1;obtain ⟨b,us,rfl,e2,z2⟩:=rep_tup.mp r2;obtain ⟨e3,e4⟩:=q8 hf.1 z1;obtain ⟨e5,e6⟩:=q8 hf.2 z2;refine .inr ⟨a,b,vs,us,rfl,rfl,SqT.of (I.sub _ _ e1),SqT.of (I.sub _ _ e2),e4,e6,?_⟩;rw[if_pos rfl,e3,e5,p0n];exact k _ _ F H I (Same.refl F) (rep_bl.mpr rfl) h'
  ·exact h'.elim
noncomputable def cutD(xs:List D)(lo hi:Option Int):List D:=(xs.drop (HT.sIx xs.length 0 lo)).take (HT.sIx xs.length xs.length hi-HT.sIx xs.length 0 lo)
theorem Reps.cut{F:Hp}{ds:List D}{vs:List V}{lo hi:Option Int}(r:Reps K F ds vs):Reps K F (cutD ds lo hi) (cutV vs lo hi):=by
 unfold cutD cutV;rw[r.length];exact (r.drop _).take _
noncomputable abbrev TO2:=XK2→En→Dk→(Option Int→En→Dk→Prop)→Prop
variable{Y:Y2}{W:XW}{e lo hi:Expr}{te tl th:TE2}{pos p2:Pos}
noncomputable def upO(K:Frag)(Y:Y2)(W:XW)(t:TO2):TO:=fun σ H Q=>∃F ρ δ x q,I2 K Y F H σ ρ δ∧t x ρ δ q∧(∀o F' H' ρ' δ',I2 K Y F' H' σ ρ' δ'→Same F F'→q o ρ' δ'→Q o H')∧XR K Y W F x
structure PO2(X:Cx)(Y:Y2)(W:XW)(e:Option Expr)(t:TO2):Prop where
 go:PO X e (upO X.K Y W t)
noncomputable def t2ON:TO2:=fun _ ρ δ q=>q none ρ δ
noncomputable def t2OI(te:TE2):TO2:=fun x ρ δ q=>te x ρ δ fun d ρ1 δ1=>match d with | .int i=>q (some i) ρ1 δ1 |_=>False
theorem n6:PO2 X Y W none t2ON:=⟨fun pins s σ H Q I ⟨F,ρ,δ,x,q,I',h,k,kx⟩=>b0q pins s σ H Q I (k none F H ρ δ I' (Same.refl F) h)⟩
theorem x5(h:PE2 X Y W e te):PO2 X Y W (some e) (t2OI te):=⟨fun pins s σ H Q I ⟨F,ρ,δ,x,q,I',h',k,kx⟩=>b0p h.go pins s σ H Q I ⟨F,ρ,δ,x,_,I',h',fun d v F1 H1 ρ1 δ1 I1 s1 r1 h1=>by
 cases d with
 |int i=>exact ⟨i,rep_int.mp r1,k (some i) F1 H1 ρ1 δ1 I1 s1 h1⟩
 |_=>exact h1.elim,kx⟩⟩
noncomputable def slF(d:D)(l u:Option Int)(q:D→Prop):Prop:=match d with
 | .lst xs=>q (.lst (cutD xs l u))
 | .tup xs=>¬(HT.sIx xs.length 0 l=0∧HT.sIx xs.length xs.length u=xs.length)∧q (.tup (cutD xs l u))
 |_=>False
noncomputable def t2Sl(te:TE2)(tl th:TO2):TE2:=fun x ρ δ q=>te x ρ δ fun d ρ1 δ1=>tl x ρ1 δ1 fun l ρ2 δ2=>th x ρ2 δ2 fun u ρ3 δ3=>slF d l u fun e=>q e ρ3 δ3
theorem x0l{lo hi:Option Expr}{tl th:TO2}(he:PE2 X Y W e te)(hl:PO2 X Y W lo tl)(hu:PO2 X Y W hi th):PE2 X Y W (.Subscript e (.Slice lo hi none p2) pos) (t2Sl te tl th):=pe2 (r0x (SlR.or j0g sl_tup) he.go hl.go hu.go) fun σ H Q ⟨F,ρ,δ,x,q,I,h,k,kx⟩=>by
 refine ⟨F,ρ,δ,x,_,I,h,fun d v F1 H1 ρ1 δ1 I1 s1 r1 h1=>⟨F1,ρ1,δ1,x,_,I1,h1,fun l F2 H2 ρ2 δ2 I2' s2 h2=>⟨F2,ρ2,δ2,x,_,I2',h2,fun u F3 H3 ρ3 δ3 I3 s3 h3=>?_,kx.mono (s1.trans s2)⟩,kx.mono s1⟩,kx⟩;have sa:=(s1.trans s2).trans s3;have r3:=r1.mono (s2.trans s3);unfold slF at h3;cases d with
 |lst xs=>
  obtain ⟨a,vs,rfl,ea,z⟩:=rep_lst.mp r3;exact .inl ⟨a,vs,rfl,SqL.of (I3.sub _ _ ea),fun p hp=>k _ _ _ _ ρ3 δ3 (I3.alloc hp) (sa.trans (I3.grow hp)) (I3.lst hp z.cut) h3⟩
 |tup xs=>
  obtain ⟨a,vs,rfl,ea,z⟩:=rep_tup.mp r3;exact .inr ⟨a,vs,rfl,SqT.of (I3.sub _ _ ea),by rw[z.length];exact h3.1,fun p hp=>k _ _ _ _ ρ3 δ3 (I3.alloc hp) (sa.trans (I3.grow hp)) (I3.tup hp z.cut) h3.2⟩
 |_=>exact h3.elim
end
theorem r0l{te:TE2}{js:List Nat}{ρ:En}{q:List D→Dk→Prop}:∀(ds acc:List D) (δ:Dk),compM false 1 u0d te js ρ q ds acc δ=c8 te js ρ q ds acc δ
 | [],acc,δ=>rfl
 |d::ds,acc,δ=>by
  show (te (fun _ _ _ _=>False) (.val d::capt ρ js) δ fun e _ δ2=>acc.length<1000∧compM false 1 u0d te js ρ q ds (acc++[e]) δ2)=te (fun _ _ _ _=>False) (.val d::capt ρ js) δ fun e _ δ1=>acc.length<1000∧c8 te js ρ q ds (acc++[e]) δ1
  congr 1;funext e ρ1 δ1;rw[r0l ds (acc++[e]) δ1]
end DL
namespace L2
open PySem PySem.Spec PyProof.Rows PySem.W PySem.SeqAt
open AutoSeq1 (wpAny_loadPart')
open MeetsSeq MeetsSeq2 MeetsSeq3 SeqRoads2
section
variable{prog:Program}{w:World}{A:Around}{E:Value→Shared→Prop}{s:Shared}
end
section
variable{B:Nat}
end
section
variable{prog:Program}{w:World}{A:Around}{E:Value→Shared→Prop}{s:Shared}
end
end L2
namespace L2
open PySem PySem.Spec PyProof.Rows PySem.W
section
variable{X:Cx}
end
end L2
namespace DL
open PySem PySem.Spec L2
end DL
namespace L2
open PySem PySem.Spec PyProof.Rows PySem.W
open AutoSeq1 (wpAny_loadPart')
section
variable{X:Cx}
end
end L2
namespace DL
open PySem PySem.Spec L2
noncomputable def repTF:F2:=fun d1 d2 q=>match d1,d2 with
 | .tup xs,.int k=>xs.length*k.toNat≤1000∧2≤k∧k≤1000∧xs≠[]∧q (.tup (List.replicate k.toNat xs).flatten)
 |_,_=>False
end DL
namespace L2
end L2
namespace DL
open PySem PySem.Spec L2
end DL
namespace DL
open PySem PySem.Spec L2
theorem b8{X:Cx}{Y:Y2}{W:XW}{ss:List Stmt}{t t':TS2}(h:PSs2 X Y W ss t)(k:∀E ρ δ,t' E ρ δ→t E ρ δ):PSs2 X Y W ss t':=⟨l0u h.go fun D σ H ⟨F,ρ,δ,E2,I,q,er⟩=>⟨F,ρ,δ,E2,I,k _ _ _ q,er⟩⟩
end DL
namespace L2
open PySem PySem.Spec PyProof.Rows PySem.W
end L2
namespace DL
open PySem PySem.Spec L2
section
variable{X:Cx}{Y:Y2}{W:XW}{x:Str}{p tpos pos:Pos}{e j:Expr}{te tj:TE2}
noncomputable def t2AugV(i:Nat)(g:Int→Int→Int)(tj te:TE2):TS2:=fun E ρ δ=>(mutV ρ δ i).isSome=true∧tj E.xc ρ δ fun dj ρ1 δ1=>match mutV ρ1 δ1 i,dj with
 |some (ds,_),.int j=>(match atI ds j with
  |some (.int a)=>te E.xc ρ1 δ1 fun d ρ2 δ2=>(match d,mutV ρ2 δ2 i with
   | .int b,some (ds',put)=>(match ixN ds'.length j with |some m=>E.nx (put (ds'.set m (.int (g a b)))).1 (put (ds'.set m (.int (g a b)))).2 |none=>False)
   |_,_=>False)
  |_=>False)
 |_,_=>False
end
end DL
namespace DL
open PySem PySem.Spec L2
theorem k0l{te:TE2}{js:List Nat}{ρ:En}{q:List D→Dk→Prop}{ds:List D}{δ:Dk}(I:Nat→Dk→Prop)(R:Nat→D→D→Prop)(hl:ds.length≤1000)(h0:I 0 δ)
 (step:∀(i:Nat) (d:D) (δ':Dk),ds[i]?=some d→I i δ'→∀Q:D→Dk→Prop,(∀e δ1,R i d e→I (i+1) δ1→Q e δ1)→te (fun _ _ _ _=>False) (.val d::capt ρ js) δ' fun e _ δ1=>Q e δ1)
 (fin:∀acc δ',acc.length=ds.length→(∀i d e,ds[i]?=some d→acc[i]?=some e→R i d e)→I ds.length δ'→q acc δ'):c8 te js ρ q ds [] δ:=by
 refine r0n (fun i acc δ'=>acc.length=i∧(∀j d e,ds[j]?=some d→acc[j]?=some e→R j d e)∧I i δ') ⟨rfl,fun j d e _ h=>(by simp at h),h0⟩ ?_ ?_
 ·rintro i d acc δ' rest hi ⟨rfl,hR,hI⟩ hrest;have hlt:=(List.getElem?_eq_some_iff.mp hi).1;refine step _ d δ' hi hI (fun e δ1=>acc.length<1000∧rest (acc++[e]) δ1) fun e δ1 hr hI1=>⟨by omega,hrest _ _ ⟨by rw[List.length_append];rfl,fun j d' e' h1 h2=>?_,hI1⟩⟩
  rcases Nat.lt_or_ge j acc.length with hj |hj
  ·rw[List.getElem?_append_left hj]at h2;exact hR j d' e' h1 h2
  ·rw[List.getElem?_append_right hj]at h2;have hj2:j-acc.length=0:=by
    have:=(List.getElem?_eq_some_iff.mp h2).1;simp at this;omega
   rw[hj2]at h2;have hj3:j=acc.length:=by omega
   subst hj3;rw[hi]at h1;cases h1;cases h2;exact hr
 ·rintro acc δ' ⟨h1,h2,h3⟩;exact fin acc δ' h1 h2 h3
theorem h0y{te:TE2}{js:List Nat}{ρ:En}{q:List D→Dk→Prop}{ds:List D}{δ:Dk}(f:D→D)(hl:ds.length≤1000)
 (step:∀d∈ds,∀Q:D→Dk→Prop,Q (f d) δ→te (fun _ _ _ _=>False) (.val d::capt ρ js) δ fun e _ δ1=>Q e δ1) (fin:q (ds.map f) δ):c8 te js ρ q ds [] δ:=by
 refine k0l (fun _ δ'=>δ'=δ) (fun _ d e=>e=f d) hl rfl (fun i d δ' hi h Q hQ=>?_) fun acc δ' h1 h2 h3=>?_
 ·subst h;exact step d (List.mem_of_getElem? hi) Q (hQ _ _ rfl rfl)
 ·subst h3;have:acc=ds.map f:=by
   apply List.ext_getElem?;intro i;rw[List.getElem?_map];cases e1:ds[i]? with
   |none=>
    rw[List.getElem?_eq_none_iff]at e1;rw[List.getElem?_eq_none (by omega)];rfl
   |some d=>
    have hi:=(List.getElem?_eq_some_iff.mp e1).1;have hi2:i<acc.length:=by omega
    rw[List.getElem?_eq_getElem hi2,h2 i d _ e1 (List.getElem?_eq_getElem hi2)];rfl
  rw[this];exact fin
theorem v0q{tup:Bool}{n:Nat}{tc:TT2}{te:TE2}{js:List Nat}{ρ:En}{q:List D→Dk→Prop}{ds:List D}{δ:Dk}(p:D→Bool)(f:D→D)(hl:ds.length≤1000)
 (step:∀d∈ds,∀Q:Option D→Dk→Prop,(p d=true→Q (some (f d)) δ)→(p d=false→Q none δ)→∃es,tgD tup n d=some es∧tc (fun _ _ _ _=>False) (es.map .val++capt ρ js) δ fun b ρ1 δ1=>if b=true then te (fun _ _ _ _=>False) ρ1 δ1 fun e _ δ2=>Q (some e) δ2 else Q none δ1)
 (fin:q ((ds.filter p).map f) δ):compM tup n tc te js ρ q ds [] δ:=by
 refine e0j (fun i acc δ'=>acc=((ds.take i).filter p).map f∧δ'=δ) ⟨by simp,rfl⟩ ?_ ?_
 ·rintro i d acc δ' rest hi ⟨rfl,rfl⟩ hrest;have hlt:=(List.getElem?_eq_some_iff.mp hi).1;have hlen:(((ds.take i).filter p).map f).length<1000:=by
   rw[List.length_map];have:=List.length_filter_le p (ds.take i);rw[List.length_take]at this;omega
  obtain ⟨es,e1,e2⟩:=step d (List.mem_of_getElem? hi) (fun o δ1=>match o with |some e=>(((ds.take i).filter p).map f).length<1000∧rest (((ds.take i).filter p).map f++[e]) δ1 |none=>rest (((ds.take i).filter p).map f) δ1)
   (fun hp=>⟨hlen,hrest _ _ ⟨by rw[List.take_succ,hi,List.filter_append,List.map_append];simp[hp],rfl⟩⟩) fun hp=>hrest _ _ ⟨by rw[List.take_succ,hi,List.filter_append,List.map_append];simp[hp],rfl⟩
  rw[e1];exact e2
 ·rintro acc δ' ⟨rfl,rfl⟩;rw[List.take_length];exact fin
end DL
namespace L2
open PySem PySem.Spec PyProof.Rows
section
variable{prog:Program}{w:World}{A:Around}{E:Value→Shared→Prop}{s:Shared}
end
section
variable{prog:Program}{w:World}{A:Around}{E:Value→Shared→Prop}{s:Shared}
end
section
variable{X:Cx}
end
end L2
namespace DL
open PySem PySem.Spec L2
section
variable{X:Cx}{Y:Y2}{W:XW}{a e tg:Expr}{ta:TA2}{te:TE2}{p p2 pos pos2:Pos}
noncomputable def t2TR(ta:TA2):TE2:=fun x ρ δ q=>ta x ρ δ fun ds ρ1 δ1=>lrQ ds fun l=>q (.tup l) ρ1 δ1
noncomputable def e0i(g:G2)(te:TE2):TS2:=fun E ρ δ=>te E.xc ρ δ fun d ρ1 δ1=>match g d ρ1 with |some ρ2=>E.nx ρ2 δ1 |none=>False
theorem s2_unp{g:TG}{g2:G2}(he:PE2 X Y W e te)(hg:PG X tg g)(hd:TgD X.K g g2)(hs:swapsWithSole [tg] e pos.line X.env=pure false:=by rfl)(hw:swappedStores [tg] e X.env=pure none:=by rfl)
 (h1:(assignEach [tg] X.env).map (·.2)=[assign tg X.env]:=by rfl):PS2 X Y W (.Assign [tg] e pos) (e0i g2 te):=ps2 (d0i he.go hg hs hw h1) fun E1 σ H ⟨F,ρ,δ,E2,I,h,er⟩=>by
 refine ⟨F,ρ,δ,E2.xc,_,I,h,fun d v F1 H1 ρ1 δ1 I1 s1 r1 h1=>?_,er.xc⟩;split at h1
 ·rename_i ρ2 e2;exact hd Y F1 H1 σ ρ1 ρ2 δ1 d v _ I1 r1 e2 fun σ' I'=>er.nx σ' F1 H1 ρ2 δ1 I' s1 h1
 ·exact h1.elim
end
end DL
namespace L2
open PySem PySem.Spec PyProof.Rows
section
variable{prog:Program}{w:World}{A:Around}{E:Value→Shared→Prop}{s:Shared}
end
noncomputable def sortZ(ns:List Int):List Int:=ns.mergeSort fun a b=>decide (a≤b)
section
variable{X:Cx}
end
end L2
namespace DL
open PySem PySem.Spec L2
noncomputable def sortIF:F1:=fun ds q=>match ds with
 | [d]=>(match seqD d with |some xs=>(match k0m xs with |some ns=>ns.length<64∧q (.lst ((sortZ ns).map D.int))|none=>False)|none=>False)
 |_=>False
end DL
namespace L2
open PySem PySem.Spec PyProof.Rows PySem.W
open AutoSeq1 (wpAny_loadPart')
section
variable{X:Cx}
noncomputable def rEqL(K:PySem.W.Frag)(neg:Bool):R2:=fun x y H Q=>∃a b xs ys,x=.ref a∧y=.ref b∧SqL K H a xs∧SqL K H b ys∧xs.all y0t=true∧ys.all y0t=true∧Q (.bl (if neg then !eqVs xs ys else eqVs xs ys)) H
theorem c0n(hu:X.A.units<cLine):OpR X (compareOp .NotEq) (rEqL X.K true):=by
 intro pins s σ H x y v u Q I rx ry h;obtain ⟨a,b,xs,ys,rfl,rfl,ha,hb,f1,f2,q⟩:=h;cases rx;cases ry;obtain ⟨its,r,p,_⟩:=I.list ha;obtain ⟨its2,r2,p2,_⟩:=I.list hb;have e0:=x0m xs ys;by_cases hz:its.toArray.size=its2.toArray.size
 ·refine SeqAt.RcNeAt.lists p.isList p2.isList hz hu (r0m r r2 f1 f2) X.prog X.w X.xe _ ⟨.bl (!eqVs xs ys),H,I,?_,q⟩;rw[←e0,r.length,r2.length];simp only[List.size_toArray]at hz ⊢;rw[hz,Nat.min_self,beq_self_eq_true,Bool.and_true];rfl
 ·refine SeqAt.RcNeAt.lists_lengths p.isList p2.isList (by simpa using hz) hu X.prog X.w X.xe _ ⟨.bl (!eqVs xs ys),H,I,?_,q⟩;have:(xs.length==ys.length)=false:=by
   rw[r.length,r2.length];simpa using hz
  rw[←e0,this,Bool.and_false];rfl
end
end L2
namespace DL
open PySem PySem.Spec L2
noncomputable def a0c:F2:=fun d1 d2 q=>match d1,d2 with
 | .tup xs,.int k=>xs.length*k.toNat≤1000∧0≤k∧k≤1000∧xs≠[]∧q (.tup (List.replicate k.toNat xs).flatten)
 |_,_=>False
noncomputable def neL:F2:=fun d1 d2 q=>match d1,d2 with | .lst xs,.lst ys=>(xs.all y7&&ys.all y7)=true∧q (.bl (!eqDs xs ys))|_,_=>False
theorem d_neL{K:PySem.W.Frag}:OpD K (rEqL K true) neL:=by
 intro Y F H σ ρ δ x y d1 d2 Q1 q I r1 r2 h' k;unfold neL at h';split at h'
 ·rename_i xs ys;obtain ⟨hf,h'⟩:=h';rw[Bool.and_eq_true]at hf;obtain ⟨a,vs,rfl,e1,z1⟩:=rep_lst.mp r1;obtain ⟨b,us,rfl,e2,z2⟩:=rep_lst.mp r2;obtain ⟨e3,e4⟩:=q8 hf.1 z1;obtain ⟨e5,e6⟩:=q8 hf.2 z2;refine ⟨a,b,vs,us,rfl,rfl,SqL.of (I.sub _ _ e1),SqL.of (I.sub _ _ e2),e4,e6,?_⟩;rw[if_pos rfl,e3,e5,p0n];exact k _ _ F H I (Same.refl F) (rep_bl.mpr rfl) h'
 ·exact h'.elim
noncomputable def maxLF:F1:=fun ds q=>match ds with | [d]=>(match seqD d with |some xs=>(match k0m xs with |some ns=>ns≠[]∧∀n∈ns,q (.int n)|none=>False)|none=>False)|_=>False
theorem x0k:bootBuiltins "str"=some (.type "str"):=by kernel_rfl
noncomputable def strF:F1:=fun ds q=>match ds with | [.int i]=>i.natAbs.log2<1920∧q (.str (toString i))|_=>False
theorem n0s{K:PySem.W.Frag}:v0e K (fun xs H Q=>∃i,xs=[V.int i]∧i.natAbs.log2<1920∧Q (V.str (toString i)) H) strF:=by
 intro Y F H σ ρ δ vs ds Q1 q I r h' k;unfold strF at h';split at h'
 ·obtain ⟨v,rfl,r1⟩:=d8 r;rw[rep_int.mp r1];exact ⟨_,rfl,h'.1,k _ _ F H I (Same.refl F) (rep_str.mpr rfl) h'.2⟩
 ·exact h'.elim
noncomputable def addS:F2:=fun d1 d2 q=>match d1,d2 with
 | .str x,.str y=>x.length+y.length≤1000∧q (.str (x++y))
 |_,_=>False
noncomputable def addH:F2:=fun d1 d2 q=>match d1,d2 with
 | .lst xs,.lst ys=>xs.length+ys.length≤100000∧q (.lst (xs++ys))
 |_,_=>False
section
variable{X:Cx}{Y:Y2}{W:XW}{a b:Expr}{ta tb:TE2}{x:Str}{pos pos' bpos:Pos}
noncomputable def e0h(i:Nat)(ta tb:TE2):TS2:=fun E ρ δ=>ta E.xc ρ δ fun d1 ρ1 δ1=>tb E.xc ρ1 δ1 fun d2 ρ2 δ2=>match d1,d2 with
 | .lst xs,.int k=>xs.length*k.toNat≤1000∧0≤k∧k≤1000∧E.nx (ρ2.set i (.own (List.replicate k.toNat xs).flatten)) δ2
 |_,_=>False
variable{i:Nat}{p:Pos}
end
end DL
namespace L2
end L2
namespace DL
open PySem PySem.Spec L2
noncomputable def valD(kvs:List (Key×D))(k:Key):Option D:=(kvs.find? fun kv=>decide (kv.1=k)).map (·.2)
noncomputable def putD(kvs:List (Key×D))(k:Key)(v:D):List (Key×D):=if (kvs.any fun kv=>decide (kv.1=k))=true then kvs.map (fun kv=>if kv.1=k then (kv.1,v)else kv)else kvs++[(k,v)]
section
variable{K:Frag}{F:Hp}
end
section
variable{X:Cx}{Y:Y2}{W:XW}{e j:Expr}{te tj tx:TE2}{x:Str}{i:Nat}{p pos pos' spos:Pos}
noncomputable def a0b(i:Nat):TS2:=fun E ρ δ=>E.nx (ρ.set i (.ownD [])) δ
noncomputable def t2PutD(i:Nat)(tj te:TE2):TS2:=fun E ρ δ=>te E.xc ρ δ fun d ρ1 δ1=>hasV ρ1 i=true∧tj E.xc ρ1 δ1 fun dj ρ2 δ2=>match ρ2[i]?,dj with
 |some (.ownD kvs),.int k=>kvs.length<1000∧E.nx (ρ2.set i (.ownD (putD kvs (.inl k) d))) δ2
 |_,_=>False
noncomputable def dicV(ρ:En)(i:Nat):Option (List (Key×D)):=match ρ[i]? with
 |some (.ownD kvs)=>some kvs
 |some (.val (.dwk kvs))=>some kvs
 |_=>none
noncomputable def t2GetD(i:Nat)(ty tx:TE2):TE2:=fun x ρ δ q=>(dicV ρ i).isSome=true∧ty x ρ δ fun dk ρ1 δ1=>tx x ρ1 δ1 fun dd ρ2 δ2=>match dicV ρ2 i,dk with
 |some kvs,.int k=>q ((valD kvs (.inl k)).getD dd) ρ2 δ2
 |_,_=>False
noncomputable def t2IxD(i:Nat)(ty:TE2):TE2:=fun x ρ δ q=>(dicV ρ i).isSome=true∧ty x ρ δ fun dk ρ1 δ1=>match dicV ρ1 i,dk with
 |some kvs,.int k=>(match valD kvs (.inl k)with |some d=>q d ρ1 δ1 |none=>False)
 |_,_=>False
end
end DL
namespace L2
open PySem PySem.Spec PyProof.Rows
section
variable{X:Cx}{pins:List (Addr×Obj)}{σ:St}{H:Hp}{s:Shared}{a:Addr}{kvs:List (Key×V)}
variable{tg:Expr}
end
end L2
namespace DL
open PySem PySem.Spec L2
section
variable{X:Cx}{Y:Y2}{W:XW}{tg e:Expr}{te:TE2}{x:Str}{i:Nat}{p pos:Pos}{K:Frag}
noncomputable def t2VD(i:Nat):TE2:=fun _ ρ δ q=>match ρ[i]? with |some (.ownD kvs)=>q (.dwk kvs) (ρ.set i (.val (.dwk kvs))) δ |_=>False
noncomputable def t2DicV(i:Nat)(v:Int):TE2:=fun _ ρ δ q=>match ρ[i]? with |some (.val (.int k))=>q (.dwk [(.inl k,.int v)]) ρ δ |_=>False
noncomputable def keyD:Key→D
 | .inl n=>.int n
 | .inr s=>.str s
noncomputable def t2Keys(te:TE2):TI2:=fun x ρ δ q=>te x ρ δ fun d ρ1 δ1=>match d with | .dwk kvs=>q (kvs.map fun kv=>keyD kv.1) ρ1 δ1 |_=>False
end
end DL
namespace L2
open PySem PySem.Spec PyProof.Rows
structure RoomU(k:Nat)(A:Around):Prop where
 dp:A.depth+3*k+5<recursionLimit
 un:A.units+16*k+200<cLine
theorem Room.u{k:Nat}{A:Around}(r:Room k A):RoomU k A:=⟨r.dp,r.un⟩
theorem RoomU.mono{j k:Nat}{A:Around}(r:RoomU k A)(h:j≤k):RoomU j A:=⟨by have:=r.dp;omega,by have:=r.un;omega⟩
theorem RoomU.deeper{k:Nat}{A:Around}(r:RoomU (k+1) A)(env:Env):RoomU k (A.deeper env):=
 ⟨by have:=r.dp;show A.depth+1+3*k+5<_;omega,by have:=r.un;show A.units+3+16*k+200<_;omega⟩
theorem RoomU.mark{k:Nat}{A:Around}(r:RoomU k A){v:Option Value}:RoomU k (A.mark v):=⟨r.dp,r.un⟩
structure FnOkU(P:Program)(w:World)(K:PySem.W.Frag)(mg:Str→Option Value)(base:Heap)(CX:CXT)(k:Nat)(f:Addr)(fd:FuncData)(ps:List Str)(sp:Sp):Prop where
 len:∀vs H Q E,sp vs H Q E→vs.length=ps.length
 run:∀(A:Around) (outer:List Env) (s:Shared) (H:Hp) (args:Args) (us:List Value) (vs:List V) (Q:VK) (E:XK),RoomU k A→Env0 P w K mg base A outer s H→BindsTo s fd args (ps.zip us)→Vals vs us→sp vs H Q E→
  codeAny (model P w) A (.call (.ref f) args) (CR CX outer P w H s Q E) s
theorem k0k{CX:CXT}{P:Program}{w:World}{K:PySem.W.Frag}{mg:Str→Option Value}{base:Heap}{N ps:List Str}{qual:Str}{scope:Scope}{f:Addr}{cd:Value}{A:Around}{outer:List Env}{s s1:Shared}{H:Hp}{E:XK}{us:List Value}{vs:List V}
 (S:FnScope N ps scope) (e0:Env0 P w K mg base A outer s H) (hl:vs.length=ps.length) (r:Vals vs us)
 (x:InCallC s s.heap.objs.size (bindL (envOfC qual scope s.heap.objs.size f cd).kindOf (ps.zip us) fun _=>none) (cellsFrom (s.heap.objs.size+1) scope.names []) (bindC (envOfC qual scope s.heap.objs.size f cd).kindOf (ps.zip us) fun _=>none) s1):
 Inv {cxOf CX P w K mg base N qual scope f cd A outer s H E with calm:=false} [] (start N vs) H s1:=by
 have e1:Env0 P w K mg base {A with handled:=none} outer s H:=⟨e0.frames,e0.mod,e0.bs,e0.bsz,e0.funs,e0.frf,e0.hok,e0.bare⟩;have I:=q0k (CX:=CX) (qual:=qual) (f:=f) (cd:=cd) (E:=E) S rfl e1 hl r x;exact ⟨⟨I.ok.mod,I.ok.kind,I.ok.glob,I.ok.blt,I.ok.above,I.ok.inj,I.ok.has,I.ok.cab,(fun h=>nomatch h),Around.frames_deeper e0.frames,I.ok.stk,I.ok.exf,I.ok.bs,I.ok.bsz,I.ok.noex,I.ok.exfs,I.ok.funs,I.ok.frf⟩,I.os,I.bare,I.base,I.loc,I.cell,I.free,I.freeC,I.pin,I.hok,I.len⟩
theorem fn_ofU{CX:CXT}{P:Program}{w:World}{K:PySem.W.Frag}{mg:Str→Option Value}{base:Heap}{k:Nat}{f:Addr}{name qual:Str}{params:Arguments}{body:List Stmt}{scope:Scope}{dV kV doc pm cdv ct oc:Value}{an od:Option Addr}
 {osl:Array (Option Value)} {N ps:List Str} {sp:Sp} (lk:K.lookup f=some ⟨oc,od,.func (PySem.W.fnOf name qual params body scope dV kV doc pm an cdv ct),osl⟩) (hcd:PySem.W.codeIn K cdv qual=true) (S:FnScope N ps scope)
 (len:∀vs H Q E,sp vs H Q E→vs.length=ps.length)
 (hbody:∀(A:Around) (outer:List Env) (s:Shared) (H:Hp) (vs:List V) (Q:VK) (E:XK),RoomU k (A.deeper (envOfC qual scope s.heap.objs.size f cdv))→sp vs H Q E→
  ∃t,PSs {cxOf CX P w K mg base N qual scope f cdv A outer s H E with calm:=false} body t∧t {nx:=fun _ H'=>Q .non H',rt:=Q} (start N vs) H):
 FnOkU P w K mg base CX (k+1) f (PySem.W.fnOf name qual params body scope dV kV doc pm an cdv ct) ps sp:=by
 refine ⟨len,fun A outer s H args us vs Q E hr e0 hb r hsp=>?_⟩;have hl:=len _ _ _ _ hsp;have KX:K.In s.heap:=e0.mod.kin.keeps fun b o e=>(e0.bs b o e).1
 have lim:s.heap.NoLimit:=e0.mod.nolimit.keeps fun b o e=>(e0.bs b o e).1
 have hkind:∀y∈ps.zip us,scope.names.lookup y.1=some .local∨(scope.names.lookup y.1=some .cell∧((cellsFrom (s.heap.objs.size+1) scope.names []).lookup y.1).isSome=true):=fun ⟨n,v⟩ hy=>by
  rcases S.par n (List.of_mem_zip hy).1 with q |q
  ·exact .inl q
  ·exact .inr ⟨q,PySem.W.cellsFrom_some _ _ _ (.inl q)⟩
 refine codeAny_call_function (by have:=hr.dp;omega) (KX _ _ lk) rfl S.co S.gen rfl (PySem.W.codeRec_of KX hcd) (hb _ _ _ _ ?_);refine wpAny_newFunctionEnv_cells S.kind hkind fun env he s1 x=>?_
 subst he;refine ⟨lim.keeps x.toInCall.keep,codeAny_func ?_⟩;obtain ⟨t,ht,hq⟩:=hbody A outer s H vs Q E (hr.deeper _) hsp;have I:Inv {cxOf CX P w K mg base N qual scope f cdv A outer s H E with calm:=false} [] (start N vs) H s1:=k0k S e0 hl r x;refine wpAny_mono (ht [] s1 (start N vs) H _ I hq) (fun fl s' hs=>?_) fun e s' hs=>hs
 have fin:∀{σ':St} {H':Hp} {v:V} {u:Value},Inv {cxOf CX P w K mg base N qual scope f cdv A outer s H E with calm:=false} [] σ' H' s'→RelV v u→Q v H'→CE outer P w H s Q u s':=
  fun {σ' H' v u} J rv q=>⟨v,H',J.os,J.bare,J.base,J.hok,rv,q⟩
 cases fl with
 |ret u=>
  obtain ⟨v,σ',H',J,rv,q⟩:=hs;exact fin J rv q
 |next=>
  obtain ⟨σ',H',J,q⟩:=hs;exact fin (v:=V.non) (u:=Value.none) J rfl q
 |brk=>
  obtain ⟨_,_,_,q⟩:=hs;exact False.elim q
 |cont=>
  obtain ⟨_,_,_,q⟩:=hs;exact False.elim q
structure FnAtU(P:Program)(w:World)(K:PySem.W.Frag)(mg:Str→Option Value)(base:Heap)(CX:CXT)(x:Str)(k:Nat)(ps:List Str)(sp:Sp):Prop where
 ex:∃f fd,FnOkU P w K mg base CX k f fd ps sp∧mg x=some (.ref f)∧PySem.W.keepIn K (.ref f)=true∧Binds K fd ps []
section
variable{X:Cx}{pins:List (Addr×Obj)}{σ:St}{H:Hp}{s:Shared}
end
end L2
namespace DL
open PySem PySem.Spec L2
open PySem.W (XC)
open PyProof.Rows (envOfC)
section
variable{X:Cx}{Y:Y2}{W:XW}{x:Str}{p pos:Pos}{e:Expr}{es:List Expr}{t:TA2}{k:Nat}{ps:List Str}{sp:Sp2}
end
section
variable{P:Program}{w:World}{K:Frag}{mg:Str→Option Value}{base:Heap}
end
end DL
namespace L2
open PySem PySem.Spec PyProof.Rows PySem.Calls
section
variable{prog:Program}{w:World}{A:Around}{E:Value→Shared→Prop}{s:Shared}{I l:Addr}{its:Array Value}
end
end L2
namespace L2
open PySem PySem.Spec PyProof.Rows PySem.Calls
section
variable{X:Cx}
end
end L2
namespace DL
open PySem PySem.Spec L2
section
variable{X:Cx}{Y:Y2}{W:XW}{a:Expr}{ta:TA2}{p p2 pos pos2 spos:Pos}
noncomputable def e0g(ta:TA2):TS2:=fun E ρ δ=>ta E.xc ρ δ fun ds ρ1 δ1=>δ1=none∧match ds with | [d]=>(match d with | .lst xs=>∀p,E.rt (.ref p) (some (p,xs.reverse))|_=>False)|_=>False
end
end DL
namespace L2
open PySem PySem.Spec PyProof.Rows PySem.Calls PySem.W
section
variable{X:Cx}
noncomputable def IsMin(ns:List Int)(m:Int):Prop:=m∈ns∧∀n∈ns,m≤n
end
end L2
namespace DL
open PySem PySem.Spec L2
section
variable{K:Frag}
noncomputable def minLF:F1:=fun ds q=>match ds with | [d]=>(match seqD d with |some xs=>(match k0m xs with |some ns=>ns≠[]∧∀m,IsMin ns m→q (.int m)|none=>False)|none=>False)|_=>False
end
section
variable{X:Cx}{Y:Y2}{W:XW}{x:Str}{p apos cpos p2 pos2:Pos}
noncomputable def a0a(i:Nat):TE2:=fun _ ρ δ q=>match dicV ρ i with |some kvs=>q (.lst (kvs.map (·.2))) ρ δ |none=>False
noncomputable def t2LenD(i:Nat):TE2:=fun _ ρ δ q=>match dicV ρ i with |some kvs=>q (.int (kvs.length:Nat)) ρ δ |none=>False
end
end DL
namespace DL
open PySem PySem.Spec L2
structure DI(l:List (Key×D))(g:Int→Int→Prop):Prop where
 nd:(l.map (·.1)).Nodup
 all:∀kv∈l,∃k v:Int,kv=(.inl k,.int v)∧g k v
end DL
namespace L2
open PySem PySem.Spec PyProof.Rows PySem.Calls
section
variable{prog:Program}{w:World}{A:Around}{E:Value→Shared→Prop}{I:Addr}{fp wr:List Addr}{n:Nat}{P:Nat→Value→Prop}{St:Nat→Heap→Prop}
theorem p0m(W:Walks prog w A I fp wr n P St):∀(k i:Nat) (s:Shared) (Q:List Value→Shared→Prop),St i s.heap→i+k≤n→
 (∀vs h' tk,vs.length=k→(∀(j:Nat) v,vs[j]?=some v→P (i+j) v)→St (i+k) h'→(∀b o,b∉wr→s.heap.get? b=some o→h'.get? b=some o)→Q vs {s with heap:=h',toks:=tk})→wpAny (model prog w) A (draw (.ref I) k) Q E s
 | 0,i,s,Q,st,_,q=>by
  show wpAny _ _ (pure []) Q E s;exact wpAny_pure (q [] s.heap s.toks rfl (fun j v e=>nomatch e) st fun b o _ e=>e)
 |k+1,i,s,Q,st,hk,q=>by
  show wpAny _ _ (pyNext (.ref I) >>= _) Q E s;refine wpAny_bind (W.item i s _ _ (by omega) st fun v h1 t1 hv st1 k1=>?_);refine wpAny_bind (wpAny_holding (p0m W k (i+1) _ _ st1 (by omega) fun vs h2 t2 hl hP st2 k2=>wpAny_pure ?_));refine q (v::vs) h2 t2 (by rw[List.length_cons,hl]) (fun j u e=>?_) (by rw[show i+(k+1)=i+1+k by omega];exact st2) fun b o hb e=>k2 b o hb (k1 b o hb e)
  cases j with
  |zero=>cases e;exact hv
  |succ j=>rw[show i+(j+1)=i+1+j by omega];exact hP j u e
end
section
variable{prog:Program}{w:World}{A:Around}{E:Value→Shared→Prop}{s:Shared}
theorem n0r{l:Addr}{its:Array Value}{ts:List (Bool×(Value→Sem Unit))}{Q:Unit→Shared→Prop}(hh:A.handled=none)(hl:s.heap.IsList l its)(p:SqAt false s.heap l its)(hn:ts.length=its.size)(hstar:ts.findIdx? (·.1)=none)
 (h:∀h' tk,(∀b o,s.heap.get? b=some o→h'.get? b=some o)→wpAny (model prog w) A (assignInOrder (ts.map (·.2)) its.toList) Q E {s with heap:=h',toks:=tk}):
 wpAny (model prog w) A (unpack (.ref l) ts) Q E s:=by
 have hlt:l<s.heap.objs.size:=by obtain ⟨_,e,_⟩:=p.obj;exact Heap.lt_size e
 unfold unpack;rw[hn,hstar];refine wpAny_bind (wpAny_holding ?_);unfold unpackItems;refine wpAny_bind ?_;unfold notIterableAtAll;refine wpAny_bind (wpAny_specialOf hl.typeIs PySem.F.slot_list_iter.lookup ?_);refine wpAny_pure ?_;simp only[Bool.false_eq_true,if_false];refine wpAny_bind (wpAny_holding (n0u p ?_));have W:=e0m (prog:=prog) (w:=w) false (A:=A) hh s.heap.objs.size l (Nat.ne_of_lt hlt) its;refine wpAny_bind (wpAny_holding (p0m W its.size 0 _ _ ⟨.of (Heap.get?_push_size _ rfl) rfl rfl,p.stay fun o e=>Heap.get?_push_of_some _ e⟩ (by omega) fun vs h1 t1 hlen hP st1 k1=>?_));have ev:vs=its.toList:=by
  apply List.ext_getElem?;intro j;by_cases z:j<vs.length
  ·have e1:=hP j _ (List.getElem?_eq_getElem z);rw[Nat.zero_add]at e1;rw[List.getElem?_eq_getElem z,Array.getElem?_toList,e1]
  ·rw[List.getElem?_eq_none (by omega),List.getElem?_eq_none (by simp;omega)]
 subst ev;rw[if_neg (by simp)];rw[Nat.zero_add]at st1;refine wpAny_bind (wpAny_holding (W.done _ _ _ st1 fun h2 t2 k2=>?_));simp only[Option.isSome_none,Bool.false_eq_true,if_false];refine wpAny_pure (h h2 t2 fun b o e=>?_);have nb:b∉ [s.heap.objs.size]:=fun z=>by
  have z':b=s.heap.objs.size:=by simpa using z
  subst z';exact absurd (Heap.lt_size e) (Nat.lt_irrefl _)
 exact k2 b o nb (k1 b o nb (Heap.get?_push_of_some _ e))
end
section
variable{X:Cx}{pos:Pos}
noncomputable def gLst(K:PySem.W.Frag)(n:Nat)(t:TGs):TG:=fun v σ H Q=>∃a xs,v=.ref a∧SqL K H a xs∧xs.length=n∧t xs σ H Q
theorem pg_lst{es:List Expr}{k:Nat}{t:TGs}{n:Nat}(hc:X.calm=true)(h:PGs X es t)
 (hn:(assignEach es X.env).length=n:=by rfl) (hst:(assignEach es X.env).findIdx? (·.1)=none:=by rfl):PG X (.Tuple es k pos) (gLst X.K n t):=by
 intro pins s σ H v u Q I r hw;obtain ⟨a,xs,e1,hq,hl,hw⟩:=hw;subst e1;cases r;obtain ⟨its,rv,pl,hz⟩:=I.list hq;have p:SqAt false s.heap a its.toArray:=pl.isList;rw[assign_Tuple];refine wpAny_bind (wpAny_standAt (n0r (I.ok.hd hc) pl.isList p (by simp[hn,← hl,rv.length]) hst fun h' tk hx=>?_));have I1:Inv X pins σ H {s with heap:=h',toks:=tk}:=I.kept fun b o e=>hx b o e
 exact h pins _ σ H xs _ Q I1 (by simpa using rv) hw
end
end L2
namespace DL
open PySem PySem.Spec L2
noncomputable def g2L(is:List Nat):G2:=fun d ρ=>match d with | .lst ds=>v0r is ds ρ |_=>none
theorem td_lst{K:Frag}{is:List Nat}{n:Nat}(hn:is.length=n):TgD K (gLst K n (gAll is)) (g2L is):=fun Y F H σ ρ ρ' δ d v Q I r e k=>by
 unfold g2L at e;split at e
 ·rename_i ds;obtain ⟨a,vs,rfl,ea,z⟩:=rep_lst.mp r;obtain ⟨h1,h2⟩:=i0g I z e k;exact ⟨a,vs,rfl,SqL.of (I.sub _ _ ea),by rw[h2,hn],h1⟩
 ·cases e
end DL
namespace L2
open PySem PySem.Spec PyProof.Rows
section
variable{X:Cx}
theorem op_eqL(hu:X.A.units<cLine):OpR X (compareOp .Eq) (rEqL X.K false):=by
 intro pins s σ H x y v u Q I rx ry h;obtain ⟨a,b,xs,ys,rfl,rfl,ha,hb,f1,f2,q⟩:=h;cases rx;cases ry;obtain ⟨its,r,p,_⟩:=I.list ha;obtain ⟨its2,r2,p2,_⟩:=I.list hb;have e0:=x0m xs ys;by_cases hz:its.toArray.size=its2.toArray.size
 ·refine SeqAt.RcAt.lists p.isList p2.isList hz hu (r0m r r2 f1 f2) X.prog X.w X.xe _ ⟨.bl (eqVs xs ys),H,I,?_,q⟩;rw[←e0,r.length,r2.length];simp only[List.size_toArray]at hz ⊢;rw[hz,Nat.min_self,beq_self_eq_true,Bool.and_true];rfl
 ·refine SeqAt.RcAt.lists_lengths p.isList p2.isList (by simpa using hz) hu X.prog X.w X.xe _ ⟨.bl (eqVs xs ys),H,I,?_,q⟩;have:(xs.length==ys.length)=false:=by
   rw[r.length,r2.length];simpa using hz
  rw[←e0,this,Bool.and_false];rfl
end
end L2
namespace DL
open PySem PySem.Spec L2
noncomputable def eqL:F2:=fun d1 d2 q=>match d1,d2 with | .lst xs,.lst ys=>(xs.all y7&&ys.all y7)=true∧q (.bl (eqDs xs ys))|_,_=>False
theorem d_eqL{K:PySem.W.Frag}:OpD K (rEqL K false) eqL:=by
 intro Y F H σ ρ δ x y d1 d2 Q1 q I r1 r2 h' k;unfold eqL at h';split at h'
 ·rename_i xs ys;obtain ⟨hf,h'⟩:=h';rw[Bool.and_eq_true]at hf;obtain ⟨a,vs,rfl,e1,z1⟩:=rep_lst.mp r1;obtain ⟨b,us,rfl,e2,z2⟩:=rep_lst.mp r2;obtain ⟨e3,e4⟩:=q8 hf.1 z1;obtain ⟨e5,e6⟩:=q8 hf.2 z2;refine ⟨a,b,vs,us,rfl,rfl,SqL.of (I.sub _ _ e1),SqL.of (I.sub _ _ e2),e4,e6,?_⟩;rw[if_neg Bool.false_ne_true,e3,e5,p0n];exact k _ _ F H I (Same.refl F) (rep_bl.mpr rfl) h'
 ·exact h'.elim
end DL
namespace L2
open PySem PySem.Spec PyProof.Rows
section
variable{X:Cx}{pins:List (Addr×Obj)}{σ:St}{H:Hp}{s:Shared}
end
end L2
namespace DL
open PySem PySem.Spec L2
noncomputable def eqR:D→D→Option Bool
 | .tup xs,.tup ys=>if (xs.all y7&&ys.all y7)=true then some (eqDs xs ys)else none
 | .lst xs,.lst ys=>if (xs.all y7&&ys.all y7)=true then some (eqDs xs ys)else none
 |x,y=>if (y7 x&&y7 y)=true then some (eqV (toV x) (toV y))else none
noncomputable def eqRs:List D→List D→Option Bool
 | [],[]=>some true
 |x::xs,y::ys=>match eqR x y,eqRs xs ys with |some a,some b=>some (a&&b)|_,_=>none
 | [],_::_=>some false
 |_::_,[]=>some false
noncomputable def eqRF(neg:Bool):F2:=fun d1 d2 q=>match d1,d2 with
 | .lst xs,.lst ys=>(match eqRs xs ys with |some r=>q (.bl (if neg=true then !r else r))|none=>False)
 | .tup xs,.tup ys=>(match eqRs xs ys with |some r=>q (.bl (if neg=true then !r else r))|none=>False)
 |_,_=>False
end DL
namespace L2
open PySem PySem.Spec PyProof.Rows PySem.Calls
section
variable{X:Cx}
end
end L2
namespace DL
open PySem PySem.Spec L2
section
variable{X:Cx}{Y:Y2}{W:XW}{te:TE2}{K:Frag}
noncomputable def pairK(kv:Key×D):D:=.tup [keyD kv.1,kv.2]
noncomputable def z1z(te:TE2):TI2:=fun x ρ δ q=>te x ρ δ fun d ρ1 δ1=>match d with | .dwk kvs=>q (kvs.map pairK) ρ1 δ1 |_=>False
end
section
variable{K:Frag}
noncomputable def bigD(ns:List Int):Prop:=(∀n∈ns,0≤n)∧ns.sum<2^63
noncomputable def sumB:F1:=fun ds q=>match ds with | [d]=>(match seqD d with |some xs=>(match k0m xs with |some ns=>bigD ns∧q (.int ns.sum)|none=>False)|none=>False)|_=>False
end
section
variable{X:Cx}{Y:Y2}{W:XW}{e:Expr}{te:TE2}{x:Str}{pos pos':Pos}
noncomputable def t2AugM(i:Nat)(te:TE2):TS2:=fun E ρ δ=>rdV ρ i fun d1 ρ0=>te E.xc ρ0 δ fun d2 ρ1 δ1=>match d1,d2 with | .int a,.int b=>CMul a b∧E.nx (ρ1.set i (.val (.int (a*b)))) δ1 |_,_=>False
end
end DL
namespace DL
open PySem PySem.Spec L2
noncomputable def z1y:F1:=fun ds q=>match ds with | [.int i,.int j]=>CDiv i j∧q (.tup [.int (i/j),.int (i%j)])|_=>False
end DL
namespace DL
open PySem PySem.Spec L2
section
variable{X:Cx}{Y:Y2}{W:XW}{pos pos' bpos:Pos}{a b:Expr}{ta tb:TE2}{x:Str}
noncomputable def u0v(i:Nat)(ta tb:TE2):TS2:=fun E ρ δ=>ta E.xc ρ δ fun d1 ρ1 δ1=>tb E.xc ρ1 δ1 fun d2 ρ2 δ2=>match d1,d2 with
 | .lst xs,.lst ys=>xs.length+ys.length≤1000∧E.nx (ρ2.set i (.own (xs++ys))) δ2
 |_,_=>False
theorem p0l(i:Nat)(hN:X.N.Nodup)(ha:PE2 X Y W a ta)(hb:PE2 X Y W b tb)(hi:X.N[i]?=some x:=by rfl)(hx:Loc X.env.scope x:=by walk_at "v2")
 (hs:swapsWith (.BinOp a .Add b bpos) (some (.Name x pos')) pos.line X.env=pure false:=by rfl) (hf:X.fn x=true∨X.env.scope.names.lookup x=some .local:=by walk_at "v1"):
 PS2 X Y W (.Assign [.Name x pos'] (.BinOp a .Add b bpos) pos) (u0v i ta tb):=ps2 (m0l (i:=i) hN hi hx (pe_op d0a ha.go hb.go) hs hf) fun E1 σ H ⟨F,ρ,δ,E2,I,h,er⟩=>by
 refine ⟨F,ρ,δ,E2.xc,_,I,h,fun d1 v1 F1 H1 ρ1 δ1 I1 s1 r1 h1=>⟨F1,ρ1,δ1,E2.xc,_,I1,h1,fun d2 v2 F2 H2 ρ2 δ2 I2 s2 r2 h2=>?_,er.xc.mono s1⟩,er.xc⟩;split at h2
 ·rename_i xs ys;obtain ⟨l,vs,rfl,e1,z1⟩:=rep_lst.mp (r1.mono s2);obtain ⟨m,us,rfl,e2,z2⟩:=rep_lst.mp r2;exact ⟨l,m,vs,us,rfl,rfl,I2.sub _ _ e1,I2.sub _ _ e2,o0b (by rw[z1.length,z2.length];exact h2.1),fun p hp=>er.nx _ F2 _ _ δ2 (I2.own hp (z1.append z2)) (s1.trans s2) h2.2⟩
 ·exact h2.elim
end
end DL
namespace L2
open PySem PySem.Spec PyProof.Rows PySem.Calls PySem.W
section
variable{X:Cx}
variable{tg:Expr}
end
end L2
namespace DL
open PySem PySem.Spec L2
section
variable{X:Cx}{Y:Y2}{W:XW}{te:TE2}{K:Frag}{tg:Expr}
end
section
variable{X:Cx}{Y:Y2}{W:XW}{x:Str}{p apos cpos p2 pos2:Pos}
end
end DL
namespace L2
open PySem PySem.Spec PyProof.Rows
open AutoSeq1 (wpAny_loadPart')
section
variable{prog:Program}{w:World}{A:Around}{E:Value→Shared→Prop}{s:Shared}
end
section
variable{prog:Program}{w:World}{A:Around}{E:Value→Shared→Prop}{s:Shared}
end
section
variable{M:Model}{A:Around}{E:Value→Shared→Prop}{s:Shared}{env:Env}
end
section
variable{X:Cx}{elts:List Expr}{x1:Nat}{tpos:Pos}
end
end L2
namespace DL
open PySem PySem.Spec L2
section
variable{X:Cx}{Y:Y2}{W:XW}{K:Frag}
variable{a e:Expr}{ta:TA2}{te:TE2}{p pos tpos kp:Pos}{elts:List Expr}{x1:Nat}
noncomputable def t2EnuK(ta:TA2)(te:TE2):TI2:=fun x ρ δ q=>ta x ρ δ fun ds ρ1 δ1=>te x ρ1 δ1 fun d ρ2 δ2=>match ds,d with | [c],.int m=>(match seqD c with |some xs=>0≤m∧m≤1000000∧q (a0i m.toNat xs) ρ2 δ2 |none=>False)|_,_=>False
end
end DL
namespace DL
open PySem PySem.Spec L2
open PySem.W (XC)
section
variable{K:Frag}{Y:Y2}{F H:Hp}{σ:St}{ρ:En}{δ:Dk}
end
section
variable{X:Cx}{Y:Y2}{W:XW}{px pos:Pos}{target elt iter:Expr}{xs:List Str}{js:List Nat}{scope:Scope}{te:TE2}{ti:TI2}{tup:Bool}{g:TG}
variable(hc:X.calm=true)(S:CompOkM X xs js scope)(hi:PI2 X Y W target iter ti)(hg:(xs++js.map (fun j=>X.N.getD j "")).Nodup→∀C s₀ H₀ fp cl,PG (X.compM xs js scope cl C s₀ H₀ fp) target g)(gm:TgM X.K tup xs.length g)
 (ht:∀C s₀ H₀ fp cl Y',PIf2 (X.compM xs js scope cl C s₀ H₀ fp) Y' W0 [] u0d) (he:∀C s₀ H₀ fp cl Y',PE2 (X.compM xs js scope cl C s₀ H₀ fp) Y' W0 elt te)
include hc S hi hg gm ht he
end
end DL
namespace DL
open PySem PySem.Spec L2
structure Tg{α:Type}(q:α):Type where
noncomputable def u0b(q:K2)(ρ:En)(_:Tg q):D→Dk→Prop:=fun d δ=>q d ρ δ
noncomputable def z1x(x:XK2)(ρ:En)(_:Tg x):Addr→List (Str×D)→Dk→Prop:=fun C fs δ=>x C fs ρ δ
section
variable{q:K2}{x:XK2}{ρ:En}{u:Tg q}{v:Tg x}{δ:Dk}
theorem k_int{i:Int}:u0b q ρ u (.int i) δ=q (.int i) ρ δ:=rfl
theorem k_bl{i:Bool}:u0b q ρ u (.bl i) δ=q (.bl i) ρ δ:=rfl
theorem k_str{i:Str}:u0b q ρ u (.str i) δ=q (.str i) ρ δ:=rfl
theorem k_non:u0b q ρ u .non δ=q .non ρ δ:=rfl
theorem k_lst{i:List D}:u0b q ρ u (.lst i) δ=q (.lst i) ρ δ:=rfl
theorem k_tup{i:List D}:u0b q ρ u (.tup i) δ=q (.tup i) ρ δ:=rfl
theorem k_ins{C:Addr}{fs:List (Str×D)}:u0b q ρ u (.ins C fs) δ=q (.ins C fs) ρ δ:=rfl
theorem k_ref{i:Addr}:u0b q ρ u (.ref i) δ=q (.ref i) ρ δ:=rfl
theorem k_dwk{i:List (Key×D)}:u0b q ρ u (.dwk i) δ=q (.dwk i) ρ δ:=rfl
theorem k_dic{i:List (Key×D)}:u0b q ρ u (.dic i) δ=q (.dic i) ρ δ:=rfl
theorem x_nil{C:Addr}:z1x x ρ v C [] δ=x C [] ρ δ:=rfl
theorem x_cons{C:Addr}{a:Str×D}{fs:List (Str×D)}:z1x x ρ v C (a::fs) δ=x C (a::fs) ρ δ:=rfl
theorem call_s{sp:Sp2}{t:TA2}{q:K2}:x0p sp t x ρ δ q=t x ρ δ fun ds ρ1 δ1=>sp ds δ1 (u0b q ρ1 ⟨⟩) (z1x x ρ1 ⟨⟩):=rfl
end
theorem s0g{te:TE2}{js:List Nat}{ρ:En}{q:List D→Dk→Prop}{δ:Dk}:∀{ds acc:List D} (es:List D),ds.length=es.length→acc.length+ds.length≤1000→
 (∀(i:Nat) (d e:D),ds[i]?=some d→es[i]?=some e→∀Q:D→Dk→Prop,Q e δ→te (fun _ _ _ _=>False) (.val d::capt ρ js) δ fun e _ δ1=>Q e δ1)→q (acc++es) δ→c8 te js ρ q ds acc δ
 | [],acc,[],_,_,_,fin=>by unfold c8;rw[List.append_nil]at fin;exact fin
 |d::ds,acc,e::es,hl,ha,step,fin=>by
  unfold c8;rw[List.length_cons]at ha;rw[List.length_cons,List.length_cons]at hl;exact step 0 d e rfl rfl (fun e δ1=>acc.length<1000∧c8 te js ρ q ds (acc++[e]) δ1) ⟨by omega,s0g es (by omega) (by rw[List.length_append,List.length_singleton];omega) (fun i d e h1 h2=>step (i+1) d e (by rw[List.getElem?_cons_succ];exact h1) (by rw[List.getElem?_cons_succ];exact h2)) (by rw[List.append_assoc];exact fin)⟩
theorem z0m{α:Type}{te:TE2}{js:List Nat}{ρ:En}{q:List D→Dk→Prop}{δ:Dk}(g f:α→D)(l:List α)(hl:l.length≤1000)(step:∀a∈l,∀Q:D→Dk→Prop,Q (f a) δ→te (fun _ _ _ _=>False) (.val (g a)::capt ρ js) δ fun e _ δ1=>Q e δ1)(fin:q (l.map f) δ):c8 te js ρ q (l.map g) [] δ:=
 s0g (l.map f) (by rw[List.length_map,List.length_map]) (by rw[List.length_map];show 0+_≤_;omega) (fun i d e hd he Q hQ=>by
  rw[List.getElem?_map,Option.map_eq_some_iff]at hd;obtain ⟨a,ha,rfl⟩:=hd;rw[List.getElem?_map,ha]at he;cases he;exact step a (List.mem_of_getElem? ha) Q hQ) fin
theorem w0x{α:Type}{tup:Bool}{n:Nat}{tc:TT2}{te:TE2}{js:List Nat}{ρ:En}{q:List D→Dk→Prop}{δ:Dk}(g f:α→D)(p:α→Bool):∀(l:List α) {acc:List D},acc.length+l.length≤1000→
 (∀a∈l,∀Q:Option D→Dk→Prop,(p a=true→Q (some (f a)) δ)→(p a=false→Q none δ)→∃xs,tgD tup n (g a)=some xs∧tc (fun _ _ _ _=>False) (xs.map .val++capt ρ js) δ fun b ρ1 δ1=>if b=true then te (fun _ _ _ _=>False) ρ1 δ1 fun e _ δ2=>Q (some e) δ2 else Q none δ1)→q (acc++(l.filter p).map f) δ→compM tup n tc te js ρ q (l.map g) acc δ
 | [],acc,_,_,fin=>by rw[List.map_nil];unfold compM;rw[List.filter_nil,List.map_nil,List.append_nil]at fin;exact fin
 |a::l,acc,hl,step,fin=>by
  rw[List.map_cons];unfold compM;rw[List.length_cons]at hl;obtain ⟨xs,e1,e2⟩:=step a (List.mem_cons_self ..) (fun o δ1=>match o with |some e=>acc.length<1000∧compM tup n tc te js ρ q (l.map g) (acc++[e]) δ1 |none=>compM tup n tc te js ρ q (l.map g) acc δ1)
   (fun h=>⟨by omega,w0x g f p l (by rw[List.length_append,List.length_singleton];omega) (fun b hb=>step b (List.mem_cons_of_mem _ hb)) (by rw[List.filter_cons_of_pos h,List.map_cons]at fin;rw[List.append_assoc];exact fin)⟩)
   (fun h=>w0x g f p l (by omega) (fun b hb=>step b (List.mem_cons_of_mem _ hb)) (by rw[List.filter_cons_of_neg (by rw[h];exact Bool.false_ne_true)]at fin;exact fin))
  rw[e1];exact e2
theorem forL_G{α:Type}{gt:G2}{body:TS2}{E:End2}{ρ:En}{δ:Dk}(g:α→D)(l:List α)(P:Nat→En→Dk→Prop)(h0:P 0 ρ δ)(step:∀(i:Nat) (a:α) (ρ:En) (δ:Dk) (rest:En→Dk→Prop),l[i]?=some a→P i ρ δ→(∀ ρ' δ',P (i+1) ρ' δ'→rest ρ' δ')→n0v gt body E rest (g a) ρ δ)(fin:∀ ρ δ,P l.length ρ δ→E.nx ρ δ):forL gt body E (l.map g) ρ δ:=
 r0o P h0 (fun i d ρ δ rest hd hp hr=>by
  rw[List.getElem?_map,Option.map_eq_some_iff]at hd;obtain ⟨a,ha,rfl⟩:=hd;exact step i a ρ δ rest ha hp hr) (by rw[List.length_map];exact fin)
end DL
namespace L2
open PySem PySem.Spec PyProof.Rows PySem.SeqAt
section
variable{X:Cx}
end
end L2
namespace DL
open PySem PySem.Spec L2
section
variable{X:Cx}{Y:Y2}{W:XW}{o e b:Expr}{es:List Expr}{ta tb:TE2}{t:TA2}{p pos apos cpos:Pos}
structure TopRow(K:Frag)(mg:Str→Option Value)(x:Str)(ds:List D):Prop where
 ex:∃a vs,mg x=some (.ref a)∧(∀H,SqT K H a vs)∧∀F,Reps K F ds vs
theorem topRow3{K:Frag}{mg:Str→Option Value}{x:Str}{a:Addr}{s1 s2 s3:Str}{t1 t2 t3:Tok}{n:Nat}{dd:Option Addr}{sl:Array (Option Value)}(hm:mg x=some (.ref a))(hk:K.lookup a=some {cls:=.type "tuple",dict:=dd,data:=.seq ⟨[.str s1 t1,.str s2 t2,.str s3 t3]⟩ n,slots:=sl}):TopRow K mg x [.str s1,.str s2,.str s3]:=
 ⟨a,[.str s1,.str s2,.str s3],hm,fun H=>.inr ⟨_,_,n,hk,rfl,rfl,by show 3≤sizeLine;decide,.cons ⟨t1,rfl⟩ (.cons ⟨t2,rfl⟩ (.cons ⟨t3,rfl⟩ .nil))⟩,fun F=>Reps.cons (rep_str.mpr rfl) (Reps.cons (rep_str.mpr rfl) (Reps.cons (rep_str.mpr rfl) Reps.nil))⟩
end
theorem c0m{K:Frag}{x:Str}:b9 K (.str x) (.ty "str")=some true:=by
 unfold b9;exact show PySem.W.kitOne K (.type "str") (.type "str")=some true by unfold PySem.W.kitOne;rfl
end DL
namespace L2
open PySem PySem.Spec PyProof.Rows PySem.Calls PySem.W
section
variable{X:Cx}
end
end L2
namespace DL
open PySem PySem.Spec L2
end DL
namespace L2
open PySem PySem.Spec PyProof.Rows PySem.Calls PySem.W
section
variable{prog:Program}{w:World}{A:Around}{E:Value→Shared→Prop}{s:Shared}
end
section
variable{X:Cx}
end
end L2
namespace DL
open PySem PySem.Spec L2
section
variable{X:Cx}{Y:Y2}{W:XW}{e:Expr}{te:TE2}{p p2 pos pos2:Pos}
end
end DL
namespace L2
open PySem PySem.Spec PyProof.Rows
open PySem.W (XC)
theorem r0k:entryFor table "proto.unchain"=some Builtin.«proto.unchain»:=entryFor_of_fast (by kernel_rfl)
theorem v0d{P:Program}{w:World}{A:Around}{E:Value→Shared→Prop}{s:Shared}{α:Type}{x hd:Addr}{ox oh:Obj}{vx vh:Array Value}{Q:α→Shared→Prop}(hh:A.handled=some (.ref hd))(ne:hd≠x)(ho:s.heap.get? hd=some oh)(hod:oh.data=.fields vh)(h2:vh[2]?=some .none)
 (hx:s.heap.get? x=some ox) (hxd:ox.data=.fields vx) (hz:2<vx.size) (h:E (.ref x) {s with heap:=s.heap.update x (Obj.mapFields (·.setIfInBounds 2 (.ref hd)))}):wpAny (model P w) A (raiseNew (.ref x):Sem α) Q E s:=by
 unfold raiseNew;refine wpAny_bind (wpAny_handled ?_);rw[hh];dsimp only;rw[if_pos (by simpa using ne)];have step:wpAny (model P w) A (holding [.ref x] (runValue (.builtin "proto.unchain" ⟨[.ref x,.ref hd,.ref hd,.bool false],[]⟩))) (fun _ s'=>s'=s) E s:=by
  refine wpAny_holding (wpAny_runValue (codeAny_builtin r0k ?_));show wpAny _ _ (do let context←field (.ref hd) 2;_) _ _ s;refine wpAny_bind (wpAny_field ho hod h2 ?_);rw[if_pos (by rfl)];exact wpAny_pure rfl
 refine wpAny_bind (wpAny_mono step (fun _ s' e=>?_) fun _ _ e=>e);subst e;exact wpAny_bind (wpAny_setField hx hxd hz (wpAny_throw h))
section
variable{X:Cx}{pins:List (Addr×Obj)}{σ:St}{H:Hp}{s:Shared}
noncomputable def x0j(H:Hp)(h:Addr):Prop:=∃n C od,n≠0∧H h=some (XO n h C od)
end
end L2
namespace L2
open PySem PySem.Spec PyProof.Rows
structure FnOkH(P:Program)(w:World)(K:PySem.W.Frag)(mg:Str→Option Value)(base:Heap)(k:Nat)(f:Addr)(fd:FuncData)(ps:List Str)(sp:Addr→Sp):Prop where
 len:∀h vs H Q E,sp h vs H Q E→vs.length=ps.length
 run:∀(h:Addr) (A:Around) (outer:List Env) (s:Shared) (H:Hp) (args:Args) (us:List Value) (vs:List V) (Q:VK) (E:XK),A.handled=some (.ref h)→RoomU k A→Env0 P w K mg base A outer s H→BindsTo s fd args (ps.zip us)→Vals vs us→sp h vs H Q E→
  codeAny (model P w) A (.call (.ref f) args) (CR (CXc false P w) outer P w H s Q E) s
structure FnAtH(P:Program)(w:World)(K:PySem.W.Frag)(mg:Str→Option Value)(base:Heap)(x:Str)(k:Nat)(ps:List Str)(sp:Addr→Sp):Prop where
 ex:∃f fd,FnOkH P w K mg base k f fd ps sp∧mg x=some (.ref f)∧PySem.W.keepIn K (.ref f)=true∧Binds K fd ps []
section
variable{P:Program}{w:World}{K:PySem.W.Frag}{mg:Str→Option Value}{base:Heap}
end
section
variable{X:Cx}{pins:List (Addr×Obj)}{σ:St}{H:Hp}{s:Shared}
theorem h0x{W:XW}{e:Value}{s':Shared}(hfl:X.fl=false)(I:Inv X pins σ H s)(h:CXc false X.prog X.w X.stack H s (fun Cv od H'=>∃C,Cv=.ref C∧W C od σ H') e s'):f0n X pins W e s':=by
 obtain ⟨x,C,od,T,H',rfl,os,bare,un,hok,f,hx,hy,ht,C',ec,q⟩:=h;cases ec;have I':Inv X pins σ H' s':=I.call' (ch:=[]) os un hok bare fun b z=>by cases z
 have ls:∀t,H' t=none→s.heap.objs.size≤t→Loose X pins H' t:=fun t h0 hz=>by
  have l:=I.loose_new hz;exact ⟨h0,l.ne,l.yng,l.cell,l.pin⟩
 exact ⟨x,C,od,T,σ,H',rfl,I',hfl▸f,ls x hx hy,fun t e=>ls t (ht t e).1 (ht t e).2,q⟩
end
end L2
namespace DL
open PySem PySem.Spec L2
open PySem.W (XC)
open PyProof.Rows (envOfC)
section
variable{X:Cx}{Y:Y2}{W:XW}{x:Str}{p pos cpos:Pos}{e:Expr}{es:List Expr}{t:TA2}{k:Nat}{ps:List Str}{sp:Sp2}{hd:Addr}
end
section
variable{P:Program}{w:World}{K:Frag}{mg:Str→Option Value}{base:Heap}
end
noncomputable def Y2.plus(Y:Y2)(x:Addr)(o:HO):Y2:=⟨upd Y.F₀ x o,upd Y.H₀ x o,Y.δ₀,Y.sf⟩
section
variable{K:Frag}{Y:Y2}{F H F' H':Hp}{σ:St}{ρ:En}{δ:Dk}{x:Addr}{o:HO}
theorem CellOk.base{H₀ H₁:Hp}{sf:Option Addr}{c:Cell}{v:Option V}(k:∀a,H₁ a=none→(∃u,H a=some u∧F a=none)→H₀ a=none)(h:CellOk K F H H₁ sf c v):CellOk K F H H₀ sf c v:=by
 cases c with
 |no=>trivial
 |val d=>exact h
 |own ds=>obtain ⟨a,vs,e1,h1,f1,g1,r1⟩:=h;exact ⟨a,vs,e1,h1,f1,k a g1 ⟨_,h1,f1⟩,r1⟩
 |obj C fs=>obtain ⟨a,dx,us,e1,es1,h1,h2,f1,f2,g1,g2,r1⟩:=h;exact ⟨a,dx,us,e1,es1,h1,h2,f1,f2,k a g1 ⟨_,h1,f1⟩,k dx g2 ⟨_,h2,f2⟩,r1⟩
 |ownD kvs=>obtain ⟨a,us,e1,h1,f1,g1,r1⟩:=h;exact ⟨a,us,e1,h1,f1,k a g1 ⟨_,h1,f1⟩,r1⟩
theorem I2.plus(I:I2 K Y F H σ ρ δ)(hx:H x=none):I2 K (Y.plus x o) (upd F x o) (upd H x o) σ ρ δ:=by
 have J:=I.alloc (o:=o) hx;have h0:=I.ran.fresh hx;refine ⟨⟨J.ran.sub,J.ran.dk,fun b u e f=>?_,fun b u e=>?_,fun b u e=>?_,⟨J.ran.dto.1,fun a ds e n=>?_⟩⟩,fun i c e=>(J.env i c e).base fun a g ⟨u,hu,fu⟩=>?_,J.len,J.apart,J.off⟩
 ·have e:upd Y.H₀ x o b=some u:=e;by_cases z:b=x
  ·subst z;rw[n3]at e ⊢; exact e
  ·rw[y0 z]at e ⊢; exact I.ran.keep b u e f
 ·have e:upd Y.F₀ x o b=some u:=e;by_cases z:b=x
  ·subst z;rw[n3]at e ⊢; exact e
  ·rw[y0 z]at e ⊢; exact I.ran.f0 b u e
 ·show upd Y.F₀ x o b=some u∨upd Y.H₀ x o b=none;by_cases z:b=x
  ·subst z;rw[n3]at e ⊢; exact .inl e
  ·rw[y0 z]at e;rw[y0 z,y0 z];exact I.ran.fnew b u e
 ·have h1:=J.ran.dto.2 a ds e n;obtain ⟨_,vs,h2,_⟩:=I.ran.dk a ds e;show upd Y.H₀ x o a=none;rw[y0 (s0 h2 hx)];exact h1
 ·have g:Y.H₀ a=none:=g;show upd Y.H₀ x o a=none;by_cases z:a=x
  ·subst z;rw[n3]at fu;cases fu
  ·rw[y0 z];exact g
theorem I2.unplus(hx:Y.H₀ x=none)(hF:Y.F₀ x=none)(I:I2 K (Y.plus x o) F H σ ρ δ):I2 K Y F H σ ρ δ:=by
 have ne:∀b u,Y.H₀ b=some u→b≠x:=fun b u e z=>by rw[z,hx]at e;cases e
 refine ⟨⟨I.ran.sub,I.ran.dk,fun b u e f=>I.ran.keep b u (by show upd Y.H₀ x o b=some u;rw[y0 (ne b u e)];exact e) f,fun b u e=>I.ran.f0 b u (by show upd Y.F₀ x o b=some u;rw[y0 (fun z=>by rw[z,hF]at e;cases e)];exact e),fun b u e=>?_,⟨I.ran.dto.1,fun a ds e n=>?_⟩⟩,fun i c e=>(I.env i c e).base fun a g _=>?_,I.len,I.apart,I.off⟩
 ·rcases I.ran.fnew b u e with z |z
  ·have z:upd Y.F₀ x o b=some u:=z;by_cases y:b=x
   ·subst y;exact .inr hx
   ·rw[y0 y]at z;exact .inl z
  ·have z:upd Y.H₀ x o b=none:=z;by_cases y:b=x
   ·subst y;exact .inr hx
   ·rw[y0 y]at z;exact .inr z
 ·have z:upd Y.H₀ x o a=none:=I.ran.dto.2 a ds e n;by_cases y:a=x
  ·subst y;exact hx
  ·rw[y0 y]at z;exact z
 ·have z:upd Y.H₀ x o a=none:=g;by_cases y:a=x
  ·subst y;exact hx
  ·rw[y0 y]at z;exact z
end
end DL
namespace DL
open PySem PySem.Spec L2
section
variable{X:Cx}{Y:Y2}{W:XW}{D:Addr}{y n:Str}{np pos:Pos}{b₀:Stmt}{suite:List Stmt}{rest:List ExceptHandler}{ts:TS2}{tr:XTS2}
end
end DL
namespace DL
open PySem PySem.Spec L2
section
variable{X:Cx}{Y:Y2}{W:XW}{a:Expr}{ta:TA2}{p p2 pos pos2:Pos}
end
end DL
namespace L2
open PySem PySem.Spec PyProof.Rows Builtin Builtin.Str
theorem i7{n:Nat}(h:n≤100000):n≤sizeLine:=by rw[sizeLine_eq];omega
theorem p0k:∀(l:List (Str×Tok)),Vals ((l.map (·.1)).map V.str) (strValues l)
 | []=>.nil
 |(x,t)::l=>.cons ⟨t,rfl⟩ (p0k l)
theorem p0j:∀{zs:List Str} {us:List Value},Vals (zs.map V.str) us→StrsAre us zs
 | [],us,h=>by cases h;exact .nil
 |z::zs,us,h=>by
  rw[List.map_cons]at h;cases h with
  |cons r1 r2=>obtain ⟨t,rfl⟩:=r1;exact .cons z t (p0j r2)
section
variable{X:Cx}
theorem w0w:OpR X (binaryOp .Mult) (fun x y H Q=>∃z n,x=.str z∧y=.int n∧0≤n∧n≤1000∧z.length≤100∧Q (.str (Txt.mul z n)) H):=by
 intro pins s σ H x y v u Q I rx ry h;obtain ⟨z,n,rfl,rfl,h1,h2,h3,q⟩:=h;obtain ⟨t,rfl⟩:=rx;obtain ⟨t',rfl⟩:=ry;refine SB.mul ⟨?_,fun _ _=>?_,fun _ _=>?_⟩ fun t' k=>⟨.str _,H,I.tok _,⟨_,rfl⟩,q⟩
 ·have e1:decide (n< -(2^63:Int))=false:=decide_eq_false (by omega);have e2:decide (n≥2^63)=false:=decide_eq_false (by omega);rw[e1,e2];rfl
 ·have:(100:Int)≤(2^63-1)/n:=Int.le_ediv_of_mul_le (by omega) (by omega);omega
 ·unfold tooLong;exact decide_eq_false (by have:z.length*n.toNat≤100*1000:=Nat.mul_le_mul h3 (by omega);rw[sizeLine_eq];omega)
noncomputable def c0l:V→List V→Hp→VK→Prop:=fun x vs H Q=>∃z y,x=.str z∧vs=[.str y]∧(y.length==0)=false∧z.length≤100000∧∀p,H p=none→Q (.ref p) (upd H p (.lst ((Txt.split z y).map V.str)))
theorem l0k:MtR X "str.split" c0l:=by
 intro pins s σ H x vs v us Q I rx rv h;obtain ⟨z,y,rfl,rfl,hy,hz,q⟩:=h;obtain ⟨t,rfl⟩:=rx;obtain ⟨_,rfl,t',rfl⟩:=rv.one;have hle:=split_le z y;have fin:∀(l:List (Str×Tok)) (k:Nat),l.map (·.1)=Txt.split z y→EP X pins σ Q (.ref s.heap.objs.size) {s with toks:=k,heap:=s.heap.push {cls:=.type "list",data:=.seq (strValues l).toArray}}:=fun l k e=>by
  refine ⟨.ref s.heap.objs.size,_,I.laid (t':=k) (o:=.lst ((Txt.split z y).map V.str)) (fun b ob q=>Heap.get?_push_of_some _ q) (Nat.le_refl _) ⟨?_,strValues l,0,?_,Heap.get?_push_size _ rfl⟩,rfl,q _ (I.hok.fresh (Nat.le_refl _))⟩
  ·rw[List.length_map];rw[sizeLine_eq];omega
  ·rw[←e];exact p0k l
 cases h1:(decide (z.length<y.length)||decide (strKind z<strKind y))
 ·cases hf:(occurrences z y 0 z.length (z.length+1)).isEmpty
  ·have e:Txt.split z y=partsBetween z (occurrences z y 0 z.length (z.length+1)) y.length:=(if_neg (ne_true_of_eq_false h1)).trans (if_neg (ne_true_of_eq_false hf));refine call_meets F.slot_str_split (typeIs_str _ _ _) F.entry_str_split (F.args_str_split_2 _ _) (meets_str_split_sep z y t t' h1 hy hf (i7 hz) (by rw[←e,sizeLine_eq];omega)) ?_;show wants _ _ _ {s with toks:=_,heap:=s.heap.push {cls:=.type "list",data:=.seq (strsFrom s.toks (partsBetween z (occurrences z y 0 z.length (z.length+1)) y.length)).toArray}};rw[strsFrom_eq];exact fin (numbered s.toks _) _ ((numbered_texts _ _).trans e.symm)
  ·exact call_meets F.slot_str_split (typeIs_str _ _ _) F.entry_str_split (F.args_str_split_2 _ _) (meets_str_split_not_found z y t t' h1 hy hf)
    (fin [(z,t)] _ ((if_neg (ne_true_of_eq_false h1)).trans (if_pos hf)).symm)
 ·exact call_meets F.slot_str_split (typeIs_str _ _ _) F.entry_str_split (F.args_str_split_2 _ _) (meets_str_split_cannot_occur z y t t' h1)
   (fin [(z,t)] _ (if_pos h1).symm)
noncomputable def rJoin(K:PySem.W.Frag):V→List V→Hp→VK→Prop:=fun x vs H Q=>∃z l zs,x=.str z∧vs=[.ref l]∧SqL K H l (zs.map V.str)∧z.length≤64∧(zs.map (·.length)).sum+zs.length*64≤100000∧Q (.str (Txt.join z zs)) H
theorem h0w:MtR X "str.join" (rJoin X.K):=by
 intro pins s σ H x vs v us Q I rx rv h;obtain ⟨z,l,zs,rfl,rfl,hl,h1,h2,q⟩:=h;obtain ⟨t,rfl⟩:=rx;obtain ⟨_,rfl,ru⟩:=rv.one;cases ru;obtain ⟨its,r,pl,_⟩:=I.list hl;exact join_listC pl.isList (p0j (by simpa using r)) h1 (by omega) fun t' k=>⟨.str _,H,I.tok _,⟨_,rfl⟩,q⟩
noncomputable def h0v:V→List V→Hp→VK→Prop:=fun x vs H Q=>∃z y,x=.str z∧vs=[.str y]∧z.length≤100000∧Q (.str (Txt.rstripChars z y)) H
theorem h0u:MtR X "str.rstrip" h0v:=by
 intro pins s σ H x vs v us Q I rx rv h;obtain ⟨z,y,rfl,rfl,hz,q⟩:=h;obtain ⟨t,rfl⟩:=rx;obtain ⟨_,rfl,t',rfl⟩:=rv.one;exact SC.rstripChars (fun t' k=>⟨.str _,H,I.tok _,⟨_,rfl⟩,q⟩) (i7 hz)
noncomputable def rSlS:V→Option Int→Option Int→Hp→VK→Prop:=fun x lo hi H Q=>∃z,x=.str z∧z.length≤100000∧Q (.str (Txt.slice z lo hi)) H
theorem sl_str:SlR X rSlS:=by
 intro pins s σ H x v vl vu lo hi sl Q I rx hs pl pu h;obtain ⟨z,rfl,hz,q⟩:=h;obtain ⟨t,rfl⟩:=rx;refine ⟨"str",_,F.slot_str_getitem.lookup,typeIs_str _ _ _,?_⟩;cases pl with
 |none=>
  cases pu with
  |none=>exact wpAny_getItem_str_slice (l:=none) (u:=none) (st:=none) hs rfl (post_val_or_str ⟨Nat.le_trans (Txt.slice_le z _ _) (i7 hz),fun t' k=>⟨.str _,H,I.tok _,⟨_,rfl⟩,q⟩⟩)
  |int j uj=>exact wpAny_getItem_str_slice (l:=none) (u:=some (j,uj)) (st:=none) hs rfl (post_val_or_str ⟨Nat.le_trans (Txt.slice_le z _ _) (i7 hz),fun t' k=>⟨.str _,H,I.tok _,⟨_,rfl⟩,q⟩⟩)
 |int i ui=>
  cases pu with
  |none=>exact wpAny_getItem_str_slice (l:=some (i,ui)) (u:=none) (st:=none) hs rfl (post_val_or_str ⟨Nat.le_trans (Txt.slice_le z _ _) (i7 hz),fun t' k=>⟨.str _,H,I.tok _,⟨_,rfl⟩,q⟩⟩)
  |int j uj=>exact wpAny_getItem_str_slice (l:=some (i,ui)) (u:=some (j,uj)) (st:=none) hs rfl (post_val_or_str ⟨Nat.le_trans (Txt.slice_le z _ _) (i7 hz),fun t' k=>⟨.str _,H,I.tok _,⟨_,rfl⟩,q⟩⟩)
noncomputable abbrev TJ:=St→Hp→Str→VK→Prop
noncomputable def PJ(X:Cx)(es:List Expr)(t:TJ):Prop:=∀(pins:List (Addr×Obj)) (s:Shared) (σ:St) (H:Hp) (out:Str) (Q:VK),Inv X pins σ H s→t σ H out Q→wpAny (model X.prog X.w) X.A (joinParts out (evalEach es X.env)) (EP X pins σ Q) X.xe s
theorem pj_nil:PJ X [] fun σ H out Q=>out.length≤100000∧Q (.str out) H:=fun pins s σ H out Q I h=>joinParts_nil ⟨.str _,H,I.tok _,⟨_,rfl⟩,h.2⟩ (i7 h.1)
theorem z1w{e:Expr}{es:List Expr}{te:TE}{tr:TJ}(he:PE X e te)(hr:PJ X es tr):PJ X (e::es) fun σ H out Q=>te σ H fun v H1=>∃y,v=.str y∧(out++y).length≤100000∧tr σ H1 (out++y) Q:=fun pins s σ H out Q I h=>
 joinParts_cons (thn (he pins s σ H _ I h) fun v s1 ⟨x,H1,I1,r1,y,ex,hl,q⟩=>by
  subst ex;obtain ⟨t,rfl⟩:=r1;exact ⟨i7 hl,hr pins s1 σ H1 _ Q I1 q⟩)
theorem h0t{e f:Expr}{es:List Expr}{pos:Pos}{t:TJ}(h:PJ X (e::f::es) t):PE X (.JoinedStr (e::f::es) pos) fun σ H Q=>t σ H Str.empty Q:=fun pins s σ H Q I q=>JoinedStr_many (h pins s σ H Str.empty Q I q)
theorem pe_fmt{e:Expr}{te:TE}{pos:Pos}(he:PE X e te):PE X (.FormattedValue e (-1) none pos) fun σ H Q=>te σ H fun v H1=>(∃i,v=.int i∧i.natAbs.log2<1920∧Q (.str (toString i)) H1)∨∃y,v=.str y∧y.length≤100000∧Q (.str y) H1:=fun pins s σ H Q I h=>
 FormattedValue_plain (thn (he pins s σ H _ I h) fun v s1 ⟨x,H1,I1,r1,q⟩=>by
  rcases q with ⟨i,rfl,hi,q⟩|⟨y,rfl,hy,q⟩
  ·obtain ⟨t,rfl⟩:=r1;exact formatField_int_small hi ⟨.str _,H1,I1.tok _,⟨_,rfl⟩,q⟩
  ·obtain ⟨t,rfl⟩:=r1;exact formatField_str (fun t' tk=>⟨.str _,H1,I1.tok _,⟨_,rfl⟩,q⟩) (i7 hy))
end
end L2
namespace DL
open PySem PySem.Spec L2
noncomputable def mulS:F2:=fun d1 d2 q=>match d1,d2 with
 | .str z,.int n=>0≤n∧n≤1000∧z.length≤100∧q (.str (Txt.mul z n))
 |_,_=>False
theorem h0s{K:PySem.W.Frag}:OpD K (fun x y H Q=>∃z n,x=V.str z∧y=V.int n∧0≤n∧n≤1000∧z.length≤100∧Q (V.str (Txt.mul z n)) H) mulS:=by
 intro Y F H σ ρ δ x y d1 d2 Q1 q I r1 r2 h' k;unfold mulS at h';split at h'
 ·rename_i z n;exact ⟨z,n,rep_str.mp r1,rep_int.mp r2,h'.1,h'.2.1,h'.2.2.1,k _ _ F H I (Same.refl F) (rep_str.mpr rfl) h'.2.2.2⟩
 ·exact h'.elim
noncomputable def addT:F2:=fun d1 d2 q=>match d1,d2 with
 | .str x,.str y=>x.length+y.length≤100000∧q (.str (x++y))
 |_,_=>False
theorem z0x{K:PySem.W.Frag}:OpD K (fun x y H Q=>∃i j,x=V.str i∧y=V.str j∧i.length+j.length≤sizeLine∧Q (V.str (i++j)) H) addT:=by
 intro Y F H σ ρ δ x y d1 d2 Q1 q I r1 r2 h' k;unfold addT at h';split at h'
 ·rename_i a b;exact ⟨a,b,rep_str.mp r1,rep_str.mp r2,i7 h'.1,k _ _ F H I (Same.refl F) (rep_str.mpr rfl) h'.2⟩
 ·exact h'.elim
noncomputable abbrev FS:=Str→List D→(D→Prop)→Prop
noncomputable def MtSD(K:Frag)(r:V→List V→Hp→VK→Prop)(f:FS):Prop:=∀(Y:Y2) (F H:Hp) (σ:St) (ρ:En) (δ:Dk) (z:Str) (es:List D) (us:List V) (Q1:VK) (q:D→Prop),I2 K Y F H σ ρ δ→Reps K F es us→f z es q→
 (∀d v F' H',I2 K Y F' H' σ ρ δ→Same F F'→Rep K F' d v→q d→Q1 v H')→r (.str z) us H Q1
section
variable{X:Cx}{Y:Y2}{W:XW}{o e:Expr}{es:List Expr}{ta:TE2}{t:TA2}{p pos apos cpos:Pos}
noncomputable def t2SM(f:FS)(ta:TE2)(t:TA2):TE2:=fun x ρ δ q=>ta x ρ δ fun d ρ1 δ1=>match d with | .str z=>t x ρ1 δ1 fun es ρ2 δ2=>f z es fun r=>q r ρ2 δ2 |_=>False
theorem up_sm{f:FS}{r:V→List V→Hp→VK→Prop}(hf:MtSD X.K r f){σ:St}{H:Hp}{Q:VK}(h:upE X.K Y W (t2SM f ta t) σ H Q):tBM X.K "str" r (upE X.K Y W ta) (upA X.K Y W t) σ H Q:=by
 obtain ⟨F,ρ,δ,x,q,I,h,k,kx⟩:=h;refine ⟨F,ρ,δ,x,_,I,h,fun d v F1 H1 ρ1 δ1 I1 s1 r1 h1=>?_,kx⟩;cases d with
 |str z=>
  rw[rep_str.mp r1];refine ⟨rfl,F1,ρ1,δ1,x,_,I1,h1,fun es us F2 H2 ρ2 δ2 I2' s2 r2 h2=>?_,kx.mono s1⟩;exact hf Y F2 H2 σ ρ2 δ2 z es us _ _ I2' r2 h2 fun d v F' H' I' s' r' q'=>k d v F' H' ρ2 δ2 I' ((s1.trans s2).trans s') r' q'
 |_=>exact h1.elim
theorem h0r{name:Str}{id:String}{f:FS}{r:V→List V→Hp→VK→Prop}(slot:Slot "str" name id)(hty:typeOf (.builtin id)=pure (.type "method_descriptor"))(hm:MtR X id r)(hf:MtSD X.K r f)(ho:PE2 X Y W o ta)(ha:PA2 X Y W (e::es) t)(hbase:attributeBase o name X.env (eval o X.env)=eval o X.env:=by rfl)
 (hfew:((backTo cpos (starEach (e::es) X.env)).all (fun x=>!x.1)&&(backToKw cpos (keywordEach [] X.env)).all (fun x=>x.1.isSome)
  &&decide ((e::es).length+([]:List Keyword).length+(if ([]:List Keyword).isEmpty then 0 else 1)<30))=true:=by rfl)
 (hline:(apos.endLine==cpos.line)=true:=by rfl) (hs:starEach (e::es) X.env=(false,eval e X.env)::starEach es X.env:=by exact b5 rfl) (hplain:(backTo cpos (starEach es X.env)).any (·.1)=false:=by exact p6 rfl):
 PE2 X Y W (.Call (.Attribute o name apos) (e::es) [] cpos) (t2SM f ta t):=pe2 (pe_bm PySem.F.plainAttrs_str slot hty hm ho.go ha.go hbase hfew hline hs hplain) fun σ H Q h=>up_sm hf h
noncomputable def p0i:List D→Option (List Str)
 | []=>some []
 | .str x::ds=>(p0i ds).map (x::·)
 |_::_=>none
theorem c0k{K:Frag}{F:Hp}:∀{ds:List D} {vs:List V} {zs:List Str},p0i ds=some zs→Reps K F ds vs→vs=zs.map V.str
 | [],vs,zs,h,r=>by cases h;rw[reps_nil.mp r];rfl
 |d::ds,vs,zs,h,r=>by
  obtain ⟨v,l,rfl,r1,r2⟩:=reps_cons.mp r;cases d with
  |str x=>
   unfold p0i at h;obtain ⟨ws,e,rfl⟩:=Option.map_eq_some_iff.mp h;rw[rep_str.mp r1,c0k e r2];rfl
  |_=>cases h
theorem e0f{zs:List Str}:p0i (zs.map D.str)=some zs:=by
 induction zs with
 |nil=>rfl
 |cons z zs ih=>show (p0i (zs.map D.str)).map (z::·)=_;rw[ih];rfl
theorem p0h{K:Frag}{F:Hp}:∀(zs:List Str),Reps K F (zs.map D.str) (zs.map V.str)
 | []=>Reps.nil
 |z::zs=>Reps.cons (rep_str.mpr rfl) (p0h zs)
noncomputable def h0q:FS:=fun z es q=>match es with | [.lst ds]=>(match p0i ds with |some zs=>z.length≤64∧(zs.map (·.length)).sum+zs.length*64≤100000∧q (.str (Txt.join z zs))|none=>False)|_=>False
theorem c0j{K:Frag}:MtSD K (rJoin K) h0q:=by
 intro Y F H σ ρ δ z es us Q1 q I r h' k;unfold h0q at h';split at h'
 ·rename_i ds;split at h'
  ·rename_i zs e;obtain ⟨v,rfl,r1⟩:=d8 r;obtain ⟨a,vs,rfl,ea,zz⟩:=rep_lst.mp r1;rw[c0k e zz]at ea;exact ⟨z,a,zs,rfl,rfl,SqL.of (I.sub _ _ ea),h'.1,h'.2.1,k _ _ F H I (Same.refl F) (rep_str.mpr rfl) h'.2.2⟩
  ·exact h'.elim
 ·exact h'.elim
noncomputable def p0g:FS:=fun z es q=>match es with | [.str y]=>(y.length==0)=false∧z.length≤100000∧q (.lst ((Txt.split z y).map D.str))|_=>False
theorem h0p{K:Frag}:MtSD K c0l p0g:=by
 intro Y F H σ ρ δ z es us Q1 q I r h' k;unfold p0g at h';split at h'
 ·rename_i y;obtain ⟨v,rfl,r1⟩:=d8 r;rw[rep_str.mp r1];exact ⟨z,y,rfl,rfl,h'.1,h'.2.1,fun p hp=>k _ _ _ _ (I.alloc hp) (I.grow hp) (I.lst hp (p0h _)) h'.2.2⟩
 ·exact h'.elim
noncomputable def u0a:FS:=fun z es q=>match es with | [.str y]=>z.length≤100000∧q (.str (Txt.rstripChars z y))|_=>False
theorem e0e{K:Frag}:MtSD K h0v u0a:=by
 intro Y F H σ ρ δ z es us Q1 q I r h' k;unfold u0a at h';split at h'
 ·rename_i y;obtain ⟨v,rfl,r1⟩:=d8 r;rw[rep_str.mp r1];exact ⟨z,y,rfl,rfl,h'.1,k _ _ F H I (Same.refl F) (rep_str.mpr rfl) h'.2⟩
 ·exact h'.elim
noncomputable def endsF:FS:=fun z es q=>match es with | [.str y]=>q (.bl (Txt.endswith z y))|_=>False
noncomputable def slSF(d:D)(l u:Option Int)(q:D→Prop):Prop:=match d with | .str z=>z.length≤100000∧q (.str (Txt.slice z l u))|_=>False
variable{te:TE2}{p2:Pos}
noncomputable def e0d(te:TE2)(tl th:TO2):TE2:=fun x ρ δ q=>te x ρ δ fun d ρ1 δ1=>tl x ρ1 δ1 fun l ρ2 δ2=>th x ρ2 δ2 fun u ρ3 δ3=>slSF d l u fun e=>q e ρ3 δ3
theorem j7{lo hi:Option Expr}{tl th:TO2}(he:PE2 X Y W e te)(hl:PO2 X Y W lo tl)(hu:PO2 X Y W hi th):PE2 X Y W (.Subscript e (.Slice lo hi none p2) pos) (e0d te tl th):=pe2 (r0x sl_str he.go hl.go hu.go) fun σ H Q ⟨F,ρ,δ,x,q,I,h,k,kx⟩=>by
 refine ⟨F,ρ,δ,x,_,I,h,fun d v F1 H1 ρ1 δ1 I1 s1 r1 h1=>⟨F1,ρ1,δ1,x,_,I1,h1,fun l F2 H2 ρ2 δ2 I2' s2 h2=>⟨F2,ρ2,δ2,x,_,I2',h2,fun u F3 H3 ρ3 δ3 I3 s3 h3=>?_,kx.mono (s1.trans s2)⟩,kx.mono s1⟩,kx⟩;have sa:=(s1.trans s2).trans s3;unfold slSF at h3;cases d with
 |str z=>
  rw[rep_str.mp r1];exact ⟨z,rfl,h3.1,k _ _ F3 H3 ρ3 δ3 I3 sa (rep_str.mpr rfl) h3.2⟩
 |_=>exact h3.elim
noncomputable abbrev TJ2:=XK2→En→Dk→Str→K2→Prop
noncomputable def upJ(K:Frag)(Y:Y2)(W:XW)(t:TJ2):TJ:=fun σ H out Q=>∃F ρ δ x q,I2 K Y F H σ ρ δ∧t x ρ δ out q∧(∀d v F' H' ρ' δ',I2 K Y F' H' σ ρ' δ'→Same F F'→Rep K F' d v→q d ρ' δ'→Q v H')∧XR K Y W F x
structure PJ2(X:Cx)(Y:Y2)(W:XW)(es:List Expr)(t:TJ2):Prop where
 go:PJ X es (upJ X.K Y W t)
theorem h0o{es:List Expr}{t t':TJ}(h:PJ X es t)(k:∀ σ H out Q,t' σ H out Q→t σ H out Q):PJ X es t':=fun pins s σ H out Q I q=>h pins s σ H out Q I (k σ H out Q q)
noncomputable def t2Jn:TJ2:=fun _ ρ δ out q=>out.length≤100000∧q (.str out) ρ δ
theorem j2_nil:PJ2 X Y W [] t2Jn:=⟨h0o pj_nil fun σ H out Q ⟨F,ρ,δ,x,q,I,h,k,kx⟩=>⟨h.1,k _ _ F H ρ δ I (Same.refl F) (rep_str.mpr rfl) h.2⟩⟩
noncomputable def t2Jc(te:TE2)(tr:TJ2):TJ2:=fun x ρ δ out q=>te x ρ δ fun d ρ1 δ1=>match d with | .str y=>(out++y).length≤100000∧tr x ρ1 δ1 (out++y) q |_=>False
theorem z0w{tr:TJ2}(he:PE2 X Y W e te)(hr:PJ2 X Y W es tr):PJ2 X Y W (e::es) (t2Jc te tr):=⟨h0o (z1w he.go hr.go) fun σ H out Q ⟨F,ρ,δ,x,q,I,h,k,kx⟩=>by
 refine ⟨F,ρ,δ,x,_,I,h,fun d v F1 H1 ρ1 δ1 I1 s1 r1 h1=>?_,kx⟩;cases d with
 |str y=>exact ⟨y,rep_str.mp r1,h1.1,F1,ρ1,δ1,x,q,I1,h1.2,fun d v F' H' ρ' δ' I' s' r' q'=>k d v F' H' ρ' δ' I' (s1.trans s') r' q',kx.mono s1⟩
 |_=>exact h1.elim⟩
noncomputable def t2J(t:TJ2):TE2:=fun x ρ δ q=>t x ρ δ Str.empty q
theorem h0n{f:Expr}{tj:TJ2}(h:PJ2 X Y W (e::f::es) tj):PE2 X Y W (.JoinedStr (e::f::es) pos) (t2J tj):=pe2 (h0t h.go) fun σ H Q h=>h
noncomputable def e0c(te:TE2):TE2:=fun x ρ δ q=>te x ρ δ fun d ρ1 δ1=>match d with | .int i=>i.natAbs.log2<1920∧q (.str (toString i)) ρ1 δ1 | .str y=>y.length≤100000∧q (.str y) ρ1 δ1 |_=>False
theorem l0j(he:PE2 X Y W e te):PE2 X Y W (.FormattedValue e (-1) none pos) (e0c te):=pe2 (pe_fmt he.go) fun σ H Q ⟨F,ρ,δ,x,q,I,h,k,kx⟩=>by
 refine ⟨F,ρ,δ,x,_,I,h,fun d v F1 H1 ρ1 δ1 I1 s1 r1 h1=>?_,kx⟩;cases d with
 |int i=>exact .inl ⟨i,rep_int.mp r1,h1.1,k _ _ F1 H1 ρ1 δ1 I1 s1 (rep_str.mpr rfl) h1.2⟩
 |str y=>exact .inr ⟨y,rep_str.mp r1,h1.1,k _ _ F1 H1 ρ1 δ1 I1 s1 (rep_str.mpr rfl) h1.2⟩
 |_=>exact h1.elim
noncomputable def k0j(i:Nat)(ta:TE2)(t:TA2):TS2:=fun E ρ δ=>ta E.xc ρ δ fun d ρ1 δ1=>match d with | .str z=>t E.xc ρ1 δ1 fun es ρ2 δ2=>(match es with | [.str y]=>(y.length==0)=false∧z.length≤100000∧E.nx (ρ2.set i (.own ((Txt.split z y).map D.str))) δ2 |_=>False)|_=>False
end
end DL
namespace L2
open PySem PySem.Spec PyProof.Rows Builtin Builtin.Str
section
variable{X:Cx}{tg:Expr}
noncomputable def rIntS:List V→Hp→VK→Prop:=fun xs H Q=>∃z n,xs=[V.str z]∧PySem.intText? z=some n∧z.length≤640∧Q (V.int n) H
theorem t0z:x0u X (.type "int") rIntS:=by
 intro pins s σ H xs us Q I r h;obtain ⟨z,n,rfl,hn,hl,q⟩:=h;obtain ⟨u,rfl,t,rfl⟩:=r0y r;exact PySem.W.KIN.call_text hn hl ⟨.int n,H,I.tok _,⟨_,rfl⟩,q⟩
noncomputable def Its(x:Str):It:=⟨fun i _=>i<x.cps.size,fun i H v H'=>H'=H∧∃c,x.cps[i]?=some c∧v=.str ⟨#[c]⟩,fun i _=>x.cps.size≤i⟩
theorem l0i{P:Program}{w:World}{K:PySem.W.Frag}{tg:Expr}{n:String}(hn:n="str_ascii_iterator"∨n="str_iterator")(it:Addr)(x:Str)(t:Tok):Turn P w K tg (Its x) [it] it (fun i h=>h.IsStrIter it n x t i)where
 mem:=by simp
 obj:=fun i h st b hb=>by
  have e:b=it:=by simpa using hb
  subst e;obtain ⟨o,e,c,d⟩:=st;exact ⟨o,e,fun v z=>by rw[d]at z;cases z⟩
 keep:=fun i h h' st k=>let ⟨o,ho,r⟩:=st;⟨o,k it (by simp) o ho,r⟩
 item:=by
  intro X hP hw hK hc i pins s σ H E I hf st hg;subst hP hw hK;obtain ⟨f0,f1,f2,f3,f4,f5⟩:=hf it (by simp);have hi:i<x.cps.size:=hg;have fin:∀h',h'.IsStrIter it n x t (i+1)→Heap.SameBut it s.heap h'→∃u,some (Value.str ⟨#[x.cps[i]]⟩ s.toks)=some u∧wpAny (model X.prog X.w) X.A (letOwnedTupleGo tg (.ref it) u) (fun _ s2=>∃v H',Inv X pins σ H' s2∧RelV v u∧(Its x).yld i H v H'∧s2.heap.IsStrIter it n x t (i+1)∧∀b∈[it],H' b=none) E {s with heap:=h',toks:=s.toks+1}:=fun h' st' sb=>by
   have I1:Inv X pins σ H {s with heap:=h',toks:=s.toks+1}:=I.turned (fun b o hb e=>(sb.2 b hb).trans e) f0 f1 f3 f4 f5;obtain ⟨o,e,c,d⟩:=id st';exact ⟨_,rfl,g0c (s:={s with heap:=h',toks:=s.toks+1}) e c d (by rcases hn with rfl |rfl<;>decide) ⟨.str ⟨#[x.cps[i]]⟩,H,I1,⟨_,rfl⟩,⟨rfl,_,by simp[hi],rfl⟩,st',fun b hb=>(hf b hb).1⟩⟩
  rcases hn with rfl |rfl
  ·exact wpAny_pyNext_ascii_item st (c:=x.cps[i]) (by simp[hi]) fin
  ·exact wpAny_pyNext_wide_item st (c:=x.cps[i]) (by simp[hi]) fin
 done:=by
  intro X hP hw hK hc i pins s σ H E I hf st hg;subst hP hw hK;obtain ⟨f0,f1,f2,f3,f4,f5⟩:=hf it (by simp);have hi:x.cps.size≤i:=hg;rcases hn with rfl |rfl
  ·exact wpAny_pyNext_ascii_end (I.ok.hd hc) st (by simp[hi]) fun h' eb=>⟨rfl,I.turned (t':=s.toks) (fun b o hb e=>eb b o hb e) f0 f1 f3 f4 f5⟩
  ·exact wpAny_pyNext_wide_end (I.ok.hd hc) st (by simp[hi]) fun h' eb=>⟨rfl,I.turned (t':=s.toks) (fun b o hb e=>eb b o hb e) f0 f1 f3 f4 f5⟩
 self:=fun _ _ _ _ _ st h=>by
  rcases hn with rfl |rfl
  ·exact wpAny_pyIter_striter_ascii st h
  ·exact wpAny_pyIter_striter_wide st h
noncomputable def iStr(tl:TE):TI:=fun σ H R=>tl σ H fun x H1=>∃z,x=.str z∧R (Its z) H1
theorem pi_str{l:Expr}{tl:TE}(hl:PE X l tl):PI X tg l (iStr tl):=by
 intro pins s σ H R I h;refine thn (hl pins s σ H _ I h) fun v s1 ⟨x,H1,I1,r1,q1⟩=>?_
 obtain ⟨z,e,q⟩:=q1;subst e;obtain ⟨t,rfl⟩:=r1;have fresh:∀b∈[s1.heap.objs.size],FpOk X pins H1 b:=fun b hb=>by
  have e:b=s1.heap.objs.size:=by simpa using hb
  subst e;exact I1.fpOk (Nat.le_refl _) (I1.hok.fresh (Nat.le_refl _))
 cases ha:z.cps.all (·<128)
 ·refine wpAny_pyIter_wide ha ?_;exact ⟨s1.heap.objs.size,[s1.heap.objs.size],_,_,H1,rfl,I1.kept (t':=s1.toks) fun b o e=>Heap.get?_push_of_some _ e,l0i (.inr rfl) _ z t,⟨_,Heap.get?_push_size _ rfl,rfl,rfl⟩,fresh,q⟩
 ·refine wpAny_pyIter_ascii ha ?_;exact ⟨s1.heap.objs.size,[s1.heap.objs.size],_,_,H1,rfl,I1.kept (t':=s1.toks) fun b o e=>Heap.get?_push_of_some _ e,l0i (.inl rfl) _ z t,⟨_,Heap.get?_push_size _ rfl,rfl,rfl⟩,fresh,q⟩
end
end L2
namespace DL
open PySem PySem.Spec L2
section
variable{X:Cx}{Y:Y2}{W:XW}{tg:Expr}{K:Frag}
noncomputable def h0m:F1:=fun ds q=>match ds with | [.str z]=>(match PySem.intText? z with |some n=>z.length≤640∧q (.int n)|none=>False)|_=>False
theorem h0l:v0e K rIntS h0m:=by
 intro Y F H σ ρ δ vs ds Q1 q I r h' k;unfold h0m at h';split at h'
 ·rename_i z;split at h'
  ·rename_i n e;obtain ⟨v,rfl,r1⟩:=d8 r;exact ⟨z,n,by rw[rep_str.mp r1],e,h'.1,k _ _ F H I (Same.refl F) (rep_int.mpr rfl) h'.2⟩
  ·exact h'.elim
 ·exact h'.elim
noncomputable def h0k:F1:=fun ds q=>match ds with | [.str z]=>z.length≤100000∧q (.int z.length)|_=>False
theorem l0h:v0e K (fun xs H Q=>∃z,xs=[V.str z]∧z.length≤sizeLine∧Q (V.int z.length) H) h0k:=by
 intro Y F H σ ρ δ vs ds Q1 q I r h' k;unfold h0k at h';split at h'
 ·rename_i z;obtain ⟨v,rfl,r1⟩:=d8 r;exact ⟨z,by rw[rep_str.mp r1],i7 h'.1,k _ _ F H I (Same.refl F) (rep_int.mpr rfl) h'.2⟩
 ·exact h'.elim
noncomputable def subS(i j:Str):Bool:=!(Builtin.Str.occurrences j i 0 j.length 1).isEmpty
noncomputable def inS:F2:=fun d1 d2 q=>match d1,d2 with | .str i,.str j=>q (.bl (subS i j))|_,_=>False
theorem d_inS:OpD K (fun x y H Q=>∃i j,x=V.str i∧y=V.str j∧Q (V.bl (!(Builtin.Str.occurrences j i 0 j.length 1).isEmpty)) H) inS:=by
 intro Y F H σ ρ δ x y d1 d2 Q1 q I r1 r2 h' k;unfold inS at h';split at h'
 ·rename_i a b;exact ⟨a,b,rep_str.mp r1,rep_str.mp r2,k _ _ F H I (Same.refl F) (rep_bl.mpr rfl) h'⟩
 ·exact h'.elim
noncomputable def p0f:F2:=fun d1 d2 q=>match d1,d2 with | .str i,.str j=>q (.bl (!subS i j))|_,_=>False
theorem e0b:OpD K (fun x y H Q=>∃i j,x=V.str i∧y=V.str j∧Q (V.bl (!(!(Builtin.Str.occurrences j i 0 j.length 1).isEmpty))) H) p0f:=by
 intro Y F H σ ρ δ x y d1 d2 Q1 q I r1 r2 h' k;unfold p0f at h';split at h'
 ·rename_i a b;exact ⟨a,b,rep_str.mp r1,rep_str.mp r2,k _ _ F H I (Same.refl F) (rep_bl.mpr rfl) h'⟩
 ·exact h'.elim
noncomputable def ixSF:F2:=fun d1 d2 q=>match d1,d2 with | .str z,.int i=>z.length≤100000∧(match L2.atI z.cps.toList i with |some c=>q (.str ⟨#[c]⟩)|none=>False)|_,_=>False
theorem d_ixS:OpD K rIxS ixSF:=by
 intro Y F H σ ρ δ x y d1 d2 Q1 q I r1 r2 h' k;unfold ixSF at h';split at h'
 ·rename_i z i;obtain ⟨hz,h'⟩:=h';split at h'
  ·rename_i c e;exact ⟨z,i,c,rep_str.mp r1,rep_int.mp r2,i7 hz,e,k _ _ F H I (Same.refl F) (rep_str.mpr rfl) h'⟩
  ·exact h'.elim
 ·exact h'.elim
noncomputable def s0f(z:Str):List D:=z.cps.toList.map fun c=>.str ⟨#[c]⟩
theorem z1v{F:Hp}{z:Str}:SrcOk K (Its z) F (s0f z):=by
 refine ⟨fun i d F' H e s1 s2=>?_,fun F' H s1 s2=>?_⟩
 ·unfold s0f at e;rw[List.getElem?_map,Option.map_eq_some_iff]at e;obtain ⟨c,ec,rfl⟩:=e;have ec:z.cps[i]?=some c:=by simpa using ec
  refine ⟨(Array.getElem?_eq_some_iff.mp ec).1,fun v H' y=>?_⟩;obtain ⟨rfl,c',ec',rfl⟩:=y;rw[ec]at ec';cases ec';exact .inl ⟨rfl,rep_str.mpr rfl⟩
 ·show z.cps.size≤_;unfold s0f;rw[List.length_map];simp
noncomputable def e0a(te:TE2):TI2:=fun x ρ δ q=>te x ρ δ fun d ρ1 δ1=>match d with | .str z=>q (s0f z) ρ1 δ1 |_=>False
theorem i2_str{l:Expr}{te:TE2}(hl:PE2 X Y W l te):PI2 X Y W tg l (e0a te):=pi2 (pi_str hl.go) fun σ H R ⟨F,ρ,δ,x,q,I,h,k,kx⟩=>by
 refine ⟨F,ρ,δ,x,_,I,h,fun d v F' H' ρ' δ' I' s' r' h'=>?_,kx⟩;cases d with
 |str z=>exact ⟨z,rep_str.mp r',k _ _ F' H' ρ' δ' I' s' z1v h'⟩
 |_=>exact h'.elim
end
end DL
namespace L2
open PySem PySem.Spec PyProof.Rows
section
variable{X:Cx}{e:Expr}{te:TE}{lo hi:Option Expr}{st:Expr}{tl th tk:TO}{pos p2:Pos}
noncomputable def t0y(n:Nat)(lo hi:Option Int)(st:Int):List Nat:=sliceRange (sliceBounds lo hi (some st) n).1 (sliceBounds lo hi (some st) n).2.1 (sliceBounds lo hi (some st) n).2.2
noncomputable def k0i(xs:List V)(lo hi:Option Int)(st:Int):List V:=(t0y xs.length lo hi st).filterMap (xs[·]?)
theorem Vals.picks{xs:List V}{us:List Value}(r:Vals xs us):∀js:List Nat,Vals (js.filterMap (xs[·]?)) (js.filterMap (us[·]?))
 | []=>.nil
 |j::js=>by
  have ih:=Vals.picks r js;cases hn:xs[j]? with
  |some x=>
   obtain ⟨u,hu,ru⟩:=r.get hn;simp only[List.filterMap_cons,hn,hu];exact .cons ru ih
  |none=>
   have hv:us[j]?=none:=by
    rw[List.getElem?_eq_none_iff]at hn ⊢;rw[←r.length];exact hn
   simp only[List.filterMap_cons,hn,hv];exact ih
noncomputable def tSl3(K:PySem.W.Frag)(te:TE)(tl th tk:TO):TE:=fun σ H Q=>te σ H fun x H1=>tl σ H1 fun l H2=>th σ H2 fun u H3=>tk σ H3 fun k H4=>∃a xs c,x=.ref a∧SqL K H4 a xs∧k=some c∧c≠0∧∀p,H4 p=none→Q (.ref p) (upd H4 p (.lst (k0i xs l u c)))
theorem h0j(he:PE X e te)(hl:PO X lo tl)(hu:PO X hi th)(hk:PO X (some st) tk):PE X (.Subscript e (.Slice lo hi (some st) p2) pos) (tSl3 X.K te tl th tk):=by
 intro pins s σ H Q I h;refine Subscript_ (thn (he pins s σ H _ I h) fun v s1 ⟨x,H1,I1,r1,q1⟩=>?_);refine wpAny_Slice (thn (hl pins s1 σ H1 _ I1 q1) fun vl s2 ⟨l,H2,I2,pl,q2⟩=>thn (hu pins s2 σ H2 _ I2 q2) fun vu s3 ⟨u,H3,I3,pu,q3⟩=>thn (hk pins s3 σ H3 _ I3 q3) fun vk s4 ⟨k,H4,I4,pk,q4⟩=>?_);obtain ⟨a,xs,c,ex,hx,rfl,c0,q⟩:=q4;subst ex;cases r1;have I5:Inv X pins σ H4 {s4 with heap:=s4.heap.push {cls:=.type "slice",data:=.fields #[vl,vu,vk]}}:=I4.kept (t':=s4.toks) fun b ob q=>Heap.get?_push_of_some _ q
 obtain ⟨its,r,ht,hz⟩:=I5.list hx;have hlen:=r.length;show wpAny (model X.prog X.w) X.A (subscriptTail e (.Slice lo hi (some st) p2) (.ref a) (.ref s4.heap.objs.size)) (EP X pins σ Q) X.xe {s4 with heap:=s4.heap.push {cls:=.type "slice",data:=.fields #[vl,vu,vk]}};refine tail_any (ops:=[.ref a,.ref s4.heap.objs.size]) ht.isList.typeIs slot_list_getitem.lookup ?_ (by with_unfolding_all rfl);refine wpAny_getItem_list_slice ht.isList (Heap.IsSliceOf.new ..) pl pu pk (by simpa using c0) ?_ (by rw[List.size_toArray]<;>omega);have ep:(slicePick its.toArray l u (some c)).toList=(t0y xs.length l u c).filterMap (its[·]?):=by
  unfold slicePick t0y;rw[hlen];simp
 have lep:(k0i xs l u c).length≤xs.length:=by
  have z:=slicePick_size_le its.toArray l u (some c);have z2:(k0i xs l u c).length=((t0y xs.length l u c).filterMap (its[·]?)).length:=(r.picks (t0y xs.length l u c)).length;have z3:(slicePick its.toArray l u (some c)).size=((t0y xs.length l u c).filterMap (its[·]?)).length:=by rw[←ep];exact Array.length_toList.symm
  have z4:its.toArray.size=xs.length:=by rw[List.size_toArray];exact hlen.symm
  omega
 refine ⟨.ref _,_,I5.laid (t':=s4.toks) (o:=.lst (k0i xs l u c)) (fun b ob q=>Heap.get?_push_of_some _ q) (Nat.le_refl _) ?_,rfl,q _ (I5.hok.fresh (Nat.le_refl _))⟩;refine ⟨Nat.le_trans lep hz,(slicePick its.toArray l u (some c)).toList,0,?_,?_⟩
 ·rw[ep];exact r.picks _
 ·exact Heap.get?_push_size _ rfl
end
end L2
namespace DL
open PySem PySem.Spec L2
section
variable{X:Cx}{Y:Y2}{W:XW}{K:Frag}{e:Expr}{te:TE2}{pos p2:Pos}
noncomputable def r0j(xs:List D)(lo hi:Option Int)(st:Int):List D:=(t0y xs.length lo hi st).filterMap (xs[·]?)
theorem Reps.picks{F:Hp}{ds:List D}{vs:List V}(r:Reps K F ds vs):∀js:List Nat,Reps K F (js.filterMap (ds[·]?)) (js.filterMap (vs[·]?))
 | []=>Reps.nil
 |j::js=>by
  have ih:=Reps.picks r js;cases hn:ds[j]? with
  |some x=>
   obtain ⟨u,hu,ru⟩:=r.get hn;simp only[List.filterMap_cons,hn,hu];exact Reps.cons ru ih
  |none=>
   have hv:vs[j]?=none:=by
    rw[List.getElem?_eq_none_iff]at hn ⊢;rw[r.length];exact hn
   simp only[List.filterMap_cons,hn,hv];exact ih
noncomputable def d0z(te:TE2)(tl th tk:TO2):TE2:=fun x ρ δ q=>te x ρ δ fun d ρ1 δ1=>tl x ρ1 δ1 fun l ρ2 δ2=>th x ρ2 δ2 fun u ρ3 δ3=>tk x ρ3 δ3 fun k ρ4 δ4=>match d,k with | .lst xs,some c=>c≠0∧q (.lst (r0j xs l u c)) ρ4 δ4 |_,_=>False
theorem p0e{lo hi:Option Expr}{st:Expr}{tl th tk:TO2}(he:PE2 X Y W e te)(hl:PO2 X Y W lo tl)(hu:PO2 X Y W hi th)(hk:PO2 X Y W (some st) tk):PE2 X Y W (.Subscript e (.Slice lo hi (some st) p2) pos) (d0z te tl th tk):=pe2 (h0j he.go hl.go hu.go hk.go) fun σ H Q ⟨F,ρ,δ,x,q,I,h,k,kx⟩=>by
 refine ⟨F,ρ,δ,x,_,I,h,fun d v F1 H1 ρ1 δ1 I1 s1 r1 h1=>⟨F1,ρ1,δ1,x,_,I1,h1,fun l F2 H2 ρ2 δ2 I2' s2 h2=>⟨F2,ρ2,δ2,x,_,I2',h2,fun u F3 H3 ρ3 δ3 I3 s3 h3=>⟨F3,ρ3,δ3,x,_,I3,h3,fun o F4 H4 ρ4 δ4 I4 s4 h4=>?_,kx.mono ((s1.trans s2).trans s3)⟩,kx.mono (s1.trans s2)⟩,kx.mono s1⟩,kx⟩;have sa:=((s1.trans s2).trans s3).trans s4;have r4:=r1.mono ((s2.trans s3).trans s4);split at h4
 ·rename_i xs c;obtain ⟨a,vs,rfl,ea,z⟩:=rep_lst.mp r4;refine ⟨a,vs,c,rfl,SqL.of (I4.sub _ _ ea),rfl,h4.1,fun p hp=>?_⟩;have z2:Reps X.K F4 (r0j xs l u c) (k0i vs l u c):=by
   unfold r0j k0i;rw[z.length];exact z.picks _
  exact k _ _ _ _ ρ4 δ4 (I4.alloc hp) (sa.trans (I4.grow hp)) (I4.lst hp z2) h4.2
 ·exact h4.elim
end
end DL
namespace L2
open PySem PySem.Spec PyProof.Rows
open PySem.W (XC)
theorem RoomU.make{k:Nat}{A:Around}(r:RoomU (k+1) A)(C:Addr)(us:List Value)(kw:List (Str×Value)):RoomU k (A.under (.builtin "type.__call__" ⟨.ref C::us,kw⟩)):=
 ⟨by have:=r.dp;rw[s0o];omega,by have:=r.un;rw[s0n];omega⟩
section
variable{X:Cx}{k:Nat}{f C:Addr}{fd:FuncData}{ps:List Str}{sp:Sp}
theorem r0i{pins:List (Addr×Obj)}{σ:St}{H:Hp}{s:Shared}{Q:VK}{us:List Value}{vs:List V}(M:XMk X.K C f)(F:FnOkU X.prog X.w X.K X.mg X.base CX0 k f fd ps sp)(hr:RoomU (k+1) X.A)(hb:Binds X.K fd ps [])
 (I:Inv X pins σ H s) (r:Vals vs us) (hz:vs.length≤sizeLine)
 (hq:sp (.ref (s.heap.objs.size+1)::vs) (upd H (s.heap.objs.size+1) (XO 1 (s.heap.objs.size+1) C none)) (fun v H2=>v=.non∧Q (.ref (s.heap.objs.size+1)) H2) E0):
 wpAny (model X.prog X.w) X.A (call (.ref C) us) (fun u s'=>u=.ref (s.heap.objs.size+1)∧EP X pins σ Q u s') X.xe s:=by
 have I2:=Inv.madeX (C:=C) (us:=us) I;have r2:Vals (V.ref (s.heap.objs.size+1)::vs) (Value.ref (s.heap.objs.size+1)::us):=.cons rfl r;have hl:(Value.ref (s.heap.objs.size+1)::us++[]).length=ps.length:=by
  have e:=r2.length;rw[F.len _ _ _ _ hq]at e;rw[List.append_nil];exact e.symm
 obtain ⟨nm,qn,N,bs,bm,hdct,sn,sub,ab,col,dd,k0,k1,k2,k3,k5,hC,hT⟩:=m0f I.kIn M.sh;have hbd:=hb _ (Value.ref (s.heap.objs.size+1)::us) I2.kIn hl;rw[List.append_nil]at hbd;have hrun:=F.run _ X.stack _ _ ⟨Value.ref (s.heap.objs.size+1)::us,[]⟩ (Value.ref (s.heap.objs.size+1)::us) _ _ E0 (hr.make C us []) (I2.env0.make C us []) hbd r2 hq;obtain ⟨hh,g,d,tk,os⟩:=s;refine wpAny_call (PySem.W.type_call_x PySem.F.excBase_ValueError hT hC (PySem.W.looks_findIn I.kIn M.init) (fun self=>PySem.W.bind_fn I.kIn self (beq_iff_eq.mp M.fn)) (codeAny_mono hrun fun r s' hq'=>?_) (by rw[←r.length];exact hz));cases r with
 |error e=>exact (pass0 (X:=X)) pins σ _ _ e s' I2 hq'
 |ok fl=>
  cases fl with
  |ret u=>
   obtain ⟨v,H',I3,rv,ev,q3⟩:=I2.after hq';subst ev;exact ⟨rv,rfl,⟨V.ref (hh.objs.size+1),H',I3,rfl,q3⟩⟩
  |next=>exact False.elim hq'
  |brk=>exact False.elim hq'
  |cont=>exact False.elim hq'
end
theorem Fun.okU0{P:Program}{w:World}{K:PySem.W.Frag}{mg:Str→Option Value}{base:Heap}{x qual:Str}{st:Stmt}{f:Addr}{fd:FuncData}{N ps:List Str}{k:Nat}{sp:Sp}(F:Fun K x qual st f fd)(S:FnScope N ps (defScope st))(len:∀vs H Q E,sp vs H Q E→vs.length=ps.length)
 (hbody:∀(cdv:Value) (A:Around) (outer:List Env) (s:Shared) (H:Hp) (vs:List V) (Q:VK) (E:XK),RoomU k (A.deeper (envOfC qual (defScope st) s.heap.objs.size f cdv))→sp vs H Q E→
  ∃t,PSs {cxOf CX0 P w K mg base N qual (defScope st) f cdv A outer s H E with calm:=false} (defBody st) t∧t {nx:=fun _ H'=>Q .non H',rt:=Q} (start N vs) H):FnOkU P w K mg base CX0 (k+1) f fd ps sp:=by
 obtain ⟨oc,od,kV,doc,pm,an,cdv,ct,osl,rfl,lk,hcd⟩:=F.ex;exact fn_ofU lk hcd S len fun A outer s H vs Q E hr hsp=>hbody cdv A outer s H vs Q E hr hsp
theorem n0q{P:Program}{w:World}{A:Around}{E:Value→Shared→Prop}{env:Env}{xt ct:Sem Value}{Q:Flow→Shared→Prop}{C hd:Addr}{s:Shared}(hh:A.handled=some (.ref hd))
 (hct:∀(Q':Value→Shared→Prop) s',Q' .none s'→wpAny (model P w) A ct Q' E s')
 (h:wpAny (model P w) A xt (fun v s1=>∃e od vs nm qn N bs bm hdct sn sub ab col dd k0 k1 k2 k3 k5 nid,v=.ref e∧s1.heap.get? C=some (excClassObj nm qn C N bs bm hdct sn sub ab col dd k0 k1 k2 k3 k5 nid)∧bm.contains (.type "BaseException")=true∧
  s1.heap.get? e=some ⟨.ref C,od,.fields vs,#[]⟩∧vs[1]?=some .none∧(4<vs.size∧hd≠e∧∃oh vh,s1.heap.get? hd=some oh∧oh.data=.fields vh∧vh[2]?=some .none)∧
  ∀h' vs',h'.get? e=some ⟨.ref C,od,.fields vs',#[]⟩→vs'[1]?=some .none→(∀b,b≠e→h'.get? b=s1.heap.get? b)→E (.ref e) {s1 with heap:=h'}) E s):
 wpAny (model P w) A (raiseStmt env (some xt) (some ct)) Q E s:=by
 unfold raiseStmt;refine wpAny_bind (wpAny_mono h (fun v s1 h1=>?_) fun _ _ x=>x);obtain ⟨e,od,vs,nm,qn,N,bs,bm,hdct,sn,sub,ab,col,dd,k0,k1,k2,k3,k5,nid,rfl,hC,hb,he,hv,⟨hz,ne,oh,vh,ho,hod,h2⟩,hE⟩:=h1;have hcB:(Value.ref C::bm).contains (.type "BaseException")=true:=by rw[List.contains_cons,hb,Bool.or_true]
 have neC:C≠e:=fun z=>by subst z;rw[he]at hC;cases hC
 refine wpAny_bind (wpAny_holding (hct _ _ (wpAny_bind (wpAny_pure ?_))));dsimp only;obtain ⟨hp,g,d,tk,os⟩:=s1
 repeat (first |with_reducible refine wpAny_loadPart_at he ?_ |with_reducible refine wpAny_loadPart_at hC ?_ |(with_reducible refine wpAny_isSubtype_exc hC ?_;rw[hcB])|wp_step)
 rw[if_pos (by omega)];have he:hp.get? e=some ⟨.ref C,od,.fields vs,#[]⟩:=he;refine wpAny_update he ?_;have up:∀(h:Heap) (ws:Array Value) (i:Nat) (x:Value),h.get? e=some ⟨.ref C,od,.fields ws,#[]⟩→(h.update e (Obj.mapFields (·.setIfInBounds i x))).get? e=some ⟨.ref C,od,.fields (ws.setIfInBounds i x),#[]⟩∧∀b,b≠e→(h.update e (Obj.mapFields (·.setIfInBounds i x))).get? b=h.get? b:=fun h ws i x hh=>
  ⟨Heap.get?_update_self (Obj.mapFields (·.setIfInBounds i x)) hh (Obj.isFreed_of_fields (Obj.data_mapFields (vs:=ws) rfl _)),fun b hb=>Heap.get?_update_other _ _ (Ne.symm hb)⟩
 obtain ⟨u1,o1⟩:=up hp vs 3 .none he;generalize hp.update e (Obj.mapFields (·.setIfInBounds 3 .none))=hp1 at u1 o1 ⊢;refine wpAny_bind (wpAny_setField u1 rfl (by simp;omega) ?_);obtain ⟨u2,o2⟩:=up hp1 _ 4 (.bool true) u1;dsimp only;generalize hp1.update e (Obj.mapFields (·.setIfInBounds 4 (.bool true)))=hp2 at u2 o2 ⊢;have hC2:hp2.get? C=some (excClassObj nm qn C N bs bm hdct sn sub ab col dd k0 k1 k2 k3 k5 nid):=(o2 C neC).trans ((o1 C neC).trans hC)
 repeat (first |with_reducible refine wpAny_loadPart_at u2 ?_ |with_reducible refine wpAny_loadPart_at hC2 ?_ |(with_reducible refine wpAny_isSubtype_exc hC2 ?_;rw[hcB])|wp_step)
 have v1:((vs.setIfInBounds 3 .none).setIfInBounds 4 (.bool true))[1]?=some .none:=by simp[hv]
 rw[v1];refine wpAny_pure ?_;rw[if_neg (by decide)];refine wpAny_pure (v0d hh ne (show hp2.get? hd=some oh from (o2 hd ne).trans ((o1 hd ne).trans ho)) hod h2 u2 rfl (by simp;omega) ?_);obtain ⟨u3,o3⟩:=up hp2 _ 2 (.ref hd) u2;exact hE _ _ u3 (by simp[hv]) fun b hb=>(o3 b hb).trans ((o2 b hb).trans (o1 b hb))
end L2
namespace L2
open PySem PySem.Spec PyProof.Rows
open PySem.W (XC)
section
variable{X:Cx}{pins:List (Addr×Obj)}{σ:St}{H:Hp}{s:Shared}
noncomputable abbrev Cx.st(X:Cx):Cx:={X with fl:=true}
theorem Inv.st(I:Inv X pins σ H s):Inv X.st pins σ H s:=
 ⟨⟨I.ok.mod,I.ok.kind,I.ok.glob,I.ok.blt,I.ok.above,I.ok.inj,I.ok.has,I.ok.cab,I.ok.hd,I.ok.frames,I.ok.stk,I.ok.exf,I.ok.bs,I.ok.bsz,I.ok.noex,I.ok.exfs,I.ok.funs,I.ok.frf⟩,I.os,I.bare,I.base,I.loc,I.cell,I.free,I.freeC,I.pin,I.hok,I.len⟩
theorem Inv.unst(I:Inv X.st pins σ H s):Inv X pins σ H s:=
 ⟨⟨I.ok.mod,I.ok.kind,I.ok.glob,I.ok.blt,I.ok.above,I.ok.inj,I.ok.has,I.ok.cab,I.ok.hd,I.ok.frames,I.ok.stk,I.ok.exf,I.ok.bs,I.ok.bsz,I.ok.noex,I.ok.exfs,I.ok.funs,I.ok.frf⟩,I.os,I.bare,I.base,I.loc,I.cell,I.free,I.freeC,I.pin,I.hok,I.len⟩
theorem SP.unst{D:Ends}{f:Flow}{s':Shared}(h:SP X.st pins D f s'):SP X pins D f s':=by
 cases f with
 |next=>obtain ⟨σ',H',I,q⟩:=h;exact ⟨σ',H',I.unst,q⟩
 |brk=>obtain ⟨σ',H',I,q⟩:=h;exact ⟨σ',H',I.unst,q⟩
 |cont=>obtain ⟨σ',H',I,q⟩:=h;exact ⟨σ',H',I.unst,q⟩
 |ret u=>obtain ⟨v,σ',H',I,r,q⟩:=h;exact ⟨v,σ',H',I.unst,r,q⟩
noncomputable def tTryN(K:PySem.W.Frag)(D C:Addr)(sp:Sp)(W:XW)(tb:XW→TS)(ta:Addr→Addr→Option Addr→TA):TS:=fun E σ H=>∃W':XW,tb W' E σ H∧∀C' od σ' H',W' C' od σ' H'→PySem.W.mroIn K C' (.ref D)=some true∧
 ∀hd,H' hd=none→ta hd C' od σ' (upd H' hd (XO 2 hd C' od)) fun vs H1=>x0j H1 hd∧vs.length≤sizeLine∧∀x,H1 x=none→sp (.ref x::vs) (upd H1 x (XO 1 x C none)) (fun v H2=>v=.non∧x0j H2 hd∧∃od,H2 x=some (XO 1 x C od)∧W C od σ' (L2.drop H2 x)) E0
theorem z1u{body:List Stmt}{y x:Str}{C D f:Addr}{fd:FuncData}{ps:List Str}{k:Nat}{sp:Sp}{W:XW}{np p cpos hpos rpos npos pos:Pos}{nk:Nat}{e:Expr}{es:List Expr}{tb:XW→TS}{ta:Addr→Addr→Option Addr→TA}(tp:Top X)(hfl:X.fl=false)(hf:e8 X W)(d:XHd X.K D)(hgy:Gl X y)(hmy:X.mg y=some (.ref D))
 (M:XMk X.K C f) (F:FnOkU X.prog X.w X.K X.mg X.base CX0 k f fd ps sp) (hr:RoomU (k+1) X.A) (hg:Gl X x) (hm:X.mg x=some (.ref C)) (hbd:Binds X.K fd ps [])
 (hb:∀pins W',PSs (X.st.tr pins W') body (tb W')) (ha:∀hd C' od,PA (X.hdl hd) (e::es) (ta hd C' od))
 (hdy:(y==("__debug__":Str))=false:=by decide) (hdb:(x==("__debug__":Str))=false:=by decide) (he:starEach (e::es) X.env=(false,eval e X.env)::starEach es X.env:=by rfl) (hpl:(backTo cpos (starEach es X.env)).any (·.1)=false:=by rfl):
 PS X (.Try body [.ExceptHandler (some (.Name y np)) none [.Raise (some (.Call (.Name x p) (e::es) [] cpos)) (some (.Constant .none nk npos)) rpos] hpos] [] [] pos) (tTryN X.K D C sp W tb ta):=by
 intro pins s σ H E I ⟨W',q,hW⟩;refine wpAny_Try_except (wpAny_mono (hb pins W' [] s σ H E I.st.tr q) (fun f s1 z=>?_) fun ev s1 z=>?_)
 ·have z:=z.untr.unst;cases f with
  |next=>exact wpAny_execs_nil z
  |brk=>exact z
  |cont=>exact z
  |ret u=>exact z
 ·obtain ⟨hd,C',od,T,σ',H',rfl,I1,f,lx,lt,q1⟩:=z;have I0:Inv X pins σ' H' s1:=(I1.untr (X:=X.st) (W:=W') (.inr rfl)).unst;have ls:∀t,Loose (X.st.more pins) [] H' t→Loose X pins H' t:=fun t l=>⟨l.free,l.ne,l.yng,l.cell,fun p hp=>l.pin p (List.mem_append_left _ hp)⟩
  obtain ⟨hmro,hq⟩:=hW C' od σ' H' q1;refine u0i (c:=true) I0 tp I0.ok.frames f (ls hd lx) (fun t e=>ls t (lt t e)) fun s2 t I2 f2 l2=>?_
  refine m7 (c:=true) I2 tp f2 (fun t' e=>by cases e;exact l2) fun s3 I3 f3=>?_
  have lh:=ls hd lx;have l3:∀t',some t=some t'→Loose X pins H' t':=fun t' e=>by cases e;exact l2
  refine wpAny_handleBy_cons (codeAny_handlers_test (g8 (X:=X.hdl hd) I3.hdl hgy hmy ?_ hdy)) (by intro z;cases z);refine u0h (X:=X.st) I3.st f3 d hmro ?_;refine codeAny_handlers_suite (m7 (c:=true) I3 tp f3 l3 fun s4 I4 f4=>?_);have I5:Inv X.st pins σ' (upd H' hd (XO 2 hd C' od)) s4:=Inv.track (X:=X.st) I4.st ⟨lh.free,lh.ne,lh.yng,lh.cell,lh.pin⟩ f4;have I6:Inv (X.hdl hd) pins σ' (upd H' hd (XO 2 hd C' od)) s4:=I5.unst.hdl;have hh:(X.A.mark (some (.ref hd))).handled=some (.ref hd):=rfl;refine wpAny_execs_cons ?_;show wpAny _ _ (do standAt rpos;raiseStmt X.env (some (do let v←eval (.Call (.Name x p) (e::es) [] cpos) X.env;standAt rpos;pure v)) (some (do let v←eval (.Constant .none nk npos) X.env;standAt rpos;pure v))) _ _ _;refine wpAny_bind (wpAny_standAt (n0q (C:=C) hh (fun Q' s' hq'=>?_) ?_))
  ·exact wpAny_bind (wpAny_mono (Q:=fun v s1=>v=.none∧s1=s') (Constant_none ⟨rfl,rfl⟩) (fun v s1 e=>by obtain ⟨rfl,rfl⟩:=e;exact wpAny_bind (wpAny_standAt (wpAny_pure hq'))) fun _ _ z=>z)
  ·refine wpAny_bind (wpAny_mono (thn (E:=(X.hdl hd).xe) (Q:=fun v s1=>∃x H2 od',v=.ref x∧X.s₀.heap.objs.size≤x∧Inv (X.hdl hd) pins σ' H2 s1∧H2 x=some (XO 1 x C od')∧hd≠x∧x0j H2 hd∧W C od' σ' (L2.drop H2 x)) ?_ fun v s1 z=>z) (fun v s1 ⟨x,H2,od',ev,hy,J2,e2,n2,sa2,q2⟩=>wpAny_bind (wpAny_standAt (wpAny_pure ?_))) fun _ _ z=>z.elim)
   ·refine wpAny_Call_Name_kw (g8 (X:=X.hdl hd) I6 hg hm ?_ hdb);refine PySem.W.callWith_K (h₀:=X.base) I6.ok.mod.kin M.kp (thn (ha hd C' od cpos pins s4 σ' _ _ I6 (hq hd lh.free)) fun us s1 ⟨vs,H1,J1,r,sa,hz,q⟩=>⟨J1.kIn,?_⟩) he hpl;have fr:H1 (s1.heap.objs.size+1)=none:=J1.hok.fresh (Nat.le_succ _);have nn:hd≠s1.heap.objs.size+1:=fun z=>by obtain ⟨n,C1,od1,_,eh⟩:=sa;rw[z,fr]at eh;cases eh
    refine thn (r0i (X:=X.hdl hd) (Q:=fun v H2=>x0j H2 hd∧∃od,H2 (s1.heap.objs.size+1)=some (XO 1 (s1.heap.objs.size+1) C od)∧W C od σ' (L2.drop H2 (s1.heap.objs.size+1))) M F hr.mark hbd J1 r hz (q _ fr)) fun v s2 ⟨ev,y,H2,J2,ry,sa2,od',q1,q2⟩=>?_
    exact ⟨_,H2,od',ev,Nat.le_trans J1.sz (Nat.le_succ _),J2,q1,nn,sa2,q2⟩
   ·subst ev;obtain ⟨o,vs,hx,h1,h2,h3,h40⟩:=XO.get J2.hok e2;obtain ⟨h4,h5,h7⟩:=h40.1 rfl;obtain ⟨n,C1,od1,n0,eh⟩:=sa2;obtain ⟨oh,vh,ho,_,_,hod,hh0⟩:=XO.get J2.hok eh;obtain ⟨nm,qn,N,bs,bm,hdct,sn,sub,ab,col,dd,k0,k1,k2,k3,k5,hC,hT⟩:=m0f J2.kIn M.sh;have J0:Inv X pins σ' H2 s1:=J2.unhdl I.ok;have J3:=Inv.drop J0 e2;obtain ⟨oc,odd,odt,osl⟩:=o;dsimp only at h1 h2 h3 h4;subst h1 h2 h3 h4;refine ⟨x,odd,vs,nm,qn,N,bs,bm,hdct,sn,sub,ab,col,dd,k0,k1,k2,k3,k5,_,rfl,hC,hT.hasType rfl,hx,h5,⟨h7,n2,oh,vh,ho,hod,hh0.2 n0⟩,fun h' vs' g1 g2 g3=>?_⟩;have lx:Loose X pins (L2.drop H2 x) x:=⟨d9,(fun z=>by have:=J0.free;rw[←z,e2]at this;cases this),hy,(fun y c q z=>by have:=J0.freeC y c q;rw[z,e2]at this;cases this),(fun p hp z=>by have:=(J0.pin p hp).2.1;rw[z,e2]at this;cases this)⟩;have J4:Inv X pins σ' (L2.drop H2 x) {s1 with heap:=h'}:=
     J3.stir (ch:=[x]) (fun b hb=>by rw[List.mem_singleton.mp hb];exact lx) tp (fun b o hb hf e=>(g3 b fun z=>hb (by simp[z])).trans e) (fun b o hb e=>⟨o.slots,(g3 b fun z=>hb (by simp[z])).trans e⟩) (fun b hb=>by rw[List.mem_singleton.mp hb];exact ⟨_,g1⟩)
    have fl4:Fly false h' x C odd none:=⟨_,vs',g1,rfl,rfl,rfl,⟨(Array.getElem?_eq_some_iff.mp g2).1,fun z=>by cases z⟩,g2⟩;show notedBy _ _ _ _ _ _;unfold notedBy;refine u0i (c:=false) (A:=X.A.mark (some (.ref hd))) J4 tp I.ok.frames fl4 lx (fun t z=>by cases z) fun s5 t J5 fl5 l5=>?_
    show cameBackBy _ _ _ _ _ _;unfold cameBackBy;obtain ⟨o5,vs5,z1,z2,z3,z4,z5,z6,z7⟩:=id fl5;refine wpAny_bind (wpAny_field z1 z4 z6 ?_);rw[if_neg (by simp)];refine m7 (c:=false) J5 tp fl5 (fun t' e=>by cases e;exact l5) fun s6 J6 fl6=>?_
    exact hf pins _ _ ⟨x,C,odd,some t,σ',_,rfl,J6,hfl▸fl6,lx,(fun t' e=>by cases e;exact l5),q2⟩
end
end L2
namespace DL
open PySem PySem.Spec L2
open PySem.W (XC)
open PyProof.Rows (envOfC)
structure MkEU(P:Program)(w:World)(K:Frag)(mg:Str→Option Value)(base:Heap)(x:Str)(C:Addr)(k:Nat)(ps:List Str)(sp:Sp):Prop where
 ex:∃f fd,XMk K C f∧FnOkU P w K mg base CX0 k f fd ps sp∧Binds K fd ps []
 m:mg x=some (.ref C)
section
variable{X:Cx}{Y:Y2}{W:XW}{x y:Str}{C D:Addr}{f:Str}{k:Nat}{ps:List Str}{np p cpos hpos rpos npos pos:Pos}{nk:Nat}{e:Expr}{es:List Expr}{body:List Stmt}{tb:TS2}{t:TA2}
noncomputable def p0d(K:Frag)(D C:Addr)(f:Str)(tb:TS2)(t:TA2):TS2:=fun E ρ δ=>tb {E with xc:=fun C' _ ρ' δ'=>PySem.W.mroIn K C' (.ref D)=some true∧t (fun _ _ _ _=>False) ρ' δ' fun ds ρ1 δ1=>match ds with | [d]=>E.xc C [(f,d)] ρ1 δ1 |_=>False} ρ δ
theorem z1t(tp:Top X)(hfl:X.fl=false)(hf:e8 X W)(d:XHd X.K D)(hmy:X.mg y=some (.ref D))(M:MkEU X.prog X.w X.K X.mg X.base x C k ps (spXI C f))(hr:RoomU (k+1) X.A)
 (hb:∀pins W',PSs2 (X.st.tr pins W') Y W' body tb) (ha:∀hd C' od,PA2 (X.hdl hd) (Y.plus hd (XO 2 hd C' od)) W0 (e::es) t)
 (hgy:Gl X y:=by rfl) (hg:Gl X x:=by rfl) (hdy:(y==("__debug__":Str))=false:=by decide) (hdb:(x==("__debug__":Str))=false:=by decide) (he:starEach (e::es) X.env=(false,eval e X.env)::starEach es X.env:=by exact b5 rfl) (hpl:(backTo cpos (starEach es X.env)).any (·.1)=false:=by exact p6 rfl):
 PS2 X Y W (.Try body [.ExceptHandler (some (.Name y np)) none [.Raise (some (.Call (.Name x p) (e::es) [] cpos)) (some (.Constant .none nk npos)) rpos] hpos] [] [] pos) (p0d X.K D C f tb t):=by
 obtain ⟨g,fd,h1,h2,h3⟩:=M.ex;refine ps2 (z1u (tb:=fun W'=>upS X.K Y W' tb) (ta:=fun hd C' od=>upA X.K (Y.plus hd (XO 2 hd C' od)) W0 t) tp hfl hf d hgy hmy h1 h2 hr hg M.m h3 (fun p W'=>(hb p W').go) (fun hd C' od=>(ha hd C' od).go) hdy hdb he hpl) fun E1 σ H ⟨F,ρ,δ,E2,I,h,er⟩=>?_
 refine ⟨fun C' od σ' H'=>∃F' ρ' δ',I2 X.K Y F' H' σ' ρ' δ'∧Same F F'∧PySem.W.mroIn X.K C' (.ref D)=some true∧t (fun _ _ _ _=>False) ρ' δ' fun ds ρ1 δ1=>match ds with | [d]=>E2.xc C [(f,d)] ρ1 δ1 |_=>False,⟨F,ρ,δ,_,I,h,⟨er.nx,er.rt,fun C' od fs σ' F' H' ρ' δ' I' s' r' h'=>⟨F',ρ',δ',I',s',h'.1,h'.2⟩,er.bk,er.ct⟩⟩,fun C' od σ' H' ⟨F',ρ',δ',I',s',hm,h'⟩=>⟨hm,fun hd hh=>?_⟩⟩;have h0:=I'.ran.fresh hh;have f0:Y.F₀ hd=none:=by
  cases q:Y.F₀ hd with
  |none=>rfl
  |some u=>have:=I'.sub _ _ (I'.ran.f0 _ _ q);rw[hh]at this;cases this
 have sp1:=I'.grow (o:=XO 2 hd C' od) hh;refine ⟨_,ρ',δ',fun _ _ _ _=>False,_,I'.plus (o:=XO 2 hd C' od) hh,h',fun ds vs F1 H1 ρ1 δ1 I1 s1 r1 q1=>?_,fun _ _ _ _ _ _ _ _ _ _ _ z=>z⟩;have sa:x0j H1 hd:=⟨2,C',od,by decide,I1.sub _ _ (s1 _ _ n3)⟩;split at q1
 ·rename_i d;obtain ⟨v,rfl,r2⟩:=d8 r1;refine ⟨sa,sz1,fun y hy=>⟨y,v,rfl,n3,fun dx hdx ne=>⟨rfl,?_,some dx,n3,?_⟩⟩⟩
  ·obtain ⟨n,C1,od1,n0,eh⟩:=sa;have hd2:H1 dx=none:=by rw[y0 ne]at hdx;exact hdx
   exact ⟨n,C1,od1,n0,by rw[y0 (s0 eh hy),y0 (s0 eh hd2),y0 (s0 eh hy)];exact eh⟩
  ·rw[l0q hy ne];have hd2:H1 dx=none:=by rw[y0 ne]at hdx;exact hdx
   have J:=I1.unplus h0 f0;exact er.xc C (some dx) _ σ' _ _ ρ1 δ1 (J.alloc hd2) (s'.trans (sp1.trans (s1.trans (J.grow hd2)))) ⟨_,n3,(repF1 r2).mono (J.grow hd2)⟩ q1
 ·exact q1.elim
end
end DL
namespace L2
open PySem PySem.Spec PyProof.Rows
section
variable{X:Cx}{pins:List (Addr×Obj)}{σ:St}{H:Hp}{s:Shared}
noncomputable abbrev Cx.wk(X:Cx):Cx:={X with fl:=false}
theorem Inv.wk(I:Inv X pins σ H s):Inv X.wk pins σ H s:=
 ⟨⟨I.ok.mod,I.ok.kind,I.ok.glob,I.ok.blt,I.ok.above,I.ok.inj,I.ok.has,I.ok.cab,I.ok.hd,I.ok.frames,I.ok.stk,I.ok.exf,I.ok.bs,I.ok.bsz,I.ok.noex,I.ok.exfs,I.ok.funs,I.ok.frf⟩,I.os,I.bare,I.base,I.loc,I.cell,I.free,I.freeC,I.pin,I.hok,I.len⟩
theorem Inv.unwk(I:Inv X.wk pins σ H s):Inv X pins σ H s:=
 ⟨⟨I.ok.mod,I.ok.kind,I.ok.glob,I.ok.blt,I.ok.above,I.ok.inj,I.ok.has,I.ok.cab,I.ok.hd,I.ok.frames,I.ok.stk,I.ok.exf,I.ok.bs,I.ok.bsz,I.ok.noex,I.ok.exfs,I.ok.funs,I.ok.frf⟩,I.os,I.bare,I.base,I.loc,I.cell,I.free,I.freeC,I.pin,I.hok,I.len⟩
theorem SP.unwk{D:Ends}{f:Flow}{s':Shared}(h:SP X.wk pins D f s'):SP X pins D f s':=by
 cases f with
 |next=>obtain ⟨σ',H',I,q⟩:=h;exact ⟨σ',H',I.unwk,q⟩
 |brk=>obtain ⟨σ',H',I,q⟩:=h;exact ⟨σ',H',I.unwk,q⟩
 |cont=>obtain ⟨σ',H',I,q⟩:=h;exact ⟨σ',H',I.unwk,q⟩
 |ret u=>obtain ⟨v,σ',H',I,r,q⟩:=h;exact ⟨v,σ',H',I.unwk,r,q⟩
theorem PSs.unwk{b:List Stmt}{t:TS}(h:PSs X.wk b t):PSs X b t:=fun pins s σ H D I q=>wpAny_mono (h pins s σ H D I.wk q) (fun _ _ z=>z.unwk) fun _ _ z=>z
end
section
variable{P:Program}{w:World}{K:PySem.W.Frag}{mg:Str→Option Value}{base:Heap}
noncomputable abbrev cxW(P:Program)(w:World)(K:PySem.W.Frag)(mg:Str→Option Value)(base:Heap)(N:List Str)(qual:Str)(scope:Scope)(f:Addr)(cd:Value)(A:Around)(outer:List Env)(s:Shared)(H:Hp)(E:XK):Cx:=
 {cxOf (CXc false P w) P w K mg base N qual scope f cd A outer s H E with fl:=false}
theorem x0i{N:List Str}{qual:Str}{scope:Scope}{f:Addr}{cd:Value}{A:Around}{outer:List Env}{s:Shared}{H:Hp}{E:XK}:e8 (cxW P w K mg base N qual scope f cd A outer s H E) fun C od _ H'=>E (.ref C) od H':=by
 intro pins e s' h;obtain ⟨x,C,od,T,σ,H',rfl,I,ff,lx,lt,q⟩:=h;have tp:Top (cxW P w K mg base N qual scope f cd A outer s H E):=⟨rfl,rfl⟩;show wpAny _ _ (leaving _ (.ref x)) _ _ _;unfold leaving;refine wpAny_bind (u0i I tp I.ok.frames ff lx lt fun s1 t I1 f1 l1=>m7 I1 tp f1 (fun t' e=>by cases e;exact l1) fun s2 I2 f2=>?_);exact ⟨x,C,od,some t,H',rfl,I2.os,I2.bare,I2.base,I2.hok,f2,lx.free,lx.yng,fun t' e=>by cases e;exact ⟨l1.free,l1.yng⟩,q⟩
end
section
variable{X:Cx}
theorem pe_cW{k:Nat}{ps:List Str}{sp:Sp}{x:Str}{p pos:Pos}{e:Expr}{es:List Expr}{t:TA}{W:XW}(G:FnAt X.prog X.w X.K X.mg X.base (CXc false X.prog X.w) x k ps sp)(hr:Room k X.A)(hfl:X.fl=false)(hf:e8 X W)(ha:PA X (e::es) t)(hg:Gl X x:=by rfl)(hdb:(x==("__debug__":Str))=false:=by decide)
 (he:starEach (e::es) X.env=(false,eval e X.env)::starEach es X.env:=by rfl) (hpl:(backTo pos (starEach es X.env)).any (·.1)=false:=by rfl):PE X (.Call (.Name x p) (e::es) [] pos) (m0b sp W t):=by
 obtain ⟨f,fd,F,m,kp,b⟩:=G.ex;intro pins s σ H Q I h;refine wpAny_Call_Name_kw (g8 I hg m ?_ hdb);refine PySem.W.callWith_K (h₀:=X.base) I.ok.mod.kin kp (thn (ha pos pins s σ H _ I h) fun us s1 ⟨vs,H1,I1,r,q⟩=>⟨I1.kIn,?_⟩) he hpl;have hl:(us++[]).length=ps.length:=by rw[List.append_nil,← r.length];exact F.len _ _ _ _ q
 have hbd:=b s1 us I1.kIn hl;rw[List.append_nil]at hbd;refine wpAny_call (codeAny_mono (F.run X.A X.stack s1 H1 ⟨us,[]⟩ us vs Q _ hr I1.env0 hbd r q) fun r s' hq=>?_);cases r with
 |error e=>exact hf pins e s' (h0x hfl I1 hq)
 |ok fl=>
  cases fl with
  |ret u=>exact I1.after hq
  |next=>exact False.elim hq
  |brk=>exact False.elim hq
  |cont=>exact False.elim hq
end
end L2
namespace DL
open PySem PySem.Spec L2
open PySem.W (XC)
open PyProof.Rows (envOfC)
noncomputable abbrev Fun2W(P:Program)(w:World)(K:Frag)(mg:Str→Option Value)(base:Heap)(x:Str)(k:Nat)(ps:List Str)(sp:Sp2):Prop:=FnAt P w K mg base (CXc false P w) x k ps (upF K sp)
section
variable{X:Cx}{Y:Y2}{W:XW}{x:Str}{p pos:Pos}{e:Expr}{es:List Expr}{t:TA2}{k:Nat}{ps:List Str}{sp:Sp2}
theorem d0y(G:Fun2W X.prog X.w X.K X.mg X.base x k ps sp)(hr:Room k X.A)(hf:e8 X W)(ha:PA2 X Y W (e::es) t)(hfl:X.fl=false:=by rfl)(hg:Gl X x:=by rfl)(hdb:(x==("__debug__":Str))=false:=by decide)
 (he:starEach (e::es) X.env=(false,eval e X.env)::starEach es X.env:=by exact b5 rfl) (hpl:(backTo pos (starEach es X.env)).any (·.1)=false:=by exact p6 rfl):PE2 X Y W (.Call (.Name x p) (e::es) [] pos) (x0p sp t):=pe2 (pe_cW G hr hfl hf ha.go hg hdb he hpl) fun σ H Q h=>i0m h
end
section
variable{P:Program}{w:World}{K:Frag}{mg:Str→Option Value}{base:Heap}
theorem def2W{x:Str}{st:Stmt}{f:Addr}{fd:FuncData}{N ps:List Str}{k:Nat}{sp:Sp2}(D:DefAt K mg x st ps f fd)(S:FnScope N ps (defScope st))(len:∀ds δ q x,sp ds δ q x→ds.length=ps.length)
 (hbody:∀(cdv:Value) (A:Around) (outer:List Env) (s:Shared) (H:Hp) (E:XK) (Y:Y2),Room k (A.deeper (envOfC x (defScope st) s.heap.objs.size f cdv))→
  ∃t,PSs2 (cxW P w K mg base N x (defScope st) f cdv A outer s H E) Y (fun C od _ H'=>E (.ref C) od H') (defBody st) t∧
   ∀ds δ q x,sp ds δ q x→t {nx:=fun _ δ=>q .non δ,rt:=q,xc:=fun C fs _ δ=>x C fs δ} (x4 N ds) δ):Fun2W P w K mg base x (k+1) ps sp:=by
 obtain ⟨oc,od,kV,doc,pm,an,cdv,ct,osl,rfl,lk,hcd⟩:=D.F.ex;refine ⟨f,_,b0s lk hcd S (fun vs H Q E h=>?_) fun A outer s H vs Q E hr h=>?_,D.m,D.F.kp,D.b⟩
 ·obtain ⟨F,ds,δ,q,x,_,_,r,h,_⟩:=h;rw[r.length];exact len ds δ q x h
 ·obtain ⟨F,ds,δ,q,x,s1,dk,r,h,kq,kx⟩:=h;obtain ⟨t,ht,rd⟩:=hbody cdv A outer s H E ⟨F,H,δ,none⟩ hr;refine ⟨_,ht.go.unwk,F,x4 N ds,δ,_,I2.start s1 dk r,rd ds δ q x h,⟨fun σ' F' H' ρ' δ' I' s' h'=>?_,fun d v σ' F' H' ρ' δ' I' s' r' h'=>?_,fun C od fs σ' F' H' ρ' δ' I' s' r' h'=>?_,fun _ _ _ _ _ _ _ z=>z.elim,fun _ _ _ _ _ _ _ z=>z.elim⟩⟩
  ·exact kq .non .non F' H' δ' I'.ran (rep_non.mpr rfl) h'
  ·exact kq d v F' H' δ' I'.ran r' h'
  ·exact kx C od fs F' H' δ' I'.ran r' h'
end
end DL
namespace DL
open PySem PySem.Spec L2
open PySem.W (XC)
section
variable{X:Cx}{Y:Y2}{W:XW}{x y:Str}{C D:Addr}{f:Str}{k:Nat}{ps:List Str}{np p p2 cpos hpos rpos npos pos pos':Pos}{nk:Nat}{e:Expr}{es:List Expr}{body:List Stmt}{tb:TS2}{t:TA2}{te:TE2}
theorem d0x(K:Frag)(tp:Top X)(hfl:X.fl=false)(hf:e8 X W)(d:XHd K D)(hmy:X.mg y=some (.ref D))(M:MkEU X.prog X.w K X.mg X.base x C k ps (spXI C f))(hr:RoomU (k+1) X.A)
 (hb:∀pins W',PSs2 (X.st.tr pins W') Y W' body tb) (ha:∀hd C' od,PA2 (X.hdl hd) (Y.plus hd (XO 2 hd C' od)) W0 (e::es) t) (hK:X.K=K:=by rfl)
 (hgy:Gl X y:=by rfl) (hg:Gl X x:=by rfl) (hdy:(y==("__debug__":Str))=false:=by decide) (hdb:(x==("__debug__":Str))=false:=by decide) (he:starEach (e::es) X.env=(false,eval e X.env)::starEach es X.env:=by exact b5 rfl) (hpl:(backTo cpos (starEach es X.env)).any (·.1)=false:=by exact p6 rfl):
 PS2 X Y W (.Try body [.ExceptHandler (some (.Name y np)) none [.Raise (some (.Call (.Name x p) (e::es) [] cpos)) (some (.Constant .none nk npos)) rpos] hpos] [] [] pos) (p0d K D C f tb t):=by
 subst hK;exact z1t tp hfl hf d hmy M hr hb ha hgy hg hdy hdb he hpl
noncomputable def r0h(i:Nat)(te:TE2)(tl th:TO2):TS2:=fun E ρ δ=>te E.xc ρ δ fun d ρ1 δ1=>tl E.xc ρ1 δ1 fun l ρ2 δ2=>th E.xc ρ2 δ2 fun u ρ3 δ3=>match d with | .lst xs=>E.nx (ρ3.set i (.own (cutD xs l u))) δ3 |_=>False
theorem l0g{lo hi:Option Expr}{tl th:TO2}(i:Nat)(hN:X.N.Nodup)(he:PE2 X Y W e te)(hl:PO2 X Y W lo tl)(hu:PO2 X Y W hi th)(hi':X.N[i]?=some x:=by rfl)(hx:Loc X.env.scope x:=by walk_at "v2")
 (hs:swapsWith (.Subscript e (.Slice lo hi none p2) pos) (some (.Name x pos')) npos.line X.env=pure false:=by rfl) (hf:X.fn x=true∨X.env.scope.names.lookup x=some .local:=by walk_at "v1"):
 PS2 X Y W (.Assign [.Name x pos'] (.Subscript e (.Slice lo hi none p2) pos) npos) (r0h i te tl th):=ps2 (m0l (i:=i) hN hi' hx (r0x j0g he.go hl.go hu.go) hs hf) fun E1 σ H ⟨F,ρ,δ,E2,I,h,er⟩=>by
 refine ⟨F,ρ,δ,E2.xc,_,I,h,fun d v F1 H1 ρ1 δ1 I1 s1 r1 h1=>⟨F1,ρ1,δ1,E2.xc,_,I1,h1,fun l F2 H2 ρ2 δ2 I2' s2 h2=>⟨F2,ρ2,δ2,E2.xc,_,I2',h2,fun u F3 H3 ρ3 δ3 I3 s3 h3=>?_,er.xc.mono (s1.trans s2)⟩,er.xc.mono s1⟩,er.xc⟩;have sa:=(s1.trans s2).trans s3;have r3:=r1.mono (s2.trans s3);cases d with
 |lst xs=>
  obtain ⟨a,vs,rfl,ea,z⟩:=rep_lst.mp r3;exact ⟨a,vs,rfl,SqL.of (I3.sub _ _ ea),fun p hp=>er.nx _ F3 _ _ δ3 (I3.own hp z.cut) sa h3⟩
 |_=>exact h3.elim
end
section
variable{P:Program}{w:World}{K:Frag}{mg:Str→Option Value}{base:Heap}
theorem Fun2W.to{x:Str}{k:Nat}{ps:List Str}{sp sp':Sp2}(G:Fun2W P w K mg base x k ps sp)(hs:∀ds δ q x,sp' ds δ q x→sp ds δ q fun _ _ _=>False):Fun2 P w K mg base x k ps sp':=by
 obtain ⟨f,fd,F,m,kp,b⟩:=G.ex;have up:∀vs H Q E,upF K sp' vs H Q E→upF K sp vs H Q fun _ _ _=>False:=fun vs H Q E h=>by
  obtain ⟨F0,ds,δ,q,x,s1,dk,r,h,kq,kx⟩:=h;exact ⟨F0,ds,δ,q,_,s1,dk,r,hs _ _ _ _ h,kq,fun _ _ _ _ _ _ _ _ z=>z⟩
 refine ⟨f,fd,⟨fun vs H Q E h=>F.len _ _ _ _ (up _ _ _ _ h),fun A outer s H args us vs Q E hr he hb hv h=>?_⟩,m,kp,b⟩;refine codeAny_mono (F.run A outer s H args us vs Q (fun _ _ _=>False) hr he hb hv (up _ _ _ _ h)) fun r s' hq=>?_
 cases r with
 |error e=>obtain ⟨_,_,_,_,_,_,_,_,_,_,_,_,_,_,z⟩:=hq;exact z.elim
 |ok fl=>cases fl<;>exact hq
end
end DL
namespace HD
open PySem PySem.W PyProof.Rows PySem.Calls
noncomputable abbrev N:Value:=.none
noncomputable abbrev r(a:Nat):Value:=.ref a
noncomputable abbrev s(x:String)(t:Nat):Value:=.str (Str.ofString x) t
noncomputable abbrev i(n:Int)(t:Nat):Value:=.int n t
noncomputable abbrev b(x:Bool):Value:=.bool x
noncomputable abbrev ty(x:String):Value:=.type x
noncomputable abbrev bi(x:String):Value:=.builtin x
noncomputable abbrev ob(c:Value)(d:Data):Obj:={cls:=c,data:=d}
noncomputable abbrev tp(l:List Value):Obj:=ob (.type "tuple") (.seq ⟨l⟩)
noncomputable abbrev fl(c:Value)(l:List Value):Obj:=ob c (.fields ⟨l⟩)
noncomputable abbrev en(P:Params)(x:String)(t:Nat)(v:Value):DictEntry:=⟨PyData.keyHash P (Str.ofString x),.str (Str.ofString x) t,v⟩
noncomputable abbrev di(l:List DictEntry)(n:Nat):Obj:=ob (.type "dict") (.dict ⟨l⟩ n)
noncomputable abbrev fn(c:Value)(n q:String)(st:Stmt)(g:Nat)(m cd:Value):Obj:=
 ob c (.func {name:=Str.ofString n,qualname:=Str.ofString q,params:=L2.defArgs st,body:=.stmts (L2.defBody st),scope:=L2.defScope st,globals:=g,closure:=[],defaults:=.none,kwdefaults:=.none,pyModule:=m,code:=cd})
noncomputable abbrev co(n:String)(bs mro:List Value)(ns:Nat)(q:String)(hd hl:Bool)(subs:List Value)(sl:List (Option Value)):Obj:={cls:=.type "type",data:=.cls {name:=Str.ofString n,bases:=bs,mro:=mro,ns:=ns,qualname:=Str.ofString q,hasDict:=hd,hasDel:=hl,subclasses:=subs},slots:=⟨sl⟩}
noncomputable def x(g:Params→List Obj)(i:Nat)(P:Params):Obj:=(g P).getD i default
noncomputable def insT(t:BT):Nat→Obj→BT:=
 @BT.rec (fun _=>Nat→Obj→BT) (fun _ o=>.node o .nil .nil)
  (fun v l r ihl ihr i o=>@Bool.rec (fun _=>BT) (@Bool.rec (fun _=>BT) (.node v l (ihr (i/2-1) o)) (.node v (ihl (i/2) o) r) (Nat.beq (i%2) 1)) (.node o l r) (Nat.beq i 0)) t
noncomputable def insL(l:List Obj):Nat→BT→BT:=
 @List.rec Obj (fun _=>Nat→BT→BT) (fun _ t=>t) (fun o _ ih n t=>ih (Nat.succ n) (insT t n o)) l
noncomputable def setL(l:List (Nat×Obj)):BT→BT:=
 @List.rec (Nat×Obj) (fun _=>BT→BT) (fun t=>t) (fun p _ ih t=>ih (insT t p.1 p.2)) l
section
variable{p:Program}{w:World}{n₀:Nat}{ann:Option Value}{bb n:Nat}{st:SharedT}{l:List Stmt}{env:Env}{c:Code}{q:Pos}{B:List Frame}{rr:Option (Flow×SharedT×Code×Pos)}
theorem w0v(h:PySem.W.Fast.tw10110043849684766642 PySem.W.Fast.tw14364793385576792824 p w n₀ ann bb n st ⟨(PySem.W.Fast.tw12563942051412417395 l env).wrap doneF deadEnd id id,c,q,B⟩=rr):
 segRunT treeTable p w n₀ ann bb n st (piecesOf l env c q B)=rr:=by
 unfold piecesOf;rw[PySem.W.Fast.te10110043849684766642,PySem.W.Fast.te14364793385576792824,PySem.W.Fast.te12563942051412417395];exact h
theorem turnGo{s:Shared}{t:Thread}{r:Option (Shared×Thread)}(h:PySem.W.Fast.tw15667345088766844465 PySem.W.Fast.tw14364793385576792824 p w n₀ ann n s t=r):topGo treeTable p w n₀ ann n s t=r:=by
 rw[PySem.W.Fast.te15667345088766844465,PySem.W.Fast.te14364793385576792824];exact h
theorem z1s{s:Shared}{t:Thread}{r:Option Shared}(h:PySem.W.Fast.tw14082659384304107361 PySem.W.Fast.tw14364793385576792824 p w n₀ ann n s t=r):topRun treeTable p w n₀ ann n s t=r:=by
 rw[PySem.W.Fast.te14082659384304107361,PySem.W.Fast.te14364793385576792824];exact h
theorem h0i{s:Shared}{r:Option (Flow×Shared×Code×Pos)}(h:PySem.W.Fast.tw14374325043358763698 PySem.W.Fast.tw14364793385576792824 p w n₀ ann bb n s ⟨(PySem.W.Fast.tw1066825118222455980 l env).wrap (fun _=>doneF .next) deadEnd id id,c,q,B⟩=r):
 segRun treeTable p w n₀ ann bb n s (blockOf l env c q B)=r:=by
 unfold blockOf;rw[PySem.W.Fast.te14374325043358763698,PySem.W.Fast.te14364793385576792824,PySem.W.Fast.te1066825118222455980];exact h
theorem p0c{N:Nat}{s s' r:Shared}{b b':List Stmt}{pos p' q:Pos}(e:b=b')(h:segRun treeTable p w n₀ ann 1 n s (blockOf b env c pos [topFrame q])=some (.next,s',c,p'))
 (k:topRun treeTable p w n₀ ann N s' (restOf b' env c p' [topFrame q])=some r):topRun treeTable p w n₀ ann (n+N) s ⟨denote treeTable (.body b env),c,pos,[topFrame q]⟩=some r:=by
 subst e;exact piece_block h k
end
noncomputable def FnF(K:PySem.W.Frag)(x:Str)(st:Stmt):Prop:=∃f fd,PySem.W.nsIn K mainGlobals x=some (some (.ref f))∧L2.Fun K x x st f fd
theorem FnF.at{K:PySem.W.Frag}{h:Heap}{mg:Str→Option Value}{x:Str}{st:Stmt}(F:FnF K x st)(X:K.In h)(G:h.Ns mainGlobals mg){ps:List Str}
 (b:∀(kV doc pm:Value) (an:Option Addr) (cdv ct:Value) (us:List Value),us.length=ps.length→bindArgs (PySem.W.fnOf x x (L2.defArgs st) (L2.defBody st) (L2.defScope st) .none kV doc pm an cdv ct) ⟨us,[]⟩=pure (ps.zip us)):∃f fd,L2.DefAt K mg x st ps f fd:=by
 obtain ⟨f,fd,a,u⟩:=F;exact ⟨f,fd,u,PySem.W.mg_of X G a,u.binds b⟩
noncomputable def XMkF(K:PySem.W.Frag)(C:Addr)(q:Str)(st:Stmt):Prop:=∃f fd,L2.XMk K C f∧L2.Fun K "__init__" q st f fd
noncomputable def MkF(K:PySem.W.Frag)(C:Addr)(q:Str)(st:Stmt):Prop:=∃f fd,L2.Mk K C f∧L2.Fun K "__init__" q st f fd
end HD
set_option maxHeartbeats 8000000
namespace K34
open PySem L2 DL
open PySem.W (XC)
local macro_rules | `(tactic|walk_at "dl")=>do
 let ids:=("n0x n0w Nat.reduceAdd Nat.reduceLT Nat.reduceLeDiff Nat.reduceSub Nat.zero_add p0w f0c l0t i0q i0p i0o l0s f0b p0v l0r i0n p0u p0t x0p v0a t2H0 t2H k0p e0y noX asE e0x forL c8 x0n capt List.map_cons List.map_nil t2Is t2R1 t2R2 r0q t2C t2V o0c y0s f0j f0i t2Op t2B i0u f0g t2Or l0y l0x x0a t2Bi t2Un rdV hasV seqV mutV ixQ seqD addF addG sumF eqG neG t2Sl slF t2ON t2OI e0i e0l a0h w0y r0l u0d tgD fI fI0 eqF neF eqD isNF s0i isBF ixF inF lenF absF intF p0x allF i0r subF mulF f0d modF powF ltF leF gtF geF repF g2N g2T v0r List.getElem?_cons_zero List.getElem?_cons_succ List.set_cons_zero List.set_cons_succ List.length_cons List.length_nil List.lookup_cons if_true if_false Bool.false_eq_true Bool.not_true Bool.not_false decide_eq_true_eq if_pos ite_true ite_false true_and and_true List.cons_append List.nil_append a0c strF u0v neL addT mulS t2SM h0q p0g u0a e0d slSF t2J t2Jn t2Jc e0c h0m h0k inS p0f ixSF e0a d0z r0h p0d g2L eqL".splitOn " ").toArray.map fun s=>Lean.mkIdent s.toName
 let args←ids.mapM fun i=>`(Lean.Parser.Tactic.simpLemma| $i:ident)
 `(tactic|simp only[reduceIte,↓reduceIte,$args,*])
local macro_rules | `(tactic|walk_at "dn")=>do
 let ids:=("n0x n0w Nat.reduceAdd Nat.reduceLT Nat.reduceLeDiff Nat.reduceSub Nat.zero_add p0w f0c l0t i0q i0p i0o l0s f0b p0v l0r i0n p0u p0t x0p v0a t2H0 t2H k0p e0y noX asE e0x x0n capt List.map_cons List.map_nil t2Is t2R1 t2R2 r0q t2C t2V o0c y0s f0j f0i t2Op t2B i0u f0g t2Or l0y l0x x0a t2Bi t2Un rdV hasV seqV mutV ixQ seqD addF addG sumF eqG neG t2Sl slF t2ON t2OI e0i e0l a0h w0y r0l u0d tgD fI fI0 eqF neF eqD isNF s0i isBF ixF inF lenF absF intF p0x allF i0r subF mulF f0d modF powF ltF leF gtF geF repF g2N g2T v0r List.getElem?_cons_zero List.getElem?_cons_succ List.set_cons_zero List.set_cons_succ List.length_cons List.length_nil List.lookup_cons if_true if_false Bool.false_eq_true Bool.not_true Bool.not_false decide_eq_true_eq if_pos ite_true ite_false true_and and_true List.cons_append List.nil_append a0c strF u0v neL addT mulS t2SM h0q p0g u0a e0d slSF t2J t2Jn t2Jc e0c h0m h0k inS p0f ixSF e0a d0z r0h p0d g2L eqL".splitOn " ").toArray.map fun s=>Lean.mkIdent s.toName
 let args←ids.mapM fun i=>`(Lean.Parser.Tactic.simpLemma| $i:ident)
 `(tactic|simp only[reduceIte,↓reduceIte,$args,*])
noncomputable def top(i:Nat):Stmt:=PySem.Challenge.pw_wearplan_k34_parts_as_lines.main.body.getD i (.Pass ⟨0,0,0,0⟩)
noncomputable abbrev y0j:Stmt:=top 5
noncomputable abbrev w0u:Stmt:=top 6
noncomputable abbrev r0g:Stmt:=top 7
noncomputable abbrev n8:Stmt:=top 8
noncomputable abbrev d7:Stmt:=top 13
noncomputable abbrev y0i:Stmt:=top 14
noncomputable abbrev w0t:Stmt:=top 15
noncomputable abbrev y0h:Stmt:=top 16
noncomputable abbrev y0g:Stmt:=top 17
noncomputable abbrev w0s:Stmt:=top 19
noncomputable abbrev w0r:Stmt:=top 20
noncomputable abbrev w0q:Stmt:=top 21
noncomputable abbrev w0p:Stmt:=top 22
noncomputable abbrev z0v:Stmt:=top 23
noncomputable abbrev t0x:Stmt:=top 24
noncomputable abbrev w0o:Stmt:=top 25
noncomputable abbrev y0f:Stmt:=top 26
noncomputable abbrev w0n:Stmt:=top 27
noncomputable abbrev w0m:Stmt:=top 28
noncomputable abbrev r0f:Stmt:=top 29
noncomputable abbrev a8:Stmt:=top 30
noncomputable abbrev z0u:Stmt:=top 31
noncomputable abbrev y0e:Stmt:=top 32
noncomputable abbrev z9:Stmt:=top 33
noncomputable abbrev z0t:Stmt:=top 34
noncomputable abbrev w0l:Stmt:=top 35
noncomputable abbrev z1r:Stmt:=top 36
noncomputable abbrev y9:Stmt:=inClass (top 2) 0
noncomputable abbrev g7:Stmt:=inClass (top 3) 0
noncomputable abbrev y0d:Stmt:=inClass (top 10) 0
structure Cs where
 W:Addr
 Part:Addr
 NoPart:Addr
 NoText:Addr
noncomputable def Cs.ds(c:Cs):List Addr:=[c.NoPart,c.NoText]
structure Txt(K:PySem.W.Frag)(mg:Str→Option Value)(cs:Cs):Prop where
 n_ValueError:mg "ValueError"=none
 n_abs:mg "abs"=none
 n_all:mg "all"=none
 n_bool:mg "bool"=none
 n_int:mg "int"=none
 n_isinstance:mg "isinstance"=none
 n_len:mg "len"=none
 n_list:mg "list"=none
 n_range:mg "range"=none
 n_str:mg "str"=none
 n_tuple:mg "tuple"=none
 n_zip:mg "zip"=none
 g_GREATEST_NUMBER:∃t,mg "GREATEST_NUMBER"=some (.int 99 t)
 c_WearError:mg "WearError"=some (.ref cs.W)
 h_WearError:XHd K cs.W
 c_Part:mg "Part"=some (.ref cs.Part)
 cl_Part:ClsI K cs.Part
 kn_Part:KNo K cs.Part
 f_Part_full:NoAttr K cs.Part "full"
 f_Part_mark:NoAttr K cs.Part "mark"
 f_Part_wear:NoAttr K cs.Part "wear"
 f_Part_price:NoAttr K cs.Part "price"
 err:∀D∈cs.ds,ErrC K cs.W D
 ne:∀D∈cs.ds,D≠cs.W
 nd:cs.ds.Nodup
 c_NoPart:mg "NoPart"=some (.ref cs.NoPart)
 h_NoPart:XHd K cs.NoPart
 x_NoPart:xcIn K cs.NoPart=true
 a_NoPart_at:NoAttr K cs.NoPart "at"
 c_NoText:mg "NoText"=some (.ref cs.NoText)
 h_NoText:XHd K cs.NoText
 x_NoText:xcIn K cs.NoText=true
 a_NoText_row:NoAttr K cs.NoText "row"
noncomputable def DkAt(p:Addr)(ns:List Int)(n:Nat)(δ:Dk):Prop:=∃c k:Int,δ=some (p,[.scr (ns.map D.int),.int c,.int k])∧0≤c∧0≤k∧k≤n
noncomputable def h0h:Sp2:=fun ds δ q _=>∃(ns:List Int) (k:Int),ds=[.scr (ns.map D.int),.int k]∧0≤k∧∀r:Int,0≤r→q (.int r) δ
noncomputable def h0g:Sp2:=fun ds δ q _=>∃(ns:List Int) (k m:Int),ds=[.scr (ns.map D.int),.int k,.int m]∧0≤k∧k<2^40∧0<m∧∀r:Int,0≤r→r<m→q (.int r) δ
noncomputable def h0f:Sp2:=fun ds δ q _=>∃(ns:List Int),ds=[.scr (ns.map D.int)]∧δ=none∧∀p δ',DkAt p ns 0 δ'→q (.ref p) δ'
noncomputable def h0e:Sp2:=fun ds δ q _=>∃(p:Addr) (ns:List Int) (n:Nat) (m:Int),ds=[.ref p,.int m]∧DkAt p ns n δ∧n<2^30∧0<m∧m<2^30∧∀(d:Int) δ',0≤d→d<m→DkAt p ns (n+1) δ'→q (.int d) δ'
noncomputable def h0d(d:D):Bool:=match d with | .int _=>true |_=>false
noncomputable def r0e:Sp2:=fun ds δ q _=>match ds with | [d]=>f6 d=true∧q (.bl (h0d d)) δ |_=>False
noncomputable def w0k:Sp2:=fun ds δ q _=>match ds with | [d,.int lo,.int hi]=>f6 d=true∧q (.bl (a4 d lo hi)) δ |_=>False
noncomputable def numD(d:D)(j:Int):Bool:=match d with | .int i=>decide (i=j)|_=>false
noncomputable def j5:Sp2:=fun ds δ q _=>match ds with | [d,.int j]=>f6 d=true∧q (.bl (numD d j)) δ |_=>False
noncomputable def rowD:D→Option (List D)| .lst xs=>some xs | .tup xs=>some xs |_=>none
noncomputable def p0b(d:D):Bool:=(rowD d).isSome
noncomputable def v6(d:D):Bool:=f6 d&&(match rowD d with |some xs=>xs.all f6 |none=>true)
noncomputable def x0h(d:D)(a b lo hi:Int):Bool:=match rowD d with |some xs=>decide (a≤(xs.length:Int))&&decide ((xs.length:Int)≤b)&&xs.all (a4 · lo hi)|none=>false
noncomputable def d0w:Sp2:=fun ds δ q _=>match ds with | [d]=>f6 d=true∧q (.bl (p0b d)) δ |_=>False
noncomputable def l0f:Sp2:=fun ds δ q _=>match ds with | [d,.int a,.int b,.int lo,.int hi]=>v6 d=true∧b≤900∧q (.bl (x0h d a b lo hi)) δ |_=>False
theorem h0c{α:Type}(f:α→Bool):∀xs:List α,blsD (xs.map fun e=>D.bl (f e))=some (xs.map f)
 | []=>rfl
 |x::xs=>by rw[List.map_cons,List.map_cons];unfold blsD;rw[h0c f xs];rfl
theorem all_id(xs:List Bool):xs.all id=xs.all fun b=>b:=rfl
theorem t0w:(("full":Str)=="full")=true:=by decide +kernel
theorem t0v:(("full":Str)=="mark")=false:=by decide +kernel
theorem t0u:(("full":Str)="mark")=False:=eq_false (by decide +kernel)
theorem v0p:(("full":Str)=="price")=false:=by decide +kernel
theorem v0o:(("full":Str)="price")=False:=eq_false (by decide +kernel)
theorem t0t:(("full":Str)=="wear")=false:=by decide +kernel
theorem t0s:(("full":Str)="wear")=False:=eq_false (by decide +kernel)
theorem t0r:(("mark":Str)=="full")=false:=by decide +kernel
theorem n0p:(("mark":Str)="full")=False:=eq_false (by decide +kernel)
theorem t0q:(("mark":Str)=="mark")=true:=by decide +kernel
theorem v0n:(("mark":Str)=="price")=false:=by decide +kernel
theorem v0m:(("mark":Str)="price")=False:=eq_false (by decide +kernel)
theorem t0p:(("mark":Str)=="wear")=false:=by decide +kernel
theorem t0o:(("mark":Str)="wear")=False:=eq_false (by decide +kernel)
theorem v0l:(("price":Str)=="full")=false:=by decide +kernel
theorem p0a:(("price":Str)="full")=False:=eq_false (by decide +kernel)
theorem v0k:(("price":Str)=="mark")=false:=by decide +kernel
theorem o0z:(("price":Str)="mark")=False:=eq_false (by decide +kernel)
theorem x0g:(("price":Str)=="price")=true:=by decide +kernel
theorem v0j:(("price":Str)=="wear")=false:=by decide +kernel
theorem o0y:(("price":Str)="wear")=False:=eq_false (by decide +kernel)
theorem t0n:(("wear":Str)=="full")=false:=by decide +kernel
theorem n0o:(("wear":Str)="full")=False:=eq_false (by decide +kernel)
theorem t0m:(("wear":Str)=="mark")=false:=by decide +kernel
theorem n0n:(("wear":Str)="mark")=False:=eq_false (by decide +kernel)
theorem v0i:(("wear":Str)=="price")=false:=by decide +kernel
theorem v0h:(("wear":Str)="price")=False:=eq_false (by decide +kernel)
theorem t0l:(("wear":Str)=="wear")=true:=by decide +kernel
local macro_rules | `(tactic|walk_at "fl")=>do
 let ids:=("T.cl_Part.cl T.f_Part_full T.f_Part_mark T.f_Part_wear T.f_Part_price t0w t0v v0p t0t t0r t0q v0n t0p v0l v0k x0g v0j t0n t0m v0i t0l List.lookup_cons true_and".splitOn " ").toArray.map fun s=>Lean.mkIdent s.toName
 let args←ids.mapM fun i=>`(Lean.Parser.Tactic.simpLemma| $i:ident)
 `(tactic|simp only[reduceIte,↓reduceIte,$args,*])
local macro_rules | `(tactic|walk_at "ds")=>do
 let ids:=("n0x n0w Nat.reduceAdd Nat.reduceLT Nat.reduceLeDiff Nat.reduceSub Nat.zero_add x0n capt List.map_cons List.map_nil v0r List.getElem?_cons_zero List.getElem?_cons_succ List.set_cons_zero List.set_cons_succ List.length_cons List.length_nil List.lookup_cons if_true if_false Bool.false_eq_true Bool.not_true Bool.not_false decide_eq_true_eq if_pos ite_true ite_false true_and and_true List.cons_append List.nil_append T.cl_Part.cl T.f_Part_full T.f_Part_mark T.f_Part_wear T.f_Part_price t0w t0v v0p t0t t0r t0q v0n t0p v0l v0k x0g v0j t0n t0m v0i t0l r0s t0u v0o t0s n0p v0m t0o p0a o0z o0y n0o n0n v0h".splitOn " ").toArray.map fun s=>Lean.mkIdent s.toName
 let jds:=("p0w f0c a0x t2Cont l0t i0q t2RetN i0p i0o t2Own l0s f0b p0v l0r t2MV t2MV0 t2Aug i0n p0u p0t call_s k_int k_bl k_str k_non k_lst k_tup k_ins k_ref k_dwk k_dic x_nil x_cons e0z v0a f0a t2Exc1 t2Exc2 t2H0 t2H k0p e0y noX asE e0x t2Is t2R1 t2R2 t2Comp t2OwnC r0q a0o t2C t2V o0c y0s f0j f0i t2Op t2B i0u f0g t2Or l0y t2OrV l0x t2If x0a t2Bi t2Un rdV hasV seqV mutV ixQ seqD addF addG sumF eqG neG t2Sl slF t2ON t2OI lrQ a0f t2LR a0e t2TR e0i sortIF e0l a0h w0y t2OwnM r0l u0d t2BNil t2BV t2BO a0g tgD fI fI0 eqF neF eqD isNF notNF s0i isBF notBF ixF inF notInF lenF absF minF maxF intF listF p0x allF i0r subF mulF f0d modF powF ltF leF gtF geF repF g2N g2T a0u popM a0c strF addS addH t2AugV e0h u0v neL repTF t2EnuK addT mulS t2SM h0q p0g u0a endsF e0d slSF t2J t2Jn t2Jc e0c k0j h0m h0k inS p0f ixSF e0a d0z r0h p0d a0b t2PutD t2GetD t2IxD dicV t2VD t2DicV t2Keys minLF a0a t2LenD e0g g2L eqL eqRF z1z sumB t2AugM z1y".splitOn " ").toArray.map fun s=>Lean.mkIdent s.toName
 let a←ids.mapM fun i=>`(Lean.Parser.Tactic.simpLemma| $i:ident)
 let b←jds.mapM fun i=>`(Lean.Parser.Tactic.simpLemma| ↓ $i:ident)
 let args:=a++b
 `(tactic|simp -dsimp -failIfUnchanged only[reduceIte,↓reduceIte,$args,*])
section
variable{P:Program}{w:World}{K:PySem.W.Frag}{mg:Str→Option Value}{base:Heap}{cs:Cs}
noncomputable abbrev x9:List Str:=["thing"]
theorem sc_is_number:FnScope ["thing"] x9 (defScope y0j):=⟨rfl,rfl,rfl,by decide +kernel,rfl,by decide +kernel,by decide +kernel⟩
noncomputable abbrev y0c(P:Program)(w:World)(K:PySem.W.Frag)(mg:Str→Option Value)(base:Heap)(cs:Cs):Prop:=Fun2 P w K mg base "is_number" 1 x9 r0e
theorem o0x{f:Addr}{fd:FuncData}(Df:DefAt K mg "is_number" y0j x9 f fd)(T:Txt K mg cs):y0c P w K mg base cs:=by
 have nd:=sc_is_number.nd;refine def2 Df sc_is_number (fun ds δ q x h=>?_) (fun cdv A outer s H E Y hr=>⟨_,(g0 (y4 (s0j (e2_b j6 (x0q (K:=K)) T.n_isinstance m4 (z0 (e2_v 0) (z0 (r0t "int" T.n_int s0k) u0))) (p0z (c0v (e2_b j6 (x0q (K:=K)) T.n_isinstance m4 (z0 (e2_v 0) (z0 (r0t "bool" T.n_bool i0y) u0)))))))),fun ds δ q x h=>?_⟩)
 ·unfold r0e at h;split at h
  ·rfl
  ·exact h.elim
 ·unfold r0e at h;split at h;rotate_left
  ·exact h.elim
  rename_i d;obtain ⟨hd,hq⟩:=h;rw[show x4 ["thing"] _=[.val _]from rfl];obtain ⟨t1,t2⟩:=r0p (K:=K) hd;walk_at "dl";simp only[i0f K t1 t2,c0q K t1 t2,t1,true_and];cases d<;>first |cases hd |skip
  all_goals (walk_at "dl";exact hq)
noncomputable abbrev z0l:List Str:=["thing","least","most"]
theorem sc_is_whole:FnScope ["thing","least","most"] z0l (defScope w0u):=⟨rfl,rfl,rfl,by decide +kernel,rfl,by decide +kernel,by decide +kernel⟩
noncomputable abbrev z0k(P:Program)(w:World)(K:PySem.W.Frag)(mg:Str→Option Value)(base:Heap)(cs:Cs):Prop:=Fun2 P w K mg base "is_whole" 2 z0l w0k
theorem n0m{f:Addr}{fd:FuncData}(Df:DefAt K mg "is_whole" w0u z0l f fd)(T:Txt K mg cs)(G_is_number:y0c P w K mg base cs):z0k P w K mg base cs:=by
 have nd:=sc_is_whole.nd;refine def2 Df sc_is_whole (fun ds δ q x h=>?_) (fun cdv A outer s H E Y hr=>⟨_,(g0 (y4 (s0j (j0 G_is_number (hr.mono (by decide)) o0 (z0 (e2_v 0) u0)) (p0z (f0f g0b g0b d_le d_le (e2_v 1) (e2_v 0) (e2_v 2)))))),fun ds δ q x h=>?_⟩)
 ·unfold w0k at h;split at h
  ·rfl
  ·exact h.elim
 ·unfold w0k at h;split at h;rotate_left
  ·exact h.elim
  rename_i d lo hi;obtain ⟨hd,hq⟩:=h;rw[show x4 ["thing","least","most"] _=[.val _,.val _,.val _]from rfl];walk_at "dl";simp only[r0e,hd,true_and];cases d<;>first |cases hd |skip
  all_goals first |(simp only[h0d];walk_at "dl";exact hq)|(simp only[h0d];walk_at "dl")
  simp only[a4]at hq;split
  ·rename_i h1;rw[decide_eq_true h1,Bool.true_and]at hq;exact hq
  ·rename_i h1;rw[decide_eq_false h1,Bool.false_and]at hq;exact hq
noncomputable abbrev v8:List Str:=["_law_found","_law_due"]
theorem sc_law_number:FnScope ["_law_found","_law_due"] v8 (defScope z0v):=⟨rfl,rfl,rfl,by decide +kernel,rfl,by decide +kernel,by decide +kernel⟩
noncomputable abbrev l6(P:Program)(w:World)(K:PySem.W.Frag)(mg:Str→Option Value)(base:Heap)(cs:Cs):Prop:=Fun2 P w K mg base "_law_number" 2 v8 j5
theorem r0d{f:Addr}{fd:FuncData}(Df:DefAt K mg "_law_number" z0v v8 f fd)(T:Txt K mg cs):l6 P w K mg base cs:=by
 have nd:=sc_law_number.nd;refine def2 Df sc_law_number (fun ds δ q x h=>?_) (fun cdv A outer s H E Y hr=>⟨_,(g0 (y4 (s0j (e2_b j6 (x0q (K:=K)) T.n_isinstance m4 (z0 (e2_v 0) (z0 (r0t "int" T.n_int s0k) u0))) (s0j (c0v (e2_b j6 (x0q (K:=K)) T.n_isinstance m4 (z0 (e2_v 0) (z0 (r0t "bool" T.n_bool i0y) u0)))) (p0z (l0z o0i d_eq (e2_v 0) (e2_v 1) (o4 _))))))),fun ds δ q x h=>?_⟩)
 ·unfold j5 at h;split at h
  ·rfl
  ·exact h.elim
 ·unfold j5 at h;split at h;rotate_left
  ·exact h.elim
  rename_i d j;obtain ⟨hd,hq⟩:=h;rw[show x4 ["_law_found","_law_due"] _=[.val _,.val _]from rfl];obtain ⟨t1,t2⟩:=r0p (K:=K) hd;walk_at "dl";simp only[i0f K t1 t2,c0q K t1 t2,t1,true_and];cases d<;>first |cases hd |skip
  all_goals (walk_at "dl";exact hq)
noncomputable abbrev z0j:List Str:=["_law_script","_law_k"]
theorem sc_law_cell:FnScope ["_law_script","_law_k"] z0j (defScope w0s):=⟨rfl,rfl,rfl,by decide +kernel,rfl,by decide +kernel,by decide +kernel⟩
noncomputable abbrev z0i(P:Program)(w:World)(K:PySem.W.Frag)(mg:Str→Option Value)(base:Heap)(cs:Cs):Prop:=Fun2 P w K mg base "_law_cell" 2 z0j h0h
theorem n0l{f:Addr}{fd:FuncData}(Df:DefAt K mg "_law_cell" w0s z0j f fd)(T:Txt K mg cs):z0i P w K mg base cs:=by
 have nd:=sc_law_cell.nd;refine def2 Df sc_law_cell (fun ds δ q x h=>?_) (fun cdv A outer s H E Y hr=>⟨_,(l0 (m5 (u4 o0i d_eq (a9 0 T.n_len) v0 (o4 _)) (g0 (y4 (n4 a5 l7 (n4 v0t p0y v0 (e2_v 1)) v0))) v4)
  (g0 (y4 (e2_b f0y d_abs T.n_abs bt_abs (z0 (j4 0 (n4 s0q k0q (e2_v 1) (a9 0 T.n_len))) u0))))),fun ds δ q x h=>?_⟩)
 ·unfold h0h at h;obtain ⟨ns,k,rfl,hk,hq⟩:=h;rfl
 ·unfold h0h at h;obtain ⟨ns,k,rfl,hk,hq⟩:=h;rw[show x4 ["_law_script","_law_k"] _=[.val _,.val _]from rfl];walk_at "dl";simp only[List.length_map];split
  ·rename_i h0;exact ⟨.inl ⟨by decide,by decide⟩,hq _ (by omega)⟩
  ·rename_i h0;have hlen:0<ns.length:=by omega
   refine ⟨by omega,?_⟩;obtain ⟨v,hat,hv⟩:=b0i (xs:=ns.map D.int) (k:=k) (by rw[List.length_map];exact hlen);rw[List.length_map]at hat
   obtain ⟨z,_,rfl⟩:=List.mem_map.mp hv;rw[hat];dsimp only;exact hq _ (by split<;>omega)
noncomputable abbrev z0h:List Str:=["_law_script","_law_k","_law_many"]
theorem sc_law_draw:FnScope ["_law_script","_law_k","_law_many","_law_a"] z0h (defScope w0r):=⟨rfl,rfl,rfl,by decide +kernel,rfl,by decide +kernel,by decide +kernel⟩
noncomputable abbrev w0j(P:Program)(w:World)(K:PySem.W.Frag)(mg:Str→Option Value)(base:Heap)(cs:Cs):Prop:=Fun2 P w K mg base "_law_draw" 3 z0h h0g
theorem n0k{f:Addr}{fd:FuncData}(Df:DefAt K mg "_law_draw" w0r z0h f fd)(T:Txt K mg cs)(G_law_cell:z0i P w K mg base cs):w0j P w K mg base cs:=by
 have nd:=sc_law_draw.nd;refine def2 Df sc_law_draw (fun ds δ q x h=>?_) (fun cdv A outer s H E Y hr=>⟨_,(l0 (b4 3 nd (n4 s0q k0q (n4 a5 l7 (n4 a5 l7 (n4 v0t p0y (n4 s0q k0q (j0 G_law_cell (hr.mono (by decide)) o0 (z0 (e2_v 0) (z0 (e2_v 1) u0))) v0) v0) (n4 v0t p0y (n4 v0t p0y (e2_v 1) (e2_v 1)) v0)) v0) v0))
  (l0 (b4 3 nd (n4 s0q k0q (n4 a5 l7 (n4 a5 l7 (n4 v0t p0y (e2_v 3) (e2_v 3)) (n4 v0t p0y v0 (e2_v 3))) (n4 v0t p0y (e2_v 1) v0)) v0))
  (g0 (y4 (n4 s0q k0q (n4 j0s c0u (e2_v 3) v0) (e2_v 2)))))),fun ds δ q x h=>?_⟩)
 ·unfold h0g at h;obtain ⟨ns,k,m,rfl,hk,hk2,hm,hq⟩:=h;rfl
 ·unfold h0g at h;obtain ⟨ns,k,m,rfl,hk,hk2,hm,hq⟩:=h;rw[show x4 ["_law_script","_law_k","_law_many","_law_a"] _=[.val _,.val _,.val _,.no]from rfl];walk_at "dl";refine ⟨ns,k,rfl,hk,fun c hc=>?_⟩;have h1:=Int.emod_nonneg c (b:=1000003) (by decide);have h2:=Int.emod_lt_of_pos c (b:=1000003) (by decide);refine ⟨by decide,.inl ⟨by omega,by omega⟩,.inl ⟨by omega,by omega⟩,.inr ⟨by decide,by decide⟩,by decide,?_⟩;generalize c%1000003*48271+k*k*7919+101=z;have h3:=Int.emod_nonneg z (b:=2147483647) (by decide);have h4:=Int.emod_lt_of_pos z (b:=2147483647) (by decide);refine ⟨.inl ⟨by omega,by omega⟩,.inl ⟨by decide,by decide⟩,.inl ⟨by omega,by omega⟩,by decide,⟨by decide,by decide⟩,hm,hq _ (Int.emod_nonneg _ (by omega)) (Int.emod_lt_of_pos _ hm)⟩
noncomputable abbrev z0g:List Str:=["_law_script"]
theorem sc_law_deck:FnScope ["_law_script","_law_cell_here"] z0g (defScope w0q):=⟨rfl,rfl,rfl,by decide +kernel,rfl,by decide +kernel,by decide +kernel⟩
noncomputable abbrev w0i(P:Program)(w:World)(K:PySem.W.Frag)(mg:Str→Option Value)(base:Heap)(cs:Cs):Prop:=Fun2 P w K mg base "_law_deck" 3 z0g h0f
theorem n0j{f:Addr}{fd:FuncData}(Df:DefAt K mg "_law_deck" w0q z0g f fd)(T:Txt K mg cs)(G_law_cell:z0i P w K mg base cs):w0i P w K mg base cs:=by
 have nd:=sc_law_deck.nd;refine def2 Df sc_law_deck (fun ds δ q x h=>?_) (fun cdv A outer s H E Y hr=>⟨_,(l0 (b4 1 nd (j0 G_law_cell (hr.mono (by decide)) o0 (z0 (e2_v 0) (z0 v0 u0))))
  (g0 (e0w (z0 (e2_v 0) (z0 (n4 v0t p0y (e2_v 1) (x0r j0m d_int T.n_int s0k (z0 (l0z op_ge d_ge (e2_v 1) (n4 op_pow d_pow v0 v0) (o4 _)) u0))) (z0 v0 u0)))))),fun ds δ q x h=>?_⟩)
 ·unfold h0f at h;obtain ⟨ns,rfl,rfl,hq⟩:=h;rfl
 ·unfold h0f at h;obtain ⟨ns,rfl,rfl,hq⟩:=h;rw[show x4 ["_law_script","_law_cell_here"] _=[.val _,.no]from rfl];walk_at "dl";refine ⟨ns,0,rfl,by decide,fun c hc=>?_⟩;refine ⟨⟨by decide,by decide,by decide⟩,.inr ⟨by split<;>decide,by split<;>decide⟩,rfl,fun p=>hq p _ ⟨_,_,rfl,?_,by decide,by decide⟩⟩;split<;>omega
noncomputable abbrev z0f:List Str:=["_law_deck_here","_law_many"]
theorem sc_law_take:FnScope ["_law_deck_here","_law_many","_law_digit"] z0f (defScope w0p):=⟨rfl,rfl,rfl,by decide +kernel,rfl,by decide +kernel,by decide +kernel⟩
noncomputable abbrev v7(P:Program)(w:World)(K:PySem.W.Frag)(mg:Str→Option Value)(base:Heap)(cs:Cs):Prop:=Fun2 P w K mg base "_law_take" 4 z0f h0e
theorem n0i{f:Addr}{fd:FuncData}(Df:DefAt K mg "_law_take" w0p z0f f fd)(T:Txt K mg cs)(G_law_draw:w0j P w K mg base cs):v7 P w K mg base cs:=by
 have nd:=sc_law_take.nd;refine def2 Df sc_law_take (fun ds δ q x h=>?_) (fun cdv A outer s H E Y hr=>⟨_,(l0 (m5 (u4 j0o d_gt (j4 0 v0) v0 (o4 _)) (l0 (b4 2 nd (n4 s0q k0q (j4 0 v0) (e2_v 1)))
  (l0 (w0z 0 v0 (n4 j0s c0u (j4 0 v0) (e2_v 1)))
  (g0 (y4 (e2_v 2))))) v4)
  (l0 (w0z 0 v0 (n4 a5 l7 (j4 0 v0) v0))
  (g0 (y4 (j0 G_law_draw (hr.mono (by decide)) o0 (z0 (j4 0 v0) (z0 (j4 0 v0) (z0 (e2_v 1) u0)))))))),fun ds δ q x h=>?_⟩)
 ·unfold h0e at h;obtain ⟨p,ns,n,m,rfl,hD,hn,hm,hm2,hq⟩:=h;rfl
 ·unfold h0e at h;obtain ⟨p,ns,n,m,rfl,hD,hn,hm,hm2,hq⟩:=h;rw[show x4 ["_law_deck_here","_law_many","_law_digit"] _=[.val _,.val _,.no]from rfl];obtain ⟨c,k,rfl,hc,hk,hkn⟩:=hD;walk_at "dl";split
  ·exact ⟨hm,⟨hm,by omega⟩,hq _ _ (Int.emod_nonneg _ (by omega)) (Int.emod_lt_of_pos _ hm) ⟨_,_,rfl,Int.ediv_nonneg hc (by omega),hk,by omega⟩⟩
  ·exact ⟨ns,k+1,m,rfl,by omega,by omega,hm,fun r h1 h2=>hq _ _ h1 h2 ⟨_,_,rfl,hc,by omega,by omega⟩⟩
theorem w9{i lo hi:Int}(h1:lo≤i)(h2:i≤hi):a4 (.int i) lo hi=true:=by show (decide (lo≤i)&&decide (i≤hi))=true;rw[decide_eq_true h1,decide_eq_true h2];rfl
theorem whole_f{i lo hi:Int}(h:i<lo∨hi<i):a4 (.int i) lo hi=false:=by
 show (decide (lo≤i)&&decide (i≤hi))=false;rw[Bool.and_eq_false_iff];rcases h with h |h
 ·exact .inl (decide_eq_false (by omega))
 ·exact .inr (decide_eq_false (by omega))
noncomputable abbrev u0u:List Str:=["thing"]
theorem sc_is_row:FnScope ["thing"] u0u (defScope r0g):=⟨rfl,rfl,rfl,by decide +kernel,rfl,by decide +kernel,by decide +kernel⟩
noncomputable abbrev r0c(P:Program)(w:World)(K:PySem.W.Frag)(mg:Str→Option Value)(base:Heap)(cs:Cs):Prop:=Fun2 P w K mg base "is_row" 2 u0u d0w
theorem h0b{f:Addr}{fd:FuncData}(Df:DefAt K mg "is_row" r0g u0u f fd)(T:Txt K mg cs):r0c P w K mg base cs:=by
 have nd:=sc_is_row.nd;refine def2 Df sc_is_row (fun ds δ q x h=>?_) (fun cdv A outer s H E Y hr=>⟨_,(g0 (y4 (e2_b j6 (x0q (K:=K)) T.n_isinstance m4 (z0 (e2_v 0) (z0 (q0a (z0 (r0t "list" T.n_list i0x) (z0 (r0t "tuple" T.n_tuple x0t) u0))) u0))))),fun ds δ q x h=>?_⟩)
 ·unfold d0w at h;split at h
  ·rfl
  ·exact h.elim
 ·unfold d0w at h;split at h;rotate_left
  ·exact h.elim
  rename_i d;obtain ⟨hd,hq⟩:=h;rw[show x4 ["thing"] _=[.val _]from rfl];obtain ⟨t1,t2⟩:=r0p (K:=K) hd;walk_at "dl";simp only[ko_row K t1 t2,t1,true_and];cases d
  all_goals first |exact hq |cases hd
noncomputable abbrev t7:List Str:=["thing","shortest","longest","least","most"]
theorem sc_is_whole_row:FnScope ["thing","shortest","longest","least","most"] t7 (defScope n8):=⟨rfl,rfl,rfl,by decide +kernel,rfl,by decide +kernel,by decide +kernel⟩
noncomputable abbrev m8(P:Program)(w:World)(K:PySem.W.Frag)(mg:Str→Option Value)(base:Heap)(cs:Cs):Prop:=Fun2 P w K mg base "is_whole_row" 3 t7 l0f
theorem t0k{f:Addr}{fd:FuncData}(Df:DefAt K mg "is_whole_row" n8 t7 f fd)(T:Txt K mg cs)(G_is_row:r0c P w K mg base cs)(G_is_whole:z0k P w K mg base cs):m8 P w K mg base cs:=by
 have nd:=sc_is_whole_row.nd;refine def2 Df sc_is_whole_row (fun ds δ q x h=>?_) (fun cdv A outer s H E Y hr=>⟨_,(l0 (m5 (PW2.pt (x0s (m6 (i6 (j0 G_is_row (hr.mono (by decide)) o0 (z0 (e2_v 0) u0)))) (c9 (m6 (f0e g0b g0b d_le d_le (e2_v 1) (a9 0 T.n_len) (e2_v 2)))))) (g0 (y4 u0f)) v4)
  (g0 (y4 (e2_b (f0p rfl) d_all T.n_all bt_all (z0 (z0n rfl (CompOkM.of ["entry"] [3,4] rfl) (x0o (e2_v 0)) (fun nd _ _ _ _ _=>(n5 (i:=0) nd rfl (by first |exact Or.inl rfl |exact Or.inr rfl))) u7 (fun _ _ _ _ _ _=>y0k) (fun _ _ _ _ _ _=>(j0 G_is_whole (hr.mono (by decide)) p0s (z0 (e2_v 0) (z0 (e2_v 1) (z0 (e2_v 2) u0)))))) u0))))),fun ds δ q x h=>?_⟩)
 ·unfold l0f at h;split at h
  ·rfl
  ·exact h.elim
 ·unfold l0f at h;split at h;rotate_left
  ·exact h.elim
  rename_i d a b lo hi;obtain ⟨ht,hb,hq⟩:=h;rw[show x4 ["thing","shortest","longest","least","most"] _=[.val _,.val _,.val _,.val _,.val _]from rfl];have hp:f6 d=true:=by unfold v6 at ht;rw[Bool.and_eq_true]at ht;exact ht.1
  walk_at "dl";simp only[d0w,hp,true_and];cases e:rowD d with
  |none=>
   have e1:p0b d=false:=by unfold p0b;rw[e];rfl
   have e2:x0h d a b lo hi=false:=by unfold x0h;rw[e]
   rw[e2]at hq;simp only[e1,Bool.not_false,if_true];exact hq
  |some xs=>
   have e1:p0b d=true:=by unfold p0b;rw[e];rfl
   have e3:seqD d=some xs:=by cases d<;>first |(cases e;rfl)|cases e
   have hx:∀x∈xs,f6 x=true:=by
    unfold v6 at ht;rw[Bool.and_eq_true,e]at ht;exact List.all_eq_true.mp ht.2
   unfold x0h at hq;rw[e]at hq;dsimp only at hq;simp only[e1,Bool.not_true,Bool.false_eq_true,if_false];have main:∀ ρ:En,ρ[3]?=some (.val (.int lo))→ρ[4]?=some (.val (.int hi))→(xs.length:Int)≤b→q (.bl (xs.all (a4 · lo hi))) δ→c8 (x0p w0k (y0s (t2V 0) (y0s (t2V 1) (y0s (t2V 2) o0c)))) [3,4] ρ
    (fun acc δ2=>match blsD acc with |some bs=>q (D.bl (bs.all id)) δ2 |none=>False) xs [] δ:=by
    intro ρ r3 r4 hlen hq;refine r0n (fun i acc δ'=>acc=(xs.take i).map (fun z=>D.bl (a4 z lo hi))∧δ'=δ) ⟨rfl,rfl⟩ ?_ ?_
    ·rintro i z acc δ' rest hi ⟨rfl,rfl⟩ hrest;have hl:=(List.getElem?_eq_some_iff.mp hi).1;simp only[capt,x0n,List.map_cons,List.map_nil,r3,r4];walk_at "dl";simp only[w0k,hx z (List.mem_of_getElem? hi),true_and];refine ⟨by rw[List.length_map,List.length_take];omega,hrest _ _ ⟨?_,rfl⟩⟩;rw[List.take_succ,hi,List.map_append];rfl
    ·rintro acc δ' ⟨rfl,rfl⟩;rw[List.take_length,h0c];have:(xs.map fun z=>a4 z lo hi).all id=xs.all (a4 · lo hi):=by rw[List.all_map];rfl
     dsimp only;rw[this];exact hq
   cases d<;>first |(cases e;done)|skip
   all_goals
    cases e;dsimp only;split
    ·rename_i h1;split
     ·rename_i h2;rw[Bool.not_eq_true',decide_eq_false_iff_not]at h2;rw[decide_eq_true h1,decide_eq_false h2]at hq;exact hq
     ·rename_i h2;rw[Bool.not_eq_true',decide_eq_false_iff_not,Decidable.not_not]at h2;rw[decide_eq_true h1,decide_eq_true h2]at hq;exact main _ rfl rfl h2 hq
    ·rename_i h1;rw[decide_eq_false h1]at hq;exact hq
noncomputable def r0b(cs:Cs)(full mark:Int)(ws:List Int)(price:Int):D:=.ins cs.Part [("full",.int full),("mark",.int mark),("wear",.tup (ws.map D.int)),("price",.int price)]
theorem y6{d:D}{lo hi:Int}(h:a4 d lo hi=true):∃i,d=.int i∧lo≤i∧i≤hi:=by
 cases d with
 |int i=>unfold a4 at h;rw[Bool.and_eq_true,decide_eq_true_eq,decide_eq_true_eq]at h;exact ⟨i,rfl,h.1,h.2⟩
 |_=>cases h
noncomputable def v0g(cs:Cs):Sp2:=fun ds δ q x=>match ds with
 | [a,m,w,p]=>(v6 a&&v6 m&&v6 w&&v6 p)=true∧(if a4 a 1 9=true then (match a with
  | .int i=>if a4 m 0 i=true then (if x0h w 1 6 0 9=true then (if a4 p 0 99=true then q (.ins cs.Part [("full",a),("mark",m),("wear",.tup ((rowD w).getD [])),("price",p)]) δ else x cs.NoPart [("at",.int 3)] δ)else x cs.NoPart [("at",.int 2)] δ)else x cs.NoPart [("at",.int 1)] δ
  |_=>False)else x cs.NoPart [("at",.int 0)] δ)
 |_=>False
theorem sc_Part_init:FnScope ["self","full","mark","wear","price"] ["self","full","mark","wear","price"] (defScope y0d):=⟨rfl,rfl,rfl,by decide +kernel,rfl,by decide +kernel,by decide +kernel⟩
theorem o0w{f:Addr}{fd:FuncData}(Fn:Fun K "__init__" "Part.__init__" y0d f fd)(M:Mk K cs.Part f)(bd:Binds K fd ["self","full","mark","wear","price"] [])(T:Txt K mg cs)(G_is_whole:z0k P w K mg base cs)(G_is_whole_row:m8 P w K mg base cs)(M_NoPart:MkE P w K mg base "NoPart" cs.NoPart 1 ["self","at"] (spXI cs.NoPart "at")):Make2 P w K mg base "Part" 4 (v0g cs):=by
 have nd:=sc_Part_init.nd;refine init2 Fn M T.c_Part bd sc_Part_init (fun ds δ q x h=>?_) (fun cdv A outer s H E Y hr=>⟨_,(l0 (m5 (m6 (i6 (j0 G_is_whole (hr.mono (by decide)) o0 (z0 (e2_v 1) (z0 v0 (z0 v0 u0)))))) (g0 (j8 rfl o0 M_NoPart (hr.mono (by decide)) (z0 v0 u0))) v4)
  (l0 (m5 (m6 (i6 (j0 G_is_whole (hr.mono (by decide)) o0 (z0 (e2_v 2) (z0 v0 (z0 (e2_v 1) u0)))))) (g0 (j8 rfl o0 M_NoPart (hr.mono (by decide)) (z0 v0 u0))) v4)
  (l0 (m5 (m6 (i6 (j0 G_is_whole_row (hr.mono (by decide)) o0 (z0 (e2_v 3) (z0 v0 (z0 v0 (z0 v0 (z0 v0 u0)))))))) (g0 (j8 rfl o0 M_NoPart (hr.mono (by decide)) (z0 v0 u0))) v4)
  (l0 (m5 (m6 (i6 (j0 G_is_whole (hr.mono (by decide)) o0 (z0 (e2_v 4) (z0 v0 (z0 v0 u0)))))) (g0 (j8 rfl o0 M_NoPart (hr.mono (by decide)) (z0 v0 u0))) v4)
  (l0 (u0y K 0 (e2_v 1))
  (l0 (u0y K 0 (e2_v 2))
  (l0 (u0y K 0 (x0r f8 n0z T.n_tuple x0t (z0 (e2_v 3) u0)))
  (g0 (u0y K 0 (e2_v 4)))))))))),fun ds δ q x h=>?_⟩)
 ·unfold v0g at h;split at h
  ·rfl
  ·exact h.elim
 ·unfold v0g at h;split at h;rotate_left
  ·exact h.elim
  rename_i a m v p;rw[show x4 ["full","mark","wear","price"] _=[.val _,.val _,.val _,.val _]from rfl];obtain ⟨ht,hq⟩:=h;simp only[Bool.and_eq_true]at ht;obtain ⟨⟨⟨ta,tm⟩,tv⟩,tp⟩:=ht;have pl:∀{d:D},v6 d=true→f6 d=true:=fun {d} h=>by unfold v6 at h;rw[Bool.and_eq_true]at h;exact h.1
  walk_at "dl";simp only[w0k,pl ta,true_and];cases ea:a4 a 1 9 with
  |false=>
   rw[ea]at hq;simp only[Bool.not_false,if_true];exact hq
  |true=>
   rw[ea]at hq;obtain ⟨i,rfl,i1,i2⟩:=y6 ea;simp only[Bool.not_true,Bool.false_eq_true,if_false,pl tm,true_and,l0f,pl tp,tv,if_true]at hq ⊢;cases em:a4 m 0 i with
   |false=>
    rw[em]at hq;simp only[Bool.not_false,if_true];exact hq
   |true=>
    rw[em]at hq;simp only[Bool.not_true,Bool.false_eq_true,if_false,if_true]at hq ⊢;refine ⟨by decide,?_⟩;cases ev:x0h v 1 6 0 9 with
    |false=>
     rw[ev]at hq;simp only[Bool.not_false,if_true];exact hq
    |true=>
     rw[ev]at hq;simp only[Bool.not_true,Bool.false_eq_true,if_false,if_true]at hq ⊢;cases ep:a4 p 0 99 with
     |false=>
      rw[ep]at hq;simp only[Bool.not_false,if_true];exact hq
     |true=>
      rw[ep]at hq;simp only[Bool.not_true,Bool.false_eq_true,if_false,if_true]at hq ⊢;cases v<;>first |(cases ev;done)|skip
      all_goals
       simp only[T.cl_Part.cl,T.f_Part_full,T.f_Part_mark,T.f_Part_wear,T.f_Part_price,r0s,t0u,t0s,v0o,t0o,v0m,v0h,if_false,List.length_cons,List.length_nil,true_and]
       repeat (first |exact ⟨_,rfl,hq⟩|(refine ⟨by decide,?_⟩))
noncomputable def tx(l:List Nat):Str:=⟨l.toArray⟩
noncomputable def txD(l:List Nat):D:=.str (tx l)
theorem p4{l:List Nat}:(tx l).length=l.length:=by simp[tx,Str.length]
theorem u6{a b:List Nat}:tx a++tx b=tx (a++b):=by
 show Str.append _ _=_;simp[tx,Str.append]
theorem o0v{a b:List Nat}(h:tx a=tx b):a=b:=by
 have:=congrArg (fun s:Str=>s.cps.toList) h;simpa[tx]using this
theorem z1q{a b:List Nat}:(decide (tx a=tx b))=decide (a=b):=by
 by_cases h:a=b
 ·rw[h,decide_eq_true rfl,decide_eq_true rfl]
 ·rw[decide_eq_false h,decide_eq_false fun z=>h (o0v z)]
theorem tx_of(s:Str):s=tx s.cps.toList:=by simp[tx]
noncomputable def dig(n:Nat):List Nat:=if n<10 then [48+n]else [48+n/10,48+n%10]
theorem z1p:∀n:Fin 100,(Str.ofString (toString ((n.val:Nat):Int)))=tx (dig n.val):=by decide +kernel
theorem y0q{i:Int}(h1:0≤i)(h2:i<100):(Str.ofString (toString i))=tx (dig i.toNat):=by
 have:=z1p ⟨i.toNat,by omega⟩;rw[show ((i.toNat:Nat):Int)=i by omega]at this;exact this
theorem z1o:∀n m:Fin 100,dig n.val=dig m.val→n=m:=by decide +kernel
theorem dig_eq{i j:Int}(h1:0≤i)(h2:i<100)(h3:0≤j)(h4:j<100)(h:dig i.toNat=dig j.toNat):i=j:=by
 have:=congrArg Fin.val (z1o ⟨i.toNat,by omega⟩ ⟨j.toNat,by omega⟩ h);have:i.toNat=j.toNat:=this;omega
theorem t0j{n:Nat}(h:n<100):∀c∈dig n,48≤c∧c≤57:=by
 intro c hc;unfold dig at hc;split at hc
 ·simp only[List.mem_cons,List.not_mem_nil,or_false]at hc;omega
 ·simp only[List.mem_cons,List.not_mem_nil,or_false]at hc;rcases hc with hc |hc<;>omega
theorem h0a{n:Nat}:dig n≠[]:=by unfold dig;split<;>simp
theorem v9{n:Nat}:(dig n).length≤2:=by unfold dig;split<;>simp
noncomputable def i4(c:Nat):List Nat→List (List Nat)
 | []=>[[]]
 |a::l=>if a=c then []::i4 c l else (match i4 c l with | []=>[[a]]|w::r=>(a::w)::r)
theorem g0z{c:Nat}:∀l,i4 c l≠[]
 | []=>by simp[i4]
 |a::l=>by
  unfold i4;split
  ·simp
  ·split<;>simp
theorem b7{c:Nat}:∀{l:List Nat},c∉l→i4 c l=[l]
 | [],_=>rfl
 |a::l,h=>by
  rw[List.mem_cons,not_or]at h;unfold i4;rw[if_neg (Ne.symm h.1),b7 h.2]
theorem z0e{c:Nat}:∀(a b:List Nat),i4 c (a++c::b)=i4 c a++i4 c b
 | [],b=>by show (if c=c then []::i4 c b else _)=_;rw[if_pos rfl];rfl
 |x::a,b=>by
  rw[List.cons_append];show (if x=c then []::i4 c (a++c::b)else (match i4 c (a++c::b)with | []=>[[x]]|w::r=>(x::w)::r))=(if x=c then []::i4 c a else (match i4 c a with | []=>[[x]]|w::r=>(x::w)::r))++i4 c b;rw[z0e a b];by_cases h:x=c
  ·rw[if_pos h,if_pos h];rfl
  ·rw[if_neg h,if_neg h];cases e:i4 c a with
   |nil=>exact absurd e (g0z a)
   |cons w r=>rfl
noncomputable def a7(sep:List Nat):List (List Nat)→List Nat
 | []=>[]
 | [a]=>a
 |a::b::r=>a++(sep++a7 sep (b::r))
theorem y0b{c:Nat}:∀(ps:List (List Nat)),ps≠[]→(∀p∈ps,c∉p)→i4 c (a7 [c] ps)=ps
 | [],h,_=>absurd rfl h
 | [a],_,h=>b7 (h a (List.mem_singleton.mpr rfl))
 |a::b::r,_,h=>by
  show i4 c (a++c::a7 [c] (b::r))=_;rw[z0e,b7 (h a (List.mem_cons_self ..)),y0b (b::r) (by simp) fun p hp=>h p (List.mem_cons_of_mem _ hp)];rfl
theorem n0h(s:List Nat):∀(ps:List (List Nat)),Str.join (tx s) (ps.map tx)=tx (a7 s ps)
 | []=>rfl
 | [a]=>rfl
 |a::b::r=>by
  show tx a++tx s++Str.join (tx s) ((b::r).map tx)=_;rw[n0h s (b::r),u6,u6,List.append_assoc];rfl
theorem g0y{s:List Nat}{ps:List (List Nat)}:Txt.join (tx s) (ps.map tx)=tx (a7 s ps):=(StrLaws.glued_eq_join _ _).trans (n0h s ps)
theorem l0e{l:List Nat}{c:Nat}:Txt.split (tx l) (tx [c])=(i4 c l).map tx:=by
 have h1:=StrLaws.join_split (tx l) (tx [c]);have h2:∀y∈Txt.split (tx l) (tx [c]),c∉y.cps.toList:=StrLaws.split_free (tx l) c;have h3:=PyProof.Rows.split_pos (tx l) (tx [c]);have e:Txt.split (tx l) (tx [c])=((Txt.split (tx l) (tx [c])).map fun y=>y.cps.toList).map tx:=by
  rw[List.map_map]
  conv=>lhs;rw[←List.map_id (Txt.split (tx l) (tx [c]))]
  exact List.map_congr_left fun y _=>tx_of y
 rw[e]at h1;rw[n0h]at h1;have e2:=o0v h1;have e3:i4 c l=(Txt.split (tx l) (tx [c])).map fun y=>y.cps.toList:=by
  conv=>lhs;rw[←e2]
  refine y0b _ (fun z=>?_) fun p hp=>?_
  ·have:=congrArg List.length z;rw[List.length_map,List.length_nil]at this;omega
  ·obtain ⟨y,hy,rfl⟩:=List.mem_map.mp hp;exact h2 y hy
 rw[e3];exact e
noncomputable def i3(l:List Nat):List (List Nat):=(i4 32 l).filter (·≠[])
theorem w0h(a b:List Nat):i3 (a++32::b)=i3 a++i3 b:=by unfold i3;rw[z0e,List.filter_append]
theorem i8:i3 []=[]:=rfl
theorem w0g:∀(n:Nat) (a:List Nat),i3 (a++List.replicate n 32)=i3 a
 | 0,a=>by rw[List.replicate_zero,List.append_nil]
 |n+1,a=>by
  rw[List.replicate_succ,w0h];have:=w0g n [];rw[List.nil_append]at this;rw[this,i8,List.append_nil]
theorem k0h{w:List Nat}(h1:32∉w)(h2:w≠[]):i3 w=[w]:=by
 unfold i3;rw[b7 h1];simp[h2]
noncomputable def cntL(l:List Nat):List (List (List Nat)):=((i4 10 l).map i3).filter (·≠[])
theorem cntL_mid(a b:List Nat):cntL (a++10::b)=cntL a++cntL b:=by unfold cntL;rw[z0e,List.map_append,List.filter_append]
theorem cntL_free{a:List Nat}(h:10∉a):cntL a=if i3 a=[]then []else [i3 a]:=by
 unfold cntL;rw[b7 h];by_cases z:i3 a=[]
 ·simp[z]
 ·simp[z]
theorem g0x{c:Nat}{n:Int}(h:0≤n):Txt.mul (tx [c]) n=tx (List.replicate n.toNat c):=by
 unfold Txt.mul;by_cases h1:n<1
 ·rw[if_pos h1,show n.toNat=0 by omega];rfl
 ·rw[if_neg h1];by_cases h2:n=1
  ·subst h2;rfl
  ·have:((n==1)||((tx [c]).length==0))=false:=by
    rw[beq_eq_false_iff_ne.mpr h2];rfl
   rw[this];simp only[Bool.false_eq_true,if_false];have key:∀(k:Nat) (acc:List Nat),List.foldl (fun (x1 x2:Array Nat)=>x1++x2) acc.toArray (List.replicate k (tx [c]).cps)=(acc++List.replicate k c).toArray:=by
    intro k
    induction k with
    |zero=>intro acc;simp
    |succ k ih=>
     intro acc;rw[List.replicate_succ,List.foldl_cons];have e:acc.toArray++(tx [c]).cps=(acc++[c]).toArray:=by simp[tx]
     rw[e,ih,List.replicate_succ,List.append_assoc];rfl
   have:=key n.toNat [];rw[List.nil_append]at this;show (⟨List.foldl (fun x1 x2=>x1++x2) #[] (List.replicate n.toNat (tx [c]).cps)⟩:Str)=_;exact congrArg Str.mk this
noncomputable def cutN(l:List Nat)(lo hi:Option Int):List Nat:=(l.drop (HT.sIx l.length 0 lo)).take (HT.sIx l.length l.length hi-HT.sIx l.length 0 lo)
theorem d0v(l:List Nat)(k a:Nat):((List.range k).map (a+·)).filterMap (l.toArray[·]?)=(l.drop a).take k:=by
 have:=pick_run l.toArray a k;simpa using this
theorem x0f{l:List Nat}{lo hi:Option Int}:Txt.slice (tx l) lo hi=tx (cutN l lo hi):=by
 have hb:Builtin.Str.strSliceIndices lo hi 1 (tx l).length=(List.range (HT.sIx l.length l.length hi-HT.sIx l.length 0 lo)).map (HT.sIx l.length 0 lo+·):=by
  obtain ⟨h1,h2,h3⟩:=v0s lo hi l.length;rw[p4];show sliceRange (sliceBounds lo hi none l.length).1 (sliceBounds lo hi none l.length).2.1 1=_;rw[h1,h2,sliceRange_one]
 unfold Txt.slice;rw[hb];have key:(⟨(((List.range (HT.sIx l.length l.length hi-HT.sIx l.length 0 lo)).map (HT.sIx l.length 0 lo+·)).filterMap ((tx l).cps[·]?)).toArray⟩:Str)=tx (cutN l lo hi):=congrArg (fun z:List Nat=>(⟨z.toArray⟩:Str)) (d0v l _ _);split
 ·rename_i h;rw[←key];rw[Bool.and_eq_true,beq_iff_eq,beq_iff_eq,List.length_map,List.length_range,p4]at h;have hz:=HT.sIx_le l.length 0 (Nat.zero_le _) lo;have hy:=HT.sIx_le l.length l.length (Nat.le_refl _) hi;have e:cutN l lo hi=l:=by
   unfold cutN;rw[h.2,show HT.sIx l.length 0 lo=0 by omega,List.drop_zero,List.take_length]
  rw[key,e]
 ·exact key
theorem cutN_last{l:List Nat}:cutN l none (some (-1))=l.dropLast:=by
 unfold cutN;have e:HT.sIx l.length l.length (some (-1))=l.length-1:=by
  unfold HT.sIx;dsimp only;rw[if_pos (by decide)];omega
 rw[HT.sIx_none,e,List.drop_zero,Nat.sub_zero,List.dropLast_eq_take]
theorem g0w{l:List Nat}:∃l' k,Txt.rstripChars (tx l) (tx [32])=tx l'∧l=l'++List.replicate k 32:=by
 have goes:∀c,(tx [32]).cps.contains c=(c==32):=fun c=>by simp[tx,Array.contains,eq_comm,Bool.beq_eq_decide_eq]
 have hrev:∀m:List Nat,∃k,m=List.replicate k 32++m.drop k∧k=(m.takeWhile fun c=>(tx [32]).cps.contains c).length:=by
  intro m
  induction m with
  |nil=>exact ⟨0,rfl,rfl⟩
  |cons c m ih=>
   obtain ⟨k,e,hk⟩:=ih;by_cases h:c=32
   ·refine ⟨k+1,?_,?_⟩
    ·rw[h,List.replicate_succ,List.cons_append,List.drop_succ_cons];exact congrArg (32::·) e
    ·rw[List.takeWhile_cons_of_pos (by rw[goes,h];rfl),List.length_cons,← hk]
   ·refine ⟨0,rfl,?_⟩;rw[List.takeWhile_cons_of_neg (by rw[goes,beq_eq_false_iff_ne.mpr h];decide)];rfl
 obtain ⟨k,e,hk⟩:=hrev l.reverse;have hl:k≤l.length:=by
  rw[hk,← List.length_reverse (as:=l)];exact (List.takeWhile_sublist _).length_le
 have lo:stripLo (tx [32]).cps.contains false (tx l)=0:=rfl;have hi:stripHi (tx [32]).cps.contains true (tx l) 0=l.length-k:=by
  unfold stripHi;rw[if_pos rfl,p4,List.drop_zero,hk];rfl
 have res:Txt.rstripChars (tx l) (tx [32])=tx (l.take (l.length-k)):=by
  unfold Txt.rstripChars Txt.stripBy stripSame stripped;rw[lo,hi,p4];split
  ·rename_i h;rw[Bool.and_eq_true,beq_iff_eq,beq_iff_eq]at h;rw[List.take_of_length_le (by omega)]
  ·unfold Builtin.Str.strSub;simp[tx]
 refine ⟨l.take (l.length-k),k,res,?_⟩;have e2:=congrArg List.reverse e;rw[List.reverse_reverse,List.reverse_append,List.reverse_replicate,List.drop_reverse,List.reverse_reverse]at e2;exact e2
theorem w0f:Str.ofString " "=tx [32]:=by decide +kernel
theorem g0v:Str.ofString "\n"=tx [10]:=by decide +kernel
theorem n0g:Str.ofString ""=tx []:=by decide +kernel
theorem c_colon:Str.ofString ":"=tx [58]:=by decide +kernel
noncomputable def rT:List Nat:=[114,111,117,110,100,115]
noncomputable def fT:List Nat:=[102,114,111,109]
theorem c_rounds:Str.ofString "rounds"=tx rT:=by decide +kernel
theorem c_from:Str.ofString "from"=tx fT:=by decide +kernel
theorem c_roundsB:Str.ofString "rounds "=tx (rT++[32]):=by decide +kernel
theorem c_fromB:Str.ofString " from "=tx (32::(fT++[32])):=by decide +kernel
theorem c_colonB:Str.ofString ": "=tx [58,32]:=by decide +kernel
noncomputable def u9(ns:List Int):List (List Nat):=ns.map fun n=>dig n.toNat
noncomputable def g0u:Sp2:=fun ds δ q _=>∃d ns,ds=[d]∧rowD d=some (ns.map D.int)∧ns.length≤100∧(∀n∈ns,0≤n∧n<100)∧q (txD (a7 [32] (u9 ns))) δ
noncomputable def n0f:Sp2:=fun ds δ q _=>∃l:List Nat,ds=[txD l]∧l.length≤900∧q (.lst ((i3 l).map txD)) δ
noncomputable def linesL(l:List Nat):List (List Nat):=if (i4 10 l).getLast?=some []then (i4 10 l).dropLast else i4 10 l
noncomputable def spLines:Sp2:=fun ds δ q _=>∃l:List Nat,ds=[txD l]∧l.length≤10000∧q (.lst ((linesL l).map txD)) δ
noncomputable def numW(w:List Nat)(lo:Int):Nat→D
 | 0=>.non
 |n+1=>if w=dig lo.toNat then .int lo else numW w (lo+1) n
theorem o0u{w:List Nat}{lo:Int}{n:Nat}:numW w lo (n+1)=if w=dig lo.toNat then .int lo else numW w (lo+1) n:=rfl
theorem l0d{w:List Nat}:∀{n:Nat} {lo i:Int},0≤lo→lo≤i→i<lo+(n:Int)→lo+(n:Int)≤100→w=dig i.toNat→numW w lo n=.int i
 | 0,lo,i,h0,h1,h2,h3,e=>by omega
 |n+1,lo,i,h0,h1,h2,h3,e=>by
  unfold numW;by_cases z:lo=i
  ·subst z;rw[if_pos e]
  ·rw[if_neg (fun y=>z (dig_eq h0 (by omega) (by omega) (by omega) (y.symm.trans e)))];exact l0d (by omega) (by omega) (by omega) (by omega) e
noncomputable def n0e:Sp2:=fun ds δ q _=>∃(w:List Nat) (lo hi:Int),ds=[txD w,.int lo,.int hi]∧0≤lo∧lo≤hi+1∧hi<100∧q (numW w lo (hi+1-lo).toNat) δ
theorem z0d{c:Nat}:∀l:List Nat,(i4 c l).length≤l.length+1
 | []=>Nat.le_refl _
 |a::l=>by
  have ih:=z0d (c:=c) l;unfold i4;split
  ·rw[List.length_cons,List.length_cons];omega
  ·split
   ·simp
   ·rename_i w r e;rw[e]at ih;rw[List.length_cons]at ih ⊢;rw[List.length_cons];omega
theorem at_last{ps:List (List Nat)}{w:List Nat}:atI (List.map (D.str∘tx) ps++List.map (D.str∘tx) [w]) (-1)=some (.str (tx w)):=by
 unfold atI ixN;have e:(-1+((ps.length:Int)+1)).toNat=ps.length:=by omega
 simp only[List.length_append,List.length_map,List.length_cons,List.length_nil,Nat.zero_add];rw[if_neg (by decide),if_pos (by omega)];rw[show (-1+((ps.length+1:Nat):Int)).toNat=ps.length by omega];simp
theorem strsL{ps:List (List Nat)}:p0i (ps.map txD)=some (ps.map tx):=by
 have:=e0f (zs:=ps.map tx);rw[List.map_map]at this;exact this
theorem g0t{ps:List (List Nat)}{m:Nat}(h:∀p∈ps,p.length≤m):((ps.map tx).map (·.length)).sum≤ps.length*m:=by
 induction ps with
 |nil=>simp
 |cons p ps ih=>
  have h1:=h p (List.mem_cons_self ..);have h2:=ih fun q hq=>h q (List.mem_cons_of_mem _ hq)
  simp only[List.map_cons,List.sum_cons,p4,List.length_cons,Nat.add_mul,Nat.one_mul]at h2 ⊢;omega
theorem r6{a:Int}(h1:0≤a)(h2:a<1000):a.natAbs.log2<1920:=by
 have h:a.natAbs<1000:=by omega
 exact Nat.lt_of_le_of_lt (Nat.log2_le_self _) (by omega)
noncomputable abbrev d6:List Str:=["numbers"]
theorem sc_numbers_shown:FnScope ["numbers"] d6 (defScope d7):=⟨rfl,rfl,rfl,by decide +kernel,rfl,by decide +kernel,by decide +kernel⟩
noncomputable abbrev z8(P:Program)(w:World)(K:PySem.W.Frag)(mg:Str→Option Value)(base:Heap)(cs:Cs):Prop:=Fun2 P w K mg base "numbers_shown" 2 d6 g0u
theorem v0c{f:Addr}{fd:FuncData}(Df:DefAt K mg "numbers_shown" d7 d6 f fd)(T:Txt K mg cs):z8 P w K mg base cs:=by
 have nd:=sc_numbers_shown.nd;refine def2 Df sc_numbers_shown (fun ds δ q x h=>?_) (fun cdv A outer s H E Y hr=>⟨_,(g0 (y4 (h0r PySem.F.slot_str_join PySem.F.type_str_join h0w c0j j3 (z0 (z0n rfl (CompOkM.of ["number"] [] rfl) (x0o (e2_v 0)) (fun nd _ _ _ _ _=>(n5 (i:=0) nd rfl (by first |exact Or.inl rfl |exact Or.inr rfl))) u7 (fun _ _ _ _ _ _=>y0k) (fun _ _ _ _ _ _=>(x0r i5 n0s T.n_str x0k (z0 (e2_v 0) u0)))) u0)))),fun ds δ q x h=>?_⟩)
 ·unfold g0u at h;obtain ⟨d,ns,rfl,hd,hl,hs,hq⟩:=h;rfl
 ·unfold g0u at h;obtain ⟨d,ns,rfl,hd,hl,hs,hq⟩:=h;rw[show x4 ["numbers"] _=[.val _]from rfl];have go:∀(E:List D→Dk→Prop),(E ((u9 ns).map txD) δ)→c8 (t2Bi strF (y0s (t2V 0) o0c)) [] [.val d] E (ns.map D.int) [] δ:=fun E hE=>by
   refine h0y (fun d=>match d with | .int i=>txD (dig i.toNat)|d=>d) (by rw[List.length_map];omega) (fun z hz Q hQ=>?_) ?_
   ·obtain ⟨n,hn,rfl⟩:=List.mem_map.mp hz;obtain ⟨n1,n2⟩:=hs n hn;simp only[capt,x0n,List.map_cons,List.map_nil];walk_at "dn";refine ⟨r6 n1 (by omega),?_⟩;have e:(Str.ofString (toString n))=tx (dig n.toNat):=y0q n1 n2;rw[e];exact hQ
   ·unfold u9 at hE;rw[List.map_map]at hE ⊢;exact hE
  have el:d=.lst (ns.map D.int)∨d=.tup (ns.map D.int):=by cases d<;>simp only[rowD]at hd<;>cases hd<;>first |exact .inl rfl |exact .inr rfl
  have fin:(match p0i ((u9 ns).map txD)with |some zs=>(Str.ofString " ").length≤64∧(List.map (fun x=>x.length) zs).sum+zs.length*64≤100000∧q (D.str (Txt.join (Str.ofString " ") zs)) δ |none=>False):=by
   rw[strsL];dsimp only;rw[w0f,g0y,p4];have h1:=g0t (ps:=u9 ns) (m:=2) (fun p hp=>by obtain ⟨n,_,rfl⟩:=List.mem_map.mp hp;exact v9);have h2:(u9 ns).length=ns.length:=List.length_map ..;refine ⟨by decide,?_,hq⟩;rw[List.length_map];omega
  rcases el with rfl |rfl
  ·walk_at "dn";exact go _ fin
  ·walk_at "dn";exact go _ fin
noncomputable abbrev z0c:List Str:=["line"]
theorem sc_words_of:FnScope ["line"] z0c (defScope w0t):=⟨rfl,rfl,rfl,by decide +kernel,rfl,by decide +kernel,by decide +kernel⟩
noncomputable abbrev w0e(P:Program)(w:World)(K:PySem.W.Frag)(mg:Str→Option Value)(base:Heap)(cs:Cs):Prop:=Fun2 P w K mg base "words_of" 2 z0c n0f
theorem n0d{f:Addr}{fd:FuncData}(Df:DefAt K mg "words_of" w0t z0c f fd)(T:Txt K mg cs):w0e P w K mg base cs:=by
 have nd:=sc_words_of.nd;refine def2 Df sc_words_of (fun ds δ q x h=>?_) (fun cdv A outer s H E Y hr=>⟨_,(g0 (y4 (z0n rfl (CompOkM.of ["word"] [] rfl) (x0o (h0r PySem.F.slot_str_split PySem.F.type_str_split l0k h0p (e2_v 0) (z0 j3 u0))) (fun nd _ _ _ _ _=>(n5 (i:=0) nd rfl (by first |exact Or.inl rfl |exact Or.inr rfl))) u7 (fun _ _ _ _ _ _=>(n0t (u4 b0x d_ne (e2_v 0) j3 (o4 _)))) (fun _ _ _ _ _ _=>(e2_v 0))))),fun ds δ q x h=>?_⟩)
 ·unfold n0f at h;obtain ⟨l,rfl,hl,hq⟩:=h;rfl
 ·unfold n0f at h;obtain ⟨l,rfl,hl,hq⟩:=h;rw[show x4 ["line"] _=[.val _]from rfl];unfold txD;walk_at "dn";rw[w0f,n0g,l0e,List.map_map,p4,p4];have hsl:=z0d (c:=32) l;refine ⟨rfl,by omega,?_⟩;refine v0q (fun d=>match d with | .str z=>!decide (z=tx [])|_=>false) id (by rw[List.length_map];omega) (fun d hd Q k1 k2=>?_) ?_
  ·obtain ⟨w,hw,rfl⟩:=List.mem_map.mp hd;refine ⟨_,rfl,?_⟩;simp only[capt,x0n,List.map_cons,List.map_nil,List.getElem?_cons_zero,List.getElem?_cons_succ,List.cons_append,List.nil_append,Function.comp];walk_at "dn";cases e:decide (tx w=tx [])with
   |true=>exact k2 (by show (!decide (tx w=tx []))=false;rw[e];rfl)
   |false=>exact k1 (by show (!decide (tx w=tx []))=true;rw[e];rfl)
  ·rw[List.map_id];have e:List.filter (fun d=>match d with | .str z=>!decide (z=tx [])|_=>false) (List.map (D.str∘tx) (i4 32 l))=(i3 l).map txD:=by
    rw[List.filter_map];unfold i3;congr 1;refine List.filter_congr fun w _=>?_
    show (!decide (tx w=tx []))=decide (w≠[]);rw[z1q];exact (decide_not ..).symm
   rw[e];exact hq
noncomputable abbrev t9:List Str:=["word","least","most"]
theorem sc_number_of:FnScope ["word","least","most","number"] t9 (defScope y0h):=⟨rfl,rfl,rfl,by decide +kernel,rfl,by decide +kernel,by decide +kernel⟩
noncomputable abbrev y0a(P:Program)(w:World)(K:PySem.W.Frag)(mg:Str→Option Value)(base:Heap)(cs:Cs):Prop:=Fun2 P w K mg base "number_of" 2 t9 n0e
theorem o0t{f:Addr}{fd:FuncData}(Df:DefAt K mg "number_of" y0h t9 f fd)(T:Txt K mg cs):y0a P w K mg base cs:=by
 have nd:=sc_number_of.nd;refine def2 Df sc_number_of (fun ds δ q x h=>?_) (fun cdv A outer s H E Y hr=>⟨_,(l0 (l0p PassesOwn.leaving rfl (i0h T.n_range (z0 (e2_v 1) (z0 (n4 a5 l7 (e2_v 2) v0) u0))) (n5 (i:=3) nd rfl (by first |exact Or.inl rfl |exact Or.inr rfl)) (n0y (i:=3)) (g0 (m5 (u4 o0i d_eq (e2_v 0) (x0r i5 n0s T.n_str x0k (z0 (e2_v 3) u0)) (o4 _)) (g0 (y4 (e2_v 3))) v4)))
  (g0 (y4 g9))),fun ds δ q x h=>?_⟩)
 ·unfold n0e at h;obtain ⟨w,lo,hi,rfl,h1,h2,h3,hq⟩:=h;rfl
 ·unfold n0e at h;obtain ⟨w,lo,hi,rfl,h1,h2,h3,hq⟩:=h;rw[show x4 ["word","least","most","number"] _=[.val _,.val _,.val _,.no]from rfl];unfold txD;walk_at "dn";refine ⟨⟨by omega,by omega,by omega,by omega⟩,?_⟩;generalize hn:(hi+1-lo).toNat=n at hq;refine r0o (fun i ρ δ'=>∃c3,ρ=[.val (.str (tx w)),.val (.int lo),.val (.int hi),c3]∧δ'=δ∧numW w lo n=numW w (lo+(i:Int)) (n-i)) ⟨_,rfl,rfl,by simp⟩ ?_ ?_
  ·rintro i d ρ δ' rest hi' ⟨c3,rfl,rfl,hw⟩ hrest;obtain ⟨hi2,rfl⟩:=r0r hi';unfold n0v;walk_at "dn";refine ⟨r6 (by omega) (by omega),?_⟩;have e:(Str.ofString (toString (lo+(i:Int))))=tx (dig (lo+(i:Int)).toNat):=y0q (by omega) (by omega);rw[e];rw[show n-i=(n-(i+1))+1 by omega]at hw;rw[o0u]at hw;by_cases z:w=dig (lo+(i:Int)).toNat
   ·rw[if_pos (congrArg tx z)];rw[if_pos z]at hw;have hw:numW w lo n=.int (lo+(i:Int)):=hw;rw[hw]at hq;exact hq
   ·rw[if_neg (fun y=>z (o0v y))];rw[if_neg z]at hw;refine hrest _ _ ⟨_,rfl,rfl,?_⟩;have hw:numW w lo n=numW w (lo+(i:Int)+1) (n-(i+1)):=hw;rw[hw,show lo+(i:Int)+1=lo+((i+1:Nat):Int)by omega]
  ·rintro ρ δ' ⟨c3,rfl,rfl,hw⟩;rw[u0z,Nat.sub_self]at hw;rw[hw]at hq;exact hq
theorem t0i{s:List Nat}{m:Nat}:∀{ps:List (List Nat)},(∀p∈ps,p.length≤m)→(a7 s ps).length≤ps.length*(m+s.length)
 | [],_=>Nat.zero_le _
 | [a],h=>by
  have:=h a (List.mem_singleton.mpr rfl);show a.length≤1*(m+s.length);omega
 |a::b::r,h=>by
  have h1:=h a (List.mem_cons_self ..);have h2:=t0i (s:=s) (ps:=b::r) fun p hp=>h p (List.mem_cons_of_mem _ hp)
  show (a++(s++a7 s (b::r))).length≤_;rw[List.length_append,List.length_append,List.length_cons,Nat.add_mul,Nat.one_mul];omega
theorem d0u{c:List Int}:(a7 [32] (u9 c)).length≤c.length*3:=by
 have h:=t0i (s:=[32]) (ps:=u9 c) (m:=2) (fun p hp=>by obtain ⟨n,_,rfl⟩:=List.mem_map.mp hp;exact v9);have h2:(u9 c).length=c.length:=List.length_map ..;rw[h2]at h;exact h
theorem t0h{a b:Str}{m:Nat}(h:(a++b).length≤m):a.length≤m:=by
 have:(a++b).length=a.length+b.length:=by show (a.cps++b.cps).size=_;rw[Array.size_append];rfl
 omega
theorem z1n{xs:List D}{k:Nat}:cutD xs (some (k:Int)) none=xs.drop k:=by
 unfold cutD;rw[HT.sIx_nat,HT.sIx_none];rcases Nat.le_total k xs.length with h |h
 ·rw[Nat.min_eq_left h,List.take_of_length_le (by simp)]
 ·rw[Nat.min_eq_right h,Nat.sub_self,List.take_zero,List.drop_eq_nil_of_le h]
noncomputable def fuT:List Nat:=[102,117,108,108]
noncomputable def maT:List Nat:=[109,97,114,107]
noncomputable def prT:List Nat:=[112,114,105,99,101]
noncomputable def weT:List Nat:=[119,101,97,114]
theorem g0s:Str.ofString "full"=tx fuT:=by decide +kernel
theorem c0i:Str.ofString "mark"=tx maT:=by decide +kernel
theorem g0r:Str.ofString "price"=tx prT:=by decide +kernel
theorem g0q:Str.ofString "wear"=tx weT:=by decide +kernel
theorem z1m:Str.ofString "full "=tx (fuT++[32]):=by decide +kernel
theorem z1l:Str.ofString " mark "=tx (32::(maT++[32])):=by decide +kernel
theorem d0t:Str.ofString " price "=tx (32::(prT++[32])):=by decide +kernel
theorem z1k:Str.ofString " wear "=tx (32::(weT++[32])):=by decide +kernel
noncomputable def m3(f m:Int)(ws:List Int)(p:Int):List (List Nat):=fuT::dig f.toNat::maT::dig m.toNat::prT::dig p.toNat::weT::u9 ws
structure POk(f m:Int)(ws:List Int)(p:Int):Prop where
 hf:1≤f∧f≤9
 hm:0≤m∧m≤f
 hl:1≤ws.length∧ws.length≤6
 hw:∀z∈ws,0≤z∧z≤9
 hp:0≤p∧p≤99
noncomputable def n0c(cs:Cs):Sp2:=fun ds δ q _=>∃f m ws p,ds=[r0b cs f m ws p]∧POk f m ws p∧q (txD (a7 [32] (m3 f m ws p))) δ
theorem z1j{f m p:Int}{ws:List Int}(h:POk f m ws p):Str.empty++Str.ofString "full "++Str.ofString (toString f)++Str.ofString " mark "++Str.ofString (toString m)++Str.ofString " price "++Str.ofString (toString p)++Str.ofString " wear "++tx (a7 [32] (u9 ws))=tx (a7 [32] (m3 f m ws p)):=by
 have h1:=h.hf;have h2:=h.hm;have h3:=h.hp;obtain ⟨a,l,e⟩:∃a l,ws=a::l:=by
  have:=h.hl.1;cases ws with
  |nil=>cases this
  |cons a l=>exact ⟨a,l,rfl⟩
 rw[z1m,z1l,d0t,z1k,y0q (by omega) (by omega),y0q (by omega) (by omega),y0q (i:=p) (by omega) (by omega),show Str.empty=tx []from rfl,u6,u6,u6,u6,u6,u6,u6,u6];congr 1;subst e;show _=fuT++([32]++(dig f.toNat++([32]++(maT++([32]++(dig m.toNat++([32]++(prT++([32]++(dig p.toNat++([32]++(weT++([32]++a7 [32] (u9 (a::l)))))))))))))));simp
theorem x6{f m p:Int}{ws:List Int}(h:POk f m ws p):(m3 f m ws p).length=7+ws.length∧∀w∈m3 f m ws p,w.length≤5:=by
 refine ⟨by unfold m3 u9;simp;omega,fun w hw=>?_⟩;unfold m3 at hw;simp only[List.mem_cons]at hw;rcases hw with rfl |rfl |rfl |rfl |rfl |rfl |rfl |hw
 ·decide
 ·exact Nat.le_trans v9 (by decide)
 ·decide
 ·exact Nat.le_trans v9 (by decide)
 ·decide
 ·exact Nat.le_trans v9 (by decide)
 ·decide
 ·obtain ⟨n,_,rfl⟩:=List.mem_map.mp hw;exact Nat.le_trans v9 (by decide)
theorem r0a{f m p:Int}{ws:List Int}(h:POk f m ws p):(a7 [32] (m3 f m ws p)).length≤78:=by
 have h1:=x6 h;have h2:=t0i (s:=[32]) h1.2;have h3:=h.hl.2;have:(m3 f m ws p).length*(5+([32]:List Nat).length)≤13*6:=Nat.mul_le_mul_right _ (by omega);omega
noncomputable abbrev s9:List Str:=["part"]
theorem sc_show_part:FnScope ["part"] s9 (defScope y0i):=⟨rfl,rfl,rfl,by decide +kernel,rfl,by decide +kernel,by decide +kernel⟩
noncomputable abbrev x0z(P:Program)(w:World)(K:PySem.W.Frag)(mg:Str→Option Value)(base:Heap)(cs:Cs):Prop:=Fun2 P w K mg base "show_part" 3 s9 (n0c cs)
theorem o0s{f:Addr}{fd:FuncData}(Df:DefAt K mg "show_part" y0i s9 f fd)(T:Txt K mg cs)(G_numbers_shown:z8 P w K mg base cs):x0z P w K mg base cs:=by
 have nd:=sc_show_part.nd;refine def2 Df sc_show_part (fun ds δ q x h=>?_) (fun cdv A outer s H E Y hr=>⟨_,(g0 (y4 (h0n (z0w j3 (z0w (l0j (z0z K (e2_v 0))) (z0w j3 (z0w (l0j (z0z K (e2_v 0))) (z0w j3 (z0w (l0j (z0z K (e2_v 0))) (z0w j3 (z0w (l0j (j0 G_numbers_shown (hr.mono (by decide)) o0 (z0 (z0z K (e2_v 0)) u0))) j2_nil))))))))))),fun ds δ q x h=>?_⟩)
 ·unfold n0c at h;obtain ⟨f',m,ws,p,rfl,hp,hq⟩:=h;rfl
 ·unfold n0c at h;obtain ⟨f',m,ws,p,rfl,hp,hq⟩:=h;rw[show x4 ["part"] _=[.val _]from rfl];unfold r0b;walk_at "ds";have hT:=z1j hp;have hL:=Nat.le_trans (r0a hp) (by decide:78≤100000);rw[←p4,← hT]at hL;have h1:=hp.hf;have h2:=hp.hm;have h3:=hp.hp;have h4:=hp.hl;have k9:=t0h hL;have k8:=t0h k9;have k7:=t0h k8;have k6:=t0h k7;have k5:=t0h k6;have k4:=t0h k5;have k3:=t0h k4;refine ⟨k3,r6 (by omega) (by omega),k4,k5,r6 (by omega) (by omega),k6,k7,r6 (by omega) (by omega),k8,k9,_,ws,rfl,rfl,by omega,fun n hn=>⟨(hp.hw n hn).1,by have:=(hp.hw n hn).2;omega⟩,?_⟩;unfold txD;walk_at "ds";have hq:q (.str (tx (a7 [32] (m3 f' m ws p)))) δ:=hq;rw[←hT]at hq;have:=d0u (c:=ws);exact ⟨by rw[p4];omega,hL,hL,hq⟩
theorem q0z{K:PySem.W.Frag}{W C D:Addr}(c:ErrC K W C)(hw:D≠W):PySem.W.mroIn K C (.ref D)=some (decide (D=C)):=by
 rw[c.mroIn];by_cases h:D=C
 ·subst h;simp[List.contains_cons]
 ·have e:(Value.ref C:: .ref W::PySem.W.veMro).contains (.ref D)=false:=by simp[List.contains_cons,h,hw]
  rw[e,decide_eq_false h]
theorem mro_W{K:PySem.W.Frag}{W C:Addr}(c:ErrC K W C):PySem.W.mroIn K C (.ref W)=some true:=by
 rw[c.mroIn];simp[List.contains_cons]
theorem nd_ne{l:List Addr}(h:l.Nodup)(i j:Nat){a b:Addr}(hi:l[i]?=some a)(hj:l[j]?=some b)(hij:i≠j):a≠b:=by
 intro e;subst e;obtain ⟨h1,e1⟩:=List.getElem?_eq_some_iff.mp hi;obtain ⟨h2,e2⟩:=List.getElem?_eq_some_iff.mp hj;have hp:=List.pairwise_iff_getElem.mp h;rcases Nat.lt_or_gt_of_ne hij with z |z
 ·exact hp i j h1 h2 z (e1.trans e2.symm)
 ·exact hp j i h2 h1 z (e2.trans e1.symm)
theorem z0s{cs:Cs}:cs.NoPart∈cs.ds:=List.mem_of_getElem? (show cs.ds[0]?=some cs.NoPart from rfl)
theorem h8{cs:Cs}:cs.NoText∈cs.ds:=List.mem_of_getElem? (show cs.ds[1]?=some cs.NoText from rfl)
theorem w0d(T:Txt K mg cs):PySem.W.mroIn K cs.NoPart (.ref cs.NoPart)=some true:=(q0z (T.err _ z0s) (T.ne _ z0s)).trans (congrArg some (decide_eq_true rfl))
theorem k0g(T:Txt K mg cs):PySem.W.mroIn K cs.NoPart (.ref cs.NoText)=some false:=(q0z (T.err _ z0s) (T.ne _ h8)).trans (congrArg some (decide_eq_false (nd_ne T.nd 1 0 rfl rfl (by decide))))
theorem c0h(T:Txt K mg cs):PySem.W.mroIn K cs.NoPart (.ref cs.W)=some true:=mro_W (T.err _ z0s)
theorem k0f(T:Txt K mg cs):PySem.W.mroIn K cs.NoText (.ref cs.NoPart)=some false:=(q0z (T.err _ h8) (T.ne _ z0s)).trans (congrArg some (decide_eq_false (nd_ne T.nd 0 1 rfl rfl (by decide))))
theorem w0c(T:Txt K mg cs):PySem.W.mroIn K cs.NoText (.ref cs.NoText)=some true:=(q0z (T.err _ h8) (T.ne _ h8)).trans (congrArg some (decide_eq_true rfl))
theorem c0g(T:Txt K mg cs):PySem.W.mroIn K cs.NoText (.ref cs.W)=some true:=mro_W (T.err _ h8)
theorem b_at_at:(("at":Str)=="at")=true:=by decide +kernel
theorem b_at_row:(("at":Str)=="row")=false:=by decide +kernel
theorem b_row_at:(("row":Str)=="at")=false:=by decide +kernel
theorem g0p:(("row":Str)=="row")=true:=by decide +kernel
noncomputable abbrev mroT(K:PySem.W.Frag)(cs:Cs):Prop:=PySem.W.mroIn K cs.NoPart (.ref cs.NoPart)=some true
noncomputable def intD:D→Int | .int i=>i |_=>0
theorem w0b{lo hi:Int}:∀{xs:List D},xs.all (a4 · lo hi)=true→xs=(xs.map intD).map D.int
 | [],_=>rfl
 |x::xs,h=>by
  rw[List.all_cons,Bool.and_eq_true]at h;obtain ⟨i,rfl,_⟩:=y6 h.1;have:=w0b h.2;rw[List.map_cons,List.map_cons,← this];rfl
theorem d0s(ns:List Int):(ns.map D.int).map intD=ns:=by
 rw[List.map_map];exact List.map_id _
noncomputable def okB(a m:D)(w:List D)(p:D):Bool:=a4 a 1 9&&(match a with | .int i=>a4 m 0 i |_=>false)&&x0h (.lst w) 1 6 0 9&&a4 p 0 99
noncomputable def okP(a m:D)(w:List D)(p:D):Option (Int×Int×List Int×Int):=if okB a m w p=true then some (intD a,intD m,w.map intD,intD p)else none
noncomputable def nm(w:List Nat):D:=numW w 0 100
noncomputable def w6:List (List Nat)→Option (Int×Int×List Int×Int)
 |k0::a::k1::b::k2::c::k3::r=>if k0=fuT∧k1=maT∧k2=prT∧k3=weT then okP (nm a) (nm b) (r.map nm) (nm c)else none
 |_=>none
noncomputable def r9(l:List Nat):Sum Int (Int×Int×List Int×Int):=if 10∈l then .inl 0 else match w6 (i3 l)with |none=>.inl 1 |some p=>.inr p
noncomputable def outR(cs:Cs)(q:D→Dk→Prop)(x:Addr→List (Str×D)→Dk→Prop)(δ:Dk):Sum Int (Int×Int×List Int×Int)→Prop
 | .inl k=>x cs.NoText [("row",.int k)] δ
 | .inr (f,m,ws,p)=>q (r0b cs f m ws p) δ
noncomputable def noTx(d:D):Prop:=∀K:PySem.W.Frag,TyD K d∧b9 K d (.ty "str")=some false
noncomputable def n0b(cs:Cs):Sp2:=fun ds δ q x=>∃d,ds=[d]∧((∃l,d=txD l∧l.length≤600∧outR cs q x δ (r9 l))∨(noTx d∧x cs.NoText [("row",.int 0)] δ))
theorem pick_7{n:Nat}(h:7≤n):t0y n none (some 7) 2=[0,2,4,6]∧t0y n (some 1) (some 6) 2=[1,3,5]:=by
 have h1:sliceBounds none (some 7) (some 2) n=(0,7,2):=by
  unfold sliceBounds;simp;omega
 have h2:sliceBounds (some 1) (some 6) (some 2) n=(1,6,2):=by
  unfold sliceBounds;simp;omega
 unfold t0y;rw[h1,h2];decide
theorem d0r:∀n:Fin 7,(t0y n.val none (some 7) 2).length≤3:=by decide
theorem n0a{c:Nat}{l:List Nat}:subS (tx [c]) (tx l)=decide (c∈l):=by
 have h:subS (tx [c]) (tx l)=decide (c∈(tx l).cps.toList):=StrLaws.found_one (tx l) c;rw[h];by_cases z:c∈l<;>simp[tx,z]
theorem l0c:∀{xs ys:List D},xs.length≠ys.length→eqDs xs ys=false
 | [],[],h=>absurd rfl h
 | [],_::_,_=>rfl
 |_::_,[],_=>rfl
 |x::xs,y::ys,h=>by
  unfold eqDs;rw[l0c (fun z=>h (by rw[List.length_cons,List.length_cons,z])),Bool.and_false]
theorem o0r{a b:List Nat}:eqV (toV (txD a)) (toV (txD b))=decide (a=b):=by
 rw[←z1q];unfold txD;by_cases h:tx a=tx b<;>simp[eqV,toV,h]
theorem eq4{a b c d:List Nat}:eqDs [txD a,txD b,txD c,txD d] [D.str (Str.ofString "full"),D.str (Str.ofString "mark"),D.str (Str.ofString "price"),D.str (Str.ofString "wear")]=decide (a=fuT∧b=maT∧c=prT∧d=weT):=by
 rw[g0s,c0i,g0r,g0q];show eqDs [txD a,txD b,txD c,txD d] [txD fuT,txD maT,txD prT,txD weT]=_;unfold eqDs eqDs eqDs eqDs eqDs;rw[o0r,o0r,o0r,o0r,Bool.and_true];by_cases h1:a=fuT<;>by_cases h2:b=maT<;>by_cases h3:c=prT<;>by_cases h4:d=weT<;>simp[h1,h2,h3,h4]
theorem q0y(w:List Nat):nm w=.non∨∃i:Int,0≤i∧i<100∧w=dig i.toNat∧nm w=.int i:=by
 have key:∀(n:Nat) (lo:Int),0≤lo→lo+(n:Int)≤100→numW w lo n=.non∨∃i:Int,0≤i∧i<100∧w=dig i.toNat∧numW w lo n=.int i:=by
  intro n
  induction n with
  |zero=>intro lo _ _;exact .inl rfl
  |succ n ih=>
   intro lo h0 h1;rw[o0u];by_cases z:w=dig lo.toNat
   ·rw[if_pos z];exact .inr ⟨lo,h0,by omega,z,rfl⟩
   ·rw[if_neg z];exact ih (lo+1) (by omega) (by omega)
 exact key 100 0 (by decide) (by decide)
theorem x0e{i:Int}(h0:0≤i)(h1:i<100):nm (dig i.toNat)=.int i:=l0d (by decide) h0 (by omega) (by decide) rfl
theorem u0t(w:List Nat):v6 (nm w)=true∧f6 (nm w)=true∧y7 (nm w)=true:=by
 rcases q0y w with h |⟨i,_,_,_,h⟩
 ·rw[h];exact ⟨rfl,rfl,rfl⟩
 ·rw[h];exact ⟨rfl,rfl,rfl⟩
theorem y0p{a m p:D}{w:List D}(h:okB a m w p=false):okP a m w p=none:=by unfold okP;rw[h];rfl
theorem m0z{a m p:D}{w:List D}(h:okB a m w p=true):okP a m w p=some (intD a,intD m,w.map intD,intD p):=by unfold okP;rw[h];rfl
theorem d0q{cs:Cs}{a m p:D}{w:List D}{δ:Dk}{q:D→Dk→Prop}{x:Addr→List (Str×D)→Dk→Prop}(ht:(v6 a&&v6 m&&v6 (.lst w)&&v6 p)=true)
 (h:match okP a m w p with |some (f,m,ws,p)=>q (r0b cs f m ws p) δ |none=>∀k,x cs.NoPart [("at",.int k)] δ):v0g cs [a,m,.lst w,p] δ q x:=by
 refine ⟨ht,?_⟩;cases ea:a4 a 1 9 with
 |false=>
  have e:okP a m w p=none:=y0p (by unfold okB;rw[ea];rfl);rw[e]at h;exact h 0
 |true=>
  obtain ⟨i,rfl,i1,i2⟩:=y6 ea;rw[if_pos rfl];dsimp only;cases em:a4 m 0 i with
  |false=>
   have e:okP (.int i) m w p=none:=y0p (by unfold okB;dsimp only;rw[ea,em];rfl);rw[e]at h;exact h 1
  |true=>
   rw[if_pos rfl];cases ew:x0h (.lst w) 1 6 0 9 with
   |false=>
    have e:okP (.int i) m w p=none:=y0p (by unfold okB;dsimp only;rw[ea,em,ew];rfl);rw[e]at h;exact h 2
   |true=>
    rw[if_pos rfl];cases ep:a4 p 0 99 with
    |false=>
     have e:okP (.int i) m w p=none:=y0p (by unfold okB;dsimp only;rw[ea,em,ew,ep];rfl);rw[e]at h;exact h 3
    |true=>
     have e:okP (.int i) m w p=some (i,intD m,w.map intD,intD p):=m0z (by unfold okB;dsimp only;rw[ea,em,ew,ep];rfl);rw[e]at h;rw[if_pos rfl];obtain ⟨j,rfl,_⟩:=y6 em;obtain ⟨k,rfl,_⟩:=y6 ep;have hw:w=(w.map intD).map D.int:=by
      unfold x0h rowD at ew;dsimp only at ew;rw[Bool.and_eq_true]at ew;exact w0b ew.2
     have h:q (r0b cs i j (w.map intD) k) δ:=h;unfold r0b at h;rw[←hw]at h;exact h
theorem z0b{k0 a k1 b k2 c k3:List Nat}{r:List (List Nat)}:w6 (k0::a::k1::b::k2::c::k3::r)=if k0=fuT∧k1=maT∧k2=prT∧k3=weT then okP (nm a) (nm b) (r.map nm) (nm c)else none:=rfl
theorem g0o(l:List Nat):(i3 l).length≤l.length+1:=Nat.le_trans (List.length_filter_le _ _) (z0d l)
theorem q9:∀{l w:List Nat},w∈i4 32 l→w.length≤l.length
 | [],w,h=>by rw[List.mem_singleton.mp h];exact Nat.le_refl _
 |a::l,w,h=>by
  unfold i4 at h;rw[List.length_cons];split at h
  ·rcases List.mem_cons.mp h with rfl |h
   ·exact Nat.zero_le _
   ·have:=q9 h;omega
  ·split at h
   ·rw[List.mem_singleton.mp h];simp
   ·rename_i u r e;rcases List.mem_cons.mp h with rfl |h
    ·have:=q9 (l:=l) (w:=u) (by rw[e];exact List.mem_cons_self ..);rw[List.length_cons];omega
    ·have:=q9 (l:=l) (w:=w) (by rw[e];exact List.mem_cons_of_mem _ h);omega
theorem m0y{l w:List Nat}(h:w∈i3 l):w.length≤l.length:=q9 (List.mem_filter.mp h).1
theorem g0n(ws:List (List Nat)):ws.length<7∨∃k0 a k1 b k2 c k3 r,ws=k0::a::k1::b::k2::c::k3::r:=by
 match ws with
 |k0::a::k1::b::k2::c::k3::r=>exact .inr ⟨_,_,_,_,_,_,_,_,rfl⟩
 | []=>exact .inl (by decide)
 | [_]=>exact .inl (by simp)
 | [_,_]=>exact .inl (by simp)
 | [_,_,_]=>exact .inl (by simp)
 | [_,_,_,_]=>exact .inl (by simp)
 | [_,_,_,_,_]=>exact .inl (by simp)
 | [_,_,_,_,_,_]=>exact .inl (by simp)
theorem x0d{ws:List (List Nat)}(h:ws.length<7):w6 ws=none:=by
 unfold w6;split
 ·simp at h;omega
 ·rfl
theorem pick_long{k0 a k1 b k2 c k3:List Nat}{r:List (List Nat)}:r0j ((k0::a::k1::b::k2::c::k3::r).map txD) none (some 7) 2=[txD k0,txD k1,txD k2,txD k3]∧r0j ((k0::a::k1::b::k2::c::k3::r).map txD) (some 1) (some 6) 2=[a,b,c].map txD:=by
 have hp:=pick_7 (n:=((k0::a::k1::b::k2::c::k3::r).map txD).length) (by simp);unfold r0j;rw[hp.1,hp.2];exact ⟨rfl,rfl⟩
theorem k0e{ws:List (List Nat)}(h:ws.length<7):(r0j (ws.map txD) none (some 7) 2).length≤3:=by
 unfold r0j;rw[List.length_map];exact Nat.le_trans (List.length_filterMap_le _ _) (d0r ⟨ws.length,h⟩)
theorem m0x{xs:List D}{ws:List (List Nat)}(h:∀x∈xs,x∈ws.map txD):xs.all y7=true:=List.all_eq_true.mpr fun x hx=>by
 obtain ⟨w,_,rfl⟩:=List.mem_map.mp (h x hx);rfl
theorem d0p{xs:List D}{lo hi:Option Int}{st:Int}:∀x∈r0j xs lo hi st,x∈xs:=fun x hx=>by
 obtain ⟨i,_,e⟩:=List.mem_filterMap.mp hx;exact List.mem_of_getElem? e
noncomputable abbrev y8:List Str:=["text"]
theorem sc_read_part:FnScope ["text","words","full","mark","price","wear"] y8 (defScope y0g):=⟨rfl,rfl,rfl,by decide +kernel,rfl,by decide +kernel,by decide +kernel⟩
noncomputable abbrev p9(P:Program)(w:World)(K:PySem.W.Frag)(mg:Str→Option Value)(base:Heap)(cs:Cs):Prop:=Fun2W P w K mg base "read_part" 7 y8 (n0b cs)
theorem o0q{f:Addr}{fd:FuncData}(Df:DefAt K mg "read_part" y0g y8 f fd)(T:Txt K mg cs)(G_words_of:w0e P w K mg base cs)(G_number_of:y0a P w K mg base cs)(M_Part:Make2 P w K mg base "Part" 4 (v0g cs))(M_NoText:MkE P w K mg base "NoText" cs.NoText 1 ["self","row"] (spXI cs.NoText "row"))(MU_NoText:MkEU P w K mg base "NoText" cs.NoText 1 ["self","row"] (spXI cs.NoText "row")):p9 P w K mg base cs:=by
 have nd:=sc_read_part.nd;refine def2W Df sc_read_part (fun ds δ q x h=>?_) (fun cdv A outer s H E Y hr=>⟨_,(l0 (m5 (PW2.pt (x0s (m6 (i6 (e2_b j6 (x0q (K:=K)) T.n_isinstance m4 (z0 (e2_v 0) (z0 (r0t "str" T.n_str x0k) u0))))) (c9 (u4 q0q d_inS j3 (e2_v 0) rfl)))) (g0 (j8 rfl x0i M_NoText (hr.mono (by decide)) (z0 v0 u0))) v4)
  (l0 (b4 1 nd (j0 G_words_of (hr.mono (by decide)) x0i (z0 (e2_v 0) u0)))
  (l0 (m5 (u4 (c0n hr.units0) d_neL (p0e (e2_v 1) n6 (x5 v0) (x5 v0)) (y0r (z0 j3 (z0 j3 (z0 j3 (z0 j3 u0))))) (o4 _)) (g0 (j8 rfl x0i M_NoText (hr.mono (by decide)) (z0 v0 u0))) v4)
  (l0 (s2_unp (z0n rfl (CompOkM.of ["word"] [] rfl) (x0o (p0e (e2_v 1) (x5 v0) (x5 v0) (x5 v0))) (fun nd _ _ _ _ _=>(n5 (i:=0) nd rfl (by first |exact Or.inl rfl |exact Or.inr rfl))) u7 (fun _ _ _ _ _ _=>y0k) (fun _ _ _ _ _ _=>(j0 G_number_of (hr.mono (by decide)) p0s (z0 (e2_v 0) (z0 v0 (z0 (e2_gx T.g_GREATEST_NUMBER) u0)))))) (pg_lst rfl (x0v (n5 (i:=2) nd rfl (by first |exact Or.inl rfl |exact Or.inr rfl)) (x0v (n5 (i:=3) nd rfl (by first |exact Or.inl rfl |exact Or.inr rfl)) (x0v (n5 (i:=4) nd rfl (by first |exact Or.inl rfl |exact Or.inr rfl)) j0x)))) (td_lst (is:=[2,3,4]) rfl))
  (l0 (u0w (i:=5) rfl (CompOkM.of ["word"] [] rfl) (x0o (x0l (e2_v 1) (x5 v0) n6)) (fun nd _ _ _ _ _=>(n5 (i:=0) nd rfl (by first |exact Or.inl rfl |exact Or.inr rfl))) u7 (fun _ _ _ _ _ _=>y0k) (fun _ _ _ _ _ _=>(j0 G_number_of (hr.mono (by decide)) p0s (z0 (e2_v 0) (z0 v0 (z0 (e2_gx T.g_GREATEST_NUMBER) u0))))) nd)
  (g0 (d0x K ⟨rfl,rfl⟩ rfl x0i T.h_NoPart T.c_NoPart MU_NoText (hr.u.mono (by decide)) (fun _ _=>(g0 (y4 (i0l M_Part (hr.mono (by decide)) m0a (z0 (e2_v 2) (z0 (e2_v 3) (z0 (e2_v 5) (z0 (e2_v 4) u0)))))))) (fun _ _ _=>(z0 v0 u0))))))))),fun ds δ q x h=>?_⟩)
 ·unfold n0b at h;obtain ⟨d,rfl,h⟩:=h;rfl
 ·unfold n0b at h;obtain ⟨d,rfl,h⟩:=h;rw[show x4 ["text","words","full","mark","price","wear"] _=[.val _,.no,.no,.no,.no,.no]from rfl];rcases h with ⟨l,rfl,hl,ho⟩|⟨hn,hx⟩
  ·have ty:b9 K (txD l) (.ty "str")=some true:=c0m;walk_at "dn";refine ⟨trivial,?_⟩;rw[ty];have e0:txD l=.str (tx l):=rfl;simp only[Bool.not_true,Bool.false_eq_true,if_false];unfold r9 at ho;rw[e0];dsimp only;rw[g0v,n0a];by_cases h10:10∈l
   ·rw[if_pos h10]at ho;rw[decide_eq_true h10];exact ho
   ·rw[if_neg h10]at ho;rw[decide_eq_false h10];simp only[Bool.false_eq_true,if_false];refine ⟨l,rfl,by omega,?_⟩;have hbad:mroT K cs:=w0d T;have hwl:=g0o l;generalize i3 l=ws at ho hwl;dsimp only;rcases g0n ws with hs |⟨k0,a,k1,b,k2,c,k3,r,rfl⟩
    ·rw[x0d hs]at ho;refine ⟨by decide,by rw[m0x d0p];rfl,?_⟩;rw[l0c (by have:=k0e hs;show _≠4;omega)];exact ho
    ·rw[pick_long.1,pick_long.2,eq4];refine ⟨by decide,rfl,?_⟩;rw[z0b]at ho;by_cases hk:k0=fuT∧k1=maT∧k2=prT∧k3=weT
     ·rw[if_pos hk]at ho;rw[decide_eq_true hk];simp only[Bool.not_true,Bool.false_eq_true,if_false];refine ⟨by decide,?_⟩;refine z0m txD nm [a,b,c] (by show 3≤1000;decide) (fun w hw Q hQ=>?_) ?_
      ·simp only[capt,x0n,List.map_cons,List.map_nil];walk_at "dn";exact ⟨w,0,99,rfl,by decide,by decide,by decide,hQ⟩
      ·simp only[List.map_cons,List.map_nil];rw[show v0r [2,3,4] [nm a,nm b,nm c] [Cell.val (D.str (tx l)),Cell.val (D.lst (txD k0::txD a::txD k1::txD b::txD k2::txD c::txD k3::List.map txD r)),Cell.no,Cell.no,Cell.no,Cell.no]=some [Cell.val (D.str (tx l)),Cell.val (D.lst (txD k0::txD a::txD k1::txD b::txD k2::txD c::txD k3::List.map txD r)),.val (nm a),.val (nm b),.val (nm c),.no]from rfl];walk_at "dn";rw[show (7:Int)=((7:Nat):Int)from rfl,z1n];simp only[List.drop_succ_cons,List.drop_zero];refine z0m txD nm r (by simp only[List.length_cons]at hwl;omega) (fun w hw Q hQ=>?_) ?_
       ·simp only[capt,x0n,List.map_cons,List.map_nil];walk_at "dn";exact ⟨w,0,99,rfl,by decide,by decide,by decide,hQ⟩
       ·have hth:(v6 (nm a)&&v6 (nm b)&&v6 (.lst (r.map nm))&&v6 (nm c))=true:=by
         have hr:v6 (.lst (r.map nm))=true:=by
          unfold v6 rowD;dsimp only;rw[List.all_eq_true.mpr (fun d hd=>by obtain ⟨w,_,rfl⟩:=List.mem_map.mp hd;exact (u0t w).2.1)];rfl
         rw[(u0t a).1,(u0t b).1,(u0t c).1,hr];rfl
        refine d0q hth ?_;cases eo:okP (nm a) (nm b) (r.map nm) (nm c)with
        |none=>
         rw[eo]at ho;exact fun k=>⟨hbad,ho⟩
        |some z=>
         obtain ⟨f1,m1,w1,p1⟩:=z;rw[eo]at ho;exact ho
     ·rw[if_neg hk]at ho;rw[decide_eq_false hk];exact ho
  ·walk_at "dn";obtain ⟨h1,h2⟩:=hn K;refine ⟨h1,?_⟩;rw[h2];exact hx
theorem DkAt.mono{p:Addr}{ns:List Int}{n m:Nat}{δ:Dk}(h:DkAt p ns n δ)(l:n≤m):DkAt p ns m δ:=by
 obtain ⟨c,k,e,h1,h2,h3⟩:=h;exact ⟨c,k,e,h1,h2,by omega⟩
theorem atL{xs:List D}{k:Int}(h0:0≤k)(h1:k<(xs.length:Int)):∃z,atI xs k=some z∧z∈xs:=by
 have hz:k=((k.toNat:Nat):Int):=by omega
 rw[hz];exact ⟨_,o0f (List.getElem?_eq_getElem (show k.toNat<xs.length by omega)),List.getElem_mem _⟩
noncomputable def f7(f m:Int)(ws:List Int)(p:Int):D:=.tup [.int f,.int m,.tup (ws.map D.int),.int p]
noncomputable def m0w:Sp2:=fun ds δ q _=>∃p ns n,ds=[.ref p]∧DkAt p ns n δ∧n<2^20∧∀f m ws pr δ',POk f m ws pr→DkAt p ns (n+20) δ'→q (f7 f m ws pr) δ'
noncomputable def q0x:Sp2:=fun ds δ q _=>∃f m ws p,ds=[f7 f m ws p]∧POk f m ws p∧q (.lst ((m3 f m ws p).map txD)) δ
noncomputable def z1i(cs:Cs):Sp2:=fun ds δ q _=>∃f m ws p f' m' ws' p',ds=[r0b cs f m ws p,f7 f' m' ws' p']∧q (.bl (decide (f=f'∧m=m'∧ws=ws'∧p=p'))) δ
noncomputable def refI:Sum Int (Int×Int×List Int×Int)→Int | .inl k=>k | .inr _=>-9
noncomputable def s0e:Sp2:=fun ds δ q _=>∃d,ds=[d]∧((∃l,d=txD l∧l.length≤600∧q (.int (refI (r9 l))) δ)∨(noTx d∧q (.int 0) δ))
noncomputable def d0o(cs:Cs):Sp2:=fun ds δ q _=>∃l f m ws p,ds=[txD l]∧l.length≤600∧r9 l=.inr (f,m,ws,p)∧q (r0b cs f m ws p) δ
noncomputable abbrev o7(P:Program)(w:World)(K:PySem.W.Frag)(mg:Str→Option Value)(base:Heap)(cs:Cs):Prop:=Fun2 P w K mg base "read_part" 7 y8 (d0o cs)
theorem t0g(G:p9 P w K mg base cs):o7 P w K mg base cs:=Fun2W.to G fun ds δ q x ⟨l,f,m,ws,p,e,hl,hr,hq⟩=>⟨_,e,.inl ⟨l,rfl,hl,by rw[hr];exact hq⟩⟩
noncomputable abbrev z0a:List Str:=["_law_deck_here"]
theorem sc_law_spec:FnScope ["_law_deck_here","_law_full","_law_wear"] z0a (defScope w0o):=⟨rfl,rfl,rfl,by decide +kernel,rfl,by decide +kernel,by decide +kernel⟩
noncomputable abbrev w0a(P:Program)(w:World)(K:PySem.W.Frag)(mg:Str→Option Value)(base:Heap)(cs:Cs):Prop:=Fun2 P w K mg base "_law_spec" 5 z0a m0w
theorem m0v{f:Addr}{fd:FuncData}(Df:DefAt K mg "_law_spec" w0o z0a f fd)(T:Txt K mg cs)(G_law_take:v7 P w K mg base cs):w0a P w K mg base cs:=by
 have nd:=sc_law_spec.nd;refine def2 Df sc_law_spec (fun ds δ q x h=>?_) (fun cdv A outer s H E Y hr=>⟨_,(l0 (b4 1 nd (n4 a5 l7 v0 (j0 G_law_take (hr.mono (by decide)) o0 (z0 (e2_v 0) (z0 v0 u0)))))
  (l0 (u0w (i:=2) rfl (CompOkM.of ["_law_k"] [0] rfl) (p0r T.n_range (z0 (n4 a5 l7 v0 (j0 G_law_take (hr.mono (by decide)) o0 (z0 (e2_v 0) (z0 v0 u0)))) u0)) (fun nd _ _ _ _ _=>(n5 (i:=0) nd rfl (by first |exact Or.inl rfl |exact Or.inr rfl))) u7 (fun _ _ _ _ _ _=>y0k) (fun _ _ _ _ _ _=>(j0 G_law_take (hr.mono (by decide)) p0s (z0 (e2_v 1) (z0 v0 u0)))) nd)
  (g0 (y4 (q0a (z0 (e2_v 1) (z0 (j0 G_law_take (hr.mono (by decide)) o0 (z0 (e2_v 0) (z0 (n4 a5 l7 (e2_v 1) v0) u0))) (z0 (x0r f8 n0z T.n_tuple x0t (z0 (e2_v 2) u0)) (z0 (j0 G_law_take (hr.mono (by decide)) o0 (z0 (e2_v 0) (z0 v0 u0))) u0))))))))),fun ds δ q x h=>?_⟩)
 ·unfold m0w at h;obtain ⟨p,ns,n,rfl,hD,hn,hq⟩:=h;rfl
 ·unfold m0w at h;obtain ⟨p,ns,n,rfl,hD,hn,hq⟩:=h;rw[show x4 ["_law_deck_here","_law_full","_law_wear"] _=[.val _,.no,.no]from rfl];walk_at "dl";refine ⟨p,ns,_,9,rfl,hD,by omega,by decide,by decide,fun a0 δ0 a1 a2 hD=>?_⟩;refine ⟨p,ns,_,6,rfl,hD,by omega,by decide,by decide,fun d0 δ3 d1 d2 hD=>?_⟩;dsimp only;refine ⟨⟨by omega,by omega⟩,?_⟩;have hsz:(rngD 0 (1+d0).toNat).length≤6:=by rw[u0z];omega
  have hs0:0<(rngD 0 (1+d0).toNat).length:=by rw[u0z];omega
  refine r0n (fun i acc δ'=>∃ws:List Int,acc=ws.map D.int∧ws.length=i∧(∀x∈ws,0≤x∧x≤9)∧DkAt p ns (n+2+i) δ') ⟨[],rfl,rfl,fun x hx=>(by cases hx),hD⟩ ?_ ?_
  ·rintro i d acc δ' rest hi ⟨ws,rfl,hwl,hw,hD⟩ hrest;have hlt:=(List.getElem?_eq_some_iff.mp hi).1;walk_at "dl";refine ⟨p,ns,_,10,rfl,hD,by omega,by decide,by decide,fun x0 δ5 x1 x2 hD=>?_⟩;refine ⟨by rw[List.length_map];omega,hrest _ _ ⟨ws++[x0],by rw[List.map_append];rfl,by rw[List.length_append,hwl];rfl,fun y hy=>?_,hD⟩⟩;rcases List.mem_append.mp hy with hy |hy
   ·exact hw y hy
   ·rw[List.mem_singleton.mp hy];omega
  ·rintro acc δ' ⟨ws,rfl,hwl,hw,hD⟩;refine ⟨p,ns,_,1+a0+1,rfl,hD,by omega,by omega,by omega,fun b0 δ1 b1 b2 hD=>?_⟩;refine ⟨p,ns,_,100,rfl,hD,by omega,by decide,by decide,fun c0 δ2 c1 c2 hD=>?_⟩;exact hq _ _ ws _ _ ⟨by omega,by omega,by omega,hw,by omega⟩ (hD.mono (by omega))
noncomputable abbrev o9:List Str:=["_law_spec_here"]
theorem sc_law_words:FnScope ["_law_spec_here","_law_found"] o9 (defScope y0f):=⟨rfl,rfl,rfl,by decide +kernel,rfl,by decide +kernel,by decide +kernel⟩
noncomputable abbrev m9(P:Program)(w:World)(K:PySem.W.Frag)(mg:Str→Option Value)(base:Heap)(cs:Cs):Prop:=Fun2 P w K mg base "_law_words" 2 o9 q0x
theorem o0p{f:Addr}{fd:FuncData}(Df:DefAt K mg "_law_words" y0f o9 f fd)(T:Txt K mg cs):m9 P w K mg base cs:=by
 have nd:=sc_law_words.nd;refine def2 Df sc_law_words (fun ds δ q x h=>?_) (fun cdv A outer s H E Y hr=>⟨_,(l0 (b4 1 nd (y0r (z0 j3 (z0 (x0r i5 n0s T.n_str x0k (z0 (j4 0 v0) u0)) (z0 j3 (z0 (x0r i5 n0s T.n_str x0k (z0 (j4 0 v0) u0)) (z0 j3 (z0 (x0r i5 n0s T.n_str x0k (z0 (j4 0 v0) u0)) (z0 j3 u0)))))))))
  (g0 (y4 (n4 a5 l7 (e2_v 1) (z0n rfl (CompOkM.of ["_law_number_here"] [] rfl) (x0o (j4 0 v0)) (fun nd _ _ _ _ _=>(n5 (i:=0) nd rfl (by first |exact Or.inl rfl |exact Or.inr rfl))) u7 (fun _ _ _ _ _ _=>y0k) (fun _ _ _ _ _ _=>(x0r i5 n0s T.n_str x0k (z0 (e2_v 0) u0)))))))),fun ds δ q x h=>?_⟩)
 ·unfold q0x at h;obtain ⟨f',m,ws,p,rfl,hp,hq⟩:=h;rfl
 ·unfold q0x at h;obtain ⟨f',m,ws,p,rfl,hp,hq⟩:=h;rw[show x4 ["_law_spec_here","_law_found"] _=[.val _,.no]from rfl];have h1:=hp.hf;have h2:=hp.hm;have h3:=hp.hp;have h4:=hp.hl;unfold f7;walk_at "dn";rw[g0s,c0i,g0r,g0q,y0q (by omega) (by omega),y0q (by omega) (by omega),y0q (i:=p) (by omega) (by omega)];refine ⟨r6 (by omega) (by omega),r6 (by omega) (by omega),r6 (by omega) (by omega),?_⟩;refine z0m D.int (fun n=>txD (dig n.toNat)) ws (by omega) (fun n hn Q hQ=>?_) ?_
  ·have hw:=hp.hw n hn;simp only[capt,x0n,List.map_cons,List.map_nil];walk_at "dn";refine ⟨r6 hw.1 (by omega),?_⟩;have e:(Str.ofString (toString n))=tx (dig n.toNat):=y0q hw.1 (by omega);rw[e];exact hQ
  ·rw[List.length_map];refine ⟨by omega,?_⟩;unfold m3 u9 at hq;simp only[List.map_cons,List.map_map]at hq;exact hq
noncomputable def g0m:Sp2:=fun ds δ q _=>∃(ns ms:List Int) (due:D),ds=[.tup (ns.map D.int),due]∧(due=.lst (ms.map D.int)∨due=.tup (ms.map D.int))∧q (.bl (decide (ns=ms))) δ
noncomputable abbrev x0c:List Str:=["_law_found","_law_due"]
theorem sc_law_row:FnScope ["_law_found","_law_due","_law_one","_law_other"] x0c (defScope t0x):=⟨rfl,rfl,rfl,by decide +kernel,rfl,by decide +kernel,by decide +kernel⟩
noncomputable abbrev t0f(P:Program)(w:World)(K:PySem.W.Frag)(mg:Str→Option Value)(base:Heap)(cs:Cs):Prop:=Fun2 P w K mg base "_law_row" 3 x0c g0m
theorem k0d{f:Addr}{fd:FuncData}(Df:DefAt K mg "_law_row" t0x x0c f fd)(T:Txt K mg cs)(G_law_number:l6 P w K mg base cs):t0f P w K mg base cs:=by
 have nd:=sc_law_row.nd;refine def2 Df sc_law_row (fun ds δ q x h=>?_) (fun cdv A outer s H E Y hr=>⟨_,(l0 (m5 (PW2.pt (x0s (m6 (i6 (e2_b j6 (x0q (K:=K)) T.n_isinstance m4 (z0 (e2_v 0) (z0 (r0t "tuple" T.n_tuple x0t) u0))))) (c9 (u4 b0x d_ne (a9 0 T.n_len) (a9 1 T.n_len) (o4 _))))) (g0 (y4 u0f)) v4)
  (l0 (l0p PassesOwn.leaving rfl (i2_zip T.n_zip (z0 (e2_v 0) (z0 (e2_v 1) u0))) (pg_tup rfl (x0v (n5 (i:=2) nd rfl (by first |exact Or.inl rfl |exact Or.inr rfl)) (x0v (n5 (i:=3) nd rfl (by first |exact Or.inl rfl |exact Or.inr rfl)) j0x))) (td_tup (is:=[2,3]) rfl) (g0 (m5 (m6 (i6 (j0 G_law_number (hr.mono (by decide)) o0 (z0 (e2_v 2) (z0 (e2_v 3) u0))))) (g0 (y4 u0f)) v4)))
  (g0 (y4 u0f)))),fun ds δ q x h=>?_⟩)
 ·unfold g0m at h;obtain ⟨ns,ms,due,rfl,hd,hq⟩:=h;rfl
 ·unfold g0m at h;obtain ⟨ns,ms,due,rfl,hd,hq⟩:=h;rw[show x4 ["_law_found","_law_due","_law_one","_law_other"] _=[.val _,.val _,.no,.no]from rfl];have ty:b9 K (.tup (ns.map D.int)) (.ty "tuple")=some true:=by rw[e0v K (d:=.tup (ns.map D.int)) trivial (fun C fs=>⟨(by intro z;cases z),(by intro z;cases z)⟩)]
  have t1:TyD K (.tup (ns.map D.int)):=trivial;have main:∀ δ' (E:End2),E.rt=q→(ns.length=ms.length)→E.nx=(fun ρ δ1=>q (.bl true) δ1)→δ'=δ→forL (g2T [2,3]) (i0p (i0u (t2B (x0p j5 (y0s (t2V 2) (y0s (t2V 3) o0c))))) (i0q (t2C (.bl false))) p0w) E (zipD (ns.map D.int) (ms.map D.int)) [.val (.tup (ns.map D.int)),.val due,.no,.no] δ':=by
   intro δ' E hE hlen hN hδ;subst hδ;refine r0o (fun i ρ δ1=>∃c2 c3,ρ=[.val (.tup (ns.map D.int)),.val due,c2,c3]∧δ1=δ'∧ns.take i=ms.take i) ⟨_,_,rfl,rfl,rfl⟩ ?_ ?_
   ·rintro i d ρ δ1 rest hi ⟨c2,c3,rfl,rfl,hi2⟩ hrest;obtain ⟨a,b,h1,h2,rfl⟩:=l0n hi;rw[List.getElem?_map,Option.map_eq_some_iff]at h1 h2;obtain ⟨x,hx,rfl⟩:=h1;obtain ⟨y,hy,rfl⟩:=h2;unfold n0v;walk_at "dn";by_cases exy:x=y
    ·have e1:numD (.int x) y=true:=decide_eq_true exy;simp only[j5,f6,true_and,e1,Bool.not_true,Bool.false_eq_true,if_false];exact hrest _ _ ⟨_,_,rfl,rfl,by rw[List.take_succ,List.take_succ,hi2,hx,hy,exy]⟩
    ·have e1:numD (.int x) y=false:=decide_eq_false exy;simp only[j5,f6,true_and,e1,Bool.not_false,if_true];rw[hE];have:decide (ns=ms)=false:=decide_eq_false (fun z=>by subst z;rw[hx]at hy;cases hy;exact exy rfl);rw[this]at hq;exact hq
   ·rintro ρ δ1 ⟨c2,c3,rfl,rfl,hi2⟩;rw[hN];rw[l0m,List.length_map,List.length_map,← hlen,Nat.min_self,List.take_length]at hi2;rw[hlen,List.take_length]at hi2;rw[decide_eq_true hi2]at hq;exact hq
  rcases hd with rfl |rfl
  all_goals
   walk_at "dn";simp only[ty,t1,true_and,Bool.not_true,Bool.false_eq_true,if_false,List.length_map];split
   ·rename_i hne;rw[Bool.not_eq_true',decide_eq_false_iff_not]at hne;rw[decide_eq_false (fun z=>hne (by rw[z]))]at hq;exact hq
   ·rename_i hne;rw[Bool.not_eq_true',decide_eq_false_iff_not,Decidable.not_not]at hne;exact main δ _ rfl (by omega) rfl rfl
noncomputable abbrev u0s:List Str:=["_law_part","_law_spec_here"]
theorem sc_law_is:FnScope ["_law_part","_law_spec_here"] u0s (defScope r0f):=⟨rfl,rfl,rfl,by decide +kernel,rfl,by decide +kernel,by decide +kernel⟩
noncomputable abbrev u0r(P:Program)(w:World)(K:PySem.W.Frag)(mg:Str→Option Value)(base:Heap)(cs:Cs):Prop:=Fun2 P w K mg base "_law_is" 4 u0s (z1i cs)
theorem g0l{f:Addr}{fd:FuncData}(Df:DefAt K mg "_law_is" r0f u0s f fd)(T:Txt K mg cs)(G_law_number:l6 P w K mg base cs)(G_law_row:t0f P w K mg base cs):u0r P w K mg base cs:=by
 have nd:=sc_law_is.nd;refine def2 Df sc_law_is (fun ds δ q x h=>?_) (fun cdv A outer s H E Y hr=>⟨_,(l0 (m5 (PW2.pt (x0s (m6 (i6 (e2_b j6 (x0q (K:=K)) T.n_isinstance m4 (z0 (e2_v 0) (z0 (e2_cl T.c_Part) u0))))) (x0s (m6 (i6 (j0 G_law_number (hr.mono (by decide)) o0 (z0 (z0z K (e2_v 0)) (z0 (j4 1 v0) u0))))) (c9 (m6 (i6 (j0 G_law_number (hr.mono (by decide)) o0 (z0 (z0z K (e2_v 0)) (z0 (j4 1 v0) u0))))))))) (g0 (y4 u0f)) v4)
  (g0 (y4 (s0j (j0 G_law_row (hr.mono (by decide)) o0 (z0 (z0z K (e2_v 0)) (z0 (j4 1 v0) u0))) (p0z (j0 G_law_number (hr.mono (by decide)) o0 (z0 (z0z K (e2_v 0)) (z0 (j4 1 v0) u0)))))))),fun ds δ q x h=>?_⟩)
 ·unfold z1i at h;obtain ⟨f',m,ws,p,f2,m2,ws2,p2,rfl,hq⟩:=h;rfl
 ·unfold z1i at h;obtain ⟨f',m,ws,p,f2,m2,ws2,p2,rfl,hq⟩:=h;rw[show x4 ["_law_part","_law_spec_here"] _=[.val _,.val _]from rfl];unfold r0b f7;walk_at "ds";refine ⟨T.cl_Part,?_⟩;rw[e0k];walk_at "ds";simp only[j5,f6,true_and,numD];by_cases e1:f'=f2
  ·rw[decide_eq_true e1];walk_at "ds";simp only[j5,f6,true_and,numD];by_cases e2:m=m2
   ·rw[decide_eq_true e2];walk_at "ds";refine ⟨ws,ws2,_,rfl,.inr rfl,?_⟩;by_cases e3:ws=ws2
    ·rw[decide_eq_true e3];walk_at "ds";simp only[j5,f6,true_and,numD];rw[show decide (f'=f2∧m=m2∧ws=ws2∧p=p2)=decide (p=p2)by simp[e1,e2,e3]]at hq;exact hq
    ·rw[decide_eq_false e3];walk_at "ds";rw[decide_eq_false (fun z=>e3 z.2.2.1)]at hq;exact hq
   ·rw[decide_eq_false e2];rw[decide_eq_false (fun z=>e2 z.2.1)]at hq;exact hq
  ·rw[decide_eq_false e1];rw[decide_eq_false (fun z=>e1 z.1)]at hq;exact hq
noncomputable abbrev b6:List Str:=["_law_text"]
theorem sc_law_refused:FnScope ["_law_text","_law_found","e"] b6 (defScope a8):=⟨rfl,rfl,rfl,by decide +kernel,rfl,by decide +kernel,by decide +kernel⟩
noncomputable abbrev l9(P:Program)(w:World)(K:PySem.W.Frag)(mg:Str→Option Value)(base:Heap)(cs:Cs):Prop:=Fun2W P w K mg base "_law_refused" 8 b6 s0e
theorem s0x{f:Addr}{fd:FuncData}(Df:DefAt K mg "_law_refused" a8 b6 f fd)(T:Txt K mg cs)(G_read_part:p9 P w K mg base cs):l9 P w K mg base cs:=by
 have nd:=sc_law_refused.nd;refine def2W Df sc_law_refused (fun ds δ q x h=>?_) (fun cdv A outer s H E Y hr=>⟨_,(l0 (b4 1 nd (i0s v0))
  (l0 (s2_try ⟨rfl,rfl⟩ (fun _ _=>(g0 (a0w (d0y G_read_part (hr.mono (by decide)) m0a (z0 (e2_v 0) u0))))) (h2_asK K 2 ⟨rfl,rfl⟩ T.h_NoText T.c_NoText nd (fun _=>(g0 (b4 1 nd (e0u K (e2_v 2))))) (e0t K ⟨rfl,rfl⟩ T.h_WearError T.c_WearError (fun _=>(g0 (b4 1 nd (i0s v0)))) h2_nil)))
  (g0 (y4 (e2_v 1))))),fun ds δ q x h=>?_⟩)
 ·unfold s0e at h;obtain ⟨d,rfl,h⟩:=h;rfl
 ·unfold s0e at h;obtain ⟨d,rfl,h⟩:=h;rw[show x4 ["_law_text","_law_found","e"] _=[.val _,.no,.no]from rfl];have bad:∀k:Int,q (.int k) δ→(match PySem.W.mroIn K cs.NoText (Value.ref cs.NoText)with
   |some b=>if b=true then (XC K cs.NoText∧NoAttr K cs.NoText (Str.ofString "row"))∧match List.lookup (Str.ofString "row") [(Str.ofString "row",D.int k)]with |some e=>q e δ |none=>False
    else match PySem.W.mroIn K cs.NoText (Value.ref cs.W)with |some b=>if b=true then q (D.int (-8)) δ else False |none=>False
   |none=>False):=fun k hk=>by
   rw[w0c T];refine ⟨⟨(T.err _ h8).xc,T.a_NoText_row⟩,?_⟩;simp only[List.lookup_cons,g0p];exact hk
  walk_at "dn";refine ⟨d,rfl,?_⟩;rcases h with ⟨l,e,hl,hq⟩|⟨hn,hq⟩
  ·refine .inl ⟨l,e,hl,?_⟩;cases er:r9 l with
   |inl k=>rw[er]at hq;exact bad k hq
   |inr z=>
    obtain ⟨f1,m1,w1,p1⟩:=z;rw[er]at hq;exact hq
  ·exact .inr ⟨hn,bad 0 hq⟩
noncomputable abbrev o6(P:Program)(w:World)(K:PySem.W.Frag)(mg:Str→Option Value)(base:Heap)(cs:Cs):Prop:=Fun2 P w K mg base "_law_refused" 8 b6 s0e
theorem v0z(G:l9 P w K mg base cs):o6 P w K mg base cs:=Fun2W.to G fun ds δ q x h=>h
theorem v0y:∀(n:Nat) (a:List Nat),i3 (List.replicate n 32++a)=i3 a
 | 0,a=>rfl
 |n+1,a=>by
  have:=w0h [] (List.replicate n 32++a);rw[List.replicate_succ,List.cons_append];rw[List.nil_append,i8,List.nil_append]at this;rw[this,v0y n a]
theorem q0w{n c:Nat}(h:c≠32):c∉List.replicate n 32:=fun z=>h (List.eq_of_mem_replicate z)
structure WsOk(ws:List (List Nat)):Prop where
 n:ws.length≤20
 s:∀w∈ws,w.length≤16
 f:∀w∈ws,10∉w
noncomputable def m0u:Sp2:=fun ds δ q _=>∃p ns n ws,ds=[.ref p,.lst (ws.map txD)]∧DkAt p ns n δ∧n<2^21∧WsOk ws∧∀l δ',i3 l=ws.flatMap i3→10∉l→l.length≤390→DkAt p ns (n+22) δ'→q (txD l) δ'
noncomputable def u8(w:List Nat)(lo hi:Int):D:=match nm w with | .int i=>if lo≤i∧i≤hi then .int i else .non |_=>.non
noncomputable def q0v:Sp2:=fun ds δ q _=>∃w lo hi,ds=[txD w,.int lo,.int hi]∧w.length≤900∧0≤lo∧hi≤99∧q (u8 w lo hi) δ
noncomputable def readD:Option (Int×Int×List Int×Int)→D |some (f,m,ws,p)=>f7 f m ws p |none=>.non
noncomputable def m0t:Sp2:=fun ds δ q _=>∃l,ds=[txD l]∧l.length≤600∧q (readD (w6 (i3 l))) δ
noncomputable def t0e:Sp2:=fun ds δ q _=>∃l,ds=[txD l]∧l.length≤600∧q (.bl true) δ
noncomputable def m0s:Sp2:=fun ds δ q _=>∃f m ws p bs,ds=[f7 f m ws p,.lst (bs.map txD)]∧POk f m ws p∧q (.bl (decide (bs=m3 f m ws p))) δ
noncomputable def digs:List Nat:=[48,49,50,51,52,53,54,55,56,57]
theorem c_digs:Str.ofString "0123456789"=tx digs:=by decide +kernel
theorem l0b:Str.ofString "0"=tx [48]:=by decide +kernel
theorem mem_digs{c:Nat}:c∈digs↔48≤c∧c≤57:=by
 unfold digs;simp only[List.mem_cons,List.not_mem_nil,or_false];omega
theorem z1h:∀a:Fin 10,PySem.intText? (tx [48+a.val])=some ((a.val:Nat):Int):=by decide +kernel
theorem z1g:∀a b:Fin 10,PySem.intText? (tx [48+a.val,48+b.val])=some ((10*a.val+b.val:Nat):Int):=by decide +kernel
theorem m0r{w:List Nat}(h:w=[]∨2<w.length∨(∃c∈w,c∉digs)∨∃d,w=[48,d]):nm w=.non:=by
 rcases q0y w with z |⟨i,i0,i1,e,_⟩
 ·exact z
 ·exfalso;have hl:=v9 (n:=i.toNat);rcases h with rfl |h |⟨c,hc,hd⟩|⟨d,rfl⟩
  ·exact h0a e.symm
  ·rw[e]at h;omega
  ·rw[e]at hc;exact hd (mem_digs.mpr (t0j (by omega) c hc))
  ·unfold dig at e;split at e
   ·have:=congrArg List.length e;cases this
   ·have:=(List.cons.inj e).1;omega
theorem z1f{c:Nat}(h:c∈digs):PySem.intText? (tx [c])=some ((c:Int)-48)∧nm [c]=.int ((c:Int)-48):=by
 rw[mem_digs]at h;have h1:=z1h ⟨c-48,by omega⟩;have e:48+(c-48)=c:=by omega
 simp only[e]at h1;have h2:=x0e (i:=(c:Int)-48) (by omega) (by omega);have e2:dig ((c:Int)-48).toNat=[c]:=by unfold dig;rw[if_pos (by omega)];exact congrArg (·:: []) (by omega)
 rw[e2]at h2;exact ⟨by rw[h1];exact congrArg some (by omega),h2⟩
theorem z1e{c d:Nat}(h:c∈digs)(h':d∈digs)(h0:c≠48):PySem.intText? (tx [c,d])=some (10*((c:Int)-48)+((d:Int)-48))∧nm [c,d]=.int (10*((c:Int)-48)+((d:Int)-48)):=by
 rw[mem_digs]at h h';have h1:=z1g ⟨c-48,by omega⟩ ⟨d-48,by omega⟩;have e:48+(c-48)=c:=by omega
 have e':48+(d-48)=d:=by omega
 simp only[e,e']at h1;have h2:=x0e (i:=10*((c:Int)-48)+((d:Int)-48)) (by omega) (by omega);have e2:dig (10*((c:Int)-48)+((d:Int)-48)).toNat=[c,d]:=by
  unfold dig;rw[if_neg (by omega)];have a1:48+(10*((c:Int)-48)+((d:Int)-48)).toNat/10=c:=by omega
  have a2:48+(10*((c:Int)-48)+((d:Int)-48)).toNat%10=d:=by omega
  rw[a1,a2]
 rw[e2]at h2;exact ⟨by rw[h1];exact congrArg some (by omega),h2⟩
theorem d0n{w:List Nat}:s0f (tx w)=w.map fun c=>txD [c]:=by unfold s0f tx;rfl
theorem u0q{w:List Nat}{lo hi:Int}(h:nm w=.non):u8 w lo hi=.non:=by unfold u8;rw[h]
theorem d0m{w:List Nat}{lo hi i:Int}(h:nm w=.int i):u8 w lo hi=if lo≤i∧i≤hi then .int i else .non:=by unfold u8;rw[h]
noncomputable abbrev y0z:List Str:=["_law_deck_here","_law_words_here"]
theorem sc_law_laid:FnScope ["_law_deck_here","_law_words_here","_law_line","_law_word"] y0z (defScope w0n):=⟨rfl,rfl,rfl,by decide +kernel,rfl,by decide +kernel,by decide +kernel⟩
noncomputable abbrev v0x(P:Program)(w:World)(K:PySem.W.Frag)(mg:Str→Option Value)(base:Heap)(cs:Cs):Prop:=Fun2 P w K mg base "_law_laid" 5 y0z m0u
theorem m0q{f:Addr}{fd:FuncData}(Df:DefAt K mg "_law_laid" w0n y0z f fd)(T:Txt K mg cs)(G_law_take:v7 P w K mg base cs):v0x P w K mg base cs:=by
 have nd:=sc_law_laid.nd;refine def2 Df sc_law_laid (fun ds δ q x h=>?_) (fun cdv A outer s H E Y hr=>⟨_,(l0 (b4 2 nd (n4 w0w h0s j3 (j0 G_law_take (hr.mono (by decide)) o0 (z0 (e2_v 0) (z0 v0 u0)))))
  (l0 (l0p PassesOwn.leaving rfl (x0o (e2_v 1)) (n5 (i:=3) nd rfl (by first |exact Or.inl rfl |exact Or.inr rfl)) (n0y (i:=3)) (g0 (b4 2 nd (n4 w5 z0x (n4 w5 z0x (e2_v 2) (e2_v 3)) (n4 w0w h0s j3 (n4 a5 l7 v0 (j0 G_law_take (hr.mono (by decide)) o0 (z0 (e2_v 0) (z0 v0 u0)))))))))
  (l0 (m5 (u4 o0i d_eq (j0 G_law_take (hr.mono (by decide)) o0 (z0 (e2_v 0) (z0 v0 u0))) v0 (o4 _)) (g0 (b4 2 nd (h0r PySem.F.slot_str_rstrip PySem.F.type_str_rstrip h0u e0e (e2_v 2) (z0 j3 u0)))) v4)
  (g0 (y4 (e2_v 2)))))),fun ds δ q x h=>?_⟩)
 ·unfold m0u at h;obtain ⟨p,ns,n,ws,rfl,hD,hn0,hw,hq⟩:=h;rfl
 ·unfold m0u at h;obtain ⟨p,ns,n,ws,rfl,hD,hn0,hw,hq⟩:=h;rw[show x4 ["_law_deck_here","_law_words_here","_law_line","_law_word"] _=[.val _,.val _,.no,.no]from rfl];walk_at "dn";refine ⟨p,ns,_,3,rfl,hD,by omega,by decide,by decide,fun a0 δ1 a1 a2 hD=>?_⟩;dsimp only;rw[w0f,g0x a1];refine ⟨a1,by omega,by decide,?_⟩;have hn:=hw.n;refine forL_G txD ws (fun i ρ δ'=>∃l c3,ρ=[.val (.ref p),.val (.lst (ws.map txD)),.val (.str (tx l)),c3]∧DkAt p ns (n+1+i) δ'∧l.length≤2+19*i∧10∉l∧∀b,i3 (l++b)=(ws.take i).flatMap i3++i3 b) ⟨_,_,rfl,hD,by rw[List.length_replicate];omega,q0w (by decide),fun b=>by rw[v0y];rfl⟩ ?_ ?_
  ·rintro i w ρ δ' rest hi ⟨l,c3,rfl,hD,hll,h10,hwd⟩ hrest;have hlt:=(List.getElem?_eq_some_iff.mp hi).1;have w2:=hw.s w (List.mem_of_getElem? hi);have w4:=hw.f w (List.mem_of_getElem? hi);unfold n0v txD;walk_at "dn";refine ⟨by rw[p4,p4];omega,p,ns,_,3,rfl,hD,by omega,by decide,by decide,fun b0 δ2 b1 b2 hD=>?_⟩;dsimp only;rw[g0x (by omega),u6,p4,p4];rw[u6];refine ⟨by omega,by omega,by decide,?_,?_⟩
   ·rw[p4,List.length_replicate,List.length_append];omega
   ·refine hrest _ _ ⟨_,_,rfl,hD,?_,?_,fun b=>?_⟩
    ·rw[List.length_append,List.length_append,List.length_replicate];omega
    ·intro z;rcases List.mem_append.mp z with z |z
     ·rcases List.mem_append.mp z with z |z
      ·exact h10 z
      ·exact w4 z
     ·exact q0w (by decide) z
    ·obtain ⟨k,ek⟩:∃k,(1+b0).toNat=k+1:=⟨b0.toNat,by omega⟩;rw[ek,List.append_assoc,List.append_assoc,hwd,List.replicate_succ,List.cons_append,w0h,v0y,List.take_succ,hi,Option.toList_some,List.flatMap_append,List.append_assoc];simp
  ·rintro ρ δ' ⟨l,c3,rfl,hD,hll,h10,hwd⟩;rw[List.take_length]at hwd;have hw0:=hwd [];rw[List.append_nil,i8,List.append_nil]at hw0;walk_at "dn";refine ⟨p,ns,_,2,rfl,hD,by omega,by decide,by decide,fun b0 δ2 b1 b2 hD=>?_⟩;dsimp only;split
   ·obtain ⟨l',k,el,ek⟩:=g0w (l:=l);rw[el,p4];refine ⟨by omega,hq l' _ ?_ (fun z=>h10 (by rw[ek];exact List.mem_append_left _ z)) (by rw[ek,List.length_append]at hll;omega) (hD.mono (by omega))⟩;rw[ek,w0g]at hw0;exact hw0
   ·exact hq l _ hw0 h10 (by omega) (hD.mono (by omega))
noncomputable abbrev j9:List Str:=["_law_word","_law_low","_law_high"]
theorem sc_law_whole:FnScope ["_law_word","_law_low","_law_high"] j9 (defScope y0e):=⟨rfl,rfl,rfl,by decide +kernel,rfl,by decide +kernel,by decide +kernel⟩
noncomputable abbrev x0y(P:Program)(w:World)(K:PySem.W.Frag)(mg:Str→Option Value)(base:Heap)(cs:Cs):Prop:=Fun2 P w K mg base "_law_whole" 2 j9 q0v
theorem o0o{f:Addr}{fd:FuncData}(Df:DefAt K mg "_law_whole" y0e j9 f fd)(T:Txt K mg cs):x0y P w K mg base cs:=by
 have nd:=sc_law_whole.nd;refine def2 Df sc_law_whole (fun ds δ q x h=>?_) (fun cdv A outer s H E Y hr=>⟨_,(l0 (m5 (PW2.pt (x0s (u4 o0i d_eq (e2_v 0) j3 (o4 _)) (x0s (u4 j0o d_gt (e2_b w8 l0h T.n_len u0g (z0 (e2_v 0) u0)) v0 (o4 _)) (c9 (u4 (c0n hr.units0) d_neL (z0n rfl (CompOkM.of ["_law_sign"] [] rfl) (i2_str (e2_v 0)) (fun nd _ _ _ _ _=>(n5 (i:=0) nd rfl (by first |exact Or.inl rfl |exact Or.inr rfl))) u7 (fun _ _ _ _ _ _=>(n0t (u4 q0h e0b (e2_v 0) j3 rfl))) (fun _ _ _ _ _ _=>(e2_v 0))) (y0r u0) (o4 _)))))) (g0 (y4 g9)) v4)
  (l0 (m5 (PW2.pt (x0s (PW2.pt (c0w (u4 j0o d_gt (e2_b w8 l0h T.n_len u0g (z0 (e2_v 0) u0)) v0 (o4 _)) (i0t (u4 o0i d_eq (i0v j0h d_ixS (e2_v 0) v0) j3 (o4 _))))) (x0s (u4 op_lt d_lt (x0r t0z h0l T.n_int s0k (z0 (e2_v 0) u0)) (e2_v 1) (o4 _)) (c9 (u4 j0o d_gt (x0r t0z h0l T.n_int s0k (z0 (e2_v 0) u0)) (e2_v 2) (o4 _)))))) (g0 (y4 g9)) v4)
  (g0 (y4 (x0r t0z h0l T.n_int s0k (z0 (e2_v 0) u0)))))),fun ds δ q x h=>?_⟩)
 ·unfold q0v at h;obtain ⟨w,lo,hi,rfl,hl,h0,h9,hq⟩:=h;rfl
 ·unfold q0v at h;obtain ⟨w,lo,hi,rfl,hl,h0,h9,hq⟩:=h;rw[show x4 ["_law_word","_law_low","_law_high"] _=[.val _,.val _,.val _]from rfl];unfold txD;walk_at "dn";rw[n0g,c_digs,l0b,p4,d0n];by_cases hw0:w=[]
  ·rw[if_pos (by rw[hw0])];rw[u0q (m0r (.inl hw0))]at hq;exact hq
  ·rw[if_neg (fun z=>hw0 (o0v z))];refine ⟨by omega,?_⟩;by_cases hw2:2<w.length
   ·rw[if_pos (by omega)];rw[u0q (m0r (.inr (.inl hw2)))]at hq;exact hq
   ·rw[if_neg (by omega)];refine w0x (fun c=>txD [c]) (fun c=>txD [c]) (fun c=>!decide (c∈digs)) w (by show 0+_≤_;omega) (fun c hc Q k1 k2=>⟨_,rfl,?_⟩) ?_
    ·simp only[capt,x0n,List.map_cons,List.map_nil,List.cons_append,List.nil_append];unfold txD;walk_at "dn";rw[n0a];cases e:decide (c∈digs)with
     |true=>exact k2 (by show (!decide (c∈digs))=false;rw[e];rfl)
     |false=>exact k1 (by show (!decide (c∈digs))=true;rw[e];rfl)
    ·rw[List.nil_append];refine ⟨by rw[List.all_eq_true.mpr (fun x hx=>by obtain ⟨c,_,rfl⟩:=List.mem_map.mp hx;rfl)];rfl,?_⟩;have tail:∀n,PySem.intText? (tx w)=some n→nm w=.int n→(match PySem.intText? (tx w)with
      |some n=>w.length≤640∧if n<lo then q D.non δ else match PySem.intText? (tx w)with
       |some n=>w.length≤640∧if hi<n then q D.non δ else match PySem.intText? (tx w)with
        |some n=>w.length≤640∧q (D.int n) δ
        |none=>False
       |none=>False
      |none=>False):=fun n e1 e2=>by
      rw[d0m e2]at hq;rw[e1];dsimp only;refine ⟨by omega,?_⟩;by_cases z1:n<lo
      ·rw[if_pos z1];rw[if_neg (by omega)]at hq;exact hq
      ·rw[if_neg z1];refine ⟨by omega,?_⟩;by_cases z2:hi<n
       ·rw[if_pos z2];rw[if_neg (by omega)]at hq;exact hq
       ·rw[if_neg z2];rw[if_pos ⟨by omega,by omega⟩]at hq;exact ⟨by omega,hq⟩
     cases ef:List.filter (fun c=>!decide (c∈digs)) w with
     |cons c0 r0=>
      have hc:c0∈List.filter (fun c=>!decide (c∈digs)) w:=by rw[ef];exact List.mem_cons_self ..
      rw[List.mem_filter]at hc;rw[u0q (m0r (.inr (.inr (.inl ⟨c0,hc.1,by simpa using hc.2⟩))))]at hq;exact hq
     |nil=>
      have hall:∀c∈w,c∈digs:=fun c hc=>by
       have:=List.filter_eq_nil_iff.mp ef c hc;simpa using this
      show w.length≤100000∧_;refine ⟨by omega,?_⟩
      match w,hw0,hw2,hall,tail,hq with
      | [],h,_,_,_,_=>exact absurd rfl h
      | [c],_,_,hall,tail,hq=>
       rw[if_neg (by show ¬(1:Int)<((1:Nat):Int);decide)];have hn:=z1f (hall c (List.mem_cons_self ..));exact tail _ hn.1 hn.2
      | [c,d],_,_,hall,tail,hq=>
       rw[if_pos (by show (1:Int)<((2:Nat):Int);decide)];refine ⟨by show 2≤_;decide,?_⟩;show if tx [c]=tx [48]then _ else _
       by_cases hc:c=48
       ·rw[if_pos (by rw[hc])];subst hc;rw[u0q (m0r (.inr (.inr (.inr ⟨d,rfl⟩))))]at hq;exact hq
       ·rw[if_neg (fun z=>hc (List.cons.inj (o0v z)).1)];have hn:=z1e (hall c (List.mem_cons_self ..)) (hall d (List.mem_cons_of_mem _ (List.mem_cons_self ..))) hc;exact tail _ hn.1 hn.2
      |_::_::_::_,_,h,_,_,_=>exact absurd (by simp) h
theorem x8(w:List Nat)(lo hi:Int):(u8 w lo hi=.non∧a4 (nm w) lo hi=false)∨∃i:Int,u8 w lo hi=.int i∧nm w=.int i∧a4 (nm w) lo hi=true∧lo≤i∧i≤hi:=by
 unfold u8;rcases q0y w with h |⟨i,i0,i1,_,h⟩
 ·rw[h];exact .inl ⟨rfl,rfl⟩
 ·rw[h];dsimp only;by_cases z:lo≤i∧i≤hi
  ·rw[if_pos z];exact .inr ⟨i,rfl,rfl,w9 z.1 z.2,z.1,z.2⟩
  ·rw[if_neg z];refine .inl ⟨rfl,?_⟩;show (decide (lo≤i)&&decide (i≤hi))=false;by_cases z1:lo≤i
   ·rw[decide_eq_false (p:=i≤hi) (fun y=>z ⟨z1,y⟩),Bool.and_false]
   ·rw[decide_eq_false z1,Bool.false_and]
theorem s0d:∀r:List (List Nat),(inD .non (r.map fun w=>u8 w 0 9)=true∧(r.map nm).all (a4 · 0 9)=false)∨(inD .non (r.map fun w=>u8 w 0 9)=false∧(r.map nm).all (a4 · 0 9)=true∧(r.map fun w=>u8 w 0 9)=r.map nm)
 | []=>.inr ⟨rfl,rfl,rfl⟩
 |w::r=>by
  unfold inD;rw[List.map_cons,List.map_cons,List.any_cons,List.all_cons];rcases x8 w 0 9 with ⟨e1,e2⟩|⟨i,e1,e2,e3,_,_⟩
  ·rw[e1,e2];exact .inl ⟨rfl,rfl⟩
  ·rcases s0d r with ⟨h1,h2⟩|⟨h1,h2,h3⟩
   ·refine .inl ⟨?_,by rw[h2,Bool.and_false]⟩;unfold inD at h1;rw[h1,Bool.or_true]
   ·refine .inr ⟨?_,by rw[e3,h2];rfl,by rw[h3,e1,e2]⟩;unfold inD at h1;rw[h1,e1];rfl
theorem x0b{w:List D}:x0h (.lst w) 1 6 0 9=(decide ((1:Int)≤(w.length:Int))&&decide ((w.length:Int)≤6)&&w.all (a4 · 0 9)):=rfl
theorem y0y{k0 a k1 b k2 c k3:List Nat}{r:List (List Nat)}(h:r.length=0∨6<r.length):w6 (k0::a::k1::b::k2::c::k3::r)=none:=by
 rw[z0b];split
 ·refine y0p ?_;unfold okB;have:x0h (.lst (r.map nm)) 1 6 0 9=false:=by
   rw[x0b,List.length_map];rcases h with h |h
   ·rw[decide_eq_false (by omega)];rfl
   ·rw[decide_eq_false (p:=(r.length:Int)≤6) (by omega),Bool.and_false,Bool.false_and]
  rw[this,Bool.and_false,Bool.false_and]
 ·rfl
theorem s0c{w:List Nat}{lo hi:Int}:y7 (u8 w lo hi)=true:=by
 rcases x8 w lo hi with ⟨e,_⟩|⟨i,e,_⟩<;>rw[e]<;>rfl
noncomputable abbrev e7:List Str:=["_law_text"]
theorem sc_law_reading:FnScope ["_law_text","_law_words_here","_law_full","_law_found","_law_wear"] e7 (defScope z9):=⟨rfl,rfl,rfl,by decide +kernel,rfl,by decide +kernel,by decide +kernel⟩
noncomputable abbrev i9(P:Program)(w:World)(K:PySem.W.Frag)(mg:Str→Option Value)(base:Heap)(cs:Cs):Prop:=Fun2 P w K mg base "_law_reading" 3 e7 m0t
theorem s0w{f:Addr}{fd:FuncData}(Df:DefAt K mg "_law_reading" z9 e7 f fd)(T:Txt K mg cs)(G_law_whole:x0y P w K mg base cs):i9 P w K mg base cs:=by
 have nd:=sc_law_reading.nd;refine def2 Df sc_law_reading (fun ds δ q x h=>?_) (fun cdv A outer s H E Y hr=>⟨_,(l0 (u0w (i:=1) rfl (CompOkM.of ["_law_word"] [] rfl) (x0o (h0r PySem.F.slot_str_split PySem.F.type_str_split l0k h0p (e2_v 0) (z0 j3 u0))) (fun nd _ _ _ _ _=>(n5 (i:=0) nd rfl (by first |exact Or.inl rfl |exact Or.inr rfl))) u7 (fun _ _ _ _ _ _=>(n0t (u4 (h0z hr.units0) a0d (e2_v 0) j3 (o4 _)))) (fun _ _ _ _ _ _=>(e2_v 0)) nd)
  (l0 (m5 (PW2.pt (x0s (u4 op_lt d_lt (a9 1 T.n_len) v0 (o4 _)) (c9 (u4 j0o d_gt (a9 1 T.n_len) v0 (o4 _))))) (g0 (y4 g9)) v4)
  (l0 (m5 (u4 (h0z hr.units0) a0d (q0a (z0 (j4 1 v0) (z0 (j4 1 v0) (z0 (j4 1 v0) (z0 (j4 1 v0) u0))))) (q0a (z0 j3 (z0 j3 (z0 j3 (z0 j3 u0))))) (o4 _)) (g0 (y4 g9)) v4)
  (l0 (b4 2 nd (j0 G_law_whole (hr.mono (by decide)) o0 (z0 (j4 1 v0) (z0 v0 (z0 v0 u0)))))
  (l0 (m5 (u4 d0g d_isN (e2_v 2) g9 (o4 _)) (g0 (y4 g9)) v4)
  (l0 (b4 3 nd (y0r (z0 (e2_v 2) (z0 (j0 G_law_whole (hr.mono (by decide)) o0 (z0 (j4 1 v0) (z0 v0 (z0 (e2_v 2) u0)))) (z0 (j0 G_law_whole (hr.mono (by decide)) o0 (z0 (j4 1 v0) (z0 v0 (z0 v0 u0)))) u0)))))
  (l0 (u0w (i:=4) rfl (CompOkM.of ["_law_word"] [] rfl) (x0o (x0l (e2_v 1) (x5 v0) n6)) (fun nd _ _ _ _ _=>(n5 (i:=0) nd rfl (by first |exact Or.inl rfl |exact Or.inr rfl))) u7 (fun _ _ _ _ _ _=>y0k) (fun _ _ _ _ _ _=>(j0 G_law_whole (hr.mono (by decide)) p0s (z0 (e2_v 0) (z0 v0 (z0 v0 u0))))) nd)
  (l0 (m5 (PW2.pt (x0s (u4 q0i d_in g9 (e2_v 3) rfl) (c9 (u4 q0i d_in g9 (e2_v 4) rfl)))) (g0 (y4 g9)) v4)
  (g0 (y4 (q0a (z0 (e2_v 2) (z0 (j4 3 v0) (z0 (x0r f8 n0z T.n_tuple x0t (z0 (e2_v 4) u0)) (z0 (j4 3 v0) u0))))))))))))))),fun ds δ q x h=>?_⟩)
 ·unfold m0t at h;obtain ⟨l,rfl,hl,hq⟩:=h;rfl
 ·unfold m0t at h;obtain ⟨l,rfl,hl,hq⟩:=h;rw[show x4 ["_law_text","_law_words_here","_law_full","_law_found","_law_wear"] _=[.val _,.no,.no,.no,.no]from rfl];unfold txD;walk_at "dn";rw[w0f,n0g,l0e,List.map_map,p4,p4];have hsl:=z0d (c:=32) l;refine ⟨rfl,by omega,?_⟩;refine v0q (fun d=>match d with | .str z=>!decide (z=tx [])|_=>false) id (by rw[List.length_map];omega) (fun d hd Q k1 k2=>?_) ?_
  ·obtain ⟨w,hw,rfl⟩:=List.mem_map.mp hd;refine ⟨_,rfl,?_⟩;simp only[capt,x0n,List.map_cons,List.map_nil,List.getElem?_cons_zero,List.getElem?_cons_succ,List.cons_append,List.nil_append,Function.comp];walk_at "dn";cases e:decide (tx w=tx [])with
   |true=>exact k2 (by show (!decide (tx w=tx []))=false;rw[e];rfl)
   |false=>exact k1 (by show (!decide (tx w=tx []))=true;rw[e];rfl)
  ·rw[List.map_id];have e:List.filter (fun d=>match d with | .str z=>!decide (z=tx [])|_=>false) (List.map (D.str∘tx) (i4 32 l))=(i3 l).map txD:=by
    rw[List.filter_map];unfold i3;congr 1;refine List.filter_congr fun w _=>?_
    show (!decide (tx w=tx []))=decide (w≠[]);rw[z1q];exact (decide_not ..).symm
   rw[e];have hwl:∀w∈i3 l,w.length≤900:=fun w hw=>by
    have:=m0y hw;omega
   generalize i3 l=ws at hq hwl;rw[List.length_map];rcases g0n ws with hs |⟨k0,a,k1,b,k2,c,k3,r,rfl⟩
   ·rw[if_pos (by omega)];rw[x0d hs]at hq;exact hq
   ·have hlen:(k0::a::k1::b::k2::c::k3::r).length=7+r.length:=by simp only[List.length_cons];omega
    rw[hlen];by_cases hr0:r.length=0
    ·rw[if_pos (by omega)];rw[y0y (.inl hr0)]at hq;exact hq
    ·rw[if_neg (by omega)];by_cases hr6:6<r.length
     ·rw[if_pos (by omega)];rw[y0y (.inr hr6)]at hq;exact hq
     ·rw[if_neg (by omega)];simp only[List.map_cons,List.getElem?_cons_zero,List.getElem?_cons_succ];rw[eq4];refine ⟨rfl,?_⟩;rw[z0b]at hq;by_cases hk:k0=fuT∧k1=maT∧k2=prT∧k3=weT
      ·rw[if_pos hk]at hq;rw[decide_eq_true hk];simp only[Bool.not_true,Bool.false_eq_true,if_false];have ha:=hwl a (by simp);have hb:=hwl b (by simp);have hc:=hwl c (by simp);refine ⟨a,1,9,rfl,ha,by decide,by decide,?_⟩;rcases x8 a 1 9 with ⟨e1,e2⟩|⟨i,e1,e2,e3,i1,i2⟩
       ·rw[e1];rw[y0p (by unfold okB;rw[e2];rfl)]at hq;exact hq
       ·rw[e1];simp only[Bool.false_eq_true,if_false];refine ⟨b,0,i,rfl,hb,by decide,by omega,?_⟩;refine ⟨c,0,99,rfl,hc,by decide,by decide,?_⟩;rw[show (7:Int)=((7:Nat):Int)from rfl,z1n];simp only[List.drop_succ_cons,List.drop_zero];refine z0m txD (fun w=>u8 w 0 9) r (by omega) (fun w hw Q hQ=>?_) ?_
        ·simp only[capt,x0n,List.map_cons,List.map_nil];walk_at "dn";exact ⟨w,0,9,rfl,hwl w (by simp[hw]),by decide,by decide,hQ⟩
        ·refine ⟨by simp only[List.all_cons,List.all_nil,s0c];rfl,?_⟩;have hfl:(y7 D.non&&(List.map (fun w=>u8 w 0 9) r).all y7)=true:=by
          rw[List.all_eq_true.mpr (fun x hx=>by obtain ⟨w,_,rfl⟩:=List.mem_map.mp hx;exact s0c)];rfl
         rcases x8 b 0 i with ⟨b1,b2⟩|⟨j,b1,b2,b3,_⟩
         ·rw[b1];rw[y0p (by unfold okB;rw[e2];dsimp only;rw[b2,Bool.and_false];rfl)]at hq;exact hq
         ·rcases x8 c 0 99 with ⟨c1,c2⟩|⟨k,c1,c2,c3,_⟩
          ·rw[b1,c1];rw[y0p (by unfold okB;rw[c2,Bool.and_false])]at hq;exact hq
          ·rw[b1,c1];rw[if_neg (by show ¬inD .non [.int i,.int j,.int k]=true;simp[inD,toV,eqV])];refine ⟨hfl,?_⟩;rcases s0d r with ⟨w1,w2⟩|⟨w1,w2,w3⟩
           ·rw[if_pos w1];rw[y0p (by unfold okB;rw[x0b,w2,Bool.and_false,Bool.and_false,Bool.false_and])]at hq;exact hq
           ·rw[if_neg (by rw[w1];exact Bool.false_ne_true),w3];have hy:okB (nm a) (nm b) (r.map nm) (nm c)=true:=by
             unfold okB;rw[e3,c3,x0b,w2,List.length_map,decide_eq_true (p:=(1:Int)≤(r.length:Int)) (by omega),decide_eq_true (p:=(r.length:Int)≤6) (by omega),e2];dsimp only;rw[b3];rfl
            rw[m0z hy,e2,b2,c2]at hq;have hw:r.map nm=((r.map nm).map intD).map D.int:=w0b w2;have hq:q (f7 i j ((r.map nm).map intD) k) δ:=hq;unfold f7 at hq;rw[←hw]at hq;exact hq
      ·rw[if_neg hk]at hq;rw[decide_eq_false hk];exact hq
theorem c0f:∀{as bs:List (List Nat)},eqDs (as.map txD) (bs.map txD)=decide (as=bs)
 | [],[]=>rfl
 | [],_::_=>rfl
 |_::_,[]=>rfl
 |a::as,b::bs=>by
  rw[List.map_cons,List.map_cons];unfold eqDs;rw[o0r,c0f];by_cases h1:a=b<;>by_cases h2:as=bs<;>simp[h1,h2]
theorem read_pok{l:List (List Nat)}{f m:Int}{ws:List Int}{p:Int}(h:w6 l=some (f,m,ws,p)):True:=trivial
noncomputable abbrev t8:List Str:=["_law_text"]
theorem sc_law_judged:FnScope ["_law_text","_law_due"] t8 (defScope z0t):=⟨rfl,rfl,rfl,by decide +kernel,rfl,by decide +kernel,by decide +kernel⟩
noncomputable abbrev z0r(P:Program)(w:World)(K:PySem.W.Frag)(mg:Str→Option Value)(base:Heap)(cs:Cs):Prop:=Fun2 P w K mg base "_law_judged" 9 t8 t0e
theorem q0u{f:Addr}{fd:FuncData}(Df:DefAt K mg "_law_judged" z0t t8 f fd)(T:Txt K mg cs)(G_law_reading:i9 P w K mg base cs)(G_law_number:l6 P w K mg base cs)(G_law_refused_ok:o6 P w K mg base cs)(G_law_is:u0r P w K mg base cs)(G_read_part_ok:o7 P w K mg base cs):z0r P w K mg base cs:=by
 have nd:=sc_law_judged.nd;refine def2 Df sc_law_judged (fun ds δ q x h=>?_) (fun cdv A outer s H E Y hr=>⟨_,(l0 (b4 1 nd (j0 G_law_reading (hr.mono (by decide)) o0 (z0 (e2_v 0) u0)))
  (l0 (m5 (u4 q0q d_inS j3 (e2_v 0) rfl) (g0 (y4 (j0 G_law_number (hr.mono (by decide)) o0 (z0 (j0 G_law_refused_ok (hr.mono (by decide)) o0 (z0 (e2_v 0) u0)) (z0 v0 u0))))) v4)
  (l0 (m5 (u4 d0g d_isN (e2_v 1) g9 (o4 _)) (g0 (y4 (j0 G_law_number (hr.mono (by decide)) o0 (z0 (j0 G_law_refused_ok (hr.mono (by decide)) o0 (z0 (e2_v 0) u0)) (z0 v0 u0))))) v4)
  (g0 (y4 (s0j (l0z (z0y hr.units0) u0c (j0 G_law_refused_ok (hr.mono (by decide)) o0 (z0 (e2_v 0) u0)) (i0s v0) (o4 _)) (p0z (j0 G_law_is (hr.mono (by decide)) o0 (z0 (j0 G_read_part_ok (hr.mono (by decide)) o0 (z0 (e2_v 0) u0)) (z0 (e2_v 1) u0)))))))))),fun ds δ q x h=>?_⟩)
 ·unfold t0e at h;obtain ⟨l,rfl,hl,hq⟩:=h;rfl
 ·unfold t0e at h;obtain ⟨l,rfl,hl,hq⟩:=h;rw[show x4 ["_law_text","_law_due"] _=[.val _,.no]from rfl];have e0:txD l=.str (tx l):=rfl;walk_at "dn";refine ⟨l,rfl,hl,?_⟩;rw[e0];dsimp only;rw[g0v,n0a];have num:∀k:Int,j5 [.int k,.int k] δ (fun d δ2=>q d δ2) fun C fs δ2=>x C fs δ2:=fun k=>by
   simp only[j5,f6,true_and,numD,decide_true];exact hq
  by_cases h10:10∈l
  ·rw[decide_eq_true h10,if_pos rfl];refine ⟨_,rfl,.inl ⟨l,rfl,hl,?_⟩⟩;have:r9 l=.inl 0:=by unfold r9;rw[if_pos h10]
   rw[this];exact num 0
  ·rw[decide_eq_false h10,if_neg Bool.false_ne_true];cases er:w6 (i3 l)with
   |none=>
    have:r9 l=.inl 1:=by unfold r9;rw[if_neg h10,er]
    simp only[readD,if_true];refine ⟨_,rfl,.inl ⟨l,rfl,hl,?_⟩⟩;rw[this];exact num 1
   |some z=>
    obtain ⟨f1,m1,w1,p1⟩:=z;have:r9 l=.inr (f1,m1,w1,p1):=by unfold r9;rw[if_neg h10,er]
    rw[if_neg (by exact Bool.false_ne_true)];refine ⟨_,rfl,.inl ⟨l,rfl,hl,?_⟩⟩;rw[this];dsimp only[refI];rw[if_pos (by decide)];refine ⟨l,f1,m1,w1,p1,rfl,hl,this,?_⟩;refine ⟨f1,m1,w1,p1,f1,m1,w1,p1,rfl,?_⟩;rw[decide_eq_true ⟨rfl,rfl,rfl,rfl⟩];exact hq
noncomputable abbrev y0x:List Str:=["_law_spec_here","_law_words_here"]
theorem sc_law_same:FnScope ["_law_spec_here","_law_words_here"] y0x (defScope w0l):=⟨rfl,rfl,rfl,by decide +kernel,rfl,by decide +kernel,by decide +kernel⟩
noncomputable abbrev v0w(P:Program)(w:World)(K:PySem.W.Frag)(mg:Str→Option Value)(base:Heap)(cs:Cs):Prop:=Fun2 P w K mg base "_law_same" 3 y0x m0s
theorem m0p{f:Addr}{fd:FuncData}(Df:DefAt K mg "_law_same" w0l y0x f fd)(T:Txt K mg cs)(G_law_words:m9 P w K mg base cs):v0w P w K mg base cs:=by
 have nd:=sc_law_same.nd;refine def2 Df sc_law_same (fun ds δ q x h=>?_) (fun cdv A outer s H E Y hr=>⟨_,(g0 (y4 (l0z (op_eqL hr.units0) d_eqL (e2_v 1) (j0 G_law_words (hr.mono (by decide)) o0 (z0 (e2_v 0) u0)) (o4 _)))),fun ds δ q x h=>?_⟩)
 ·unfold m0s at h;obtain ⟨f',m,ws,p,bs,rfl,hp,hq⟩:=h;rfl
 ·unfold m0s at h;obtain ⟨f',m,ws,p,bs,rfl,hp,hq⟩:=h;rw[show x4 ["_law_spec_here","_law_words_here"] _=[.val _,.val _]from rfl];walk_at "dn";refine ⟨f',m,ws,p,rfl,hp,?_⟩;dsimp only;rw[c0f];exact ⟨by rw[m0x (fun x h=>h),m0x (fun x h=>h)];rfl,hq⟩
theorem l0a{ws:List (List Nat)}{z:Int×Int×List Int×Int}(h:w6 ws=some z):∃a b c r,ws=fuT::a::maT::b::prT::c::weT::r∧okB (nm a) (nm b) (r.map nm) (nm c)=true:=by
 rcases g0n ws with hs |⟨k0,a,k1,b,k2,c,k3,r,rfl⟩
 ·rw[x0d hs]at h;cases h
 ·rw[z0b]at h;split at h
  ·rename_i hk;obtain ⟨rfl,rfl,rfl,rfl⟩:=hk;cases e:okB (nm a) (nm b) (r.map nm) (nm c)with
   |true=>exact ⟨a,b,c,r,rfl,e⟩
   |false=>rw[y0p e]at h;cases h
  ·cases h
theorem o0n{a b c:D}{w:List D}(h:okB a b w c=true):(∃i j k:Int,a=.int i∧b=.int j∧c=.int k∧1≤i∧i≤9∧j≤i)∧1≤w.length∧w.length≤6∧∀x∈w,∃n:Int,x=.int n∧n≤9:=by
 unfold okB at h;rw[Bool.and_eq_true,Bool.and_eq_true,Bool.and_eq_true,x0b,Bool.and_eq_true,Bool.and_eq_true,decide_eq_true_eq,decide_eq_true_eq,List.all_eq_true]at h;obtain ⟨⟨⟨h1,h2⟩,⟨h3,h4⟩,h5⟩,h6⟩:=h;obtain ⟨i,rfl,i1,i2⟩:=y6 h1;obtain ⟨j,rfl,j1,j2⟩:=y6 h2;obtain ⟨k,rfl,_⟩:=y6 h6;exact ⟨⟨i,j,k,rfl,rfl,rfl,i1,i2,j2⟩,by omega,by omega,fun x hx=>by obtain ⟨n,e,_,n2⟩:=y6 (h5 x hx);exact ⟨n,e,n2⟩⟩
theorem z0q{ws:List (List Nat)}{z:Int×Int×List Int×Int}(h:w6 ws=some z){i:Nat}{w:List Nat}(hw:ws[i]?=some w):(i=0∧w=fuT)∨(i=2∧w=maT)∨(i=4∧w=prT)∨(i=6∧w=weT)∨((i≠0∧i≠2∧i≠4∧i≠6)∧∃n:Int,nm w=.int n∧(i=1→1≤n∧n≤9)∧(7≤i→n≤9)):=by
 obtain ⟨a,b,c,r,rfl,hb⟩:=l0a h;obtain ⟨⟨x,y,k,ea,eb,ec,x1,x2,_⟩,_,_,hr⟩:=o0n hb
 match i,hw with
 | 0,hw=>cases hw;exact .inl ⟨rfl,rfl⟩
 | 1,hw=>cases hw;exact .inr (.inr (.inr (.inr ⟨by decide,x,ea,fun _=>⟨x1,x2⟩,fun z=>absurd z (by decide)⟩)))
 | 2,hw=>cases hw;exact .inr (.inl ⟨rfl,rfl⟩)
 | 3,hw=>cases hw;exact .inr (.inr (.inr (.inr ⟨by decide,y,eb,fun z=>absurd z (by decide),fun z=>absurd z (by decide)⟩)))
 | 4,hw=>cases hw;exact .inr (.inr (.inl ⟨rfl,rfl⟩))
 | 5,hw=>cases hw;exact .inr (.inr (.inr (.inr ⟨by decide,k,ec,fun z=>absurd z (by decide),fun z=>absurd z (by decide)⟩)))
 | 6,hw=>cases hw;exact .inr (.inr (.inr (.inl ⟨rfl,rfl⟩)))
 |i+7,hw=>
  have hw:r[i]?=some w:=hw;obtain ⟨n,e,n9⟩:=hr (nm w) (List.mem_map.mpr ⟨w,List.mem_of_getElem? hw,rfl⟩);exact .inr (.inr (.inr (.inr ⟨⟨by omega,by omega,by omega,by omega⟩,n,e,fun z=>by omega,fun _=>n9⟩)))
noncomputable def junk(w:List Nat):Bool:=(decide (2<w.length)||w.any (fun c=>!decide (c∈digs))||(decide (w.length=2)&&decide (w.head?=some 48)))&&!decide (w=fuT∨w=maT∨w=prT∨w=weT)
noncomputable def g0k(w:List Nat):Bool:=decide (2<w.length)||w.any (fun c=>!decide (c∈digs))||(decide (w.length=2)&&decide (w.head?=some 48))
theorem u0p{w:List Nat}(h:g0k w=true):nm w=.non:=by
 unfold g0k at h;rw[Bool.or_eq_true,Bool.or_eq_true,Bool.and_eq_true,decide_eq_true_eq,decide_eq_true_eq,decide_eq_true_eq,List.any_eq_true]at h;rcases h with (h |⟨c,hc,hd⟩)|⟨h1,h2⟩
 ·exact m0r (.inr (.inl h))
 ·exact m0r (.inr (.inr (.inl ⟨c,hc,by simpa using hd⟩)))
 ·match w,h1,h2 with
  | [c,d],_,h2=>cases h2;exact m0r (.inr (.inr (.inr ⟨d,rfl⟩)))
theorem g0j{ws:List (List Nat)}{w:List Nat}(h:w∈ws)(hj:g0k w=true)(hk:w≠fuT∧w≠maT∧w≠prT∧w≠weT):w6 ws=none:=by
 cases e:w6 ws with
 |none=>rfl
 |some z=>
  obtain ⟨i,hi⟩:=List.mem_iff_getElem?.mp h;rcases z0q e hi with ⟨_,z⟩|⟨_,z⟩|⟨_,z⟩|⟨_,z⟩|⟨_,n,en,_⟩
  ·exact absurd z hk.1
  ·exact absurd z hk.2.1
  ·exact absurd z hk.2.2.1
  ·exact absurd z hk.2.2.2
  ·rw[u0p hj]at en;cases en
theorem y0w:∀{ws:List (List Nat)},(∀w∈ws,32∉w∧w≠[])→ws.flatMap i3=ws
 | [],_=>rfl
 |w::ws,h=>by
  have h1:=h w (List.mem_cons_self ..);rw[List.flatMap_cons,k0h h1.1 h1.2,y0w fun y hy=>h y (List.mem_cons_of_mem _ hy)];rfl
theorem d4{f m p:Int}{ws:List Int}(h:POk f m ws p):∀w∈m3 f m ws p,32∉w∧w≠[]∧10∉w∧w.length≤5:=by
 have h1:=h.hf;have h2:=h.hm;have h3:=h.hp;have dg:∀n:Nat,n<100→32∉dig n∧dig n≠[]∧10∉dig n∧(dig n).length≤5:=fun n h=>⟨fun z=>by have:=(t0j h _ z).1;omega,h0a,fun z=>by have:=(t0j h _ z).1;omega,Nat.le_trans v9 (by decide)⟩
 intro w hw;unfold m3 at hw;simp only[List.mem_cons]at hw;rcases hw with rfl |rfl |rfl |rfl |rfl |rfl |rfl |hw
 ·decide
 ·exact dg _ (by omega)
 ·decide
 ·exact dg _ (by omega)
 ·decide
 ·exact dg _ (by omega)
 ·decide
 ·obtain ⟨n,hn,rfl⟩:=List.mem_map.mp hw;have:=h.hw n hn;exact dg _ (by omega)
noncomputable def m0o:Sp2:=fun ds δ q _=>∃p ns n f m ws pr,ds=[.ref p,f7 f m ws pr,.lst ((m3 f m ws pr).map txD)]∧DkAt p ns n δ∧n<2^20∧POk f m ws pr∧∀bs δ',WsOk bs→(bs≠m3 f m ws pr→w6 (bs.flatMap i3)=none)→DkAt p ns (n+4) δ'→q (.lst (bs.map txD)) δ'
noncomputable def x0x(j:Int):TS2:=fun E ρ δ=>∃p ns n f m ws pr cur k0,∃(at':Nat) (c6:Cell),ρ=[.val (.ref p),.val (f7 f m ws pr),.val (.lst ((m3 f m ws pr).map txD)),.own (cur.map txD),.val (.int k0),.val (.int (at':Int)),c6]∧DkAt p ns n δ∧POk f m ws pr∧at'<(m3 f m ws pr).length∧
 ((k0<j∧E.rt (.lst (cur.map txD)) δ)∨(j≤k0∧k0≤7∧n<2^21∧cur=m3 f m ws pr∧∀bs δ',WsOk bs→(bs≠m3 f m ws pr→w6 (bs.flatMap i3)=none)→DkAt p ns (n+2) δ'→E.rt (.lst (bs.map txD)) δ'))
noncomputable def b3:List Nat:=[49,48,32,42,42,32,51]
noncomputable def thingsT:List (List Nat):=[[120],[45,49],[48,49],[43,49],[49,46],[49,48,48],b3,fuT,weT,[49,48,48,48,48,48,48,48,48,48,48,48,48,48,48,48],[49,95,50]]
noncomputable def thingsW:List (List Nat):=[[49,48],[45,48],[97],[48,48],[48,95,49]]
theorem g0i:[D.str (Str.ofString "x"),D.str (Str.ofString "-1"),D.str (Str.ofString "01"),D.str (Str.ofString "+1"),D.str (Str.ofString "1."),D.str (Str.ofString "100"),D.str (Str.ofString "10 ** 3"),D.str (Str.ofString "full"),D.str (Str.ofString "wear"),D.str (Str.ofString "1000000000000000"),D.str (Str.ofString "1_2")]=thingsT.map txD:=by
 rw[show Str.ofString "x"=tx [120]by decide +kernel,show Str.ofString "-1"=tx [45,49]by decide +kernel,show Str.ofString "01"=tx [48,49]by decide +kernel,show Str.ofString "+1"=tx [43,49]by decide +kernel,show Str.ofString "1."=tx [49,46]by decide +kernel,show Str.ofString "100"=tx [49,48,48]by decide +kernel,show Str.ofString "10 ** 3"=tx b3 by decide +kernel,g0s,g0q,show Str.ofString "1000000000000000"=tx [49,48,48,48,48,48,48,48,48,48,48,48,48,48,48,48]by decide +kernel,show Str.ofString "1_2"=tx [49,95,50]by decide +kernel];rfl
theorem k0c:[D.str (Str.ofString "10"),D.str (Str.ofString "-0"),D.str (Str.ofString "a"),D.str (Str.ofString "00"),D.str (Str.ofString "0_1")]=thingsW.map txD:=by
 rw[show Str.ofString "10"=tx [49,48]by decide +kernel,show Str.ofString "-0"=tx [45,48]by decide +kernel,show Str.ofString "a"=tx [97]by decide +kernel,show Str.ofString "00"=tx [48,48]by decide +kernel,show Str.ofString "0_1"=tx [48,95,49]by decide +kernel];rfl
theorem v0v:∀t∈thingsT,t.length≤16∧10∉t∧(t=b3∨t=fuT∨t=weT∨(g0k t=true∧(t≠fuT∧t≠maT∧t≠prT∧t≠weT)∧32∉t∧t≠[])):=by decide
theorem t0d:∀t∈thingsW,t.length≤16∧10∉t∧32∉t∧t≠[]∧(t=[49,48]∨g0k t=true):=by decide
theorem nm_10:nm [49,48]=.int 10:=x0e (i:=10) (by decide) (by decide)
theorem nm_0:nm [48]=.int 0:=x0e (i:=0) (by decide) (by decide)
section
variable{f m pr:Int}{ws:List Int}
theorem t0c{bs:List (List Nat)}(h:POk f m ws pr)(hn:bs.length≤20)(hb:∀w∈bs,w∈m3 f m ws pr∨(w.length≤16∧10∉w)):WsOk bs:=by
 have hc:=d4 h;refine ⟨hn,fun w hw=>?_,fun w hw=>?_⟩
 ·rcases hb w hw with z |z
  ·have:=(hc w z).2.2.2;omega
  ·exact z.1
 ·rcases hb w hw with z |z
  ·exact (hc w z).2.2.1
  ·exact z.2
theorem k0z{t:List Nat}{i:Nat}(h:POk f m ws pr)(h1:t.length≤16)(h2:10∉t):WsOk ((m3 f m ws pr).set i t):=by
 have hl:=(x6 h).1;have h4:=h.hl.2;refine t0c h (by rw[List.length_set];omega) fun w hw=>?_
 rcases List.mem_or_eq_of_mem_set hw with hw |rfl
 ·exact .inl hw
 ·exact .inr ⟨h1,h2⟩
theorem y0v{t:List Nat}{i:Nat}(h:POk f m ws pr)(h1:32∉t)(h2:t≠[]):((m3 f m ws pr).set i t).flatMap i3=(m3 f m ws pr).set i t:=by
 have hc:=d4 h;refine y0w fun w hw=>?_
 rcases List.mem_or_eq_of_mem_set hw with hw |rfl
 ·exact ⟨(hc w hw).1,(hc w hw).2.1⟩
 ·exact ⟨h1,h2⟩
theorem u0o{bs:List (List Nat)}(h:POk f m ws pr)(hb:∀w∈bs,w∈m3 f m ws pr):bs.flatMap i3=bs:=by
 have hc:=d4 h;exact y0w fun w hw=>⟨(hc w (hb w hw)).1,(hc w (hb w hw)).2.1⟩
theorem c0e{t:List Nat}{i k:Nat}(hi:i<(m3 f m ws pr).length)(ht:(t=fuT∧k=0)∨(t=weT∧k=6))(hk:i≠k):w6 ((m3 f m ws pr).set i t)=none:=by
 cases e:w6 ((m3 f m ws pr).set i t)with
 |none=>rfl
 |some z=>
  have hg:((m3 f m ws pr).set i t)[i]?=some t:=List.getElem?_set_self hi;have nn:nm t=.non:=by
   rcases ht with ⟨rfl,_⟩|⟨rfl,_⟩
   ·exact u0p (by decide)
   ·exact u0p (by decide)
  rcases z0q e hg with ⟨a,b⟩|⟨a,b⟩|⟨a,b⟩|⟨a,b⟩|⟨_,n,en,_⟩
  ·rcases ht with ⟨rfl,rfl⟩|⟨rfl,rfl⟩
   ·exact absurd a hk
   ·exact absurd b (by decide)
  ·rcases ht with ⟨rfl,rfl⟩|⟨rfl,rfl⟩<;>exact absurd b (by decide)
  ·rcases ht with ⟨rfl,rfl⟩|⟨rfl,rfl⟩<;>exact absurd b (by decide)
  ·rcases ht with ⟨rfl,rfl⟩|⟨rfl,rfl⟩
   ·exact absurd b (by decide)
   ·exact absurd a hk
  ·rw[nn]at en;cases en
theorem bent0{t:List Nat}{i:Nat}(h:POk f m ws pr)(hi:i<(m3 f m ws pr).length)(ht:t∈thingsT)(hne:(m3 f m ws pr).set i t≠m3 f m ws pr):w6 (((m3 f m ws pr).set i t).flatMap i3)=none:=by
 have hmem:t∈(m3 f m ws pr).set i t:=List.mem_of_getElem? (List.getElem?_set_self hi);obtain ⟨_,_,hc⟩:=v0v t ht;rcases hc with rfl |rfl |rfl |⟨h1,h2,h3,h4⟩
 ·exact g0j (w:=[42,42]) (List.mem_flatMap.mpr ⟨b3,hmem,by decide⟩) (by decide) (by decide)
 ·rw[y0v h (by decide) (by decide)];exact c0e hi (.inl ⟨rfl,rfl⟩) (fun z=>hne (by rw[z];rfl))
 ·rw[y0v h (by decide) (by decide)];exact c0e hi (.inr ⟨rfl,rfl⟩) (fun z=>hne (by rw[z];rfl))
 ·rw[y0v h h3 h4];exact g0j hmem h1 h2
theorem bent4{t:List Nat}(ht:t=[48]∨t=[49,48]):w6 ((m3 f m ws pr).set 1 t)=none:=by
 cases e:w6 ((m3 f m ws pr).set 1 t)with
 |none=>rfl
 |some z=>
  rcases z0q e (i:=1) (w:=t) rfl with ⟨a,_⟩|⟨a,_⟩|⟨a,_⟩|⟨a,_⟩|⟨_,n,en,h1,_⟩
  ·cases a
  ·cases a
  ·cases a
  ·cases a
  ·have h1:=h1 rfl;rcases ht with rfl |rfl
   ·rw[nm_0]at en;cases en;omega
   ·rw[nm_10]at en;cases en;omega
theorem bent5(h:POk f m ws pr):w6 ((m3 f m ws pr).set 3 (dig (f+1).toNat))=none:=by
 have hf:=h.hf;cases e:w6 ((m3 f m ws pr).set 3 (dig (f+1).toNat))with
 |none=>rfl
 |some z=>
  obtain ⟨a,b,c,r,eq,hb⟩:=l0a e;obtain ⟨⟨i,j,k,ea,eb,_,_,_,hj⟩,_⟩:=o0n hb;have q1:(some (dig f.toNat):Option (List Nat))=some a:=congrArg (fun l:List (List Nat)=>l[1]?) eq;have q2:(some (dig (f+1).toNat):Option (List Nat))=some b:=congrArg (fun l:List (List Nat)=>l[3]?) eq;cases q1;cases q2;rw[x0e (by omega) (by omega)]at ea eb;cases ea;cases eb;omega
theorem bent6{t:List Nat}{j:Nat}(hj:7+j<(m3 f m ws pr).length)(ht:t∈thingsW):w6 ((m3 f m ws pr).set (7+j) t)=none:=by
 obtain ⟨_,_,_,_,hc⟩:=t0d t ht;cases e:w6 ((m3 f m ws pr).set (7+j) t)with
 |none=>rfl
 |some z=>
  rcases z0q e (i:=7+j) (w:=t) (List.getElem?_set_self hj)with ⟨a,_⟩|⟨a,_⟩|⟨a,_⟩|⟨a,_⟩|⟨_,n,en,_,h1⟩
  ·omega
  ·omega
  ·omega
  ·omega
  ·have h1:=h1 (by omega);rcases hc with rfl |hc
   ·rw[nm_10]at en;cases en;omega
   ·rw[u0p hc]at en;cases en
theorem bent1:w6 (((m3 f m ws pr).drop 2).take 2++(m3 f m ws pr).take 2++(m3 f m ws pr).drop 4)=none:=by
 cases e:w6 (((m3 f m ws pr).drop 2).take 2++(m3 f m ws pr).take 2++(m3 f m ws pr).drop 4)with
 |none=>rfl
 |some z=>
  rcases z0q e (i:=0) (w:=maT) rfl with ⟨_,a⟩|⟨a,_⟩|⟨a,_⟩|⟨a,_⟩|⟨a,_⟩
  ·exact absurd a (by decide)
  ·cases a
  ·cases a
  ·cases a
  ·exact absurd rfl a.1
end
theorem cut_ij{xs:List D}{i j:Nat}(h:j≤xs.length)(hij:i≤j):cutD xs (some (i:Int)) (some (j:Int))=(xs.drop i).take (j-i):=by
 unfold cutD;rw[HT.sIx_nat,HT.sIx_nat,Nat.min_eq_left h,Nat.min_eq_left (by omega)]
theorem z1d{xs:List D}{j:Nat}(h:j≤xs.length):cutD xs none (some (j:Int))=xs.take j:=by
 unfold cutD;rw[HT.sIx_none,HT.sIx_nat,Nat.min_eq_left h,List.drop_zero,Nat.sub_zero]
theorem k0y{ws:List (List Nat)}{i:Nat}{t:List Nat}:(ws.map txD).set i (txD t)=(ws.set i t).map txD:=(List.map_set).symm
theorem d0l{x:D}{k:Nat}:(List.replicate k [x]).flatten=List.replicate k x:=by
 induction k with
 |zero=>rfl
 |succ k ih=>rw[List.replicate_succ,List.flatten_cons,ih,List.replicate_succ];rfl
noncomputable abbrev y0u:List Str:=["_law_deck_here","_law_spec_here","_law_words_here"]
theorem sc_law_bent:FnScope ["_law_deck_here","_law_spec_here","_law_words_here","_law_found","_law_kind","_law_at","_law_things"] y0u (defScope w0m):=⟨rfl,rfl,rfl,by decide +kernel,rfl,by decide +kernel,by decide +kernel⟩
noncomputable abbrev v0u(P:Program)(w:World)(K:PySem.W.Frag)(mg:Str→Option Value)(base:Heap)(cs:Cs):Prop:=Fun2 P w K mg base "_law_bent" 5 y0u m0o
theorem m0n{f:Addr}{fd:FuncData}(Df:DefAt K mg "_law_bent" w0m y0u f fd)(T:Txt K mg cs)(G_law_take:v7 P w K mg base cs):v0u P w K mg base cs:=by
 have nd:=sc_law_bent.nd;refine def2 Df sc_law_bent (fun ds δ q x h=>?_) (fun cdv A outer s H E Y hr=>⟨_,(l0 (a0v 3 nd T.n_list (z0 (e2_v 2) u0))
  (l0 (b4 4 nd (j0 G_law_take (hr.mono (by decide)) o0 (z0 (e2_v 0) (z0 v0 u0))))
  (l0 (b4 5 nd (j0 G_law_take (hr.mono (by decide)) o0 (z0 (e2_v 0) (z0 (a9 2 T.n_len) u0))))
  (b8 (t':=x0x 0) (l0 (m5 (u4 (z0y hr.units0) u0c (e2_v 4) v0 (o4 _)) (l0 (b4 6 nd (y0r (z0 j3 (z0 j3 (z0 j3 (z0 j3 (z0 j3 (z0 j3 (z0 j3 (z0 j3 (z0 j3 (z0 j3 (z0 j3 u0)))))))))))))
  (g0 (w0z 3 (e2_v 5) (j4 6 (j0 G_law_take (hr.mono (by decide)) o0 (z0 (e2_v 0) (z0 v0 u0))))))) v4)
  (b8 (t':=x0x 1) (l0 (m5 (u4 (z0y hr.units0) u0c (e2_v 4) v0 (o4 _)) (g0 (p0l 3 nd (n4 a5 l7 (x0l (e2_v 2) (x5 v0) (x5 v0)) (x0l (e2_v 2) n6 (x5 v0))) (x0l (e2_v 2) (x5 v0) n6))) v4)
  (b8 (t':=x0x 2) (l0 (m5 (u4 (z0y hr.units0) u0c (e2_v 4) v0 (o4 _)) (g0 (l0g 3 nd (e2_v 2) n6 (x5 v0))) v4)
  (b8 (t':=x0x 3) (l0 (m5 (u4 (z0y hr.units0) u0c (e2_v 4) v0 (o4 _)) (g0 (p0l 3 nd (e2_v 2) (n4 op_rep d_rep (y0r (z0 j3 u0)) (n4 op_sub d_sub v0 (e2_b f9 d_len T.n_len u0g (z0 (j4 1 v0) u0)))))) v4)
  (b8 (t':=x0x 4) (l0 (m5 (u4 (z0y hr.units0) u0c (e2_v 4) v0 (o4 _)) (g0 (w0z 3 v0 (i0v m0h d_ix (y0r (z0 j3 (z0 j3 u0))) (j0 G_law_take (hr.mono (by decide)) o0 (z0 (e2_v 0) (z0 v0 u0)))))) v4)
  (b8 (t':=x0x 5) (l0 (m5 (u4 (z0y hr.units0) u0c (e2_v 4) v0 (o4 _)) (g0 (w0z 3 v0 (x0r i5 n0s T.n_str x0k (z0 (n4 a5 l7 (j4 1 v0) v0) u0)))) v4)
  (b8 (t':=x0x 6) (l0 (m5 (u4 (z0y hr.units0) u0c (e2_v 4) v0 (o4 _)) (g0 (w0z 3 (n4 a5 l7 v0 (j0 G_law_take (hr.mono (by decide)) o0 (z0 (e2_v 0) (z0 (e2_b f9 d_len T.n_len u0g (z0 (j4 1 v0) u0)) u0)))) (i0v m0h d_ix (y0r (z0 j3 (z0 j3 (z0 j3 (z0 j3 (z0 j3 u0)))))) (j0 G_law_take (hr.mono (by decide)) o0 (z0 (e2_v 0) (z0 v0 u0)))))) v4)
  (b8 (t':=x0x 7) (l0 (m5 (u4 (z0y hr.units0) u0c (e2_v 4) v0 (o4 _)) (g0 (l0g 3 nd (e2_v 2) n6 (x5 (j0 G_law_take (hr.mono (by decide)) o0 (z0 (e2_v 0) (z0 v0 u0)))))) v4)
  (g0 (y4 (e2_v 3)))) (by
   rintro E ρ δ ⟨p,ns,n,f',m,ws,pr,cur,k0,at',c6,rfl,hD,hp,ha,h⟩;have hpl:=x6 hp;have hpc:=d4 hp;have h4:=hp.hl;walk_at "dn";split
   ·rename_i hk;rcases h with ⟨hlt,_⟩|⟨_,_,hn,rfl,hq⟩
    ·omega
    have fin:∀bs δ' (c6:Cell),WsOk bs→(bs≠m3 f' m ws pr→w6 (bs.flatMap i3)=none)→DkAt p ns (n+2) δ'→E.rt (.lst (bs.map txD)) δ':=fun bs δ' c6 h1 h2 h3=>hq bs _ h1 h2 h3
    refine ⟨p,ns,_,7,rfl,hD,by omega,by decide,by decide,fun b δ2 b1 b2 hD=>?_⟩;obtain ⟨k,rfl⟩:∃k:Nat,b=(k:Int):=⟨b.toNat,by omega⟩;dsimp only;have hl:((m3 f' m ws pr).map txD).length=7+ws.length:=by rw[List.length_map];exact hpl.1
    rw[z1d (by omega),← List.map_take];have sub:∀w∈(m3 f' m ws pr).take k,w∈m3 f' m ws pr:=fun w hw=>List.mem_of_mem_take hw
    refine fin _ _ .no (t0c hp (by rw[List.length_take];omega) fun w hw=>.inl (sub w hw)) (fun _=>?_) (hD.mono (by omega));rw[u0o hp sub];exact x0d (by rw[List.length_take];omega)
   ·rename_i hk;rcases h with ⟨h1,h2⟩|⟨h1,h2,h3⟩
    ·exact h2
    ·omega))) (by
   rintro E ρ δ ⟨p,ns,n,f',m,ws,pr,cur,k0,at',c6,rfl,hD,hp,ha,h⟩;have hpl:=x6 hp;have hpc:=d4 hp;have h4:=hp.hl;unfold f7 at*
   walk_at "dn";split
   ·rename_i hk;rcases h with ⟨hlt,_⟩|⟨_,_,hn,rfl,hq⟩
    ·omega
    have fin:∀bs δ' (c6:Cell),WsOk bs→(bs≠m3 f' m ws pr→w6 (bs.flatMap i3)=none)→DkAt p ns (n+2) δ'→x0x 7 E [.val (.ref p),.val (f7 f' m ws pr),.val (.lst ((m3 f' m ws pr).map txD)),.own (bs.map txD),.val (.int k0),.val (.int (at':Int)),c6] δ':=fun bs δ' c6 h1 h2 h3=>⟨p,ns,_,f',m,ws,pr,bs,k0,at',_,rfl,h3,hp,ha,.inl ⟨by omega,hq bs _ h1 h2 h3⟩⟩
    refine ⟨p,ns,_,5,rfl,hD,by omega,by decide,by decide,fun j δ1 j1 j2 hD=>?_⟩;rw[k0c];obtain ⟨e,ee,he⟩:=atL (xs:=thingsW.map txD) j1 (by simpa[thingsW]using j2);obtain ⟨t,ht,rfl⟩:=List.mem_map.mp he;dsimp only;rw[ee];dsimp only;rw[List.length_map];refine ⟨p,ns,_,_,rfl,hD,by omega,by omega,by omega,fun b δ2 b1 b2 hD=>?_⟩;obtain ⟨k,rfl⟩:∃k:Nat,b=(k:Int):=⟨b.toNat,by omega⟩;dsimp only;have hix:ixN ((m3 f' m ws pr).map txD).length (7+(k:Int))=some (7+k):=by
     unfold ixN;rw[List.length_map,if_pos (by omega),if_pos (by omega)];exact congrArg some (by omega)
    rw[hix];dsimp only;rw[k0y];obtain ⟨t1,t2,t3,t4,_⟩:=t0d t ht;exact fin _ _ _ (k0z hp t1 t2) (fun _=>by rw[y0v hp t3 t4];exact bent6 (by omega) ht) (hD.mono (by omega))
   ·rename_i hk;refine ⟨p,ns,n,f',m,ws,pr,cur,k0,at',_,rfl,hD,hp,ha,?_⟩;rcases h with ⟨h1,h2⟩|⟨h1,h2,h3⟩
    ·exact .inl ⟨by omega,h2⟩
    ·exact .inr ⟨by omega,h2,h3⟩))) (by
   rintro E ρ δ ⟨p,ns,n,f',m,ws,pr,cur,k0,at',c6,rfl,hD,hp,ha,h⟩;have hpl:=x6 hp;have hpc:=d4 hp;have h4:=hp.hl;unfold f7 at*
   walk_at "dn";split
   ·rename_i hk;rcases h with ⟨hlt,_⟩|⟨_,_,hn,rfl,hq⟩
    ·omega
    have fin:∀bs δ' (c6:Cell),WsOk bs→(bs≠m3 f' m ws pr→w6 (bs.flatMap i3)=none)→DkAt p ns (n+2) δ'→x0x 6 E [.val (.ref p),.val (f7 f' m ws pr),.val (.lst ((m3 f' m ws pr).map txD)),.own (bs.map txD),.val (.int k0),.val (.int (at':Int)),c6] δ':=fun bs δ' c6 h1 h2 h3=>⟨p,ns,_,f',m,ws,pr,bs,k0,at',_,rfl,h3,hp,ha,.inl ⟨by omega,hq bs _ h1 h2 h3⟩⟩
    have hf:=hp.hf;have hl:3<((m3 f' m ws pr).map txD).length:=by rw[List.length_map];omega
    rw[if_pos hl,y0q (i:=f'+1) (by omega) (by omega)];refine ⟨r6 (by omega) (by omega),?_⟩;dsimp only;rw[show D.str (tx (dig (f'+1).toNat))=txD (dig (f'+1).toNat)from rfl,k0y];have h3:10∉dig (f'+1).toNat∧32∉dig (f'+1).toNat:=⟨fun z=>by have:=(t0j (n:=(f'+1).toNat) (by omega) _ z).1;omega,fun z=>by have:=(t0j (n:=(f'+1).toNat) (by omega) _ z).1;omega⟩;exact fin _ _ _ (k0z hp (Nat.le_trans v9 (by decide)) h3.1) (fun _=>by rw[y0v hp h3.2 h0a];exact bent5 hp) (hD.mono (by omega))
   ·rename_i hk;refine ⟨p,ns,n,f',m,ws,pr,cur,k0,at',_,rfl,hD,hp,ha,?_⟩;rcases h with ⟨h1,h2⟩|⟨h1,h2,h3⟩
    ·exact .inl ⟨by omega,h2⟩
    ·exact .inr ⟨by omega,h2,h3⟩))) (by
   rintro E ρ δ ⟨p,ns,n,f',m,ws,pr,cur,k0,at',c6,rfl,hD,hp,ha,h⟩;have hpl:=x6 hp;have hpc:=d4 hp;have h4:=hp.hl;walk_at "dn";split
   ·rename_i hk;rcases h with ⟨hlt,_⟩|⟨_,_,hn,rfl,hq⟩
    ·omega
    have fin:∀bs δ' (c6:Cell),WsOk bs→(bs≠m3 f' m ws pr→w6 (bs.flatMap i3)=none)→DkAt p ns (n+2) δ'→x0x 5 E [.val (.ref p),.val (f7 f' m ws pr),.val (.lst ((m3 f' m ws pr).map txD)),.own (bs.map txD),.val (.int k0),.val (.int (at':Int)),c6] δ':=fun bs δ' c6 h1 h2 h3=>⟨p,ns,_,f',m,ws,pr,bs,k0,at',_,rfl,h3,hp,ha,.inl ⟨by omega,hq bs _ h1 h2 h3⟩⟩
    refine ⟨p,ns,_,2,rfl,hD,by omega,by decide,by decide,fun j δ1 j1 j2 hD=>?_⟩;rw[show [D.str (Str.ofString "0"),D.str (Str.ofString "10")]=[[48],[49,48]].map txD by rw[l0b,show Str.ofString "10"=tx [49,48]by decide +kernel];rfl];obtain ⟨e,ee,he⟩:=atL (xs:=[[48],[49,48]].map txD) j1 (by simpa using j2);obtain ⟨t,ht,rfl⟩:=List.mem_map.mp he;dsimp only;rw[ee];have hl:1<((m3 f' m ws pr).map txD).length:=by rw[List.length_map];omega
    rw[if_pos hl];dsimp only;rw[k0y];have ht2:t=[48]∨t=[49,48]:=by simpa using ht
    have h3:t.length≤16∧10∉t∧32∉t∧t≠[]:=by rcases ht2 with rfl |rfl<;>decide
    exact fin _ _ _ (k0z hp h3.1 h3.2.1) (fun _=>by rw[y0v hp h3.2.2.1 h3.2.2.2];exact bent4 ht2) (hD.mono (by omega))
   ·rename_i hk;refine ⟨p,ns,n,f',m,ws,pr,cur,k0,at',_,rfl,hD,hp,ha,?_⟩;rcases h with ⟨h1,h2⟩|⟨h1,h2,h3⟩
    ·exact .inl ⟨by omega,h2⟩
    ·exact .inr ⟨by omega,h2,h3⟩))) (by
   rintro E ρ δ ⟨p,ns,n,f',m,ws,pr,cur,k0,at',c6,rfl,hD,hp,ha,h⟩;have hpl:=x6 hp;have hpc:=d4 hp;have h4:=hp.hl;unfold f7 at*
   walk_at "dn";split
   ·rename_i hk;rcases h with ⟨hlt,_⟩|⟨_,_,hn,rfl,hq⟩
    ·omega
    have fin:∀bs δ' (c6:Cell),WsOk bs→(bs≠m3 f' m ws pr→w6 (bs.flatMap i3)=none)→DkAt p ns (n+2) δ'→x0x 4 E [.val (.ref p),.val (f7 f' m ws pr),.val (.lst ((m3 f' m ws pr).map txD)),.own (bs.map txD),.val (.int k0),.val (.int (at':Int)),c6] δ':=fun bs δ' c6 h1 h2 h3=>⟨p,ns,_,f',m,ws,pr,bs,k0,at',_,rfl,h3,hp,ha,.inl ⟨by omega,hq bs _ h1 h2 h3⟩⟩
    have hl:((m3 f' m ws pr).map txD).length=7+ws.length:=by rw[List.length_map];exact hpl.1
    rw[d0l,List.length_replicate,hl,List.length_map,show Str.ofString "1"=tx [49]by decide +kernel];have er:List.replicate (7-(ws.length:Int)).toNat (D.str (tx [49]))=(List.replicate (7-(ws.length:Int)).toNat [49]).map txD:=by rw[List.map_replicate];rfl
    rw[er,← List.map_append];refine ⟨by omega,by omega,by omega,by omega,?_⟩;have hall:∀w∈m3 f' m ws pr++List.replicate (7-(ws.length:Int)).toNat [49],w∈m3 f' m ws pr∨w=[49]:=fun w hw=>by
     rcases List.mem_append.mp hw with hw |hw
     ·exact .inl hw
     ·exact .inr (List.eq_of_mem_replicate hw)
    refine fin _ _ _ (t0c hp (by rw[List.length_append,List.length_replicate];omega) fun w hw=>?_) (fun _=>?_) (hD.mono (by omega))
    ·rcases hall w hw with z |rfl
     ·exact .inl z
     ·exact .inr (by decide)
    ·rw[y0w (fun w hw=>by
      rcases hall w hw with z |rfl
      ·exact ⟨(hpc w z).1,(hpc w z).2.1⟩
      ·decide)]
     refine y0y (r:=u9 ws++List.replicate (7-(ws.length:Int)).toNat [49]) (.inr ?_);have:(u9 ws).length=ws.length:=List.length_map ..;rw[List.length_append,List.length_replicate];omega
   ·rename_i hk;refine ⟨p,ns,n,f',m,ws,pr,cur,k0,at',_,rfl,hD,hp,ha,?_⟩;rcases h with ⟨h1,h2⟩|⟨h1,h2,h3⟩
    ·exact .inl ⟨by omega,h2⟩
    ·exact .inr ⟨by omega,h2,h3⟩))) (by
   rintro E ρ δ ⟨p,ns,n,f',m,ws,pr,cur,k0,at',c6,rfl,hD,hp,ha,h⟩;have hpl:=x6 hp;have hpc:=d4 hp;have h4:=hp.hl;walk_at "dn";split
   ·rename_i hk;rcases h with ⟨hlt,_⟩|⟨_,_,hn,rfl,hq⟩
    ·omega
    have fin:∀bs δ' (c6:Cell),WsOk bs→(bs≠m3 f' m ws pr→w6 (bs.flatMap i3)=none)→DkAt p ns (n+2) δ'→x0x 3 E [.val (.ref p),.val (f7 f' m ws pr),.val (.lst ((m3 f' m ws pr).map txD)),.own (bs.map txD),.val (.int k0),.val (.int (at':Int)),c6] δ':=fun bs δ' c6 h1 h2 h3=>⟨p,ns,_,f',m,ws,pr,bs,k0,at',_,rfl,h3,hp,ha,.inl ⟨by omega,hq bs _ h1 h2 h3⟩⟩
    have hl:((m3 f' m ws pr).map txD).length=7+ws.length:=by rw[List.length_map];exact hpl.1
    rw[show (7:Int)=((7:Nat):Int)from rfl,z1d (by omega),← List.map_take];have sub:∀w∈(m3 f' m ws pr).take 7,w∈m3 f' m ws pr:=fun w hw=>List.mem_of_mem_take hw
    refine fin _ _ _ (t0c hp (by rw[List.length_take];omega) fun w hw=>.inl (sub w hw)) (fun _=>?_) (hD.mono (by omega));rw[u0o hp sub];exact y0y (r:=[]) (.inl rfl)
   ·rename_i hk;refine ⟨p,ns,n,f',m,ws,pr,cur,k0,at',_,rfl,hD,hp,ha,?_⟩;rcases h with ⟨h1,h2⟩|⟨h1,h2,h3⟩
    ·exact .inl ⟨by omega,h2⟩
    ·exact .inr ⟨by omega,h2,h3⟩))) (by
   rintro E ρ δ ⟨p,ns,n,f',m,ws,pr,cur,k0,at',c6,rfl,hD,hp,ha,h⟩;have hpl:=x6 hp;have hpc:=d4 hp;have h4:=hp.hl;walk_at "dn";split
   ·rename_i hk;rcases h with ⟨hlt,_⟩|⟨_,_,hn,rfl,hq⟩
    ·omega
    have fin:∀bs δ' (c6:Cell),WsOk bs→(bs≠m3 f' m ws pr→w6 (bs.flatMap i3)=none)→DkAt p ns (n+2) δ'→x0x 2 E [.val (.ref p),.val (f7 f' m ws pr),.val (.lst ((m3 f' m ws pr).map txD)),.own (bs.map txD),.val (.int k0),.val (.int (at':Int)),c6] δ':=fun bs δ' c6 h1 h2 h3=>⟨p,ns,_,f',m,ws,pr,bs,k0,at',_,rfl,h3,hp,ha,.inl ⟨by omega,hq bs _ h1 h2 h3⟩⟩
    have hl:((m3 f' m ws pr).map txD).length=7+ws.length:=by rw[List.length_map];exact hpl.1
    rw[show (2:Int)=((2:Nat):Int)from rfl,show (4:Int)=((4:Nat):Int)from rfl,cut_ij (by omega) (by decide),z1d (by omega),z1n];rw[←List.map_drop,← List.map_drop,← List.map_take,← List.map_take,← List.map_append,← List.map_append,List.length_map,List.length_map,List.length_map,List.length_map];have sub:∀w∈((m3 f' m ws pr).drop 2).take (4-2)++(m3 f' m ws pr).take 2++(m3 f' m ws pr).drop 4,w∈m3 f' m ws pr:=fun w hw=>by
     rcases List.mem_append.mp hw with hw |hw
     ·rcases List.mem_append.mp hw with hw |hw
      ·exact List.mem_of_mem_drop (List.mem_of_mem_take hw)
      ·exact List.mem_of_mem_take hw
     ·exact List.mem_of_mem_drop hw
    have hlen:(((m3 f' m ws pr).drop 2).take (4-2)++(m3 f' m ws pr).take 2++(m3 f' m ws pr).drop 4).length≤17:=by
     simp only[List.length_append,List.length_take,List.length_drop];omega
    refine ⟨by simp only[List.length_take,List.length_drop];omega,by simp only[List.length_append,List.length_take,List.length_drop];omega,?_⟩;refine fin _ _ _ (t0c hp (by omega) fun w hw=>.inl (sub w hw)) (fun _=>?_) (hD.mono (by omega));rw[u0o hp sub];exact bent1
   ·rename_i hk;refine ⟨p,ns,n,f',m,ws,pr,cur,k0,at',_,rfl,hD,hp,ha,?_⟩;rcases h with ⟨h1,h2⟩|⟨h1,h2,h3⟩
    ·exact .inl ⟨by omega,h2⟩
    ·exact .inr ⟨by omega,h2,h3⟩))) (by
   rintro E ρ δ ⟨p,ns,n,f',m,ws,pr,cur,k0,at',c6,rfl,hD,hp,ha,h⟩;have hpl:=x6 hp;have hpc:=d4 hp;have h4:=hp.hl;walk_at "dn";split
   ·rename_i hk;rcases h with ⟨hlt,_⟩|⟨_,_,hn,rfl,hq⟩
    ·omega
    have fin:∀bs δ' (c6:Cell),WsOk bs→(bs≠m3 f' m ws pr→w6 (bs.flatMap i3)=none)→DkAt p ns (n+2) δ'→x0x 1 E [.val (.ref p),.val (f7 f' m ws pr),.val (.lst ((m3 f' m ws pr).map txD)),.own (bs.map txD),.val (.int k0),.val (.int (at':Int)),c6] δ':=fun bs δ' c6 h1 h2 h3=>⟨p,ns,_,f',m,ws,pr,bs,k0,at',_,rfl,h3,hp,ha,.inl ⟨by omega,hq bs _ h1 h2 h3⟩⟩
    refine ⟨p,ns,_,11,rfl,hD,by omega,by decide,by decide,fun j δ1 j1 j2 hD=>?_⟩;rw[g0i];obtain ⟨e,ee,he⟩:=atL (xs:=thingsT.map txD) j1 (by simpa[thingsT]using j2);obtain ⟨t,ht,rfl⟩:=List.mem_map.mp he;dsimp only;rw[ee];have hix:ixN ((m3 f' m ws pr).map txD).length (at':Int)=some at':=by
     unfold ixN;rw[List.length_map,if_pos (by omega),if_pos (by omega)];exact congrArg some (by omega)
    rw[hix];dsimp only;rw[k0y];exact fin _ _ _ (k0z hp (v0v t ht).1 (v0v t ht).2.1) (bent0 hp ha ht) (hD.mono (by omega))
   ·rename_i hk;refine ⟨p,ns,n,f',m,ws,pr,cur,k0,at',_,rfl,hD,hp,ha,?_⟩;rcases h with ⟨h1,h2⟩|⟨h1,h2,h3⟩
    ·exact .inl ⟨by omega,h2⟩
    ·exact .inr ⟨by omega,h2,h3⟩))))),fun ds δ q x h=>?_⟩)
 ·unfold m0o at h;obtain ⟨p,ns,n,f',m,ws,pr,rfl,hD,hn,hp,hq⟩:=h;rfl
 ·unfold m0o at h;obtain ⟨p,ns,n,f',m,ws,pr,rfl,hD,hn,hp,hq⟩:=h;rw[show x4 ["_law_deck_here","_law_spec_here","_law_words_here","_law_found","_law_kind","_law_at","_law_things"] _=[.val _,.val _,.val _,.no,.no,.no,.no]from rfl];have hpl:=x6 hp;have h4:=hp.hl;walk_at "dn";refine ⟨p,ns,_,8,rfl,hD,by omega,by decide,by decide,fun k0 δ1 k1 k2 hD=>?_⟩;rw[List.length_map];refine ⟨p,ns,_,_,rfl,hD,by omega,by omega,by omega,fun a δ2 a1 a2 hD=>?_⟩;obtain ⟨at',rfl⟩:∃k:Nat,a=(k:Int):=⟨a.toNat,by omega⟩;exact ⟨p,ns,_,f',m,ws,pr,m3 f' m ws pr,k0,at',_,rfl,hD,hp,by omega,.inr ⟨k1,by omega,by omega,rfl,fun bs δ3 h1 h2 h3=>hq bs δ3 h1 h2 (h3.mono (by omega))⟩⟩
noncomputable def signsS:Str:=Str.ofString " !\"#$&'()*+,-./0123456789:;<=>?@ABCDEFGHIJKLMNOPQRSTUVWXYZ[\\]^_`abcdefghijklmnopqrstuvwxyz{|}~\n"
theorem o0m:(Str.ofString " !\"#$&'()*+,-./0123456789:;<=>?@ABCDEFGHIJKLMNOPQRSTUVWXYZ[\\]^_`abcdefghijklmnopqrstuvwxyz{|}~\n").length=95:=by decide +kernel
theorem g0h{l:List Nat}{k:Nat}:(cutN l none (some (k:Int))).length≤k:=by
 unfold cutN;rw[HT.sIx_none,HT.sIx_nat,List.length_take];omega
theorem m0m{l:List Nat}{k:Nat}:(cutN l (some (k:Int)) none).length≤l.length-k:=by
 unfold cutN;rw[HT.sIx_none,HT.sIx_nat,List.length_take,List.length_drop];omega
noncomputable def t0b:Sp2:=fun ds δ q _=>∃p ns n l,ds=[.ref p,txD l]∧DkAt p ns n δ∧n<2^21∧0<l.length∧l.length≤400∧∀l' δ',l'.length≤l.length+1→DkAt p ns (n+3) δ'→q (txD l') δ'
noncomputable abbrev r8:List Str:=["_law_deck_here","_law_text"]
theorem sc_law_signed:FnScope ["_law_deck_here","_law_text","_law_signs","_law_at","_law_sign","_law_kind"] r8 (defScope z0u):=⟨rfl,rfl,rfl,by decide +kernel,rfl,by decide +kernel,by decide +kernel⟩
noncomputable abbrev z0p(P:Program)(w:World)(K:PySem.W.Frag)(mg:Str→Option Value)(base:Heap)(cs:Cs):Prop:=Fun2 P w K mg base "_law_signed" 5 r8 t0b
theorem q0t{f:Addr}{fd:FuncData}(Df:DefAt K mg "_law_signed" z0u r8 f fd)(T:Txt K mg cs)(G_law_take:v7 P w K mg base cs):z0p P w K mg base cs:=by
 have nd:=sc_law_signed.nd;refine def2 Df sc_law_signed (fun ds δ q x h=>?_) (fun cdv A outer s H E Y hr=>⟨_,(l0 (b4 2 nd j3)
  (l0 (b4 3 nd (j0 G_law_take (hr.mono (by decide)) o0 (z0 (e2_v 0) (z0 (e2_b w8 l0h T.n_len u0g (z0 (e2_v 1) u0)) u0))))
  (l0 (b4 4 nd (i0v j0h d_ixS (e2_v 2) (j0 G_law_take (hr.mono (by decide)) o0 (z0 (e2_v 0) (z0 (e2_b w8 l0h T.n_len u0g (z0 (e2_v 2) u0)) u0)))))
  (l0 (b4 5 nd (j0 G_law_take (hr.mono (by decide)) o0 (z0 (e2_v 0) (z0 v0 u0))))
  (l0 (m5 (u4 (z0y hr.units0) u0c (e2_v 5) v0 (o4 _)) (g0 (y4 (n4 w5 z0x (n4 w5 z0x (j7 (e2_v 1) n6 (x5 (e2_v 3))) (e2_v 4)) (j7 (e2_v 1) (x5 (e2_v 3)) n6)))) v4)
  (l0 (m5 (u4 (z0y hr.units0) u0c (e2_v 5) v0 (o4 _)) (g0 (y4 (n4 w5 z0x (n4 w5 z0x (j7 (e2_v 1) n6 (x5 (e2_v 3))) (e2_v 4)) (j7 (e2_v 1) (x5 (n4 a5 l7 (e2_v 3) v0)) n6)))) v4)
  (g0 (y4 (n4 w5 z0x (j7 (e2_v 1) n6 (x5 (e2_v 3))) (j7 (e2_v 1) (x5 (n4 a5 l7 (e2_v 3) v0)) n6)))))))))),fun ds δ q x h=>?_⟩)
 ·unfold t0b at h;obtain ⟨p,ns,n,l,rfl,hD,hn,h0,hl,hq⟩:=h;rfl
 ·unfold t0b at h;obtain ⟨p,ns,n,l,rfl,hD,hn,h0,hl,hq⟩:=h;rw[show x4 ["_law_deck_here","_law_text","_law_signs","_law_at","_law_sign","_law_kind"] _=[.val _,.val _,.no,.no,.no,.no]from rfl];have e0:txD l=.str (tx l):=rfl;rw[e0];walk_at "dn";rw[o0m,p4];refine ⟨by omega,p,ns,_,_,rfl,hD,by omega,by omega,by omega,fun a δ1 a1 a2 hD=>?_⟩;obtain ⟨k,rfl⟩:∃k:Nat,a=(k:Int):=⟨a.toNat,by omega⟩;refine ⟨by decide,p,ns,_,_,rfl,hD,by omega,by decide,by decide,fun b δ2 b1 b2 hD=>?_⟩;obtain ⟨j,rfl⟩:∃k:Nat,b=(k:Int):=⟨b.toNat,by omega⟩;have hj:j<95:=by omega
  dsimp only;have hsl:=o0m;generalize Str.ofString " !\"#$&'()*+,-./0123456789:;<=>?@ABCDEFGHIJKLMNOPQRSTUVWXYZ[\\]^_`abcdefghijklmnopqrstuvwxyz{|}~\n"=sg at hsl ⊢;have hsz:sg.cps.toList.length=95:=by rw[←hsl];simp[Str.length]
  have hat:atI sg.cps.toList (j:Int)=some (sg.cps.toList[j]'(by omega)):=o0f (List.getElem?_eq_getElem (by omega));rw[hat];generalize sg.cps.toList[j]'(by omega)=c;refine ⟨by omega,p,ns,_,3,rfl,hD,by omega,by decide,by decide,fun d δ3 d1 d2 hD=>?_⟩;dsimp only;have x1:=g0h (l:=l) (k:=k);have x2:=m0m (l:=l) (k:=k);have x3:=m0m (l:=l) (k:=k+1);have ek:(k:Int)+1=((k+1:Nat):Int):=rfl;have ec:(⟨#[c]⟩:Str)=tx [c]:=rfl;rw[x0f,x0f,ek,x0f,ec];have hc1:([c]:List Nat).length=1:=rfl;split
  ·rw[u6,u6,p4,p4,p4,p4,List.length_append];exact ⟨by omega,by omega,by omega,by omega,hq _ _ (by rw[List.length_append,List.length_append];omega) hD⟩
  ·split
   ·rw[u6,u6,p4,p4,p4,p4,List.length_append];exact ⟨by omega,by omega,by omega,by omega,hq _ _ (by rw[List.length_append,List.length_append];omega) hD⟩
   ·rw[u6,p4,p4];exact ⟨by omega,by omega,by omega,hq _ _ (by rw[List.length_append];omega) hD⟩
theorem t0a{f m p:Int}{ws:List Int}(h:POk f m ws p):w6 (m3 f m ws p)=some (f,m,ws,p):=by
 have h1:=h.hf;have h2:=h.hm;have h3:=h.hp;have h4:=h.hl;have en:(u9 ws).map nm=ws.map D.int:=by
  unfold u9;rw[List.map_map];exact List.map_congr_left fun n hn=>x0e (h.hw n hn).1 (by have:=(h.hw n hn).2;omega)
 show (if fuT=fuT∧maT=maT∧prT=prT∧weT=weT then okP (nm (dig f.toNat)) (nm (dig m.toNat)) ((u9 ws).map nm) (nm (dig p.toNat))else none)=_;rw[if_pos ⟨rfl,rfl,rfl,rfl⟩,x0e (by omega) (by omega),x0e (by omega) (by omega),x0e (i:=p) (by omega) (by omega),en];have hw:x0h (.lst (ws.map D.int)) 1 6 0 9=true:=by
  rw[x0b,List.length_map,decide_eq_true (by omega),decide_eq_true (by omega),List.all_eq_true.mpr (fun d hd=>by obtain ⟨n,hn,rfl⟩:=List.mem_map.mp hd;exact w9 (h.hw n hn).1 (h.hw n hn).2)];rfl
 rw[m0z (by unfold okB;dsimp only;rw[w9 (by omega) (by omega),w9 (by omega) (by omega),hw,w9 (by omega) (by omega)];rfl),d0s];rfl
theorem o0l{c:Nat}(hc:c≠32):∀{ps:List (List Nat)},(∀p∈ps,c∉p)→c∉a7 [32] ps
 | [],_,z=>by cases z
 | [a],h,z=>h a (List.mem_singleton.mpr rfl) z
 |a::b::r,h,z=>by
  have z:c∈a++([32]++a7 [32] (b::r)):=z;rcases List.mem_append.mp z with z |z
  ·exact h a (List.mem_cons_self ..) z
  ·rcases List.mem_append.mp z with z |z
   ·exact hc (List.mem_singleton.mp z)
   ·exact o0l hc (fun p hp=>h p (List.mem_cons_of_mem _ hp)) z
theorem s0b{f m p:Int}{ws:List Int}(h:POk f m ws p):i3 (a7 [32] (m3 f m ws p))=m3 f m ws p∧10∉a7 [32] (m3 f m ws p):=by
 have hc:=d4 h;refine ⟨?_,o0l (by decide) fun w hw=>(hc w hw).2.2.1⟩;unfold i3;rw[y0b _ (by unfold m3;simp) fun w hw=>(hc w hw).1];exact List.filter_eq_self.mpr fun w hw=>by simpa using (hc w hw).2.1
theorem x0w{f m p:Int}{ws:List Int}{l:List Nat}(h:POk f m ws p)(h1:i3 l=m3 f m ws p)(h2:10∉l):r9 l=.inr (f,m,ws,p):=by
 unfold r9;rw[if_neg h2,h1,t0a h]
theorem o0k{f m p:Int}{ws:List Int}(h:POk f m ws p):(m3 f m ws p).flatMap i3=m3 f m ws p:=u0o h fun w hw=>hw
theorem no_non:noTx .non:=fun K=>⟨trivial,by unfold b9 PySem.W.kitOne;rfl⟩
theorem no_int{i:Int}:noTx (.int i):=fun K=>⟨trivial,by unfold b9 PySem.W.kitOne;rfl⟩
theorem no_bl{b:Bool}:noTx (.bl b):=fun K=>⟨trivial,by unfold b9 PySem.W.kitOne;rfl⟩
theorem no_lst{xs:List D}:noTx (.lst xs):=fun K=>⟨trivial,by unfold b9 PySem.W.kitOne;rfl⟩
theorem no_dic:noTx (.dic []):=fun K=>⟨trivial,by unfold b9 PySem.W.kitOne;rfl⟩
noncomputable def thingT:TS2:=fun E ρ δ=>∃c0 p ns n f m ws pr c5,ρ=[c0,.val (.ref p),.val (f7 f m ws pr),.val (.lst ((m3 f m ws pr).map txD)),.val (txD (a7 [32] (m3 f m ws pr))),c5,.no,.no]∧DkAt p ns n δ∧n<2^20∧POk f m ws pr∧∀ δ',E.rt (.bl true) δ'
noncomputable abbrev g0g:List Str:=["_law_script"]
theorem sc_law:FnScope ["_law_script","_law_deck_here","_law_spec_here","_law_words_here","_law_line","_law_bent_here","_law_thing","_law_turn"] g0g (defScope z1r):=⟨rfl,rfl,rfl,by decide +kernel,rfl,by decide +kernel,by decide +kernel⟩
theorem ok_law{f:Addr}{fd:FuncData}(Df:DefAt K mg "law" z1r g0g f fd)(T:Txt K mg cs)(G_law_deck:w0i P w K mg base cs)(G_law_spec:w0a P w K mg base cs)(G_law_words:m9 P w K mg base cs)(G_show_part:x0z P w K mg base cs)(M_Part:Make2 P w K mg base "Part" 4 (v0g cs))(G_law_is:u0r P w K mg base cs)(G_read_part_ok:o7 P w K mg base cs)(G_law_laid:v0x P w K mg base cs)(G_law_bent:v0u P w K mg base cs)(G_law_same:v0w P w K mg base cs)(G_law_number:l6 P w K mg base cs)(G_law_refused_ok:o6 P w K mg base cs)(G_law_take:v7 P w K mg base cs)(G_law_judged:z0r P w K mg base cs)(G_law_signed:z0p P w K mg base cs):FnOk P w K mg base (CX1 P w) 10 f fd g0g (upF K k0o):=by
 have nd:=sc_law.nd;refine def2F Df sc_law (fun ds δ q x h=>?_) (fun cdv A outer s H E Y hr=>⟨_,(l0 (b4 1 nd (j0 G_law_deck (hr.mono (by decide)) o0 (z0 (e2_v 0) u0)))
  (l0 (b4 2 nd (j0 G_law_spec (hr.mono (by decide)) o0 (z0 (e2_v 1) u0)))
  (l0 (b4 3 nd (j0 G_law_words (hr.mono (by decide)) o0 (z0 (e2_v 2) u0)))
  (l0 (b4 4 nd (j0 G_show_part (hr.mono (by decide)) o0 (z0 (i0l M_Part (hr.mono (by decide)) o0 (z0 (j4 2 v0) (z0 (j4 2 v0) (z0 (j4 2 v0) (z0 (j4 2 v0) u0))))) u0)))
  (l0 (m5 (PW2.pt (x0s (m6 (i6 (e2_b j6 (x0q (K:=K)) T.n_isinstance m4 (z0 (e2_v 4) (z0 (r0t "str" T.n_str x0k) u0))))) (c9 (u4 (h0z hr.units0) a0d (e2_v 4) (h0r PySem.F.slot_str_join PySem.F.type_str_join h0w c0j j3 (z0 (e2_v 3) u0)) (o4 _))))) (g0 (y4 u0f)) v4)
  (l0 (m5 (PW2.pt (x0s (m6 (i6 (j0 G_law_is (hr.mono (by decide)) o0 (z0 (j0 G_read_part_ok (hr.mono (by decide)) o0 (z0 (e2_v 4) u0)) (z0 (e2_v 2) u0))))) (c9 (m6 (i6 (j0 G_law_is (hr.mono (by decide)) o0 (z0 (j0 G_read_part_ok (hr.mono (by decide)) o0 (z0 (j0 G_law_laid (hr.mono (by decide)) o0 (z0 (e2_v 1) (z0 (e2_v 3) u0))) u0)) (z0 (e2_v 2) u0)))))))) (g0 (y4 u0f)) v4)
  (l0 (b4 5 nd (j0 G_law_bent (hr.mono (by decide)) o0 (z0 (e2_v 1) (z0 (e2_v 2) (z0 (e2_v 3) u0)))))
  (l0 (m5 (PW2.pt (c0w (m6 (i6 (j0 G_law_same (hr.mono (by decide)) o0 (z0 (e2_v 2) (z0 (e2_v 5) u0))))) (i0t (m6 (i6 (j0 G_law_number (hr.mono (by decide)) o0 (z0 (j0 G_law_refused_ok (hr.mono (by decide)) o0 (z0 (j0 G_law_laid (hr.mono (by decide)) o0 (z0 (e2_v 1) (z0 (e2_v 5) u0))) u0)) (z0 v0 u0)))))))) (g0 (y4 u0f)) v4)
  (b8 (t':=thingT) (l0 (b4 6 nd (i0v m0h d_ix (y0r (z0 g9 (z0 v0 (z0 u0f (z0 (y0r (z0 (e2_v 4) u0)) (z0 a0n (z0 (n4 w5 z0x (e2_v 4) j3) (z0 (n4 w5 z0x j3 (e2_v 4)) (z0 (n4 w5 z0x (n4 w5 z0x (j7 (e2_v 4) n6 (x5 v0)) j3) (j7 (e2_v 4) (x5 v0) n6)) u0))))))))) (j0 G_law_take (hr.mono (by decide)) o0 (z0 (e2_v 1) (z0 v0 u0)))))
  (l0 (m5 (PW2.pt (x0s (m6 (i6 (j0 G_law_number (hr.mono (by decide)) o0 (z0 (j0 G_law_refused_ok (hr.mono (by decide)) o0 (z0 (e2_v 6) u0)) (z0 v0 u0))))) (c9 (m6 (i6 (j0 G_law_number (hr.mono (by decide)) o0 (z0 (j0 G_law_refused_ok (hr.mono (by decide)) o0 (z0 (n4 w0w h0s j3 (j0 G_law_take (hr.mono (by decide)) o0 (z0 (e2_v 1) (z0 v0 u0)))) u0)) (z0 v0 u0)))))))) (g0 (y4 u0f)) v4)
  (l0 (l0p PassesOwn.leaving rfl (p0r T.n_range (z0 v0 u0)) (n5 (i:=7) nd rfl (by first |exact Or.inl rfl |exact Or.inr rfl)) (n0y (i:=7)) (g0 (m5 (m6 (i6 (j0 G_law_judged (hr.mono (by decide)) o0 (z0 (j0 G_law_signed (hr.mono (by decide)) o0 (z0 (e2_v 1) (z0 (j0 G_law_laid (hr.mono (by decide)) o0 (z0 (e2_v 1) (z0 (e2_v 3) u0))) u0))) u0)))) (g0 (y4 u0f)) v4)))
  (g0 (y4 (j0 G_law_is (hr.mono (by decide)) o0 (z0 (j0 G_read_part_ok (hr.mono (by decide)) o0 (z0 (e2_v 4) u0)) (z0 (e2_v 2) u0)))))))) (by
   rintro E ρ δ ⟨c0,p,ns,n,f',m,ws,pr,c5,rfl,hD,hn,hp,hq⟩;have hll:=r0a hp;obtain ⟨hlw,hl10⟩:=s0b hp;generalize hL:a7 [32] (m3 f' m ws pr)=l at hll hlw hl10;have e0:txD l=.str (tx l):=rfl;rw[e0];walk_at "dn";have x1:=g0h (l:=l) (k:=7);have x2:=m0m (l:=l) (k:=7);have hc1:([10]:List Nat).length=1:=rfl;rw[show (7:Int)=((7:Nat):Int)from rfl,x0f,x0f,g0v,u6,u6,u6,u6,p4,p4,p4,p4,p4,List.length_append];refine ⟨by omega,by omega,by omega,by omega,by omega,by omega,?_⟩;refine ⟨p,ns,_,8,rfl,hD,by omega,by decide,by decide,fun b δ1 b1 b2 hD=>?_⟩;obtain ⟨z,ez,hz⟩:=atL (xs:=[D.non,D.int 5,D.bl true,D.lst [D.str (tx l)],D.dic [],D.str (tx (l++[10])),D.str (tx ([10]++l)),D.str (tx (cutN l none (some ((7:Nat):Int))++[10]++cutN l (some ((7:Nat):Int)) none))]) b1 (by simpa using b2);dsimp only;rw[ez];have num:∀(k:Int) (Q:D→Dk→Prop) δ x,Q (.bl true) δ→j5 [.int k,.int k] δ Q x:=fun k Q δ x h=>by
    simp only[j5,f6,true_and,numD,decide_true];exact h
   have feed0:∀(y:List Nat) (Q:D→Dk→Prop) x,10∈y→y.length≤600→Q (.int 0) δ1→s0e [txD y] δ1 Q x:=fun y Q x h1 h2 h=>by
    refine ⟨_,rfl,.inl ⟨y,rfl,h2,?_⟩⟩;have:r9 y=.inl 0:=by unfold r9;rw[if_pos h1]
    rw[this];exact h
   have ref0:∀(Q:D→Dk→Prop) x,Q (.int 0) δ1→s0e [z] δ1 Q x:=fun Q x h=>by
    simp only[List.mem_cons,List.not_mem_nil,or_false]at hz;rcases hz with rfl |rfl |rfl |rfl |rfl |rfl |rfl |rfl
    ·exact ⟨_,rfl,.inr ⟨no_non,h⟩⟩
    ·exact ⟨_,rfl,.inr ⟨no_int,h⟩⟩
    ·exact ⟨_,rfl,.inr ⟨no_bl,h⟩⟩
    ·exact ⟨_,rfl,.inr ⟨no_lst,h⟩⟩
    ·exact ⟨_,rfl,.inr ⟨no_dic,h⟩⟩
    ·exact feed0 (l++[10]) Q x (by simp) (by rw[List.length_append];omega) h
    ·exact feed0 ([10]++l) Q x (by simp) (by rw[List.length_append];omega) h
    ·exact feed0 (cutN l none (some ((7:Nat):Int))++[10]++cutN l (some ((7:Nat):Int)) none) Q x (by simp) (by rw[List.length_append,List.length_append];omega) h
   refine ref0 _ _ (num 0 _ _ _ ?_);simp only[Bool.not_true,Bool.false_eq_true,if_false];refine ⟨p,ns,_,3,rfl,hD,by omega,by decide,by decide,fun c δ2 c1 c2 hD=>?_⟩;dsimp only;rw[w0f,g0x c1];refine ⟨c1,by omega,by decide,?_⟩;refine ⟨_,rfl,.inl ⟨List.replicate c.toNat 32,rfl,by rw[List.length_replicate];omega,?_⟩⟩;have er:r9 (List.replicate c.toNat 32)=.inl 1:=by
    have e0:i3 (List.replicate c.toNat 32)=[]:=by have:=w0g c.toNat [];rwa[List.nil_append,i8]at this
    unfold r9;rw[if_neg (q0w (by decide)),e0];rfl
   rw[er];refine num 1 _ _ _ ?_;simp only[Bool.not_true,Bool.false_eq_true,if_false];refine ⟨⟨by decide,by decide⟩,?_⟩;have hws:WsOk (m3 f' m ws pr):=t0c hp (by rw[(x6 hp).1];have:=hp.hl;omega) fun w hw=>.inl hw
   refine r0o (fun i ρ δ'=>∃c6 c7,ρ=[c0,.val (.ref p),.val (f7 f' m ws pr),.val (.lst ((m3 f' m ws pr).map txD)),.val (.str (tx l)),c5,c6,c7]∧DkAt p ns (n+2+25*i) δ') ⟨_,_,rfl,hD⟩ ?_ ?_
   ·rintro i d ρ δ' rest hi ⟨c6,c7,rfl,hD⟩ hrest;obtain ⟨hi2,rfl⟩:=r0r hi;have hi3:i<4:=hi2;unfold n0v;walk_at "dn";refine ⟨p,ns,_,_,rfl,hD,by omega,hws,fun l2 δ3 w1 w2 w3 hD=>?_⟩;rw[o0k hp]at w1;have hpos:0<l2.length:=by
     cases l2 with
     |nil=>rw[i8]at w1;unfold m3 at w1;cases w1
     |cons a b=>simp
    refine ⟨p,ns,_,l2,rfl,hD,by omega,hpos,by omega,fun l3 δ4 w4 hD=>?_⟩;refine ⟨l3,rfl,by omega,?_⟩;simp only[Bool.not_true,Bool.false_eq_true,if_false];exact hrest _ _ ⟨_,_,rfl,hD.mono (by omega)⟩
   ·rintro ρ δ' ⟨c6,c7,rfl,hD⟩;walk_at "dn";refine ⟨l,f',m,ws,pr,rfl,by omega,x0w hp hlw hl10,?_⟩;refine ⟨f',m,ws,pr,f',m,ws,pr,rfl,?_⟩;rw[decide_eq_true ⟨rfl,rfl,rfl,rfl⟩];exact hq _)))))))))),fun ds δ q x h=>?_⟩)
 ·unfold k0o at h;obtain ⟨ns,rfl,hl,rfl,hq⟩:=h;rfl
 ·unfold k0o at h;obtain ⟨ns,rfl,hl,rfl,hq⟩:=h;rw[show x4 ["_law_script","_law_deck_here","_law_spec_here","_law_words_here","_law_line","_law_bent_here","_law_thing","_law_turn"] _=[.val _,.no,.no,.no,.no,.no,.no,.no]from rfl];walk_at "dn";refine ⟨ns,rfl,rfl,fun p δ0 hD=>?_⟩;refine ⟨p,ns,_,rfl,hD,by decide,fun f' m ws pr δ1 hp hD=>?_⟩;refine ⟨f',m,ws,pr,rfl,hp,?_⟩;have hll:=r0a hp;obtain ⟨hlw,hl10⟩:=s0b hp;have hpl:=x6 hp;have h1:=hp.hf;have h2:=hp.hm;have h3:=hp.hp;have h4:=hp.hl;unfold f7;walk_at "dn";have hrow:(rowD (.tup (ws.map D.int)))=some (ws.map D.int):=rfl;have hw:x0h (.tup (ws.map D.int)) 1 6 0 9=true:=by
   unfold x0h rowD;dsimp only;rw[List.length_map,decide_eq_true (by omega),decide_eq_true (by omega),List.all_eq_true.mpr (fun d hd=>by obtain ⟨n,hn,rfl⟩:=List.mem_map.mp hd;exact w9 (hp.hw n hn).1 (hp.hw n hn).2)];rfl
  have ht:v6 (.tup (ws.map D.int))=true:=by
   unfold v6 rowD;dsimp only;rw[List.all_eq_true.mpr (fun d hd=>by obtain ⟨z,_,rfl⟩:=List.mem_map.mp hd;rfl)];rfl
  unfold v0g;dsimp only;rw[w9 h1.1 h1.2,if_pos rfl,w9 h2.1 h2.2,if_pos rfl,hw,if_pos rfl,w9 h3.1 h3.2,if_pos rfl,ht];refine ⟨rfl,?_⟩;refine ⟨f',m,ws,pr,rfl,hp,?_⟩;refine ⟨trivial,?_⟩;rw[show txD (a7 [32] (m3 f' m ws pr))=.str (tx (a7 [32] (m3 f' m ws pr)))from rfl,c0m,strsL];dsimp only;have hsum:=g0t hpl.2;rw[w0f,g0y,p4,List.length_map];simp only[Bool.not_true,Bool.false_eq_true,if_false,decide_true];refine ⟨by decide,by omega,?_⟩;have hws:WsOk (m3 f' m ws pr):=t0c hp (by rw[hpl.1];omega) fun w hw=>.inl hw
  have yes:decide (f'=f'∧m=m∧ws=ws∧pr=pr)=true:=decide_eq_true ⟨rfl,rfl,rfl,rfl⟩;refine ⟨_,f',m,ws,pr,rfl,by omega,x0w hp hlw hl10,?_⟩;refine ⟨f',m,ws,pr,f',m,ws,pr,rfl,?_⟩;rw[yes];simp only[Bool.not_true,Bool.false_eq_true,if_false];refine ⟨p,ns,_,_,rfl,hD,by decide,hws,fun l2 δ3 w1 w2 w3 hD=>?_⟩;rw[o0k hp]at w1;refine ⟨l2,f',m,ws,pr,rfl,by omega,x0w hp w1 w2,?_⟩;refine ⟨f',m,ws,pr,f',m,ws,pr,rfl,?_⟩;rw[yes];simp only[Bool.not_true,Bool.false_eq_true,if_false];refine ⟨p,ns,_,f',m,ws,pr,rfl,hD,by decide,hp,fun bs δ4 b1 b2 hD=>?_⟩;refine ⟨f',m,ws,pr,bs,rfl,hp,?_⟩;by_cases eb:bs=m3 f' m ws pr
  ·rw[decide_eq_true eb];simp only[Bool.not_true,Bool.false_eq_true,if_false];exact ⟨_,p,ns,_,f',m,ws,pr,_,rfl,hD,by decide,hp,hq⟩
  ·rw[decide_eq_false eb];simp only[Bool.not_false,if_true];refine ⟨p,ns,_,bs,rfl,hD,by decide,b1,fun l3 δ5 y1 y2 y3 hD=>?_⟩;refine ⟨_,rfl,.inl ⟨l3,rfl,by omega,?_⟩⟩;have er:r9 l3=.inl 1:=by unfold r9;rw[if_neg y2,y1,b2 eb]
   rw[er];simp only[refI,j5,f6,true_and,numD,decide_true,Bool.not_true,Bool.false_eq_true,if_false];exact ⟨_,p,ns,_,f',m,ws,pr,_,rfl,hD,by decide,hp,hq⟩
theorem s0v:FnScope ["self","at"] ["self","at"] (defScope y9):=⟨rfl,rfl,rfl,by decide +kernel,rfl,by decide +kernel,by decide +kernel⟩
theorem s0u{f C:Addr}{fd:FuncData}(F:Fun K "__init__" "NoPart.__init__" y9 f fd)(xc:XC K C)(n0:NoAttr K C "at"):FnOk P w K mg base CX0 1 f fd ["self","at"] (spXI C "at"):=by
 refine F.ok s0v (fun vs H Q E h=>?_) (fun cdv A outer s H vs Q E hr h=>⟨_,r0z (b0m (pv 0) (pv 1) rfl),?_⟩)
 ·obtain ⟨x,v,rfl,_⟩:=h;rfl
 ·obtain ⟨x,v,rfl,hx,q⟩:=h;exact ⟨_,rfl,_,rfl,x,C,rfl,hx,xc,n0,fun d hd hne=>q d hd hne⟩
theorem y0o:FnScope ["self","row"] ["self","row"] (defScope g7):=⟨rfl,rfl,rfl,by decide +kernel,rfl,by decide +kernel,by decide +kernel⟩
theorem s0t{f C:Addr}{fd:FuncData}(F:Fun K "__init__" "NoText.__init__" g7 f fd)(xc:XC K C)(n0:NoAttr K C "row"):FnOk P w K mg base CX0 1 f fd ["self","row"] (spXI C "row"):=by
 refine F.ok y0o (fun vs H Q E h=>?_) (fun cdv A outer s H vs Q E hr h=>⟨_,r0z (b0m (pv 0) (pv 1) rfl),?_⟩)
 ·obtain ⟨x,v,rfl,_⟩:=h;rfl
 ·obtain ⟨x,v,rfl,hx,q⟩:=h;exact ⟨_,rfl,_,rfl,x,C,rfl,hx,xc,n0,fun d hd hne=>q d hd hne⟩
theorem s0z{f C:Addr}{fd:FuncData}(F:Fun K "__init__" "NoText.__init__" g7 f fd)(xc:XC K C)(n0:NoAttr K C "row"):FnOkU P w K mg base CX0 1 f fd ["self","row"] (spXI C "row"):=by
 refine F.okU0 y0o (fun vs H Q E h=>?_) (fun cdv A outer s H vs Q E hr h=>⟨_,r0z (b0m (pv 0) (pv 1) rfl),?_⟩)
 ·obtain ⟨x,v,rfl,_⟩:=h;rfl
 ·obtain ⟨x,v,rfl,hx,q⟩:=h;exact ⟨_,rfl,_,rfl,x,C,rfl,hx,xc,n0,fun d hd hne=>q d hd hne⟩
@[elab_as_elim] theorem el0{α:Type}{motive:List α→Prop}(us:List α)(hl:us.length=0)(h:motive []):motive us:=match us,hl with
 | [],_=>h
@[elab_as_elim] theorem el1{α:Type}{motive:List α→Prop}(us:List α)(hl:us.length=1)(h:∀a,motive [a]):motive us:=match us,hl with
 | [a],_=>h a
@[elab_as_elim] theorem el2{α:Type}{motive:List α→Prop}(us:List α)(hl:us.length=2)(h:∀a b,motive [a,b]):motive us:=match us,hl with
 | [a,b],_=>h a b
@[elab_as_elim] theorem el3{α:Type}{motive:List α→Prop}(us:List α)(hl:us.length=3)(h:∀a b c,motive [a,b,c]):motive us:=match us,hl with
 | [a,b,c],_=>h a b c
@[elab_as_elim] theorem el4{α:Type}{motive:List α→Prop}(us:List α)(hl:us.length=4)(h:∀a b c d,motive [a,b,c,d]):motive us:=match us,hl with
 | [a,b,c,d],_=>h a b c d
@[elab_as_elim] theorem el5{α:Type}{motive:List α→Prop}(us:List α)(hl:us.length=5)(h:∀a b c d e,motive [a,b,c,d,e]):motive us:=match us,hl with
 | [a,b,c,d,e],_=>h a b c d e
@[elab_as_elim] theorem el6{α:Type}{motive:List α→Prop}(us:List α)(hl:us.length=6)(h:∀a b c d e f,motive [a,b,c,d,e,f]):motive us:=match us,hl with
 | [a,b,c,d,e,f],_=>h a b c d e f
@[elab_as_elim] theorem el7{α:Type}{motive:List α→Prop}(us:List α)(hl:us.length=7)(h:∀a b c d e f g,motive [a,b,c,d,e,f,g]):motive us:=match us,hl with
 | [a,b,c,d,e,f,g],_=>h a b c d e f g
@[elab_as_elim] theorem el8{α:Type}{motive:List α→Prop}(us:List α)(hl:us.length=8)(h:∀a b c d e f g i,motive [a,b,c,d,e,f,g,i]):motive us:=match us,hl with
 | [a,b,c,d,e,f,g,i],_=>h a b c d e f g i
theorem all_mk{l:PySem.W.OpenLaw}{w:World}{K:PySem.W.Frag}{h:Heap}{mg:Str→Option Value}{fa:Addr}{cs:Cs}(X:K.In h)(G:h.Ns mainGlobals mg)(hfa:mg "law"=some (.ref fa))(T:Txt K mg cs)(h_is_number:HD.FnF K "is_number" y0j)(h_is_whole:HD.FnF K "is_whole" w0u)(h_is_row:HD.FnF K "is_row" r0g)(h_is_whole_row:HD.FnF K "is_whole_row" n8)(h_numbers_shown:HD.FnF K "numbers_shown" d7)(h_show_part:HD.FnF K "show_part" y0i)(h_words_of:HD.FnF K "words_of" w0t)(h_number_of:HD.FnF K "number_of" y0h)(h_read_part:HD.FnF K "read_part" y0g)(h_law_cell:HD.FnF K "_law_cell" w0s)(h_law_draw:HD.FnF K "_law_draw" w0r)(h_law_deck:HD.FnF K "_law_deck" w0q)(h_law_take:HD.FnF K "_law_take" w0p)(h_law_number:HD.FnF K "_law_number" z0v)(h_law_row:HD.FnF K "_law_row" t0x)(h_law_spec:HD.FnF K "_law_spec" w0o)(h_law_words:HD.FnF K "_law_words" y0f)(h_law_laid:HD.FnF K "_law_laid" w0n)(h_law_bent:HD.FnF K "_law_bent" w0m)(h_law_is:HD.FnF K "_law_is" r0f)(h_law_refused:HD.FnF K "_law_refused" a8)(h_law_signed:HD.FnF K "_law_signed" z0u)(h_law_whole:HD.FnF K "_law_whole" y0e)(h_law_reading:HD.FnF K "_law_reading" z9)(h_law_judged:HD.FnF K "_law_judged" z0t)(h_law_same:HD.FnF K "_law_same" w0l)(h_law:HD.FnF K "law" z1r)(x_NoPart:HD.XMkF K cs.NoPart "NoPart.__init__" y9)(x_NoText:HD.XMkF K cs.NoText "NoText.__init__" g7)(o_Part:HD.MkF K cs.Part "Part.__init__" y0d):
 ∃fd:FuncData,(∀(s:Shared) (v:Value),BindsTo s fd ⟨[v],[]⟩ [("_law_script",v)])∧∀base:Heap,K.In base→base.Ns mainGlobals mg→FnOk l.prog w K mg base (CX1 l.prog w) 10 fa fd g0g (upF K k0o):=by
 obtain ⟨f_is_number,d_is_number,D_is_number⟩:=h_is_number.at X G (ps:=x9) fun _ _ _ _ _ _ us hl=>el1 us hl (fun _=>rfl)
 obtain ⟨f_is_whole,d_is_whole,D_is_whole⟩:=h_is_whole.at X G (ps:=z0l) fun _ _ _ _ _ _ us hl=>el3 us hl (fun _ _ _=>rfl)
 obtain ⟨f_is_row,d_is_row,D_is_row⟩:=h_is_row.at X G (ps:=u0u) fun _ _ _ _ _ _ us hl=>el1 us hl (fun _=>rfl)
 obtain ⟨f_is_whole_row,d_is_whole_row,D_is_whole_row⟩:=h_is_whole_row.at X G (ps:=t7) fun _ _ _ _ _ _ us hl=>el5 us hl (fun _ _ _ _ _=>rfl)
 obtain ⟨f_numbers_shown,d_numbers_shown,D_numbers_shown⟩:=h_numbers_shown.at X G (ps:=d6) fun _ _ _ _ _ _ us hl=>el1 us hl (fun _=>rfl)
 obtain ⟨f_show_part,d_show_part,D_show_part⟩:=h_show_part.at X G (ps:=s9) fun _ _ _ _ _ _ us hl=>el1 us hl (fun _=>rfl)
 obtain ⟨f_words_of,d_words_of,D_words_of⟩:=h_words_of.at X G (ps:=z0c) fun _ _ _ _ _ _ us hl=>el1 us hl (fun _=>rfl)
 obtain ⟨f_number_of,d_number_of,D_number_of⟩:=h_number_of.at X G (ps:=t9) fun _ _ _ _ _ _ us hl=>el3 us hl (fun _ _ _=>rfl)
 obtain ⟨f_read_part,d_read_part,D_read_part⟩:=h_read_part.at X G (ps:=y8) fun _ _ _ _ _ _ us hl=>el1 us hl (fun _=>rfl)
 obtain ⟨f_law_cell,d_law_cell,D_law_cell⟩:=h_law_cell.at X G (ps:=z0j) fun _ _ _ _ _ _ us hl=>el2 us hl (fun _ _=>rfl)
 obtain ⟨f_law_draw,d_law_draw,D_law_draw⟩:=h_law_draw.at X G (ps:=z0h) fun _ _ _ _ _ _ us hl=>el3 us hl (fun _ _ _=>rfl)
 obtain ⟨f_law_deck,d_law_deck,D_law_deck⟩:=h_law_deck.at X G (ps:=z0g) fun _ _ _ _ _ _ us hl=>el1 us hl (fun _=>rfl)
 obtain ⟨f_law_take,d_law_take,D_law_take⟩:=h_law_take.at X G (ps:=z0f) fun _ _ _ _ _ _ us hl=>el2 us hl (fun _ _=>rfl)
 obtain ⟨f_law_number,d_law_number,D_law_number⟩:=h_law_number.at X G (ps:=v8) fun _ _ _ _ _ _ us hl=>el2 us hl (fun _ _=>rfl)
 obtain ⟨f_law_row,d_law_row,D_law_row⟩:=h_law_row.at X G (ps:=x0c) fun _ _ _ _ _ _ us hl=>el2 us hl (fun _ _=>rfl)
 obtain ⟨f_law_spec,d_law_spec,D_law_spec⟩:=h_law_spec.at X G (ps:=z0a) fun _ _ _ _ _ _ us hl=>el1 us hl (fun _=>rfl)
 obtain ⟨f_law_words,d_law_words,D_law_words⟩:=h_law_words.at X G (ps:=o9) fun _ _ _ _ _ _ us hl=>el1 us hl (fun _=>rfl)
 obtain ⟨f_law_laid,d_law_laid,D_law_laid⟩:=h_law_laid.at X G (ps:=y0z) fun _ _ _ _ _ _ us hl=>el2 us hl (fun _ _=>rfl)
 obtain ⟨f_law_bent,d_law_bent,D_law_bent⟩:=h_law_bent.at X G (ps:=y0u) fun _ _ _ _ _ _ us hl=>el3 us hl (fun _ _ _=>rfl)
 obtain ⟨f_law_is,d_law_is,D_law_is⟩:=h_law_is.at X G (ps:=u0s) fun _ _ _ _ _ _ us hl=>el2 us hl (fun _ _=>rfl)
 obtain ⟨f_law_refused,d_law_refused,D_law_refused⟩:=h_law_refused.at X G (ps:=b6) fun _ _ _ _ _ _ us hl=>el1 us hl (fun _=>rfl)
 obtain ⟨f_law_signed,d_law_signed,D_law_signed⟩:=h_law_signed.at X G (ps:=r8) fun _ _ _ _ _ _ us hl=>el2 us hl (fun _ _=>rfl)
 obtain ⟨f_law_whole,d_law_whole,D_law_whole⟩:=h_law_whole.at X G (ps:=j9) fun _ _ _ _ _ _ us hl=>el3 us hl (fun _ _ _=>rfl)
 obtain ⟨f_law_reading,d_law_reading,D_law_reading⟩:=h_law_reading.at X G (ps:=e7) fun _ _ _ _ _ _ us hl=>el1 us hl (fun _=>rfl)
 obtain ⟨f_law_judged,d_law_judged,D_law_judged⟩:=h_law_judged.at X G (ps:=t8) fun _ _ _ _ _ _ us hl=>el1 us hl (fun _=>rfl)
 obtain ⟨f_law_same,d_law_same,D_law_same⟩:=h_law_same.at X G (ps:=y0x) fun _ _ _ _ _ _ us hl=>el2 us hl (fun _ _=>rfl)
 obtain ⟨f_law,d_law,D_law⟩:=h_law.at X G (ps:=g0g) fun _ _ _ _ _ _ us hl=>el1 us hl (fun _=>rfl)
 obtain ⟨fi_NoPart,fd_NoPart,m_NoPart,F_NoPart⟩:=x_NoPart;have M_NoPart:∀base,MkE l.prog w K mg base "NoPart" cs.NoPart 1 ["self","at"] (spXI cs.NoPart "at"):=fun base=>⟨⟨fi_NoPart,_,m_NoPart,s0u F_NoPart (T.err _ (List.mem_of_getElem? (show cs.ds[0]?=some cs.NoPart from rfl))).xc T.a_NoPart_at,F_NoPart.binds (ps:=["self","at"]) fun _ _ _ _ _ _ us hl=>el2 us hl (fun _ _=>rfl)⟩,T.c_NoPart⟩
 obtain ⟨fi_NoText,fd_NoText,m_NoText,F_NoText⟩:=x_NoText;have M_NoText:∀base,MkE l.prog w K mg base "NoText" cs.NoText 1 ["self","row"] (spXI cs.NoText "row"):=fun base=>⟨⟨fi_NoText,_,m_NoText,s0t F_NoText (T.err _ (List.mem_of_getElem? (show cs.ds[1]?=some cs.NoText from rfl))).xc T.a_NoText_row,F_NoText.binds (ps:=["self","row"]) fun _ _ _ _ _ _ us hl=>el2 us hl (fun _ _=>rfl)⟩,T.c_NoText⟩
 obtain ⟨fi_Part,fd_Part,m_Part,F_Part⟩:=o_Part;have G_law_cell:∀base,z0i l.prog w K mg base cs:=fun base=>n0l D_law_cell T
 have G_law_deck:∀base,w0i l.prog w K mg base cs:=fun base=>n0j D_law_deck T (G_law_cell base)
 have G_law_draw:∀base,w0j l.prog w K mg base cs:=fun base=>n0k D_law_draw T (G_law_cell base)
 have G_law_take:∀base,v7 l.prog w K mg base cs:=fun base=>n0i D_law_take T (G_law_draw base)
 have G_law_spec:∀base,w0a l.prog w K mg base cs:=fun base=>m0v D_law_spec T (G_law_take base)
 have G_law_words:∀base,m9 l.prog w K mg base cs:=fun base=>o0p D_law_words T
 have G_numbers_shown:∀base,z8 l.prog w K mg base cs:=fun base=>v0c D_numbers_shown T
 have G_show_part:∀base,x0z l.prog w K mg base cs:=fun base=>o0s D_show_part T (G_numbers_shown base)
 have G_is_number:∀base,y0c l.prog w K mg base cs:=fun base=>o0x D_is_number T
 have G_is_whole:∀base,z0k l.prog w K mg base cs:=fun base=>n0m D_is_whole T (G_is_number base)
 have G_is_row:∀base,r0c l.prog w K mg base cs:=fun base=>h0b D_is_row T
 have G_is_whole_row:∀base,m8 l.prog w K mg base cs:=fun base=>t0k D_is_whole_row T (G_is_row base) (G_is_whole base)
 have M_Part:∀base,Make2 l.prog w K mg base "Part" 4 (v0g cs):=fun base=>o0w F_Part m_Part (F_Part.binds (ps:=["self","full","mark","wear","price"]) fun _ _ _ _ _ _ us hl=>el5 us hl (fun _ _ _ _ _=>rfl)) T (G_is_whole base) (G_is_whole_row base) (M_NoPart base)
 have G_law_number:∀base,l6 l.prog w K mg base cs:=fun base=>r0d D_law_number T
 have G_law_row:∀base,t0f l.prog w K mg base cs:=fun base=>k0d D_law_row T (G_law_number base)
 have G_law_is:∀base,u0r l.prog w K mg base cs:=fun base=>g0l D_law_is T (G_law_number base) (G_law_row base)
 have G_words_of:∀base,w0e l.prog w K mg base cs:=fun base=>n0d D_words_of T
 have G_number_of:∀base,y0a l.prog w K mg base cs:=fun base=>o0t D_number_of T
 have MU_NoText:∀base,MkEU l.prog w K mg base "NoText" cs.NoText 1 ["self","row"] (spXI cs.NoText "row"):=fun base=>⟨⟨fi_NoText,_,m_NoText,s0z F_NoText (T.err _ (List.mem_of_getElem? (show cs.ds[1]?=some cs.NoText from rfl))).xc T.a_NoText_row,F_NoText.binds (ps:=["self","row"]) fun _ _ _ _ _ _ us hl=>el2 us hl (fun _ _=>rfl)⟩,T.c_NoText⟩
 have G_read_part:∀base,p9 l.prog w K mg base cs:=fun base=>o0q D_read_part T (G_words_of base) (G_number_of base) (M_Part base) (M_NoText base) (MU_NoText base)
 have G_read_part_ok:∀base,o7 l.prog w K mg base cs:=fun base=>t0g (G_read_part base)
 have G_law_laid:∀base,v0x l.prog w K mg base cs:=fun base=>m0q D_law_laid T (G_law_take base)
 have G_law_bent:∀base,v0u l.prog w K mg base cs:=fun base=>m0n D_law_bent T (G_law_take base)
 have G_law_same:∀base,v0w l.prog w K mg base cs:=fun base=>m0p D_law_same T (G_law_words base)
 have G_law_refused:∀base,l9 l.prog w K mg base cs:=fun base=>s0x D_law_refused T (G_read_part base)
 have G_law_refused_ok:∀base,o6 l.prog w K mg base cs:=fun base=>v0z (G_law_refused base)
 have G_law_whole:∀base,x0y l.prog w K mg base cs:=fun base=>o0o D_law_whole T
 have G_law_reading:∀base,i9 l.prog w K mg base cs:=fun base=>s0w D_law_reading T (G_law_whole base)
 have G_law_judged:∀base,z0r l.prog w K mg base cs:=fun base=>q0u D_law_judged T (G_law_reading base) (G_law_number base) (G_law_refused_ok base) (G_law_is base) (G_read_part_ok base)
 have G_law_signed:∀base,z0p l.prog w K mg base cs:=fun base=>q0t D_law_signed T (G_law_take base)
 obtain ⟨_,_,_,_,_,_,_,_,_,rfl,_,_⟩:=D_law.F.ex;have e:=hfa.symm.trans D_law.m;cases e;exact ⟨_,fun s v=>.of_eq rfl,fun base _ _=>ok_law D_law T (G_law_deck base) (G_law_spec base) (G_law_words base) (G_show_part base) (M_Part base) (G_law_is base) (G_read_part_ok base) (G_law_laid base) (G_law_bent base) (G_law_same base) (G_law_number base) (G_law_refused_ok base) (G_law_take base) (G_law_judged base) (G_law_signed base)⟩
end
end K34
namespace HD34
open PySem PySem.W PyProof.Rows PySem.Calls HD
open K34 (top)
noncomputable abbrev PW:Program:=PySem.Challenge.pw_wearplan_k34_parts_as_lines
noncomputable def env:Env:=⟨PW.main.scope,mainNs,mainNs,[],Str.empty,none,(r 13),some 14,0⟩
noncomputable def cE:Code:=.body (behindTheImports PW) env
noncomputable abbrev fp:Pos:=⟨0,0,0,0⟩
noncomputable abbrev BB:List Frame:=[topFrame fp]
noncomputable def life:Life:={}
noncomputable def drawn:Drawn:={}
noncomputable def o11_0(P:Params):Obj:=tp []
noncomputable def o12_0(P:Params):Obj:=fl N []
noncomputable def o13_0(P:Params):Obj:=fl (ty "code") [(s "<module>" 182),(s "<module>" 183),(s "/claim/cut.py" 184),(i 1 0),(i 0 0),(i 0 0),(i 0 0),(i 0 0),(r 11),(b false),(i 181 0),(r 12),N,N,N,N,(i 185 0),(i 1 0),(s "/claim/cut.py" 186)]
noncomputable def o14_0(P:Params):Obj:={cls:=(ty "frame"),slots:=⟨[some (r 13),some (r 3),some (r 3),none,some (s "__main__" 164),none,some (r 0)]⟩}
noncomputable def t0(P:Params):BT:=(.node (boot_o_0 P) (.node (boot_o_1 P) (.node (boot_o_3 P) (.node (boot_o_7 P) .nil .nil) (.node (o11_0 P) .nil .nil)) (.node (boot_o_5 P) (.node (boot_o_9 P) .nil .nil) (.node (o13_0 P) .nil .nil))) (.node (boot_o_2 P) (.node (boot_o_4 P) (.node (boot_o_8 P) .nil .nil) (.node (o12_0 P) .nil .nil)) (.node (boot_o_6 P) (.node (boot_o_10 P) .nil .nil) (.node (o14_0 P) .nil .nil))))
theorem pre(w:World)(os:OsState):topGo treeTable PW w 11 (some (r 6)) 12 ⟨boot_heap w.params,⟨[]⟩,boot_drawn,boot_toks,os⟩ (topStub PW)=some ((SharedT.abs ⟨t0 w.params,15,life,⟨[]⟩,drawn,187,os⟩),⟨denote treeTable cE,cE,⟨0,0,0,0⟩,BB⟩):=turnGo (by rw[PySem.W.Fast.te11892475500146522536,PySem.W.Fast.te14364793385576792824];kernel_rfl)
theorem blk(w:World)(os:OsState):segRun treeTable PW w 11 (some (r 6)) 1 1 (SharedT.abs ⟨t0 w.params,15,life,⟨[]⟩,drawn,187,os⟩) (blockOf (behindTheImports PW) env cE ⟨0,0,0,0⟩ BB)=some (.next,(SharedT.abs ⟨t0 w.params,15,life,⟨[]⟩,drawn,187,os⟩),cE,⟨0,0,0,0⟩):=h0i (by kernel_rfl)
noncomputable def sts1:List Stmt:=[top 0,top 1]
noncomputable def e3_0(P:Params):List DictEntry:=[en P "__name__" 165 (s "wearplan.errors" 187),en P "__doc__" 166 N,en P "__package__" 167 N,en P "__loader__" 168 (bi "__main__.__loader__#opaque"),en P "__spec__" 169 N,en P "__annotations__" 170 (r 6),en P "__builtins__" 171 (r 4),en P "__file__" 173 (s "/claim/cut.py" 172),en P "__cached__" 174 N,en P "WearError" 206 (r 24)]
noncomputable def o3_0(P:Params):Obj:=di (e3_0 P) 10
noncomputable def e12_1(P:Params):List Value:=[(i 2 0),(i 0 0),(r 20)]
noncomputable def o12_1(P:Params):Obj:=fl N (e12_1 P)
noncomputable def g1(P:Params):List Obj:=[tp [(ty "ValueError")],fl (ty "builtin_function_or_method") [(bi "type.__prepare__"),(ty "type")],di [en P "__module__" 196 (s "wearplan.errors" 187),en P "__qualname__" 198 (s "WearError" 197),en P "__firstlineno__" 200 (i 2 199),en P "__static_attributes__" 201 (r 22)] 4,tp [],fl N [],fl (ty "code") [(s "WearError" 191),(s "WearError" 192),(s "/claim/cut.py" 193),(i 2 0),(i 0 0),(i 0 0),(i 0 0),(i 0 0),(r 18),(b false),(i 181 0),(r 19),N,N,N,N,(i 194 0),(i 2 0),(s "/claim/cut.py" 195)],{cls:=(ty "frame"),slots:=⟨[some (r 20),some (r 3),some (r 17),none,some (s "wearplan.errors" 187),none,some (r 0)]⟩},tp [],di [en P "__module__" 196 (s "wearplan.errors" 187),en P "__firstlineno__" 200 (i 2 199),en P "__static_attributes__" 201 (r 22),en P "__weakref__" 203 (r 25),en P "__doc__" 204 N] 3,co "WearError" [(ty "ValueError")] [(r 24),(ty "ValueError"),(ty "Exception"),(ty "BaseException"),(ty "object")] 23 "WearError" true false [] [some (r 15),none,some (s "WearError" 189),some (s "WearError" 197),some (bi "ValueError.__new__"),some (b true)],fl (ty "getset_descriptor") [(s "__weakref__" 202),(r 24),(bi "ExceptionGroup.__weakref__"),N],fl (ty "super") [(r 24),(r 24),(r 24)],fl (ty "builtin_function_or_method") [(bi "object.__init_subclass__"),(r 24)]]
noncomputable def t1(P:Params):BT:=insL (g1 P) 15 (setL [(3,o3_0 P),(12,o12_1 P)] (t0 P))
theorem pc1(w:World)(os:OsState):segRun treeTable PW w 11 (some (r 6)) 1 196 (SharedT.abs ⟨t0 w.params,15,life,⟨[]⟩,drawn,187,os⟩) (piecesOf sts1 env cE ⟨0,0,0,0⟩ BB)=some (.next,(SharedT.abs ⟨t1 w.params,28,life,⟨[]⟩,drawn,207,os⟩),cE,⟨2,0,3,8⟩):=segRun_of (w0v (by kernel_rfl))
noncomputable def sts2:List Stmt:=[top 2]
noncomputable def e3_1(P:Params):List DictEntry:=(e3_0 P)++[en P "NoPart" 231 (r 44)]
noncomputable def o3_1(P:Params):Obj:=di (e3_1 P) 11
noncomputable def e12_2(P:Params):List Value:=e12_1 P++[(i 4 0),(i 0 0),(r 33)]
noncomputable def o12_2(P:Params):Obj:=fl N (e12_2 P)
noncomputable def o24_1(P:Params):Obj:=co "WearError" [(ty "ValueError")] [(r 24),(ty "ValueError"),(ty "Exception"),(ty "BaseException"),(ty "object")] 23 "WearError" true false [(r 44)] [some (r 15),none,some (s "WearError" 189),some (s "WearError" 197),some (bi "ValueError.__new__"),some (b true)]
noncomputable def g2(P:Params):List Obj:=[tp [(r 24)],fl (ty "builtin_function_or_method") [(bi "type.__prepare__"),(ty "type")],di [en P "__module__" 214 (s "wearplan.errors" 187),en P "__qualname__" 216 (s "NoPart" 215),en P "__firstlineno__" 218 (i 4 217),en P "__init__" 226 (r 41),en P "__static_attributes__" 228 (r 42)] 5,tp [],fl N [(i 6 0),(i 4 0),(r 40)],fl (ty "code") [(s "NoPart" 209),(s "NoPart" 210),(s "/claim/cut.py" 211),(i 4 0),(i 0 0),(i 0 0),(i 0 0),(i 0 0),(r 31),(b false),(i 181 0),(r 32),N,N,N,N,(i 212 0),(i 4 0),(s "/claim/cut.py" 213)],{cls:=(ty "frame"),slots:=⟨[some (r 33),some (r 3),some (r 30),none,some (s "wearplan.errors" 187),none,some (r 0)]⟩},tp [],fl N [],tp [(s "self" 222),(s "at" 223)],tp [],fn N "__init__" "NoPart.__init__" (L2.inClass (top 2) 0) 0 N N,fl (ty "code") [(s "__init__" 219),(s "NoPart.__init__" 220),(s "/claim/cut.py" 221),(i 6 0),(i 2 0),(i 0 0),(i 0 0),(i 3 0),(r 35),(b true),(i 181 0),(r 36),N,(r 37),(r 38),(r 39),(i 224 0),(i 6 0),(s "/claim/cut.py" 225)],fn (ty "function") "__init__" "NoPart.__init__" (L2.inClass (top 2) 0) 3 (s "wearplan.errors" 187) (r 40),tp [(s "at" 227)],di [en P "__module__" 214 (s "wearplan.errors" 187),en P "__firstlineno__" 218 (i 4 217),en P "__init__" 226 (r 41),en P "__static_attributes__" 228 (r 42),en P "__doc__" 229 N] 2,co "NoPart" [(r 24)] [(r 44),(r 24),(ty "ValueError"),(ty "Exception"),(ty "BaseException"),(ty "object")] 43 "NoPart" true false [] [some (r 28),none,some (s "NoPart" 207),some (s "NoPart" 215),some (bi "ValueError.__new__"),some (b true)],fl (ty "super") [(r 44),(r 44),(r 44)],fl (ty "builtin_function_or_method") [(bi "object.__init_subclass__"),(r 44)]]
noncomputable def t2(P:Params):BT:=insL (g2 P) 28 (setL [(3,o3_1 P),(12,o12_2 P),(24,o24_1 P)] (t1 P))
theorem pc2(w:World)(os:OsState):segRun treeTable PW w 11 (some (r 6)) 1 246 (SharedT.abs ⟨t1 w.params,28,life,⟨[]⟩,drawn,207,os⟩) (piecesOf sts2 env cE ⟨2,0,3,8⟩ BB)=some (.next,(SharedT.abs ⟨t2 w.params,47,life,⟨[]⟩,drawn,232,os⟩),cE,⟨4,0,7,20⟩):=segRun_of (w0v (by kernel_rfl))
noncomputable def sts3:List Stmt:=[top 3,top 4,top 5,top 6,top 7,top 8,top 9]
noncomputable def e3_2(P:Params):List DictEntry:=((e3_1 P).set 0 (en P "__name__" 165 (s "wearplan.parts" 288)))++[en P "NoText" 256 (r 63),en P "is_number" 265 (r 72),en P "is_whole" 274 (r 79),en P "is_row" 281 (r 86),en P "is_whole_row" 287 (r 91)]
noncomputable def o3_2(P:Params):Obj:=di (e3_2 P) 16
noncomputable def e12_3(P:Params):List Value:=e12_2 P++[(i 8 0),(i 0 0),(r 52),(i 13 0),(i 0 0),(r 71),(i 15 0),(i 0 0),(r 78),(i 17 0),(i 0 0),(r 85),(i 19 0),(i 0 0),(r 90)]
noncomputable def o12_3(P:Params):Obj:=fl N (e12_3 P)
noncomputable def z1c(P:Params):Obj:=co "WearError" [(ty "ValueError")] [(r 24),(ty "ValueError"),(ty "Exception"),(ty "BaseException"),(ty "object")] 23 "WearError" true false [(r 44),(r 63)] [some (r 15),none,some (s "WearError" 189),some (s "WearError" 197),some (bi "ValueError.__new__"),some (b true)]
noncomputable def g3(P:Params):List Obj:=(tp [(r 24)]::fl (ty "builtin_function_or_method") [(bi "type.__prepare__"),(ty "type")]::di [en P "__module__" 239 (s "wearplan.errors" 187),en P "__qualname__" 241 (s "NoText" 240),en P "__firstlineno__" 243 (i 8 242),en P "__init__" 251 (r 60),en P "__static_attributes__" 253 (r 61)] 5::tp []::fl N [(i 10 0),(i 4 0),(r 59)]::fl (ty "code") [(s "NoText" 234),(s "NoText" 235),(s "/claim/cut.py" 236),(i 8 0),(i 0 0),(i 0 0),(i 0 0),(i 0 0),(r 50),(b false),(i 181 0),(r 51),N,N,N,N,(i 237 0),(i 8 0),(s "/claim/cut.py" 238)]::{cls:=(ty "frame"),slots:=⟨[some (r 52),some (r 3),some (r 49),none,some (s "wearplan.errors" 187),none,some (r 0)]⟩}::tp []::fl N []::tp [(s "self" 247),(s "row" 248)]::tp []::fn N "__init__" "NoText.__init__" (L2.inClass (top 3) 0) 0 N N::fl (ty "code") [(s "__init__" 244),(s "NoText.__init__" 245),(s "/claim/cut.py" 246),(i 10 0),(i 2 0),(i 0 0),(i 0 0),(i 3 0),(r 54),(b true),(i 181 0),(r 55),N,(r 56),(r 57),(r 58),(i 249 0),(i 10 0),(s "/claim/cut.py" 250)]::fn (ty "function") "__init__" "NoText.__init__" (L2.inClass (top 3) 0) 3 (s "wearplan.errors" 187) (r 59)::tp [(s "row" 252)]::di [en P "__module__" 239 (s "wearplan.errors" 187),en P "__firstlineno__" 243 (i 8 242),en P "__init__" 251 (r 60),en P "__static_attributes__" 253 (r 61),en P "__doc__" 254 N] 2::co "NoText" [(r 24)] [(r 63),(r 24),(ty "ValueError"),(ty "Exception"),(ty "BaseException"),(ty "object")] 62 "NoText" true false [] [some (r 47),none,some (s "NoText" 232),some (s "NoText" 240),some (bi "ValueError.__new__"),some (b true)]::fl (ty "super") [(r 63),(r 63),(r 63)]::fl (ty "builtin_function_or_method") [(bi "object.__init_subclass__"),(r 63)]::tp []::fl N []::tp [(s "thing" 262)]::tp []::fn N "is_number" "is_number" (top 5) 0 N N::fl (ty "code") [(s "is_number" 259),(s "is_number" 260),(s "/claim/cut.py" 261),(i 13 0),(i 1 0),(i 0 0),(i 0 0),(i 3 0),(r 66),(b true),(i 181 0),(r 67),N,(r 68),(r 69),(r 70),(i 263 0),(i 13 0),(s "/claim/cut.py" 264)]::fn (ty "function") "is_number" "is_number" (top 5) 3 (s "wearplan.signs" 257) (r 71)::tp []::fl N []::tp [(s "thing" 269),(s "least" 270),(s "most" 271)]::tp []::fn N "is_whole" "is_whole" (top 6) 0 N N::fl (ty "code") [(s "is_whole" 266),(s "is_whole" 267),(s "/claim/cut.py" 268),(i 15 0),(i 3 0),(i 0 0),(i 0 0),(i 3 0),(r 73),(b true),(i 181 0),(r 74),N,(r 75),(r 76),(r 77),(i 272 0),(i 15 0),(s "/claim/cut.py" 273)]::fn (ty "function") "is_whole" "is_whole" (top 6) 3 (s "wearplan.signs" 257) (r 78)::tp []::fl N []::tp [(s "thing" 278)]::tp []::fn N "is_row" "is_row" (top 7) 0 N N::fl (ty "code") [(s "is_row" 275),(s "is_row" 276),(s "/claim/cut.py" 277),(i 17 0),(i 1 0),(i 0 0),(i 0 0),(i 3 0),(r 80),(b true),(i 181 0),(r 81),N,(r 82),(r 83),(r 84),(i 279 0),(i 17 0),(s "/claim/cut.py" 280)]::fn (ty "function") "is_row" "is_row" (top 7) 3 (s "wearplan.signs" 257) (r 85)::tp []::fl N []::fn N "is_whole_row" "is_whole_row" (top 8) 0 N N::fl (ty "code") [(s "is_whole_row" 282),(s "is_whole_row" 283),(s "/claim/cut.py" 284),(i 19 0),(i 5 0),(i 0 0),(i 0 0),(i 3 0),(r 87),(b true),(i 181 0),(r 88),N,N,N,(r 89),(i 285 0),(i 19 0),(s "/claim/cut.py" 286)]::fn (ty "function") "is_whole_row" "is_whole_row" (top 8) 3 (s "wearplan.signs" 257) (r 90):: [])
noncomputable def t3(P:Params):BT:=insL (g3 P) 47 (setL [(3,o3_2 P),(12,o12_3 P),(24,z1c P)] (t2 P))
theorem pc3(w:World)(os:OsState):segRun treeTable PW w 11 (some (r 6)) 1 379 (SharedT.abs ⟨t2 w.params,47,life,⟨[]⟩,drawn,232,os⟩) (piecesOf sts3 env cE ⟨4,0,7,20⟩ BB)=some (.next,(SharedT.abs ⟨t3 w.params,92,life,⟨[]⟩,drawn,290,os⟩),cE,⟨23,0,23,8⟩):=segRun_of (w0v (by kernel_rfl))
noncomputable def sts4:List Stmt:=[top 10,top 11,top 12,top 13,top 14,top 15,top 16,top 17,top 18]
noncomputable def e3_3(P:Params):List DictEntry:=((e3_2 P).set 0 (en P "__name__" 165 (s "law_wearplan_k34_parts_as_lines" 364)))++[en P "Part" 324 (r 108),en P "GREATEST_NUMBER" 328 (i 99 327),en P "numbers_shown" 334 (r 117),en P "show_part" 341 (r 124),en P "words_of" 347 (r 129),en P "number_of" 357 (r 136),en P "read_part" 363 (r 141)]
noncomputable def o3_3(P:Params):Obj:=di (e3_3 P) 23
noncomputable def e12_4(P:Params):List Value:=e12_3 P++[(i 24 0),(i 0 0),(r 97),(i 41 0),(i 0 0),(r 116),(i 43 0),(i 0 0),(r 123),(i 45 0),(i 0 0),(r 128),(i 47 0),(i 0 0),(r 135),(i 52 0),(i 0 0),(r 140)]
noncomputable def o12_4(P:Params):Obj:=fl N (e12_4 P)
noncomputable def g4(P:Params):List Obj:=(tp []::fl (ty "builtin_function_or_method") [(bi "type.__prepare__"),(ty "type")]::di [en P "__module__" 297 (s "wearplan.parts" 288),en P "__qualname__" 299 (s "Part" 298),en P "__firstlineno__" 301 (i 24 300),en P "__init__" 312 (r 105),en P "__static_attributes__" 317 (r 106)] 5::tp []::fl N [(i 26 0),(i 4 0),(r 104)]::fl (ty "code") [(s "Part" 292),(s "Part" 293),(s "/claim/cut.py" 294),(i 24 0),(i 0 0),(i 0 0),(i 0 0),(i 0 0),(r 95),(b false),(i 181 0),(r 96),N,N,N,N,(i 295 0),(i 24 0),(s "/claim/cut.py" 296)]::{cls:=(ty "frame"),slots:=⟨[some (r 97),some (r 3),some (r 94),none,some (s "wearplan.parts" 288),none,some (r 0)]⟩}::tp []::fl N []::tp [(s "self" 305),(s "full" 306),(s "mark" 307),(s "wear" 308),(s "price" 309)]::tp []::fn N "__init__" "Part.__init__" (L2.inClass (top 10) 0) 0 N N::fl (ty "code") [(s "__init__" 302),(s "Part.__init__" 303),(s "/claim/cut.py" 304),(i 26 0),(i 5 0),(i 0 0),(i 0 0),(i 3 0),(r 99),(b true),(i 181 0),(r 100),N,(r 101),(r 102),(r 103),(i 310 0),(i 26 0),(s "/claim/cut.py" 311)]::fn (ty "function") "__init__" "Part.__init__" (L2.inClass (top 10) 0) 3 (s "wearplan.parts" 288) (r 104)::tp [(s "full" 313),(s "mark" 314),(s "price" 315),(s "wear" 316)]::di [en P "__module__" 297 (s "wearplan.parts" 288),en P "__firstlineno__" 301 (i 24 300),en P "__init__" 312 (r 105),en P "__static_attributes__" 317 (r 106),en P "__dict__" 319 (r 109),en P "__weakref__" 321 (r 110),en P "__doc__" 322 N] 4::co "Part" [(ty "object")] [(r 108),(ty "object")] 107 "Part" true false [] [none,none,some (s "Part" 290),some (s "Part" 298),some (bi "object.__new__"),some (b true)]::fl (ty "getset_descriptor") [(s "__dict__" 318),(r 108),(bi "function.__dict__"),(bi "function.__dict__#set")]::fl (ty "getset_descriptor") [(s "__weakref__" 320),(r 108),(bi "ExceptionGroup.__weakref__"),N]::fl (ty "super") [(r 108),(r 108),(r 108)]::fl (ty "builtin_function_or_method") [(bi "object.__init_subclass__"),(r 108)]::tp []::fl N []::fn N "numbers_shown" "numbers_shown" (top 13) 0 N N::fl (ty "code") [(s "numbers_shown" 329),(s "numbers_shown" 330),(s "/claim/cut.py" 331),(i 41 0),(i 1 0),(i 0 0),(i 0 0),(i 3 0),(r 113),(b true),(i 181 0),(r 114),N,N,N,(r 115),(i 332 0),(i 41 0),(s "/claim/cut.py" 333)]::fn (ty "function") "numbers_shown" "numbers_shown" (top 13) 3 (s "wearplan.texts" 325) (r 116)::tp []::fl N []::tp [(s "part" 338)]::tp []::fn N "show_part" "show_part" (top 14) 0 N N::fl (ty "code") [(s "show_part" 335),(s "show_part" 336),(s "/claim/cut.py" 337),(i 43 0),(i 1 0),(i 0 0),(i 0 0),(i 3 0),(r 118),(b true),(i 181 0),(r 119),N,(r 120),(r 121),(r 122),(i 339 0),(i 43 0),(s "/claim/cut.py" 340)]::fn (ty "function") "show_part" "show_part" (top 14) 3 (s "wearplan.texts" 325) (r 123)::tp []::fl N []::fn N "words_of" "words_of" (top 15) 0 N N::fl (ty "code") [(s "words_of" 342),(s "words_of" 343),(s "/claim/cut.py" 344),(i 45 0),(i 1 0),(i 0 0),(i 0 0),(i 3 0),(r 125),(b true),(i 181 0),(r 126),N,N,N,(r 127),(i 345 0),(i 45 0),(s "/claim/cut.py" 346)]::fn (ty "function") "words_of" "words_of" (top 15) 3 (s "wearplan.texts" 325) (r 128)::tp []::fl N []::tp [(s "word" 351),(s "least" 352),(s "most" 353),(s "number" 354)]::tp []::fn N "number_of" "number_of" (top 16) 0 N N::fl (ty "code") [(s "number_of" 348),(s "number_of" 349),(s "/claim/cut.py" 350),(i 47 0),(i 3 0),(i 0 0),(i 0 0),(i 3 0),(r 130),(b true),(i 181 0),(r 131),N,(r 132),(r 133),(r 134),(i 355 0),(i 47 0),(s "/claim/cut.py" 356)]::fn (ty "function") "number_of" "number_of" (top 16) 3 (s "wearplan.texts" 325) (r 135)::tp []::fl N []::fn N "read_part" "read_part" (top 17) 0 N N::fl (ty "code") [(s "read_part" 358),(s "read_part" 359),(s "/claim/cut.py" 360),(i 52 0),(i 1 0),(i 0 0),(i 0 0),(i 3 0),(r 137),(b true),(i 181 0),(r 138),N,N,N,(r 139),(i 361 0),(i 52 0),(s "/claim/cut.py" 362)]::fn (ty "function") "read_part" "read_part" (top 17) 3 (s "wearplan.texts" 325) (r 140):: [])
noncomputable def t4(P:Params):BT:=insL (g4 P) 92 (setL [(3,o3_3 P),(12,o12_4 P)] (t3 P))
theorem pc4(w:World)(os:OsState):segRun treeTable PW w 11 (some (r 6)) 1 395 (SharedT.abs ⟨t3 w.params,92,life,⟨[]⟩,drawn,290,os⟩) (piecesOf sts4 env cE ⟨23,0,23,8⟩ BB)=some (.next,(SharedT.abs ⟨t4 w.params,142,life,⟨[]⟩,drawn,366,os⟩),cE,⟨64,0,64,8⟩):=segRun_of (w0v (by kernel_rfl))
noncomputable def sts5:List Stmt:=[top 19,top 20,top 21,top 22,top 23,top 24,top 25,top 26,top 27,top 28,top 29,top 30,top 31]
noncomputable def e3_4(P:Params):List DictEntry:=(e3_3 P)++[en P "_law_cell" 373 (r 148),en P "_law_draw" 383 (r 155),en P "_law_deck" 391 (r 162),en P "_law_take" 400 (r 169),en P "_law_number" 408 (r 176),en P "_law_row" 418 (r 183),en P "_law_spec" 424 (r 188),en P "_law_words" 430 (r 193),en P "_law_laid" 440 (r 200),en P "_law_bent" 453 (r 207),en P "_law_is" 461 (r 214),en P "_law_refused" 470 (r 221),en P "_law_signed" 482 (r 228)]
noncomputable def o3_4(P:Params):Obj:=di (e3_4 P) 36
noncomputable def e12_5(P:Params):List Value:=e12_4 P++[(i 65 0),(i 0 0),(r 147),(i 69 0),(i 0 0),(r 154),(i 73 0),(i 0 0),(r 161),(i 76 0),(i 0 0),(r 168),(i 83 0),(i 0 0),(r 175),(i 85 0),(i 0 0),(r 182),(i 92 0),(i 0 0),(r 187),(i 96 0),(i 0 0),(r 192),(i 99 0),(i 0 0),(r 199),(i 106 0),(i 0 0),(r 206),(i 128 0),(i 0 0),(r 213),(i 132 0),(i 0 0),(r 220),(i 141 0),(i 0 0),(r 227)]
noncomputable def o12_5(P:Params):Obj:=fl N (e12_5 P)
noncomputable def g5(P:Params):List Obj:=(tp []::fl N []::tp [(s "_law_script" 369),(s "_law_k" 370)]::tp []::fn N "_law_cell" "_law_cell" (top 19) 0 N N::fl (ty "code") [(s "_law_cell" 366),(s "_law_cell" 367),(s "/claim/cut.py" 368),(i 65 0),(i 2 0),(i 0 0),(i 0 0),(i 3 0),(r 142),(b true),(i 181 0),(r 143),N,(r 144),(r 145),(r 146),(i 371 0),(i 65 0),(s "/claim/cut.py" 372)]::fn (ty "function") "_law_cell" "_law_cell" (top 19) 3 (s "law_wearplan_k34_parts_as_lines" 364) (r 147)::tp []::fl N []::tp [(s "_law_script" 377),(s "_law_k" 378),(s "_law_many" 379),(s "_law_a" 380)]::tp []::fn N "_law_draw" "_law_draw" (top 20) 0 N N::fl (ty "code") [(s "_law_draw" 374),(s "_law_draw" 375),(s "/claim/cut.py" 376),(i 69 0),(i 3 0),(i 0 0),(i 0 0),(i 3 0),(r 149),(b true),(i 181 0),(r 150),N,(r 151),(r 152),(r 153),(i 381 0),(i 69 0),(s "/claim/cut.py" 382)]::fn (ty "function") "_law_draw" "_law_draw" (top 20) 3 (s "law_wearplan_k34_parts_as_lines" 364) (r 154)::tp []::fl N []::tp [(s "_law_script" 387),(s "_law_cell_here" 388)]::tp []::fn N "_law_deck" "_law_deck" (top 21) 0 N N::fl (ty "code") [(s "_law_deck" 384),(s "_law_deck" 385),(s "/claim/cut.py" 386),(i 73 0),(i 1 0),(i 0 0),(i 0 0),(i 3 0),(r 156),(b true),(i 181 0),(r 157),N,(r 158),(r 159),(r 160),(i 389 0),(i 73 0),(s "/claim/cut.py" 390)]::fn (ty "function") "_law_deck" "_law_deck" (top 21) 3 (s "law_wearplan_k34_parts_as_lines" 364) (r 161)::tp []::fl N []::tp [(s "_law_deck_here" 395),(s "_law_many" 396),(s "_law_digit" 397)]::tp []::fn N "_law_take" "_law_take" (top 22) 0 N N::fl (ty "code") [(s "_law_take" 392),(s "_law_take" 393),(s "/claim/cut.py" 394),(i 76 0),(i 2 0),(i 0 0),(i 0 0),(i 3 0),(r 163),(b true),(i 181 0),(r 164),N,(r 165),(r 166),(r 167),(i 398 0),(i 76 0),(s "/claim/cut.py" 399)]::fn (ty "function") "_law_take" "_law_take" (top 22) 3 (s "law_wearplan_k34_parts_as_lines" 364) (r 168)::tp []::fl N []::tp [(s "_law_found" 404),(s "_law_due" 405)]::tp []::fn N "_law_number" "_law_number" (top 23) 0 N N::fl (ty "code") [(s "_law_number" 401),(s "_law_number" 402),(s "/claim/cut.py" 403),(i 83 0),(i 2 0),(i 0 0),(i 0 0),(i 3 0),(r 170),(b true),(i 181 0),(r 171),N,(r 172),(r 173),(r 174),(i 406 0),(i 83 0),(s "/claim/cut.py" 407)]::fn (ty "function") "_law_number" "_law_number" (top 23) 3 (s "law_wearplan_k34_parts_as_lines" 364) (r 175)::tp []::fl N []::tp [(s "_law_found" 412),(s "_law_due" 413),(s "_law_one" 414),(s "_law_other" 415)]::tp []::fn N "_law_row" "_law_row" (top 24) 0 N N::fl (ty "code") [(s "_law_row" 409),(s "_law_row" 410),(s "/claim/cut.py" 411),(i 85 0),(i 2 0),(i 0 0),(i 0 0),(i 3 0),(r 177),(b true),(i 181 0),(r 178),N,(r 179),(r 180),(r 181),(i 416 0),(i 85 0),(s "/claim/cut.py" 417)]::fn (ty "function") "_law_row" "_law_row" (top 24) 3 (s "law_wearplan_k34_parts_as_lines" 364) (r 182)::tp []::fl N []::fn N "_law_spec" "_law_spec" (top 25) 0 N N::fl (ty "code") [(s "_law_spec" 419),(s "_law_spec" 420),(s "/claim/cut.py" 421),(i 92 0),(i 1 0),(i 0 0),(i 0 0),(i 3 0),(r 184),(b true),(i 181 0),(r 185),N,N,N,(r 186),(i 422 0),(i 92 0),(s "/claim/cut.py" 423)]::fn (ty "function") "_law_spec" "_law_spec" (top 25) 3 (s "law_wearplan_k34_parts_as_lines" 364) (r 187)::tp []::fl N []::fn N "_law_words" "_law_words" (top 26) 0 N N::fl (ty "code") [(s "_law_words" 425),(s "_law_words" 426),(s "/claim/cut.py" 427),(i 96 0),(i 1 0),(i 0 0),(i 0 0),(i 3 0),(r 189),(b true),(i 181 0),(r 190),N,N,N,(r 191),(i 428 0),(i 96 0),(s "/claim/cut.py" 429)]::fn (ty "function") "_law_words" "_law_words" (top 26) 3 (s "law_wearplan_k34_parts_as_lines" 364) (r 192)::tp []::fl N []::tp [(s "_law_deck_here" 434),(s "_law_words_here" 435),(s "_law_line" 436),(s "_law_word" 437)]::tp []::fn N "_law_laid" "_law_laid" (top 27) 0 N N::fl (ty "code") [(s "_law_laid" 431),(s "_law_laid" 432),(s "/claim/cut.py" 433),(i 99 0),(i 2 0),(i 0 0),(i 0 0),(i 3 0),(r 194),(b true),(i 181 0),(r 195),N,(r 196),(r 197),(r 198),(i 438 0),(i 99 0),(s "/claim/cut.py" 439)]::fn (ty "function") "_law_laid" "_law_laid" (top 27) 3 (s "law_wearplan_k34_parts_as_lines" 364) (r 199)::tp []::fl N []::tp [(s "_law_deck_here" 444),(s "_law_spec_here" 445),(s "_law_words_here" 446),(s "_law_found" 447),(s "_law_kind" 448),(s "_law_at" 449),(s "_law_things" 450)]::tp []::fn N "_law_bent" "_law_bent" (top 28) 0 N N::fl (ty "code") [(s "_law_bent" 441),(s "_law_bent" 442),(s "/claim/cut.py" 443),(i 106 0),(i 3 0),(i 0 0),(i 0 0),(i 3 0),(r 201),(b true),(i 181 0),(r 202),N,(r 203),(r 204),(r 205),(i 451 0),(i 106 0),(s "/claim/cut.py" 452)]::fn (ty "function") "_law_bent" "_law_bent" (top 28) 3 (s "law_wearplan_k34_parts_as_lines" 364) (r 206)::tp []::fl N []::tp [(s "_law_part" 457),(s "_law_spec_here" 458)]::tp []::fn N "_law_is" "_law_is" (top 29) 0 N N::fl (ty "code") [(s "_law_is" 454),(s "_law_is" 455),(s "/claim/cut.py" 456),(i 128 0),(i 2 0),(i 0 0),(i 0 0),(i 3 0),(r 208),(b true),(i 181 0),(r 209),N,(r 210),(r 211),(r 212),(i 459 0),(i 128 0),(s "/claim/cut.py" 460)]::fn (ty "function") "_law_is" "_law_is" (top 29) 3 (s "law_wearplan_k34_parts_as_lines" 364) (r 213)::tp []::fl N []::tp [(s "_law_text" 465),(s "_law_found" 466),(s "e" 467)]::tp []::fn N "_law_refused" "_law_refused" (top 30) 0 N N::fl (ty "code") [(s "_law_refused" 462),(s "_law_refused" 463),(s "/claim/cut.py" 464),(i 132 0),(i 1 0),(i 0 0),(i 0 0),(i 3 0),(r 215),(b true),(i 181 0),(r 216),N,(r 217),(r 218),(r 219),(i 468 0),(i 132 0),(s "/claim/cut.py" 469)]::fn (ty "function") "_law_refused" "_law_refused" (top 30) 3 (s "law_wearplan_k34_parts_as_lines" 364) (r 220)::tp []::fl N []::tp [(s "_law_deck_here" 474),(s "_law_text" 475),(s "_law_signs" 476),(s "_law_at" 477),(s "_law_sign" 478),(s "_law_kind" 479)]::tp []::fn N "_law_signed" "_law_signed" (top 31) 0 N N::fl (ty "code") [(s "_law_signed" 471),(s "_law_signed" 472),(s "/claim/cut.py" 473),(i 141 0),(i 2 0),(i 0 0),(i 0 0),(i 3 0),(r 222),(b true),(i 181 0),(r 223),N,(r 224),(r 225),(r 226),(i 480 0),(i 141 0),(s "/claim/cut.py" 481)]::fn (ty "function") "_law_signed" "_law_signed" (top 31) 3 (s "law_wearplan_k34_parts_as_lines" 364) (r 227):: [])
noncomputable def t5(P:Params):BT:=insL (g5 P) 142 (setL [(3,o3_4 P),(12,o12_5 P)] (t4 P))
theorem pc5(w:World)(os:OsState):segRun treeTable PW w 11 (some (r 6)) 1 400 (SharedT.abs ⟨t4 w.params,142,life,⟨[]⟩,drawn,366,os⟩) (piecesOf sts5 env cE ⟨64,0,64,8⟩ BB)=some (.next,(SharedT.abs ⟨t5 w.params,229,life,⟨[]⟩,drawn,483,os⟩),cE,⟨141,0,150,56⟩):=segRun_of (w0v (by kernel_rfl))
noncomputable def sts6:List Stmt:=[top 32,top 33,top 34,top 35,top 36]
noncomputable def e3_5(P:Params):List DictEntry:=(e3_4 P)++[en P "_law_whole" 488 (r 233),en P "_law_reading" 494 (r 238),en P "_law_judged" 502 (r 245),en P "_law_same" 510 (r 252),en P "law" 524 (r 259)]
noncomputable def o3_5(P:Params):Obj:=di (e3_5 P) 41
noncomputable def e12_6(P:Params):List Value:=e12_5 P++[(i 151 0),(i 0 0),(r 232),(i 157 0),(i 0 0),(r 237),(i 171 0),(i 0 0),(r 244),(i 178 0),(i 0 0),(r 251),(i 180 0),(i 0 0),(r 258)]
noncomputable def o12_6(P:Params):Obj:=fl N (e12_6 P)
noncomputable def g6(P:Params):List Obj:=[tp [],fl N [],fn N "_law_whole" "_law_whole" (top 32) 0 N N,fl (ty "code") [(s "_law_whole" 483),(s "_law_whole" 484),(s "/claim/cut.py" 485),(i 151 0),(i 3 0),(i 0 0),(i 0 0),(i 3 0),(r 229),(b true),(i 181 0),(r 230),N,N,N,(r 231),(i 486 0),(i 151 0),(s "/claim/cut.py" 487)],fn (ty "function") "_law_whole" "_law_whole" (top 32) 3 (s "law_wearplan_k34_parts_as_lines" 364) (r 232),tp [],fl N [],fn N "_law_reading" "_law_reading" (top 33) 0 N N,fl (ty "code") [(s "_law_reading" 489),(s "_law_reading" 490),(s "/claim/cut.py" 491),(i 157 0),(i 1 0),(i 0 0),(i 0 0),(i 3 0),(r 234),(b true),(i 181 0),(r 235),N,N,N,(r 236),(i 492 0),(i 157 0),(s "/claim/cut.py" 493)],fn (ty "function") "_law_reading" "_law_reading" (top 33) 3 (s "law_wearplan_k34_parts_as_lines" 364) (r 237),tp [],fl N [],tp [(s "_law_text" 498),(s "_law_due" 499)],tp [],fn N "_law_judged" "_law_judged" (top 34) 0 N N,fl (ty "code") [(s "_law_judged" 495),(s "_law_judged" 496),(s "/claim/cut.py" 497),(i 171 0),(i 1 0),(i 0 0),(i 0 0),(i 3 0),(r 239),(b true),(i 181 0),(r 240),N,(r 241),(r 242),(r 243),(i 500 0),(i 171 0),(s "/claim/cut.py" 501)],fn (ty "function") "_law_judged" "_law_judged" (top 34) 3 (s "law_wearplan_k34_parts_as_lines" 364) (r 244),tp [],fl N [],tp [(s "_law_spec_here" 506),(s "_law_words_here" 507)],tp [],fn N "_law_same" "_law_same" (top 35) 0 N N,fl (ty "code") [(s "_law_same" 503),(s "_law_same" 504),(s "/claim/cut.py" 505),(i 178 0),(i 2 0),(i 0 0),(i 0 0),(i 3 0),(r 246),(b true),(i 181 0),(r 247),N,(r 248),(r 249),(r 250),(i 508 0),(i 178 0),(s "/claim/cut.py" 509)],fn (ty "function") "_law_same" "_law_same" (top 35) 3 (s "law_wearplan_k34_parts_as_lines" 364) (r 251),tp [],fl N [],tp [(s "_law_script" 514),(s "_law_deck_here" 515),(s "_law_spec_here" 516),(s "_law_words_here" 517),(s "_law_line" 518),(s "_law_bent_here" 519),(s "_law_thing" 520),(s "_law_turn" 521)],tp [],fn N "law" "law" (top 36) 0 N N,fl (ty "code") [(s "law" 511),(s "law" 512),(s "/claim/cut.py" 513),(i 180 0),(i 1 0),(i 0 0),(i 0 0),(i 3 0),(r 253),(b true),(i 181 0),(r 254),N,(r 255),(r 256),(r 257),(i 522 0),(i 180 0),(s "/claim/cut.py" 523)],fn (ty "function") "law" "law" (top 36) 3 (s "law_wearplan_k34_parts_as_lines" 364) (r 258)]
noncomputable def t6(P:Params):BT:=insL (g6 P) 229 (setL [(3,o3_5 P),(12,o12_6 P)] (t5 P))
theorem pc6(w:World)(os:OsState):segRun treeTable PW w 11 (some (r 6)) 1 149 (SharedT.abs ⟨t5 w.params,229,life,⟨[]⟩,drawn,483,os⟩) (piecesOf sts6 env cE ⟨141,0,150,56⟩ BB)=some (.next,(SharedT.abs ⟨t6 w.params,260,life,⟨[]⟩,drawn,525,os⟩),cE,⟨180,0,198,56⟩):=segRun_of (w0v (by kernel_rfl))
noncomputable def HF(P:Params):Heap:=⟨⟨[(boot_o_0 P),(boot_o_1 P),(boot_o_2 P),(o3_5 P),(boot_o_4 P),(boot_o_5 P),(boot_o_6 P),(boot_o_7 P),(boot_o_8 P),(boot_o_9 P),(boot_o_10 P),(o11_0 P),(o12_6 P),(o13_0 P),(o14_0 P)]++(((g1 P).set 9 (z1c P))++((g2 P)++((g3 P)++((g4 P)++((g5 P)++((g6 P)))))))⟩,life⟩
theorem fin(w:World)(os:OsState):topRun treeTable PW w 11 (some (r 6)) 2 (SharedT.abs ⟨t6 w.params,260,life,⟨[]⟩,drawn,525,os⟩) (restOf [] env cE ⟨180,0,198,56⟩ BB)=some ⟨HF w.params,⟨[]⟩,drawn,525,os⟩:=piece_nil (z1s (by kernel_rfl))
theorem z1b:behindTheImports PW=(sts1++(sts2++(sts3++(sts4++(sts5++(sts6++[])))))):=by kernel_rfl
theorem run(w:World)(os:OsState):topRun treeTable PW w 11 (some (r 6)) (12+(1+(196+(246+(379+(395+(400+(149+2)))))))) ⟨boot_heap w.params,⟨[]⟩,boot_drawn,boot_toks,os⟩ (topStub PW)=some ⟨HF w.params,⟨[]⟩,drawn,525,os⟩:=
 go_top (pre w os) (p0c z1b (blk w os) (piece_app (pc1 w os) (piece_app (pc2 w os) (piece_app (pc3 w os) (piece_app (pc4 w os) (piece_app (pc5 w os) (piece_app (pc6 w os) (fin w os))))))))
noncomputable def K(P:Params):Frag:=((nat_lit 2,boot_o_2 P)::(nat_lit 3,o3_5 P)::(nat_lit 15,x g1 0 P)::(nat_lit 22,x g1 7 P)::(nat_lit 23,x g1 8 P)::(nat_lit 24,z1c P)::(nat_lit 25,x g1 10 P)::(nat_lit 28,x g2 0 P)::(nat_lit 35,x g2 7 P)::(nat_lit 37,x g2 9 P)::(nat_lit 38,x g2 10 P)::(nat_lit 40,x g2 12 P)::(nat_lit 41,x g2 13 P)::(nat_lit 42,x g2 14 P)::(nat_lit 43,x g2 15 P)::(nat_lit 44,x g2 16 P)::(nat_lit 47,x g3 0 P)::(nat_lit 54,x g3 7 P)::(nat_lit 56,x g3 9 P)::(nat_lit 57,x g3 10 P)::(nat_lit 59,x g3 12 P)::(nat_lit 60,x g3 13 P)::(nat_lit 61,x g3 14 P)::(nat_lit 62,x g3 15 P)::(nat_lit 63,x g3 16 P)::(nat_lit 66,x g3 19 P)::(nat_lit 68,x g3 21 P)::(nat_lit 69,x g3 22 P)::(nat_lit 71,x g3 24 P)::(nat_lit 72,x g3 25 P)::(nat_lit 73,x g3 26 P)::(nat_lit 75,x g3 28 P)::(nat_lit 76,x g3 29 P)::(nat_lit 78,x g3 31 P)::(nat_lit 79,x g3 32 P)::(nat_lit 80,x g3 33 P)::(nat_lit 82,x g3 35 P)::(nat_lit 83,x g3 36 P)::(nat_lit 85,x g3 38 P)::(nat_lit 86,x g3 39 P)::(nat_lit 87,x g3 40 P)::(nat_lit 90,x g3 43 P)::(nat_lit 91,x g3 44 P)::(nat_lit 99,x g4 7 P)::(nat_lit 101,x g4 9 P)::(nat_lit 102,x g4 10 P)::(nat_lit 104,x g4 12 P)::(nat_lit 105,x g4 13 P)::(nat_lit 106,x g4 14 P)::(nat_lit 107,x g4 15 P)::(nat_lit 108,x g4 16 P)::(nat_lit 109,x g4 17 P)::(nat_lit 110,x g4 18 P)::(nat_lit 113,x g4 21 P)::(nat_lit 116,x g4 24 P)::(nat_lit 117,x g4 25 P)::(nat_lit 118,x g4 26 P)::(nat_lit 120,x g4 28 P)::(nat_lit 121,x g4 29 P)::(nat_lit 123,x g4 31 P)::(nat_lit 124,x g4 32 P)::(nat_lit 125,x g4 33 P)::(nat_lit 128,x g4 36 P)::(nat_lit 129,x g4 37 P)::(nat_lit 130,x g4 38 P)::(nat_lit 132,x g4 40 P)::(nat_lit 133,x g4 41 P)::(nat_lit 135,x g4 43 P)::(nat_lit 136,x g4 44 P)::(nat_lit 137,x g4 45 P)::(nat_lit 140,x g4 48 P)::(nat_lit 141,x g4 49 P)::(nat_lit 142,x g5 0 P)::(nat_lit 144,x g5 2 P)::(nat_lit 145,x g5 3 P)::(nat_lit 147,x g5 5 P)::(nat_lit 148,x g5 6 P)::(nat_lit 149,x g5 7 P)::(nat_lit 151,x g5 9 P)::(nat_lit 152,x g5 10 P)::(nat_lit 154,x g5 12 P)::(nat_lit 155,x g5 13 P)::(nat_lit 156,x g5 14 P)::(nat_lit 158,x g5 16 P)::(nat_lit 159,x g5 17 P)::(nat_lit 161,x g5 19 P)::(nat_lit 162,x g5 20 P)::(nat_lit 163,x g5 21 P)::(nat_lit 165,x g5 23 P)::(nat_lit 166,x g5 24 P)::(nat_lit 168,x g5 26 P)::(nat_lit 169,x g5 27 P)::(nat_lit 170,x g5 28 P)::(nat_lit 172,x g5 30 P)::(nat_lit 173,x g5 31 P)::(nat_lit 175,x g5 33 P)::(nat_lit 176,x g5 34 P)::(nat_lit 177,x g5 35 P)::(nat_lit 179,x g5 37 P)::(nat_lit 180,x g5 38 P)::(nat_lit 182,x g5 40 P)::(nat_lit 183,x g5 41 P)::(nat_lit 184,x g5 42 P)::(nat_lit 187,x g5 45 P)::(nat_lit 188,x g5 46 P)::(nat_lit 189,x g5 47 P)::(nat_lit 192,x g5 50 P)::(nat_lit 193,x g5 51 P)::(nat_lit 194,x g5 52 P)::(nat_lit 196,x g5 54 P)::(nat_lit 197,x g5 55 P)::(nat_lit 199,x g5 57 P)::(nat_lit 200,x g5 58 P)::(nat_lit 201,x g5 59 P)::(nat_lit 203,x g5 61 P)::(nat_lit 204,x g5 62 P)::(nat_lit 206,x g5 64 P)::(nat_lit 207,x g5 65 P)::(nat_lit 208,x g5 66 P)::(nat_lit 210,x g5 68 P)::(nat_lit 211,x g5 69 P)::(nat_lit 213,x g5 71 P)::(nat_lit 214,x g5 72 P)::(nat_lit 215,x g5 73 P)::(nat_lit 217,x g5 75 P)::(nat_lit 218,x g5 76 P)::(nat_lit 220,x g5 78 P)::(nat_lit 221,x g5 79 P)::(nat_lit 222,x g5 80 P)::(nat_lit 224,x g5 82 P)::(nat_lit 225,x g5 83 P)::(nat_lit 227,x g5 85 P)::(nat_lit 228,x g5 86 P)::(nat_lit 229,x g6 0 P)::(nat_lit 232,x g6 3 P)::(nat_lit 233,x g6 4 P)::(nat_lit 234,x g6 5 P)::(nat_lit 237,x g6 8 P)::(nat_lit 238,x g6 9 P)::(nat_lit 239,x g6 10 P)::(nat_lit 241,x g6 12 P)::(nat_lit 242,x g6 13 P)::(nat_lit 244,x g6 15 P)::(nat_lit 245,x g6 16 P)::(nat_lit 246,x g6 17 P)::(nat_lit 248,x g6 19 P)::(nat_lit 249,x g6 20 P)::(nat_lit 251,x g6 22 P)::(nat_lit 252,x g6 23 P)::(nat_lit 253,x g6 24 P)::(nat_lit 255,x g6 26 P)::(nat_lit 256,x g6 27 P)::(nat_lit 258,x g6 29 P)::(nat_lit 259,x g6 30 P):: [])
noncomputable def as:List Addr:=(nat_lit 2::nat_lit 3::nat_lit 15::nat_lit 22::nat_lit 23::nat_lit 24::nat_lit 25::nat_lit 28::nat_lit 35::nat_lit 37::nat_lit 38::nat_lit 40::nat_lit 41::nat_lit 42::nat_lit 43::nat_lit 44::nat_lit 47::nat_lit 54::nat_lit 56::nat_lit 57::nat_lit 59::nat_lit 60::nat_lit 61::nat_lit 62::nat_lit 63::nat_lit 66::nat_lit 68::nat_lit 69::nat_lit 71::nat_lit 72::nat_lit 73::nat_lit 75::nat_lit 76::nat_lit 78::nat_lit 79::nat_lit 80::nat_lit 82::nat_lit 83::nat_lit 85::nat_lit 86::nat_lit 87::nat_lit 90::nat_lit 91::nat_lit 99::nat_lit 101::nat_lit 102::nat_lit 104::nat_lit 105::nat_lit 106::nat_lit 107::nat_lit 108::nat_lit 109::nat_lit 110::nat_lit 113::nat_lit 116::nat_lit 117::nat_lit 118::nat_lit 120::nat_lit 121::nat_lit 123::nat_lit 124::nat_lit 125::nat_lit 128::nat_lit 129::nat_lit 130::nat_lit 132::nat_lit 133::nat_lit 135::nat_lit 136::nat_lit 137::nat_lit 140::nat_lit 141::nat_lit 142::nat_lit 144::nat_lit 145::nat_lit 147::nat_lit 148::nat_lit 149::nat_lit 151::nat_lit 152::nat_lit 154::nat_lit 155::nat_lit 156::nat_lit 158::nat_lit 159::nat_lit 161::nat_lit 162::nat_lit 163::nat_lit 165::nat_lit 166::nat_lit 168::nat_lit 169::nat_lit 170::nat_lit 172::nat_lit 173::nat_lit 175::nat_lit 176::nat_lit 177::nat_lit 179::nat_lit 180::nat_lit 182::nat_lit 183::nat_lit 184::nat_lit 187::nat_lit 188::nat_lit 189::nat_lit 192::nat_lit 193::nat_lit 194::nat_lit 196::nat_lit 197::nat_lit 199::nat_lit 200::nat_lit 201::nat_lit 203::nat_lit 204::nat_lit 206::nat_lit 207::nat_lit 208::nat_lit 210::nat_lit 211::nat_lit 213::nat_lit 214::nat_lit 215::nat_lit 217::nat_lit 218::nat_lit 220::nat_lit 221::nat_lit 222::nat_lit 224::nat_lit 225::nat_lit 227::nat_lit 228::nat_lit 229::nat_lit 232::nat_lit 233::nat_lit 234::nat_lit 237::nat_lit 238::nat_lit 239::nat_lit 241::nat_lit 242::nat_lit 244::nat_lit 245::nat_lit 246::nat_lit 248::nat_lit 249::nat_lit 251::nat_lit 252::nat_lit 253::nat_lit 255::nat_lit 256::nat_lit 258::nat_lit 259:: [])
noncomputable def Q:Program:={PW with main:={PW.main with body:=[top 1,top 2,top 3,top 5,top 6,top 7,top 8,top 10,top 12,top 13,top 14,top 15,top 16,top 17,top 19,top 20,top 21,top 22,top 23,top 24,top 25,top 26,top 27,top 28,top 29,top 30,top 31,top 32,top 33,top 34,top 35,top 36]}}
noncomputable abbrev HK:Hook:=kHook K as (fun _=>by kernel_rfl)
noncomputable abbrev RR:RowW:=OpenRow.toRowW (OpenLaw.row PySem.Challenge.rw_wearplan_k34_parts_as_lines)
noncomputable abbrev Xt(s:Shared):Bool:=xlAt Q [] s&&recOk (RowW.records RR) s
theorem z1a(w:World):((boot_heap w.params).isNs mainGlobals&&(Array.mk ([]:List GenState)).size==0,(boot_heap w.params).objs.size,(boot_heap w.params).nsMap mainGlobals "__annotations__")=(true,11,some (.ref 6)):=by kernel_rfl
theorem look1(w:World)(os:OsState):(staticsOk (importedModules PW.main.body) (boot_heap w.params) (HF w.params)&&namesBound PW (HF w.params)&&gensDone (⟨HF w.params,⟨[]⟩,drawn,525,os⟩:Shared)&&laidKept (boot_heap w.params) (HF w.params))=true:=by kernel_rfl
theorem look2(w:World)(os:OsState):openSeen Q [] (importedModules PW.main.body) Xt true (⟨HF w.params,⟨[]⟩,drawn,525,os⟩:Shared)=openGood Q []:=by
 rw[PySem.W.Fast.te4187177175401517315,PySem.W.Fast.te5923862056798008813];kernel_rfl
theorem look3(w:World)(os:OsState):HK.obs (⟨HF w.params,⟨[]⟩,drawn,525,os⟩:Shared)=HK.val w:=by kernel_rfl
theorem k0b:opening PW=plainProg PW.main.scope.names:=by kernel_rfl
theorem d0k(s:Shared):fenceModules? PW s=some s:=by kernel_rfl
theorem left:LeftO PW Q [] Xt HK.obs HK.val 3644:=
 LeftO.of_pieces (boot_open k0b (by decide) d0k) z1a run (by decide) fun w=>funext fun os=>Prod.ext (look1 w os) (Prod.ext (look2 w os) (look3 w os))
theorem ws:OpenLaw.wellSaid PySem.Challenge.rw_wearplan_k34_parts_as_lines=true:=by
 rw[PySem.W.Fast.te9446332074065402090];kernel_rfl
end HD34
local macro_rules
 | `(tactic|walk_at "n0")=>`(tactic|exact PySem.W.mg_none_of (by assumption) (by assumption) (by k_is))
 | `(tactic|walk_at "n1")=>`(tactic|exact ⟨_,PySem.W.mg_of (by assumption) (by assumption) (by k_is)⟩)
 | `(tactic|walk_at "n2")=>`(tactic|exact PySem.W.mg_of (by assumption) (by assumption) (by k_is))
 | `(tactic|walk_at "tr")=>`(tactic|exact DL.topRow3 (PySem.W.mg_of (by assumption) (by assumption) (by k_is)) (by k_is))
 | `(tactic|walk_at "hd")=>`(tactic|exact ⟨by k_is,by kernel_rfl,by k_is⟩)
 | `(tactic|walk_at "ci")=>`(tactic|exact ⟨⟨by k_is,by k_is,by k_is,by k_is⟩,by k_is,by k_is,by k_is,by k_is⟩)
 | `(tactic|walk_at "kn")=>`(tactic|exact ⟨by kernel_rfl,by kernel_rfl,by kernel_rfl,by kernel_rfl,by kernel_rfl,by kernel_rfl,by kernel_rfl⟩)
 | `(tactic|walk_at "na")=>`(tactic|(unfold L2.NoAttr;k_is))
 | `(tactic|walk_at "kr")=>`(tactic|kernel_rfl)
 | `(tactic|walk_at "x0")=>`(tactic|exact ⟨by kernel_rfl,by k_is⟩)
 | `(tactic|walk_at "er")=>`(tactic|exact ⟨by kernel_rfl,by k_is,⟨by kernel_rfl,by k_is,by k_is,by k_is,by k_is,by k_is,by k_is,by k_is⟩⟩)
 | `(tactic|walk_at "ff")=>`(tactic|exact ⟨_,_,by k_is,⟨⟨_,_,_,_,_,_,_,_,_,rfl,by k_is,by k_is⟩,by k_is⟩⟩)
 | `(tactic|walk_at "xm")=>`(tactic|exact ⟨_,_,⟨by kernel_rfl,by k_is,by k_is,by k_is⟩,⟨⟨_,_,_,_,_,_,_,_,_,rfl,by k_is,by k_is⟩,by k_is⟩⟩)
 | `(tactic|walk_at "mk")=>`(tactic|exact ⟨_,_,⟨by k_is,by k_is,by k_is,by k_is⟩,⟨⟨_,_,_,_,_,_,_,_,_,rfl,by k_is,by k_is⟩,by k_is⟩⟩)
open PySem PySem.W PyProof.Rows
set_option maxRecDepth 100000 in
set_option maxHeartbeats 0 in
theorem PySem.Challenge.cw_wearplan_k34_parts_as_lines_holds : PySem.Challenge.rw_wearplan_k34_parts_as_lines.Holds := by
 w_on
 refine holds_law HD34.ws fun said=>?_
 refine holds_open (r:=OpenLaw.row PySem.Challenge.rw_wearplan_k34_parts_as_lines) (q:=HD34.Q) (loose:=[]) (Xt:=HD34.Xt) (XP:=XL HD34.Q []) (Yf:=HD34.HK.obs) (Ya:=HD34.HK.val) (YP:=InK HD34.K) (N:=3644) HD34.left (Hook.of HD34.HK) (Hook.keeps HD34.HK) (fun s e=>xl_of s (Bool.and_eq_true_iff.mp e).1) XL.keeps (by rfl) (by rfl) (by rfl) (fun s e=>recFacts_of (Bool.and_eq_true_iff.mp e).2) (by rfl) said (by decide +kernel) ⟨rfl,rfl,rfl,rfl,rfl,by decide +kernel⟩ ?hw ?hc
 (case hw=>w_witness2)
 k_fill
 refine DL.walk2 (l:=PySem.Challenge.rw_wearplan_k34_parts_as_lines) (k:=10) (x:="_law_script") rfl rfl ⟨rfl,by decide,by decide⟩ (fun w h Y=>(show (HD34.K w.params).In h from Y)) fun w mg fa h KX G hmg=>?_
 have T:K34.Txt (HD34.K w.params) mg ⟨24,108,44,63⟩:=⟨by walk_at "n0",by walk_at "n0",by walk_at "n0",by walk_at "n0",by walk_at "n0",by walk_at "n0",by walk_at "n0",by walk_at "n0",by walk_at "n0",by walk_at "n0",by walk_at "n0",by walk_at "n0",by walk_at "n1",by walk_at "n2",by walk_at "hd",by walk_at "n2",by walk_at "ci",by walk_at "kn",by walk_at "na",by walk_at "na",by walk_at "na",by walk_at "na",List.forall_mem_cons.mpr ⟨by walk_at "er",List.forall_mem_cons.mpr ⟨by walk_at "er",List.forall_mem_nil _⟩⟩,by decide,by decide,by walk_at "n2",by walk_at "hd",by walk_at "kr",by walk_at "na",by walk_at "n2",by walk_at "hd",by walk_at "kr",by walk_at "na"⟩;exact K34.all_mk KX G hmg T (by walk_at "ff") (by walk_at "ff") (by walk_at "ff") (by walk_at "ff") (by walk_at "ff") (by walk_at "ff") (by walk_at "ff") (by walk_at "ff") (by walk_at "ff") (by walk_at "ff") (by walk_at "ff") (by walk_at "ff") (by walk_at "ff") (by walk_at "ff") (by walk_at "ff") (by walk_at "ff") (by walk_at "ff") (by walk_at "ff") (by walk_at "ff") (by walk_at "ff") (by walk_at "ff") (by walk_at "ff") (by walk_at "ff") (by walk_at "ff") (by walk_at "ff") (by walk_at "ff") (by walk_at "ff") (by walk_at "xm") (by walk_at "xm") (by walk_at "mk")
