import PyProof.Rows.All
import Wide.All
import OpenK.AllK
import Wide.FinOn
import Lean
import PyProof.EqAt
import PyProof.EqKinds
import PyProof.TupleCall
import PyProof.CollectIter
import PyProof.TupleOfStr
import PyProof.TupleOfSeq
import PySem.Challenge.RW_wearplan_k31_whole_looking_pays
set_option compiler.extract_closed false
set_option bootstrap.genMatcherCode false
set_option genSizeOf false
set_option genSizeOfSpec false
set_option linter.all false
set_option linter.unusedVariables false
open PyProof.Rows in
local macro_rules | `(tactic|walk_at "v3")=>`(tactic|first |exact Or.inl rfl |exact Or.inr (Or.inl rfl)|exact Or.inr (Or.inr rfl))
open PyProof.Rows in
local macro_rules | `(tactic|walk_at "v2")=>`(tactic|first |exact Or.inl rfl |exact Or.inr rfl)
open PyProof.Rows in
local macro_rules | `(tactic|walk_at "v1")=>`(tactic|first |exact .inl rfl |exact .inr rfl)
set_option Elab.async false
set_option maxRecDepth 100000
namespace L2
open PySem PySem.Spec PyProof.Rows
noncomputable abbrev Key:=Sum Int Str
noncomputable def keyIs:Key→Value→Bool
 | .inl k,v=>Value.isInt k v
 | .inr x,v=>Value.isStrOf x v
noncomputable def keyH(w:World):Key→Int
 | .inl k=>hashInt k
 | .inr x=>hashStr w x
theorem n5:∀{k:Key} {v:Value},keyIs k v=true→(∃i t,k=Sum.inl i∧v=Value.int i t)∨(∃x t,k=Sum.inr x∧v=Value.str x t)
 | .inl i,v,h=>by
  obtain ⟨t,e⟩:=Value.isInt_shape (k:=i) (v:=v) h;exact .inl ⟨i,t,rfl,e⟩
 | .inr x,v,h=>by
  obtain ⟨t,e⟩:=Value.isStrOf_shape (x:=x) (v:=v) h;exact .inr ⟨x,t,rfl,e⟩
theorem key_ll(a b:Int):decide ((Sum.inl a:Key)=Sum.inl b)=(a==b):=by
 by_cases e:a=b
 ·subst e;simp
 ·have h:¬(Sum.inl a:Key)=Sum.inl b:=fun q=>e (Sum.inl.inj q)
  rw[decide_eq_false h];exact (beq_eq_false_iff_ne.mpr e).symm
theorem key_rr(a b:Str):decide ((Sum.inr a:Key)=Sum.inr b)=decide (a=b):=by
 by_cases e:a=b
 ·subst e;simp
 ·have h:¬(Sum.inr a:Key)=Sum.inr b:=fun q=>e (Sum.inr.inj q)
  rw[decide_eq_false h,decide_eq_false e]
theorem key_lr(a:Int)(b:Str):decide ((Sum.inl a:Key)=Sum.inr b)=false:=decide_eq_false (fun q=>nomatch q)
theorem key_rl(a:Str)(b:Int):decide ((Sum.inr a:Key)=Sum.inl b)=false:=decide_eq_false (fun q=>nomatch q)
noncomputable def i0q(prog:Program)(w:World):PySem.KeyKind prog w Key where
 is:=keyIs
 hash:=keyH w
 inj:=fun v a b ha hb=>by
  rcases n5 ha with ⟨i,t,rfl,rfl⟩|⟨x,t,rfl,rfl⟩
  ·rcases n5 hb with ⟨j,u,rfl,e⟩|⟨y,u,rfl,e⟩
   ·injection e with e1 _;rw[e1]
   ·exact nomatch e
  ·rcases n5 hb with ⟨j,u,rfl,e⟩|⟨y,u,rfl,e⟩
   ·exact nomatch e
   ·injection e with e1 _;rw[e1]
 byValue:=fun k v h=>by
  rcases n5 h with ⟨i,t,rfl,rfl⟩|⟨x,t,rfl,rfl⟩<;>rfl
 pyHash:=fun hv h=>by
  rcases n5 hv with ⟨i,t,rfl,rfl⟩|⟨x,t,rfl,rfl⟩
  ·exact wpAny_pyHash_int h
  ·exact wpAny_pyHash_str h
 eqBool:=fun hu hv h=>by
  rcases n5 hu with ⟨i,t,rfl,rfl⟩|⟨x,t,rfl,rfl⟩
  ·rcases n5 hv with ⟨j,u,rfl,rfl⟩|⟨y,u,rfl,rfl⟩
   ·rw[key_ll]at h;exact wpAny_eqBool_int h
   ·rw[key_lr]at h;exact SeqAt.EqAt.int_str i t y u _ _ _ _ h
  ·rcases n5 hv with ⟨j,u,rfl,rfl⟩|⟨y,u,rfl,rfl⟩
   ·rw[key_rl]at h;exact SeqAt.EqAt.str_int x t j u _ _ _ _ h
   ·rw[key_rr]at h;exact wpAny_eqBool_str h
 «strs»:=fun k x t v h=>by
  rcases n5 h with ⟨i,u,rfl,e⟩|⟨y,u,rfl,e⟩
  ·exact nomatch e
  ·injection e with e1 _
   subst e1;cases v<;>rfl
end L2
namespace L2
open PySem PySem.Spec PyProof.Rows
inductive V where
 |non |bl (b:Bool)|int (i:Int)|str (x:Str)|byt (b:Array UInt8)|flt (b:UInt64)|ref (a:Addr)|ty (n:String)
 deriving DecidableEq
noncomputable def RelV:V→Value→Prop
 | .non,u=>u=Value.none
 | .bl b,u=>u=Value.bool b
 | .int i,u=>∃t,u=Value.int i t
 | .str x,u=>∃t,u=Value.str x t
 | .byt b,u=>∃t,u=Value.bytes b t
 | .flt b,u=>∃t,u=Value.float b t
 | .ref a,u=>u=Value.ref a
 | .ty n,u=>u=Value.type n
noncomputable abbrev Vals:List V→List Value→Prop:=Paired RelV
theorem Vals.length{xs:List V}{us:List Value}(r:Vals xs us):xs.length=us.length:=Paired.length r
theorem Vals.get:∀{xs:List V} {us:List Value} {i:Nat} {x:V},Vals xs us→xs[i]?=some x→∃u,us[i]?=some u∧RelV x u
 |_,_,_,_,.nil,e=>by simp at e
 |_,_,0,_,.cons r _,e=>by simp at e;subst e;exact ⟨_,rfl,r⟩
 |_,_,i+1,x,.cons _ t,e=>by
  obtain ⟨u,h1,h2⟩:=Vals.get (i:=i) (x:=x) t (by simpa using e);exact ⟨u,by simpa using h1,h2⟩
theorem Vals.set{x:V}{u:Value}(r:RelV x u):∀{xs:List V} {us:List Value} (i:Nat),Vals xs us→Vals (xs.set i x) (us.set i u)
 |_,_,_,.nil=>.nil
 |_,_,0,.cons _ t=>.cons r t
 |_,_,i+1,.cons q t=>.cons q (Vals.set r i t)
theorem Vals.append:∀{xs ys:List V} {us ws:List Value},Vals xs us→Vals ys ws→Vals (xs++ys) (us++ws)
 |_,_,_,_,.nil,s=>s
 |_,_,_,_,.cons r t,s=>.cons r (Vals.append t s)
theorem Vals.take:∀{xs:List V} {us:List Value} (n:Nat),Vals xs us→Vals (xs.take n) (us.take n)
 |_,_,0,_=>.nil
 |_,_,_+1,.nil=>.nil
 |_,_,n+1,.cons r t=>.cons r (Vals.take n t)
theorem Vals.drop:∀{xs:List V} {us:List Value} (n:Nat),Vals xs us→Vals (xs.drop n) (us.drop n)
 |_,_,0,r=>r
 |_,_,_+1,.nil=>.nil
 |_,_,n+1,.cons _ t=>Vals.drop n t
noncomputable def RelO:Option V→Option Value→Prop
 |some v,some u=>RelV v u
 |none,none=>True
 |_,_=>False
noncomputable def KV{κ:Type}:List (κ×V)→List (κ×Value)→Prop:=Paired fun (p:κ×V) (q:κ×Value)=>p.1=q.1∧RelV p.2 q.2
noncomputable def kV:Key→V
 | .inl i=>.int i
 | .inr x=>.str x
inductive HO where
 |lst (xs:List V)
 |tup (xs:List V)
 |dK (kvs:List (Key×V))|dT (kvs:List (List Key×V))
 |set (S:Int→Bool) (n:Nat)
 |ins (C dx:Addr) (fs:List (Str×V))
 |own (x:Addr)
 |xd (fs:List (Str×V))
 |met (f x:Addr)
 |rng (lo hi:Int)
 |frz (o:Obj) (u:HO)
 |tbl (ps:Array Value)
 |ext (φ:Heap→Prop)
noncomputable abbrev Hp:=Addr→Option HO
noncomputable def upd(H:Hp)(a:Addr)(o:HO):Hp:=fun b=>if b=a then some o else H b
theorem j3{H:Hp}{a:Addr}{o:HO}:upd H a o a=some o:=by unfold upd;rw[if_pos rfl]
theorem g0{H:Hp}{a b:Addr}{o:HO}(h:b≠a):upd H a o b=H b:=by unfold upd;rw[if_neg h]
theorem j0{H:Hp}{a b:Addr}{o:HO}(h:H a=some o)(h':H b=none):a≠b:=by
 intro e;subst e;rw[h]at h';cases h'
noncomputable def TupD(h:Heap)(a:Addr)(items:Array Value):Prop:=∃o,h.get? a=some o∧o.cls=.type "tuple"∧(∃n,o.data=.seq items n)∧o.dict=none
theorem TupD.tup{h:Heap}{a:Addr}{items:Array Value}(x:TupD h a items):IsTup h a items:=let ⟨o,e,c,d,_⟩:=x;⟨o,e,c,d⟩
theorem TupD.new(h:Heap)(items:Array Value):TupD (h.push {cls:=.type "tuple",data:=.seq items}) h.objs.size items:=⟨_,Heap.get?_push_size _ rfl,rfl,⟨_,rfl⟩,rfl⟩
section
variable(P:Program)(w:World)
noncomputable def ObjOk(H:Hp)(h:Heap)(a:Addr):HO→Prop
 | .lst xs=>xs.length≤sizeLine∧∃(its:List Value) (n:Nat),Vals xs its∧h.get? a=some {cls:=.type "list",data:=.seq its.toArray n}
 | .tup xs=>xs.length≤sizeLine∧∃its:List Value,Vals xs its∧TupD h a its.toArray
 | .dK kvs=>kvs.length≤sizeLine∧(a==sysModules)=false∧∃vs,KV kvs vs∧h.DictOf (i0q P w) a vs
 | .dT kvs=>kvs.length≤sizeLine∧(a==sysModules)=false∧∃xs:List (List Key×Addr×Value),
  Paired (fun (p:List Key×V) (q:List Key×Addr×Value)=>p.1=q.1∧H q.2.1=some (.tup (p.1.map kV))∧RelV p.2 q.2.2) kvs xs∧
  ∃o es ep,h.get? a=some o∧o.ExactDict∧o.data=.dict es ep∧es.toList=xs.map (entryOfKey (tupleKind (i0q P w)))∧(xs.map (·.1)).Nodup
 | .set S n=>h.SetOf (intKind P w) a S n
 | .ins C dx fs=>H dx=some (.own a)∧fs.length≤1000∧dx≠a∧h.get? a=some (PySem.W.instObj C dx)∧
  ∃mA,h.Ns1 dx mA∧(∀f,RelO (fs.lookup f) (mA f))∧PySem.Within mA (fs.map (·.1))
 | .own _=>∃o,h.get? a=some o
 | .xd fs=>∃mA,h.Ns1 a mA∧∀f,RelO (fs.lookup f) (mA f)
 | .rng lo hi=>∃t u v,h.get? a=some {cls:=.type "range",data:=.fields #[.int lo t,.int hi u,.int 1 v]}
 | .frz o u=>h.get? a=some o∧ObjOk H h a u
 | .tbl ps=>h.get? a=some {cls:=.none,data:=.fields ps}
 | .met f x=>h.get? a=some (PySem.W.methodObj (.ref f) (.ref x))
 | .ext φ=>φ h∧(∃o,h.get? a=some o)∧∀h1 h2:Heap,φ h1→(∀o,h1.get? a=some o→h2.get? a=some o)→φ h2
noncomputable def HOk(H:Hp)(h:Heap):Prop:=∀a o,H a=some o→ObjOk P w H h a o
end
section
variable{P:Program}{w:World}{H H':Hp}{h h':Heap}{a:Addr}{o:HO}
theorem ObjOk.lt(x:ObjOk P w H h a o):a<h.objs.size:=by
 cases o with
 |lst xs=>obtain ⟨_,_,_,_,e⟩:=x;exact Heap.lt_size e
 |tup xs=>obtain ⟨_,_,_,p⟩:=x;exact p.tup.lt
 |dK kvs=>obtain ⟨_,_,_,_,o,_,_,e,_⟩:=x;exact Heap.lt_size e
 |dT kvs=>obtain ⟨_,_,_,_,o,_,_,e,_⟩:=x;exact Heap.lt_size e
 |set S n=>obtain ⟨o,_,_,_,e,_⟩:=x;exact Heap.lt_size e
 |ins C dx fs=>obtain ⟨_,_,_,e,_⟩:=x;exact Heap.lt_size e
 |own y=>obtain ⟨_,e⟩:=x;exact Heap.lt_size e
 |xd fs=>obtain ⟨_,⟨_,_,_,e,_⟩,_⟩:=x;exact Heap.lt_size e
 |rng lo hi=>obtain ⟨_,_,_,e⟩:=x;exact Heap.lt_size e
 |frz ob u=>obtain ⟨e,_⟩:=x;exact Heap.lt_size e
 |tbl ps=>exact Heap.lt_size (show h.get? a=some _ from x)
 |met f y=>exact Heap.lt_size (show h.get? a=some _ from x)
 |ext φ=>obtain ⟨_,⟨_,e⟩,_⟩:=x;exact Heap.lt_size e
theorem Paired.mapP{α β:Type}{F G:α→β→Prop}:∀{l₁:List α} {l₂:List β},Paired F l₁ l₂→(∀a b,F a b→G a b)→Paired G l₁ l₂
 |_,_,.nil,_=>.nil
 |_,_,.cons r t,f=>.cons (f _ _ r) (Paired.mapP t f)
theorem ObjOk.stay(x:ObjOk P w H h a o)(k:∀b u,(b=a∨H b=some (.own a))→h.get? b=some u→h'.get? b=some u)
 (ho:∀b,H b=some (.own a)→H' b=some (.own a)) (ht:∀b xs,H b=some (.tup xs)→H' b=some (.tup xs)):ObjOk P w H' h' a o:=by
 induction o with
 |lst xs=>obtain ⟨z,its,n,r,e⟩:=x;exact ⟨z,its,n,r,k _ _ (.inl rfl) e⟩
 |tup xs=>obtain ⟨z,its,r,ob,e,c⟩:=x;exact ⟨z,its,r,ob,k _ _ (.inl rfl) e,c⟩
 |dK kvs=>obtain ⟨z,y,vs,r,ob,es,ep,e,c⟩:=x;exact ⟨z,y,vs,r,ob,es,ep,k _ _ (.inl rfl) e,c⟩
 |dT kvs=>
  obtain ⟨z,y,xs,r,ob,es,ep,e,c⟩:=x;exact ⟨z,y,xs,Paired.mapP r fun p q z=>⟨z.1,ht _ _ z.2.1,z.2.2⟩,ob,es,ep,k _ _ (.inl rfl) e,c⟩
 |set S n=>obtain ⟨ob,es,ep,t,e,c⟩:=x;exact ⟨ob,es,ep,t,k _ _ (.inl rfl) e,c⟩
 |ins C dx fs=>
  obtain ⟨d,z,ne,e,mA,⟨od,es,ep,e2,c⟩,r⟩:=x;exact ⟨ho _ d,z,ne,k _ _ (.inl rfl) e,mA,⟨od,es,ep,k _ _ (.inr d) e2,c⟩,r⟩
 |own y=>obtain ⟨ob,e⟩:=x;exact ⟨ob,k _ _ (.inl rfl) e⟩
 |xd fs=>obtain ⟨mA,⟨od,es,ep,e,c⟩,r⟩:=x;exact ⟨mA,⟨od,es,ep,k _ _ (.inl rfl) e,c⟩,r⟩
 |rng lo hi=>obtain ⟨t,u,v,e⟩:=x;exact ⟨t,u,v,k _ _ (.inl rfl) e⟩
 |frz ob u ih=>obtain ⟨e,q⟩:=x;exact ⟨k _ _ (.inl rfl) e,ih q⟩
 |tbl ps=>
  have e:h.get? a=some {cls:=.none,data:=.fields ps}:=x;show h'.get? a=some {cls:=.none,data:=.fields ps};exact k a _ (.inl rfl) e
 |met f y=>
  have e:h.get? a=some (PySem.W.methodObj (.ref f) (.ref y)):=x;show h'.get? a=some (PySem.W.methodObj (.ref f) (.ref y));exact k a _ (.inl rfl) e
 |ext φ=>obtain ⟨p,⟨o,e⟩,st⟩:=x;exact ⟨st _ _ p fun o q=>k _ _ (.inl rfl) q,⟨o,k _ _ (.inl rfl) e⟩,st⟩
theorem HOk.lt(x:HOk P w H h)(e:H a=some o):a<h.objs.size:=(x a o e).lt
theorem HOk.fresh(x:HOk P w H h)(e:h.objs.size≤a):H a=none:=by
 cases q:H a with
 |none=>rfl
 |some u=>exact absurd (Nat.lt_of_lt_of_le (x.lt q) e) (Nat.lt_irrefl _)
theorem HOk.kept(x:HOk P w H h)(k:∀b u,h.get? b=some u→h'.get? b=some u):HOk P w H h':=fun a o e=>
 (x a o e).stay (fun b u _ q=>k b u q) (fun _ q=>q) fun _ _ q=>q
theorem HOk.laid(x:HOk P w H h)(k:∀b u,h.get? b=some u→h'.get? b=some u)(hp:h.objs.size≤a)(new:ObjOk P w (upd H a o) h' a o):HOk P w (upd H a o) h':=fun b u e=>by
 have hn:=x.fresh hp;by_cases hb:b=a
 ·subst hb;rw[j3]at e;cases e;exact new
 ·rw[g0 hb]at e;exact (x b u e).stay (fun c v _ q=>k c v q) (fun c q=>by rw[g0 (j0 q hn)];exact q) fun c xs q=>by rw[g0 (j0 q hn)];exact q
end
noncomputable def Rd(H:Hp)(a:Addr)(u:HO):Prop:=H a=some u∨∃o,H a=some (.frz o u)
theorem Rd.ok{P:Program}{w:World}{H:Hp}{h:Heap}{a:Addr}{u:HO}(r:Rd H a u)(x:HOk P w H h):ObjOk P w H h a u:=by
 rcases r with r |⟨o,r⟩
 ·exact x a u r
 ·obtain ⟨_,q⟩:=x a _ r;exact q
noncomputable def Mut:Option HO→Prop
 |some (.lst _)=>True
 |some (.dK _)=>True
 |some (.dT _)=>True
 |some (.set _ _)=>True
 |some (.ins _ _ _)=>True
 |some (.ext _)=>True
 |_=>False
section
variable{P:Program}{w:World}{H:Hp}{h h':Heap}{x e:Addr}{o':HO}
theorem HOk.write(ok:HOk P w H h)(mu:Mut (H x))(he:e=x∨H e=some (.own x))(k:∀b u,b≠e→h.get? b=some u→h'.get? b=some u)(heo:∃u,h'.get? e=some u)
 (new:ObjOk P w (upd H x o') h' x o'):HOk P w (upd H x o') h':=fun b u q=>by
 have nown:∀c y,H c=some (.own y)→c≠x:=fun c y r z=>by subst z;rw[r]at mu;exact mu
 have ntup:∀c xs,H c=some (.tup xs)→c≠x:=fun c xs r z=>by subst z;rw[r]at mu;exact mu
 by_cases hb:b=x
 ·subst hb;rw[j3]at q;cases q;exact new
 ·rw[g0 hb]at q;by_cases hbe:b=e
  ·have q':H b=some (.own x):=by
    rcases he with z |z
    ·exact absurd (hbe.trans z) hb
    ·rw[hbe];exact z
   rw[q]at q';cases q';obtain ⟨v,hv⟩:=heo;exact ⟨v,by rw[hbe];exact hv⟩
  ·refine (ok b u q).stay (fun c v hc r=>k c v ?_ r) (fun c r=>by rw[g0 (nown c b r)];exact r) fun c xs r=>by rw[g0 (ntup c xs r)];exact r
   rcases hc with rfl |hc
   ·exact hbe
   ·rintro rfl;rcases he with z |z
    ·exact nown c b hc z
    ·rw[hc]at z;cases z;exact hb rfl
end
structure Un(fs ex:List Addr)(H H':Hp)(h h':Heap):Prop where
 keep:∀b o,h.get? b=some o→H b=none→b∉fs→b∉ex→h'.get? b=some o
 slot:∀b o,h.get? b=some o→H b=none→b∈fs→b∉ex→∃sl,h'.get? b=some {o with slots:=sl}
 free:∀b o,h.get? b=some o→H b=none→b∉ex→H' b=none
 there:∀b o,h.get? b=some o→b∉ex→∃o',h'.get? b=some o'
 tups:∀b xs,H b=some (.tup xs)→H' b=some (.tup xs)
 frzs:∀b o u,H b=some (.frz o u)→H' b=some (.frz o u)
 tbls:∀b ps,H b=some (.tbl ps)→∃more,H' b=some (.tbl (ps++more))
section
variable{fs fs' ex ex':List Addr}{H H1 H2:Hp}{h h1 h2 h':Heap}{a x e:Addr}{o:HO}
theorem Un.any(u:Un fs ex H H1 h h1){b:Addr}{ob:Obj}(q:h.get? b=some ob)(n:H b=none)(hx:b∉ex):∃sl,h1.get? b=some {ob with slots:=sl}:=by
 by_cases hb:b∈fs
 ·exact u.slot b ob q n hb hx
 ·exact ⟨ob.slots,u.keep b ob q n hb hx⟩
theorem Un.kept(k:∀b u,h.get? b=some u→h'.get? b=some u):Un fs ex H H h h':=
 ⟨fun b ob q _ _ _=>k b ob q,fun b ob q _ _ _=>⟨ob.slots,k b ob q⟩,fun _ _ _ n _=>n,fun b ob q _=>⟨ob,k b ob q⟩,fun _ _ q=>q,fun _ _ _ q=>q,fun _ ps q=>⟨#[],by rw[q];simp⟩⟩
theorem Un.refl:Un fs ex H H h h:=Un.kept fun _ _ q=>q
theorem Un.laid(k:∀b u,h.get? b=some u→h'.get? b=some u)(hp:h.objs.size≤a)(hn:H a=none):Un fs ex H (upd H a o) h h' where
 keep:=fun b u q _ _ _=>k b u q
 slot:=fun b u q _ _ _=>⟨u.slots,k b u q⟩
 free:=fun b u q n _=>by rw[g0 (Nat.ne_of_lt (Nat.lt_of_lt_of_le (Heap.lt_size q) hp))];exact n
 there:=fun b u q _=>⟨u,k b u q⟩
 tups:=fun b xs q=>by rw[g0 (j0 q hn)];exact q
 frzs:=fun b u xs q=>by rw[g0 (j0 q hn)];exact q
 tbls:=fun b ps q=>⟨#[],by rw[g0 (j0 q hn),q];simp⟩
theorem Un.write(mu:Mut (H x))(he:e=x∨H e=some (.own x))(k:∀b u,b≠e→h.get? b=some u→h'.get? b=some u)(heo:∃u,h'.get? e=some u):Un fs ex H (upd H x o) h h':=by
 have hx:∀b,H b=none→b≠x:=fun b n z=>by subst z;rw[n]at mu;exact mu
 have hb:∀b,H b=none→b≠e:=fun b n z=>by
  subst z;rcases he with r |r
  ·exact hx b n r
  ·rw[n]at r;cases r
 have hm:∀b u,H b=some u→¬Mut (some u)→b≠x:=fun b u q nm z=>by subst z;rw[q]at mu;exact nm mu
 refine ⟨fun b u q n _ _=>k b u (hb b n) q,fun b u q n _ _=>⟨u.slots,k b u (hb b n) q⟩,fun b u q n _=>by rw[g0 (hx b n)];exact n,fun b u q _=>?_,
  fun b xs q=>by rw[g0 (hm b _ q fun z=>z)];exact q,fun b u xs q=>by rw[g0 (hm b _ q fun z=>z)];exact q,fun b ps q=>⟨#[],by rw[g0 (hm b _ q fun z=>z),q];simp⟩⟩
 by_cases hbe:b=e
 ·subst hbe;exact heo
 ·exact ⟨u,k b u hbe q⟩
end
noncomputable def trk(h:Heap)(H:Hp):List Addr:=(List.range h.objs.size).filter fun a=>(H a).isSome
noncomputable def hidT(h:Heap)(H:Hp):Heap:=PySem.W.hideAll h (trk h H)
theorem i0p(h:Heap)(H:Hp):(hidT h H).objs.size=h.objs.size:=PySem.W.hideAll_size _ _
theorem f0f{h:Heap}{H:Hp}{b:Addr}{o:Obj}(e:h.get? b=some o)(n:H b=none):(hidT h H).get? b=some o:=
 PySem.W.hideAll_get _ e fun hm=>by
  have q:(H b).isSome=true:=(List.mem_filter.mp hm).2;rw[n]at q;simp at q
theorem b0s{h:Heap}{H:Hp}{b:Addr}{o:Obj}(e:(hidT h H).get? b=some o):h.get? b=some o∧H b=none:=by
 have e':h.get? b=some o:=PySem.W.of_hideAll (trk h H) e;refine ⟨e',?_⟩;cases q:H b with
 |none=>rfl
 |some x=>
  have hm:b∈trk h H:=List.mem_filter.mpr ⟨List.mem_range.mpr (Heap.lt_size e'),by simp[q]⟩;have z:(hidT h H).get? b=none:=PySem.W.hideAll_none (trk h H) hm;rw[z]at e;cases e
noncomputable def b0r(g h:Heap)(L:Addr):List (Addr×Obj):=(List.range h.objs.size).filterMap fun a=>if a=L∨(g.get? a).isSome=true then none else (h.get? a).map fun o=>(a,o)
noncomputable def rest(g h:Heap)(L d:Addr):List (Addr×Obj):=(b0r g h L).filter fun p=>decide (p.1≠d)
end L2
namespace L2
open PySem PySem.Spec PyProof.Rows
structure Mod(K:PySem.W.Frag)(mg:Str→Option Value)(base:Heap):Prop where
 kin:K.In base
 glob:base.Ns mainGlobals mg
 blt:∃mb,base.Ns builtinsNs mb∧∀x:Str,x≠"__name__"→mb x=bootBuiltins x
 nolimit:base.NoLimit
structure Cx where
 prog:Program
 w:World
 K:PySem.W.Frag
 mg:Str→Option Value
 base:Heap
 A:Around
 N:List Str
 s₀:Shared
 H₀:Hp
 env:Env
 outer:List Env
 stack:List Env
 ex:List Addr
 fn:Str→Bool
 calm:Bool
 pn:List (Addr×Obj)
 xe:Value→Shared→Prop
noncomputable def frs(l:List Env):List Addr:=l.filterMap (·.frame)
noncomputable abbrev Cx.fs(X:Cx):List Addr:=frs X.outer
noncomputable def Vis(sc:Scope)(x:Str):Prop:=sc.names.lookup x=some .local∨sc.names.lookup x=some .cell∨sc.names.lookup x=some .free
noncomputable def Loc(sc:Scope)(x:Str):Prop:=sc.names.lookup x=some .local∨sc.names.lookup x=some .cell
noncomputable def Look(env:Env)(h:Heap)(m:Str→Option Value)(x:Str)(u:Value):Prop:=
 (env.kindOf x=some .local∧m x=some u)∨((env.kindOf x=some .cell∨env.kindOf x=some .free)∧∃c,env.cells.lookup x=some c∧h.IsCell c (some u))
structure Cx.Ok(X:Cx):Prop where
 mod:Mod X.K X.mg X.base
 kind:X.env.scope.kind=.function
 glob:X.env.globals=mainGlobals
 blt:X.env.builtins=builtinsNs
 above:X.s₀.heap.objs.size≤X.env.locals
 inj:∀x y c,X.env.cells.lookup x=some c→X.env.cells.lookup y=some c→x=y
 has:∀x,(X.env.kindOf x=some .cell∨X.env.kindOf x=some .free)→∃c,X.env.cells.lookup x=some c
 cab:∀x c,X.fn x=true→X.env.cells.lookup x=some c→X.s₀.heap.objs.size≤c
 hd:X.calm=true→X.A.handled=none
 frames:X.A.frames=some X.stack
 stk:X.stack=X.outer∨(X.stack=X.env::X.outer∧X.env.frame=some X.env.locals)
 exf:∀b∈X.ex,b≠X.env.locals∧∀x c,X.env.cells.lookup x=some c→c≠b
 bs:∀b o,X.base.get? b=some o→X.s₀.heap.get? b=some o∧X.H₀ b=none
 bsz:X.base.objs.size≤X.s₀.heap.objs.size
 noex:∀b o,X.base.get? b=some o→b∉X.ex
 exfs:∀b∈X.ex,b∉X.fs
 funs:X.s₀.heap.FunFrames X.base X.outer
 frf:∀b∈X.fs,X.H₀ b=none
structure Inv(X:Cx)(pins:List (Addr×Obj))(σ:List (Option V))(H:Hp)(s:Shared):Prop where
 ok:X.Ok
 os:s.os=X.s₀.os
 bare:AllBare s.gens
 base:Un X.fs X.ex X.H₀ H X.s₀.heap s.heap
 loc:∃m,s.heap.Ns X.env.locals m∧∀(i:Nat) (x:Str) (v:V),X.N[i]?=some x→σ[i]?=some (some v)→Vis X.env.scope x→∃u,RelV v u∧Look X.env s.heap m x u
 cell:∀x c,X.env.cells.lookup x=some c→∃v,s.heap.IsCell c v
 free:H X.env.locals=none
 freeC:∀x c,X.env.cells.lookup x=some c→H c=none
 pin:∀p∈X.pn++pins,s.heap.get? p.1=some p.2∧H p.1=none∧p.1≠X.env.locals∧p.1∉X.fs∧∀v,p.2.data≠.cell v
 hok:HOk X.prog X.w H s.heap
 len:σ.length=X.N.length
section
variable{X:Cx}{pins:List (Addr×Obj)}{σ:List (Option V)}{H H':Hp}{s:Shared}{h':Heap}
theorem Cx.Ok.nofr(ok:X.Ok){b:Addr}{o:Obj}(e:X.base.get? b=some o):b∉X.fs:=fun hb=>by
 have:=(ok.funs.mem hb).1;rw[e]at this;cases this
theorem Inv.bs(I:Inv X pins σ H s):∀b o,X.base.get? b=some o→s.heap.get? b=some o∧H b=none:=fun b o e=>
 ⟨I.base.keep b o (I.ok.bs b o e).1 (I.ok.bs b o e).2 (I.ok.nofr e) (I.ok.noex b o e),I.base.free b o (I.ok.bs b o e).1 (I.ok.bs b o e).2 (I.ok.noex b o e)⟩
theorem Inv.bk(I:Inv X pins σ H s):∀b o,X.base.get? b=some o→s.heap.get? b=some o:=fun b o e=>(I.bs b o e).1
theorem Inv.mod(I:Inv X pins σ H s):Mod X.K X.mg X.base:=I.ok.mod
theorem Inv.kIn(I:Inv X pins σ H s):X.K.In s.heap:=I.ok.mod.kin.keeps I.bk
theorem Inv.fr(I:Inv X pins σ H s):∃m,Fr X.base X.env.locals s.heap m:=
 let ⟨m,hn,_⟩:=I.loc
 ⟨m,hn,I.bk,Nat.le_trans I.ok.bsz I.ok.above⟩
theorem Inv.lt(I:Inv X pins σ H s):X.env.locals<s.heap.objs.size:=let ⟨_,hn,_⟩:=I.loc;hn.lt
theorem Inv.sz(I:Inv X pins σ H s):X.s₀.heap.objs.size≤s.heap.objs.size:=Nat.le_trans I.ok.above (Nat.le_of_lt I.lt)
theorem Inv.nofs(I:Inv X pins σ H s){a:Addr}(h:s.heap.objs.size≤a):a∉X.fs:=fun hb=>by
 obtain ⟨_,o,ho,_⟩:=I.ok.funs.mem hb;exact absurd (Nat.lt_of_lt_of_le (Heap.lt_size ho) (Nat.le_trans I.sz h)) (Nat.lt_irrefl _)
theorem Inv.cne(I:Inv X pins σ H s):∀x c,X.env.cells.lookup x=some c→c≠X.env.locals:=fun x c e z=>by
 obtain ⟨v,o,ho,hd⟩:=I.cell x c e;obtain ⟨m,⟨o',es,ep,ho',hd',_⟩,_⟩:=I.loc;rw[z,ho']at ho;cases ho;rw[hd']at hd;cases hd
theorem Inv.funs(I:Inv X pins σ H s):s.heap.FunFrames X.base X.outer:=by
 have all:∀(l:List Env),(∀b∈frs l,b∈X.fs)→X.s₀.heap.FunFrames X.base l→s.heap.FunFrames X.base l:=by
  intro l
  induction l with
  |nil=>intro _ _;trivial
  |cons env r ih=>
   intro hs hl;obtain ⟨hk,⟨L,o,hf,hn,ho,hd⟩,hr⟩:=hl;have hL:L∈X.fs:=hs L (by unfold frs;rw[List.filterMap_cons,hf];exact List.mem_cons_self);obtain ⟨sl,e⟩:=I.base.slot L o ho (I.ok.frf L hL) hL fun z=>I.ok.exfs L z hL
   exact ⟨hk,⟨L,_,hf,hn,e,hd⟩,ih (fun b hb=>hs b (by unfold frs;rw[List.filterMap_cons,hf];exact List.mem_cons_of_mem _ hb)) hr⟩
 exact all X.outer (fun _ hb=>hb) I.ok.funs
theorem Inv.stack(I:Inv X pins σ H s):s.heap.FunFrames X.base X.stack:=by
 rcases I.ok.stk with e |⟨e,hf⟩
 ·rw[e];exact I.funs
 ·rw[e];obtain ⟨m,hn,_⟩:=I.loc;refine .cons (by rw[I.ok.kind];decide) hf hn ?_ I.funs;exact Heap.get?_none_of_le (Nat.le_trans I.ok.bsz I.ok.above)
theorem Inv.stkSub(I:Inv X pins σ H s):∀b∈frs X.stack,b∈X.env.locals::X.fs:=fun b hb=>by
 rcases I.ok.stk with e |⟨e,hf⟩
 ·rw[e]at hb;exact List.mem_cons_of_mem _ hb
 ·rw[e]at hb;unfold frs at hb;rw[List.filterMap_cons,hf]at hb;exact hb
theorem Inv.stkFree(I:Inv X pins σ H s):∀b∈frs X.stack,H b=none:=fun b hb=>by
 rcases List.mem_cons.mp (I.stkSub b hb)with e |hb
 ·rw[e];exact I.free
 ·obtain ⟨_,o,ho,_⟩:=I.ok.funs.mem hb;exact I.base.free b o ho (I.ok.frf b hb) fun z=>I.ok.exfs b z hb
theorem Inv.step{g':Array GenState}{t':Nat}{d':Drawn}{ch:List Addr}(I:Inv X pins σ H s)
 (hch:∀b∈ch,(b∈X.ex∨X.s₀.heap.objs.size≤b)∧b≠X.env.locals∧(∀x c,X.env.cells.lookup x=some c→c≠b)∧∀p∈X.pn++pins,p.1≠b)
 (keep:∀b o,b≠X.env.locals→b∉X.fs→b∉ch→s.heap.get? b=some o→H b=none→h'.get? b=some o)
 (slot:∀b o,b≠X.env.locals→b∈X.fs→b∉ch→s.heap.get? b=some o→H b=none→∃sl,h'.get? b=some {o with slots:=sl}) (free:∀b o,b∉ch→s.heap.get? b=some o→H b=none→H' b=none)
 (there:∀b o,b∉ch→s.heap.get? b=some o→∃o',h'.get? b=some o')
 (tups:∀b xs,H b=some (.tup xs)→H' b=some (.tup xs)) (frzs:∀b o u,H b=some (.frz o u)→H' b=some (.frz o u)) (tbls:∀b ps,H b=some (.tbl ps)→∃more,H' b=some (.tbl (ps++more)))
 (ns:∀m,s.heap.Ns X.env.locals m→h'.Ns X.env.locals m) (hok:HOk X.prog X.w H' h') (hg:AllBare g'):
 Inv X pins σ H' {s with heap:=h',gens:=g',drawn:=d',toks:=t'}:=by
 have neL:∀b o,X.s₀.heap.get? b=some o→b≠X.env.locals:=fun b o e=>Nat.ne_of_lt (Nat.lt_of_lt_of_le (Heap.lt_size e) I.ok.above)
 have neC:∀b o,X.s₀.heap.get? b=some o→b∉X.ex→b∉ch:=fun b o e hx hb=>by
  rcases (hch b hb).1 with z |z
  ·exact hx z
  ·exact absurd (Nat.lt_of_lt_of_le (Heap.lt_size e) z) (Nat.lt_irrefl _)
 have cellK:∀x c,X.env.cells.lookup x=some c→∀v,s.heap.IsCell c v→h'.IsCell c v:=fun x c e v ⟨o,ho,hd⟩=>by
  have nch:c∉ch:=fun z=>(hch c z).2.2.1 x c e rfl
  by_cases hc:c∈X.fs
  ·obtain ⟨sl,q⟩:=slot c o (I.cne x c e) hc nch ho (I.freeC x c e);exact ⟨_,q,hd⟩
  ·exact ⟨o,keep c o (I.cne x c e) hc nch ho (I.freeC x c e),hd⟩
 refine ⟨I.ok,I.os,hg,⟨fun b o e n hb hx=>?_,fun b o e n hb hx=>?_,fun b o e n hx=>?_,fun b o e hx=>?_,fun b xs e=>tups b xs (I.base.tups b xs e),fun b o xs e=>frzs b o xs (I.base.frzs b o xs e),fun b ps e=>?_⟩,?_,fun x c e=>?_,?_,fun x c e=>?_,fun p hp=>?_,hok,I.len⟩
 ·exact keep b o (neL b o e) hb (neC b o e hx) (I.base.keep b o e n hb hx) (I.base.free b o e n hx)
 ·obtain ⟨sl,e1⟩:=I.base.slot b o e n hb hx;obtain ⟨sl',e2⟩:=slot b _ (neL b o e) hb (neC b o e hx) e1 (I.base.free b o e n hx);exact ⟨sl',e2⟩
 ·obtain ⟨o',e1⟩:=I.base.there b o e hx;exact free b o' (neC b o e hx) e1 (I.base.free b o e n hx)
 ·obtain ⟨o',e1⟩:=I.base.there b o e hx;exact there b o' (neC b o e hx) e1
 ·obtain ⟨m1,e1⟩:=I.base.tbls b ps e;obtain ⟨m2,e2⟩:=tbls b _ e1;exact ⟨m1++m2,by rw[e2,Array.append_assoc]⟩
 ·obtain ⟨m,hn,hl⟩:=I.loc;refine ⟨m,ns m hn,fun i x v e1 e2 e3=>?_⟩;obtain ⟨u,r,l⟩:=hl i x v e1 e2 e3;refine ⟨u,r,?_⟩;rcases l with l |⟨k,c,e,z⟩
  ·exact .inl l
  ·exact .inr ⟨k,c,e,cellK x c e _ z⟩
 ·obtain ⟨v,z⟩:=I.cell x c e;exact ⟨v,cellK x c e v z⟩
 ·obtain ⟨m,⟨o,_,_,ho,_⟩,_⟩:=I.loc;exact free _ o (fun z=>(hch _ z).2.1 rfl) ho I.free
 ·obtain ⟨v,o,ho,hd⟩:=I.cell x c e;exact free c o (fun z=>(hch c z).2.2.1 x c e rfl) ho (I.freeC x c e)
 ·obtain ⟨e,n,ne,nf,d⟩:=I.pin p hp;have nch:p.1∉ch:=fun z=>(hch p.1 z).2.2.2 p hp rfl
  exact ⟨keep p.1 p.2 ne nf nch e n,free p.1 p.2 nch e n,ne,nf,d⟩
theorem Inv.un{t':Nat}(I:Inv X pins σ H s)(u:Un X.fs [] H H' s.heap h')(hok:HOk X.prog X.w H' h'):Inv X pins σ H' {s with heap:=h',toks:=t'}:=by
 obtain ⟨m,⟨o,es,ep,ho,r⟩,_⟩:=id I.loc;obtain ⟨sl,hL⟩:=u.any ho I.free (by simp);exact I.step (g':=s.gens) (d':=s.drawn) (ch:=[]) (fun _ z=>nomatch z) (fun b o _ hb _ e n=>u.keep b o e n hb (by simp)) (fun b o _ hb _ e n=>u.slot b o e n hb (by simp)) (fun b o _ e n=>u.free b o e n (by simp)) (fun b o _ e=>u.there b o e (by simp)) u.tups u.frzs u.tbls (fun m' hm=>by
  obtain ⟨o',es',ep',ho',r'⟩:=hm;rw[ho]at ho';cases ho';exact ⟨_,es',ep',hL,r'⟩) hok I.bare
theorem Inv.call{g':Array GenState}{t':Nat}{d':Drawn}{ch:List Addr}(I:Inv X pins σ H s)(u:Un (frs X.stack) ch H H' s.heap h')(hok:HOk X.prog X.w H' h')(hg:AllBare g')
 (hch:∀b∈ch,(b∈X.ex∨X.s₀.heap.objs.size≤b)∧b≠X.env.locals∧(∀x c,X.env.cells.lookup x=some c→c≠b)∧∀p∈X.pn++pins,p.1≠b):
 Inv X pins σ H' {s with heap:=h',gens:=g',drawn:=d',toks:=t'}:=by
 obtain ⟨m,⟨o,es,ep,ho,r⟩,_⟩:=id I.loc;obtain ⟨sl,hL⟩:=u.any ho I.free fun z=>(hch _ z).2.1 rfl
 exact I.step (ch:=ch) hch (fun b o hL hb hc e n=>u.keep b o e n (fun z=>(List.mem_cons.mp (I.stkSub b z)).elim hL hb) hc) (fun b o _ _ hc e n=>u.any e n hc) (fun b o hc e n=>u.free b o e n hc) (fun b o hc e=>u.there b o e hc) u.tups u.frzs u.tbls (fun m' hm=>by
  obtain ⟨o',es',ep',ho',r'⟩:=hm;rw[ho]at ho';cases ho';exact ⟨_,es',ep',hL,r'⟩) hok hg
theorem Inv.turned{t':Nat}{it:Addr}(I:Inv X pins σ H s)(k:∀b o,b≠it→s.heap.get? b=some o→h'.get? b=some o)(hn:H it=none)(hL:it≠X.env.locals)
 (h1:it∈X.ex∨X.s₀.heap.objs.size≤it) (h2:∀x c,X.env.cells.lookup x=some c→c≠it) (h3:∀p∈X.pn++pins,p.1≠it):Inv X pins σ H {s with heap:=h',toks:=t'}:=by
 have nit:∀b u,H b=some u→b≠it:=fun b u e z=>by rw[z,hn]at e;cases e
 refine I.step (g':=s.gens) (d':=s.drawn) (ch:=[it]) (fun b hb=>?_) (fun b o _ _ hc e _=>k b o (fun z=>hc (by simp[z])) e) (fun b o _ _ hc e _=>⟨o.slots,k b o (fun z=>hc (by simp[z])) e⟩) (fun _ _ _ _ n=>n)
  (fun b o hc e=>⟨o,k b o (fun z=>hc (by simp[z])) e⟩) (fun _ _ e=>e) (fun _ _ _ e=>e) (fun b ps e=>⟨#[],by rw[e];simp⟩) (fun m hm=>?_) (fun b u e=>?_) I.bare
 ·have e:b=it:=by simpa using hb
  subst e;exact ⟨h1,hL,h2,h3⟩
 ·obtain ⟨o,es,ep,ho,r⟩:=hm;exact ⟨o,es,ep,k _ o (Ne.symm hL) ho,r⟩
 ·refine (I.hok b u e).stay (fun c v hc q=>k c v ?_ q) (fun _ q=>q) fun _ _ q=>q
  rcases hc with z |z
  ·rw[z];exact nit b u e
  ·exact nit c _ z
theorem Inv.tok(I:Inv X pins σ H s)(t:Nat):Inv X pins σ H {s with toks:=t}:=I.un (h':=s.heap) (t':=t) Un.refl I.hok
theorem Inv.kept{t':Nat}(I:Inv X pins σ H s)(k:∀b u,s.heap.get? b=some u→h'.get? b=some u):Inv X pins σ H {s with heap:=h',toks:=t'}:=I.un (Un.kept k) (I.hok.kept k)
theorem Inv.laid{a:Addr}{o:HO}{t':Nat}(I:Inv X pins σ H s)(k:∀b u,s.heap.get? b=some u→h'.get? b=some u)(hp:s.heap.objs.size≤a)(new:ObjOk X.prog X.w (upd H a o) h' a o):
 Inv X pins σ (upd H a o) {s with heap:=h',toks:=t'}:=I.un (Un.laid k hp (I.hok.fresh hp)) (I.hok.laid k hp new)
theorem Inv.write{x e:Addr}{o:HO}{t':Nat}(I:Inv X pins σ H s)(mu:Mut (H x))(he:e=x∨H e=some (.own x))(k:∀b u,b≠e→s.heap.get? b=some u→h'.get? b=some u)(heo:∃u,h'.get? e=some u)
 (new:ObjOk X.prog X.w (upd H x o) h' x o):Inv X pins σ (upd H x o) {s with heap:=h',toks:=t'}:=I.un (Un.write mu he k heo) (I.hok.write mu he k heo new)
theorem Inv.weak{σ':List (Option V)}(I:Inv X pins σ H s)(hl:σ'.length=σ.length)(w:∀(i:Nat) v,σ'[i]?=some (some v)→σ[i]?=some (some v)):Inv X pins σ' H s:=
 ⟨I.ok,I.os,I.bare,I.base,let ⟨m,hn,hl'⟩:=I.loc;⟨m,hn,fun i x v e1 e2 e3=>hl' i x v e1 (w i v e2) e3⟩,I.cell,I.free,I.freeC,I.pin,I.hok,hl.trans I.len⟩
theorem Inv.pins_of{pins':List (Addr×Obj)}(I:Inv X pins σ H s)(h:∀p∈pins',s.heap.get? p.1=some p.2∧H p.1=none∧p.1≠X.env.locals∧p.1∉X.fs∧∀v,p.2.data≠.cell v):Inv X pins' σ H s:=
 ⟨I.ok,I.os,I.bare,I.base,I.loc,I.cell,I.free,I.freeC,fun p hp=>(List.mem_append.mp hp).elim (fun z=>I.pin p (List.mem_append_left _ z)) (h p),I.hok,I.len⟩
theorem l0l{N:List Str}(hN:N.Nodup){i j:Nat}{x:Str}(a:N[i]?=some x)(b:N[j]?=some x):i=j:=by
 obtain ⟨h1,e1⟩:=List.getElem?_eq_some_iff.mp a;obtain ⟨h2,e2⟩:=List.getElem?_eq_some_iff.mp b;exact (List.getElem_inj hN).mp (e1.trans e2.symm)
theorem o0y{M:Model}{A:Around}{E:Value→Shared→Prop}{i:Nat}{x:Str}{v:V}{u:Value}{Q:Unit→Shared→Prop}(I:Inv X pins σ H s)(hN:X.N.Nodup)(hi:X.N[i]?=some x)(hx:Loc X.env.scope x)(r:RelV v u)
 (h:∀s',Inv X pins (σ.set i (some v)) H s'→(∃a,Heap.SameBut a s.heap s'.heap∧(a=X.env.locals∨X.env.cells.lookup x=some a))→Q () s') (hf:X.fn x=true∨X.env.scope.names.lookup x=some .local:=by first |exact .inl rfl |exact .inr rfl |assumption):wpAny M A (storeName X.env x u) Q E s:=by
 obtain ⟨m,hn,hl⟩:=id I.loc;have hcls:(X.env.scope.kind== .class||(X.env.scope.kind== .module&&X.env.locals !=X.env.globals))=false:=by rw[I.ok.kind];rfl
 have hiσ:i<σ.length:=by rw[I.len];exact (List.getElem?_eq_some_iff.mp hi).1
 have cne:=I.cne;have tracked:∀{a:Addr} {h':Heap},(∃o,s.heap.get? a=some o∧H a=none)→Heap.SameBut a s.heap h'→HOk X.prog X.w H h':=fun {a h'} ha hs b ob e=>by
  obtain ⟨_,_,hfree⟩:=ha;refine (I.hok b ob e).stay (fun c w' hc q=>(hs.2 c ?_).trans q) (fun _ q=>q) fun _ _ q=>q
  rintro rfl;rcases hc with rfl |hc
  ·rw[hfree]at e;cases e
  ·rw[hfree]at hc;cases hc
 rcases hx with hk |hk
 ·refine wpAny_storeName_local hk hn (fun h' hn' hs=>?_) hcls;obtain ⟨oL,_,_,hoL,_⟩:=id hn;refine h _ ⟨I.ok,I.os,I.bare,⟨fun b o e n hb hx=>?_,fun b o e n hb hx=>?_,I.base.free,fun b o e hx=>?_,I.base.tups,I.base.frzs,I.base.tbls⟩,⟨_,hn',fun j y v' e1 e2 e3=>?_⟩,fun y c e=>?_,I.free,I.freeC,fun p hp=>?_,tracked ⟨oL,hoL,I.free⟩ hs,by simpa using I.len⟩ ⟨_,hs,.inl rfl⟩
  ·exact (hs.2 b (Nat.ne_of_lt (Nat.lt_of_lt_of_le (Heap.lt_size e) I.ok.above))).trans (I.base.keep b o e n hb hx)
  ·obtain ⟨sl,e1⟩:=I.base.slot b o e n hb hx;exact ⟨sl,(hs.2 b (Nat.ne_of_lt (Nat.lt_of_lt_of_le (Heap.lt_size e) I.ok.above))).trans e1⟩
  ·obtain ⟨o',e1⟩:=I.base.there b o e hx;exact ⟨o',(hs.2 b (Nat.ne_of_lt (Nat.lt_of_lt_of_le (Heap.lt_size e) I.ok.above))).trans e1⟩
  ·by_cases hj:j=i
   ·subst hj;rw[hi]at e1;cases e1;rw[List.getElem?_set_self hiσ]at e2;cases e2;exact ⟨u,r,.inl ⟨hk,by simp⟩⟩
   ·rw[List.getElem?_set_ne (Ne.symm hj)]at e2;obtain ⟨u',r',q⟩:=hl j y v' e1 e2 e3;refine ⟨u',r',?_⟩;rcases q with ⟨k,e⟩|⟨k,c,e,z⟩
    ·refine .inl ⟨k,?_⟩;have:y≠x:=fun e=>hj (l0l hN e1 (e▸hi))
     simp[this,e]
    ·exact .inr ⟨k,c,e,z.sameBut hs (cne y c e)⟩
  ·obtain ⟨w',z⟩:=I.cell y c e;exact ⟨w',z.sameBut hs (cne y c e)⟩
  ·obtain ⟨e,n,ne,nf,d⟩:=I.pin p hp;exact ⟨(hs.2 p.1 ne).trans e,n,ne,nf,d⟩
 ·have hfn:X.fn x=true:=by
   rcases hf with z |z
   ·exact z
   ·rw[z]at hk;cases hk
  obtain ⟨c,hc⟩:=I.ok.has x (.inl hk);obtain ⟨w',z⟩:=I.cell x c hc;refine wpAny_storeName_cell I.ok.kind hk hc z (fun h' hc' hs=>?_);obtain ⟨oc,hoc,hocd⟩:=id z;refine h {s with heap:=h'} ⟨I.ok,I.os,I.bare,⟨fun b o e n hb hx=>?_,fun b o e n hb hx=>?_,I.base.free,fun b o e hx=>?_,I.base.tups,I.base.frzs,I.base.tbls⟩,⟨m,hn.sameBut hs (Ne.symm (cne x c hc)),fun j y v' e1 e2 e3=>?_⟩,fun y c' e=>?_,I.free,I.freeC,fun p hp=>?_,tracked ⟨oc,hoc,I.freeC x c hc⟩ hs,by simpa using I.len⟩ ⟨c,hs,.inr hc⟩
  ·exact (hs.2 b (Nat.ne_of_lt (Nat.lt_of_lt_of_le (Heap.lt_size e) (I.ok.cab x c hfn hc)))).trans (I.base.keep b o e n hb hx)
  ·obtain ⟨sl,e1⟩:=I.base.slot b o e n hb hx;exact ⟨sl,(hs.2 b (Nat.ne_of_lt (Nat.lt_of_lt_of_le (Heap.lt_size e) (I.ok.cab x c hfn hc)))).trans e1⟩
  ·obtain ⟨o',e1⟩:=I.base.there b o e hx;exact ⟨o',(hs.2 b (Nat.ne_of_lt (Nat.lt_of_lt_of_le (Heap.lt_size e) (I.ok.cab x c hfn hc)))).trans e1⟩
  ·by_cases hj:j=i
   ·subst hj;rw[hi]at e1;cases e1;rw[List.getElem?_set_self hiσ]at e2;cases e2;exact ⟨u,r,.inr ⟨.inl hk,c,hc,hc'⟩⟩
   ·rw[List.getElem?_set_ne (Ne.symm hj)]at e2;obtain ⟨u',r',q⟩:=hl j y v' e1 e2 e3;refine ⟨u',r',?_⟩;rcases q with q |⟨k,c',e,z'⟩
    ·exact .inl q
    ·refine .inr ⟨k,c',e,z'.sameBut hs ?_⟩;rintro rfl;exact hj (l0l hN e1 (I.ok.inj _ _ _ e hc▸hi))
  ·by_cases hcc:c'=c
   ·subst hcc;exact ⟨_,hc'⟩
   ·obtain ⟨w2,z2⟩:=I.cell y c' e;exact ⟨w2,z2.sameBut hs hcc⟩
  ·obtain ⟨e,n,ne,nf,d⟩:=I.pin p hp;refine ⟨(hs.2 p.1 ?_).trans e,n,ne,nf,d⟩;intro q;rw[q,hoc]at e;have q':oc=p.2:=Option.some.inj e;exact d w' (by rw[←q'];exact hocd)
theorem q0t{M:Model}{A:Around}{E:Value→Shared→Prop}{i:Nat}{x:Str}{v:V}{u:Value}{Q:Unit→Shared→Prop}(I:Inv X pins σ H s)(hN:X.N.Nodup)(hi:X.N[i]?=some x)(hx:Loc X.env.scope x)(r:RelV v u)
 (h:∀s',Inv X pins (σ.set i (some v)) H s'→Q () s') (hf:X.fn x=true∨X.env.scope.names.lookup x=some .local:=by first |exact .inl rfl |exact .inr rfl |assumption):wpAny M A (storeName X.env x u) Q E s:=
 o0y I hN hi hx r (fun s' I' _=>h s' I') hf
theorem Inv.call'{s':Shared}{ch:List Addr}(I:Inv X pins σ H s)(ho:s'.os=s.os)(u:Un (frs X.stack) ch H H' s.heap s'.heap)(hok:HOk X.prog X.w H' s'.heap)(hg:AllBare s'.gens)
 (hch:∀b∈ch,(b∈X.ex∨X.s₀.heap.objs.size≤b)∧b≠X.env.locals∧(∀x c,X.env.cells.lookup x=some c→c≠b)∧∀p∈X.pn++pins,p.1≠b):Inv X pins σ H' s':=by
 obtain ⟨h',g',d',t',o'⟩:=s';have e:o'=s.os:=ho;subst e;exact I.call (g':=g') (t':=t') (d':=d') u hok hg hch
end
noncomputable abbrev XK:=Value→Option Addr→Hp→Prop
noncomputable abbrev St:=List (Option V)
noncomputable abbrev VK:=V→Hp→Prop
noncomputable abbrev TE:=St→Hp→VK→Prop
noncomputable abbrev TT:=St→Hp→(Bool→Hp→Prop)→Prop
noncomputable abbrev TA:=St→Hp→(List V→Hp→Prop)→Prop
structure Ends where
 nx:St→Hp→Prop
 rt:VK
 bk:St→Hp→Prop:=fun _ _=>False
 ct:St→Hp→Prop:=fun _ _=>False
noncomputable abbrev TS:=Ends→St→Hp→Prop
noncomputable def EP(X:Cx)(pins:List (Addr×Obj))(σ:St)(Q:VK)(u:Value)(s':Shared):Prop:=∃v H',Inv X pins σ H' s'∧RelV v u∧Q v H'
noncomputable def TP(X:Cx)(pins:List (Addr×Obj))(σ:St)(Q:Bool→Hp→Prop)(b:Bool)(s':Shared):Prop:=∃H',Inv X pins σ H' s'∧Q b H'
noncomputable def AP(X:Cx)(pins:List (Addr×Obj))(σ:St)(Q:List V→Hp→Prop)(us:List Value)(s':Shared):Prop:=∃vs H',Inv X pins σ H' s'∧Vals vs us∧Q vs H'
noncomputable def SP(X:Cx)(pins:List (Addr×Obj))(D:Ends)(f:Flow)(s':Shared):Prop:=
 match f with
 | .next=>∃ σ' H',Inv X pins σ' H' s'∧D.nx σ' H'
 | .brk=>∃ σ' H',Inv X pins σ' H' s'∧D.bk σ' H'
 | .cont=>∃ σ' H',Inv X pins σ' H' s'∧D.ct σ' H'
 | .ret u=>∃v σ' H',Inv X pins σ' H' s'∧RelV v u∧D.rt v H'
noncomputable def PE(X:Cx)(e:Expr)(t:TE):Prop:=
 ∀(pins:List (Addr×Obj)) (s:Shared) (σ:St) (H:Hp) (Q:VK),Inv X pins σ H s→t σ H Q→wpAny (model X.prog X.w) X.A (eval e X.env) (EP X pins σ Q) X.xe s
noncomputable def PT(X:Cx)(e:Expr)(t:TT):Prop:=
 ∀(pins:List (Addr×Obj)) (s:Shared) (σ:St) (H:Hp) (Q:Bool→Hp→Prop),Inv X pins σ H s→t σ H Q→wpAny (model X.prog X.w) X.A (isTrue e X.env (eval e X.env)) (TP X pins σ Q) X.xe s
noncomputable def PW(X:Cx)(e:Expr)(t:TT):Prop:=
 ∀(whole:Sem Value) (pins:List (Addr×Obj)) (s:Shared) (σ:St) (H:Hp) (Q:Bool→Hp→Prop),Inv X pins σ H s→t σ H Q→wpAny (model X.prog X.w) X.A (isTrue e X.env whole) (TP X pins σ Q) X.xe s
theorem PW.pt{X:Cx}{e:Expr}{t:TT}(h:PW X e t):PT X e t:=h _
noncomputable def PA(X:Cx)(es:List Expr)(t:TA):Prop:=
 ∀(pos:Pos) (pins:List (Addr×Obj)) (s:Shared) (σ:St) (H:Hp) (Q:List V→Hp→Prop),Inv X pins σ H s→t σ H Q→wpAny (model X.prog X.w) X.A (spliced (backTo pos (starEach es X.env))) (AP X pins σ Q) X.xe s
noncomputable def PS(X:Cx)(st:Stmt)(t:TS):Prop:=
 ∀(pins:List (Addr×Obj)) (s:Shared) (σ:St) (H:Hp) (D:Ends),Inv X pins σ H s→t D σ H→wpAny (model X.prog X.w) X.A (exec st X.env) (SP X pins D) X.xe s
noncomputable def PSs(X:Cx)(st:List Stmt)(t:TS):Prop:=
 ∀(pins:List (Addr×Obj)) (s:Shared) (σ:St) (H:Hp) (D:Ends),Inv X pins σ H s→t D σ H→wpAny (model X.prog X.w) X.A (execs st X.env) (SP X pins D) X.xe s
theorem thn{α:Type}{t:Sem α}{Q Q':α→Shared→Prop}{M:Model}{A:Around}{E:Value→Shared→Prop}{s:Shared}(h:wpAny M A t Q E s)(hQ:∀a s,Q a s→Q' a s):wpAny M A t Q' E s:=wpAny_mono h hQ fun _ _ x=>x
end L2
namespace L2
open PySem PySem.Spec PyProof.Rows
section
variable{X:Cx}
theorem bin{a b:Expr}{ta tb:TE}(ha:PE X a ta)(hb:PE X b tb){pins:List (Addr×Obj)}{s:Shared}{σ:St}{H:Hp}{R:V→V→Hp→Prop}(I:Inv X pins σ H s)(h:ta σ H fun x H1=>tb σ H1 fun y H2=>R x y H2)
 {α:Type} {Q:α→Shared→Prop} {f:Value→Value→Sem α}
 (hf:∀v u s2 x y H2,Inv X pins σ H2 s2→RelV x v→RelV y u→R x y H2→wpAny (model X.prog X.w) X.A (f v u) Q X.xe s2):
 wpAny (model X.prog X.w) X.A (eval a X.env) (fun v s₁=>wpAny (model X.prog X.w) X.A (eval b X.env) (fun u s₂=>wpAny (model X.prog X.w) X.A (f v u) Q X.xe s₂) X.xe s₁) X.xe s:=by
 refine thn (ha pins s σ H _ I h) fun v s1 ⟨x,H1,I1,r1,q1⟩=>?_
 refine thn (hb pins s1 σ H1 _ I1 q1) fun u s2 ⟨y,H2,I2,r2,q2⟩=>?_
 exact hf v u s2 x y H2 I2 r1 r2 q2
noncomputable def tVar(i:Nat):TE:=fun σ H Q=>∃v,σ[i]?=some (some v)∧Q v H
noncomputable def tC(v:V):TE:=fun _ H Q=>Q v H
theorem u0q{i:Nat}{x:Str}{pos:Pos}(hN:X.N[i]?=some x)(hv:Vis X.env.scope x)(hd:(x==("__debug__":Str))=false:=by decide)(hcd:(x==("__classdict__":Str))=false:=by decide):PE X (.Name x pos) (tVar i):=by
 intro pins s σ H Q I h;obtain ⟨v,e,h⟩:=h;obtain ⟨m,hn,hl⟩:=I.loc;obtain ⟨u,r,l⟩:=hl i x v hN e hv;have fin:EP X pins σ Q u s:=⟨v,H,I,r,h⟩;rcases l with ⟨hk,hm⟩|⟨hk,c,hc,hcell⟩
 ·exact wpAny_Name (wpAny_loadName_local I.ok.kind hk hn hm fin) hd
 ·rcases hk with hk |hk
  ·exact wpAny_Name (wpAny_loadName_cell I.ok.kind hk hc hcell fin) hd
  ·exact wpAny_Name (wpAny_loadName_free I.ok.kind hk hc hcell fin hcd) hd
theorem pe_int{i j pos}:PE X (.Constant (.int i) j pos) (tC (.int i)):=fun _ _ _ H _ I h=>wpAny_Constant_int ⟨.int i,H,I.tok _,⟨_,rfl⟩,h⟩
theorem pe_bl{b j pos}:PE X (.Constant (.bool b) j pos) (tC (.bl b)):=fun _ _ _ H _ I h=>Constant_bool ⟨.bl b,H,I,rfl,h⟩
theorem pe_str{x j pos}:PE X (.Constant (.str x) j pos) (tC (.str x)):=fun _ _ _ H _ I h=>Calls.Constant_str ⟨.str x,H,I.tok _,⟨_,rfl⟩,h⟩
noncomputable def Gl(X:Cx)(x:Str):Prop:=X.env.kindOf x=some .globalImplicit
theorem t0x{E:Value→Shared→Prop}{pins:List (Addr×Obj)}{s:Shared}{σ:St}{H:Hp}{x:Str}{u:Value}{pos:Pos}{Q:Value→Shared→Prop}(I:Inv X pins σ H s)(hg:Gl X x)(hm:X.mg x=some u)(h:Q u s)
 (hd:(x==("__debug__":Str))=false:=by decide):wpAny (model X.prog X.w) X.A (eval (.Name x pos) X.env) Q E s:=
 Calls.Name_function_global I.ok.kind hg (Calls.loadGlobal_global (by rw[I.ok.glob];exact I.mod.glob.keeps I.bk) hm h) hd
theorem t0w{E:Value→Shared→Prop}{pins:List (Addr×Obj)}{s:Shared}{σ:St}{H:Hp}{x:Str}{u:Value}{pos:Pos}{Q:Value→Shared→Prop}(I:Inv X pins σ H s)(hg:Gl X x)(hm:X.mg x=none)(hv:bootBuiltins x=some u)(h:Q u s)
 (hn:x≠"__name__":=by decide) (hd:(x==("__debug__":Str))=false:=by decide):wpAny (model X.prog X.w) X.A (eval (.Name x pos) X.env) Q E s:=by
 obtain ⟨mb,h1,h2⟩:=I.mod.blt;exact Calls.Name_function_global I.ok.kind hg (Calls.loadGlobal_builtin (by rw[I.ok.glob];exact I.mod.glob.keeps I.bk) hm (by rw[I.ok.blt];exact h1.keeps I.bk) ((h2 x hn).trans hv) h) hd
theorem i0o{x:Str}{v:V}{u:Value}{pos:Pos}(hg:Gl X x)(hm:X.mg x=some u)(r:RelV v u)(hd:(x==("__debug__":Str))=false:=by decide):PE X (.Name x pos) (tC v):=
 fun _ _ _ H _ I h=>t0x I hg hm ⟨v,H,I,r,h⟩ hd
theorem b0q{x:Str}{v:V}{u:Value}{pos:Pos}(hg:Gl X x)(hm:X.mg x=none)(hv:bootBuiltins x=some u)(r:RelV v u)(hn:x≠"__name__":=by decide)(hd:(x==("__debug__":Str))=false:=by decide):PE X (.Name x pos) (tC v):=
 fun _ _ _ H _ I h=>t0w I hg hm hv ⟨v,H,I,r,h⟩ hn hd
variable{a b:Expr}{ta tb:TE}{pos:Pos}
noncomputable def PC(X:Cx)(op:CmpOp)(a b:Expr)(t:TE):Prop:=
 ∀(pins:List (Addr×Obj)) (s:Shared) (σ:St) (H:Hp) (Q:VK),Inv X pins σ H s→t σ H Q→
  wpAny (model X.prog X.w) X.A (eval a X.env) (fun v s₁=>wpAny (model X.prog X.w) X.A (eval b X.env) (fun u s₂=>wpAny (model X.prog X.w) X.A (compareOp op v u) (EP X pins σ Q) X.xe s₂) X.xe s₁) X.xe s
theorem f0e(b:Expr){op:CmpOp}(h:op≠.In)(h2:op≠.NotIn):behindInMarks op b=false:=by
 have e1:(op==CmpOp.In)=false:=by cases op<;>first |rfl |exact absurd rfl h
 have e2:(op==CmpOp.NotIn)=false:=by cases op<;>first |rfl |exact absurd rfl h2
 cases b<;>simp[behindInMarks,e1,e2]
noncomputable def tB(t:TE):TT:=fun σ H Q=>t σ H fun x H1=>∃c,x=.bl c∧Q c H1
theorem pt_cmp{op:CmpOp}{t:TE}(h:PC X op a b t)(h1:behindInMarks op b=false:=by first |exact f0e _ (by decide) (by decide)|rfl):PT X (.Compare a [op] [b] pos) (tB t):=by
 intro pins s σ H Q I hw;refine wpAny_isTrue_Compare1 (thn (h pins s σ H _ I hw) fun v s1 h1=>thn h1 fun u s2 h2=>thn h2 fun c s3 ⟨x,H1,I1,r1,q1⟩=>?_) h1;obtain ⟨d,rfl,q⟩:=q1;cases r1;exact wpAny_truthy_bool ⟨H1,I1,q⟩
theorem pt_val{e:Expr}{t:TE}(h:PE X e t)(he:∀whole,isTrue e X.env whole=(do let v←whole;standAt e.pos;holding [v] (truthy v)):=by intro _;rfl):PT X e (tB t):=by
 intro pins s σ H Q I hw;refine isTrue_plain (thn (h pins s σ H _ I hw) fun v s1 ⟨x,H1,I1,r1,q1⟩=>?_) (he _);obtain ⟨d,rfl,q⟩:=q1;cases r1;exact wpAny_truthy_bool ⟨H1,I1,q⟩
variable{tA tB':TT}{rest:List Expr}
noncomputable def tOr(t u:TT):TT:=fun σ H Q=>t σ H fun c H1=>if c=true then Q true H1 else u σ H1 Q
noncomputable def tNot(t:TT):TT:=fun σ H Q=>t σ H fun c H1=>Q (!c) H1
theorem pw_or1(ha:PT X a tA):PW X (.BoolOp .Or [a] pos) tA:=by
 intro wh pins s σ H Q I h;refine isTrue_or (thn (ha pins s σ H Q I h) fun c s1 e=>?_);cases c with
 |false=>exact isTrue_or_nil e
 |true=>exact e
theorem pw_or(ha:PT X a tA)(hb:PW X (.BoolOp .Or (b::rest) pos) tB'):PW X (.BoolOp .Or (a::b::rest) pos) (tOr tA tB'):=by
 intro wh pins s σ H Q I h;refine isTrue_or (thn (ha pins s σ H _ I h) fun c s1 ⟨H1,I1,q1⟩=>?_);cases c with
 |true=>exact ⟨H1,I1,q1⟩
 |false=>exact hb wh pins s1 σ H1 Q I1 q1
theorem pt_not(ha:PT X a tA):PT X (.UnaryOp .Not a pos) (tNot tA):=by
 intro pins s σ H Q I h;exact isTrue_not (ha pins s σ H (fun c H1=>Q (!c) H1) I h)
noncomputable def tAndV(ta tb:TE):TE:=fun σ H Q=>ta σ H fun x H1=>∃c,x=.bl c∧if c=true then tb σ H1 Q else Q (.bl false) H1
noncomputable def tNotV(ta:TE):TE:=fun σ H Q=>ta σ H fun x H1=>∃c,x=.bl c∧Q (.bl (!c)) H1
theorem pe_one{op}{t:TE}(h:PE X a t):PE X (.BoolOp op [a] pos) t:=fun pins s σ H Q I hw=>BoolOp_one (h pins s σ H Q I hw)
theorem pe_and(ha:PE X a ta)(hb:PE X (.BoolOp .And (b::rest) pos) tb):PE X (.BoolOp .And (a::b::rest) pos) (tAndV ta tb):=by
 intro pins s σ H Q I h;refine BoolOp_and (thn (ha pins s σ H _ I h) fun v s1 ⟨x,H1,I1,r1,q1⟩=>?_);obtain ⟨c,rfl,q1⟩:=q1;cases r1;refine wpAny_truthy_bool ?_;cases c with
 |true=>exact hb pins s1 σ H1 Q I1 q1
 |false=>exact ⟨.bl false,H1,I1,rfl,q1⟩
theorem pe_not(ha:PE X a ta):PE X (.UnaryOp .Not a pos) (tNotV ta):=by
 intro pins s σ H Q I h;refine UnaryOp_ (thn (ha pins s σ H _ I h) fun v s1 ⟨x,H1,I1,r1,q1⟩=>?_);obtain ⟨c,rfl,q1⟩:=q1;cases r1;exact not_of (wpAny_truthy_bool ⟨.bl (!c),H1,I1,rfl,q1⟩)
noncomputable def tIf(t:TT)(ta tb:TE):TE:=fun σ H Q=>t σ H fun c H1=>if c=true then ta σ H1 Q else tb σ H1 Q
theorem f0d{c:Expr}(hc:PT X c tA)(ha:PE X a ta)(hb:PE X b tb):PE X (.IfExp c a b pos) (tIf tA ta tb):=by
 intro pins s σ H Q I h;refine wpAny_IfExp (thn (hc pins s σ H _ I h) fun d s1 ⟨H1,I1,q1⟩=>?_);cases d with
 |true=>exact ha pins s1 σ H1 Q I1 q1
 |false=>exact hb pins s1 σ H1 Q I1 q1
end
end L2
namespace L2
open PySem PySem.Spec PyProof.Rows
noncomputable def SqL(K:PySem.W.Frag)(H:Hp)(a:Addr)(xs:List V):Prop:=
 Rd H a (.lst xs)∨
  ∃(o:Obj) (its:Array Value) (n:Nat),K.lookup a=some o∧o.cls=.type "list"∧o.dict=none∧o.data=.seq its n∧its.size≤sizeLine∧Vals xs its.toList
noncomputable def SqT(K:PySem.W.Frag)(H:Hp)(a:Addr)(xs:List V):Prop:=
 Rd H a (.tup xs)∨
  ∃(o:Obj) (its:Array Value) (n:Nat),K.lookup a=some o∧o.cls=.type "tuple"∧o.data=.seq its n∧its.size≤sizeLine∧Vals xs its.toList
noncomputable def absV:Value→Option V
 | .none=>some .non
 | .bool b=>some (.bl b)
 | .int i _=>some (.int i)
 | .str x _=>some (.str x)
 | .bytes b _=>some (.byt b)
 | .float b _=>some (.flt b)
 | .ref a=>some (.ref a)
 | .type n=>some (.ty n)
 |_=>none
theorem RelV.abs{x:V}{u:Value}(r:RelV x u):absV u=some x:=by
 cases x with
 |non=>cases r;rfl
 |bl _=>cases r;rfl
 |int _=>obtain ⟨t,rfl⟩:=r;rfl
 |str _=>obtain ⟨t,rfl⟩:=r;rfl
 |byt _=>obtain ⟨t,rfl⟩:=r;rfl
 |flt _=>obtain ⟨t,rfl⟩:=r;rfl
 |ref _=>cases r;rfl
 |ty _=>cases r;rfl
theorem RelV.inj{x y:V}{u:Value}(r:RelV x u)(q:RelV y u):x=y:=Option.some.inj (r.abs.symm.trans q.abs)
theorem Vals.inj:∀{xs ys:List V} {us:List Value},Vals xs us→Vals ys us→xs=ys
 |_,_,_,.nil,.nil=>rfl
 |_,_,_,.cons r t,.cons r' t'=>by rw[r.inj r',Vals.inj t t']
section
variable{X:Cx}{pins:List (Addr×Obj)}{σ:St}{H:Hp}{s:Shared}{a:Addr}{xs ys:List V}
theorem SqL.of{K:PySem.W.Frag}(h:H a=some (.lst xs)):SqL K H a xs:=.inl (.inl h)
theorem SqT.of{K:PySem.W.Frag}(h:H a=some (.tup xs)):SqT K H a xs:=.inl (.inl h)
theorem Inv.list(I:Inv X pins σ H s)(h:SqL X.K H a xs):∃its:List Value,Vals xs its∧PlainL s.heap a its.toArray∧xs.length≤sizeLine:=by
 rcases h with h |⟨o,its,n,hk,hc,hd,hs,hz,r⟩
 ·obtain ⟨z,its,n,r,e⟩:=h.ok I.hok;exact ⟨its,r,⟨_,n,e,rfl,rfl,rfl⟩,z⟩
 ·refine ⟨its.toList,r,⟨o,n,I.kIn a o hk,hc,hd,by simpa using hs⟩,?_⟩;have e:=r.length;simp only[Array.length_toList]at e;omega
theorem Inv.tuple(I:Inv X pins σ H s)(h:SqT X.K H a xs):∃its:List Value,Vals xs its∧IsTup s.heap a its.toArray∧xs.length≤sizeLine:=by
 rcases h with h |⟨o,its,n,hk,hc,hs,hz,r⟩
 ·obtain ⟨z,its,r,p⟩:=h.ok I.hok;exact ⟨its,r,p.tup,z⟩
 ·refine ⟨its.toList,r,⟨o,I.kIn a o hk,hc,n,by simpa using hs⟩,?_⟩;have e:=r.length;simp only[Array.length_toList]at e;omega
theorem Inv.list_inj(I:Inv X pins σ H s)(h:SqL X.K H a xs)(h':SqL X.K H a ys):xs=ys:=by
 obtain ⟨its,r,⟨o,n,e,_,_,d⟩,_⟩:=I.list h;obtain ⟨its',r',⟨o',n',e',_,_,d'⟩,_⟩:=I.list h';rw[e]at e';cases e';rw[d]at d';injection d' with d1 _
 have:its=its':=by simpa using congrArg Array.toList d1
 subst this;exact r.inj r'
theorem Inv.tuple_inj(I:Inv X pins σ H s)(h:SqT X.K H a xs)(h':SqT X.K H a ys):xs=ys:=by
 obtain ⟨its,r,⟨o,e,_,n,d⟩,_⟩:=I.tuple h;obtain ⟨its',r',⟨o',e',_,n',d'⟩,_⟩:=I.tuple h';rw[e]at e';cases e';rw[d]at d';injection d' with d1 _
 have:its=its':=by simpa using congrArg Array.toList d1
 subst this;exact r.inj r'
end
noncomputable abbrev Cx.wish(X:Cx)(E:Value→Shared→Prop):Cx:={X with xe:=E}
noncomputable abbrev Cx.nox(X:Cx):Cx:=X.wish fun _ _=>False
theorem Cx.Ok.wish{X:Cx}(ok:X.Ok)(E:Value→Shared→Prop):(X.wish E).Ok:=
 ⟨ok.mod,ok.kind,ok.glob,ok.blt,ok.above,ok.inj,ok.has,ok.cab,ok.hd,ok.frames,ok.stk,ok.exf,ok.bs,ok.bsz,ok.noex,ok.exfs,ok.funs,ok.frf⟩
theorem Cx.Ok.unwish{X:Cx}{E:Value→Shared→Prop}(ok:(X.wish E).Ok):X.Ok:=
 ⟨ok.mod,ok.kind,ok.glob,ok.blt,ok.above,ok.inj,ok.has,ok.cab,ok.hd,ok.frames,ok.stk,ok.exf,ok.bs,ok.bsz,ok.noex,ok.exfs,ok.funs,ok.frf⟩
section
variable{X:Cx}{pins:List (Addr×Obj)}{σ:St}{H:Hp}{s:Shared}{E:Value→Shared→Prop}
theorem Inv.wish(I:Inv X pins σ H s)(E:Value→Shared→Prop):Inv (X.wish E) pins σ H s:=⟨I.ok.wish E,I.os,I.bare,I.base,I.loc,I.cell,I.free,I.freeC,I.pin,I.hok,I.len⟩
theorem Inv.unwish(I:Inv (X.wish E) pins σ H s):Inv X pins σ H s:=⟨I.ok.unwish,I.os,I.bare,I.base,I.loc,I.cell,I.free,I.freeC,I.pin,I.hok,I.len⟩
theorem SP.unwish{D:Ends}{f:Flow}{s':Shared}(h:SP (X.wish E) pins D f s'):SP X pins D f s':=by
 cases f with
 |next=>obtain ⟨σ',H',I,q⟩:=h;exact ⟨σ',H',I.unwish,q⟩
 |brk=>obtain ⟨σ',H',I,q⟩:=h;exact ⟨σ',H',I.unwish,q⟩
 |cont=>obtain ⟨σ',H',I,q⟩:=h;exact ⟨σ',H',I.unwish,q⟩
 |ret u=>obtain ⟨v,σ',H',I,r,q⟩:=h;exact ⟨v,σ',H',I.unwish,r,q⟩
theorem PSs.nox{st:List Stmt}{t:TS}(h:PSs X.nox st t):PSs X st t:=fun pins s σ H D I hw=>
 wpAny_mono (h pins s σ H D (I.wish _) hw) (fun _ _ q=>q.unwish) fun _ _ z=>False.elim z
end
section
variable{X:Cx}{st:Stmt}{rest:List Stmt}{t u:TS}{e:Expr}{te:TE}{pos:Pos}
noncomputable def tNext:TS:=fun D σ H=>D.nx σ H
noncomputable def tSeq(t u:TS):TS:=fun D σ H=>t {D with nx:=u D} σ H
theorem b0p:PSs X [] tNext:=fun _ _ σ H _ I h=>wpAny_execs_nil ⟨σ,H,I,h⟩
theorem f0c(h1:PS X st t)(h2:PSs X rest u):PSs X (st::rest) (tSeq t u):=by
 intro pins s σ H D I h;refine wpAny_execs_cons (thn (h1 pins s σ H {D with nx:=u D} I h) fun f s1 q=>?_);cases f with
 |next=>
  obtain ⟨σ',H',I',q⟩:=q;exact h2 pins s1 σ' H' D I' q
 |ret v=>exact q
 |brk=>exact q
 |cont=>exact q
theorem n0h(h1:PS X st t):PSs X [st] t:=by
 intro pins s σ H D I h;refine wpAny_execs_cons (thn (h1 pins s σ H D I h) fun f s1 q=>?_);cases f with
 |next=>exact wpAny_execs_nil q
 |ret v=>exact q
 |brk=>exact q
 |cont=>exact q
theorem Inv.quiet{pins:List (Addr×Obj)}{σ:St}{H:Hp}{s:Shared}(I:Inv X pins σ H s):interactive X.env=false:=by simp[interactive,I.ok.kind]
noncomputable def tDrop(te:TE):TS:=fun D σ H=>te σ H fun _ H1=>D.nx σ H1
theorem b0o(he:PE X e te)(hs:swapsWith e none pos.line X.env=pure false:=by rfl):PS X (.Expr e pos) (tDrop te):=by
 intro pins s σ H D I h;exact wpAny_Expr_any (thn (he pins s σ H _ I h) fun v s1 ⟨x,H1,I1,r1,q1⟩=>⟨σ,H1,I1,q1⟩) I.quiet hs
noncomputable def tRet(te:TE):TS:=fun D σ H=>te σ H D.rt
theorem c0p(he:PE X e te):PS X (.Return (some e) pos) (tRet te):=by
 intro pins s σ H D I h;exact wpAny_Return_some (thn (he pins s σ H _ I h) fun v s1 ⟨x,H1,I1,r1,q1⟩=>⟨x,σ,H1,I1,r1,q1⟩)
noncomputable def tIfS(c:TT)(t u:TS):TS:=fun D σ H=>c σ H fun b H1=>if b=true then t D σ H1 else u D σ H1
theorem ps_if{c:Expr}{a b:List Stmt}{tc:TT}(hc:PT X c tc)(ha:PSs X a t)(hb:PSs X b u):PS X (.If c a b pos) (tIfS tc t u):=by
 intro pins s σ H D I h;refine wpAny_If (thn (hc pins s σ H _ I h) fun d s1 ⟨H1,I1,q1⟩=>?_);cases d with
 |true=>exact ha pins s1 σ H1 D I1 q1
 |false=>exact hb pins s1 σ H1 D I1 q1
end
noncomputable abbrev TG:=V→St→Hp→(St→Hp→Prop)→Prop
noncomputable abbrev TGs:=List V→St→Hp→(St→Hp→Prop)→Prop
noncomputable def PG(X:Cx)(target:Expr)(t:TG):Prop:=
 ∀(pins:List (Addr×Obj)) (s:Shared) (σ:St) (H:Hp) (v:V) (u:Value) (Q:St→Hp→Prop),Inv X pins σ H s→RelV v u→t v σ H Q→
  wpAny (model X.prog X.w) X.A (assign target X.env u) (fun _ s'=>∃ σ' H',Inv X pins σ' H' s'∧Q σ' H') X.xe s
noncomputable def PGs(X:Cx)(ts:List Expr)(t:TGs):Prop:=
 ∀(pins:List (Addr×Obj)) (s:Shared) (σ:St) (H:Hp) (vs:List V) (us:List Value) (Q:St→Hp→Prop),Inv X pins σ H s→Vals vs us→t vs σ H Q→
  wpAny (model X.prog X.w) X.A (assignInOrder ((assignEach ts X.env).map (·.2)) us) (fun _ s'=>∃ σ' H',Inv X pins σ' H' s'∧Q σ' H') X.xe s
noncomputable abbrev TSet:=V→V→V→Hp→(Hp→Prop)→Prop
noncomputable def PSet(X:Cx)(t:TSet):Prop:=
 ∀(pins:List (Addr×Obj)) (s:Shared) (σ:St) (H:Hp) (o i v:V) (ov iv u:Value) (Q:Hp→Prop),Inv X pins σ H s→RelV o ov→RelV i iv→RelV v u→t o i v H Q→
  wpAny (model X.prog X.w) X.A (setItem ov iv u) (fun _ s'=>∃H',Inv X pins σ H' s'∧Q H') X.xe s
noncomputable abbrev TIp:=V→V→Hp→VK→Prop
noncomputable def PIp(X:Cx)(op:Operator)(t:TIp):Prop:=
 ∀(pins:List (Addr×Obj)) (s:Shared) (σ:St) (H:Hp) (x y:V) (v u:Value) (Q:VK),Inv X pins σ H s→RelV x v→RelV y u→t x y H Q→
  wpAny (model X.prog X.w) X.A (inplaceOp op v u) (EP X pins σ Q) X.xe s
section
variable{X:Cx}{pos:Pos}
noncomputable def n0g(i:Nat):TG:=fun v σ H Q=>Q (σ.set i (some v)) H
theorem m4{i:Nat}{x:Str}(hN:X.N.Nodup)(hi:X.N[i]?=some x)(hx:Loc X.env.scope x)(hf:X.fn x=true∨X.env.scope.names.lookup x=some .local:=by first |exact .inl rfl |exact .inr rfl |assumption):PG X (.Name x pos) (n0g i):=by
 intro pins s σ H v u Q I r h;exact wpAny_assign_Name (q0t I hN hi hx r (fun s' I'=>⟨_,H,I',h⟩) hf)
noncomputable def gNil:TGs:=fun vs σ H Q=>vs=[]∧Q σ H
noncomputable def gCons(t:TG)(u:TGs):TGs:=fun vs σ H Q=>∃v r,vs=v::r∧t v σ H fun σ' H'=>u r σ' H' Q
theorem k9:PGs X [] gNil:=by
 intro pins s σ H vs us Q I r h;obtain ⟨e,h⟩:=h;subst e;cases r;exact assignInOrder_nil ⟨σ,H,I,h⟩
theorem z5{e:Expr}{es:List Expr}{t:TG}{u:TGs}(h1:PG X e t)(h2:PGs X es u)
 (hs:(assignEach (e::es) X.env).map (·.2)=assign e X.env::(assignEach es X.env).map (·.2):=by rfl):PGs X (e::es) (gCons t u):=by
 intro pins s σ H vs us Q I r h;obtain ⟨v,vr,e1,h⟩:=h;subst e1;cases r with
 |cons r rr=>
  rw[hs];refine assignInOrder_cons (thn (h1 pins s σ H _ _ _ I r h) fun _ s1 ⟨σ1,H1,I1,q1⟩=>?_);exact h2 pins s1 σ1 H1 _ _ Q I1 rr q1
noncomputable def gTup(K:PySem.W.Frag)(n:Nat)(t:TGs):TG:=fun v σ H Q=>∃a xs,v=.ref a∧SqT K H a xs∧xs.length=n∧t xs σ H Q
theorem w0z{es:List Expr}{k:Nat}{t:TGs}{n:Nat}(hc:X.calm=true)(h:PGs X es t)
 (hn:(assignEach es X.env).length=n:=by rfl) (hst:(assignEach es X.env).findIdx? (·.1)=none:=by rfl):PG X (.Tuple es k pos) (gTup X.K n t):=by
 intro pins s σ H v u Q I r hw;obtain ⟨a,xs,e1,hq,hl,hw⟩:=hw;subst e1;cases r;obtain ⟨its,rv,ht,hz⟩:=I.tuple hq;refine assign_Tuple_tuple (I.ok.hd hc) ht (by simp[hn,← hl,rv.length]) hst fun h' hx=>?_
 have I1:Inv X pins σ H {s with heap:=h'}:=I.kept (t':=s.toks) fun b o e=>hx b o (Nat.ne_of_lt (Heap.lt_size e)) e
 exact h pins _ σ H xs _ Q I1 (by simpa using rv) hw
noncomputable def gSub(to ti:TE)(t:TSet):TG:=fun v σ H Q=>to σ H fun o H1=>ti σ H1 fun i H2=>t o i v H2 fun H3=>Q σ H3
theorem pg_sub{o i:Expr}{to ti:TE}{t:TSet}(ho:PE X o to)(hi:PE X i ti)(hs:PSet X t)
 (ha:∀v,assign (.Subscript o i pos) X.env v=(do
  let ov←holding [v] (eval o X.env)
  let iv←holding [v,ov] (eval i X.env)
  standAt pos
  holding [v,ov,iv] (setItem ov iv v)
  release [v,ov,iv] []):=by intro _;rfl):PG X (.Subscript o i pos) (gSub to ti t):=by
 intro pins s σ H v u Q I r h;rw[ha];refine wpAny_bind (wpAny_holding (thn (ho pins s σ H _ I h) fun ov s1 ⟨x,H1,I1,r1,q1⟩=>?_));refine wpAny_bind (wpAny_holding (thn (hi pins s1 σ H1 _ I1 q1) fun iv s2 ⟨y,H2,I2,r2,q2⟩=>?_));refine wpAny_bind (wpAny_standAt (wpAny_bind (wpAny_holding (thn (hs pins s2 σ H2 x y v ov iv u _ I2 r1 r2 r q2) fun _ s3 ⟨H3,I3,q3⟩=>?_))));exact wpAny_release ⟨σ,H3,I3,q3⟩
noncomputable def tAsg(te:TE)(g:TG):TS:=fun D σ H=>te σ H fun x H1=>g x σ H1 D.nx
theorem c0o{tg e:Expr}{te:TE}{g:TG}(he:PE X e te)(hg:PG X tg g)(hs:swapsWithSole [tg] e pos.line X.env=pure false:=by rfl)(hw:swappedStores [tg] e X.env=pure none:=by rfl)
 (h1:(assignEach [tg] X.env).map (·.2)=[assign tg X.env]:=by rfl):PS X (.Assign [tg] e pos) (tAsg te g):=by
 intro pins s σ H D I h;refine wpAny_Assign_stores (thn (he pins s σ H _ I h) fun v s1 ⟨x,H1,I1,r1,q1⟩=>?_) hs hw;rw[h1];exact thn (hg pins s1 σ H1 x v _ I1 r1 q1) fun _ s2 q=>q
theorem l0k{i:Nat}{x:Str}{e:Expr}{te:TE}{pos':Pos}(hN:X.N.Nodup)(hi:X.N[i]?=some x)(hx:Loc X.env.scope x)(he:PE X e te)(hs:swapsWith e (some (.Name x pos')) pos.line X.env=pure false:=by rfl)(hf:X.fn x=true∨X.env.scope.names.lookup x=some .local:=by first |exact .inl rfl |exact .inr rfl |assumption):
 PS X (.Assign [.Name x pos'] e pos) (tAsg te (n0g i)):=by
 intro pins s σ H D I h;refine wpAny_Assign_Name (thn (he pins s σ H _ I h) fun v s1 ⟨y,H1,I1,r1,q1⟩=>?_) hs;exact q0t I1 hN hi hx r1 (fun s2 I2=>⟨_,H1,I2,q1⟩) hf
noncomputable def tAug(i:Nat)(te:TE)(ti:TIp):TS:=fun D σ H=>∃x,σ[i]?=some (some x)∧te σ H fun y H1=>ti x y H1 fun z H2=>D.nx (σ.set i (some z)) H2
theorem c0n{i:Nat}{x:Str}{e:Expr}{te:TE}{op:Operator}{ti:TIp}{pos':Pos}(hN:X.N.Nodup)(hi:X.N[i]?=some x)(hx:Loc X.env.scope x)(he:PE X e te)(ho:PIp X op ti)(hf:X.fn x=true∨X.env.scope.names.lookup x=some .local:=by first |exact .inl rfl |exact .inr rfl |assumption):
 PS X (.AugAssign (.Name x pos') op e pos) (tAug i te ti):=by
 intro pins s σ H D I h;obtain ⟨v,e1,h⟩:=h;obtain ⟨m,hn,hl⟩:=I.loc;have vis:Vis X.env.scope x:=by rcases hx with k |k;exact .inl k;exact .inr (.inl k)
 obtain ⟨u,r,l⟩:=hl i x v hi e1 vis;refine wpAny_AugAssign_Name ?_;have go:wpAny (model X.prog X.w) X.A (eval e X.env) (fun w s₂=>wpAny (model X.prog X.w) X.A (inplaceOp op u w) (fun r s₃=>wpAny (model X.prog X.w) X.A (storeName X.env x r) (fun _=>SP X pins D .next) X.xe s₃) X.xe s₂) X.xe s:=by
  refine thn (he pins s σ H _ I h) fun w s1 ⟨y,H1,I1,r1,q1⟩=>?_
  refine thn (ho pins s1 σ H1 v y u w _ I1 r r1 q1) fun z s2 ⟨zv,H2,I2,r2,q2⟩=>?_
  exact q0t I2 hN hi hx r2 (fun s3 I3=>⟨_,H2,I3,q2⟩) hf
 rcases l with ⟨hk,hm⟩|⟨hk,c,hc,hcell⟩
 ·exact wpAny_loadName_local I.ok.kind hk hn hm go
 ·rcases hk with hk |hk
  ·exact wpAny_loadName_cell I.ok.kind hk hc hcell go
  ·rcases hx with k |k
   ·have:X.env.scope.names.lookup x=some .free:=hk;rw[k]at this;cases this
   ·have:X.env.scope.names.lookup x=some .free:=hk;rw[k]at this;cases this
noncomputable def tAugS(to ti te:TE)(tget:V→V→Hp→VK→Prop)(tip:TIp)(tset:TSet):TS:=fun D σ H=>to σ H fun o H1=>ti σ H1 fun i H2=>tget o i H2 fun x H3=>te σ H3 fun y H4=>tip x y H4 fun z H5=>tset o i z H5 fun H6=>D.nx σ H6
noncomputable def PGet(X:Cx)(t:V→V→Hp→VK→Prop):Prop:=
 ∀(pins:List (Addr×Obj)) (s:Shared) (σ:St) (H:Hp) (o i:V) (ov iv:Value) (Q:VK),Inv X pins σ H s→RelV o ov→RelV i iv→t o i H Q→
  wpAny (model X.prog X.w) X.A (getItem ov iv) (EP X pins σ Q) X.xe s
theorem b0n{o i e:Expr}{to ti te:TE}{tget:V→V→Hp→VK→Prop}{tip:TIp}{tset:TSet}{op:Operator}{tpos:Pos}(ho:PE X o to)(hi:PE X i ti)(hg:PGet X tget)(he:PE X e te)(hp:PIp X op tip)(hs:PSet X tset)
 (ha:∀ov iv new,augStore i ov iv new=(do holding [new,ov,iv] (setItem ov iv new);release [new,ov,iv] [];pure .next):=by intros;rfl):PS X (.AugAssign (.Subscript o i tpos) op e pos) (tAugS to ti te tget tip tset):=by
 intro pins s σ H D I h;refine wpAny_AugAssign_SubscriptAny (thn (ho pins s σ H _ I h) fun ov s1 ⟨x1,H1,I1,r1,q1⟩=>?_) ha;refine thn (hi pins s1 σ H1 _ I1 q1) fun iv s2 ⟨x2,H2,I2,r2,q2⟩=>?_
 refine thn (hg pins s2 σ H2 x1 x2 ov iv _ I2 r1 r2 q2) fun old s3 ⟨x3,H3,I3,r3,q3⟩=>?_
 refine thn (he pins s3 σ H3 _ I3 q3) fun v s4 ⟨x4,H4,I4,r4,q4⟩=>?_
 refine thn (hp pins s4 σ H4 x3 x4 old v _ I4 r3 r4 q4) fun new s5 ⟨x5,H5,I5,r5,q5⟩=>?_
 exact thn (hs pins s5 σ H5 x1 x2 x5 ov iv new _ I5 r1 r2 r5 q5) fun _ s6 ⟨H6,I6,q6⟩=>⟨σ,H6,I6,q6⟩
noncomputable def ipI(f:Int→Int→Int):TIp:=fun x y H Q=>∃i j,x=.int i∧y=.int j∧Q (.int (f i j)) H
theorem i0n:PIp X .Add (ipI fun i j=>i+j):=by
 intro pins s σ H x y v u Q I r1 r2 h;obtain ⟨i,j,e1,e2,q⟩:=h;subst e1;subst e2;obtain ⟨t,rfl⟩:=r1;obtain ⟨t',rfl⟩:=r2;exact iadd_int ⟨.int _,H,I.tok _,⟨_,rfl⟩,q⟩
end
section
variable{X:Cx}{pos:Pos}
end
structure It where
 go:Nat→Hp→Prop
 yld:Nat→Hp→V→Hp→Prop
 stop:Nat→Hp→Prop
noncomputable def FpOk(X:Cx)(pins:List (Addr×Obj))(H:Hp)(b:Addr):Prop:=
 H b=none∧b≠X.env.locals∧b∉X.fs∧(b∈X.ex∨X.s₀.heap.objs.size≤b)∧(∀x c,X.env.cells.lookup x=some c→c≠b)∧∀p∈X.pn++pins,p.1≠b
theorem Inv.fpOk{X:Cx}{pins:List (Addr×Obj)}{σ:St}{H H':Hp}{s:Shared}{b:Addr}(I:Inv X pins σ H s)(hb:s.heap.objs.size≤b)(hn:H' b=none):FpOk X pins H' b:=by
 refine ⟨hn,Nat.ne_of_gt (Nat.lt_of_lt_of_le I.lt hb),I.nofs hb,.inr (Nat.le_trans I.sz hb),fun x c e z=>?_,fun p hp z=>?_⟩
 ·obtain ⟨v,q⟩:=I.cell x c e;exact absurd (Nat.lt_of_lt_of_le q.lt (by rw[z];exact hb)) (Nat.lt_irrefl _)
 ·exact absurd (Nat.lt_of_lt_of_le (Heap.lt_size (I.pin p hp).1) (by rw[z];exact hb)) (Nat.lt_irrefl _)
structure Turn(P:Program)(w:World)(K:PySem.W.Frag)(tg:Expr)(J:It)(fp:List Addr)(it:Addr)(tn:Nat→Heap→Prop):Prop where
 mem:it∈fp
 obj:∀i h,tn i h→∀b∈fp,∃o,h.get? b=some o∧∀v,o.data≠.cell v
 keep:∀i h h',tn i h→(∀b∈fp,∀o,h.get? b=some o→h'.get? b=some o)→tn i h'
 item:∀(X:Cx),X.prog=P→X.w=w→X.K=K→X.calm=true→∀(i:Nat) (pins:List (Addr×Obj)) (s:Shared) (σ:St) (H:Hp) (E:Value→Shared→Prop),Inv X pins σ H s→(∀b∈fp,FpOk X pins H b)→tn i s.heap→J.go i H→
  wpAny (model P w) X.A (pyNext (.ref it)) (fun r s1=>∃u,r=some u∧
   wpAny (model P w) X.A (letOwnedTupleGo tg (.ref it) u) (fun _ s2=>∃x H',Inv X pins σ H' s2∧RelV x u∧J.yld i H x H'∧tn (i+1) s2.heap∧∀b∈fp,H' b=none) E s1) E s
 done:∀(X:Cx),X.prog=P→X.w=w→X.K=K→X.calm=true→∀(i:Nat) (pins:List (Addr×Obj)) (s:Shared) (σ:St) (H:Hp) (E:Value→Shared→Prop),Inv X pins σ H s→(∀b∈fp,FpOk X pins H b)→tn i s.heap→J.stop i H→
  wpAny (model P w) X.A (pyNext (.ref it)) (fun r s1=>r=none∧Inv X pins σ H s1) E s
 self:∀(A:Around) (i:Nat) (s:Shared) (Q:Value→Shared→Prop) (E:Value→Shared→Prop),tn i s.heap→Q (.ref it) s→wpAny (model P w) A (pyIter (.ref it)) Q E s
noncomputable abbrev TI:=St→Hp→(It→Hp→Prop)→Prop
noncomputable def PIE(X:Cx)(pins:List (Addr×Obj))(σ:St)(tg:Expr)(R:It→Hp→Prop)(itv:Value)(s2:Shared):Prop:=
 ∃(it:Addr) (fp:List Addr) (tn:Nat→Heap→Prop) (J:It) (H':Hp),itv=.ref it∧Inv X pins σ H' s2∧Turn X.prog X.w X.K tg J fp it tn∧tn 0 s2.heap∧(∀b∈fp,FpOk X pins H' b)∧R J H'
noncomputable def PI(X:Cx)(tg iter:Expr)(wi:TI):Prop:=
 ∀(pins:List (Addr×Obj)) (s:Shared) (σ:St) (H:Hp) (R:It→Hp→Prop),Inv X pins σ H s→wi σ H R→
  wpAny (model X.prog X.w) X.A (eval iter X.env) (fun v s1=>wpAny (model X.prog X.w) X.A (pyIter v) (PIE X pins σ tg R) X.xe s1) X.xe s
theorem b0m{M:Model}{A:Around}{E:Value→Shared→Prop}{s:Shared}{tg:Expr}{it:Addr}{u:Value}{o:Obj}{n:String}{vs:Array Value}{Q:Unit→Shared→Prop}(ho:s.heap.get? it=some o)(hc:o.cls=.type n)(hd:o.data=.fields vs)
 (hn:["enumerate","zip","dict_itemiterator","dict_reverseitemiterator","odict_iterator","itertools.zip_longest","itertools.pairwise"].contains n=false) (hQ:Q () s):wpAny M A (letOwnedTupleGo tg (.ref it) u) Q E s:=by
 unfold letOwnedTupleGo;cases tg<;>first
  |exact wpAny_pure hQ
  |(cases u<;>first
     |exact wpAny_pure hQ
     |(refine wpAny_bind (wpAny_load ho ?_);rw[hc,hd];show wpAny M A (if (["enumerate","zip","dict_itemiterator","dict_reverseitemiterator","odict_iterator","itertools.zip_longest","itertools.pairwise"].contains n&&vs[0]? ==some (rawInt _))=true then _ else _) Q E s;rw[if_neg (by intro h;rw[hn,Bool.false_and]at h;cases h)];exact wpAny_pure hQ))
noncomputable def Itl(K:PySem.W.Frag)(a:Addr):It:=
 ⟨fun i H=>∃xs x,SqL K H a xs∧xs[i]?=some x,fun i H x H'=>H'=H∧∀xs,SqL K H a xs→xs[i]?=some x,fun i H=>∃xs,SqL K H a xs∧xs.length≤i⟩
noncomputable def Itt(K:PySem.W.Frag)(a:Addr):It:=
 ⟨fun i H=>∃xs x,SqT K H a xs∧xs[i]?=some x,fun i H x H'=>H'=H∧∀xs,SqT K H a xs→xs[i]?=some x,fun i H=>∃xs,SqT K H a xs∧xs.length≤i⟩
noncomputable def Itr(lo:Int)(n:Nat):It:=⟨fun i _=>i<n,fun i H x H'=>H'=H∧x=.int (lo+i),fun i _=>n≤i⟩
theorem i0m{P:Program}{w:World}{K:PySem.W.Frag}{tg:Expr}(a it:Addr):Turn P w K tg (Itl K a) [it] it (fun i h=>h.IsListIter it a i)where
 mem:=by simp
 obj:=fun i h st b hb=>by
  have e:b=it:=by simpa using hb
  subst e;obtain ⟨o,e,c,d⟩:=st;exact ⟨o,e,fun v z=>by rw[d]at z;cases z⟩
 keep:=fun i h h' st k=>st.at fun o e=>k it (by simp) o e
 item:=by
  intro X hP hw hK hc i pins s σ H E I hf st hg;subst hP hw hK;obtain ⟨xs,x,hq,hx⟩:=hg;obtain ⟨its,rv,p,hz⟩:=I.list hq;obtain ⟨u,hu,ru⟩:=rv.get hx;obtain ⟨f0,f1,f2,f3,f4,f5⟩:=hf it (by simp);refine wpAny_pyNext_list_item st p.isList (x:=u) (by simpa using hu) fun h' st' sb=>?_
  have I1:Inv X pins σ H {s with heap:=h'}:=I.turned (t':=s.toks) (fun b o hb e=>(sb.2 b hb).trans e) f0 f1 f3 f4 f5;obtain ⟨o,e,c,d⟩:=id st';exact ⟨u,rfl,b0m (s:={s with heap:=h'}) e c d (by decide) ⟨x,H,I1,ru,⟨rfl,fun ys hy=>by rw[I.list_inj hy hq];exact hx⟩,st',fun b hb=>(hf b hb).1⟩⟩
 done:=by
  intro X hP hw hK hc i pins s σ H E I hf st hg;subst hP hw hK;obtain ⟨xs,hq,hx⟩:=hg;obtain ⟨its,rv,p,hz⟩:=I.list hq;obtain ⟨f0,f1,f2,f3,f4,f5⟩:=hf it (by simp);have hl:=rv.length;exact wpAny_pyNext_list_end (I.ok.hd hc) st p.isList (by simp;omega) fun h' eb=>⟨rfl,I.turned (t':=s.toks) (fun b o hb e=>eb b o hb e) f0 f1 f3 f4 f5⟩
 self:=fun _ _ _ _ _ st h=>wpAny_pyIter_listiter st h
theorem j0p{P:Program}{w:World}{K:PySem.W.Frag}{tg:Expr}(a it:Addr):Turn P w K tg (Itt K a) [it] it (fun i h=>h.IsTupleIter it a i)where
 mem:=by simp
 obj:=fun i h st b hb=>by
  have e:b=it:=by simpa using hb
  subst e;obtain ⟨o,e,c,d⟩:=st;exact ⟨o,e,fun v z=>by rw[d]at z;cases z⟩
 keep:=fun i h h' st k=>st.at fun o e=>k it (by simp) o e
 item:=by
  intro X hP hw hK hc i pins s σ H E I hf st hg;subst hP hw hK;obtain ⟨xs,x,hq,hx⟩:=hg;obtain ⟨its,rv,p,hz⟩:=I.tuple hq;obtain ⟨u,hu,ru⟩:=rv.get hx;obtain ⟨f0,f1,f2,f3,f4,f5⟩:=hf it (by simp);refine wpAny_pyNext_tuple_item st (show s.heap.IsTuple a its.toArray from p) (x:=u) (by simpa using hu) fun h' st' sb=>?_
  have I1:Inv X pins σ H {s with heap:=h'}:=I.turned (t':=s.toks) (fun b o hb e=>(sb.2 b hb).trans e) f0 f1 f3 f4 f5;obtain ⟨o,e,c,d⟩:=id st';exact ⟨u,rfl,b0m (s:={s with heap:=h'}) e c d (by decide) ⟨x,H,I1,ru,⟨rfl,fun ys hy=>by rw[I.tuple_inj hy hq];exact hx⟩,st',fun b hb=>(hf b hb).1⟩⟩
 done:=by
  intro X hP hw hK hc i pins s σ H E I hf st hg;subst hP hw hK;obtain ⟨xs,hq,hx⟩:=hg;obtain ⟨its,rv,p,hz⟩:=I.tuple hq;obtain ⟨f0,f1,f2,f3,f4,f5⟩:=hf it (by simp);have hl:=rv.length;exact wpAny_pyNext_tuple_end (I.ok.hd hc) st (show s.heap.IsTuple a its.toArray from p) (by simp;omega) fun h' eb=>⟨rfl,I.turned (t':=s.toks) (fun b o hb e=>eb b o hb e) f0 f1 f3 f4 f5⟩
 self:=fun _ _ _ _ _ st h=>wpAny_pyIter_tupleiter st h
theorem j0o{P:Program}{w:World}{K:PySem.W.Frag}{tg:Expr}(it:Addr)(lo:Int)(n:Nat):Turn P w K tg (Itr lo n) [it] it (fun i h=>IsRangeIter h it (lo+(i:Nat)*1) ((n:Int)-(i:Nat)) 1)where
 mem:=by simp
 obj:=fun i h st b hb=>by
  have e:b=it:=by simpa using hb
  subst e;exact ⟨_,st,fun v z=>by
   have z':Data.fields _=Data.cell v:=z;cases z'⟩
 keep:=fun i h h' st k=>k it (by simp) _ st
 item:=by
  intro X hP hw hK hc i pins s σ H E I hf st hg;subst hP hw hK;obtain ⟨f0,f1,f2,f3,f4,f5⟩:=hf it (by simp);have W:=Walks.range (prog:=X.prog) (w:=X.w) (I.ok.hd hc) it lo 1 n;refine W.item i s _ _ hg st fun v h' tk hv st' kk=>?_
  obtain ⟨t,rfl⟩:=hv;have I1:Inv X pins σ H {s with heap:=h',toks:=tk}:=I.turned (fun b o hb e=>kk b o (by simpa using hb) e) f0 f1 f3 f4 f5;refine ⟨_,rfl,b0m (s:={s with heap:=h',toks:=tk}) (n:="range_iterator") st' rfl rfl (by decide) ⟨.int (lo+i),H,I1,⟨t,?_⟩,⟨rfl,rfl⟩,st',fun b hb=>(hf b hb).1⟩⟩;rw[Int.mul_one]
 done:=by
  intro X hP hw hK hc i pins s σ H E I hf st hg;subst hP hw hK;obtain ⟨f0,f1,f2,f3,f4,f5⟩:=hf it (by simp);exact wpAny_pyNext_range_end (I.ok.hd hc) st (by have:n≤i:=hg;omega) fun h' eb=>⟨rfl,I.turned (t':=s.toks) (fun b o hb e=>eb b o hb e) f0 f1 f3 f4 f5⟩
 self:=fun _ _ _ _ _ st h=>wpAny_pyIter_rangeiter st h
end L2
namespace L2
open PySem PySem.Spec PyProof.Rows
section
variable{X:Cx}{tg:Expr}
theorem l0j{pins:List (Addr×Obj)}{σ:St}{H:Hp}{s:Shared}{R:It→Hp→Prop}{E:Value→Shared→Prop}{lo hi:Int}{t u v:Tok}{tk:Nat}(I:Inv X pins σ H s)(h1:-(2^62)≤lo)(h2:lo<2^62)(h3:-(2^62)≤hi)(h4:hi<2^62)
 (q:R (Itr lo (hi-lo).toNat) H):wpAny (model X.prog X.w) X.A (pyIter (.ref s.heap.objs.size)) (PIE X pins σ tg R) E {s with heap:=s.heap.push {cls:=.type "range",data:=.fields #[.int lo t,.int hi u,.int 1 v]},toks:=tk}:=by
 refine wpAny_pyIter_range (IsRange.new ..) (small_one h1 h2 h3 h4) ?_;have I1:Inv X pins σ H {s with heap:=s.heap.push {cls:=.type "range",data:=.fields #[.int lo t,.int hi u,.int 1 v]},toks:=tk}:=I.kept fun b o e=>Heap.get?_push_of_some _ e
 refine ⟨(s.heap.push {cls:=.type "range",data:=.fields #[.int lo t,.int hi u,.int 1 v]}).objs.size,[(s.heap.push {cls:=.type "range",data:=.fields #[.int lo t,.int hi u,.int 1 v]}).objs.size],_,_,H,rfl,
  I1.kept (t':=tk) fun b o e=>Heap.get?_push_of_some _ e,j0o _ lo (hi-lo).toNat,?_,fun b hb=>?_,q⟩
 ·have e1:lo+((0:Nat):Int)*1=lo:=by simp
  have e2:(((hi-lo).toNat:Nat):Int)-((0:Nat):Int)=Builtin.Range.rangeSize lo hi 1:=by rw[rangeSize_one];split<;>omega
  show IsRangeIter _ _ (lo+((0:Nat):Int)*1) ((((hi-lo).toNat:Nat):Int)-((0:Nat):Int)) 1;rw[e1,e2];exact Heap.get?_push_size _ rfl
 ·have e:b=(s.heap.push {cls:=.type "range",data:=.fields #[.int lo t,.int hi u,.int 1 v]}).objs.size:=by simpa using hb
  subst e;exact I1.fpOk (Nat.le_refl _) (I1.hok.fresh (Nat.le_refl _))
noncomputable def iRng1(ta:TA):TI:=fun σ H R=>ta σ H fun vs H1=>∃j:Int,vs=[.int j]∧-(2^62)≤j∧j<2^62∧R (Itr 0 j.toNat) H1
noncomputable def iRng2(ta:TA):TI:=fun σ H R=>ta σ H fun vs H1=>∃i j:Int,vs=[.int i,.int j]∧(-(2^62)≤i∧i<2^62∧-(2^62)≤j∧j<2^62)∧R (Itr i (j-i).toNat) H1
theorem i0l{a:Expr}{ta:TA}{p pos:Pos}(hg:Gl X "range")(hm:X.mg "range"=none)(ha:PA X [a] ta)(hs:starEach [a] X.env=[(false,eval a X.env)]:=by rfl):PI X tg (.Call (.Name "range" p) [a] [] pos) (iRng1 ta):=by
 intro pins s σ H R I h;refine Call_ (t0w I hg hm boot_range (PyProof.Rows.callWith_type1 (thn (ha pos pins s σ H _ I h) fun us s1 ⟨vs,H1,I1,r1,q1⟩=>?_) hs rfl));obtain ⟨j,e,q1,q2,q⟩:=q1;subst e;cases r1 with
 |cons r rr=>
  cases rr;obtain ⟨t,rfl⟩:=r;exact call_range_1 (l0j I1 (by omega) (by omega) q1 q2 (by simpa using q))
theorem i0k{a b:Expr}{ta:TA}{p pos:Pos}(hg:Gl X "range")(hm:X.mg "range"=none)(ha:PA X [a,b] ta)(hs:starEach [a,b] X.env=[(false,eval a X.env),(false,eval b X.env)]:=by rfl)(hs2:starEach [b] X.env=[(false,eval b X.env)]:=by rfl):
 PI X tg (.Call (.Name "range" p) [a,b] [] pos) (iRng2 ta):=by
 intro pins s σ H R I h;refine Call_ (t0w I hg hm boot_range (PyProof.Rows.callWith_type1 (thn (ha pos pins s σ H _ I h) fun us s1 ⟨vs,H1,I1,r1,q1⟩=>?_) (by rw[hs,hs2]) (by rw[hs2];rfl)));obtain ⟨i,j,e,⟨q1,q2,q3,q4⟩,q⟩:=q1;subst e;cases r1 with
 |cons r rr=>
  cases rr with
  |cons r' rr=>
   cases rr;obtain ⟨t,rfl⟩:=r;obtain ⟨t',rfl⟩:=r';exact call_range_2 (l0j I1 q1 q2 q3 q4 q)
noncomputable def tFor(wi:TI)(g:TG)(tb:TS):TS:=fun D σ H=>wi σ H fun J H1=>∃W:Nat→Nat→St→Hp→Prop,(∃m,W 0 m σ H1)∧∀i m σ H,W i m σ H→
 (J.stop i H∧D.nx σ H)∨(J.go i H∧∃N:St→Hp→Prop,(∀ σ' H',N σ' H'→∃m',m'<m∧W (i+1) m' σ' H')∧∀x H',J.yld i H x H'→g x σ H' fun σ2 H2=>tb {D with nx:=N,ct:=N,bk:=D.nx} σ2 H2)
noncomputable def o0x(fp:List Addr)(h:Heap):List (Addr×Obj):=fp.filterMap fun b=>(h.get? b).map fun o=>(b,o)
theorem y0n{fp:List Addr}{h:Heap}{b:Addr}{o:Obj}(hb:b∈fp)(e:h.get? b=some o):(b,o)∈o0x fp h:=List.mem_filterMap.mpr ⟨b,hb,by rw[e];rfl⟩
theorem i0j{fp:List Addr}{h:Heap}{p:Addr×Obj}(hp:p∈o0x fp h):p.1∈fp∧h.get? p.1=some p.2:=by
 obtain ⟨b,hb,e⟩:=List.mem_filterMap.mp hp;cases q:h.get? b with
 |none=>rw[q]at e;cases e
 |some o=>
  rw[q]at e;have e':(b,o)=p:=Option.some.inj e;subst e';exact ⟨hb,q⟩
theorem Inv.pinned{pins:List (Addr×Obj)}{σ:St}{H:Hp}{s:Shared}{fp:List Addr}(I:Inv X pins σ H s)(hf:∀b∈fp,FpOk X pins H b)(ho:∀b∈fp,∃o,s.heap.get? b=some o∧∀v,o.data≠.cell v):Inv X (pins++o0x fp s.heap) σ H s:=
 I.pins_of fun p hp=>(List.mem_append.mp hp).elim (fun z=>I.pin p (List.mem_append_right _ z)) fun z=>by
  obtain ⟨hb,e⟩:=i0j z;obtain ⟨f0,f1,f2,_⟩:=hf p.1 hb;obtain ⟨o,e',d⟩:=ho p.1 hb;rw[e]at e';cases e';exact ⟨e,f0,f1,f2,d⟩
theorem Inv.unpinned{pins pl:List (Addr×Obj)}{σ:St}{H:Hp}{s:Shared}(I:Inv X (pins++pl) σ H s):Inv X pins σ H s:=I.pins_of fun p hp=>I.pin p (List.mem_append_right _ (List.mem_append_left _ hp))
theorem ps_for{iter:Expr}{body:List Stmt}{wi:TI}{g:TG}{tb:TS}{pos:Pos}(hp:PassesOwn (model X.prog X.w) X.A X.env X.xe)(hc:X.calm=true)(hi:PI X tg iter wi)(hg:PG X tg g)(hb:PSs X body tb)
 (hs:∀x,foldedSetIterable iter X.env x=pure x:=by intro _;rfl):PS X (.For tg iter body [] pos) (tFor wi g tb):=by
 intro pins s σ H D I h;refine wpAny_For (thn (hi pins s σ H _ I h) fun v s1 h1=>thn h1 fun itv s2 h2=>?_) hs;obtain ⟨it,fp,tn,J,H2,e,I2,T,st2,f2,W,⟨m0,w0⟩,turn⟩:=h2;subst e;have stat:∀{H':Hp},(∀b∈fp,H' b=none)→∀b∈fp,FpOk X pins H' b:=fun hn b hb=>⟨hn b hb,(f2 b hb).2⟩
 refine codeAny_forLoop_any (fun n s'=>∃i σ' H',Inv X pins σ' H' s'∧tn i s'.heap∧(∀b∈fp,H' b=none)∧W i n σ' H') ?_ m0 ⟨0,σ,H2,I2,st2,fun b hb=>(f2 b hb).1,w0⟩;rintro n s3 ⟨i,σ3,H3,I3,st3,fr3,w3⟩;rcases turn i n σ3 H3 w3 with ⟨stop,qn⟩|⟨go,N,hN,step⟩
 ·refine wpAny_passesOwn hp (thn (T.done X rfl rfl rfl hc i pins s3 σ3 H3 X.xe I3 (stat fr3) st3 stop) fun r s4 ⟨hr,I4⟩=>?_);subst hr;exact wpAny_execs_nil ⟨σ3,H3,I4,qn⟩
 ·refine wpAny_passesOwn hp (thn (T.item X rfl rfl rfl hc i pins s3 σ3 H3 X.xe I3 (stat fr3) st3 go) fun r s4 ⟨u,hr,h4⟩=>?_);subst hr;refine wpAny_passesOwn hp (thn h4 fun _ s5 ⟨x,H5,I5,r5,y5,st5,fr5⟩=>?_);have I5':=I5.pinned (stat fr5) (T.obj _ _ st5);refine wpAny_passesOwn hp (thn (hg _ s5 σ3 H5 x u _ I5' r5 (step x H5 y5)) fun _ s6 ⟨σ6,H6,I6,q6⟩=>?_);refine wpAny_passesOwn hp (thn (hb _ s6 σ6 H6 _ I6 q6) fun f s7 q7=>?_);have again:∀{σ7:St} {H7:Hp},Inv X (pins++o0x fp s5.heap) σ7 H7 s7→N σ7 H7→∃m,m<n∧∃i σ' H',Inv X pins σ' H' s7∧tn i s7.heap∧(∀b∈fp,H' b=none)∧W i m σ' H':=fun {σ7 H7} I7 n7=>by
   obtain ⟨m',hm,w7⟩:=hN σ7 H7 n7;refine ⟨m',hm,i+1,σ7,H7,I7.unpinned,T.keep _ _ _ st5 fun b hb o e=>(I7.pin (b,o) (List.mem_append_right _ (List.mem_append_right _ (y0n hb e)))).1,fun b hb=>?_,w7⟩;obtain ⟨o,e,d⟩:=T.obj _ _ st5 b hb;exact (I7.pin (b,o) (List.mem_append_right _ (List.mem_append_right _ (y0n hb e)))).2.1
  cases f with
  |next=>obtain ⟨σ7,H7,I7,n7⟩:=q7;exact again I7 n7
  |cont=>obtain ⟨σ7,H7,I7,n7⟩:=q7;exact again I7 n7
  |brk=>obtain ⟨σ7,H7,I7,q7⟩:=q7;exact ⟨σ7,H7,I7.unpinned,q7⟩
  |ret v=>obtain ⟨x7,σ7,H7,I7,r7,q7⟩:=q7;exact ⟨x7,σ7,H7,I7.unpinned,r7,q7⟩
end
end L2
namespace L2
open PySem PySem.Spec PyProof.Rows
noncomputable abbrev R2:=V→V→Hp→VK→Prop
noncomputable def OpR(X:Cx)(f:Value→Value→Sem Value)(r:R2):Prop:=
 ∀(pins:List (Addr×Obj)) (s:Shared) (σ:St) (H:Hp) (x y:V) (v u:Value) (Q:VK),Inv X pins σ H s→RelV x v→RelV y u→r x y H Q→
  wpAny (model X.prog X.w) X.A (f v u) (EP X pins σ Q) X.xe s
noncomputable def UnR(X:Cx)(f:Value→Sem Value)(r:V→Hp→VK→Prop):Prop:=
 ∀(pins:List (Addr×Obj)) (s:Shared) (σ:St) (H:Hp) (x:V) (v:Value) (Q:VK),Inv X pins σ H s→RelV x v→r x H Q→
  wpAny (model X.prog X.w) X.A (f v) (EP X pins σ Q) X.xe s
noncomputable def x0t(X:Cx)(f:Value)(r:List V→Hp→VK→Prop):Prop:=
 ∀(pins:List (Addr×Obj)) (s:Shared) (σ:St) (H:Hp) (xs:List V) (us:List Value) (Q:VK),Inv X pins σ H s→Vals xs us→r xs H Q→
  wpAny (model X.prog X.w) X.A (call f us) (EP X pins σ Q) X.xe s
noncomputable def tOp(r:R2)(ta tb:TE):TE:=fun σ H Q=>ta σ H fun x H1=>tb σ H1 fun y H2=>r x y H2 Q
noncomputable def tUn(r:V→Hp→VK→Prop)(ta:TE):TE:=fun σ H Q=>ta σ H fun x H1=>r x H1 Q
noncomputable def rI(C:Int→Int→Prop)(g:Int→Int→V):R2:=fun x y H Q=>∃i j,x=.int i∧y=.int j∧C i j∧Q (g i j) H
noncomputable def rI0(g:Int→Int→V):R2:=fun x y H Q=>∃i j,x=.int i∧y=.int j∧Q (g i j) H
noncomputable def rU(g:Int→V):V→Hp→VK→Prop:=fun x H Q=>∃i,x=.int i∧Q (g i) H
section
variable{X:Cx}{a b c:Expr}{ta tb tc:TE}{pos:Pos}
theorem binT(ha:PE X a ta)(hb:PE X b tb){pins:List (Addr×Obj)}{s:Shared}{σ:St}{H:Hp}{R:V→V→Hp→Prop}(I:Inv X pins σ H s)
 (h:ta σ H fun x H1=>tb σ H1 fun y H2=>R x y H2) {Q:Value→Shared→Prop} {f:Value→Value→Sem Value}
 (hf:∀v u s2 x y H2,Inv X pins σ H2 s2→RelV x v→RelV y u→R x y H2→wpAny (model X.prog X.w) X.A (f v u) Q X.xe s2):
 wpAny (model X.prog X.w) X.A (eval a X.env) (fun v s₁=>wpAny (model X.prog X.w) X.A (eval b X.env) (fun u s₂=>wpAny (model X.prog X.w) X.A (f v u) Q X.xe s₂) X.xe s₁) X.xe s:=by
 refine thn (ha pins s σ H _ I h) fun v s1 ⟨x,H1,I1,r1,q1⟩=>?_
 refine thn (hb pins s1 σ H1 _ I1 q1) fun u s2 ⟨y,H2,I2,r2,q2⟩=>?_
 exact hf v u s2 x y H2 I2 r1 r2 q2
theorem pe_op{op:Operator}{r:R2}(ho:OpR X (binaryOp op) r)(ha:PE X a ta)(hb:PE X b tb):PE X (.BinOp a op b pos) (tOp r ta tb):=by
 intro pins s σ H Q I h;exact wpAny_BinOp (binT ha hb I h fun v u s2 x y H2 I2 rx ry q=>ho pins s2 σ H2 x y v u Q I2 rx ry q)
theorem pe_un{op:UnaryOp}{r:V→Hp→VK→Prop}(ho:UnR X (unaryOp op) r)(ha:PE X a ta):PE X (.UnaryOp op a pos) (tUn r ta):=by
 intro pins s σ H Q I h;exact UnaryOp_ (thn (ha pins s σ H _ I h) fun v s1 ⟨x,H1,I1,r1,q1⟩=>ho pins s1 σ H1 x v Q I1 r1 q1)
theorem opI{f:Value→Value→Sem Value}{C:Int→Int→Prop}{g:Int→Int→Int}
 (rule:∀(i j:Int) (t u:Tok) (s:Shared) (Q:Value→Shared→Prop) (E:Value→Shared→Prop),C i j→Q (.int (g i j) s.toks) {s with toks:=s.toks+1}→wpAny (model X.prog X.w) X.A (f (.int i t) (.int j u)) Q E s):
 OpR X f (rI C fun i j=>.int (g i j)):=by
 intro pins s σ H x y v u Q I rx ry h;obtain ⟨i,j,rfl,rfl,hc,q⟩:=h;obtain ⟨t,rfl⟩:=rx;obtain ⟨t',rfl⟩:=ry;exact rule i j t t' s _ _ hc ⟨.int (g i j),H,I.tok _,⟨_,rfl⟩,q⟩
theorem opI0{f:Value→Value→Sem Value}{g:Int→Int→Int}
 (rule:∀(i j:Int) (t u:Tok) (s:Shared) (Q:Value→Shared→Prop) (E:Value→Shared→Prop),Q (.int (g i j) s.toks) {s with toks:=s.toks+1}→wpAny (model X.prog X.w) X.A (f (.int i t) (.int j u)) Q E s):
 OpR X f (rI0 fun i j=>.int (g i j)):=by
 intro pins s σ H x y v u Q I rx ry h;obtain ⟨i,j,rfl,rfl,q⟩:=h;obtain ⟨t,rfl⟩:=rx;obtain ⟨t',rfl⟩:=ry;exact rule i j t t' s _ _ ⟨.int (g i j),H,I.tok _,⟨_,rfl⟩,q⟩
theorem opB0{f:Value→Value→Sem Value}{g:Int→Int→Bool}
 (rule:∀(i j:Int) (t u:Tok) (s:Shared) (Q:Value→Shared→Prop) (E:Value→Shared→Prop),Q (.bool (g i j)) s→wpAny (model X.prog X.w) X.A (f (.int i t) (.int j u)) Q E s):
 OpR X f (rI0 fun i j=>.bl (g i j)):=by
 intro pins s σ H x y v u Q I rx ry h;obtain ⟨i,j,rfl,rfl,q⟩:=h;obtain ⟨t,rfl⟩:=rx;obtain ⟨t',rfl⟩:=ry;exact rule i j t t' s _ _ ⟨.bl (g i j),H,I,rfl,q⟩
noncomputable def CDiv(i j:Int):Prop:=0<j∧j<1073741824
noncomputable def CPow(i j:Int):Prop:=0≤j∧j≤1000000∧i.natAbs<2^64
noncomputable def CMul(i j:Int):Prop:=(-(2^64)<i∧i<2^64)∨(-(2^64)<j∧j<2^64)
theorem CMul.ok{i j:Int}(h:CMul i j):IntMulOk i j:=by
 rcases h with ⟨h1,h2⟩|⟨h1,h2⟩
 ·exact .of_left (intBits_le_64 h1 h2)
 ·exact .of_right (intBits_le_64 h1 h2)
theorem op_add:OpR X (binaryOp .Add) (rI0 fun i j=>.int (i+j)):=opI0 fun _ _ _ _ _ _ _ q=>add_int q
theorem x0w:OpR X (binaryOp .Sub) (rI0 fun i j=>.int (i-j)):=opI0 fun _ _ _ _ _ _ _ q=>sub_int q
theorem d4:OpR X (binaryOp .Mult) (rI CMul fun i j=>.int (i*j)):=opI fun _ _ _ _ _ _ _ hc q=>mul_int q hc.ok
theorem n0f:OpR X (binaryOp .FloorDiv) (rI CDiv fun i j=>.int (i/j)):=opI fun i j _ _ _ _ _ hc q=>by
 have h1:(0:Int)<j:=hc.1;have h2:j<1073741824:=hc.2;exact floordiv_int (by omega) (by rw[Int.fdiv_eq_ediv_of_nonneg i (by omega)];exact q) (.inl (PyProof.noPylong_small (by omega)))
theorem r0f:OpR X (binaryOp .Mod) (rI (fun _ j=>0<j) fun i j=>.int (i%j)):=opI fun i j _ _ _ _ _ hc q=>by
 have h1:(0:Int)<j:=hc;exact mod_int' (by omega) (by rw[Int.fmod_eq_emod_of_nonneg i (by omega)];exact q)
theorem op_pow:OpR X (binaryOp .Pow) (rI CPow fun i j=>.int (i^j.toNat)):=opI fun _ _ _ _ _ _ _ hc q=>pow_int_small hc.1 hc.2.1 hc.2.2 q
theorem b0l:OpR X (inplaceOp .Mult) (rI CMul fun i j=>.int (i*j)):=opI fun _ _ _ _ _ _ _ hc q=>imul_int q hc.ok
theorem unI{f:Value→Sem Value}{g:Int→Int}
 (rule:∀(i:Int) (t:Tok) (s:Shared) (Q:Value→Shared→Prop) (E:Value→Shared→Prop),Q (.int (g i) s.toks) {s with toks:=s.toks+1}→wpAny (model X.prog X.w) X.A (f (.int i t)) Q E s):
 UnR X f (rU fun i=>.int (g i)):=by
 intro pins s σ H x v Q I rx h;obtain ⟨i,rfl,q⟩:=h;obtain ⟨t,rfl⟩:=rx;exact rule i t s _ _ ⟨.int (g i),H,I.tok _,⟨_,rfl⟩,q⟩
theorem un_neg:UnR X (unaryOp .USub) (rU fun i=>.int (-i)):=unI fun _ _ _ _ _ q=>neg_int q
end
noncomputable def scal:V→V→Bool
 | .non,.non=>true | .non,.int _=>true | .int _,.non=>true | .non,.bl _=>true | .bl _,.non=>true | .non,.str _=>true | .str _,.non=>true
 | .int _,.int _=>true | .bl _,.bl _=>true | .str _,.str _=>true | .byt _,.byt _=>true
 | .int _,.str _=>true | .str _,.int _=>true | .bl _,.str _=>true | .str _,.bl _=>true
 |_,_=>false
noncomputable def rEq:R2:=fun x y H Q=>scal x y=true∧Q (.bl (decide (x=y))) H
noncomputable def rNe:R2:=fun x y H Q=>scal x y=true∧Q (.bl (!decide (x=y))) H
theorem i0i{i j:Int}:decide (V.int i=V.int j)=(i==j):=by
 rw[Bool.eq_iff_iff];simp
theorem c0m{i j:Bool}:decide (V.bl i=V.bl j)=(i==j):=by
 rw[Bool.eq_iff_iff];simp
theorem i0h{i j:Str}:decide (V.str i=V.str j)=(i==j):=by
 rw[Bool.eq_iff_iff];simp
theorem i0g{i j:Array UInt8}:decide (V.byt i=V.byt j)=(i.toList==j.toList):=by
 rw[Bool.eq_iff_iff];cases i;cases j;simp
section
variable{X:Cx}{a b c:Expr}{ta tb tc:TE}{pos:Pos}
theorem w5{pins:List (Addr×Obj)}{σ:St}{H:Hp}{s:Shared}{Q:VK}{k k':Bool}(I:Inv X pins σ H s)(q:Q (.bl k) H)(e:k=k'):EP X pins σ Q (.bool k') s:=by
 subst e;exact ⟨.bl k,H,I,rfl,q⟩
theorem op_eq:OpR X (compareOp .Eq) rEq:=by
 intro pins s σ H x y v u Q I rx ry h;obtain ⟨hs,q⟩:=h;cases x with
 |non=>
  cases rx;cases y with
  |non=>cases ry;exact PySem.EqNone.eq_none_none (w5 I q (by simp))
  |bl j=>cases ry;exact PySem.EqNone.eq_none_bool (w5 I q (by simp))
  |int j=>obtain ⟨t',rfl⟩:=ry;exact PySem.EqNone.eq_none_int (w5 I q (by simp))
  |str j=>obtain ⟨t',rfl⟩:=ry;exact PySem.EqNone.eq_none_str (w5 I q (by simp))
  |_=>exact absurd (show false=true from hs) Bool.false_ne_true
 |bl i=>
  cases rx;cases y with
  |non=>cases ry;exact PySem.EqNone.eq_bool_none (w5 I q (by simp))
  |bl j=>cases ry;exact eq_bool (w5 I q c0m)
  |str j=>obtain ⟨t',rfl⟩:=ry;exact PySem.EqMixed.eq_bool_str (w5 I q (by simp))
  |_=>exact absurd (show false=true from hs) Bool.false_ne_true
 |int i=>
  obtain ⟨t,rfl⟩:=rx;cases y with
  |non=>cases ry;exact PySem.EqNone.eq_int_none (w5 I q (by simp))
  |int j=>obtain ⟨t',rfl⟩:=ry;exact eq_int (w5 I q i0i)
  |str j=>obtain ⟨t',rfl⟩:=ry;exact PySem.EqMixed.eq_int_str (w5 I q (by simp))
  |_=>exact absurd (show false=true from hs) Bool.false_ne_true
 |str i=>
  obtain ⟨t,rfl⟩:=rx;cases y with
  |non=>cases ry;exact PySem.EqNone.eq_str_none (w5 I q (by simp))
  |bl j=>cases ry;exact PySem.EqMixed.eq_str_bool (w5 I q (by simp))
  |int j=>obtain ⟨t',rfl⟩:=ry;exact PySem.EqMixed.eq_str_int (w5 I q (by simp))
  |str j=>obtain ⟨t',rfl⟩:=ry;exact eq_str (w5 I q i0h)
  |_=>exact absurd (show false=true from hs) Bool.false_ne_true
 |byt i=>
  obtain ⟨t,rfl⟩:=rx;cases y with
  |byt j=>obtain ⟨t',rfl⟩:=ry;exact PySem.W.eq_bytes (w5 I q i0g)
  |_=>exact absurd (show false=true from hs) Bool.false_ne_true
 |_=>cases y<;>exact absurd (show false=true from hs) Bool.false_ne_true
theorem op_ne:OpR X (compareOp .NotEq) rNe:=by
 intro pins s σ H x y v u Q I rx ry h;obtain ⟨hs,q⟩:=h;cases x with
 |non=>
  cases rx;cases y with
  |non=>cases ry;exact PySem.EqNone.ne_none_none (w5 I q (by simp))
  |bl j=>cases ry;exact PySem.EqNone.ne_none_bool (w5 I q (by simp))
  |int j=>obtain ⟨t',rfl⟩:=ry;exact PySem.EqNone.ne_none_int (w5 I q (by simp))
  |str j=>obtain ⟨t',rfl⟩:=ry;exact PySem.EqNone.ne_none_str (w5 I q (by simp))
  |_=>exact absurd (show false=true from hs) Bool.false_ne_true
 |bl i=>
  cases rx;cases y with
  |non=>cases ry;exact PySem.EqNone.ne_bool_none (w5 I q (by simp))
  |bl j=>cases ry;exact ne_bool (w5 I q (congrArg not c0m))
  |str j=>obtain ⟨t',rfl⟩:=ry;exact PySem.EqMixed.ne_bool_str (w5 I q (by simp))
  |_=>exact absurd (show false=true from hs) Bool.false_ne_true
 |int i=>
  obtain ⟨t,rfl⟩:=rx;cases y with
  |non=>cases ry;exact PySem.EqNone.ne_int_none (w5 I q (by simp))
  |int j=>obtain ⟨t',rfl⟩:=ry;exact ne_int (w5 I q (congrArg not i0i))
  |str j=>obtain ⟨t',rfl⟩:=ry;exact PySem.EqMixed.ne_int_str (w5 I q (by simp))
  |_=>exact absurd (show false=true from hs) Bool.false_ne_true
 |str i=>
  obtain ⟨t,rfl⟩:=rx;cases y with
  |non=>cases ry;exact PySem.EqNone.ne_str_none (w5 I q (by simp))
  |bl j=>cases ry;exact PySem.EqMixed.ne_str_bool (w5 I q (by simp))
  |int j=>obtain ⟨t',rfl⟩:=ry;exact PySem.EqMixed.ne_str_int (w5 I q (by simp))
  |str j=>obtain ⟨t',rfl⟩:=ry;exact ne_str (w5 I q (congrArg not i0h))
  |_=>exact absurd (show false=true from hs) Bool.false_ne_true
 |byt i=>
  obtain ⟨t,rfl⟩:=rx;cases y with
  |byt j=>obtain ⟨t',rfl⟩:=ry;exact PySem.W.ne_bytes (w5 I q (congrArg not i0g))
  |_=>exact absurd (show false=true from hs) Bool.false_ne_true
 |_=>cases y<;>exact absurd (show false=true from hs) Bool.false_ne_true
theorem op_lt:OpR X (compareOp .Lt) (rI0 fun i j=>.bl (decide (i<j))):=opB0 fun _ _ _ _ _ _ _ q=>lt_int q
theorem f0b:OpR X (compareOp .LtE) (rI0 fun i j=>.bl (decide (i≤j))):=opB0 fun _ _ _ _ _ _ _ q=>le_int q
theorem i0f:OpR X (compareOp .Gt) (rI0 fun i j=>.bl (decide (j<i))):=opB0 fun _ _ _ _ _ _ _ q=>gt_int q
theorem op_ge:OpR X (compareOp .GtE) (rI0 fun i j=>.bl (decide (j≤i))):=opB0 fun _ _ _ _ _ _ _ q=>ge_int q
theorem b5(b:Expr){op:CmpOp}(h:op≠.In:=by decide)(h2:op≠.NotIn:=by decide):behindInMarks op b=false:=by
 have e1:(op==CmpOp.In)=false:=by cases op<;>first |rfl |exact absurd rfl h
 have e2:(op==CmpOp.NotIn)=false:=by cases op<;>first |rfl |exact absurd rfl h2
 cases b<;>simp[behindInMarks,e1,e2]
theorem b0k{op:CmpOp}{r:R2}(ho:OpR X (compareOp op) r)(ha:PE X a ta)(hb:PE X b tb)(hm:behindInMarks op b=false):PE X (.Compare a [op] [b] pos) (tOp r ta tb):=by
 intro pins s σ H Q I h;exact wpAny_Compare1 (binT ha hb I h fun v u s2 x y H2 I2 rx ry q=>ho pins s2 σ H2 x y v u Q I2 rx ry q) hm
noncomputable def tTest(t:TE):TT:=fun σ H Q=>t σ H fun x H'=>∃k,x=.bl k∧Q k H'
theorem b0j{op:CmpOp}{r:R2}(ho:OpR X (compareOp op) r)(ha:PE X a ta)(hb:PE X b tb)(hm:behindInMarks op b=false):PT X (.Compare a [op] [b] pos) (tTest (tOp r ta tb)):=by
 intro pins s σ H Q I h;refine wpAny_isTrue_Compare1 (thn (ha pins s σ H _ I h) fun v s1 ⟨x,H1,I1,r1,q1⟩=>thn (hb pins s1 σ H1 _ I1 q1) fun u s2 ⟨y,H2,I2,r2,q2⟩=>
  thn (ho pins s2 σ H2 x y v u _ I2 r1 r2 q2) fun c s3 ⟨z,H3,I3,r3,k,e,q3⟩=>?_) hm
 subst e;cases r3;exact wpAny_truthy_bool ⟨H3,I3,q3⟩
noncomputable def i0e(r r':R2)(ta tb tc:TE):TE:=fun σ H Q=>ta σ H fun x H1=>tb σ H1 fun y H2=>r x y H2 fun z H3=>∃k,z=.bl k∧
 (if k=true then tc σ H3 fun w' H4=>r' y w' H4 Q else Q (.bl false) H3)
theorem f0a{op op':CmpOp}{r r':R2}(ho:OpR X (compareOp op) r)(ho':OpR X (compareOp op') r')(ha:PE X a ta)(hb:PE X b tb)(hc:PE X c tc)
 (hm:lastMarks [op,op'] [b,c]=false:=by with_unfolding_all rfl):PE X (.Compare a [op,op'] [b,c] pos) (i0e r r' ta tb tc):=by
 intro pins s σ H Q I h;refine Compare_chain (thn (ha pins s σ H _ I h) fun v s1 ⟨x,H1,I1,r1,q1⟩=>chain_link (thn (hb pins s1 σ H1 _ I1 q1) fun u s2 ⟨y,H2,I2,r2,q2⟩=>
  thn (ho pins s2 σ H2 x y v u _ I2 r1 r2 q2) fun d s3 ⟨z,H3,I3,r3,k,e,q3⟩=>?_)) hm
 subst e;cases r3;refine wpAny_truthy_bool ?_;cases k with
 |false=>exact ite_ff ⟨.bl false,H3,I3,rfl,q3⟩
 |true=>exact ite_tt (chain_last (thn (hc pins s3 σ H3 _ I3 q3) fun w' s4 ⟨z',H4,I4,r4,q4⟩=>ho' pins s4 σ H4 y z' u w' Q I4 r2 r4 q4))
theorem e0z{op op':CmpOp}{r r':R2}(ho:OpR X (compareOp op) r)(ho':OpR X (compareOp op') r')(ha:PE X a ta)(hb:PE X b tb)(hc:PE X c tc)
 (hm:lastMarks [op,op'] [b,c]=false:=by with_unfolding_all rfl):PT X (.Compare a [op,op'] [b,c] pos) (tTest (i0e r r' ta tb tc)):=by
 intro pins s σ H Q I h;refine isTrue_chain (thn (ha pins s σ H _ I h) fun v s1 ⟨x,H1,I1,r1,q1⟩=>test_link (thn (hb pins s1 σ H1 _ I1 q1) fun u s2 ⟨y,H2,I2,r2,q2⟩=>
  thn (ho pins s2 σ H2 x y v u _ I2 r1 r2 q2) fun d s3 ⟨z,H3,I3,r3,k,e,q3⟩=>?_)) hm
 subst e;cases r3;refine wpAny_truthy_bool ?_;cases k with
 |false=>
  obtain ⟨k',e',q'⟩:=q3;cases e';exact ite_ff ⟨H3,I3,q'⟩
 |true=>
  refine ite_tt (test_last (thn (hc pins s3 σ H3 _ I3 q3) fun w' s4 ⟨z',H4,I4,r4,q4⟩=>thn (ho' pins s4 σ H4 y z' u w' _ I4 r2 r4 q4) fun d' s5 ⟨z2,H5,I5,r5,k2,e2,q5⟩=>?_));subst e2;cases r5;exact wpAny_truthy_bool ⟨H5,I5,q5⟩
theorem r0e:(sizeLine:Nat)<2^63:=by rw[sizeLine_eq];decide
theorem j0n{x:V}{us:List Value}(r:Vals [x] us):∃u,us=[u]∧RelV x u:=by
 cases r with
 |cons r1 r2=>cases r2;exact ⟨_,rfl,r1⟩
theorem vals2{x y:V}{us:List Value}(r:Vals [x,y] us):∃u w',us=[u,w']∧RelV x u∧RelV y w':=by
 cases r with
 |cons r1 r2=>
  cases r2 with
  |cons r3 r4=>cases r4;exact ⟨_,_,rfl,r1,r3⟩
theorem e0y:x0t X (.builtin "abs") (fun xs H Q=>∃i,xs=[.int i]∧Q (.int (if i<0 then -i else i)) H):=by
 intro pins s σ H xs us Q I r h;obtain ⟨i,rfl,q⟩:=h;obtain ⟨u,rfl,t,rfl⟩:=j0n r;exact call_abs_int fun u tk=>⟨.int (if i<0 then -i else i),H,I.tok _,⟨_,rfl⟩,q⟩
theorem t0v(hc:X.calm=true):x0t X (.builtin "min") (fun xs H Q=>∃i j,xs=[.int i,.int j]∧Q (.int (if j<i then j else i)) H):=by
 intro pins s σ H xs us Q I r h;obtain ⟨i,j,rfl,q⟩:=h;obtain ⟨u,w',rfl,⟨t,rfl⟩,⟨t',rfl⟩⟩:=vals2 r;refine min_two_ints (I.ok.hd hc) fun h' tk k=>⟨_,H,I.kept k,?_,q⟩
 by_cases hj:j<i
 ·rw[if_pos hj,if_pos hj];exact ⟨_,rfl⟩
 ·rw[if_neg hj,if_neg hj];exact ⟨_,rfl⟩
theorem o0w:x0t X (.type "int") (fun xs H Q=>(∃i,xs=[.int i]∧Q (.int i) H)∨∃k,xs=[.bl k]∧Q (.int (if k then 1 else 0)) H):=by
 intro pins s σ H xs us Q I r h;rcases h with ⟨i,rfl,q⟩|⟨k,rfl,q⟩
 ·obtain ⟨u,rfl,t,rfl⟩:=j0n r;exact call_int_int ⟨.int i,H,I,⟨_,rfl⟩,q⟩
 ·obtain ⟨u,rfl,r1⟩:=j0n r;cases r1;exact call_int_bool ⟨.int (if k then 1 else 0),H,I.tok _,⟨_,rfl⟩,q⟩
end
end L2
namespace L2
open PySem PySem.Spec PyProof.Rows
structure ObjM(h:Heap)(x dx C:Addr)(mA:Str→Option Value):Prop where
 obj:h.get? x=some (PySem.W.instObj C dx)
 ns:h.Ns1 dx mA
 ne:dx≠x
theorem o0v{h:Heap}{dx:Addr}{mA:Str→Option Value}(n:h.Ns1 dx mA):∃od,h.get? dx=some od∧∀name,PySem.W.lookIn name od=some (mA name):=by
 obtain ⟨o,es,ep,ho,hd,hk,_,hm⟩:=n;refine ⟨o,ho,fun name=>?_⟩;have e:=hm name;unfold nsFind findBy at e;rw[←Array.find?_toList]at e;unfold PySem.W.lookIn;rw[hd];dsimp only;split
 ·rename_i y q;rw[q]at e;exact congrArg some e
 ·rename_i q;rw[q]at e;have a:es.toList.any (·.refKey)=false:=by
   rw[List.any_eq_false];intro y hy;obtain ⟨z,t,hkey⟩:=hk y (Array.mem_toList_iff.mp hy);simp[DictEntry.refKey,hkey]
  have a':¬es.toList.any (·.refKey)=true:=by rw[a];exact Bool.false_ne_true
  rw[if_neg a'];exact congrArg some e
theorem ObjM.look{h:Heap}{x dx C:Addr}{mA:Str→Option Value}(I:ObjM h x dx C mA):∃od,PySem.W.InstAt h x (PySem.W.instObj C dx) C (some od)∧∀name,PySem.W.lookIn name od=some (mA name):=
 let ⟨od,ho,hl⟩:=o0v I.ns
 ⟨od,⟨I.obj,rfl,rfl,ho⟩,hl⟩
section
variable{prog:Program}{w:World}{A:Around}{E:Value→Shared→Prop}{s:Shared}{K:PySem.W.Frag}{x dx C f:Addr}{mA:Str→Option Value}{name:Str}{v:Value}
theorem b0i{expr:Bool}{Q:Value→Shared→Prop}(X:K.In s.heap)(I:ObjM s.heap x dx C mA)(hg:PySem.W.plainGet K C name=true)(hh:PySem.W.hasDictIn K C=true)
 (ha:PySem.W.findIn K (.ref C) name=some none) (hv:mA name=some v) (hv':PySem.W.handedIn v=true) (h:Q v {s with toks:=s.toks+1}):
 wpAny (model prog w) A (getAttr (.ref x) name expr) Q E s:=by
 obtain ⟨od,J,hl⟩:=I.look;exact PySem.W.get_value X J (PySem.W.plainGet_of hg).1 (PySem.W.findObj_own hh ha rfl (by rw[hl,hv])) hv' h
theorem b0h{ns:List Str}{Q:Unit→Shared→Prop}(X:K.In s.heap)(I:ObjM s.heap x dx C mA)
 (hs:PySem.W.findIn K (.ref C) "__setattr__"=some (some (.builtin "object.__setattr__"))) (hp:PySem.W.plainOver K C=true) (ht:PySem.W.takerIn K C name=some none) (hh:PySem.W.hasDictIn K C=true)
 (hw:PySem.Within mA ns) (hsz:ns.length≤sizeLine)
 (h:∀h',ObjM h' x dx C (fun y=>if y=name then some v else mA y)→Heap.SameBut dx s.heap h'→Q () {s with heap:=h',toks:=s.toks+2}):
 wpAny (model prog w) A (setAttr (.ref x) name v) Q E s:=by
 obtain ⟨od,J,hl⟩:=I.look;refine PySem.W.set_plain X J hs (PySem.W.osa_open (s:={s with toks:=s.toks+1}) (r:=none) X J hp ht fun b=>?_);obtain ⟨cd,hc,hd'⟩:=PySem.W.any_some hh;have hx:s.heap.get? x=some ⟨.ref C,some dx,.plain,#[]⟩:=I.obj;refine wpAny_bind (wpAny_pure (wpAny_bind (wpAny_bind (wpAny_loadPart hx (wpAny_bind (PySem.W.Looks.here (s:={s with toks:=s.toks+1}) (PySem.W.looks_clsIn X hc) ?_))))));rw[hd'];refine wpAny_pure (a:=some dx) (wpAny_bind (wpAny_pure (wpAny_bind ?_)));refine wpAny_nsSet1 (s:={s with toks:=s.toks+1}) I.ns fun h' hn2 hs2=>?_
 obtain ⟨oD,esD,epD,hoD,hdD,hcD⟩:=hn2.count (PySem.Within.cons name v hw);refine wpAny_bind (wpAny_lookBehind hoD (by rw[hdD];exact pastItsLine_dict (Nat.le_trans hcD (by rw[List.length_cons];omega))) ?_);exact wpAny_pure (h _ ⟨(hs2.2 _ (Ne.symm I.ne)).trans I.obj,hn2,I.ne⟩ hs2)
theorem e0x{R:Result→Shared→Prop}{vs:List Value}{kw:List (Str×Value)}(X:K.In s.heap)(hm:PySem.W.makesIn K C=true)
 (hi:PySem.W.findIn K (.ref C) "__init__"=some (some (.ref f))) (hf:PySem.W.typeIn K (.ref f)=some (.type "function"))
 (h:codeAny (model prog w) (A.under (.builtin "type.__call__" ⟨.ref C::vs,kw⟩)) (.call (.ref f) ⟨.ref (s.heap.objs.size+1)::vs,kw⟩) (PySem.W.InitBack (s.heap.objs.size+1) R)
  {s with heap:=(s.heap.push PySem.W.emptyDict).push (PySem.W.instObj C s.heap.objs.size)}):
 codeAny (model prog w) A (.call (.ref C) ⟨vs,kw⟩) R s:=by
 obtain ⟨hh,g,d,t,os⟩:=s;exact PySem.W.make_core (PySem.W.makes_of X hm) (PySem.W.looks_findIn X hi) (fun self=>PySem.W.bind_fn X self hf) (.inl rfl) h
end
noncomputable def putF(f:Str)(v:V):List (Str×V)→List (Str×V)
 | []=>[(f,v)]
 |(g,x)::r=>if g=f then (g,v)::r else (g,x)::putF f v r
theorem x0s(f g:Str)(v:V):∀fs:List (Str×V),(putF f v fs).lookup g=if g=f then some v else fs.lookup g
 | []=>by
  show List.lookup g [(f,v)]=_;by_cases h:g=f
  ·have hb:(g==f)=true:=beq_iff_eq.mpr h;simp only[List.lookup,hb,if_pos h]
  ·have hb:(g==f)=false:=beq_eq_false_iff_ne.mpr h;simp only[List.lookup,hb,if_neg h]
 |(k,x)::r=>by
  have ih:=x0s f g v r;rw[show putF f v ((k,x)::r)=(if k=f then (k,v)::r else (k,x)::putF f v r)from rfl];by_cases hk:k=f
  ·rw[if_pos hk];by_cases h:g=k
   ·have hb:(g==k)=true:=beq_iff_eq.mpr h;simp only[List.lookup,hb,if_pos (h.trans hk)]
   ·have hb:(g==k)=false:=beq_eq_false_iff_ne.mpr h;simp only[List.lookup,hb,if_neg (fun e:g=f=>h (e.trans hk.symm))]
  ·rw[if_neg hk];by_cases h:g=k
   ·have hb:(g==k)=true:=beq_iff_eq.mpr h;simp only[List.lookup,hb,if_neg (fun e:g=f=>hk (h.symm.trans e))]
   ·have hb:(g==k)=false:=beq_eq_false_iff_ne.mpr h;simp only[List.lookup,hb];exact ih
theorem t0u(f:Str)(v:V):∀fs:List (Str×V),f∈(putF f v fs).map (·.1)∧∀g,g∈fs.map (·.1)→g∈(putF f v fs).map (·.1)
 | []=>⟨by simp[putF],fun g h=>by simp at h⟩
 |(k,x)::r=>by
  obtain ⟨i1,i2⟩:=t0u f v r;rw[show putF f v ((k,x)::r)=(if k=f then (k,v)::r else (k,x)::putF f v r)from rfl];by_cases hk:k=f
  ·rw[if_pos hk];subst hk;exact ⟨by simp,fun g h=>by simpa using h⟩
  ·rw[if_neg hk];refine ⟨?_,fun g h=>?_⟩
   ·rw[List.map_cons];exact List.mem_cons_of_mem _ i1
   ·rw[List.map_cons]at h ⊢;rcases List.mem_cons.mp h with e |e
    ·exact List.mem_cons.mpr (.inl e)
    ·exact List.mem_cons_of_mem _ (i2 g e)
theorem t0t(f:Str)(v:V):∀fs:List (Str×V),(putF f v fs).length≤fs.length+1
 | []=>by simp[putF]
 |(k,x)::r=>by
  have ih:=t0t f v r;rw[show putF f v ((k,x)::r)=(if k=f then (k,v)::r else (k,x)::putF f v r)from rfl];by_cases hk:k=f
  ·rw[if_pos hk,List.length_cons,List.length_cons];omega
  ·rw[if_neg hk,List.length_cons,List.length_cons];omega
theorem RelO.some_of{v:V}{o:Option Value}(r:RelO (some v) o):∃u,o=some u∧RelV v u:=by
 cases o with
 |none=>exact (show False from r).elim
 |some u=>exact ⟨u,rfl,r⟩
theorem i0d{v:V}{u:Value}(r:RelV v u):PySem.W.handedIn u=true:=by
 cases v with
 |non=>cases (show u=Value.none from r);rfl
 |bl b=>cases (show u=Value.bool b from r);rfl
 |int i=>obtain ⟨t,e⟩:=(show ∃t,u=Value.int i t from r);cases e;rfl
 |str x=>obtain ⟨t,e⟩:=(show ∃t,u=Value.str x t from r);cases e;rfl
 |byt b=>obtain ⟨t,e⟩:=(show ∃t,u=Value.bytes b t from r);cases e;rfl
 |flt b=>obtain ⟨t,e⟩:=(show ∃t,u=Value.float b t from r);cases e;rfl
 |ref a=>cases (show u=Value.ref a from r);rfl
 |ty n=>cases (show u=Value.type n from r);rfl
section
variable{P:Program}{w:World}{H H':Hp}{h h':Heap}{a C dx:Addr}{fs fs':List (Str×V)}
theorem n0e(hok:HOk P w H h)(e:H a=some (.ins C dx fs)):∃mA,ObjM h a dx C mA∧(∀f,RelO (fs.lookup f) (mA f))∧PySem.Within mA (fs.map (·.1))∧fs.length≤1000∧H dx=some (.own a):=by
 obtain ⟨d,z,ne,ob,mA,n,r,q⟩:=(show ObjOk P w H h a (.ins C dx fs)from hok a _ e);exact ⟨mA,⟨ob,n,ne⟩,r,q,z,d⟩
end
structure Cls(K:PySem.W.Frag)(C:Addr):Prop where
 pg:PySem.W.plainGet K C Str.empty=true
 hd:PySem.W.hasDictIn K C=true
 po:PySem.W.plainOver K C=true
 sa:PySem.W.findIn K (.ref C) "__setattr__"=some (some (.builtin "object.__setattr__"))
theorem Cls.get{K:PySem.W.Frag}{C:Addr}(c:Cls K C)(f:Str):PySem.W.plainGet K C f=true:=c.pg
noncomputable def NoAttr(K:PySem.W.Frag)(C:Addr)(f:Str):Prop:=PySem.W.findIn K (.ref C) f=some none
theorem NoAttr.taker{K:PySem.W.Frag}{C:Addr}{f:Str}(n:NoAttr K C f):PySem.W.takerIn K C f=some none:=by
 unfold PySem.W.takerIn;rw[show PySem.W.findIn K (.ref C) f=some none from n];rfl
structure Con(K:PySem.W.Frag)(C:Addr)(f:Str)(v:V)(u:Value):Prop where
 at_:PySem.W.findIn K (.ref C) f=some (some u)
 rel:RelV v u
 get:PySem.W.specialIn K u "__get__"=some none
 cp:PySem.W.copiedNames.contains f=false
structure Meth(K:PySem.W.Frag)(C:Addr)(m:Str)(f:Addr):Prop where
 at_:PySem.W.findIn K (.ref C) m=some (some (.ref f))
 fn:PySem.W.isFn K (.ref f)=true
 kp:PySem.W.keepIn K (.ref f)=true
section
variable{X:Cx}{pins:List (Addr×Obj)}{σ:St}{H:Hp}{s:Shared}{a C dx:Addr}{fs:List (Str×V)}{f:Str}{v:V}{A:Around}{E:Value→Shared→Prop}
theorem j0m{b:Bool}{Q:Value→Shared→Prop}(I:Inv X pins σ H s)(e:H a=some (.ins C dx fs))(c:Cls X.K C)(n:NoAttr X.K C f)(l:fs.lookup f=some v)
 (h:∀u s',Inv X pins σ H s'→RelV v u→Q u s'):wpAny (model X.prog X.w) A (getAttr (.ref a) f b) Q E s:=by
 obtain ⟨mA,O,r,_,_,_⟩:=n0e I.hok e;obtain ⟨u,hu,ru⟩:=RelO.some_of (v:=v) (o:=mA f) (by rw[←l];exact r f);exact b0i I.kIn O (c.get f) c.hd n hu (i0d ru) (h u _ (I.tok _) ru)
theorem j0l{y:V}{u:Value}{Q:Unit→Shared→Prop}(I:Inv X pins σ H s)(e:H a=some (.ins C dx fs))(c:Cls X.K C)(n:NoAttr X.K C f)(hl:fs.length<1000)(ry:RelV y u)
 (h:∀s',Inv X pins σ (upd H a (.ins C dx (putF f y fs))) s'→Q () s'):wpAny (model X.prog X.w) A (setAttr (.ref a) f u) Q E s:=by
 obtain ⟨mA,O,r,wi,_,ho⟩:=n0e I.hok e;have hz:(fs.map (·.1)).length≤sizeLine:=by rw[List.length_map,sizeLine_eq];omega
 refine b0h I.kIn O c.sa c.po n.taker c.hd wi hz fun h' O' sb=>h _ ?_
 have hd:∃o,h'.get? dx=some o:=let ⟨o,_,_,e',_⟩:=O'.ns;⟨o,e'⟩
 refine I.write (x:=a) (e:=dx) (by rw[e];exact True.intro) (.inr ho) (fun b q hb z=>(sb.2 b hb).trans z) hd ?_;refine ⟨by rw[g0 O.ne];exact ho,?_,O.ne,O'.obj,_,O'.ns,fun g=>?_,fun g hg=>?_⟩
 ·have:=t0t f y fs;omega
 ·show RelO ((putF f y fs).lookup g) (if g=f then some u else mA g);rw[x0s];by_cases q:g=f
  ·rw[if_pos q,if_pos q];exact ry
  ·rw[if_neg q,if_neg q];exact r g
 ·by_cases q:g=f
  ·rw[q];exact (t0u f y fs).1
  ·refine (t0u f y fs).2 g (wi g fun z=>hg ?_);show (if g=f then some u else mA g)=none;rw[if_neg q];exact z
theorem Inv.made(I:Inv X pins σ H s):Inv X pins σ (upd (upd H s.heap.objs.size (.own (s.heap.objs.size+1))) (s.heap.objs.size+1) (.ins C s.heap.objs.size []))
 {s with heap:=(s.heap.push PySem.W.emptyDict).push (PySem.W.instObj C s.heap.objs.size)}:=by
 have e1:(s.heap.push PySem.W.emptyDict).get? s.heap.objs.size=some PySem.W.emptyDict:=Heap.get?_push_size s.heap rfl;have e2:((s.heap.push PySem.W.emptyDict).push (PySem.W.instObj C s.heap.objs.size)).get? (s.heap.objs.size+1)=some (PySem.W.instObj C s.heap.objs.size):=by
  have:=Heap.get?_push_size (s.heap.push PySem.W.emptyDict) (o:=PySem.W.instObj C s.heap.objs.size) rfl
  rwa[Heap.size_push]at this
 have e3:(s.heap.push PySem.W.emptyDict).Ns s.heap.objs.size (fun _=>none):=⟨PySem.W.emptyDict,#[],_,e1,rfl,(fun e he=>absurd he (by simp)),fun _=>rfl⟩;have I1:=I.laid (a:=s.heap.objs.size) (o:=.own (s.heap.objs.size+1)) (h':=s.heap.push PySem.W.emptyDict) (t':=s.toks) (fun b u q=>Heap.get?_push_of_some _ q) (Nat.le_refl _) ⟨_,e1⟩;refine I1.laid (a:=s.heap.objs.size+1) (o:=.ins C s.heap.objs.size []) (t':=s.toks) (fun b u q=>Heap.get?_push_of_some _ q) (Nat.le_of_eq (Heap.size_push _ _)) ?_;have ne:s.heap.objs.size≠s.heap.objs.size+1:=Nat.ne_of_lt (Nat.lt_succ_self _);refine ⟨by rw[g0 ne,j3],Nat.zero_le _,ne,e2,fun _=>none,(Heap.Ns1.of_empty e3).at fun o q=>Heap.get?_push_of_some _ q,fun _=>True.intro,fun y hy=>absurd rfl hy⟩
theorem b0g{prog:Program}{w:World}{env:Env}{e:Expr}{f:Str}{pos:Pos}{s:Shared}{Q:Value→Shared→Prop}(hb:attributeBase e f env (eval e env)=eval e env)
 (h:wpAny (model prog w) A (eval e env) (fun o s₁=>wpAny (model prog w) A (getAttr o f true) Q E s₁) E s):wpAny (model prog w) A (eval (.Attribute e f pos) env) Q E s:=
 Attribute_any_ h (by rw[arm_eval_Attribute,hb])
end
noncomputable def tFld(K:PySem.W.Frag)(ta:TE)(f:Str):TE:=fun σ H Q=>ta σ H fun x H1=>∃a C dx fs v,x=.ref a∧H1 a=some (.ins C dx fs)∧Cls K C∧NoAttr K C f∧fs.lookup f=some v∧Q v H1
noncomputable def sFld(K:PySem.W.Frag)(ta tv:TE)(f:Str):TS:=fun D σ H=>tv σ H fun y H1=>ta σ H1 fun x H2=>∃a C dx fs,x=.ref a∧H2 a=some (.ins C dx fs)∧Cls K C∧NoAttr K C f∧fs.length<1000∧
 D.nx σ (upd H2 a (.ins C dx (putF f y fs)))
section
variable{X:Cx}{o e value:Expr}{f:Str}{pos pos' tpos:Pos}{ta tv:TE}
theorem pe_fld(he:PE X e ta)(hb:attributeBase e f X.env (eval e X.env)=eval e X.env):PE X (.Attribute e f pos) (tFld X.K ta f):=by
 intro pins s σ H Q I h;refine b0g hb (thn (he pins s σ H _ I h) fun u s1 ⟨x,H1,I1,rx,a,C,dx,fs,v,ex,ea,c,n,l,q⟩=>?_);subst ex;obtain rfl:u=Value.ref a:=rx;exact j0m I1 ea c n l fun u' s2 I2 ru=>⟨v,H1,I2,ru,q⟩
theorem ps_fld(ha:PE X o ta)(hv:PE X value tv)(hs:swapsWith value (some (.Attribute o f pos')) pos.line X.env=pure false):PS X (.Assign [.Attribute o f pos'] value pos) (sFld X.K ta tv f):=by
 intro pins s σ H D I h;refine plainObj_wpAny_Assign_Attribute (thn (hv pins s σ H _ I h) fun u s1 ⟨y,H1,I1,ry,q⟩=>thn (ha pins s1 σ H1 _ I1 q) fun ov s2 ⟨x,H2,I2,rx,a,C,dx,fs,ex,ea,c,n,l,q2⟩=>?_) hs;subst ex;obtain rfl:ov=Value.ref a:=rx;exact j0l I2 ea c n l ry fun s3 I3=>⟨σ,_,I3,q2⟩
end
section
variable{X:Cx}{pins:List (Addr×Obj)}{σ:St}{H:Hp}{s:Shared}{A:Around}{E:Value→Shared→Prop}{Q:Value→Shared→Prop}{c:Value}{b:Bool}
inductive TyOf(K:PySem.W.Frag)(H:Hp):V→Value→Prop where
 |non:TyOf K H .non (.type "NoneType")
 |bl (x:Bool):TyOf K H (.bl x) (.type "bool")
 |int (i:Int):TyOf K H (.int i) (.type "int")
 |str (x:Str):TyOf K H (.str x) (.type "str")
 |flt (x:UInt64):TyOf K H (.flt x) (.type "float")
 |lst {a:Addr} {xs:List V} (e:H a=some (.lst xs)):TyOf K H (.ref a) (.type "list")
 |frz {a:Addr} {o:Obj} {xs:List V} (e:H a=some (.frz o (.lst xs))):TyOf K H (.ref a) (.type "list")
 |tup {a:Addr} {xs:List V} (e:H a=some (.tup xs)):TyOf K H (.ref a) (.type "tuple")
 |dK {a:Addr} {kvs:List (Key×V)} (e:H a=some (.dK kvs)):TyOf K H (.ref a) (.type "dict")
 |dT {a:Addr} {kvs:List (List Key×V)} (e:H a=some (.dT kvs)):TyOf K H (.ref a) (.type "dict")
 |ins {a C dx:Addr} {fs:List (Str×V)} (e:H a=some (.ins C dx fs)) (cl:Cls K C) (ha:PySem.W.findIn K (.ref C) "__class__"=some (some (.builtin "object.__class__")))
  (hn:PySem.W.specialIn K (.builtin "object.__class__") "__get__"=some (some (.builtin "getset_descriptor.__get__"))) (htk:PySem.W.takesIn K (.builtin "object.__class__")=some true)
  (hm:PySem.W.mroIn K C (.type "object")=some true):TyOf K H (.ref a) (.ref C)
end
end L2
namespace L2
open PySem PySem.Spec PyProof.Rows
structure Room(k:Nat)(A:Around):Prop where
 hd:A.handled=none
 dp:A.depth+3*k+5<recursionLimit
 un:A.units+16*k+200<cLine
theorem Room.mono{j k:Nat}{A:Around}(r:Room k A)(h:j≤k):Room j A:=⟨r.hd,by have:=r.dp;omega,by have:=r.un;omega⟩
theorem Room.deeper{k:Nat}{A:Around}(r:Room (k+1) A)(env:Env):Room k (A.deeper env):=
 ⟨r.hd,by have:=r.dp;show A.depth+1+3*k+5<_;omega,by have:=r.un;show A.units+3+16*k+200<_;omega⟩
theorem j0k{A:Around}{C:Addr}{us:List Value}{kw:List (Str×Value)}:(A.under (.builtin "type.__call__" ⟨.ref C::us,kw⟩)).depth=A.depth+1:=by
 first |rfl |simp[Around.under,Code.weight,Code.isCreation,Code.isGuard,Code.isCaller,Code.frames,Code.isFrame,guardIds]
theorem j0j{A:Around}{C:Addr}{us:List Value}{kw:List (Str×Value)}:(A.under (.builtin "type.__call__" ⟨.ref C::us,kw⟩)).units=A.units+1:=by
 first |rfl |simp[Around.under,Code.cUnits,Code.frames,Code.isFrame]
theorem Room.make{k:Nat}{A:Around}(r:Room (k+1) A)(C:Addr)(us:List Value)(kw:List (Str×Value)):Room k (A.under (.builtin "type.__call__" ⟨.ref C::us,kw⟩)):=
 ⟨r.hd,by have:=r.dp;rw[j0k];omega,by have:=r.un;rw[j0j];omega⟩
theorem Room.depth{k:Nat}{A:Around}(r:Room k A):A.depth<recursionLimit:=by have:=r.dp;omega
theorem Room.units0{k:Nat}{A:Around}(r:Room k A):A.units<cLine:=by have:=r.un;omega
noncomputable def tNil:TA:=fun _ H Q=>Q [] H
noncomputable def tCons(ta:TE)(tr:TA):TA:=fun σ H Q=>ta σ H fun x H1=>tr σ H1 fun xs H2=>Q (x::xs) H2
section
variable{X:Cx}{e:Expr}{es:List Expr}{te:TE}{t:TA}{pos:Pos}
theorem c0l:PA X [] tNil:=fun _ _ _ _ H Q I h=>Calls.spliced_nil ⟨[],H,I,.nil,h⟩
theorem i0c(ha:PE X e te)(hr:PA X es t)(hs:starEach (e::es) X.env=(false,eval e X.env)::starEach es X.env:=by rfl):PA X (e::es) (tCons te t):=by
 intro pos pins s σ H Q I h;rw[hs];show wpAny _ _ (spliced ((false,eval e X.env)::backTo pos (starEach es X.env))) _ _ s;refine Calls.spliced_cons (thn (ha pins s σ H _ I h) fun u s1 ⟨x,H1,I1,r1,q1⟩=>?_);exact thn (hr pos pins s1 σ H1 _ I1 q1) fun us s2 ⟨xs,H2,I2,r2,q2⟩=>⟨x::xs,H2,I2,.cons r1 r2,q2⟩
noncomputable def tTup(t:TA):TE:=fun σ H Q=>t σ H fun xs H1=>xs.length≤sizeLine∧∀p,H1 p=none→Q (.ref p) (upd H1 p (.tup xs))
noncomputable def tLst(t:TA):TE:=fun σ H Q=>t σ H fun xs H1=>xs.length≤sizeLine∧∀p,H1 p=none→Q (.ref p) (upd H1 p (.lst xs))
theorem pe_tup{x1}(h:PA X es t):PE X (.Tuple es x1 pos) (tTup t):=by
 intro pins s σ H Q I hq;refine wpAny_Tuple_spliced (thn (h pos pins s σ H _ I hq) fun us s1 ⟨xs,H1,I1,r,z,q⟩=>⟨by rw[←r.length];exact z,?_⟩);have hf:H1 s1.heap.objs.size=none:=I1.hok.fresh (Nat.le_refl _);refine ⟨.ref s1.heap.objs.size,upd H1 s1.heap.objs.size (.tup xs),I1.laid (t':=s1.toks) (fun b u e=>Heap.get?_push_of_some _ e) (Nat.le_refl _) ?_,rfl,q _ hf⟩;exact ⟨z,us,r,⟨_,Heap.get?_push_size _ rfl,rfl,⟨_,rfl⟩,rfl⟩⟩
theorem i0b(h:PA X es t):PE X (.List es pos) (tLst t):=by
 intro pins s σ H Q I hq;refine wpAny_List_spliced (thn (h pos pins s σ H _ I hq) fun us s1 ⟨xs,H1,I1,r,z,q⟩=>⟨by rw[←r.length];exact z,?_⟩);have hf:H1 s1.heap.objs.size=none:=I1.hok.fresh (Nat.le_refl _);refine ⟨.ref s1.heap.objs.size,upd H1 s1.heap.objs.size (.lst xs),I1.laid (t':=s1.toks) (fun b u e=>Heap.get?_push_of_some _ e) (Nat.le_refl _) ?_,rfl,q _ hf⟩;exact ⟨z,us,0,r,Heap.get?_push_size _ rfl⟩
end
noncomputable abbrev Sp:=List V→Hp→VK→XK→Prop
noncomputable abbrev CXT:=List Env→Hp→Shared→XK→Value→Shared→Prop
structure Env0(P:Program)(w:World)(K:PySem.W.Frag)(mg:Str→Option Value)(base:Heap)(A:Around)(outer:List Env)(s:Shared)(H:Hp):Prop where
 frames:A.frames=some outer
 mod:Mod K mg base
 bs:∀b o,base.get? b=some o→s.heap.get? b=some o∧H b=none
 bsz:base.objs.size≤s.heap.objs.size
 funs:s.heap.FunFrames base outer
 frf:∀b∈frs outer,H b=none
 hok:HOk P w H s.heap
 bare:AllBare s.gens
noncomputable def CE(outer:List Env)(P:Program)(w:World)(H:Hp)(s:Shared)(Q:VK)(u:Value)(s':Shared):Prop:=
 ∃v H',s'.os=s.os∧AllBare s'.gens∧Un (frs outer) [] H H' s.heap s'.heap∧HOk P w H' s'.heap∧RelV v u∧Q v H'
noncomputable def CR(CX:CXT)(outer:List Env)(P:Program)(w:World)(H:Hp)(s:Shared)(Q:VK)(E:XK)(r:Result)(s':Shared):Prop:=
 match r with
 | .ok (.ret u)=>CE outer P w H s Q u s'
 | .ok _=>False
 | .error e=>CX outer H s E e s'
structure FnOk(P:Program)(w:World)(K:PySem.W.Frag)(mg:Str→Option Value)(base:Heap)(CX:CXT)(k:Nat)(f:Addr)(fd:FuncData)(ps:List Str)(sp:Sp):Prop where
 len:∀vs H Q E,sp vs H Q E→vs.length=ps.length
 run:∀(A:Around) (outer:List Env) (s:Shared) (H:Hp) (args:Args) (us:List Value) (vs:List V) (Q:VK) (E:XK),Room k A→Env0 P w K mg base A outer s H→BindsTo s fd args (ps.zip us)→Vals vs us→sp vs H Q E→
  codeAny (model P w) A (.call (.ref f) args) (CR CX outer P w H s Q E) s
theorem Env0.make{P:Program}{w:World}{K:PySem.W.Frag}{mg:Str→Option Value}{base:Heap}{A:Around}{outer:List Env}{s:Shared}{H:Hp}(e:Env0 P w K mg base A outer s H)(C:Addr)(us:List Value)(kw:List (Str×Value)):
 Env0 P w K mg base (A.under (.builtin "type.__call__" ⟨.ref C::us,kw⟩)) outer s H:=⟨by first |exact e.frames |(simpa[Around.under,Code.envs,Code.isFrame,pushEnvs]using e.frames),e.mod,e.bs,e.bsz,e.funs,e.frf,e.hok,e.bare⟩
section
variable{X:Cx}{pins:List (Addr×Obj)}{σ:St}{H:Hp}{s s':Shared}
theorem Inv.env0(I:Inv X pins σ H s):Env0 X.prog X.w X.K X.mg X.base X.A X.stack s H:=
 ⟨I.ok.frames,I.ok.mod,I.bs,Nat.le_trans I.ok.bsz I.sz,I.stack,I.stkFree,I.hok,I.bare⟩
theorem Inv.after{Q:VK}{u:Value}(I:Inv X pins σ H s)(h:CE X.stack X.prog X.w H s Q u s'):EP X pins σ Q u s':=by
 obtain ⟨v,H',os,bare,un,hok,r,q⟩:=h;obtain ⟨hh,g,d,t,os'⟩:=s';obtain rfl:os'=s.os:=os;exact ⟨v,H',I.call (h':=hh) (g':=g) (d':=d) (t':=t) (ch:=[]) un hok bare (fun b z=>absurd z (by simp)),r,q⟩
end
noncomputable def Binds(K:PySem.W.Frag)(fd:FuncData)(ps:List Str)(ds:List Value):Prop:=
 ∀(s:Shared) (us:List Value),K.In s.heap→(us++ds).length=ps.length→BindsTo s fd ⟨us,[]⟩ (ps.zip (us++ds))
theorem Binds.all{K:PySem.W.Frag}{fd:FuncData}{ps:List Str}(h:∀us:List Value,us.length=ps.length→bindArgs fd ⟨us,[]⟩=pure (ps.zip us)):Binds K fd ps []:=fun s us _ hl=>by
 rw[List.append_nil]at hl ⊢;exact .of_eq (h us hl)
noncomputable def c0k(CX:CXT)(X:Cx)(E:XK):Prop:=∀(pins:List (Addr×Obj)) (σ:St) (H:Hp) (s:Shared) (e:Value) (s':Shared),Inv X pins σ H s→CX X.stack H s E e s'→X.xe e s'
section
variable{X:Cx}{CX:CXT}{k:Nat}{f C:Addr}{fd:FuncData}{ps:List Str}{sp:Sp}{dvs:List V}{ds:List Value}{E:XK}{x m:Str}{p pos apos:Pos}{e o:Expr}{es:List Expr}{ta:TE}{t:TA}
structure Mk(K:PySem.W.Frag)(C f:Addr):Prop where
 makes:PySem.W.makesIn K C=true
 init:PySem.W.findIn K (.ref C) "__init__"=some (some (.ref f))
 fn:PySem.W.isFn K (.ref f)=true
 kp:PySem.W.keepIn K (.ref C)=true
end
section
variable{X:Cx}{CX:CXT}{k:Nat}{f C:Addr}{fd:FuncData}{ps ks:List Str}{sp:Sp}{E:XK}{x m:Str}{p pos apos kpos:Pos}{e o:Expr}{es:List Expr}{kws:List Keyword}{te ta:TE}{t tk:TA}{nm:Option Str}
structure KBinds(K:PySem.W.Frag)(fd:FuncData)(ps ks:List Str)(g:List Value→List Value→List Value)(gV:List V→List V→List V):Prop where
 to:∀(s:Shared) (us ws:List Value),K.In s.heap→(g us ws).length=ps.length→BindsTo s fd ⟨us,ks.zip ws⟩ (ps.zip (g us ws))
 rel:∀{vs:List V} {us:List Value} {zs:List V} {ws:List Value},Vals vs us→Vals zs ws→Vals (gV vs zs) (g us ws)
variable{g:List Value→List Value→List Value}{gV:List V→List V→List V}
end
structure FnScope(N P:List Str)(sc:Scope):Prop where
 kind:sc.kind=.function
 co:sc.isCoroutine=false
 gen:sc.isGenerator=false
 nd:N.Nodup
 pre:N.take P.length=P
 par:∀x∈P,sc.names.lookup x=some .local∨sc.names.lookup x=some .cell
 nofree:∀y∈sc.names,y.2≠.free
theorem o0u{kindOf:Str→Option NameKind}{x:Str}:∀{binds:List (Str×Value)} {m:Str→Option Value},(∀v,(x,v)∉binds)→bindL kindOf binds m x=m x
 | [],_,_=>rfl
 |(n,v)::r,m,h=>by
  unfold bindL;rw[o0u fun w hw=>h w (List.mem_cons_of_mem _ hw)];split
  ·have:x≠n:=by rintro rfl;exact h v List.mem_cons_self
   simp[this]
  ·rfl
theorem o0t{kindOf:Str→Option NameKind}{x:Str}:∀{binds:List (Str×Value)} {m:Str→Option Value},(∀v,(x,v)∉binds)→bindC kindOf binds m x=m x
 | [],_,_=>rfl
 |(n,v)::r,m,h=>by
  unfold bindC;rw[o0t fun w hw=>h w (List.mem_cons_of_mem _ hw)];split
  ·rfl
  ·have:x≠n:=by rintro rfl;exact h v List.mem_cons_self
   simp[this]
theorem o0s{kindOf:Str→Option NameKind}{x:Str}{v:Value}:∀{P:List Str} {vs:List Value} {i:Nat} {m:Str→Option Value},P.Nodup→P[i]?=some x→vs[i]?=some v→kindOf x=some .local→
 bindL kindOf (P.zip vs) m x=some v
 | [],_,_,_,_,h,_,_=>by simp at h
 |_::_,[],_,_,_,_,h,_=>by simp at h
 |p::P,w::vs,0,m,nd,h1,h2,hk=>by
  simp at h1 h2;subst h1;subst h2;show bindL kindOf ((p,w)::P.zip vs) m p=_;unfold bindL;rw[o0u fun v hv=>(List.nodup_cons.mp nd).1 (List.of_mem_zip hv).1,if_pos hk];simp
 |p::P,w::vs,i+1,m,nd,h1,h2,hk=>by
  show bindL kindOf ((p,w)::P.zip vs) m x=_;unfold bindL;exact o0s (i:=i) (List.nodup_cons.mp nd).2 (by simpa using h1) (by simpa using h2) hk
theorem o0r{kindOf:Str→Option NameKind}{x:Str}{v:Value}:∀{P:List Str} {vs:List Value} {i:Nat} {m:Str→Option Value},P.Nodup→P[i]?=some x→vs[i]?=some v→kindOf x≠some .local→
 bindC kindOf (P.zip vs) m x=some v
 | [],_,_,_,_,h,_,_=>by simp at h
 |_::_,[],_,_,_,_,h,_=>by simp at h
 |p::P,w::vs,0,m,nd,h1,h2,hk=>by
  simp at h1 h2;subst h1;subst h2;show bindC kindOf ((p,w)::P.zip vs) m p=_;unfold bindC;rw[o0t fun v hv=>(List.nodup_cons.mp nd).1 (List.of_mem_zip hv).1,if_neg hk];simp
 |p::P,w::vs,i+1,m,nd,h1,h2,hk=>by
  show bindC kindOf ((p,w)::P.zip vs) m x=_;unfold bindC;exact o0r (i:=i) (List.nodup_cons.mp nd).2 (by simpa using h1) (by simpa using h2) hk
noncomputable def start(N:List Str)(vs:List V):St:=vs.map some++List.replicate (N.length-vs.length) none
noncomputable def cxOf(CX:CXT)(P:Program)(w:World)(K:PySem.W.Frag)(mg:Str→Option Value)(base:Heap)(N:List Str)(qual:Str)(scope:Scope)(f:Addr)(cd:Value)(A:Around)(outer:List Env)(s:Shared)(H:Hp)(E:XK):Cx where
 prog:=P
 w:=w
 K:=K
 mg:=mg
 base:=base
 A:=A.deeper (envOfC qual scope s.heap.objs.size f cd)
 N:=N
 s₀:=s
 H₀:=H
 env:=envOfC qual scope s.heap.objs.size f cd
 outer:=outer
 stack:=envOfC qual scope s.heap.objs.size f cd::outer
 ex:=[]
 calm:=true
 fn:=fun _=>true
 pn:=[]
 xe:=fun e s'=>wpAny (model P w) (A.deeper (envOfC qual scope s.heap.objs.size f cd)) (leaving (envOfC qual scope s.heap.objs.size f cd) e) (fun _ s''=>CX outer H s E e s'') (fun e' s''=>CX outer H s E e' s'') s'
theorem l0i{sc:Scope}{n:Nat}{x:Str}(h:sc.names.lookup x=some .cell):∃c,(cellsFrom n sc.names []).lookup x=some c:=by
 have q:=PySem.W.cellsFrom_some sc.names n [] (.inl h);exact Option.isSome_iff_exists.mp q
theorem i0a{CX:CXT}{P:Program}{w:World}{K:PySem.W.Frag}{mg:Str→Option Value}{base:Heap}{N ps:List Str}{qual:Str}{scope:Scope}{f:Addr}{cd:Value}{A:Around}{outer:List Env}{s s1:Shared}{H:Hp}{E:XK}{us:List Value}{vs:List V}
 (S:FnScope N ps scope) (hd:A.handled=none) (e0:Env0 P w K mg base A outer s H) (hl:vs.length=ps.length) (r:Vals vs us)
 (x:InCallC s s.heap.objs.size (bindL (envOfC qual scope s.heap.objs.size f cd).kindOf (ps.zip us) fun _=>none) (cellsFrom (s.heap.objs.size+1) scope.names []) (bindC (envOfC qual scope s.heap.objs.size f cd).kindOf (ps.zip us) fun _=>none) s1):
 Inv (cxOf CX P w K mg base N qual scope f cd A outer s H E) [] (start N vs) H s1:=by
 have hpl:ps.length≤N.length:=by have:=congrArg List.length S.pre;rw[List.length_take]at this;omega
 obtain ⟨h1,tk,rfl,hk⟩:=x.done;have noA:∀b:Addr,b∉(cxOf CX P w K mg base N qual scope f cd A outer s H E).ex:=fun b z=>absurd (show b∈([]:List Addr)from z) (by simp)
 refine ⟨⟨e0.mod,S.kind,rfl,rfl,Nat.le_refl _,fun y z c h1 h2=>?_,fun y hy=>?_,fun y c _ h=>?_,fun _=>hd,Around.frames_deeper e0.frames,.inr ⟨rfl,rfl⟩,fun b z=>absurd z (noA b),e0.bs,e0.bsz,fun b _ _=>noA b,fun b z=>absurd z (noA b),e0.funs,e0.frf⟩,
  rfl,e0.bare,Un.kept hk,⟨_,x.toInCall.ns,fun i y v h1 h2 h3=>?_⟩,fun y c h=>⟨_,x.cell y c h⟩,e0.hok.fresh (Nat.le_refl _),fun y c h=>?_,fun p hp=>absurd (show p∈([]:List (Addr×Obj))from hp) (by simp),e0.hok.kept hk,?_⟩
 ·exact name_of_addr x.apart (PySem.mem_of_lookup h1) (PySem.mem_of_lookup h2)
 ·have hy:scope.names.lookup y=some .cell∨scope.names.lookup y=some .free:=hy;rcases hy with hy |hy
  ·exact l0i hy
  ·exact absurd rfl (S.nofree _ (PySem.mem_of_lookup hy))
 ·exact Nat.le_of_lt (x.above y c (PySem.mem_of_lookup h))
 ·have hi:i<vs.length:=by
   unfold start at h2;by_cases hi:i<vs.length
   ·exact hi
   ·rw[List.getElem?_append_right (by simpa using hi)]at h2;rw[List.getElem?_replicate]at h2;split at h2<;>cases h2
  have ha:vs[i]?=some v:=by
   unfold start at h2;rw[List.getElem?_append_left (by simpa using hi),List.getElem?_map]at h2;cases e:vs[i]? with
   |none=>rw[e]at h2;cases h2
   |some a=>rw[e]at h2;cases h2;rfl
  obtain ⟨u,hu,rv⟩:=r.get ha;have hp:ps[i]?=some y:=by
   rw[←S.pre,List.getElem?_take_of_lt (by omega)];exact h1
  have ndP:ps.Nodup:=by rw[←S.pre];exact S.nd.sublist (List.take_sublist _ _)
  refine ⟨u,rv,?_⟩;rcases S.par y (List.mem_of_getElem? hp)with k |k
  ·exact .inl ⟨k,o0s ndP hp hu k⟩
  ·obtain ⟨c,e⟩:=l0i (n:=s.heap.objs.size+1) k;refine .inr ⟨.inl k,c,e,?_⟩;have q:=x.cell y c e;rw[o0r ndP hp hu (by show scope.names.lookup y≠_;rw[k];decide)]at q;exact q
 ·exact e0.hok.fresh (Nat.le_of_lt (x.above y c (PySem.mem_of_lookup h)))
 ·unfold start;show _=N.length;rw[List.length_append,List.length_map,List.length_replicate];omega
theorem fn_of{CX:CXT}{P:Program}{w:World}{K:PySem.W.Frag}{mg:Str→Option Value}{base:Heap}{k:Nat}{f:Addr}{name qual:Str}{params:Arguments}{body:List Stmt}{scope:Scope}{dV kV doc pm cdv ct oc:Value}{an od:Option Addr}
 {osl:Array (Option Value)} {N ps:List Str} {sp:Sp} (lk:K.lookup f=some ⟨oc,od,.func (PySem.W.fnOf name qual params body scope dV kV doc pm an cdv ct),osl⟩) (hcd:PySem.W.codeIn K cdv qual=true) (S:FnScope N ps scope)
 (len:∀vs H Q E,sp vs H Q E→vs.length=ps.length)
 (hbody:∀(A:Around) (outer:List Env) (s:Shared) (H:Hp) (vs:List V) (Q:VK) (E:XK),Room k (A.deeper (envOfC qual scope s.heap.objs.size f cdv))→sp vs H Q E→
  ∃t,PSs (cxOf CX P w K mg base N qual scope f cdv A outer s H E) body t∧t {nx:=fun _ H'=>Q .non H',rt:=Q} (start N vs) H):
 FnOk P w K mg base CX (k+1) f (PySem.W.fnOf name qual params body scope dV kV doc pm an cdv ct) ps sp:=by
 refine ⟨len,fun A outer s H args us vs Q E hr e0 hb r hsp=>?_⟩;have hl:=len _ _ _ _ hsp;have KX:K.In s.heap:=e0.mod.kin.keeps fun b o e=>(e0.bs b o e).1
 have lim:s.heap.NoLimit:=e0.mod.nolimit.keeps fun b o e=>(e0.bs b o e).1
 have hkind:∀y∈ps.zip us,scope.names.lookup y.1=some .local∨(scope.names.lookup y.1=some .cell∧((cellsFrom (s.heap.objs.size+1) scope.names []).lookup y.1).isSome=true):=fun ⟨n,v⟩ hy=>by
  rcases S.par n (List.of_mem_zip hy).1 with q |q
  ·exact .inl q
  ·exact .inr ⟨q,PySem.W.cellsFrom_some _ _ _ (.inl q)⟩
 refine codeAny_call_function hr.depth (KX _ _ lk) rfl S.co S.gen rfl (PySem.W.codeRec_of KX hcd) (hb _ _ _ _ ?_);refine wpAny_newFunctionEnv_cells S.kind hkind fun env he s1 x=>?_
 subst he;refine ⟨lim.keeps x.toInCall.keep,codeAny_func ?_⟩;obtain ⟨t,ht,hq⟩:=hbody A outer s H vs Q E (hr.deeper _) hsp;have I:Inv (cxOf CX P w K mg base N qual scope f cdv A outer s H E) [] (start N vs) H s1:=i0a S hr.hd e0 hl r x;refine wpAny_mono (ht [] s1 (start N vs) H _ I hq) (fun fl s' hs=>?_) fun e s' hs=>hs
 have fin:∀{σ':St} {H':Hp} {v:V} {u:Value},Inv (cxOf CX P w K mg base N qual scope f cdv A outer s H E) [] σ' H' s'→RelV v u→Q v H'→CE outer P w H s Q u s':=
  fun {σ' H' v u} J rv q=>⟨v,H',J.os,J.bare,J.base,J.hok,rv,q⟩
 cases fl with
 |ret u=>
  obtain ⟨v,σ',H',J,rv,q⟩:=hs;exact fin J rv q
 |next=>
  obtain ⟨σ',H',J,q⟩:=hs;exact fin (v:=V.non) (u:=Value.none) J rfl q
 |brk=>
  obtain ⟨_,_,_,q⟩:=hs;exact False.elim q
 |cont=>
  obtain ⟨_,_,_,q⟩:=hs;exact False.elim q
end L2
namespace L2
open PySem PySem.Spec PyProof.Rows
section
variable{X:Cx}{x:Str}{p pos:Pos}{e:Expr}{es:List Expr}{t:TA}{id T:String}{r:List V→Hp→VK→Prop}
noncomputable def tCB(r:List V→Hp→VK→Prop)(t:TA):TE:=fun σ H Q=>t σ H fun vs H1=>r vs H1 Q
theorem l0h(hc:x0t X (.builtin id) r)(hg:Gl X x)(hm:X.mg x=none)(hv:bootBuiltins x=some (.builtin id))(ha:PA X (e::es) t)(hn:x≠"__name__":=by decide)(hdb:(x==("__debug__":Str))=false:=by decide)
 (he:starEach (e::es) X.env=(false,eval e X.env)::starEach es X.env:=by rfl) (hpl:(backTo pos (starEach es X.env)).any (·.1)=false:=by rfl):PE X (.Call (.Name x p) (e::es) [] pos) (tCB r t):=by
 intro pins s σ H Q I h;refine wpAny_Call_Name_kw (t0w I hg hm hv ?_ hn hdb);exact PyProof.Rows.callWith_builtin1 (thn (ha pos pins s σ H _ I h) fun us s1 ⟨vs,H1,I1,r1,q1⟩=>hc pins s1 σ H1 vs us Q I1 r1 q1) he hpl
theorem o0q(hc:x0t X (.type T) r)(hg:Gl X x)(hm:X.mg x=none)(hv:bootBuiltins x=some (.type T))(ha:PA X (e::es) t)(hn:x≠"__name__":=by decide)(hdb:(x==("__debug__":Str))=false:=by decide)
 (he:starEach (e::es) X.env=(false,eval e X.env)::starEach es X.env:=by rfl) (hpl:(backTo pos (starEach es X.env)).any (·.1)=false:=by rfl):PE X (.Call (.Name x p) (e::es) [] pos) (tCB r t):=by
 intro pins s σ H Q I h;refine wpAny_Call_Name_kw (t0w I hg hm hv ?_ hn hdb);exact PyProof.Rows.callWith_type1 (thn (ha pos pins s σ H _ I h) fun us s1 ⟨vs,H1,I1,r1,q1⟩=>hc pins s1 σ H1 vs us Q I1 r1 q1) he hpl
end
end L2
namespace HT
open PySem PyProof.Rows
section
open PySem.SeqAt
open PySem.AutoSeq1 (wpAny_loadPart')
open PySem.MeetsSeq PySem.MeetsSeq2 PySem.MeetsSeq3
end
section
variable{prog:Program}{w:World}{A:Around}{E:Value→Shared→Prop}{s:Shared}
theorem cat_tup{t b:Addr}{vs ws:List Value}{Q:Value→Shared→Prop}(ht:IsTup s.heap t vs.toArray)(hb:IsTup s.heap b ws.toArray)(hv:vs≠[])
 (h1:ws=[]→Q (.ref t) s) (h2:ws≠[]→Q (.ref s.heap.objs.size) {s with heap:=s.heap.push {cls:=.type "tuple",data:=.seq (vs++ws).toArray}})
 (hsz:vs.length+ws.length≤sizeLine):wpAny (model prog w) A (binaryOp .Add (.ref t) (.ref b)) Q E s:=by
 obtain ⟨⟨cls,dd,data,sl⟩,ho,hc,n,hd⟩:=id ht;obtain ⟨⟨cls2,dd2,data2,sl2⟩,ho2,hc2,n2,hd2⟩:=id hb;simp only at hc hd hc2 hd2;subst hc hd hc2 hd2;have e:vs.toArray++ws.toArray=(vs++ws).toArray:=by simp
 by_cases hw:ws=[]
 ·exact concat_meets ⟨_,ho,rfl⟩ ⟨_,ho2,rfl⟩ noFill_tuple_add seq_tuple_add PySem.F.slot_tuple_add PySem.F.entry_tuple_add (PySem.F.args_tuple_add_2 _ _)
   (tuple_addW1 t b vs.toArray ws.toArray n n2 dd dd2 sl sl2 (by simpa using hv) (by simp[hw])) ⟨ho,ho2,h1 hw⟩
 ·refine concat_meets ⟨_,ho,rfl⟩ ⟨_,ho2,rfl⟩ noFill_tuple_add seq_tuple_add PySem.F.slot_tuple_add PySem.F.entry_tuple_add (PySem.F.args_tuple_add_2 _ _)
   (tuple_addW2 t b vs.toArray ws.toArray n n2 dd dd2 sl sl2 (by simpa using hv) (by simpa using hw) (by rw[List.size_toArray,List.size_toArray];exact hsz)) ⟨ho,ho2,?_⟩
  rw[e];exact h2 hw
noncomputable def sIx(n d:Nat):Option Int→Nat
 |none=>d
 |some v=>if v<0 then (v+(n:Int)).toNat else min v.toNat n
theorem sIx_le(n d:Nat)(hd:d≤n)(o:Option Int):sIx n d o≤n:=by
 cases o with
 |none=>exact hd
 |some v=>
  show (if v<0 then (v+(n:Int)).toNat else min v.toNat n)≤n;by_cases hv:v<0
  ·rw[if_pos hv];omega
  ·rw[if_neg hv];exact Nat.min_le_right _ _
theorem h0z(v:Int)(n d:Nat):(if v<0 then max (v+(n:Int)) 0 else min v (n:Int))=((sIx n d (some v):Nat):Int):=by
 show (if v<0 then max (v+(n:Int)) 0 else min v (n:Int))=(((if v<0 then (v+(n:Int)).toNat else min v.toNat n):Nat):Int);by_cases hv:v<0
 ·simp only[if_pos hv];omega
 ·simp only[if_neg hv];omega
theorem j0i(lo hi:Option Int)(n:Nat):Builtin.Slice.sliceAdjust lo hi 1 (n:Int)=(((sIx n 0 lo:Nat):Int),((sIx n n hi:Nat):Int)):=by
 have h1:¬((1:Int)<0):=by omega
 unfold Builtin.Slice.sliceAdjust;simp only[h1,if_false];refine Prod.ext ?_ ?_
 ·cases lo with
  |none=>rfl
  |some v=>exact h0z v n 0
 ·cases hi with
  |none=>rfl
  |some v=>exact h0z v n n
theorem j0h(i j:Nat):Builtin.Slice.slicePlaces (i:Int) (j:Int) 1=j-i:=by
 unfold Builtin.Slice.slicePlaces;have h1:(1:Int)>0:=by omega
 simp only[h1,if_true,Int.ediv_one];split<;>omega
theorem r0d{v:Value}{o:Option Int}{Q:Option Int→Shared→Prop}(p:IsPart v o)(h:Q o s):wpAny (model prog w) A (Builtin.Slice.slicePartIndex v) Q E s:=by
 cases p with
 |none=>exact slicePart_none h
 |int i t=>exact slicePart_int h
theorem u0k{sl:Addr}{vl vu:Value}{lo hi:Option Int}{n:Nat}{Q:Int×Int×Nat→Shared→Prop}(hs:s.heap.IsSliceOf sl vl vu .none)(pl:IsPart vl lo)(pu:IsPart vu hi)
 (h:Q (((sIx n 0 lo:Nat):Int),1,sIx n n hi-sIx n 0 lo) s):wpAny (model prog w) A (Builtin.Slice.sliceApplied (.ref sl) (pure (n:Int))) Q E s:=by
 obtain ⟨os,hos,hcs,hds⟩:=id hs;unfold Builtin.Slice.sliceApplied Builtin.Slice.sliceFields;refine wpAny_bind (wpAny_bind (wpAny_field hos hds (x:=vl) rfl (wpAny_bind (wpAny_field hos hds (x:=vu) rfl (wpAny_bind (wpAny_field hos hds (x:=.none) rfl (wpAny_pure ?_)))))));refine wpAny_bind (slicePart_none ?_);show wpAny _ _ (if ((1:Int)==0)=true then _ else _) _ _ s;rw[if_neg (by decide)];refine wpAny_bind (r0d pl (wpAny_bind (r0d pu (wpAny_bind (wpAny_pure ?_)))));show wpAny _ _ (match Builtin.Slice.sliceAdjust lo hi 1 (n:Int)with |(lo,hi)=>pure (lo,(1:Int),Builtin.Slice.slicePlaces lo hi 1)) _ _ s;rw[j0i lo hi n];show wpAny _ _ (pure (((sIx n 0 lo:Nat):Int),(1:Int),Builtin.Slice.slicePlaces ((sIx n 0 lo:Nat):Int) ((sIx n n hi:Nat):Int) 1)) _ _ s;rw[j0h];exact wpAny_pure h
theorem e0w(xs:Array Value)(i k:Nat):((List.range k).filterMap fun (m:Nat)=>xs[((i:Int)+(m:Int)*1).toNat]?).toArray=((xs.toList.drop i).take k).toArray:=by
 have e:(fun (m:Nat)=>xs[((i:Int)+(m:Int)*1).toNat]?)=fun m=>xs[i+m]?:=by
  funext m;have:((i:Int)+(m:Int)*1).toNat=i+m:=by omega
  rw[this]
 rw[e];have:=pick_run xs i k;rw[List.filterMap_map]at this;have e2:((fun x=>xs[x]?)∘fun x=>i+x)=fun m=>xs[i+m]?:=rfl
 rw[e2]at this;rw[this]
theorem getItem_tuple_cut{t sl:Addr}{items:Array Value}{vl vu:Value}{lo hi:Option Int}{Q:Value→Shared→Prop}(ht:IsTup s.heap t items)(hs:s.heap.IsSliceOf sl vl vu .none)(pl:IsPart vl lo)(pu:IsPart vu hi)
 (hw:¬(sIx items.size 0 lo=0∧sIx items.size items.size hi=items.size))
 (h:Q (.ref s.heap.objs.size) {s with heap:=s.heap.push {cls:=.type "tuple",data:=.seq ((items.toList.drop (sIx items.size 0 lo)).take (sIx items.size items.size hi-sIx items.size 0 lo)).toArray}})
 (hsz:items.size≤sizeLine):wpAny (model prog w) A (getItem (.ref t) (.ref sl)) Q E s:=by
 have htake:sizeOk (.seq ((items.toList.drop (sIx items.size 0 lo)).take (sIx items.size items.size hi-sIx items.size 0 lo)).toArray):=by
  show ((items.toList.drop (sIx items.size 0 lo)).take (sIx items.size items.size hi-sIx items.size 0 lo)).toArray.size≤sizeLine;rw[List.size_toArray,List.length_take,List.length_drop,Array.length_toList];omega
 have hj:sIx items.size items.size hi≤items.size:=sIx_le _ _ (Nat.le_refl _) hi;obtain ⟨os,hos,hcs,hds⟩:=id hs;have hTs:s.TypeIs (.ref sl) "slice":=⟨os,hos,hcs⟩;unfold getItem
 try with_reducible refine wpAny_holding ?_
 first |refine wpAny_bind (wpAny_pure ?_)|skip
 refine wpAny_bind (wpAny_sequenceKey ht.typeIs (by decide) ?_);refine wpAny_bind (wpAny_callSpecial?_slot (name:=Str.ofString "__getitem__") ht.typeIs PyProof.Rows.slot_tuple_getitem
  (wpAny_call_entry PyProof.Rows.slot_tuple_getitem ht.typeIs entry_tuple_getitem ?_ (args_tuple_getitem _ _)))
 show wpAny _ _ (Builtin.Tuple.tupleItemsOf (.ref t) >>= _) _ _ s;refine wpAny_bind (tupleItemsOf_ ht ?_);refine wpAny_bind (wpAny_typeOf hTs ?_);rw[if_pos (by decide)];refine wpAny_bind (u0k hs pl pu ?_);have hno:¬((((sIx items.size 0 lo:Nat):Int)==0&&(1:Int)==1&&(sIx items.size items.size hi-sIx items.size 0 lo)==items.size)=true):=by
  intro q;rw[Bool.and_eq_true,Bool.and_eq_true]at q;have q1:((sIx items.size 0 lo:Nat):Int)=0:=eq_of_beq q.1.1;have q2:sIx items.size items.size hi-sIx items.size 0 lo=items.size:=eq_of_beq q.2;exact hw ⟨by omega,by omega⟩
 show wpAny _ _ (if (((sIx items.size 0 lo:Nat):Int)==0&&(1:Int)==1&&(sIx items.size items.size hi-sIx items.size 0 lo)==items.size)=true then _ else _) _ _ s;rw[if_neg hno,e0w]
 first
  |exact wpAny_bind (m:=Builtin.Tuple.tupleExact _) (wpAny_newObj_type (wpAny_pure ⟨_,rfl,wpAny_pure h⟩) htake)
  |exact wpAny_bind (m:=Builtin.Tuple.tupleExact _) (wpAny_newObj_type (wpAny_bind (wpAny_pure (wpAny_pure ⟨_,rfl,wpAny_pure h⟩))) htake)
  |exact wpAny_bind (wpAny_bind (m:=Builtin.Tuple.tupleExact _) (wpAny_newObj_type (wpAny_pure (wpAny_pure ⟨_,rfl,wpAny_pure h⟩)) htake))
  |exact wpAny_bind (wpAny_bind (m:=Builtin.Tuple.tupleExact _) (wpAny_newObj_type (wpAny_pure ⟨_,rfl,wpAny_pure h⟩) htake))
end
end HT
namespace L2
open PySem PySem.Spec PyProof.Rows
noncomputable abbrev TO:=St→Hp→(Option Int→Hp→Prop)→Prop
noncomputable def PO(X:Cx)(e:Option Expr)(t:TO):Prop:=
 ∀(pins:List (Addr×Obj)) (s:Shared) (σ:St) (H:Hp) (Q:Option Int→Hp→Prop),Inv X pins σ H s→t σ H Q→
  wpAny (model X.prog X.w) X.A (evalPart e X.env) (fun u s'=>∃o H',Inv X pins σ H' s'∧IsPart u o∧Q o H') X.xe s
noncomputable def b0f:TO:=fun _ H Q=>Q none H
noncomputable def tPart(t:TE):TO:=fun σ H Q=>t σ H fun x H1=>∃i,x=.int i∧Q (some i) H1
theorem j0g{ns:List Int}:∀{us:List Value},Vals (ns.map V.int) us→IntsAre us ns:=by
 induction ns with
 |nil=>intro us r;rw[List.map_nil]at r;cases r;exact .nil
 |cons n ns ih=>
  intro us r;rw[List.map_cons]at r;cases r with
  |cons r1 r2=>
   obtain ⟨t,e⟩:=r1;subst e;exact .cons n t (ih r2)
section
variable{X:Cx}{e:Expr}{te:TE}{lo hi:Option Expr}{tl th:TO}{pos p2:Pos}
theorem b0e:PO X none b0f:=by
 intro pins s σ H Q I h;rw[evalPart_none];exact wpAny_pure ⟨none,H,I,.none,h⟩
theorem b0d(h:PE X e te):PO X (some e) (tPart te):=by
 intro pins s σ H Q I hw;rw[evalPart_some];refine thn (h pins s σ H _ I hw) fun u s1 ⟨x,H1,I1,r1,q1⟩=>?_
 obtain ⟨i,rfl,q⟩:=q1;obtain ⟨t,rfl⟩:=r1;exact ⟨some i,H1,I1,.int i t,q⟩
noncomputable def SlR(X:Cx)(r:V→Option Int→Option Int→Hp→VK→Prop):Prop:=
 ∀(pins:List (Addr×Obj)) (s:Shared) (σ:St) (H:Hp) (x:V) (v vl vu:Value) (lo hi:Option Int) (sl:Addr) (Q:VK),Inv X pins σ H s→RelV x v→s.heap.IsSliceOf sl vl vu .none→IsPart vl lo→IsPart vu hi→r x lo hi H Q→
  ∃T id,typeLookup (.type T) "__getitem__"=pure (some (.builtin id))∧s.TypeIs v T∧wpAny (model X.prog X.w) X.A (getItem v (.ref sl)) (EP X pins σ Q) X.xe s
theorem SlR.or{r r':V→Option Int→Option Int→Hp→VK→Prop}(h:SlR X r)(h':SlR X r'):SlR X (fun x lo hi H Q=>r x lo hi H Q∨r' x lo hi H Q):=by
 intro pins s σ H x v vl vu lo hi sl Q I rx hs pl pu q;rcases q with q |q
 ·exact h pins s σ H x v vl vu lo hi sl Q I rx hs pl pu q
 ·exact h' pins s σ H x v vl vu lo hi sl Q I rx hs pl pu q
noncomputable def tSl(r:V→Option Int→Option Int→Hp→VK→Prop)(te:TE)(tl th:TO):TE:=fun σ H Q=>te σ H fun x H1=>tl σ H1 fun l H2=>th σ H2 fun u H3=>r x l u H3 Q
theorem e0v{r:V→Option Int→Option Int→Hp→VK→Prop}(hr:SlR X r)(he:PE X e te)(hl:PO X lo tl)(hu:PO X hi th):PE X (.Subscript e (.Slice lo hi none p2) pos) (tSl r te tl th):=by
 intro pins s σ H Q I h;refine Subscript_ (thn (he pins s σ H _ I h) fun v s1 ⟨x,H1,I1,r1,q1⟩=>?_);refine wpAny_Slice (thn (hl pins s1 σ H1 _ I1 q1) fun vl s2 ⟨l,H2,I2,pl,q2⟩=>thn (hu pins s2 σ H2 _ I2 q2) fun vu s3 ⟨u,H3,I3,pu,q3⟩=>?_);rw[evalPart_none];refine wpAny_pure ?_;have I4:Inv X pins σ H3 {s3 with heap:=s3.heap.push {cls:=.type "slice",data:=.fields #[vl,vu,.none]}}:=I3.kept (t':=s3.toks) fun b ob q=>Heap.get?_push_of_some _ q
 obtain ⟨T,id,hT,ht,hg⟩:=hr pins {s3 with heap:=s3.heap.push {cls:=.type "slice",data:=.fields #[vl,vu,.none]}} σ H3 x v vl vu l u s3.heap.objs.size Q I4 r1 (Heap.IsSliceOf.new ..) pl pu q3;show wpAny (model X.prog X.w) X.A (subscriptTail e (.Slice lo hi none p2) v (.ref s3.heap.objs.size)) (EP X pins σ Q) X.xe {s3 with heap:=s3.heap.push {cls:=.type "slice",data:=.fields #[vl,vu,.none]}};exact tail_any (ops:=[.ref s3.heap.objs.size,v]) ht hT hg (by with_unfolding_all rfl)
noncomputable def cutV(xs:List V)(lo hi:Option Int):List V:=(xs.drop (HT.sIx xs.length 0 lo)).take (HT.sIx xs.length xs.length hi-HT.sIx xs.length 0 lo)
theorem t0s(xs:List V)(lo hi:Option Int):(cutV xs lo hi).length≤xs.length:=by
 unfold cutV;rw[List.length_take,List.length_drop];omega
noncomputable def rSlT(K:PySem.W.Frag):V→Option Int→Option Int→Hp→VK→Prop:=fun x lo hi H Q=>∃a xs,x=.ref a∧SqT K H a xs∧
 ¬(HT.sIx xs.length 0 lo=0∧HT.sIx xs.length xs.length hi=xs.length)∧∀p,H p=none→Q (.ref p) (upd H p (.tup (cutV xs lo hi)))
theorem sl_tup:SlR X (rSlT X.K):=by
 intro pins s σ H x v vl vu lo hi sl Q I rx hs pl pu h;obtain ⟨a,xs,rfl,hx,hw,q⟩:=h;cases rx;obtain ⟨its,r,ht,hz⟩:=I.tuple hx;have hlen:its.toArray.size=xs.length:=by rw[List.size_toArray];exact r.length.symm
 refine ⟨"tuple",_,PyProof.Rows.slot_tuple_getitem.lookup,ht.typeIs,?_⟩;refine HT.getItem_tuple_cut ht hs pl pu (by rw[hlen];exact hw) ?_ (by rw[hlen];exact hz);rw[hlen];refine ⟨.ref s.heap.objs.size,_,I.laid (t':=s.toks) (o:=.tup (cutV xs lo hi)) (fun b ob q=>Heap.get?_push_of_some _ q) (Nat.le_refl _) ?_,rfl,q _ (I.hok.fresh (Nat.le_refl _))⟩;exact ⟨Nat.le_trans (t0s xs lo hi) hz,_,(r.drop (HT.sIx xs.length 0 lo)).take (HT.sIx xs.length xs.length hi-HT.sIx xs.length 0 lo),TupD.new _ _⟩
noncomputable def rCatT(K:PySem.W.Frag):R2:=fun x y H Q=>∃a b xs ys,x=.ref a∧y=.ref b∧SqT K H a xs∧SqT K H b ys∧xs≠[]∧xs.length+ys.length≤sizeLine∧
 (ys=[]→Q (.ref a) H)∧(ys≠[]→∀p,H p=none→Q (.ref p) (upd H p (.tup (xs++ys))))
theorem Vals.nil_iff{xs:List V}{us:List Value}(r:Vals xs us):us=[]↔xs=[]:=by
 cases r with
 |nil=>simp
 |cons _ _=>simp
theorem b0c:OpR X (binaryOp .Add) (rCatT X.K):=by
 intro pins s σ H x y v u Q I rx ry h;obtain ⟨a,b,xs,ys,rfl,rfl,ha,hb,hx,hz,q1,q2⟩:=h;cases rx;cases ry;obtain ⟨its,r1,p1,_⟩:=I.tuple ha;obtain ⟨its2,r2,p2,_⟩:=I.tuple hb;refine HT.cat_tup p1 p2 (fun z=>hx (r1.nil_iff.mp z)) (fun z=>⟨.ref a,H,I,rfl,q1 (r2.nil_iff.mp z)⟩) (fun z=>?_) (by rw[←r1.length,← r2.length];exact hz);refine ⟨.ref s.heap.objs.size,_,I.laid (t':=s.toks) (o:=.tup (xs++ys)) (fun b ob q=>Heap.get?_push_of_some _ q) (Nat.le_refl _) ?_,rfl,q2 (fun w=>z (r2.nil_iff.mpr w)) _ (I.hok.fresh (Nat.le_refl _))⟩;exact ⟨by rw[List.length_append];exact hz,_,r1.append r2,TupD.new _ _⟩
end
end L2
namespace L2
open PySem PySem.Spec PyProof.Rows
noncomputable def ixN(n:Nat)(i:Int):Option Nat:=if 0≤i then (if i<n then some i.toNat else none)else if -(n:Int)≤i then some (i+n).toNat else none
noncomputable def atI{α:Type}(xs:List α)(i:Int):Option α:=(ixN xs.length i).bind fun j=>xs[j]?
theorem h0y{n:Nat}{i:Int}{j:Nat}(h:ixN n i=some j):seqIndex? i n=some j∧j<n∧-(n:Int)≤i∧i<n:=by
 unfold ixN at h;by_cases h0:0≤i
 ·rw[if_pos h0]at h;by_cases h1:i<n
  ·rw[if_pos h1]at h;have e:i.toNat=j:=Option.some.inj h;exact ⟨by rw[seqIndex_of h0 h1,e],by omega,by omega,h1⟩
  ·rw[if_neg h1]at h;cases h
 ·rw[if_neg h0]at h;by_cases h1:-(n:Int)≤i
  ·rw[if_pos h1]at h;have e:(i+n).toNat=j:=Option.some.inj h;exact ⟨by rw[seqIndex_neg (by omega) h1,e],by omega,h1,by omega⟩
  ·rw[if_neg h1]at h;cases h
theorem q0s{α:Type}{xs:List α}{i:Int}{v:α}(h:atI xs i=some v):∃j,seqIndex? i xs.length=some j∧xs[j]?=some v∧j<xs.length∧-(xs.length:Int)≤i∧i<xs.length:=by
 unfold atI at h;cases e:ixN xs.length i with
 |none=>rw[e]at h;cases h
 |some j=>
  rw[e]at h;obtain ⟨h1,h2,h3,h4⟩:=h0y e;exact ⟨j,h1,h,h2,h3,h4⟩
theorem q0r{α:Type}{xs:List α}{j:Nat}{v:α}(h:xs[j]?=some v):atI xs (j:Int)=some v:=by
 have hj:j<xs.length:=(List.getElem?_eq_some_iff.mp h).1;have e:ixN xs.length (j:Int)=some j:=by
  unfold ixN;rw[if_pos (by omega),if_pos (by omega)];simp
 unfold atI;rw[e];exact h
noncomputable def q0q(b:Expr):Prop:=∀o i,subscripted b false o i=operate [o,i] (getItem o i)
noncomputable def IxR(X:Cx)(r:R2):Prop:=
 ∀(value slice:Expr) (pins:List (Addr×Obj)) (s:Shared) (σ:St) (H:Hp) (x y:V) (v u:Value) (Q:VK),Inv X pins σ H s→RelV x v→RelV y u→r x y H Q→
  subscripted slice false v u=operate [v,u] (getItem v u)→wpAny (model X.prog X.w) X.A (subscriptTail value slice v u) (EP X pins σ Q) X.xe s
noncomputable def MtR(X:Cx)(id:String)(r:V→List V→Hp→VK→Prop):Prop:=
 ∀(pins:List (Addr×Obj)) (s:Shared) (σ:St) (H:Hp) (x:V) (xs:List V) (v:Value) (us:List Value) (Q:VK),Inv X pins σ H s→RelV x v→Vals xs us→r x xs H Q→
  wpAny (model X.prog X.w) X.A (call (.builtin id) (v::us)) (EP X pins σ Q) X.xe s
section
variable{X:Cx}{a b:Expr}{ta tb:TE}{pos:Pos}
theorem IxR.or{r r':R2}(h:IxR X r)(h':IxR X r'):IxR X (fun x y H Q=>r x y H Q∨r' x y H Q):=by
 intro value slice pins s σ H x y v u Q I rx ry q hs;rcases q with q |q
 ·exact h value slice pins s σ H x y v u Q I rx ry q hs
 ·exact h' value slice pins s σ H x y v u Q I rx ry q hs
theorem b0b{r:R2}(hr:IxR X r)(ha:PE X a ta)(hb:PE X b tb)(hs:q0q b):PE X (.Subscript a b pos) (tOp r ta tb):=by
 intro pins s σ H Q I h;exact Subscript_ (binT ha hb I h fun v u s2 x y H2 I2 rx ry q=>hr a b pins s2 σ H2 x y v u Q I2 rx ry q (hs _ _))
noncomputable def rIxL(K:PySem.W.Frag):R2:=fun x y H Q=>∃p xs i v,x=.ref p∧y=.int i∧SqL K H p xs∧atI xs i=some v∧Q v H
noncomputable def rIxT(K:PySem.W.Frag):R2:=fun x y H Q=>∃p xs i v,x=.ref p∧y=.int i∧SqT K H p xs∧atI xs i=some v∧Q v H
noncomputable def rIxS:R2:=fun x y H Q=>∃z i c,x=.str z∧y=.int i∧z.length≤sizeLine∧atI z.cps.toList i=some c∧Q (.str ⟨#[c]⟩) H
theorem ix_list:IxR X (rIxL X.K):=by
 intro value slice pins s σ H x y v u Q I rx ry h hs;obtain ⟨p,xs,i,z,rfl,rfl,hq,he,q⟩:=h;cases rx;obtain ⟨t,rfl⟩:=ry;obtain ⟨its,r,pl,hz⟩:=I.list hq;obtain ⟨j,h1,h2,h3,h4,h5⟩:=q0s he;obtain ⟨w,ew,rw'⟩:=r.get h2;have hl:=r.length;have hn:=r0e;have fin:EP X pins σ Q w s:=⟨z,H,I,rw',q⟩;by_cases h0:0≤i
 ·have hj:i.toNat=j:=by
   rw[seqIndex_of h0 h5]at h1;exact Option.some.inj h1
  exact item_listR pl.isList h0 (by omega) (by rw[hj];simpa using ew) fin hs
 ·have hj:(i+(its.toArray.size:Int)).toNat=j:=by
   rw[seqIndex_neg (by omega) h4]at h1;rw[List.size_toArray,← hl];exact Option.some.inj h1
  exact subscriptTail_builtinR (x:=w) pl.isList.typeIs slot_list_getitem.lookup
   (wpAny_getItem_list_neg (Q:=fun r s'=>r=w∧EP X pins σ Q r s') pl.isList (by omega) (by rw[List.size_toArray]<;>omega) (by omega) (by rw[hj];simpa using ew) ⟨rfl,fin⟩) hs
theorem ix_tup:IxR X (rIxT X.K):=by
 intro value slice pins s σ H x y v u Q I rx ry h hs;obtain ⟨p,xs,i,z,rfl,rfl,hq,he,q⟩:=h;cases rx;obtain ⟨t,rfl⟩:=ry;obtain ⟨its,r,pl,hz⟩:=I.tuple hq;obtain ⟨j,h1,h2,h3,h4,h5⟩:=q0s he;obtain ⟨w,ew,rw'⟩:=r.get h2;have hl:=r.length;have hn:=r0e;have fin:EP X pins σ Q w s:=⟨z,H,I,rw',q⟩;exact subscriptTail_builtinR (x:=w) pl.typeIs slot_tuple_getitem.lookup
  (getItem_tuple (j:=j) (Q:=fun r s'=>r=w∧EP X pins σ Q r s') pl (by omega) (by omega) (by rw[List.size_toArray,← hl];exact h1) (by simpa using ew) ⟨rfl,fin⟩) hs
theorem ix_str:IxR X rIxS:=by
 intro value slice pins s σ H x y v u Q I rx ry h hs;obtain ⟨z,i,c,rfl,rfl,hz,he,q⟩:=h;obtain ⟨t,rfl⟩:=rx;obtain ⟨t',rfl⟩:=ry;obtain ⟨j,h1,h2,h3,h4,h5⟩:=q0s he;have hl:z.cps.toList.length=z.length:=by simp[Str.length]
 rw[hl]at h1 h4 h5;have hn:=r0e;exact tail_any (typeIs_str s z t) slot_str_getitem.lookup (getItem_str (c:=c) (by
  have e1:decide (i< -(2^63:Int))=false:=decide_eq_false (by omega);have e2:decide (i≥2^63)=false:=decide_eq_false (by omega);rw[e1,e2,Bool.or_false]) (by rw[h1];simpa using h2) ⟨.str ⟨#[c]⟩,H,I.tok _,⟨_,rfl⟩,q⟩) hs
noncomputable def rIx(K:PySem.W.Frag):R2:=fun x y H Q=>rIxL K x y H Q∨rIxT K x y H Q∨rIxS x y H Q
theorem h0x:IxR X (rIx X.K):=ix_list.or (ix_tup.or ix_str)
theorem j0f(its:List Value)(n j:Nat)(u:Value):Obj.mapSeq (·.setIfInBounds j u) {cls:=.type "list",data:=.seq its.toArray n}={cls:=.type "list",data:=.seq (its.set j u).toArray n}:=by
 simp[Obj.mapSeq]
theorem Inv.lst{pins:List (Addr×Obj)}{σ:St}{H:Hp}{s:Shared}{p:Addr}{xs:List V}(I:Inv X pins σ H s)(h:H p=some (.lst xs)):
 ∃(its:List Value) (n:Nat),Vals xs its∧s.heap.get? p=some {cls:=.type "list",data:=.seq its.toArray n}∧xs.length≤sizeLine:=by
 obtain ⟨z,its,n,r,e⟩:=I.hok p _ h;exact ⟨its,n,r,e,z⟩
theorem Inv.lstUpd{pins:List (Addr×Obj)}{σ:St}{H:Hp}{s:Shared}{p:Addr}{xs ys:List V}{its its':List Value}{n n':Nat}{f:Obj→Obj}(I:Inv X pins σ H s)(h:H p=some (.lst xs))
 (ho:s.heap.get? p=some {cls:=.type "list",data:=.seq its.toArray n}) (hf:f {cls:=.type "list",data:=.seq its.toArray n}={cls:=.type "list",data:=.seq its'.toArray n'}) (r:Vals ys its') (hz:ys.length≤sizeLine) (t:Nat):
 Inv X pins σ (upd H p (.lst ys)) {s with heap:=s.heap.update p f,toks:=t}:=by
 have e:(s.heap.update p f).get? p=some {cls:=.type "list",data:=.seq its'.toArray n'}:=by
  rw[Heap.get?_update_self f ho (by rw[hf]<;>rfl),hf]
 refine I.write (x:=p) (e:=p) (by rw[h];trivial) (.inl rfl) (fun b u hb q=>(Heap.get?_update_other _ _ (Ne.symm hb)).trans q) ⟨_,e⟩ ?_;exact ⟨hz,its',n',r,e⟩
noncomputable def rSetL:V→V→V→Hp→(Hp→Prop)→Prop:=fun o i v H Q=>∃p xs k j,o=.ref p∧i=.int k∧H p=some (.lst xs)∧ixN xs.length k=some j∧Q (upd H p (.lst (xs.set j v)))
theorem l0g:PSet X rSetL:=by
 intro pins s σ H o i v ov iv u Q I ro ri rv h;obtain ⟨p,xs,k,j,rfl,rfl,hp,hj,q⟩:=h;cases ro;obtain ⟨t,rfl⟩:=ri;obtain ⟨its,n,r,ho,hz⟩:=I.lst hp;obtain ⟨h1,h2,h3,h4⟩:=h0y hj;have hl:=r.length;have hn:=r0e;have I':Inv X pins σ (upd H p (.lst (xs.set j v))) {s with heap:=s.heap.update p (Obj.mapSeq (·.setIfInBounds j u))}:=
  I.lstUpd hp ho (j0f its n j u) (r.set rv j) (by rw[List.length_set];exact hz) s.toks
 by_cases h0:0≤k
 ·have hk:k.toNat=j:=by
   rw[seqIndex_of h0 h4]at h1;exact Option.some.inj h1
  exact PySem.W.ki_setAt ho h0 (by omega) (by rw[List.size_toArray,← hl];exact h4) (by rw[hk];exact ⟨_,I',q⟩)
 ·have hk:(k+(its.toArray.size:Int)).toNat=j:=by
   rw[seqIndex_neg (by omega) h3]at h1;rw[List.size_toArray,← hl];exact Option.some.inj h1
  exact PySem.W.ki_setBack ho (by omega) (by rw[List.size_toArray,← hl];exact h3) (by omega) (by rw[hk];exact ⟨_,I',q⟩)
theorem o0p(lo hi:Option Int)(n:Nat):(sliceBounds lo hi none n).1=((HT.sIx n 0 lo:Nat):Int)∧(sliceBounds lo hi none n).2.1=((HT.sIx n n hi:Nat):Int)∧(sliceBounds lo hi none n).2.2=1:=by
 refine ⟨?_,?_,rfl⟩
 ·cases lo with
  |none=>simp[sliceBounds,HT.sIx]
  |some i=>
   simp only[sliceBounds,HT.sIx,Option.getD_none,show (1:Int)>0 by decide,if_true];by_cases h:i<0
   ·simp only[h,if_true]<;>omega
   ·simp only[h,if_false]<;>omega
 ·cases hi with
  |none=>simp[sliceBounds,HT.sIx]
  |some i=>
   simp only[sliceBounds,HT.sIx,Option.getD_none,show (1:Int)>0 by decide,if_true];by_cases h:i<0
   ·simp only[h,if_true]<;>omega
   ·simp only[h,if_false]<;>omega
theorem q0p(its:List Value)(lo hi:Option Int):slicePick its.toArray lo hi none=((its.drop (HT.sIx its.length 0 lo)).take (HT.sIx its.length its.length hi-HT.sIx its.length 0 lo)).toArray:=by
 obtain ⟨h1,h2,h3⟩:=o0p lo hi its.toArray.size;unfold slicePick;rw[h1,h2,h3];simp only[sliceRange_one,pick_run,List.size_toArray]<;>rfl
noncomputable def rSlL(K:PySem.W.Frag):V→Option Int→Option Int→Hp→VK→Prop:=fun x lo hi H Q=>∃a xs,x=.ref a∧SqL K H a xs∧∀p,H p=none→Q (.ref p) (upd H p (.lst (cutV xs lo hi)))
theorem b0a:SlR X (rSlL X.K):=by
 intro pins s σ H x v vl vu lo hi sl Q I rx hs pl pu h;obtain ⟨a,xs,rfl,hx,q⟩:=h;cases rx;obtain ⟨its,r,ht,hz⟩:=I.list hx;have hlen:=r.length;refine ⟨"list",_,slot_list_getitem.lookup,ht.isList.typeIs,?_⟩;refine wpAny_getItem_list_slice ht.isList hs pl pu .none (by simp) ?_ (by rw[List.size_toArray]<;>omega);rw[q0p,← hlen];refine ⟨.ref s.heap.objs.size,_,I.laid (t':=s.toks) (o:=.lst (cutV xs lo hi)) (fun b ob q=>Heap.get?_push_of_some _ q) (Nat.le_refl _) ?_,rfl,q _ (I.hok.fresh (Nat.le_refl _))⟩;exact ⟨Nat.le_trans (t0s xs lo hi) hz,_,0,(r.drop (HT.sIx xs.length 0 lo)).take (HT.sIx xs.length xs.length hi-HT.sIx xs.length 0 lo),Heap.get?_push_size _ rfl⟩
noncomputable def t0r:V→Bool
 | .non=>true
 | .bl _=>true
 | .int _=>true
 | .str _=>true
 |_=>false
noncomputable def eqV:V→V→Bool
 | .non,.non=>true
 | .bl a,.bl b=>a==b
 | .bl a,.int b=>(if a then 1 else 0)==b
 | .int a,.bl b=>a==(if b then 1 else 0)
 | .int a,.int b=>a==b
 | .str a,.str b=>a==b
 |_,_=>false
theorem c0j{A:Around}{s:Shared}{y x:V}{u v:Value}(ry:RelV y u)(rx:RelV x v)(fy:t0r y=true)(fx:t0r x=true):SeqAt.EqAt A s u v (eqV y x):=by
 cases y with
 |non=>
  cases ry;cases x with
  |non=>cases rx;exact SeqAt.EqAt.same _
  |bl b=>cases rx;exact SeqAt.EqAt.none_bool b
  |int b=>obtain ⟨t,rfl⟩:=rx;exact SeqAt.EqAt.none_int b t
  |str b=>obtain ⟨t,rfl⟩:=rx;exact SeqAt.EqAt.none_str b t
  |_=>exact absurd (show false=true from fx) Bool.false_ne_true
 |bl a=>
  cases ry;cases x with
  |non=>cases rx;exact SeqAt.EqAt.bool_none a
  |bl b=>cases rx;exact SeqAt.EqAt.bool_bool a b
  |int b=>obtain ⟨t,rfl⟩:=rx;exact SeqAt.EqAt.bool_int a b t
  |str b=>obtain ⟨t,rfl⟩:=rx;exact SeqAt.EqAt.bool_str a b t
  |_=>exact absurd (show false=true from fx) Bool.false_ne_true
 |int a=>
  obtain ⟨t',rfl⟩:=ry;cases x with
  |non=>cases rx;exact SeqAt.EqAt.int_none a t'
  |bl b=>cases rx;exact SeqAt.EqAt.int_bool a t' b
  |int b=>obtain ⟨t,rfl⟩:=rx;exact SeqAt.EqAt.int_int a t' b t
  |str b=>obtain ⟨t,rfl⟩:=rx;exact SeqAt.EqAt.int_str a t' b t
  |_=>exact absurd (show false=true from fx) Bool.false_ne_true
 |str a=>
  obtain ⟨t',rfl⟩:=ry;cases x with
  |non=>cases rx;exact SeqAt.EqAt.str_none a t'
  |bl b=>cases rx;exact SeqAt.EqAt.str_bool a t' b
  |int b=>obtain ⟨t,rfl⟩:=rx;exact SeqAt.EqAt.str_int a t' b t
  |str b=>obtain ⟨t,rfl⟩:=rx;exact SeqAt.EqAt.str_str a t' b t
  |_=>exact absurd (show false=true from fx) Bool.false_ne_true
 |_=>exact absurd (show false=true from fy) Bool.false_ne_true
noncomputable def eqU(x:V)(u:Value):Bool:=match u with
 | .none=>eqV .non x
 | .bool b=>eqV (.bl b) x
 | .int i _=>eqV (.int i) x
 | .str z _=>eqV (.str z) x
 |_=>false
theorem c0i{x y:V}{u:Value}(r:RelV y u)(f:t0r y=true):eqU x u=eqV y x:=by
 cases y with
 |non=>cases r;rfl
 |bl b=>cases r;rfl
 |int i=>obtain ⟨t,rfl⟩:=r;rfl
 |str z=>obtain ⟨t,rfl⟩:=r;rfl
 |_=>exact absurd (show false=true from f) Bool.false_ne_true
theorem q0o{A:Around}{s:Shared}{x:V}{v:Value}(rx:RelV x v)(fx:t0r x=true):∀{xs:List V} {us:List Value},Vals xs us→xs.all t0r=true→∀u∈us,SeqAt.EqAt A s u v (eqU x u)
 |_,_,.nil,_=>fun u hu=>by cases hu
 |y::xs,u::us,.cons r t,f=>fun u' hu=>by
  rw[List.all_cons,Bool.and_eq_true]at f;rcases List.mem_cons.mp hu with rfl |hu
  ·rw[c0i r f.1];exact c0j r rx f.1 fx
  ·exact q0o rx fx t f.2 u' hu
theorem o0o:x0t X (.builtin "len") (fun xs H Q=>∃p ys,xs=[.ref p]∧(SqL X.K H p ys∨SqT X.K H p ys)∧Q (.int ys.length) H):=by
 intro pins s σ H xs us Q I r h;obtain ⟨p,ys,rfl,hq,q⟩:=h;obtain ⟨u,rfl,rx⟩:=j0n r;cases rx;have hn:=r0e;rcases hq with hq |hq
 ·obtain ⟨its,r',pl,hz⟩:=I.list hq;have hlen:=r'.length;exact Calls.call_len_list pl.isList (by simp only[List.size_toArray]<;>omega) ⟨.int ys.length,H,I.tok _,⟨s.toks+1,by rw[List.size_toArray,hlen]⟩,q⟩
 ·obtain ⟨its,r',pl,hz⟩:=I.tuple hq;have hlen:=r'.length;exact len_tuple pl (by simp only[List.size_toArray]<;>omega) ⟨.int ys.length,H,I.tok _,⟨s.toks+1,by rw[List.size_toArray,hlen]⟩,q⟩
theorem o0n:x0t X (.type "list") (fun xs H Q=>∃p ys,xs=[.ref p]∧(SqL X.K H p ys∨SqT X.K H p ys)∧∀l,H l=none→Q (.ref l) (upd H l (.lst ys))):=by
 intro pins s σ H xs us Q I r h;obtain ⟨p,ys,rfl,hq,q⟩:=h;obtain ⟨u,rfl,rx⟩:=j0n r;cases rx;have fin:∀(its:List Value),Vals ys its→ys.length≤sizeLine→∀(h':Heap) (c':Nat),(∀b o',s.heap.get? b=some o'→h'.get? b=some o')→
  h'.get? s.heap.objs.size=some {cls:=.type "list",dict:=none,data:=.seq its.toArray c',slots:=#[]}→EP X pins σ Q (.ref s.heap.objs.size) {s with heap:=h'}:=fun its r' hz h' c' kp e=>
  ⟨.ref s.heap.objs.size,_,I.laid (t':=s.toks) kp (Nat.le_refl _) (show ObjOk X.prog X.w _ h' _ (.lst ys)from ⟨hz,its,c',r',e⟩),rfl,q _ (I.hok.fresh (Nat.le_refl _))⟩
 rcases hq with hq |hq
 ·obtain ⟨its,r',pl,hz⟩:=I.list hq;have hlen:=r'.length;obtain ⟨o,ho,hc,n,hd⟩:=pl.isList;exact call_list_seq p (.inl rfl) ho hc hd (fun h' c' kp e=>fin its r' hz h' c' kp e) (by simp only[List.size_toArray]<;>omega)
 ·obtain ⟨its,r',pl,hz⟩:=I.tuple hq;have hlen:=r'.length;obtain ⟨o,ho,hc,n,hd⟩:=pl;exact call_list_seq p (.inr rfl) ho hc hd (fun h' c' kp e=>fin its r' hz h' c' kp e) (by simp only[List.size_toArray]<;>omega)
theorem a7:x0t X (.type "tuple") (fun xs H Q=>∃p ys,xs=[.ref p]∧((SqL X.K H p ys∧∀l,H l=none→Q (.ref l) (upd H l (.tup ys)))∨(SqT X.K H p ys∧Q (.ref p) H))):=by
 intro pins s σ H xs us Q I r h;obtain ⟨p,ys,rfl,h⟩:=h;obtain ⟨u,rfl,rx⟩:=j0n r;cases rx;rcases h with ⟨hq,q⟩|⟨hq,q⟩
 ·obtain ⟨its,r',pl,hz⟩:=I.list hq;have hlen:=r'.length;refine call_tuple_list pl.isList (fun h' kp=>?_) (by simp only[List.size_toArray]<;>omega);have I1:Inv X pins σ H {s with heap:=h'}:=I.kept (t':=s.toks) kp;have I2:Inv X pins σ (upd H h'.objs.size (.tup ys)) {s with heap:=h'.push {cls:=.type "tuple",data:=.seq its.toArray}}:=
   I1.laid (t':=s.toks) (fun b o e=>Heap.get?_push_of_some _ e) (Nat.le_refl _) (show ObjOk X.prog X.w _ _ _ (.tup ys)from ⟨hz,its,r',TupD.new _ _⟩)
  exact ⟨.ref h'.objs.size,_,I2,rfl,q _ (I1.hok.fresh (Nat.le_refl _))⟩
 ·obtain ⟨its,r',pl,hz⟩:=I.tuple hq;exact call_tuple_same pl ⟨.ref p,H,I,rfl,q⟩
noncomputable def tyV(K:PySem.W.Frag)(T:String)(x:V)(H:Hp):Prop:=match x with
 | .str _=>T="str"
 | .int _=>T="int"
 | .ref p=>(T="list"∧∃xs,SqL K H p xs)∨(T="tuple"∧∃o,K.lookup p=some o∧o.cls=.type "tuple"∧o.dict=none)∨
  (T="dict"∧((∃kvs,H p=some (.dK kvs))∨∃kvs,H p=some (.dT kvs)))∨(T="set"∧∃S n,H p=some (.set S n))∨(T="tuple"∧∃xs,H p=some (.tup xs))
 |_=>False
theorem tyV_is{pins:List (Addr×Obj)}{σ:St}{H:Hp}{s:Shared}{T:String}{x:V}{v:Value}(I:Inv X pins σ H s)(r:RelV x v)(ty:tyV X.K T x H):
 s.TypeIs v T∧∀a,v=.ref a→∃ob,s.heap.get? a=some ob∧ob.dict=none:=by
 cases x with
 |str z=>
  obtain ⟨t,rfl⟩:=r;cases (show T="str" from ty);exact ⟨typeIs_str s z t,fun _ e=>nomatch e⟩
 |int i=>
  obtain ⟨t,rfl⟩:=r;cases (show T="int" from ty);exact ⟨typeIs_int s i t,fun _ e=>nomatch e⟩
 |ref p=>
  cases r;rcases ty with ⟨rfl,xs,hq⟩|⟨rfl,o,hk,hc,hd⟩|⟨rfl,hk⟩|⟨rfl,S,n,hk⟩|⟨rfl,xs,hk⟩
  ·obtain ⟨its,_,pl,_⟩:=I.list hq;refine ⟨pl.isList.typeIs,fun a e=>?_⟩;cases e;obtain ⟨o,n,e,c,hd,_⟩:=pl;exact ⟨o,e,hd⟩
  ·refine ⟨⟨o,I.kIn p o hk,hc⟩,fun a e=>?_⟩;cases e;exact ⟨o,I.kIn _ o hk,hd⟩
  ·have z:∃o,s.heap.get? p=some o∧o.ExactDict:=by
    rcases hk with ⟨kvs,hk⟩|⟨kvs,hk⟩
    ·obtain ⟨_,_,_,_,o,_,_,e,ex,_⟩:=I.hok p _ hk;exact ⟨o,e,ex⟩
    ·obtain ⟨_,_,_,_,o,_,_,e,ex,_⟩:=I.hok p _ hk;exact ⟨o,e,ex⟩
   obtain ⟨o,e,ex⟩:=z;refine ⟨⟨o,e,ex.1⟩,fun a e2=>?_⟩;cases e2;exact ⟨o,e,ex.2.1⟩
  ·obtain ⟨o,_,_,_,e,ex,_⟩:=I.hok p _ hk;refine ⟨⟨o,e,ex.1⟩,fun a e2=>?_⟩;cases e2;exact ⟨o,e,ex.2.1⟩
  ·obtain ⟨_,its,_,o,e,c,_,hd⟩:=I.hok p _ hk;refine ⟨⟨o,e,c⟩,fun a e2=>?_⟩;cases e2;exact ⟨o,e,hd⟩
 |_=>exact False.elim ty
noncomputable def tBM(K:PySem.W.Frag)(T:String)(r:V→List V→Hp→VK→Prop)(to:TE)(t:TA):TE:=fun σ H Q=>to σ H fun x H1=>tyV K T x H1∧t σ H1 fun xs H2=>r x xs H2 Q
variable{o e:Expr}{es:List Expr}{to:TE}{t:TA}{name:Str}{apos cpos:Pos}{T id:String}{r:V→List V→Hp→VK→Prop}
theorem a0z(pa:PlainAttrs T)(slot:Slot T name id)(hty:typeOf (.builtin id)=pure (.type "method_descriptor"))(hm:MtR X id r)(ho:PE X o to)(ha:PA X (e::es) t)
 (hbase:attributeBase o name X.env (eval o X.env)=eval o X.env:=by rfl)
 (hfew:((backTo cpos (starEach (e::es) X.env)).all (fun x=>!x.1)&&(backToKw cpos (keywordEach [] X.env)).all (fun x=>x.1.isSome)
  &&decide ((e::es).length+([]:List Keyword).length+(if ([]:List Keyword).isEmpty then 0 else 1)<30))=true:=by rfl)
 (hline:(apos.endLine==cpos.line)=true:=by rfl) (hs:starEach (e::es) X.env=(false,eval e X.env)::starEach es X.env:=by rfl) (hplain:(backTo cpos (starEach es X.env)).any (·.1)=false:=by rfl):
 PE X (.Call (.Attribute o name apos) (e::es) [] cpos) (tBM X.K T r to t):=by
 intro pins s σ H Q I h;refine wpAny_Call_method_late hbase hfew hline rfl (thn (ho pins s σ H _ I h) fun v s1 ⟨x,H1,I1,r1,ty,q1⟩=>?_);obtain ⟨h1,h2⟩:=tyV_is I1 r1 ty;refine ⟨T,id,pa,slot,hty,h1,h2,?_⟩;have hA:=ha cpos pins s1 σ H1 _ I1 q1;rw[hs]at hA ⊢;refine Calls.callWith_builtin (by show (false||(backTo cpos (starEach es X.env)).any (·.1))=false;rw[hplain]<;>rfl) (Calls.evalArgs_plain ?_);exact thn hA fun us s2 ⟨vs,H2,I2,r2,q2⟩=>hm pins s2 σ H2 x vs v us Q I2 r1 r2 q2
end
end L2
namespace L2
open PySem PySem.Spec PyProof.Rows
noncomputable def MtM(X:Cx)(id:String)(r:V→List V→Hp→VK→Prop):Prop:=
 ∀(pins:List (Addr×Obj)) (s:Shared) (σ:St) (H:Hp) (x:V) (xs:List V) (v:Value) (us:List Value) (Q:VK),Inv X pins σ H s→RelV x v→Vals xs us→r x xs H Q→
  wpAny (model X.prog X.w) X.A (call (.builtin id) (v::us)) (EP X pins σ Q) X.xe s
theorem Vals.one:∀{x:V} {us:List Value},Vals [x] us→∃u,us=[u]∧RelV x u
 |_,_,.cons r .nil=>⟨_,rfl,r⟩
theorem Vals.two:∀{x y:V} {us:List Value},Vals [x,y] us→∃u v,us=[u,v]∧RelV x u∧RelV y v
 |_,_,_,.cons r (.cons q .nil)=>⟨_,_,rfl,r,q⟩
theorem Vals.rep{xs:List V}{us:List Value}(h:Vals xs us):∀k:Nat,Vals (List.replicate k xs).flatten (List.replicate k us).flatten
 | 0=>.nil
 |k+1=>by
  rw[List.replicate_succ,List.replicate_succ,List.flatten_cons,List.flatten_cons];exact Vals.append h (Vals.rep h k)
theorem o0m(its:List Value):∀(k:Nat) (acc:List Value),
 List.foldl (fun x1 x2=>x1++x2) acc.toArray (List.replicate k its.toArray)=(acc++(List.replicate k its).flatten).toArray
 | 0,acc=>by simp
 |k+1,acc=>by
  have e:acc.toArray++its.toArray=(acc++its).toArray:=by simp
  have e2:(acc++its)++(List.replicate k its).flatten=acc++(List.replicate (k+1) its).flatten:=by
   rw[List.replicate_succ,List.flatten_cons,List.append_assoc]
  rw[←e2,← o0m its k (acc++its),← e,List.replicate_succ,List.foldl_cons]
section
variable{X:Cx}{pins:List (Addr×Obj)}{σ:St}{H:Hp}{s:Shared}{l b:Addr}{xs ys zs:List V}
theorem Inv.lset{its its':List Value}{n:Nat}{f:Array Value→Array Value}{t':Nat}(I:Inv X pins σ H s)(hH:H l=some (.lst xs))
 (e:s.heap.get? l=some {cls:=.type "list",data:=.seq its.toArray n}) (hf:f its.toArray=its'.toArray) (hv:Vals ys its') (hz:ys.length≤sizeLine):
 Inv X pins σ (upd H l (.lst ys)) {s with heap:=s.heap.update l (Obj.mapSeq f),toks:=t'}:=by
 have q:=PySem.IsL.update e f;rw[hf]at q;refine I.write (x:=l) (e:=l) (by rw[hH];exact trivial) (.inl rfl) (fun b' u hb hu=>(Heap.get?_update_other s.heap (Obj.mapSeq f) (Ne.symm hb)).trans hu) ⟨_,q⟩ ?_;exact ⟨hz,its',_,hv,q⟩
theorem Inv.lnew{its:List Value}{t':Nat}(I:Inv X pins σ H s)(hv:Vals ys its)(hz:ys.length≤sizeLine):
 Inv X pins σ (upd H s.heap.objs.size (.lst ys)) {s with heap:=s.heap.push {cls:=.type "list",data:=.seq its.toArray},toks:=t'}:=
 I.laid (fun _ _ q=>Heap.get?_push_of_some _ q) (Nat.le_refl _) ⟨hz,its,0,hv,Heap.get?_push_size _ rfl⟩
theorem Inv.fresh(I:Inv X pins σ H s):H s.heap.objs.size=none:=I.hok.fresh (Nat.le_refl _)
theorem Inv.lstM(I:Inv X pins σ H s)(hH:H l=some (.lst xs)):xs.length≤sizeLine∧∃(its:List Value) (n:Nat),Vals xs its∧xs.length=its.length∧s.heap.get? l=some {cls:=.type "list",data:=.seq its.toArray n}:=by
 obtain ⟨z,its,n,r,e⟩:=I.hok l _ hH;exact ⟨z,its,n,r,r.length,e⟩
theorem e0u{n:Nat}(h:n≤sizeLine):Builtin.List.listTooLong n=false:=by
 unfold Builtin.List.listTooLong;exact decide_eq_false (by omega)
end
section
variable{X:Cx}
noncomputable def h0w:V→List V→Hp→VK→Prop:=fun x vs H Q=>∃l xs y,x=.ref l∧vs=[y]∧H l=some (.lst xs)∧xs.length<sizeLine∧Q .non (upd H l (.lst (xs++[y])))
theorem o0l:MtM X "list.append" h0w:=by
 intro pins s σ H x vs v us Q I rx rv h;obtain ⟨l,xs,y,rfl,rfl,hH,hz,q⟩:=h;cases rx;obtain ⟨u,rfl,ru⟩:=rv.one;obtain ⟨z,its,n,r,hl,e⟩:=I.lstM hH;refine call_meets F.slot_list_append ⟨_,e,rfl⟩ F.entry_list_append (F.args_list_append_2 _ _) (PySem.list_append l its.toArray n u (by rw[List.size_toArray];omega)) ⟨e,?_⟩;refine ⟨.non,_,I.lset (its':=its++[u]) hH e (by simp) (r.append (.cons ru .nil)) ?_,rfl,q⟩;rw[List.length_append,List.length_singleton];omega
noncomputable def rCat:R2:=fun x y H Q=>∃l b xs zs,x=.ref l∧y=.ref b∧H l=some (.lst xs)∧H b=some (.lst zs)∧xs.length+zs.length≤sizeLine∧∀p,H p=none→Q (.ref p) (upd H p (.lst (xs++zs)))
theorem op_cat:OpR X (binaryOp .Add) rCat:=by
 intro pins s σ H x y v u Q I rx ry h;obtain ⟨l,b,xs,zs,rfl,rfl,hH,hB,hz,q⟩:=h;cases rx;cases ry;obtain ⟨z,its,n,r,hl,e⟩:=I.lstM hH;obtain ⟨z2,its2,n2,r2,hl2,e2⟩:=I.lstM hB;refine PySem.P.add_list e e2 ?_ (by rw[List.size_toArray,List.size_toArray];omega);have ea:its.toArray++its2.toArray=(its++its2).toArray:=by simp
 rw[ea];exact ⟨.ref _,_,I.lnew (t':=s.toks) (r.append r2) (by rw[List.length_append];omega),rfl,q _ I.fresh⟩
noncomputable def rRep:R2:=fun x y H Q=>∃l k xs,x=.ref l∧y=.int k∧H l=some (.lst xs)∧-(2^63)≤k∧k<2^63∧xs.length*k.toNat≤sizeLine∧
 ∀p,H p=none→Q (.ref p) (upd H p (.lst (List.replicate k.toNat xs).flatten))
theorem a0y{α:Type}(xs:List α)(k:Nat):(List.replicate k xs).flatten.length=k*xs.length:=by
 induction k with
 |zero=>simp
 |succ k ih=>rw[List.replicate_succ,List.flatten_cons,List.length_append,ih,Nat.succ_mul,Nat.add_comm]
theorem op_rep:OpR X (binaryOp .Mult) rRep:=by
 intro pins s σ H x y v u Q I rx ry h;obtain ⟨l,k,xs,rfl,rfl,hH,h1,h2,hz,q⟩:=h;cases rx;obtain ⟨t,rfl⟩:=ry;obtain ⟨z,its,n,r,hl,e⟩:=I.lstM hH;have hlen:its.toArray.size*k.toNat≤sizeLine:=by rw[List.size_toArray,← hl];exact hz
 have hcap:¬its.toArray.size*k.toNat>(2^63-1)/8:=by
  have:(sizeLine:Nat)≤(2^63-1)/8:=by decide
  omega
 have hfit:¬(!Builtin.List.listFitsIndex k)=true:=by
  rw[fitsIndex_both h1 h2];exact Bool.false_ne_true
 have hlong:¬Builtin.List.listTooLong (its.toArray.size*k.toNat)=true:=by
  rw[e0u hlen];exact Bool.false_ne_true
 have hnew:List.foldl (fun x1 x2=>x1++x2) #[] (List.replicate (if its.toArray.isEmpty=true then 0 else k.toNat) its.toArray)=(List.replicate k.toNat its).flatten.toArray:=by
  have f0:∀m:Nat,List.foldl (fun x1 x2=>x1++x2) #[] (List.replicate m its.toArray)=(List.replicate m its).flatten.toArray:=fun m=>by
   have:=o0m its m [];rw[List.nil_append]at this;exact this
  rw[f0];cases its with
  |nil=>simp
  |cons a r'=>rw[if_neg (by simp)]
 refine wpAny_binaryOp_repeat_ref (T:="list") (U:="int") (by decide) ⟨_,e,rfl⟩ (fun s'=>typeIs_int s' k t) noFill_list_mul F.fills_int_mul F.slot_int_rmul repeat_list F.slot_int_index.lookup
  (call_meets F.slot_int_rmul (typeIs_int s k t) F.entry_int_rmul (F.args_int_rmul_2 _ _) (int___rmul___int_list k t l its.toArray n)
   ⟨e,rfl,⟨_,e,rfl⟩,call_meets F.slot_list_mul ⟨_,e,rfl⟩ F.entry_list_mul (F.args_list_mul_2 _ _) (AutoListH.list___mul___list_int_3 l its.toArray n k t hfit hcap hlong) ⟨e,?_⟩⟩)
 rw[hnew];exact ⟨.ref _,_,I.lnew (t':=s.toks) (r.rep k.toNat) (by rw[a0y,Nat.mul_comm];exact hz),rfl,q _ I.fresh⟩
end
section
variable{prog:Program}{w:World}{A:Around}{E:Value→Shared→Prop}{s:Shared}
set_option maxRecDepth 100000 in
end
section
variable{X:Cx}
end
end L2
namespace Att
open PySem PySem.W PySem.Calls PyProof.Rows
theorem t0q{P:Params}{h:Heap}:∀(ns:List Int) (vs:List Value),WellAll P h vs (ns.map WData.int)→IntsAre vs ns:=by
 intro ns
 induction ns with
 |nil=>
  intro vs w;rw[List.map_nil]at w;cases w;exact .nil
 |cons n ns ih=>
  intro vs w;rw[List.map_cons]at w;cases w with
  |cons a b=>
   cases a;exact .cons _ _ (ih _ b)
theorem h0v{l:OpenLaw}{n:Nat}(hn:l.most=some n){P:Params}{h:Heap}{args:List WData}{vals:List Value}
 (hpre:l.row.toRowW.claim.pre args=true) (hwl:WellAll P h vals args):
 ∃a vs ns,vals=[Value.ref a]∧args=[WData.list (ns.map WData.int)]∧h.get? a=some {cls:=.type "list",data:=.seq vs.toArray}∧IntsAre vs ns∧ns.length≤n:=by
 have hsh:WShape.hasAll [] args [.list .int]=true:=(pre_splitW hpre).1;have hc:l.pre.holds [] {args:=args}=true:=(pre_splitW hpre).2;obtain ⟨d,r,rfl,h1,h2⟩:=hasAllW_cons hsh;obtain rfl:=hasAllW_nil h2;obtain ⟨xs,rfl,h3⟩:=hasW_list h1;obtain ⟨ns,rfl⟩:=items_int h3;have hlen:ns.length≤n:=by
  unfold OpenLaw.pre at hc;have h4:(WTm.not (.lt (.lit (.int (n:Int))) (.len (.arg 0)))).holds [] {args:=[.list (ns.map .int)]}=true:=by
   have h4:=(holds_andW hc).1;rw[hn]at h4;exact h4
  have h5:=condW_of h4 (w_not (w_lt w_lit (w_len_list (w_arg rfl))));rw[List.length_map]at h5;refine Nat.le_of_not_lt fun q=>?_
  have q':(n:Int)<((ns.length:Nat):Int):=by omega
  first
   |(rw[decide_eq_true q']at h5;exact absurd h5 (by decide))
   |(simp at h5;omega)
 cases hwl with
 |cons w1 w2=>
  cases w2;cases w1 with
  |list ho hall=>exact ⟨_,_,ns,rfl,rfl,ho,t0q ns _ hall,hlen⟩
theorem h0u(l:OpenLaw)(args:List WData):l.row.toRowW.claim.post args (.bool true) args=true:=
 postW_of (r:=l.row.toRowW) (X:=(true==true))
  (show WShape.has [] (.bool true) .bool=true by first |rfl |decide |simp[WShape.has,WShape.arms,WShape.armsAll])
  (show (WTm.eq .res (.lit (.bool true))).value [] {args:=args,res:=some (.bool true),after:=args}=some (.bool (true==true))from w_eq_bool (w_res rfl) w_lit) rfl
theorem attach_call{l:OpenLaw}{n:Nat}{q:Program}{loose:List Str}{XP:(Str→Option Value)→Heap→Prop}{YP:World→Heap→Prop}{d:DefRec}
 (hn:l.most=some n) (hdf:d.params.defaults=[])
 (call:∀(w:World) (s₀ s₁:Shared) (mg mb:Str→Option Value) (fa:Addr) (o:Obj) (pm cd doc:Value) (a:Addr) (vs:List Value) (ns:List Int),
  Ground q loose [] XP w s₀ mg mb s₁.heap→YP w s₁.heap→
  s₁.heap.get? fa=some o→o.data=.func (docDef d.name d.params d.body d.scope pm cd doc)→s₁.heap.CodeRec cd d.name→mg d.name=some (.ref fa)→
  s₁.heap.get? a=some {cls:=.type "list",data:=.seq vs.toArray}→IntsAre vs ns→ns.length≤n→s₁.gens=#[]→
  codeAny (model l.prog w) callerA (.call (.ref fa) ⟨[.ref a],[]⟩) (fun r s'=>r=.ok (.ret (.bool true))∧OldK s₁.heap s'.heap∧s'.os=s₁.os∧AllBare s'.gens) s₁):
 WalkO q loose XP YP l.row.toRowW d [] (fun f vs=>PySem.call f vs):=by
 intro w s₀ s₁ mg mb G Y fa o pm cd doc dV kV ho hd hcd hD hmg hg args vals as hpre hlay hrd hwl hlo;obtain rfl:dV=.none:=Dflts.none hD hdf;obtain rfl:kV=.none:=Dflts.noKw hD;obtain ⟨a,vs,ns,rfl,rfl,hobj,hints,hlen⟩:=h0v hn hpre hwl;refine enter_call (codeAny_mono (call w s₀ s₁ mg mb fa o pm cd doc a vs ns G Y ho (fd_plain hd) hcd hmg hobj hints hlen hg) fun r s' hq=>?_);obtain ⟨rfl,h2,h3,h4⟩:=hq;exact ⟨.inl ⟨.bool true,.bool true,[],rfl,fun _=>rfl,.bool true,h0u l _,fun _=>⟨List.Pairwise.nil,fun _ hm=>(nomatch hm)⟩⟩,h2,h3,h4⟩
section
variable{prog:Program}{w:World}{A:Around}{E:Value→Shared→Prop}{s:Shared}{K:Frag}
noncomputable def ledger(h:Heap)(L d:Addr):List (Addr×Obj):=(List.range h.objs.size).filterMap fun a=>if a=L∨a=d then none else (h.get? a).map fun o=>(a,o)
end
end Att
namespace L2
open PySem PySem.Spec PyProof.Rows
theorem o0k:∀{vs:List Value} {ns:List Int},IntsAre vs ns→Vals (ns.map V.int) vs
 |_,_,.nil=>.nil
 |_,_,.cons n t h=>.cons ⟨t,rfl⟩ (o0k h)
noncomputable def Only(H:Hp):Prop:=∀b,H b=none∨∃o xs,H b=some (.frz o (.lst xs))
theorem e0t{P:Program}{w:World}{K:PySem.W.Frag}{mg mb:Str→Option Value}{CX:CXT}{k:Nat}{fa a:Addr}{fd:FuncData}{x:Str}{sp:Sp}{s₁:Shared}{vs:List Value}{ns:List Int}
 (KX:K.In s₁.heap) (hns:s₁.heap.Ns mainGlobals mg) (hb:s₁.heap.Ns builtinsNs mb) (hbb:∀x:Str,x≠"__name__"→mb x=bootBuiltins x) (hlim:s₁.heap.NoLimit) (hg:s₁.gens=#[])
 (ha:s₁.heap.get? a=some {cls:=.type "list",data:=.seq vs.toArray}) (hi:IntsAre vs ns) (hl:ns.length≤sizeLine) (hr:Room k callerA)
 (F:∀base:Heap,K.In base→base.Ns mainGlobals mg→FnOk P w K mg base CX k fa fd [x] sp) (hbind:∀(s:Shared) (u:Value),BindsTo s fd ⟨[u],[]⟩ [(x,u)])
 (hsp:∀H:Hp,Only H→SqL K H a (ns.map V.int)→sp [.ref a] H (fun v _=>v=.bl true) fun _ _ _=>False)
 (hCX:∀H e s',CX [] H s₁ (fun _ _ _=>False) e s'→False):
 codeAny (model P w) callerA (.call (.ref fa) ⟨[.ref a],[]⟩) (fun r s'=>r=.ok (.ret (.bool true))∧OldK s₁.heap s'.heap∧s'.os=s₁.os∧AllBare s'.gens) s₁:=by
 have rv:=o0k hi;have lenV:=hi.length;have core:∀H:Hp,Only H→SqL K H a (ns.map V.int)→HOk P w H s₁.heap→(∀b,H b≠none→b=a)→(H a≠none→K.lookup a=none)→
  codeAny (model P w) callerA (.call (.ref fa) ⟨[.ref a],[]⟩) (fun r s'=>r=.ok (.ret (.bool true))∧OldK s₁.heap s'.heap∧s'.os=s₁.os∧AllBare s'.gens) s₁:=by
  intro H hO hS hok hA hK;have base_of:∀{b:Addr} {o:Obj},s₁.heap.get? b=some o→H b=none→(hidT s₁.heap H).get? b=some o:=fun e n=>f0f e n
  have noA:∀{b:Addr} {o:Obj} {es:Array DictEntry} {ep:Nat},s₁.heap.get? b=some o→o.data=.dict es ep→H b=none:=fun {b o es ep} e d=>by
   cases q:H b with
   |none=>rfl
   |some u=>
    have e':b=a:=hA b (by rw[q];simp);subst e';rw[ha]at e;cases e;have d':Data.seq vs.toArray _=Data.dict es ep:=d;cases d'
  have nsK:∀{b:Addr} {m:Str→Option Value},s₁.heap.Ns b m→(hidT s₁.heap H).Ns b m:=fun {b m} ⟨o,es,ep,e,d,r⟩=>⟨o,es,ep,base_of e (noA e d),d,r⟩
  have hKb:K.In (hidT s₁.heap H):=fun b o e=>base_of (KX b o e) (by
   cases q:H b with
   |none=>rfl
   |some u=>
    have e':b=a:=hA b (by rw[q];simp);subst e';rw[hK (by rw[q];simp)]at e;cases e)
  have hM:Mod K mg (hidT s₁.heap H):=⟨hKb,nsK hns,⟨mb,nsK hb,hbb⟩,let ⟨mc,h1,h2⟩:=hlim;⟨mc,nsK h1,h2⟩⟩;have e0:Env0 P w K mg (hidT s₁.heap H) callerA [] s₁ H:=⟨rfl,hM,fun b o e=>b0s e,Nat.le_of_eq (i0p _ _),trivial,fun b hb=>absurd (show b∈([]:List Addr)from hb) (by simp),hok,.of_eq hg⟩;refine codeAny_mono ((F _ hKb (nsK hns)).run callerA [] s₁ H ⟨[.ref a],[]⟩ [.ref a] [.ref a] _ _ hr e0 (hbind s₁ (.ref a)) (.cons rfl .nil) (hsp H hO hS)) fun r s' h=>?_
  cases r with
  |error e=>exact (hCX H e s' h).elim
  |ok fl=>
   cases fl with
   |next=>exact False.elim h
   |brk=>exact False.elim h
   |cont=>exact False.elim h
   |ret u=>
    obtain ⟨v,H',os,bare,un,hok',r',q⟩:=h;have q':v=.bl true:=q;subst q';obtain rfl:u=Value.bool true:=r';refine ⟨rfl,OldK.of_keep fun b o e=>?_,os,bare⟩;cases q:H b with
    |none=>exact un.keep b o e q (by intro z;exact absurd (show b∈([]:List Addr)from z) (by simp)) (by simp)
    |some u=>
     rcases hO b with z |⟨ob,xs,z⟩
     ·rw[q]at z;cases z
     ·have z2:=un.frzs b ob _ z;obtain ⟨e1,_⟩:=hok b _ z;obtain ⟨e2,_⟩:=hok' b _ z2;rw[e]at e1;cases e1;exact e2
 cases hk:K.lookup a with
 |some o=>
  have e:=KX a o hk;rw[ha]at e;cases e;refine core (fun _=>none) (fun _=>.inl rfl) (.inr ⟨_,vs.toArray,_,hk,rfl,rfl,rfl,by rw[List.size_toArray,lenV];exact hl,by simpa using rv⟩) (fun b u z=>by have z':(none:Option HO)=some u:=z;cases z') (fun b z=>absurd rfl z) fun z=>absurd rfl z
 |none=>
  refine core (fun b=>if b=a then some (.frz {cls:=.type "list",data:=.seq vs.toArray} (.lst (ns.map V.int)))else none) (fun b=>?_) (.inl (.inr ⟨{cls:=.type "list",data:=.seq vs.toArray},if_pos rfl⟩)) (fun b u z=>?_) (fun b z=>?_) fun _=>hk
  ·by_cases hb:b=a
   ·exact .inr ⟨_,_,if_pos hb⟩
   ·exact .inl (if_neg hb)
  ·by_cases hb:b=a
   ·have z':=(if_pos hb).symm.trans z;cases z';subst hb;exact ⟨ha,by rw[List.length_map];exact hl,vs,_,rv,ha⟩
   ·have z':=(if_neg hb).symm.trans z;cases z'
  ·by_cases hb:b=a
   ·exact hb
   ·exact absurd (if_neg hb) z
end L2
namespace L2
open PySem PySem.Spec PyProof.Rows
noncomputable abbrev KOf{K:PySem.W.Frag}{h:Heap}(_:K.In h):PySem.W.Frag:=K
theorem walk_of{l:PySem.W.OpenLaw}{n k:Nat}{q:Program}{loose:List Str}{XP:(Str→Option Value)→Heap→Prop}{YP:World→Heap→Prop}{d:DefRec}{K:Params→PySem.W.Frag}{CX:World→CXT}{sp:World→Sp}{x:Str}
 (hn:l.most=some n) (hn2:n≤sizeLine) (hdf:d.params.defaults=[]) (hr:Room k callerA)
 (hY:∀(w:World) (h:Heap),YP w h→(K w.params).In h)
 (F:∀(w:World) (mg:Str→Option Value) (fa:Addr) (h:Heap),(K w.params).In h→h.Ns mainGlobals mg→mg d.name=some (.ref fa)→
  ∃fd:FuncData,(∀(s:Shared) (u:Value),BindsTo s fd ⟨[u],[]⟩ [(x,u)])∧
   ∀base:Heap,(K w.params).In base→base.Ns mainGlobals mg→FnOk l.prog w (K w.params) mg base (CX w) k fa fd [x] (sp w))
 (hsp:∀(w:World) (H:Hp) (a:Addr) (ns:List Int),ns.length≤n→Only H→SqL (K w.params) H a (ns.map V.int)→sp w [.ref a] H (fun v _=>v=.bl true) fun _ _ _=>False)
 (hCX:∀(w:World) (H:Hp) (s:Shared) (e:Value) (s':Shared),CX w [] H s (fun _ _ _=>False) e s'→False):
 PySem.W.WalkO q loose XP YP l.row.toRowW d [] (fun f vs=>PySem.call f vs):=by
 refine Att.attach_call hn hdf fun w s₀ s₁ mg mb fa o pm cd doc a vs ns G Y ho hd hcd hmg hobj hints hlen hg=>?_
 have KX:=hY w _ Y;obtain ⟨fd,hb,hF⟩:=F w mg fa _ KX G.T.g hmg;exact e0t KX G.T.g G.T.b G.T.builtins G.T.nolimit hg hobj hints (Nat.le_trans hlen hn2) hr hF hb (fun H hO hS=>hsp w H a ns hlen hO hS) fun H e s'=>hCX w H s₁ e s'
end L2
namespace L2
open PySem PySem.Spec PyProof.Rows
noncomputable def inClass(s:Stmt)(j:Nat):Stmt:=match s with
 | .ClassDef _ _ _ body _ _ _ _ _ _ _=>body.getD j (.Pass ⟨0,0,0,0⟩)
 |_=>.Pass ⟨0,0,0,0⟩
noncomputable def defArgs(s:Stmt):Arguments:=match s with
 | .FunctionDef _ a _ _ _ _ _ _ _ _=>a
 |_=>{posonlyargs:=[],args:=[],vararg:=none,kwonlyargs:=[],kw_defaults:=[],kwarg:=none,defaults:=[]}
noncomputable def defBody(s:Stmt):List Stmt:=match s with
 | .FunctionDef _ _ b _ _ _ _ _ _ _=>b
 |_=>[]
noncomputable def defScope(s:Stmt):Scope:=match s with
 | .FunctionDef _ _ _ _ _ _ sc _ _ _=>sc
 |_=>{kind:=.function,names:=[],isGenerator:=false,isCoroutine:=false}
noncomputable abbrev CX0:CXT:=fun _ _ _ _ _ _=>False
noncomputable abbrev E0:XK:=fun _ _ _=>False
theorem pass0{X:Cx}:c0k CX0 X E0:=fun _ _ _ _ _ _ _ h=>h.elim
structure Fun(K:PySem.W.Frag)(x qual:Str)(st:Stmt)(f:Addr)(fd:FuncData):Prop where
 ex:∃(oc:Value) (od:Option Addr) (kV doc pm:Value) (an:Option Addr) (cdv ct:Value) (osl:Array (Option Value)),
  fd=PySem.W.fnOf x qual (defArgs st) (defBody st) (defScope st) .none kV doc pm an cdv ct∧K.lookup f=some ⟨oc,od,.func fd,osl⟩∧PySem.W.codeIn K cdv qual=true
 kp:PySem.W.keepIn K (.ref f)=true
section
variable{P:Program}{w:World}{K:PySem.W.Frag}{mg:Str→Option Value}{base:Heap}
theorem Fun.ok{x qual:Str}{st:Stmt}{f:Addr}{fd:FuncData}{N ps:List Str}{k:Nat}{sp:Sp}(F:Fun K x qual st f fd)(S:FnScope N ps (defScope st))(len:∀vs H Q E,sp vs H Q E→vs.length=ps.length)
 (hbody:∀(cdv:Value) (A:Around) (outer:List Env) (s:Shared) (H:Hp) (vs:List V) (Q:VK) (E:XK),Room k (A.deeper (envOfC qual (defScope st) s.heap.objs.size f cdv))→sp vs H Q E→
  ∃t,PSs (cxOf CX0 P w K mg base N qual (defScope st) f cdv A outer s H E).nox (defBody st) t∧t {nx:=fun _ H'=>Q .non H',rt:=Q} (start N vs) H):FnOk P w K mg base CX0 (k+1) f fd ps sp:=by
 obtain ⟨oc,od,kV,doc,pm,an,cdv,ct,osl,rfl,lk,hcd⟩:=F.ex;refine fn_of lk hcd S len fun A outer s H vs Q E hr hsp=>?_
 obtain ⟨t,h,q⟩:=hbody cdv A outer s H vs Q E hr hsp;exact ⟨t,h.nox,q⟩
theorem Fun.binds{x qual:Str}{st:Stmt}{f:Addr}{fd:FuncData}{ps:List Str}(F:Fun K x qual st f fd)
 (h:∀(kV doc pm:Value) (an:Option Addr) (cdv ct:Value) (us:List Value),us.length=ps.length→bindArgs (PySem.W.fnOf x qual (defArgs st) (defBody st) (defScope st) .none kV doc pm an cdv ct) ⟨us,[]⟩=pure (ps.zip us)):Binds K fd ps []:=by
 obtain ⟨oc,od,kV,doc,pm,an,cdv,ct,osl,rfl,lk,hcd⟩:=F.ex;exact .all (h kV doc pm an cdv ct)
end
section
variable{X:Cx}
theorem pv(i:Nat){x:Str}{pos:Pos}(hN:X.N[i]?=some x:=by rfl)(hv:Vis X.env.scope x:=by walk_at "v3")(hd:(x==("__debug__":Str))=false:=by decide)
 (hcd:(x==("__classdict__":Str))=false:=by decide):PE X (.Name x pos) (tVar i):=u0q hN hv hd hcd
end
noncomputable def Same(H H':Hp):Prop:=∀b o,H b=some o→H' b=some o
theorem Same.refl(H:Hp):Same H H:=fun _ _ h=>h
theorem Same.trans{H H1 H2:Hp}(a:Same H H1)(b:Same H1 H2):Same H H2:=fun c o h=>b c o (a c o h)
theorem Same.free{H H':Hp}(e:Same H H'){l:Addr}(h:H' l=Option.none):H l=Option.none:=by
 cases q:H l with
 |none=>rfl
 |some o=>
  rw[e l o q]at h;cases h
end L2
namespace L2
open PySem PySem.Spec PyProof.Rows
section
variable{κ:Type}[DecidableEq κ]
end
section
variable{P:Program}{w:World}{H:Hp}{h:Heap}{a:Addr}
end
section
variable{X:Cx}{pins:List (Addr×Obj)}{σ:St}{H:Hp}{s:Shared}{a:Addr}{y v:V}{u r:Value}{o:Option V}{A:Around}{E:Value→Shared→Prop}
end
section
variable{X:Cx}{pins:List (Addr×Obj)}{σ:St}{H:Hp}{s:Shared}{a:Addr}{kvs:List (Key×V)}{k:Key}{u:Value}{A:Around}{E:Value→Shared→Prop}
end
section
variable{X:Cx}{o i e value:Expr}{pos pos' tpos:Pos}{td ty tv:TE}
end
section
variable{X:Cx}{pos:Pos}
end
structure M1(X:Cx)(o:Expr)(m:Str)(apos:Pos)(e:Expr)(cpos:Pos):Prop where
 base:attributeBase o m X.env (eval o X.env)=eval o X.env
 few:((backTo cpos (starEach [e] X.env)).all (fun x=>!x.1)&&(backToKw cpos (keywordEach [] X.env)).all (fun x=>x.1.isSome)
  &&decide (([e]:List Expr).length+([]:List Keyword).length+(if ([]:List Keyword).isEmpty then 0 else 1)<30))=true
 line:(apos.endLine==cpos.line)=true
 trees:backTo cpos (starEach [e] X.env)=[(false,eval e X.env)]
structure M2(X:Cx)(o:Expr)(m:Str)(apos:Pos)(e f:Expr)(cpos:Pos):Prop where
 base:attributeBase o m X.env (eval o X.env)=eval o X.env
 few:((backTo cpos (starEach [e,f] X.env)).all (fun x=>!x.1)&&(backToKw cpos (keywordEach [] X.env)).all (fun x=>x.1.isSome)
  &&decide (([e,f]:List Expr).length+([]:List Keyword).length+(if ([]:List Keyword).isEmpty then 0 else 1)<30))=true
 line:(apos.endLine==cpos.line)=true
 trees:backTo cpos (starEach [e,f] X.env)=[(false,eval e X.env),(false,eval f X.env)]
section
variable{X:Cx}{pins:List (Addr×Obj)}{σ:St}{H:Hp}{s:Shared}{a:Addr}{y d:V}{u r:Value}{o:Option V}{A:Around}{E:Value→Shared→Prop}
end
section
variable{X:Cx}{o e f:Expr}{apos cpos:Pos}{td ty tx:TE}
end
section
variable{X:Cx}{pins:List (Addr×Obj)}{σ:St}{H:Hp}{s:Shared}{a:Addr}{kvs:List (Key×V)}{A:Around}{E:Value→Shared→Prop}
end
section
variable{X:Cx}{pins:List (Addr×Obj)}{σ:St}{H:Hp}{s:Shared}{a:Addr}{y:V}{u:Value}{A:Around}{E:Value→Shared→Prop}
end
end L2
set_option maxHeartbeats 4000000
namespace PySem.W
open PySem PySem.Calls PyProof.Rows Builtin Builtin.ObjectAttr Builtin.Getset_descriptor
section
variable{prog:Program}{w:World}{A:Around}{E:Value→Shared→Prop}{R:Result→Shared→Prop}{h:Heap}{g:Array GenState}{d:Drawn}{t:Nat}{os:OsState}
variable{nm q:Str}{C N:Addr}{bs bm bmB:List Value}{hdct:Bool}{sn:List Str}{sub:List Value}{ab:Bool}{col:Option Bool}{dd:Option Addr}{k0 k1 k2 k3 k5:Option Value}{B newId initId:String}
noncomputable abbrev xObj(C t:Addr):Obj:={cls:=.ref C,data:=.fields #[.ref t,.none,.none,.none,.bool false,.none]}
noncomputable abbrev xTup(rest:List Value):Obj:={cls:=.type "tuple",data:=.seq rest.toArray}
theorem type_call_x(F:ExcBaseFacts B newId initId bmB)(T:OwnTail h bmB bm){rest:List Value}{f:Addr}
 (hC:h.get? C=some (excClassObj nm q C N bs bm hdct sn sub ab col dd k0 k1 k2 k3 k5 newId))
 (hi:Looks (model prog w) h (typeLookup (.ref C) "__init__") (some (.ref f))) (hb:∀self,Looks (model prog w) h (bindSpecial (.ref f) self) (.ref f,[self]))
 (hq:codeAny (model prog w) (A.under (.builtin "type.__call__" ⟨.ref C::rest,[]⟩)) (.call (.ref f) ⟨.ref (h.objs.size+1)::rest,[]⟩) (InitBack (h.objs.size+1) R) ⟨(h.push (xTup rest)).push (xObj C h.objs.size),g,d,t,os⟩)
 (hrest:rest.length≤sizeLine):
 codeAny (model prog w) A (.call (.ref C) ⟨rest,[]⟩) R ⟨h,g,d,t,os⟩:=by
 have f1:=tc_lookup;have f2:=tc_bind (.ref C);have hT:(⟨h,g,d,t,os⟩:Shared).TypeIs (.ref C) "type":=⟨_,hC,rfl⟩;refine codeAny_of_tree ?_;show wpAny _ _ (callAny (.ref C) _) _ _ _
 repeat (any_goals (first |assumption |with_reducible refine wpAny_loadPart_at hC ?_ |wp_step))
 refine ⟨rfl,?_⟩;refine codeAny_call_builtin_at (Code.quiet_builtin _ (by decide +kernel)) entry_typeCall (wpAny_check_type_call_sub hC ?_)
 repeat (first |with_reducible refine wpAny_loadPart_at hC ?_ |with_reducible refine wpAny_madeBy_exc hC ?_ |wp_step)
 refine codeAny_call_builtin_code (Code.quiet_builtin _ F.quiet) (wpAny_check_new_subT F T hC ?_);refine codeAny_exc_new_subT F T hC ?_ hrest;show wpAny _ _ _ _ _ _;have k:∀b o,h.get? b=some o→((h.push (xTup rest)).push (xObj C h.objs.size)).get? b=some o:=fun b o e=>Heap.get?_push_of_some _ (Heap.get?_push_of_some _ e)
 have hC₁:=k _ _ hC;have hget:((h.push (xTup rest)).push (xObj C h.objs.size)).get? (h.objs.size+1)=some (xObj C h.objs.size):=by heap_get
 have hcC:(Value.ref C::bm).contains (.ref C)=true:=by simp
 have i1:=hi.keeps k;have b1:=(hb (.ref (h.objs.size+1))).keeps k;unfold isInstance
 repeat (first |with_reducible refine wpAny_loadPart_at hget ?_ |(with_reducible refine wpAny_isSubtype_exc hC₁ ?_;rw[hcC])|wp_step)
 refine wpAny_isSubtype_exc hC₁ ?_;rw[hcC];have t1:Looks (model prog w) ((h.push (xTup rest)).push (xObj C h.objs.size)) (typeOf (.ref (h.objs.size+1))) (.ref C):=(Looks.ld hget).andThen .now;unfold callSpecial? specialOf;simp only[Bool.not_true,Bool.false_eq_true,if_false];refine wpAny_bind (wpAny_holding (wpAny_bind (wpAny_bind (t1.at (i1.at ?_)))));dsimp only;refine wpAny_holding (wpAny_bind (b1.at (wpAny_bind (wpAny_call (codeAny_mono hq fun r s' z=>?_)))));rcases r with e |(v |_ |_ |_)<;>first |exact z |exact z.elim |skip
 obtain ⟨rfl,z⟩:=z;exact wpAny_pure (wpAny_pure z)
theorem type_call_x0(F:ExcBaseFacts B newId initId bmB)(T:OwnTail h bmB bm){mN:Str→Option Value}{Q:Value→Shared→Prop}
 (hC:h.get? C=some (excClassObj nm q C N bs bm hdct sn sub ab col dd k0 k1 k2 k3 k5 newId)) (hn:h.Ns N mN) (hni:mN "__init__"=none)
 (hq:∀h' t2,(∀b o,h.get? b=some o→h'.get? b=some o)→h'.get? (h.objs.size+1)=some (xObj C t2)→Q (.ref (h.objs.size+1)) ⟨h',g,d,t,os⟩):
 wpAny (model prog w) A (call (.ref C) []) Q E ⟨h,g,d,t,os⟩:=by
 have f1:=tc_lookup;have f2:=tc_bind (.ref C);have hT:(⟨h,g,d,t,os⟩:Shared).TypeIs (.ref C) "type":=⟨_,hC,rfl⟩;refine wpAny_call (codeAny_of_tree ?_);show wpAny _ _ (callAny (.ref C) _) _ _ _
 repeat (any_goals (first |assumption |with_reducible refine wpAny_loadPart_at hC ?_ |wp_step))
 refine ⟨rfl,?_⟩;refine codeAny_call_builtin_at (Code.quiet_builtin _ (by decide +kernel)) entry_typeCall (wpAny_check_type_call_sub hC ?_)
 repeat (first |with_reducible refine wpAny_loadPart_at hC ?_ |with_reducible refine wpAny_madeBy_exc hC ?_ |wp_step)
 refine codeAny_call_builtin_code (Code.quiet_builtin _ F.quiet) (wpAny_check_new_subT F T hC ?_);refine codeAny_exc_new_subT F T hC ?_ (by decide);show wpAny _ _ _ _ _ _;have k:∀b o,h.get? b=some o→((h.push (xTup [])).push (xObj C h.objs.size)).get? b=some o:=fun b o e=>Heap.get?_push_of_some _ (Heap.get?_push_of_some _ e)
 have hC₁:=k _ _ hC;have hn₁:((h.push (xTup [])).push (xObj C h.objs.size)).Ns N mN:=let ⟨o,es,ep,e,r⟩:=hn;⟨o,es,ep,k _ _ e,r⟩
 have hget:((h.push (xTup [])).push (xObj C h.objs.size)).get? (h.objs.size+1)=some (xObj C h.objs.size):=by heap_get
 have hcC:(Value.ref C::bm).contains (.ref C)=true:=by simp
 have T₁:=T.keeps k;unfold isInstance
 repeat (first |with_reducible refine wpAny_loadPart_at hget ?_ |(with_reducible refine wpAny_isSubtype_exc hC₁ ?_;rw[hcC])|wp_step)
 refine wpAny_isSubtype_exc hC₁ ?_;rw[hcC];have t1:Looks (model prog w) ((h.push (xTup [])).push (xObj C h.objs.size)) (typeOf (.ref (h.objs.size+1))) (.ref C):=(Looks.ld hget).andThen .now;unfold callSpecial? specialOf;simp only[Bool.not_true,Bool.false_eq_true,if_false];refine wpAny_bind (wpAny_holding (wpAny_bind (wpAny_bind (t1.at (wpAny_typeLookup_tail hC₁ hn₁ T₁ F.mroIs F.init.lookup ?_)))));rw[hni];dsimp only;refine wpAny_holding (wpAny_bind (wpAny_of_eq (F.init.bind _) ?_));refine wpAny_bind (wpAny_call (codeAny_call_builtin F.init.plain F.initEntry (wpAny_check_init_subT F T₁ hC₁ hget rfl ?_)))
 wp_walk
 refine hq _ (h.objs.size+2) (fun b o hb=>?_) ?_
 ·rw[Heap.get?_update_other _ _ (Nat.ne_of_gt (Nat.lt_succ_of_lt (Heap.lt_size hb)))];exact Heap.get?_push_of_some _ (k b o hb)
 ·rw[Heap.get?_update_self _ (Heap.get?_push_of_some _ hget) rfl];simp only[Heap.size_push];rfl
end
end PySem.W
namespace PySem.W
open PySem PySem.Calls PyProof.Rows Builtin Builtin.ObjectAttr Builtin.Getset_descriptor
noncomputable abbrev veMro:List Value:=[.type "ValueError",.type "Exception",.type "BaseException",.type "object"]
noncomputable def l0f:List Value→Bool
 | .ref _::r=>l0f r
 |l=>l==veMro
theorem o0j(self:Value):∀{l:List Value},l0f l=true→refuseLoop self "__setattr__" l=pure ()
 | .ref c::r,e=>by rw[refuseLoop_ref];exact o0j self (l:=r) e
 | [],e=>by cases e
 | .type n::r,e=>by
  have e':(Value.type n::r)=veMro:=beq_iff_eq.mp e;rw[e'];exact PySem.F.store_ValueError.passes self
 | .none::r,e=>by cases (beq_iff_eq.mp e:(Value.none::r)=veMro)
 | .bool _::r,e=>by cases (beq_iff_eq.mp e:(Value.bool _::r)=veMro)
 | .int _ _::r,e=>by cases (beq_iff_eq.mp e:(Value.int _ _::r)=veMro)
 | .str _ _::r,e=>by cases (beq_iff_eq.mp e:(Value.str _ _::r)=veMro)
 | .bytes _ _::r,e=>by cases (beq_iff_eq.mp e:(Value.bytes _ _::r)=veMro)
 | .float _ _::r,e=>by cases (beq_iff_eq.mp e:(Value.float _ _::r)=veMro)
 | .builtin _::r,e=>by cases (beq_iff_eq.mp e:(Value.builtin _::r)=veMro)
 | .notImplemented::r,e=>by cases (beq_iff_eq.mp e:(Value.notImplemented::r)=veMro)
 | .ellipsis::r,e=>by cases (beq_iff_eq.mp e:(Value.ellipsis::r)=veMro)
theorem c0h:∀{l:List Value} {b:Value},l0f l=true→veMro.contains b=true→l.contains b=true
 | .ref c::r,b,e,q=>by rw[List.contains_cons,c0h (l:=r) e q,Bool.or_true]
 | [],b,e,q=>by cases e
 | .type n::r,b,e,q=>by rw[(beq_iff_eq.mp e:(Value.type n::r)=veMro)];exact q
 | .none::r,_,e,_=>by cases (beq_iff_eq.mp e:(Value.none::r)=veMro)
 | .bool _::r,_,e,_=>by cases (beq_iff_eq.mp e:(Value.bool _::r)=veMro)
 | .int _ _::r,_,e,_=>by cases (beq_iff_eq.mp e:(Value.int _ _::r)=veMro)
 | .str _ _::r,_,e,_=>by cases (beq_iff_eq.mp e:(Value.str _ _::r)=veMro)
 | .bytes _ _::r,_,e,_=>by cases (beq_iff_eq.mp e:(Value.bytes _ _::r)=veMro)
 | .float _ _::r,_,e,_=>by cases (beq_iff_eq.mp e:(Value.float _ _::r)=veMro)
 | .builtin _::r,_,e,_=>by cases (beq_iff_eq.mp e:(Value.builtin _::r)=veMro)
 | .notImplemented::r,_,e,_=>by cases (beq_iff_eq.mp e:(Value.notImplemented::r)=veMro)
 | .ellipsis::r,_,e,_=>by cases (beq_iff_eq.mp e:(Value.ellipsis::r)=veMro)
structure XC(K:Frag)(C:Addr):Prop where
 over:(clsIn K C).any (fun cd=>l0f cd.mro)=true
 sa:findIn K (.ref C) "__setattr__"=some (some (.builtin "object.__setattr__"))
 ga:findIn K (.ref C) "__getattribute__"=some (some (.builtin "BaseException.__getattribute__"))
 gh:findIn K (.ref C) "__getattr__"=some none
 hd:hasDictIn K C=true
 ca:findIn K (.ref C) "__class__"=some (some (.builtin "object.__class__"))
 cg:specialIn K (.builtin "object.__class__") "__get__"=some (some (.builtin "getset_descriptor.__get__"))
 ct:takesIn K (.builtin "object.__class__")=some true
section
variable{prog:Program}{w:World}{A:Around}{E:Value→Shared→Prop}{K:Frag}{C x:Addr}{s:Shared}{R:Result→Shared→Prop}
theorem XC.mro(c:XC K C){b:Value}(hb:veMro.contains b=true):mroIn K C b=some true:=by
 obtain ⟨cd,hc,ho⟩:=any_some c.over;have ne:cd.mro.isEmpty=false:=by cases q:cd.mro with |nil=>rw[q]at ho;cases ho |cons _ _=>rfl
 unfold mroIn;rw[hc,Option.bind_some,if_neg (by rw[ne];decide),c0h ho hb]
theorem osa_x{ox:Obj}{od:Option Obj}{name:Str}{tk:Tok}{v:Value}{r:Option Value}(X:K.In s.heap)(I:InstAt s.heap x ox C od)(c:XC K C)(ht:takerIn K C name=some r)
 (h:∀b,wpAny (model prog w) A.in1 (match r with |some a=>setByDescriptor a (.ref x) v |none=>storeInOwnDict (.ref x) (.ref C) (.str name tk) name v b)
  (fun fin s'=>match fin with | .done f=>R (.ok f) s' | .again c'=>c'.quiet=true∧codeAny (model prog w) A c' R s') (fun e s'=>R (.error e) s') s):
 codeAny (model prog w) A (.call (.builtin "object.__setattr__") ⟨[.ref x,.str name tk,v],[]⟩) R s:=by
 have SF:=PySem.F.store_object;obtain ⟨cd,hc,ho⟩:=any_some c.over;have sub:Looks (model prog w) s.heap (isInstance (.ref x) (.type "object")) true:=I.type.andThen (looks_mroIn X (c.mro (by decide)));refine codeAny_call_builtin SF.slot.plain SF.entry (@check_slot (model prog w) _ _ s "object.__setattr__" "object" "__setattr__" (.ref x) [.str name tk,v] [] _ SF.kind SF.split sub (SF.args (.ref x) (.str name tk) v) ?_);obtain ⟨attr,ha,hr⟩:=Option.bind_eq_some_iff.mp ht;have hm:Looks (model prog w) s.heap (mroOf (.ref C)) cd.mro:=(looks_clsIn X hc).andThen .now;have L3:Looks (model prog w) s.heap (storeTaker? attr) r:=by
  cases attr with
  |none=>cases hr;exact .now
  |some a=>
   obtain ⟨b,hb,rfl⟩:=Option.map_eq_some_iff.mp hr;refine (looks_takesIn X hb).andThen ?_;cases b<;>exact .now
 rw[osa_eq,refuse_eq];refine wpAny_bind (wpAny_bind (I.type.here (wpAny_bind (hm.here ?_))));rw[o0j _ ho];refine wpAny_pure (wpAny_bind (I.type.here (wpAny_bind ((looks_findIn X ha).here (wpAny_bind (L3.here ?_))))));exact h _
theorem set_x0{name:Str}{v:Value}{Q:Unit→Shared→Prop}{vs:Array Value}(X:K.In s.heap)(c:XC K C)(hx:s.heap.get? x=some ⟨.ref C,none,.fields vs,#[]⟩)(ht:takerIn K C name=some none)
 (h:∀h',h'.get? x=some ⟨.ref C,some s.heap.objs.size,.fields vs,#[]⟩→h'.Ns1 s.heap.objs.size (fun y=>if y=name then some v else none)→
  (∀b o,b≠x→s.heap.get? b=some o→h'.get? b=some o)→Q () {s with heap:=h',toks:=s.toks+2}):
 wpAny (model prog w) A (setAttr (.ref x) name v) Q E s:=by
 have J:InstAt s.heap x ⟨.ref C,none,.fields vs,#[]⟩ C none:=⟨hx,rfl,rfl,trivial⟩;refine set_plain X J c.sa (osa_x (s:={s with toks:=s.toks+1}) (r:=none) X J c ht fun b=>?_);obtain ⟨cd,hc,hd'⟩:=any_some c.hd;obtain ⟨hp,g,d,t,os⟩:=s;refine wpAny_bind (wpAny_pure (wpAny_bind (wpAny_bind (wpAny_loadPart hx (wpAny_bind (Looks.here (s:=⟨hp,g,d,t+1,os⟩) (looks_clsIn X hc) ?_))))));rw[hd'];have hx₁:(hp.push {cls:=.type "dict",data:=.dict #[]}).get? x=some ⟨.ref C,none,.fields vs,#[]⟩:=Heap.get?_push_of_some _ hx;have hxs:x≠hp.objs.size:=Nat.ne_of_lt (Heap.lt_size hx);show wpAny _ _ (alloc {cls:=.type "dict",data:=.dict #[]} >>= fun d=>update x (fun o=>{cls:=o.cls,dict:=some d,data:=o.data,slots:=o.slots}) >>= fun _=>dictMade (.ref C) x d) _ _ _;refine wpAny_bind (wpAny_alloc' ?_);refine wpAny_bind (wpAny_update' hx₁ ?_);refine wpAny_pure ?_;have hgd:((hp.push {cls:=.type "dict",data:=.dict #[]}).update x fun o=>{cls:=o.cls,dict:=some hp.objs.size,data:=o.data,slots:=o.slots}).get? hp.objs.size
  =some {cls:=.type "dict",data:=.dict #[]}:=
  (Heap.get?_update_ne _ _ _ _ hxs.symm).trans (Heap.get?_push_at rfl rfl)
 have hnd:((hp.push {cls:=.type "dict",data:=.dict #[]}).update x fun o=>{cls:=o.cls,dict:=some hp.objs.size,data:=o.data,slots:=o.slots}).Ns hp.objs.size (fun _=>none):=
  ⟨_,#[],_,hgd,rfl,fun e he=>absurd he (by simp),fun _=>rfl⟩
 show wpAny _ _ (storeInDict hp.objs.size (.str name t) name v) _ _ _;unfold storeInDict newKeyGuard;refine wpAny_bind (wpAny_pure (wpAny_bind (wpAny_nsSet1 (Heap.Ns1.of_empty hnd) fun h' hn' hs=>?_)));obtain ⟨oD,esD,epD,hoD,hdD,hcD⟩:=hn'.count (Within.cons name v Within.nil);refine wpAny_bind (wpAny_lookBehind hoD (by rw[hdD];exact pastItsLine_dict (Nat.le_trans hcD (by rw[List.length_cons,List.length_nil,sizeLine_eq];omega))) ?_);refine wpAny_pure (h h' ?_ hn' fun b o hb e=>?_)
 ·refine (hs.2 x hxs).trans (Heap.get?_update_self _ hx₁ rfl)
 ·exact (hs.2 b (Nat.ne_of_lt (Heap.lt_size e))).trans ((Heap.get?_update_ne _ _ _ _ hb).trans (Heap.get?_push_of_some _ e))
theorem e0s:builtinKind "BaseException.__getattribute__"=some .slot:=by decide +kernel
theorem h0t:splitId "BaseException.__getattribute__"=some ("BaseException","__getattribute__"):=by decide +kernel
theorem bga_slot:Slot "ValueError" "__getattribute__" "BaseException.__getattribute__":=
 .of (owner:="BaseException") (n:="__getattribute__") (by rw[typeLookup_type,builtinLookup_eq_fast];kernel_rfl) (by decide +kernel) (by decide +kernel) (by decide +kernel)
  (by first |exact .inl (by decide +kernel)|exact .inr (by decide +kernel)) (by rw[isSubtype_type];kernel_rfl)
theorem a0x{ox:Obj}{od:Option Obj}{name:Str}{fill expr:Bool}{r:Found}{t:Tok}{Q:Value→Shared→Prop}(X:K.In s.heap)(I:InstAt s.heap x ox C od)(c:XC K C)
 (hf:findObj K C od name=some r)
 (h:wpAny (model prog w) A.in1 (match r with | .value v=>ret v | .bind g a=>bindTo g a (.ref x) (.ref C)| .missing=>unsupported "") (fun fin s'=>∃v,fin=.done (.ret v)∧wpAny (model prog w) A (handedOut v) Q E s') (fun _ _=>False) s)
 (hr:r≠.missing):wpAny (model prog w) A (getAttrBy (.ref x) (.str name t) fill expr) Q E s:=by
 obtain ⟨hp,g,d,tk,os⟩:=s;have L0:=I.type (M:=model prog w);have L1:=looks_findIn (M:=model prog w) X c.ga;have LG:=looks_findIn (M:=model prog w) X c.gh;have L2:=looks_find (M:=model prog w) X I hf;have hx0:(expr&&onTheHeap (Value.builtin "BaseException.__getattribute__"))=false:=by cases expr<;>rfl
 have hx2:(Value.builtin "BaseException.__getattribute__"==Value.builtin "object.__getattribute__")=false:=by decide +kernel
 have hx1:(onTheHeap (Value.ref C)&&Value.builtin "BaseException.__getattribute__"==Value.builtin "object.__getattribute__")=false:=by rw[hx2];rfl
 have sub:Looks (model prog w) hp (isInstance (.ref x) (.type "BaseException")) true:=I.type.andThen (looks_mroIn X (c.mro (by decide)));have hbnd:=bga_slot.bind (.ref x);unfold getAttrBy;refine wpAny_holding (wpAny_bind (L0.at (wpAny_bind (L1.at ?_))));dsimp only;rw[if_neg (by rw[hx1];decide)];unfold getAttrByItsOwn hookBefore;rw[if_pos (show onTheHeap (Value.ref C)=true from rfl)];refine wpAny_bind (LG.at (wpAny_bind (wpAny_attempt (wpAny_holding ?_))));unfold callGetattribute;rw[if_neg (by rw[hx0];decide)];unfold boundAndCalled;rw[hbnd];refine wpAny_bind (wpAny_pure ?_);refine wpAny_call (codeAny_call_builtin bga_slot.plain F.entry_bexc_ga (@check_slot (model prog w) _ _ ⟨hp,g,d,tk,os⟩ "BaseException.__getattribute__" "BaseException" "__getattribute__" (.ref x) [.str name t] [] _ e0s h0t sub (F.args_bexc_ga (.ref x) (.str name t)) ?_));refine wpAny_bind (wpAny_pure (wpAny_bind (wpAny_pure (wpAny_bind (L0.at (wpAny_bind (L2.at ?_)))))));cases r with
 |value v=>
  refine wpAny_mono h (fun fin s' z=>?_) fun _ _ z=>z.elim
  obtain ⟨v,rfl,z⟩:=z;exact z
 |bind g a=>
  refine wpAny_mono h (fun fin s' z=>?_) fun _ _ z=>z.elim
  obtain ⟨v,rfl,z⟩:=z;exact z
 |missing=>exact absurd rfl hr
theorem cls_x{ox:Obj}{od:Option Obj}{Q:Option Value→Shared→Prop}(X:K.In s.heap)(I:InstAt s.heap x ox C od)(c:XC K C)(h:Q (some (.ref C)) {s with toks:=s.toks+1}):
 wpAny (model prog w) A (getAttr? (.ref x) "__class__") Q E s:=by
 have hf:findObj K C od "__class__"=some (.bind (.builtin "getset_descriptor.__get__") (.builtin "object.__class__")):=by
  obtain ⟨cd,hc,_⟩:=any_some c.hd;unfold findObj;rw[hc,Option.bind_some,c.ca,Option.bind_some];show ((specialIn K (.builtin "object.__class__") "__get__").bind _)=_;rw[c.cg,Option.bind_some];show ((takesIn K (.builtin "object.__class__")).bind _)=_;rw[c.ct];rfl
 unfold getAttr? getAttrBy?;refine wpAny_bind (wpAny_mkText (wpAny_bind (wpAny_attempt (a0x (s:={s with toks:=s.toks+1}) X I c hf ?_ (fun q=>by cases q)))));show wpAny _ _ (holding [_] (call (.builtin "getset_descriptor.__get__") [.builtin "object.__class__",.ref x,.ref C]) >>= ret) _ _ _;refine wpAny_bind (wpAny_holding (wpAny_call (class_get (s:={s with toks:=s.toks+1}) X I (c.mro (by decide)) (wpAny_pure ⟨_,rfl,?_⟩))));exact handed_on rfl (wpAny_pure h)
theorem kitx_x{ox:Obj}{od:Option Obj}(c:XC K C):KitX K (.ref x) (.ref C) (fun h=>InstAt h x ox C od)where
 ty:=fun _ _ _ I=>I.type
 it:=fun _ _ X _=>by
  obtain ⟨cdD,hcD,_⟩:=any_some c.hd;unfold clsIn at hcD;split at hcD
  ·rename_i c' d' cd' sl' ho;intro A' Q' E' s' k q;unfold isType loadHead;exact wpAny_bind (wpAny_loadPart (k _ _ (X _ _ ho)) (wpAny_pure q))
  ·cases hcD
 ne:=fun h tp dd its n sl X htp=>by
  obtain ⟨cdD,hcD,_⟩:=any_some c.hd;refine Bool.eq_false_iff.mpr fun q=>?_
  have e:C=tp:=Value.ref.inj (beq_iff_eq.mp q);subst e;unfold clsIn at hcD;split at hcD
  ·rename_i c' d' cd' sl' ho;have z:=(X _ _ ho).symm.trans htp;cases z
  ·cases hcD
 ca:=fun X I k=>cls_x X I c k
end
end PySem.W
namespace L2
open PySem PySem.Spec PyProof.Rows
open PySem.W (XC)
noncomputable def XO(fr:Bool)(x C:Addr)(od:Option Addr):HO:=.ext fun h=>∃o vs,h.get? x=some o∧o.cls=.ref C∧o.dict=od∧o.data=.fields vs∧(fr=true→o.slots=#[]∧vs[1]?=some .none)
noncomputable def XD(dx:Addr)(fs:List (Str×V)):HO:=.ext fun h=>∃mA,h.Ns1 dx mA∧(∀f,RelO (fs.lookup f) (mA f))∧PySem.Within mA (fs.map (·.1))
theorem XO.ok{P:Program}{w:World}{H:Hp}{h:Heap}{fr:Bool}{x C:Addr}{od:Option Addr}(hx:∃o vs,h.get? x=some o∧o.cls=.ref C∧o.dict=od∧o.data=.fields vs∧(fr=true→o.slots=#[]∧vs[1]?=some .none)):ObjOk P w H h x (XO fr x C od):=by
 refine ⟨hx,?_,fun h1 h2 q k=>?_⟩
 ·obtain ⟨o,_,e,_⟩:=hx;exact ⟨o,e⟩
 ·obtain ⟨o,vs,e,r⟩:=q;exact ⟨o,vs,k o e,r⟩
theorem XD.ok{P:Program}{w:World}{H:Hp}{h:Heap}{dx:Addr}{fs:List (Str×V)}(hx:∃mA,h.Ns1 dx mA∧(∀f,RelO (fs.lookup f) (mA f))∧PySem.Within mA (fs.map (·.1))):ObjOk P w H h dx (XD dx fs):=by
 refine ⟨hx,?_,fun h1 h2 q k=>?_⟩
 ·obtain ⟨mA,⟨o,es,ep,e,_⟩,_⟩:=hx;exact ⟨o,e⟩
 ·obtain ⟨mA,⟨o,es,ep,e,r⟩,z⟩:=q;exact ⟨mA,⟨o,es,ep,k o e,r⟩,z⟩
theorem ObjOk.there{P:Program}{w:World}{H:Hp}{h:Heap}{a:Addr}{o:HO}(x:ObjOk P w H h a o):∃u,h.get? a=some u:=by
 cases o with
 |lst xs=>obtain ⟨_,_,_,_,e⟩:=x;exact ⟨_,e⟩
 |tup xs=>obtain ⟨_,_,_,o,e,_⟩:=x;exact ⟨_,e⟩
 |dK kvs=>obtain ⟨_,_,_,_,o,_,_,e,_⟩:=x;exact ⟨_,e⟩
 |dT kvs=>obtain ⟨_,_,_,_,o,_,_,e,_⟩:=x;exact ⟨_,e⟩
 |set S n=>obtain ⟨o,_,_,_,e,_⟩:=x;exact ⟨_,e⟩
 |ins C dx fs=>obtain ⟨_,_,_,e,_⟩:=x;exact ⟨_,e⟩
 |own y=>obtain ⟨_,e⟩:=x;exact ⟨_,e⟩
 |xd fs=>obtain ⟨_,⟨_,_,_,e,_⟩,_⟩:=x;exact ⟨_,e⟩
 |rng lo hi=>obtain ⟨_,_,_,e⟩:=x;exact ⟨_,e⟩
 |frz ob u=>obtain ⟨e,_⟩:=x;exact ⟨_,e⟩
 |tbl ps=>exact ⟨_,(show h.get? a=some _ from x)⟩
 |met f y=>exact ⟨_,(show h.get? a=some _ from x)⟩
 |ext φ=>obtain ⟨_,⟨_,e⟩,_⟩:=x;exact ⟨_,e⟩
theorem HOk.free{P:Program}{w:World}{H:Hp}{h:Heap}{a:Addr}(x:HOk P w H h)(e:h.get? a=none):H a=none:=by
 cases q:H a with
 |none=>rfl
 |some u=>
  obtain ⟨o,z⟩:=(x a u q).there;rw[e]at z;cases z
theorem Inv.laidN{X:Cx}{pins:List (Addr×Obj)}{σ:St}{H:Hp}{s:Shared}{h':Heap}{a:Addr}{o:HO}{t':Nat}(I:Inv X pins σ H s)(k:∀b u,s.heap.get? b=some u→h'.get? b=some u)(hp:s.heap.get? a=none)(new:ObjOk X.prog X.w (upd H a o) h' a o):
 Inv X pins σ (upd H a o) {s with heap:=h',toks:=t'}:=by
 have hn:=I.hok.free hp;have nb:∀b u,s.heap.get? b=some u→b≠a:=fun b u q z=>by rw[z,hp]at q;cases q
 refine I.un (t':=t') ⟨fun b u q _ _ _=>k b u q,fun b u q _ _ _=>⟨u.slots,k b u q⟩,fun b u q n _=>by rw[g0 (nb b u q)];exact n,fun b u q _=>⟨u,k b u q⟩,fun b xs q=>by rw[g0 (j0 q hn)];exact q,
  fun b u xs q=>by rw[g0 (j0 q hn)];exact q,fun b ps q=>⟨#[],by rw[g0 (j0 q hn),q];simp⟩⟩ fun b u e=>?_
 by_cases hb:b=a
 ·subst hb;rw[j3]at e;cases e;exact new
 ·rw[g0 hb]at e;exact (I.hok b u e).stay (fun c v _ q=>k c v q) (fun c q=>by rw[g0 (j0 q hn)];exact q) fun c xs q=>by rw[g0 (j0 q hn)];exact q
theorem XO.get{P:Program}{w:World}{H:Hp}{h:Heap}{fr:Bool}{x C:Addr}{od:Option Addr}(hok:HOk P w H h)(e:H x=some (XO fr x C od)):
 ∃o vs,h.get? x=some o∧o.cls=.ref C∧o.dict=od∧o.data=.fields vs∧(fr=true→o.slots=#[]∧vs[1]?=some .none):=(show ObjOk P w H h x (XO fr x C od)from hok x _ e).1
theorem XD.get{P:Program}{w:World}{H:Hp}{h:Heap}{dx:Addr}{fs:List (Str×V)}(hok:HOk P w H h)(e:H dx=some (XD dx fs)):
 ∃mA,h.Ns1 dx mA∧(∀f,RelO (fs.lookup f) (mA f))∧PySem.Within mA (fs.map (·.1)):=(show ObjOk P w H h dx (XD dx fs)from hok dx _ e).1
section
variable{X:Cx}{pins:List (Addr×Obj)}{σ:St}{H:Hp}{s:Shared}{x C dx:Addr}{fs:List (Str×V)}{f:Str}{v:V}{A:Around}{E:Value→Shared→Prop}
theorem xset0{y:V}{u:Value}{Q:Unit→Shared→Prop}(I:Inv X pins σ H s)(e:H x=some (XO true x C none))(c:XC X.K C)(n:NoAttr X.K C f)(ry:RelV y u)
 (h:∀d s',H d=none→d≠x→Inv X pins σ (upd (upd H d (XD d [(f,y)])) x (XO true x C (some d))) s'→Q () s'):wpAny (model X.prog X.w) A (setAttr (.ref x) f u) Q E s:=by
 obtain ⟨o,vs,hx,h1,h2,h3,h40⟩:=XO.get I.hok e;obtain ⟨h4,h5⟩:=h40 rfl;clear h40;obtain ⟨oc,od,odt,osl⟩:=o;dsimp only at h1 h2 h3 h4;subst h1 h2 h3 h4;have hxs:x≠s.heap.objs.size:=Nat.ne_of_lt (Heap.lt_size hx);refine PySem.W.set_x0 I.kIn c hx n.taker fun h' e1 e2 e3=>h s.heap.objs.size _ (I.hok.fresh (Nat.le_refl _)) hxs.symm ?_
 have mu:Mut (H x):=by rw[e];exact True.intro
 have keep:∀b o,b≠x→s.heap.get? b=some o→h'.get? b=some o:=e3;have hx':∃o vs,h'.get? x=some o∧o.cls=.ref C∧o.dict=some s.heap.objs.size∧o.data=.fields vs∧(true=true→o.slots=#[]∧vs[1]?=some .none):=⟨_,vs,e1,rfl,rfl,rfl,fun _=>⟨rfl,h5⟩⟩;have hfree:H s.heap.objs.size=none:=I.hok.fresh (Nat.le_refl _);have neF:∀b o,s.heap.get? b=some o→b≠s.heap.objs.size:=fun b o q=>Nat.ne_of_lt (Heap.lt_size q)
 have neT:∀b u,H b=some u→b≠s.heap.objs.size:=fun b u q z=>by rw[z,hfree]at q;cases q
 have nx:∀b,H b=none→b≠x:=fun b q z=>by rw[z,e]at q;cases q
 have tr:∀b u,H b=some u→b≠x→(upd (upd H s.heap.objs.size (XD s.heap.objs.size [(f,y)])) x (XO true x C (some s.heap.objs.size))) b=some u:=fun b u q z=>by rw[g0 z,g0 (neT b u q)];exact q
 refine I.un (t':=s.toks+2) ⟨fun b o q q2 _ _=>keep b o (nx b q2) q,fun b o q q2 _ _=>⟨o.slots,keep b o (nx b q2) q⟩,fun b o q q2 _=>?_,fun b o q _=>?_,fun b xs q=>?_,fun b o u q=>?_,fun b ps q=>⟨#[],?_⟩⟩ ?_
 ·rw[g0 (nx b q2),g0 (neF b o q)];exact q2
 ·by_cases z:b=x
  ·subst z;exact ⟨_,e1⟩
  ·exact ⟨o,keep b o z q⟩
 ·exact tr b _ q (fun z=>by rw[z,e]at q;cases q)
 ·exact tr b _ q (fun z=>by rw[z,e]at q;cases q)
 ·rw[tr b _ q (fun z=>by rw[z,e]at q;cases q)];simp
 ·intro b u q;by_cases z:b=x
  ·subst z;rw[j3]at q;cases q;exact XO.ok hx'
  ·rw[g0 z]at q;by_cases z2:b=s.heap.objs.size
   ·subst z2;rw[j3]at q;cases q;refine XD.ok ⟨_,e2,fun g=>?_,fun g hg=>?_⟩
    ·have l:=x0s f g y [];rw[show putF f y []=[(f,y)]from rfl]at l;rw[l];by_cases w:g=f
     ·rw[if_pos w,if_pos w];exact ry
     ·rw[if_neg w,if_neg w];exact True.intro
    ·by_cases w:g=f
     ·rw[w];simp
     ·exact absurd (if_neg w) hg
   ·rw[g0 z2]at q;refine (I.hok b u q).stay (fun c' v' hc q'=>keep c' v' ?_ q') (fun b' q'=>tr b' _ q' (fun z=>by rw[z,e]at q';cases q')) (fun b' xs q'=>tr b' _ q' (fun z=>by rw[z,e]at q';cases q'));rcases hc with hc |hc
    ·rw[hc];exact z
    ·exact fun z=>by rw[z,e]at hc;cases hc
theorem XO.inst{fr:Bool}{od:Option Addr}(I:Inv X pins σ H s)(e:H x=some (XO fr x C od))(he:∀d,od=some d→∃o,s.heap.get? d=some o):∃ox odo,PySem.W.InstAt s.heap x ox C odo∧∀d,od=some d→∃o,odo=some o∧s.heap.get? d=some o:=by
 obtain ⟨o,vs,hx,h1,h2,h3,_⟩:=XO.get I.hok e;cases od with
 |none=>exact ⟨o,none,⟨hx,h1,by unfold PySem.W.notCls;rw[h3],by rw[h2];trivial⟩,fun d z=>by cases z⟩
 |some d=>
  obtain ⟨od,hd⟩:=he d rfl;exact ⟨o,some od,⟨hx,h1,by unfold PySem.W.notCls;rw[h3],by rw[h2];exact hd⟩,fun d' z=>by cases z;exact ⟨od,rfl,hd⟩⟩
end
noncomputable def sX0(K:PySem.W.Frag)(ta tv:TE)(f:Str):TS:=fun D σ H=>tv σ H fun y H1=>ta σ H1 fun x H2=>∃a C,x=.ref a∧H2 a=some (XO true a C none)∧XC K C∧NoAttr K C f∧
 ∀d,H2 d=none→d≠a→D.nx σ (upd (upd H2 d (XD d [(f,y)])) a (XO true a C (some d)))
section
variable{X:Cx}{o e value:Expr}{f:Str}{pos pos' tpos:Pos}{ta tv:TE}
theorem ps_x0(ha:PE X o ta)(hv:PE X value tv)(hs:swapsWith value (some (.Attribute o f pos')) pos.line X.env=pure false):PS X (.Assign [.Attribute o f pos'] value pos) (sX0 X.K ta tv f):=by
 intro pins s σ H D I h;refine plainObj_wpAny_Assign_Attribute (thn (hv pins s σ H _ I h) fun u s1 ⟨y,H1,I1,ry,q⟩=>thn (ha pins s1 σ H1 _ I1 q) fun ov s2 ⟨x,H2,I2,rx,a,C,ex,ea,c,n,q2⟩=>?_) hs;subst ex;obtain rfl:ov=Value.ref a:=rx;exact xset0 I2 ea c n ry fun d s3 hd hne I3=>⟨σ,_,I3,q2 d hd hne⟩
end
noncomputable def xcIn(K:PySem.W.Frag)(C:Addr):Bool:=match K.lookup C with
 |some ⟨.type "type",_,.cls cd,sl⟩=>(match cd.mro,sl.toList with
  | .ref C'::bm,[_,_,_,_,some (.builtin n),_]=>C'==C&&n=="ValueError.__new__"&&!cd.hasDel&&PySem.W.tailIn K PySem.W.veMro bm
  |_,_=>false)
 |_=>false
theorem c0g{K:PySem.W.Frag}{h:Heap}{C:Addr}(X:K.In h)(q:xcIn K C=true):∃nm qn N bs bm hdct sn sub ab col dd k0 k1 k2 k3 k5,
 h.get? C=some (excClassObj nm qn C N bs bm hdct sn sub ab col dd k0 k1 k2 k3 k5 "ValueError.__new__")∧OwnTail h PySem.W.veMro bm:=by
 unfold xcIn at q;split at q
 ·rename_i dd cd sl ho;split at q
  ·rename_i C' bm k0 k1 k2 k3 n k5 hm hs;simp only[Bool.and_eq_true,beq_iff_eq,Bool.not_eq_true']at q;obtain ⟨⟨⟨rfl,rfl⟩,hdel⟩,ht⟩:=q;obtain ⟨nm,bs,mro,ns,qn,hd,sn,sub,ab,col,del⟩:=cd;dsimp only at hm hdel;subst hm hdel;have hsl:sl=#[k0,k1,k2,k3,some (.builtin "ValueError.__new__"),k5]:=by
    obtain ⟨l⟩:=sl;simp only at hs;rw[hs]
   subst hsl;exact ⟨nm,qn,ns,bs,bm,hd,sn,sub,ab,col,dd,k0,k1,k2,k3,k5,X _ _ ho,PySem.W.tail_of_in X ht⟩
  ·cases q
 ·cases q
structure XMk(K:PySem.W.Frag)(C f:Addr):Prop where
 sh:xcIn K C=true
 init:PySem.W.findIn K (.ref C) "__init__"=some (some (.ref f))
 fn:PySem.W.isFn K (.ref f)=true
 kp:PySem.W.keepIn K (.ref C)=true
section
variable{X:Cx}{CX:CXT}{k:Nat}{f C:Addr}{fd:FuncData}{ps:List Str}{sp:Sp}{E:XK}{x m:Str}{p pos apos:Pos}{e o:Expr}{es:List Expr}{ta:TE}{t:TA}
theorem Inv.madeX{pins:List (Addr×Obj)}{σ:St}{H:Hp}{s:Shared}{us:List Value}(I:Inv X pins σ H s):
 Inv X pins σ (upd H (s.heap.objs.size+1) (XO true (s.heap.objs.size+1) C none)) {s with heap:=(s.heap.push (PySem.W.xTup us)).push (PySem.W.xObj C s.heap.objs.size)}:=by
 have I1:=I.kept (h':=s.heap.push (PySem.W.xTup us)) (t':=s.toks) fun b o e=>Heap.get?_push_of_some _ e
 have e2:((s.heap.push (PySem.W.xTup us)).push (PySem.W.xObj C s.heap.objs.size)).get? (s.heap.objs.size+1)=some (PySem.W.xObj C s.heap.objs.size):=by
  have:=Heap.get?_push_size (s.heap.push (PySem.W.xTup us)) (o:=PySem.W.xObj C s.heap.objs.size) rfl
  rwa[Heap.size_push]at this
 exact I1.laid (a:=s.heap.objs.size+1) (o:=XO true (s.heap.objs.size+1) C none) (t':=s.toks) (fun b u q=>Heap.get?_push_of_some _ q) (Nat.le_of_eq (Heap.size_push _ _)) (XO.ok ⟨_,_,e2,rfl,rfl,rfl,fun _=>⟨rfl,rfl⟩⟩)
theorem o0i{pins:List (Addr×Obj)}{σ:St}{H:Hp}{s:Shared}{Q:VK}{us:List Value}{vs:List V}(M:XMk X.K C f)(F:FnOk X.prog X.w X.K X.mg X.base CX k f fd ps sp)(hr:Room (k+1) X.A)(hb:Binds X.K fd ps [])
 (hx:c0k CX X E) (I:Inv X pins σ H s) (r:Vals vs us) (hz:vs.length≤sizeLine)
 (hq:sp (.ref (s.heap.objs.size+1)::vs) (upd H (s.heap.objs.size+1) (XO true (s.heap.objs.size+1) C none)) (fun v H2=>v=.non∧Q (.ref (s.heap.objs.size+1)) H2) E):
 wpAny (model X.prog X.w) X.A (call (.ref C) us) (fun u s'=>u=.ref (s.heap.objs.size+1)∧EP X pins σ Q u s') X.xe s:=by
 have I2:=Inv.madeX (C:=C) (us:=us) I;have r2:Vals (V.ref (s.heap.objs.size+1)::vs) (Value.ref (s.heap.objs.size+1)::us):=.cons rfl r;have hl:(Value.ref (s.heap.objs.size+1)::us++[]).length=ps.length:=by
  have e:=r2.length;rw[F.len _ _ _ _ hq]at e;rw[List.append_nil];exact e.symm
 obtain ⟨nm,qn,N,bs,bm,hdct,sn,sub,ab,col,dd,k0,k1,k2,k3,k5,hC,hT⟩:=c0g I.kIn M.sh;have hbd:=hb _ (Value.ref (s.heap.objs.size+1)::us) I2.kIn hl;rw[List.append_nil]at hbd;have hrun:=F.run _ X.stack _ _ ⟨Value.ref (s.heap.objs.size+1)::us,[]⟩ (Value.ref (s.heap.objs.size+1)::us) _ _ E (hr.make C us []) (I2.env0.make C us []) hbd r2 hq;obtain ⟨hh,g,d,tk,os⟩:=s;refine wpAny_call (PySem.W.type_call_x PySem.F.excBase_ValueError hT hC (PySem.W.looks_findIn I.kIn M.init) (fun self=>PySem.W.bind_fn I.kIn self (beq_iff_eq.mp M.fn)) (codeAny_mono hrun fun r s' hq'=>?_) (by rw[←r.length];exact hz));cases r with
 |error e=>exact hx pins σ _ _ e s' I2 hq'
 |ok fl=>
  cases fl with
  |ret u=>
   obtain ⟨v,H',I3,rv,ev,q3⟩:=I2.after hq';subst ev;exact ⟨rv,rfl,⟨V.ref (hh.objs.size+1),H',I3,rfl,q3⟩⟩
  |next=>exact False.elim hq'
  |brk=>exact False.elim hq'
  |cont=>exact False.elim hq'
structure XMk0(K:PySem.W.Frag)(C:Addr):Prop where
 ex:PySem.W.excIn K C PySem.W.veMro "ValueError.__new__"=true
 kp:PySem.W.keepIn K (.ref C)=true
theorem e0r{pins:List (Addr×Obj)}{σ:St}{H:Hp}{s:Shared}{Q:VK}{A:Around}{E:Value→Shared→Prop}(M:XMk0 X.K C)(I:Inv X pins σ H s)(h:Q (.ref (s.heap.objs.size+1)) (upd H (s.heap.objs.size+1) (XO true (s.heap.objs.size+1) C none))):
 wpAny (model X.prog X.w) A (call (.ref C) []) (EP X pins σ Q) E s:=by
 have q:=M.ex;unfold PySem.W.excIn at q;split at q
 ·rename_i dd cd sl ho;split at q
  ·rename_i C' bm k0 k1 k2 k3 n k5 hm hs;simp only[Bool.and_eq_true,beq_iff_eq,Bool.not_eq_true']at q;obtain ⟨⟨⟨⟨⟨rfl,rfl⟩,hdel⟩,ht⟩,hok⟩,hni⟩:=q;obtain ⟨nm,bs,mro,ns,qn,hd,sn,sub,ab,col,del⟩:=cd;dsimp only at hm hdel hok hni;subst hm hdel;have hsl:sl=#[k0,k1,k2,k3,some (.builtin "ValueError.__new__"),k5]:=by
    obtain ⟨l⟩:=sl;simp only at hs;rw[hs]
   subst hsl;obtain ⟨hh,g,d,tk,os⟩:=s;refine PySem.W.type_call_x0 PySem.F.excBase_ValueError (PySem.W.tail_of_in I.kIn ht) (I.kIn _ _ ho) (Heap.Ns.of_isNs (PySem.W.isNs_of_in I.kIn hok)) (PySem.W.nsMap_none_of_in I.kIn hok hni) (fun h' t2 kp hx=>?_);exact ⟨.ref (hh.objs.size+1),_,I.laidN (a:=hh.objs.size+1) (o:=XO true (hh.objs.size+1) C' none) (t':=tk) kp (Heap.get?_none_of_le (Nat.le_succ _)) (XO.ok ⟨_,_,hx,rfl,rfl,rfl,fun _=>⟨rfl,rfl⟩⟩),rfl,h⟩
  ·cases q
 ·cases q
end
end L2
namespace L2
open PySem PySem.Spec PyProof.Rows
open PySem.W (XC)
inductive TyX(K:PySem.W.Frag)(H:Hp):V→Value→Prop where
 |of {x:V} {t:Value} (h:TyOf K H x t):TyX K H x t
 |exc {fr:Bool} {a C d:Addr} {fs:List (Str×V)} (e:H a=some (XO fr a C (some d))) (ed:H d=some (XD d fs)) (c:XC K C):TyX K H (.ref a) (.ref C)
 |exc0 {fr:Bool} {a C:Addr} (e:H a=some (XO fr a C none)) (c:XC K C):TyX K H (.ref a) (.ref C)
section
variable{X:Cx}
noncomputable def InstB(K:PySem.W.Frag)(H:Hp)(t:Value)(c:V)(b:Bool):Prop:=
 (∃n,c=.ty n∧PySem.W.kitOne K t (.type n)=some b)∨(∃C,c=.ref C∧PySem.W.kitOne K t (.ref C)=some b)∨∃(a:Addr) (cs:List String),c=.ref a∧H a=some (.tup (cs.map V.ty))∧PySem.W.kitAny K t (cs.map Value.type)=some b
noncomputable def rInst(K:PySem.W.Frag):List V→Hp→VK→Prop:=fun vs H Q=>∃x c t b,vs=[x,c]∧TyX K H x t∧InstB K H t c b∧Q (.bl b) H
theorem c0f:∀{cs:List String} {us:List Value},Vals (cs.map V.ty) us→us=cs.map Value.type
 | [],_,.nil=>rfl
 |c::cs,_,.cons r t=>by
  have e:_=Value.type c:=r;rw[e,c0f t];rfl
theorem u5{pins:List (Addr×Obj)}{s:Shared}{σ:St}{H:Hp}{Q:VK}{c:V}{u cv t:Value}{b:Bool}{HH:Heap→Prop}(I:Inv X pins σ H s)(Z:PySem.W.KitX X.K u t HH)(p:HH s.heap)(rc:RelV c cv)(e:InstB X.K H t c b)
 (hx:u≠.builtin "__main__.__loader__#opaque") (q:Q (.bl b) H):wpAny (model X.prog X.w) X.A (call (.builtin "isinstance") [u,cv]) (EP X pins σ Q) X.xe s:=by
 have fin:∀tk,EP X pins σ Q (.bool b) {s with toks:=tk}:=fun tk=>⟨.bl b,H,I.tok tk,rfl,q⟩
 rcases e with ⟨n,rfl,e⟩|⟨C,rfl,e⟩|⟨a,cs,rfl,ha,e⟩
 ·cases rc;exact PySem.W.kia_one Z I.kIn p e hx fin
 ·cases rc;exact PySem.W.kia_one Z I.kIn p e hx fin
 ·cases rc;obtain ⟨z,its,r,o,ho,hc,⟨n,hd⟩,_⟩:=(show ObjOk X.prog X.w H s.heap a (.tup (cs.map V.ty))from I.hok a _ ha);obtain rfl:=c0f r;obtain ⟨oc,od,odt,osl⟩:=o;dsimp only at hc hd;subst hc hd;exact PySem.W.kia_tup Z I.kIn p ho e hx fin
theorem t0p:x0t X (.builtin "isinstance") (rInst X.K):=by
 intro pins s σ H xs us Q I rv h;obtain ⟨x,c,t,b,rfl,ty,e,q⟩:=h;obtain ⟨u,cv,rfl,rx,rc⟩:=Vals.two rv;cases ty with
 |exc ea ed c=>
  rename_i fr a C d fs;cases (show u=Value.ref a from rx);obtain ⟨mA,hn,_,_⟩:=XD.get I.hok ed;obtain ⟨od,hod,_⟩:=o0v hn;obtain ⟨ox,odo,J,k⟩:=XO.inst I ea fun d z=>by cases z;exact ⟨od,hod⟩
  exact u5 I (PySem.W.kitx_x c) J rc e (fun z=>nomatch z) q
 |exc0 ea c=>
  rename_i fr a C;cases (show u=Value.ref a from rx);obtain ⟨ox,odo,J,k⟩:=XO.inst I ea fun d z=>by cases z
  exact u5 I (PySem.W.kitx_x c) J rc e (fun z=>nomatch z) q
 |of ty=>
  cases ty with
  |non=>cases (show u=Value.none from rx);exact u5 I PySem.W.kitx_none True.intro rc e (fun z=>nomatch z) q
  |bl y=>cases (show u=Value.bool y from rx);exact u5 I PySem.W.kitx_bool True.intro rc e (fun z=>nomatch z) q
  |int i=>obtain ⟨t,z⟩:=(show ∃t,u=Value.int i t from rx);cases z;exact u5 I PySem.W.kitx_int True.intro rc e (fun z=>nomatch z) q
  |str y=>obtain ⟨t,z⟩:=(show ∃t,u=Value.str y t from rx);cases z;exact u5 I PySem.W.kitx_str True.intro rc e (fun z=>nomatch z) q
  |flt y=>obtain ⟨t,z⟩:=(show ∃t,u=Value.float y t from rx);cases z;exact u5 I PySem.W.kitx_float True.intro rc e (fun z=>nomatch z) q
  | @lst a xs ea=>
   cases (show u=Value.ref a from rx);obtain ⟨_,_,n,_,h1⟩:=(show ObjOk X.prog X.w H s.heap a (.lst xs)from I.hok a _ ea);exact u5 I PySem.W.kitx_list ⟨_,h1,rfl⟩ rc e (fun z=>nomatch z) q
  | @frz a ob xs ea=>
   cases (show u=Value.ref a from rx);obtain ⟨_,_,_,n,_,h1⟩:=(show ObjOk X.prog X.w H s.heap a (.frz ob (.lst xs))from I.hok a _ ea);exact u5 I PySem.W.kitx_list ⟨_,h1,rfl⟩ rc e (fun z=>nomatch z) q
  | @tup a xs ea=>
   cases (show u=Value.ref a from rx);obtain ⟨_,_,_,p⟩:=(show ObjOk X.prog X.w H s.heap a (.tup xs)from I.hok a _ ea);obtain ⟨o,h1,h2,_⟩:=p;exact u5 I PySem.W.kitx_tuple ⟨o,h1,h2⟩ rc e (fun z=>nomatch z) q
  | @dK a kvs ea=>
   cases (show u=Value.ref a from rx);obtain ⟨_,_,vs,_,p⟩:=(show ObjOk X.prog X.w H s.heap a (.dK kvs)from I.hok a _ ea);obtain ⟨o,es,ep,h1,h2,_⟩:=p;exact u5 I PySem.W.kitx_dict ⟨o,h1,h2.1⟩ rc e (fun z=>nomatch z) q
  | @dT a kvs ea=>
   cases (show u=Value.ref a from rx);obtain ⟨_,_,xs,_,o,es,ep,h1,h2,_⟩:=(show ObjOk X.prog X.w H s.heap a (.dT kvs)from I.hok a _ ea);exact u5 I PySem.W.kitx_dict ⟨o,h1,h2.1⟩ rc e (fun z=>nomatch z) q
  | @ins a C dx fs ea cl ha hn htk hm=>
   cases (show u=Value.ref a from rx);obtain ⟨mA,O,_⟩:=n0e I.hok ea;obtain ⟨od,J,_⟩:=O.look;exact u5 I (PySem.W.kitx_own (cl.get _) cl.hd ha hn htk hm) J rc e (fun z=>nomatch z) q
noncomputable def rAll(K:PySem.W.Frag):List V→Hp→VK→Prop:=fun vs H Q=>∃(a:Addr) (bs:List Bool),vs=[.ref a]∧SqL K H a (bs.map V.bl)∧Q (.bl (bs.all id)) H
theorem l0e:∀{bs:List Bool} {us:List Value},Vals (bs.map V.bl) us→PyProof.Rows.LSm.BoolsAre us bs
 | [],_,.nil=>.nil
 |b::bs,_,.cons r t=>by
  have e:_=Value.bool b:=r;subst e;exact .cons b (l0e t)
theorem e0q(hc:X.calm=true):x0t X (.builtin "all") (rAll X.K):=by
 intro pins s σ H xs us Q I rv h;obtain ⟨a,bs,rfl,hq,q⟩:=h;obtain ⟨u,rfl,ru⟩:=rv.one;cases (show u=Value.ref a from ru);obtain ⟨its,r,p,hz⟩:=I.list hq;have hl:=p.isList;have hb:=l0e r;have hlt:a<s.heap.objs.size:=by obtain ⟨_,e,_⟩:=hl;exact Heap.lt_size e
 refine call_all_walk (wpAny_pyIter_list hl ?_);refine ⟨s.heap.objs.size,[s.heap.objs.size,a],[s.heap.objs.size],its.toArray.size,_,_,fun i=>(bs[i]?).getD true,rfl,Walks.list (A:=X.A.in1) (I.ok.hd hc) _ a (Nat.ne_of_lt hlt) its.toArray,
  ⟨⟨_,Heap.get?_push_size _ rfl,rfl,rfl⟩,hl.push _⟩,fun i v s' Q' E' hP hQ=>?_,fun h' tk hk=>?_⟩
 ·obtain ⟨b,e,rfl⟩:=hb.get i v (by simpa using hP);simp only[e,Option.getD_some]at hQ;exact wpAny_truthy_bool hQ
 ·have e:((List.range its.toArray.size).all fun i=>(bs[i]?).getD true)=bs.all id:=by
   rw[List.size_toArray,hb.length];exact PyProof.Rows.LSm.range_all bs
  rw[e];exact ⟨.bl _,H,I.kept (PyProof.Rows.LSm.kept_iter hk),rfl,q⟩
end
end L2
namespace L2
open PySem PySem.Spec PyProof.Rows
theorem r0c{scope:Scope}{env:Env}(h:∀p∈scope.names,p.2=.free→∃c,env.cells.lookup p.1=some c):
 ∃cl,closureFor scope env=pure cl∧(∀y c,cl.lookup y=some c→env.cells.lookup y=some c)∧∀y,(y,NameKind.free)∈scope.names→∃c,cl.lookup y=some c:=by
 have key:∀(names:List (Str×NameKind)) (cs:List (Str×Addr)),(∀p∈names,p.2=.free→∃c,env.cells.lookup p.1=some c)→(∀y c,cs.lookup y=some c→env.cells.lookup y=some c)→
  ∃cl,(forIn names cs (fun (p:Str×NameKind) (r:List (Str×Addr))=>match p with |(name,kind)=>if (kind==NameKind.free)=true then cellOf env name >>= fun c=>pure (ForInStep.yield ((name,c)::r))else pure (ForInStep.yield r)):Sem (List (Str×Addr)))=pure cl∧
   (∀y c,cl.lookup y=some c→env.cells.lookup y=some c)∧(∀y,(y,NameKind.free)∈names→∃c,cl.lookup y=some c)∧∀y c,cs.lookup y=some c→∃c',cl.lookup y=some c':=by
  intro names
  induction names with
  |nil=>intro cs _ hc;exact ⟨cs,rfl,hc,(fun y hy=>by cases hy),fun y c e=>⟨c,e⟩⟩
  |cons p r ih=>
   intro cs hp hc;obtain ⟨pn,pk⟩:=p;rw[List.forIn_cons];dsimp only;by_cases hk:pk=.free
   ·obtain ⟨c,e⟩:=hp (pn,pk) List.mem_cons_self hk;have hco:cellOf env pn=pure c:=by
     unfold cellOf;dsimp only at e;rw[e]
    have hb:(pk==NameKind.free)=true:=by rw[hk];rfl
    obtain ⟨cl,h1,h2,h3,h4⟩:=ih ((pn,c)::cs) (fun q hq=>hp q (List.mem_cons_of_mem _ hq)) (fun y c' e'=>by
     rw[List.lookup_cons]at e';split at e'
     ·rename_i z;have:y=pn:=beq_iff_eq.mp z;subst this;cases e';exact e
     ·exact hc y c' e')
    refine ⟨cl,?_,h2,fun y hy=>?_,fun y c' e'=>?_⟩
    ·rw[if_pos hb,hco,pure_bind,pure_bind];exact h1
    ·rcases List.mem_cons.mp hy with z |z
     ·have:y=pn:=congrArg Prod.fst z;subst this;exact h4 _ c (by rw[List.lookup_cons];simp)
     ·exact h3 y z
    ·by_cases z:y=pn
     ·subst z;exact h4 _ c (by rw[List.lookup_cons];simp)
     ·exact h4 y c' (by rw[List.lookup_cons,beq_eq_false_iff_ne.mpr z];exact e')
   ·have hb:¬(pk==NameKind.free)=true:=by simpa using hk
    obtain ⟨cl,h1,h2,h3,h4⟩:=ih cs (fun q hq=>hp q (List.mem_cons_of_mem _ hq)) hc;refine ⟨cl,?_,h2,fun y hy=>?_,h4⟩
    ·rw[if_neg hb,pure_bind];exact h1
    ·rcases List.mem_cons.mp hy with z |z
     ·exact absurd (congrArg Prod.snd z).symm hk
     ·exact h3 y z
 obtain ⟨cl,h1,h2,h3,_⟩:=key scope.names [] h (fun y c e=>by cases e);refine ⟨cl,?_,h2,h3⟩;unfold closureFor;exact (bind_pure _).trans h1
theorem z0g{env:Env}:∀{names:List (Str×NameKind)} {x:Str} {k:NameKind},(names.map fun (n,k)=>if (k==NameKind.free&&env.scope.kind== .function&&env.kindOf n==some .cell)then (n,NameKind.cell)else (n,k)).lookup x=some k→
 k=.cell∨k=.free→(∀y∈names,y.2≠.cell)→(x,NameKind.free)∈names
 | [],_,_,h,_,_=>by simp at h
 |(n,k0)::r,x,k,h,hk,hc=>by
  have h:List.lookup x ((if (k0==NameKind.free&&env.scope.kind== .function&&env.kindOf n==some .cell)=true then (n,NameKind.cell)else (n,k0))::(r.map fun (n,k)=>if (k==NameKind.free&&env.scope.kind== .function&&env.kindOf n==some .cell)then (n,NameKind.cell)else (n,k)))=some k:=h;by_cases hx:x=n
  ·subst hx;by_cases hcnd:(k0==NameKind.free&&env.scope.kind== .function&&env.kindOf x==some .cell)=true
   ·have:k0=.free:=by
     rw[Bool.and_eq_true,Bool.and_eq_true]at hcnd;exact beq_iff_eq.mp hcnd.1.1
    rw[this];exact List.mem_cons_self
   ·rw[if_neg hcnd,List.lookup_cons,beq_self_eq_true]at h;have e:k0=k:=Option.some.inj h;subst e;rcases hk with e |e
    ·exact absurd e (hc (x,k0) List.mem_cons_self)
    ·rw[e];exact List.mem_cons_self
  ·refine List.mem_cons_of_mem _ (z0g (env:=env) (k:=k) ?_ hk fun y hy=>hc y (List.mem_cons_of_mem _ hy));have hb:(x==n)=false:=beq_eq_false_iff_ne.mpr hx;by_cases hcnd:(k0==NameKind.free&&env.scope.kind== .function&&env.kindOf n==some .cell)=true
   ·rw[if_pos hcnd,List.lookup_cons,hb]at h;exact h
   ·rw[if_neg hcnd,List.lookup_cons,hb]at h;exact h
structure CompOk(X:Cx)(x:Str)(js:List Nat)(scope:Scope):Prop where
 kind:scope.kind=.function
 cell:∀y∈scope.names,y.2≠.cell
 loc:∀y∈scope.names,y.2=.local→scope.names.lookup y.1=some .local
 xl:scope.names.lookup x=some .local
 free:∀y∈scope.names,y.2=.free→X.env.kindOf y.1=some .cell∨X.env.kindOf y.1=some .free
 caps:∀j∈js,scope.names.lookup (X.N.getD j x)=some .free
 nd:(x::js.map (fun j=>X.N.getD j x)).Nodup
section
variable{X:Cx}{pins:List (Addr×Obj)}{σ:St}{H:Hp}{s:Shared}
theorem o0h{scope:Scope}{env:Env}{y:Str}(h:scope.names.lookup y=some .free):(relabel scope env).names.lookup y=some .cell∨(relabel scope env).names.lookup y=some .free:=by
 unfold relabel;generalize scope.names=names at h;dsimp only
 induction names with
 |nil=>cases h
 |cons p r ih=>
  obtain ⟨n,k⟩:=p;rw[List.map_cons];dsimp only;by_cases hx:y=n
  ·subst hx;rw[List.lookup_cons,beq_self_eq_true]at h;have e:k=.free:=Option.some.inj h;subst e;by_cases hc:(NameKind.free==NameKind.free&&env.scope.kind== .function&&env.kindOf y==some .cell)=true
   ·rw[if_pos hc,List.lookup_cons,beq_self_eq_true];exact .inl rfl
   ·rw[if_neg hc,List.lookup_cons,beq_self_eq_true];exact .inr rfl
  ·have hb:(y==n)=false:=beq_eq_false_iff_ne.mpr hx;rw[List.lookup_cons,hb]at h;by_cases hc:(k==NameKind.free&&env.scope.kind== .function&&env.kindOf n==some .cell)=true
   ·rw[if_pos hc,List.lookup_cons,hb];exact ih h
   ·rw[if_neg hc,List.lookup_cons,hb];exact ih h
end
end L2
namespace L2
open PySem PySem.Spec PyProof.Rows
structure Loose(X:Cx)(pins:List (Addr×Obj))(H:Hp)(C:Addr):Prop where
 free:H C=none
 ne:C≠X.env.locals
 yng:X.s₀.heap.objs.size≤C
 cell:∀x c,X.env.cells.lookup x=some c→c≠C
 pin:∀p∈X.pn++pins,p.1≠C
section
variable{X:Cx}
end
end L2
namespace L2
open PySem PySem.Spec PyProof.Rows
open PySem.W (XC)
noncomputable def Fly(h:Heap)(x C:Addr)(od T:Option Addr):Prop:=∃o vs,h.get? x=some o∧o.cls=.ref C∧o.dict=od∧o.data=.fields vs∧1<vs.size∧
 match T with
 |none=>vs[1]?=some .none
 |some t=>vs[1]?=some (.ref t)∧t≠x∧∃ot ts,h.get? t=some ot∧ot.data=.fields ts∧3<ts.size
theorem r0p(o:Obj)(f):(o.mapFields f).dict=o.dict:=by
 obtain ⟨c,d,dt,sl⟩:=o;cases dt<;>rfl
section
variable{M:Model}{A:Around}{E:Value→Shared→Prop}{s:Shared}
theorem e0p{base:Heap}{env:Env}{outer:List Env}{L x:Addr}{oe:Obj}{vs:Array Value}{head:Value}{hadNext:Bool}{Q:Unit→Shared→Prop}
 (hfr:A.frames=some (env::outer)) (hl:s.heap.FunFrames base (env::outer)) (hf:env.frame=some L) (he:s.heap.get? x=some oe) (hd:oe.data=.fields vs) (hsz:1<vs.size)
 (h:∀h' T,(∀b o,b≠x→b∉frs (env::outer)→s.heap.get? b=some o→h'.get? b=some o)→(∀b o,s.heap.get? b=some o→b≠x→∃sl,h'.get? b=some {o with slots:=sl})→
  h'.get? x=some (oe.mapFields (·.setIfInBounds 1 (.ref T)))→s.heap.objs.size≤T→(∃ot ts,h'.get? T=some ot∧ot.data=.fields ts∧3<ts.size)→Q () {s with heap:=h'}):
 wpAny M A (do let a←frameOf env;let pl←entryPlaceOf L hadNext;let b←EntryCells.newEntry head a .none (rawInt L) .none pl;setField (.ref x) 1 b) Q E s:=by
 have hene:x∉(env::outer).filterMap (·.frame):=fun hm=>by
  obtain ⟨_,o,ho,hnf⟩:=hl.mem hm;rw[he]at ho;injection ho with ho
  subst ho;exact hnf vs hd
 refine wpAny_bind (wpAny_frameOf_fun hfr hl hf fun h₁ hs₁=>?_);refine wpAny_bind (wpAny_entryPlaceOf fun pl hpl=>?_);unfold EntryCells.newEntry newFields;refine wpAny_bind (wpAny_newObj_type ?_ (hpl.sizeOk5 _ _ _ _ _));have he₁:h₁.get? x=some oe:=(hs₁.2.1 x hene).trans he;generalize hO:({cls:=.type "traceback",dict:=none,data:=.fields ([head,.ref L,.none,rawInt L,.none]++(if pl.isEmpty then List.replicate 6 Value.none else pl)).toArray}:Obj)=ot;have hod:ot.data=.fields ([head,.ref L,.none,rawInt L,.none]++(if pl.isEmpty then List.replicate 6 Value.none else pl)).toArray:=by rw[←hO]
 have he₂:=Heap.get?_push_of_some (h:=h₁) ot he₁;refine wpAny_setField he₂ hd hsz ?_;have hTe:h₁.objs.size≠x:=Nat.ne_of_gt (Heap.lt_size he₁);have hd₃:=Obj.data_mapFields hd (·.setIfInBounds 1 (Value.ref h₁.objs.size));have hfree:ot.isFreed=false:=Obj.isFreed_of_fields hod;refine h _ h₁.objs.size (fun b o hbe hbf hb=>?_) (fun b o hb hbe=>?_) (Heap.get?_update_self _ he₂ (Obj.isFreed_of_fields hd₃)) (by rw[hs₁.1];exact Nat.le_refl _) ⟨ot,_,?_,hod,?_⟩
 ·rw[Heap.get?_update_other _ _ (Ne.symm hbe)];exact Heap.get?_push_of_some _ ((hs₁.2.1 b hbf).trans hb)
 ·obtain ⟨sl,e⟩:=hs₁.2.2 b o hb;exact ⟨sl,by rw[Heap.get?_update_other _ _ (Ne.symm hbe)];exact Heap.get?_push_of_some _ e⟩
 ·rw[Heap.get?_update_other _ _ (Ne.symm hTe)];exact Heap.get?_push_size h₁ hfree
 ·simp only[List.size_toArray,List.length_append,List.length_cons,List.length_nil];omega
end
noncomputable def Top(X:Cx):Prop:=X.stack=X.env::X.outer∧X.env.frame=some X.env.locals
section
variable{X:Cx}{pins:List (Addr×Obj)}{σ:St}{H:Hp}{s:Shared}{A:Around}{E:Value→Shared→Prop}{x C:Addr}{od T:Option Addr}
theorem Inv.stir{h':Heap}{ch:List Addr}(I:Inv X pins σ H s)(hch:∀b∈ch,Loose X pins H b)(tp:Top X)
 (keep:∀b o,b∉ch→b∉frs X.stack→s.heap.get? b=some o→h'.get? b=some o) (slot:∀b o,b∉ch→s.heap.get? b=some o→∃sl,h'.get? b=some {o with slots:=sl})
 (nx:∀b∈ch,∃o,h'.get? b=some o):Inv X pins σ H {s with heap:=h'}:=by
 have mem:∀b,b≠X.env.locals→b∉X.fs→b∉frs X.stack:=fun b h1 h2 h3=>by
  rcases List.mem_cons.mp (I.stkSub b h3)with z |z
  ·exact h1 z
  ·exact h2 z
 refine I.step (g':=s.gens) (d':=s.drawn) (t':=s.toks) (ch:=ch) (fun b hb=>⟨.inr (hch b hb).yng,(hch b hb).ne,(hch b hb).cell,(hch b hb).pin⟩) (fun b o h1 h2 h3 e _=>keep b o h3 (mem b h1 h2) e) (fun b o _ _ h3 e _=>slot b o h3 e) (fun b o _ _ n=>n)
  (fun b o h3 e=>by obtain ⟨sl,q⟩:=slot b o h3 e;exact ⟨_,q⟩) (fun _ _ e=>e) (fun _ _ _ e=>e) (fun b ps e=>⟨#[],by rw[e];simp⟩) (fun m hm=>?_) (fun b u e=>?_) I.bare
 ·obtain ⟨o,es,ep,ho,r⟩:=hm;obtain ⟨sl,q⟩:=slot _ o (fun z=>(hch _ z).ne rfl) ho;exact ⟨_,es,ep,q,r⟩
 ·have nch:∀c v,H c=some v→c∉ch:=fun c v q z=>by rw[(hch c z).free]at q;cases q
  have nfr:∀c v,H c=some v→c∉frs X.stack:=fun c v q z=>by rw[I.stkFree c z]at q;cases q
  refine (I.hok b u e).stay (fun c v hc q=>?_) (fun _ q=>q) fun _ _ q=>q
  rcases hc with z |z
  ·subst z;exact keep c v (nch c _ e) (nfr c _ e) q
  ·exact keep c v (nch c _ z) (nfr c _ z) q
theorem Inv.loose_new(I:Inv X pins σ H s){t:Addr}(h:s.heap.objs.size≤t):Loose X pins H t:=
 ⟨I.hok.fresh h,Nat.ne_of_gt (Nat.lt_of_lt_of_le I.lt h),Nat.le_trans I.sz h,fun y c e=>by obtain ⟨v,z⟩:=I.cell y c e;exact Nat.ne_of_lt (Nat.lt_of_lt_of_le z.lt h),fun p hp=>Nat.ne_of_lt (Nat.lt_of_lt_of_le (Heap.lt_size (I.pin p hp).1) h)⟩
theorem l0d{M:Model}{Q:Unit→Shared→Prop}{head:Value}{hadNext:Bool}(I:Inv X pins σ H s)(tp:Top X)(hA:A.frames=some X.stack)(f:Fly s.heap x C od T)(lx:Loose X pins H x)
 (h:∀s' t,Inv X pins σ H s'→Fly s'.heap x C od (some t)→Loose X pins H t→Q () s'):
 wpAny M A (do let a←frameOf X.env;let pl←entryPlaceOf X.env.locals hadNext;let b←EntryCells.newEntry head a .none (rawInt X.env.locals) .none pl;setField (.ref x) 1 b) Q E s:=by
 obtain ⟨t1,tf⟩:=id tp;rw[t1]at hA;have hlF:s.heap.FunFrames X.base (X.env::X.outer):=t1▸I.stack;obtain ⟨o,vs,hx,hc,hd,hdat,hsz,_⟩:=f;refine e0p hA hlF tf hx hdat hsz fun h' t k1 k2 k3 k4 ⟨ot,ts,k5,k6,k7⟩=>h _ t ?_ ?_ (I.loose_new k4)
 ·refine I.stir (ch:=[x]) (fun b hb=>by rw[List.mem_singleton.mp hb];exact lx) tp (fun b o hb hf e=>k1 b o (fun z=>hb (by simp[z])) (by rw[←t1];exact hf) e) (fun b o hb e=>k2 b o e fun z=>hb (by simp[z])) (fun b hb=>by rw[List.mem_singleton.mp hb];exact ⟨_,k3⟩)
 ·have hne:t≠x:=Nat.ne_of_gt (Nat.lt_of_lt_of_le (Heap.lt_size hx) k4);refine ⟨_,_,k3,(Obj.cls_mapFields _ _).trans hc,(r0p _ _).trans hd,Obj.data_mapFields hdat _,by simpa using hsz,by simp[hsz],hne,ot,ts,k5,k6,k7⟩
theorem a0w{M:Model}{Q:Unit→Shared→Prop}(I:Inv X pins σ H s)(tp:Top X)(hA:A.frames=some X.stack)(f:Fly s.heap x C od T)(lx:Loose X pins H x)(lt:∀t,T=some t→Loose X pins H t)
 (h:∀s' t,Inv X pins σ H s'→Fly s'.heap x C od (some t)→Loose X pins H t→Q () s'):wpAny M A (noteFrame (.ref x) X.env) Q E s:=by
 obtain ⟨o,vs,hx,hc,hd,hdat,hsz,hT⟩:=id f;unfold noteFrame;simp only[tp.2];cases T with
 |none=>
  refine wpAny_bind (wpAny_field hx hdat hT ?_);rw[if_neg (by decide)];exact l0d I tp hA f lx h
 |some t=>
  obtain ⟨h1,hne,ot,ts,ht,htd,hts⟩:=hT;have lt:=lt t rfl;refine wpAny_bind (wpAny_field hx hdat h1 ?_);rw[if_pos (show (Value.ref t !=Value.none)=true from by simp)];have h3:ts[3]?=some ts[3]:=by simp[hts]
  refine wpAny_bind (wpAny_field ht htd h3 ?_);by_cases q:(ts[3]==rawInt X.env.locals)=true
  ·rw[if_pos q];exact wpAny_pure (h s t I f lt)
  ·rw[if_neg q];refine wpAny_bind (wpAny_setField ht htd hts ?_);have other:∀b,b≠t→(s.heap.update t (Obj.mapFields (·.setIfInBounds 3 Value.none))).get? b=s.heap.get? b:=fun b hb=>Heap.get?_update_other _ _ (Ne.symm hb)
   have ht':=Heap.get?_update_self (Obj.mapFields (·.setIfInBounds 3 Value.none)) ht (Obj.isFreed_of_fields (Obj.data_mapFields htd _));have I1:Inv X pins σ H {s with heap:=s.heap.update t (Obj.mapFields (·.setIfInBounds 3 Value.none))}:=
    I.stir (ch:=[t]) (fun b hb=>by rw[List.mem_singleton.mp hb];exact lt) tp (fun b o hb hf e=>(other b fun z=>hb (by simp[z])).trans e) (fun b o hb e=>⟨o.slots,(other b fun z=>hb (by simp[z])).trans e⟩) (fun b hb=>by rw[List.mem_singleton.mp hb];exact ⟨_,ht'⟩)
   exact l0d (T:=some t) I1 tp hA ⟨o,vs,(other x (Ne.symm hne)).trans hx,hc,hd,hdat,hsz,h1,hne,_,_,ht',Obj.data_mapFields htd _,by simpa using hts⟩ lx h
theorem h0s{M:Model}{fr:Option Addr}{Q:Unit→Shared→Prop}(I:Inv X pins σ H s)(tp:Top X)(f:Fly s.heap x C od T)(lt:∀t,T=some t→Loose X pins H t)
 (h:∀s',Inv X pins σ H s'→Fly s'.heap x C od T→Q () s'):wpAny M A (setFlight (.ref x) fr) Q E s:=by
 obtain ⟨o,vs,hx,hc,hd,hdat,hsz,hT⟩:=id f;unfold setFlight;cases T with
 |none=>
  refine wpAny_bind (wpAny_field hx hdat hT ?_);rw[if_neg (by decide)];exact wpAny_pure (h s I f)
 |some t=>
  obtain ⟨h1,hne,ot,ts,ht,htd,hts⟩:=hT;have lt:=lt t rfl;refine wpAny_bind (wpAny_field hx hdat h1 ?_);rw[if_pos (show (Value.ref t !=Value.none)=true from by simp)];refine wpAny_setField ht htd hts (h _ ?_ ?_)
  ·have other:∀b,b≠t→(s.heap.update t (Obj.mapFields (·.setIfInBounds 3 (fr.elim Value.none fun f=>rawInt f)))).get? b=s.heap.get? b:=fun b hb=>Heap.get?_update_other _ _ (Ne.symm hb)
   have ht':=Heap.get?_update_self (Obj.mapFields (·.setIfInBounds 3 (fr.elim Value.none fun f=>rawInt f))) ht (Obj.isFreed_of_fields (Obj.data_mapFields htd _));exact I.stir (ch:=[t]) (fun b hb=>by rw[List.mem_singleton.mp hb];exact lt) tp (fun b o hb hf e=>(other b fun z=>hb (by simp[z])).trans e) (fun b o hb e=>⟨o.slots,(other b fun z=>hb (by simp[z])).trans e⟩) (fun b hb=>by rw[List.mem_singleton.mp hb];exact ⟨_,ht'⟩)
  ·have ht':=Heap.get?_update_self (Obj.mapFields (·.setIfInBounds 3 (fr.elim Value.none fun f=>rawInt f))) ht (Obj.isFreed_of_fields (Obj.data_mapFields htd _));exact ⟨o,vs,(Heap.get?_update_other _ _ hne).trans hx,hc,hd,hdat,hsz,h1,hne,_,_,ht',Obj.data_mapFields htd _,by simpa using hts⟩
end
end L2
namespace L2
open PySem PySem.Spec PyProof.Rows
open PySem.W (XC)
noncomputable abbrev XW:=Addr→Option Addr→St→Hp→Prop
noncomputable def FlyIn(X:Cx)(pins:List (Addr×Obj))(W:XW)(e:Value)(s:Shared):Prop:=
 ∃x C od T σ H,e=.ref x∧Inv X pins σ H s∧Fly s.heap x C od T∧Loose X pins H x∧(∀t,T=some t→Loose X pins H t)∧W C od σ H
noncomputable def w0y(X:Cx)(W:XW):Prop:=∀pins e s,FlyIn X pins W e s→X.xe e s
noncomputable def CX1(P:Program)(w:World):CXT:=fun outer H s E e s'=>
 ∃x C od T H',e=.ref x∧s'.os=s.os∧AllBare s'.gens∧Un (frs outer) [] H H' s.heap s'.heap∧HOk P w H' s'.heap∧Fly s'.heap x C od T∧H' x=none∧s.heap.objs.size≤x∧(∀t,T=some t→H' t=none∧s.heap.objs.size≤t)∧E (.ref C) od H'
section
variable{X:Cx}{pins:List (Addr×Obj)}{σ:St}{H:Hp}{s:Shared}{A:Around}{E:Value→Shared→Prop}
theorem l0c{W:XW}{e:Value}{s':Shared}(I:Inv X pins σ H s)(h:CX1 X.prog X.w X.stack H s (fun Cv od H'=>∃C,Cv=.ref C∧W C od σ H') e s'):FlyIn X pins W e s':=by
 obtain ⟨x,C,od,T,H',rfl,os,bare,un,hok,f,hx,hy,ht,C',ec,q⟩:=h;cases ec;have I':Inv X pins σ H' s':=I.call' (ch:=[]) os un hok bare fun b z=>by cases z
 have ls:∀t,H' t=none→s.heap.objs.size≤t→Loose X pins H' t:=fun t h0 hz=>by
  have l:=I.loose_new hz;exact ⟨h0,l.ne,l.yng,l.cell,l.pin⟩
 exact ⟨x,C,od,T,σ,H',rfl,I',f,ls x hx hy,fun t e=>ls t (ht t e).1 (ht t e).2,q⟩
noncomputable def h0r(sp:Sp)(W:XW)(t:TA):TE:=fun σ H Q=>t σ H fun vs H1=>sp vs H1 Q fun Cv od H'=>∃C,Cv=.ref C∧W C od σ H'
theorem a0v{k:Nat}{f:Addr}{fd:FuncData}{ps:List Str}{sp:Sp}{W:XW}{Q:VK}{us:List Value}{vs:List V}(F:FnOk X.prog X.w X.K X.mg X.base (CX1 X.prog X.w) k f fd ps sp)(hr:Room k X.A)(hb:Binds X.K fd ps [])(hf:w0y X W)
 (I:Inv X pins σ H s) (r:Vals vs us) (h:sp vs H Q fun Cv od H'=>∃C,Cv=.ref C∧W C od σ H'):wpAny (model X.prog X.w) X.A (call (.ref f) us) (EP X pins σ Q) X.xe s:=by
 have hl:(us++[]).length=ps.length:=by rw[List.append_nil,← r.length];exact F.len _ _ _ _ h
 have hbd:=hb s us I.kIn hl;rw[List.append_nil]at hbd;refine wpAny_call (codeAny_mono (F.run X.A X.stack s H ⟨us,[]⟩ us vs Q _ hr I.env0 hbd r h) fun r s' hq=>?_);cases r with
 |error e=>exact hf pins e s' (l0c I hq)
 |ok fl=>
  cases fl with
  |ret u=>exact I.after hq
  |next=>exact False.elim hq
  |brk=>exact False.elim hq
  |cont=>exact False.elim hq
theorem e0o{k:Nat}{f:Addr}{fd:FuncData}{ps:List Str}{sp:Sp}{W:XW}{x:Str}{p pos:Pos}{e:Expr}{es:List Expr}{t:TA}(F:FnOk X.prog X.w X.K X.mg X.base (CX1 X.prog X.w) k f fd ps sp)(hr:Room k X.A)(hg:Gl X x)(hm:X.mg x=some (.ref f))
 (hk:PySem.W.keepIn X.K (.ref f)=true) (hb:Binds X.K fd ps []) (hf:w0y X W)
 (ha:PA X (e::es) t) (hdb:(x==("__debug__":Str))=false:=by decide) (he:starEach (e::es) X.env=(false,eval e X.env)::starEach es X.env:=by rfl) (hpl:(backTo pos (starEach es X.env)).any (·.1)=false:=by rfl):
 PE X (.Call (.Name x p) (e::es) [] pos) (h0r sp W t):=by
 intro pins s σ H Q I h;refine wpAny_Call_Name_kw (t0x I hg hm ?_ hdb);refine PySem.W.callWith_K (h₀:=X.base) I.ok.mod.kin hk (thn (ha pos pins s σ H _ I h) fun us s1 ⟨vs,H1,I1,r,q⟩=>⟨I1.kIn,?_⟩) he hpl;exact a0v F hr hb hf I1 r q
noncomputable def tMakeX(C:Addr)(sp:Sp)(W:XW)(t:TA):TE:=fun σ H Q=>t σ H fun vs H1=>∀x dx,H1 x=none→H1 dx=none→dx≠x→
 sp (.ref x::vs) (upd (upd H1 dx (.own x)) x (.ins C dx [])) (fun v H2=>v=.non∧Q (.ref x) H2) fun Cv od H'=>∃C,Cv=.ref C∧W C od σ H'
theorem e0n{k:Nat}{f C:Addr}{fd:FuncData}{ps:List Str}{sp:Sp}{W:XW}{x:Str}{p pos:Pos}{e:Expr}{es:List Expr}{t:TA}(M:Mk X.K C f)(F:FnOk X.prog X.w X.K X.mg X.base (CX1 X.prog X.w) k f fd ps sp)(hr:Room (k+1) X.A)(hg:Gl X x)
 (hm:X.mg x=some (.ref C)) (hb:Binds X.K fd ps []) (hf:w0y X W)
 (ha:PA X (e::es) t) (hdb:(x==("__debug__":Str))=false:=by decide) (he:starEach (e::es) X.env=(false,eval e X.env)::starEach es X.env:=by rfl) (hpl:(backTo pos (starEach es X.env)).any (·.1)=false:=by rfl):
 PE X (.Call (.Name x p) (e::es) [] pos) (tMakeX C sp W t):=by
 intro pins s σ H Q I h;refine wpAny_Call_Name_kw (t0x I hg hm ?_ hdb);refine PySem.W.callWith_K (h₀:=X.base) I.ok.mod.kin M.kp (thn (ha pos pins s σ H _ I h) fun us s1 ⟨vs,H1,I1,r,q⟩=>⟨I1.kIn,?_⟩) he hpl;have hq:=q (s1.heap.objs.size+1) s1.heap.objs.size (I1.hok.fresh (Nat.le_succ _)) (I1.hok.fresh (Nat.le_refl _)) (Nat.ne_of_lt (Nat.lt_succ_self _));have I2:=Inv.made (C:=C) I1;have r2:Vals (V.ref (s1.heap.objs.size+1)::vs) (Value.ref (s1.heap.objs.size+1)::us):=.cons rfl r;have hl:(Value.ref (s1.heap.objs.size+1)::us++[]).length=ps.length:=by
  have e:=r2.length;rw[F.len _ _ _ _ hq]at e;rw[List.append_nil];exact e.symm
 have hbd:=hb _ (Value.ref (s1.heap.objs.size+1)::us) I2.kIn hl;rw[List.append_nil]at hbd;refine wpAny_call (e0x (f:=f) I1.kIn M.makes M.init (beq_iff_eq.mp M.fn) (codeAny_mono (F.run _ X.stack _ _ ⟨Value.ref (s1.heap.objs.size+1)::us,[]⟩ (Value.ref (s1.heap.objs.size+1)::us) _ _ _ (hr.make C us [])
  (I2.env0.make C us []) hbd r2 hq) fun r s' hq'=>?_))
 cases r with
 |error e=>exact hf pins e s' (l0c I2 hq')
 |ok fl=>
  cases fl with
  |ret u=>
   obtain ⟨v,H',I3,rv,ev,q3⟩:=I2.after hq';subst ev;exact ⟨rv,⟨V.ref (s1.heap.objs.size+1),H',I3,rfl,q3⟩⟩
  |next=>exact False.elim hq'
  |brk=>exact False.elim hq'
  |cont=>exact False.elim hq'
end
section
variable{P:Program}{w:World}{K:PySem.W.Frag}{mg:Str→Option Value}{base:Heap}
noncomputable abbrev cxX(P:Program)(w:World)(K:PySem.W.Frag)(mg:Str→Option Value)(base:Heap)(N:List Str)(qual:Str)(scope:Scope)(f:Addr)(cd:Value)(A:Around)(outer:List Env)(s:Shared)(H:Hp)(E:XK):Cx:=
 cxOf (CX1 P w) P w K mg base N qual scope f cd A outer s H E
theorem r0{N:List Str}{qual:Str}{scope:Scope}{f:Addr}{cd:Value}{A:Around}{outer:List Env}{s:Shared}{H:Hp}{E:XK}:w0y (cxX P w K mg base N qual scope f cd A outer s H E) fun C od _ H'=>E (.ref C) od H':=by
 intro pins e s' h;obtain ⟨x,C,od,T,σ,H',rfl,I,ff,lx,lt,q⟩:=h;have tp:Top (cxX P w K mg base N qual scope f cd A outer s H E):=⟨rfl,rfl⟩;show wpAny _ _ (leaving _ (.ref x)) _ _ _;unfold leaving;refine wpAny_bind (a0w I tp I.ok.frames ff lx lt fun s1 t I1 f1 l1=>h0s I1 tp f1 (fun t' e=>by cases e;exact l1) fun s2 I2 f2=>?_);exact ⟨x,C,od,some t,H',rfl,I2.os,I2.bare,I2.base,I2.hok,f2,lx.free,lx.yng,fun t' e=>by cases e;exact ⟨l1.free,l1.yng⟩,q⟩
theorem Fun.okX{x qual:Str}{st:Stmt}{f:Addr}{fd:FuncData}{N ps:List Str}{k:Nat}{sp:Sp}(F:Fun K x qual st f fd)(S:FnScope N ps (defScope st))(len:∀vs H Q E,sp vs H Q E→vs.length=ps.length)
 (hbody:∀(cdv:Value) (A:Around) (outer:List Env) (s:Shared) (H:Hp) (vs:List V) (Q:VK) (E:XK),Room k (A.deeper (envOfC qual (defScope st) s.heap.objs.size f cdv))→sp vs H Q E→
  ∃t,PSs (cxX P w K mg base N qual (defScope st) f cdv A outer s H E) (defBody st) t∧t {nx:=fun _ H'=>Q .non H',rt:=Q} (start N vs) H):FnOk P w K mg base (CX1 P w) (k+1) f fd ps sp:=by
 obtain ⟨oc,od,kV,doc,pm,an,cdv,ct,osl,rfl,lk,hcd⟩:=F.ex;exact fn_of lk hcd S len fun A outer s H vs Q E hr hsp=>hbody cdv A outer s H vs Q E hr hsp
end
section
variable{X:Cx}{pins:List (Addr×Obj)}{σ:St}{H:Hp}{s:Shared}
noncomputable def drop(H:Hp)(x:Addr):Hp:=fun b=>if b=x then none else H b
theorem z0f{H:Hp}{x b:Addr}(h:b≠x):drop H x b=H b:=if_neg h
theorem z0e{H:Hp}{x:Addr}:drop H x x=none:=if_pos rfl
theorem Inv.drop{φ:Heap→Prop}{x:Addr}(I:Inv X pins σ H s)(e:H x=some (.ext φ)):Inv X pins σ (drop H x) s:=by
 have ne:∀b u,H b=some u→(∀ ψ,u≠.ext ψ)→b≠x:=fun b u q n z=>by rw[z,e]at q;exact n φ (Option.some.inj q).symm
 have nn:∀b,H b=none→L2.drop H x b=none:=fun b q=>by
  by_cases z:b=x
  ·rw[z];exact z0e
  ·rw[z0f z];exact q
 have hown:∀b a,H b=some (.own a)→L2.drop H x b=some (.own a):=fun b a q=>by rw[z0f (ne b _ q fun ψ z=>by cases z)];exact q
 have htup:∀b xs,H b=some (.tup xs)→L2.drop H x b=some (.tup xs):=fun b xs q=>by rw[z0f (ne b _ q fun ψ z=>by cases z)];exact q
 refine ⟨I.ok,I.os,I.bare,⟨I.base.keep,I.base.slot,fun b o q n hx=>nn b (I.base.free b o q n hx),I.base.there,fun b xs q=>htup b xs (I.base.tups b xs q),fun b o u q=>?_,fun b ps q=>?_⟩,I.loc,I.cell,nn _ I.free,fun y c q=>nn c (I.freeC y c q),fun p hp=>?_,fun b u q=>?_,I.len⟩
 ·have z:=I.base.frzs b o u q;rw[z0f (ne b _ z fun ψ z=>by cases z)];exact z
 ·obtain ⟨m,z⟩:=I.base.tbls b ps q;exact ⟨m,by rw[z0f (ne b _ z fun ψ z=>by cases z)];exact z⟩
 ·obtain ⟨a,b,c⟩:=I.pin p hp;exact ⟨a,nn _ b,c⟩
 ·have hb:b≠x:=fun z=>by rw[z,z0e]at q;cases q
  rw[z0f hb]at q;exact (I.hok b u q).stay (fun _ _ _ z=>z) (fun c z=>hown c _ z) fun c xs z=>htup c xs z
theorem o0g{M:Model}{A:Around}{E:Value→Shared→Prop}{env:Env}{xt:Sem Value}{Q:Flow→Shared→Prop}{C:Addr}{s:Shared}(hh:A.handled=none)
 (h:wpAny M A xt (fun v s1=>∃e od vs nm qn N bs bm hdct sn sub ab col dd k0 k1 k2 k3 k5 nid,v=.ref e∧s1.heap.get? C=some (excClassObj nm qn C N bs bm hdct sn sub ab col dd k0 k1 k2 k3 k5 nid)∧bm.contains (.type "BaseException")=true∧
  s1.heap.get? e=some ⟨.ref C,od,.fields vs,#[]⟩∧vs[1]?=some .none∧E (.ref e) s1) E s):
 wpAny M A (raiseStmt env (some xt) none) Q E s:=by
 unfold raiseStmt;refine wpAny_bind (wpAny_mono h (fun v s1 h1=>?_) fun _ _ x=>x);obtain ⟨e,od,vs,nm,qn,N,bs,bm,hdct,sn,sub,ab,col,dd,k0,k1,k2,k3,k5,nid,rfl,hC,hb,he,hv,hE⟩:=h1;have hcB:(Value.ref C::bm).contains (.type "BaseException")=true:=by rw[List.contains_cons,hb,Bool.or_true]
 obtain ⟨hp,g,d,tk,os⟩:=s1
 repeat (first |with_reducible refine wpAny_loadPart_at he ?_ |with_reducible refine wpAny_loadPart_at hC ?_ |(with_reducible refine wpAny_isSubtype_exc hC ?_;rw[hcB])|wp_step)
 rw[hv];refine wpAny_pure ?_;rw[if_neg (by decide)];exact wpAny_pure (wpAny_raiseNew_none hh hE)
theorem l0b{M:Model}{C x:Addr}{od:Option Addr}{W:XW}(hf:w0y X W)(I:Inv X pins σ H s)(e:H x=some (XO true x C od))(hK:xcIn X.K C=true)(hy:X.s₀.heap.objs.size≤x)(q:W C od σ (L2.drop H x)):
 ∃e' od' vs nm qn N bs bm hdct sn sub ab col dd k0 k1 k2 k3 k5 nid,Value.ref x=.ref e'∧s.heap.get? C=some (excClassObj nm qn C N bs bm hdct sn sub ab col dd k0 k1 k2 k3 k5 nid)∧bm.contains (.type "BaseException")=true∧
  s.heap.get? e'=some ⟨.ref C,od',.fields vs,#[]⟩∧vs[1]?=some .none∧X.xe (.ref e') s:=by
 obtain ⟨o,vs,hx,h1,h2,h3,h40⟩:=XO.get I.hok e;obtain ⟨h4,h5⟩:=h40 rfl;clear h40;obtain ⟨nm,qn,N,bs,bm,hdct,sn,sub,ab,col,dd,k0,k1,k2,k3,k5,hC,hT⟩:=c0g I.kIn hK;have I':=Inv.drop I e;obtain ⟨oc,odd,odt,osl⟩:=o;dsimp only at h1 h2 h3 h4;subst h1 h2 h3 h4;refine ⟨x,odd,vs,nm,qn,N,bs,bm,hdct,sn,sub,ab,col,dd,k0,k1,k2,k3,k5,_,rfl,hC,hT.hasType rfl,hx,h5,?_⟩;refine hf pins _ _ ⟨x,C,odd,none,σ,_,rfl,I',⟨_,vs,hx,rfl,rfl,rfl,(Array.getElem?_eq_some_iff.mp h5).1,h5⟩,⟨z0e,fun z=>?_,hy,fun y c q z=>?_,fun p hp z=>?_⟩,(fun t z=>by cases z),q⟩
 ·have:=I.free;rw[←z,e]at this;cases this
 ·have:=I.freeC y c q;rw[z,e]at this;cases this
 ·have:=(I.pin p hp).2.1;rw[z,e]at this;cases this
noncomputable def h0q(C:Addr)(sp:Sp)(W:XW)(t:TA):TS:=fun _ σ H=>t σ H fun vs H1=>vs.length≤sizeLine∧∀x,H1 x=none→
 sp (.ref x::vs) (upd H1 x (XO true x C none)) (fun v H2=>v=.non∧∃od,H2 x=some (XO true x C od)∧W C od σ (L2.drop H2 x)) E0
noncomputable def a0u(C:Addr)(W:XW):TS:=fun _ σ H=>∀x,H x=none→W C none σ (L2.drop (upd H x (XO true x C none)) x)
theorem h0p{k:Nat}{f C:Addr}{fd:FuncData}{ps:List Str}{sp:Sp}{W:XW}{x:Str}{p cpos pos:Pos}{e:Expr}{es:List Expr}{t:TA}(hc:X.calm=true)(hf:w0y X W)(M:XMk X.K C f)(F:FnOk X.prog X.w X.K X.mg X.base CX0 k f fd ps sp)(hr:Room (k+1) X.A)
 (hg:Gl X x) (hm:X.mg x=some (.ref C)) (hb:Binds X.K fd ps [])
 (ha:PA X (e::es) t) (hdb:(x==("__debug__":Str))=false:=by decide) (he:starEach (e::es) X.env=(false,eval e X.env)::starEach es X.env:=by rfl) (hpl:(backTo cpos (starEach es X.env)).any (·.1)=false:=by rfl):
 PS X (.Raise (some (.Call (.Name x p) (e::es) [] cpos)) none pos) (h0q C sp W t):=by
 intro pins s σ H D I h;show wpAny _ _ (do standAt pos;raiseStmt X.env (some (do let v←eval (.Call (.Name x p) (e::es) [] cpos) X.env;standAt pos;pure v)) none) _ _ _;refine wpAny_bind (wpAny_standAt (o0g (C:=C) (I.ok.hd hc) (wpAny_bind (thn (Q:=fun v s1=>∃x H2 od,v=.ref x∧X.s₀.heap.objs.size≤x∧Inv X pins σ H2 s1∧H2 x=some (XO true x C od)∧W C od σ (L2.drop H2 x)) ?_ fun v s1 ⟨x,H2,od,ev,hy,I2,e2,q2⟩=>wpAny_bind (wpAny_standAt (wpAny_pure ?_))))))
 ·refine wpAny_Call_Name_kw (t0x I hg hm ?_ hdb);refine PySem.W.callWith_K (h₀:=X.base) I.ok.mod.kin M.kp (thn (ha cpos pins s σ H _ I h) fun us s1 ⟨vs,H1,I1,r,hz,q⟩=>⟨I1.kIn,?_⟩) he hpl;refine thn (o0i (Q:=fun v H2=>∃od,H2 (s1.heap.objs.size+1)=some (XO true (s1.heap.objs.size+1) C od)∧W C od σ (L2.drop H2 (s1.heap.objs.size+1))) M F hr hb (pass0 (X:=X)) I1 r hz (q _ (I1.hok.fresh (Nat.le_succ _)))) fun v s2 ⟨ev,y,H2,I2,ry,od,q1,q2⟩=>?_
  exact ⟨_,H2,od,ev,Nat.le_trans I1.sz (Nat.le_succ _),I2,q1,q2⟩
 ·subst ev;exact l0b (M:=model X.prog X.w) hf I2 e2 M.sh hy q2
theorem h0o{C:Addr}{W:XW}{x:Str}{p cpos pos:Pos}(hc:X.calm=true)(hf:w0y X W)(M:XMk0 X.K C)(hK:xcIn X.K C=true)(hg:Gl X x)(hm:X.mg x=some (.ref C))(hdb:(x==("__debug__":Str))=false:=by decide):
 PS X (.Raise (some (.Call (.Name x p) [] [] cpos)) none pos) (a0u C W):=by
 intro pins s σ H D I h;show wpAny _ _ (do standAt pos;raiseStmt X.env (some (do let v←eval (.Call (.Name x p) [] [] cpos) X.env;standAt pos;pure v)) none) _ _ _;refine wpAny_bind (wpAny_standAt (o0g (C:=C) (I.ok.hd hc) (wpAny_bind (thn (Q:=fun v s1=>∃x H2,v=.ref x∧X.s₀.heap.objs.size≤x∧Inv X pins σ H2 s1∧H2 x=some (XO true x C none)∧W C none σ (L2.drop H2 x)) ?_ fun v s1 ⟨x,H2,ev,hy,I2,e2,q2⟩=>wpAny_bind (wpAny_standAt (wpAny_pure ?_))))))
 ·refine wpAny_Call_Name_kw (t0x I hg hm ?_ hdb);refine PySem.W.callWith_K0 I.kIn M.kp (thn (e0r (Q:=fun v H2=>v=.ref (s.heap.objs.size+1)∧H2 (s.heap.objs.size+1)=some (XO true (s.heap.objs.size+1) C none)∧W C none σ (L2.drop H2 (s.heap.objs.size+1))) M I ⟨rfl,j3,h _ (I.hok.fresh (Nat.le_succ _))⟩) fun v s2 ⟨y,H2,I2,ry,ey,q1,q2⟩=>?_);subst ey;exact ⟨_,H2,ry,Nat.le_trans I.sz (Nat.le_succ _),I2,q1,q2⟩
 ·subst ev;exact l0b (M:=model X.prog X.w) hf I2 e2 hK hy q2
end
end L2
namespace L2
open PySem PySem.Spec PyProof.Rows
open PySem.W (XC)
section
variable{X:Cx}{pins:List (Addr×Obj)}{σ:St}{H:Hp}{s:Shared}
noncomputable abbrev XTS:=Addr→Option Addr→TS
noncomputable def PH(X:Cx)(hs:List ExceptHandler)(t:XTS):Prop:=∀(pins:List (Addr×Obj)) (x C:Addr) (od T:Option Addr) (s:Shared) (σ:St) (H:Hp) (D:Ends),Inv X pins σ H s→Fly s.heap x C od T→Loose X pins H x→(∀t,T=some t→Loose X pins H t)→t C od D σ H→
 wpAny (model X.prog X.w) X.A (handleBy (.ref x) X.env hs) (SP X pins D) X.xe s
structure XHd(K:PySem.W.Frag)(D:Addr):Prop where
 ty:PySem.W.typeIn K (.ref D)=some (.type "type")
 cl:(PySem.W.clsIn K D).isSome=true
 sub:PySem.W.mroIn K D (.type "BaseException")=some true
end
end L2
namespace L2
open PySem PySem.Spec PyProof.Rows
open PySem.W (XC)
structure DefAt(K:PySem.W.Frag)(mg:Str→Option Value)(x:Str)(st:Stmt)(ps:List Str)(f:Addr)(fd:FuncData):Prop where
 F:Fun K x x st f fd
 m:mg x=some (.ref f)
 b:Binds K fd ps []
structure FnAt(P:Program)(w:World)(K:PySem.W.Frag)(mg:Str→Option Value)(base:Heap)(CX:CXT)(x:Str)(k:Nat)(ps:List Str)(sp:Sp):Prop where
 ex:∃f fd,FnOk P w K mg base CX k f fd ps sp∧mg x=some (.ref f)∧PySem.W.keepIn K (.ref f)=true∧Binds K fd ps []
theorem DefAt.at{P:Program}{w:World}{K:PySem.W.Frag}{mg:Str→Option Value}{base:Heap}{CX:CXT}{x:Str}{st:Stmt}{ps:List Str}{f:Addr}{fd:FuncData}{k:Nat}{sp:Sp}(D:DefAt K mg x st ps f fd)(F:FnOk P w K mg base CX k f fd ps sp):FnAt P w K mg base CX x k ps sp:=
 ⟨f,fd,F,D.m,D.F.kp,D.b⟩
section
variable{X:Cx}{x:Str}{p pos:Pos}{e:Expr}{es:List Expr}{t:TA}{k:Nat}{ps:List Str}{sp:Sp}
theorem pe_cX{W:XW}(G:FnAt X.prog X.w X.K X.mg X.base (CX1 X.prog X.w) x k ps sp)(hr:Room k X.A)(hf:w0y X W)(ha:PA X (e::es) t)(hg:Gl X x:=by rfl)(hdb:(x==("__debug__":Str))=false:=by decide)
 (he:starEach (e::es) X.env=(false,eval e X.env)::starEach es X.env:=by rfl) (hpl:(backTo pos (starEach es X.env)).any (·.1)=false:=by rfl):PE X (.Call (.Name x p) (e::es) [] pos) (h0r sp W t):=by
 obtain ⟨f,fd,F,m,kp,b⟩:=G.ex;exact e0o F hr hg m kp b hf ha hdb he hpl
theorem pty(n:String){y:Str}(hm:X.mg y=none)(hv:bootBuiltins y=some (.type n))(hg:Gl X y:=by rfl)(hn:y≠"__name__":=by decide)(hd:(y==("__debug__":Str))=false:=by decide):PE X (.Name y pos) (tC (.ty n)):=b0q hg hm hv rfl hn hd
end
theorem bt_len:bootBuiltins "len"=some (.builtin "len"):=by kernel_rfl
theorem bt_abs:bootBuiltins "abs"=some (.builtin "abs"):=by kernel_rfl
theorem bt_all:bootBuiltins "all"=some (.builtin "all"):=by kernel_rfl
theorem t0o:bootBuiltins "min"=some (.builtin "min"):=by kernel_rfl
theorem bt_max:bootBuiltins "max"=some (.builtin "max"):=by kernel_rfl
theorem j9:bootBuiltins "isinstance"=some (.builtin "isinstance"):=by kernel_rfl
theorem h0n:bootBuiltins "int"=some (.type "int"):=by kernel_rfl
theorem a0t:bootBuiltins "bool"=some (.type "bool"):=by kernel_rfl
theorem h0m:bootBuiltins "list"=some (.type "list"):=by kernel_rfl
theorem w0x:bootBuiltins "tuple"=some (.type "tuple"):=by kernel_rfl
structure Deck(H:Hp)(D S:Addr)(n:Nat):Prop where
 ex:∃c k:Int,H D=some (.lst [.ref S,.int c,.int k])∧0≤c∧0≤k∧k≤n
end L2
namespace L2
open PySem PySem.Spec PyProof.Rows
end L2
namespace L2
theorem a0s{α:Type}{xs:List α}{k:Int}(h:0<xs.length):∃v,atI xs (k%(xs.length:Nat))=some v∧v∈xs:=by
 have h1:=Int.emod_nonneg k (b:=(xs.length:Int)) (by omega);have h2:=Int.emod_lt_of_pos k (b:=(xs.length:Int)) (by omega);have hj:(k%(xs.length:Nat)).toNat<xs.length:=by omega
 refine ⟨xs[(k%(xs.length:Nat)).toNat],?_,List.getElem_mem hj⟩;have e:k%(xs.length:Nat)=(((k%(xs.length:Nat)).toNat:Nat):Int):=by omega
 have q:∀z:Int,z=k%(xs.length:Nat)→z=((z.toNat:Nat):Int)→∀hz:z.toNat<xs.length,atI xs z=some xs[z.toNat]:=by
  intro z _ hz2 hz3;generalize z.toNat=j at hz2 hz3;subst hz2;exact q0r (List.getElem?_eq_getElem hz3)
 exact q _ rfl e hj
end L2
set_option maxHeartbeats 8000000
namespace L2
open PySem PySem.Spec PyProof.Rows
noncomputable def BT:List String:=["NoneType","bool","int","str","list","tuple","dict"]
theorem kt_all(K:PySem.W.Frag){n:String}(h:n∈BT):PySem.W.kitOne K (.type n) (.type "bool")=some (n=="bool")∧PySem.W.kitOne K (.type n) (.type "int")=some (n=="int"||n=="bool")∧
 PySem.W.kitOne K (.type n) (.type "list")=some (n=="list")∧PySem.W.kitOne K (.type n) (.type "tuple")=some (n=="tuple")∧PySem.W.kitAny K (.type n) [.type "list",.type "tuple"]=some (n=="list"||n=="tuple"):=by
 simp only[BT,List.mem_cons,List.not_mem_nil,or_false]at h;rcases h with rfl |rfl |rfl |rfl |rfl |rfl |rfl
 ·exact ⟨by kernel_rfl,by kernel_rfl,by kernel_rfl,by kernel_rfl,by kernel_rfl⟩
 ·exact ⟨by kernel_rfl,by kernel_rfl,by kernel_rfl,by kernel_rfl,by kernel_rfl⟩
 ·exact ⟨by kernel_rfl,by kernel_rfl,by kernel_rfl,by kernel_rfl,by kernel_rfl⟩
 ·exact ⟨by kernel_rfl,by kernel_rfl,by kernel_rfl,by kernel_rfl,by kernel_rfl⟩
 ·exact ⟨by kernel_rfl,by kernel_rfl,by kernel_rfl,by kernel_rfl,by kernel_rfl⟩
 ·exact ⟨by kernel_rfl,by kernel_rfl,by kernel_rfl,by kernel_rfl,by kernel_rfl⟩
 ·exact ⟨by kernel_rfl,by kernel_rfl,by kernel_rfl,by kernel_rfl,by kernel_rfl⟩
structure Thing(K:PySem.W.Frag)(H:Hp)(x:V)(n:String):Prop where
 ty:TyOf K H x (.type n)
 mem:n∈BT
noncomputable def numV(x y:V):Bool:=match x,y with
 | .int i,.int j=>decide (i=j)
 |_,_=>false
noncomputable def e0m(K:PySem.W.Frag):Sp:=fun vs H Q _=>∃(x:V) (j:Int) (n:String),vs=[x,.int j]∧Thing K H x n∧Q (.bl (numV x (.int j))) H
end L2
set_option maxHeartbeats 8000000
namespace L2
open PySem PySem.Spec PyProof.Rows
open PySem.W (XC veMro)
structure ErrC(K:PySem.W.Frag)(W C:Addr):Prop where
 mro:(PySem.W.clsIn K C).map (·.mro)=some (.ref C:: .ref W::veMro)
 ty:PySem.W.typeIn K (.ref C)=some (.type "type")
 xc:XC K C
theorem Same.new{H:Hp}{p:Addr}{o:HO}(h:H p=none):Same H (upd H p o):=fun b u e=>by rw[g0 (j0 e h)];exact e
noncomputable def spXI(C:Addr)(a:Str):Sp:=fun vs H Q _=>∃(x:Addr) (v:V),vs=[.ref x,v]∧H x=some (XO true x C none)∧∀d,H d=none→d≠x→Q .non (upd (upd H d (XD d [(a,v)])) x (XO true x C (some d)))
end L2
namespace L2
open PySem PySem.Spec PyProof.Rows
open PySem.W (XC veMro)
structure MkE(P:Program)(w:World)(K:PySem.W.Frag)(mg:Str→Option Value)(base:Heap)(x:Str)(C:Addr)(k:Nat)(ps:List Str)(sp:Sp):Prop where
 ex:∃f fd,XMk K C f∧FnOk P w K mg base CX0 k f fd ps sp∧Binds K fd ps []
 m:mg x=some (.ref C)
theorem h0l{X:Cx}{W:XW}{x:Str}{C:Addr}{k:Nat}{ps:List Str}{sp:Sp}{p cpos pos:Pos}{e:Expr}{es:List Expr}{t:TA}(hc:X.calm=true)(hf:w0y X W)(M:MkE X.prog X.w X.K X.mg X.base x C k ps sp)(hr:Room (k+1) X.A)(ha:PA X (e::es) t)(hg:Gl X x:=by rfl)
 (hdb:(x==("__debug__":Str))=false:=by decide) (he:starEach (e::es) X.env=(false,eval e X.env)::starEach es X.env:=by rfl) (hpl:(backTo cpos (starEach es X.env)).any (·.1)=false:=by rfl):
 PS X (.Raise (some (.Call (.Name x p) (e::es) [] cpos)) none pos) (h0q C sp W t):=by
 obtain ⟨f,fd,h1,h2,h3⟩:=M.ex;exact h0p hc hf h1 h2 hr hg M.m h3 ha hdb he hpl
theorem sz1{a:V}:[a].length≤PySem.sizeLine:=by show 1≤PySem.sizeLine;decide
end L2
namespace DL
open PySem PySem.Spec L2
open PySem.W (XC)
inductive D where
 |non |bl (b:Bool)|int (i:Int)|str (x:Str)
 |lst (xs:List D)|tup (xs:List D)|scr (xs:List D)|dic (kvs:List (Key×D))|dwk (kvs:List (Key×D))
 |ins (C:Addr) (fs:List (Str×D))|exc (C:Addr) (fs:List (Str×D))
 |ref (a:Addr)|ty (n:String)
noncomputable abbrev Frag:=PySem.W.Frag
mutual
noncomputable def Rep(K:Frag)(F:Hp):D→V→Prop
 | .non,v=>v=.non
 | .bl b,v=>v=.bl b
 | .int i,v=>v=.int i
 | .str x,v=>v=.str x
 | .lst ds,v=>∃a vs,v=.ref a∧F a=some (.lst vs)∧Reps K F ds vs
 | .tup ds,v=>∃a vs,v=.ref a∧F a=some (.tup vs)∧Reps K F ds vs
 | .scr ds,v=>∃a vs,v=.ref a∧SqL K F a vs∧Reps K F ds vs
 | .dic kvs,v=>∃a us,v=.ref a∧F a=some (.dK us)∧RepK K F kvs us
 | .dwk kvs,v=>∃a o us,v=.ref a∧F a=some (.frz o (.dK us))∧RepK K F kvs us
 | .ins C fs,v=>∃a dx us,v=.ref a∧F a=some (.ins C dx us)∧F dx=some (.own a)∧RepF K F fs us
 | .exc C fs,v=>∃a fr,v=.ref a∧((fs=[]∧F a=some (XO fr a C none))∨∃d us,F a=some (XO fr a C (some d))∧F d=some (XD d us)∧RepF K F fs us)
 | .ref a,v=>v=.ref a
 | .ty n,v=>v=.ty n
noncomputable def Reps(K:Frag)(F:Hp):List D→List V→Prop
 | [],vs=>vs=[]
 |d::ds,vs=>∃v r,vs=v::r∧Rep K F d v∧Reps K F ds r
noncomputable def RepF(K:Frag)(F:Hp):List (Str×D)→List (Str×V)→Prop
 | [],vs=>vs=[]
 |(x,d)::ds,vs=>∃v r,vs=(x,v)::r∧Rep K F d v∧RepF K F ds r
noncomputable def RepK(K:Frag)(F:Hp):List (Key×D)→List (Key×V)→Prop
 | [],vs=>vs=[]
 |(x,d)::ds,vs=>∃v r,vs=(x,v)::r∧Rep K F d v∧RepK K F ds r
end
theorem _root_.L2.Same.rd{F F':Hp}{a:Addr}{u:HO}(s:Same F F')(h:Rd F a u):Rd F' a u:=by
 rcases h with h |⟨o,h⟩
 ·exact .inl (s _ _ h)
 ·exact .inr ⟨o,s _ _ h⟩
theorem _root_.L2.Same.sqL{K:Frag}{F F':Hp}{a:Addr}{xs:List V}(s:Same F F')(h:SqL K F a xs):SqL K F' a xs:=h.imp s.rd id
theorem _root_.L2.Same.sqT{K:Frag}{F F':Hp}{a:Addr}{xs:List V}(s:Same F F')(h:SqT K F a xs):SqT K F' a xs:=h.imp s.rd id
mutual
theorem Rep.mono{K:Frag}{F F':Hp}(s:Same F F'):∀{d:D} {v:V},Rep K F d v→Rep K F' d v
 | .non,v,h=>by unfold Rep at h ⊢; exact h
 | .bl b,v,h=>by unfold Rep at h ⊢; exact h
 | .int i,v,h=>by unfold Rep at h ⊢; exact h
 | .str x,v,h=>by unfold Rep at h ⊢; exact h
 | .lst ds,v,h=>by unfold Rep at h ⊢; obtain ⟨a,vs,e,q,r⟩:=h;exact ⟨a,vs,e,s _ _ q,Reps.mono s r⟩
 | .tup ds,v,h=>by unfold Rep at h ⊢; obtain ⟨a,vs,e,q,r⟩:=h;exact ⟨a,vs,e,s _ _ q,Reps.mono s r⟩
 | .scr ds,v,h=>by unfold Rep at h ⊢; obtain ⟨a,vs,e,q,r⟩:=h;exact ⟨a,vs,e,s.sqL q,Reps.mono s r⟩
 | .dic ds,v,h=>by unfold Rep at h ⊢; obtain ⟨a,vs,e,q,r⟩:=h;exact ⟨a,vs,e,s _ _ q,RepK.mono s r⟩
 | .dwk ds,v,h=>by unfold Rep at h ⊢; obtain ⟨a,o,vs,e,q,r⟩:=h;exact ⟨a,o,vs,e,s _ _ q,RepK.mono s r⟩
 | .ins C fs,v,h=>by unfold Rep at h ⊢; obtain ⟨a,dx,vs,e,q,q2,r⟩:=h;exact ⟨a,dx,vs,e,s _ _ q,s _ _ q2,RepF.mono s r⟩
 | .exc C fs,v,h=>by
  unfold Rep at h ⊢;obtain ⟨a,fr,e,h⟩:=h;refine ⟨a,fr,e,?_⟩;rcases h with ⟨e1,q⟩|⟨d,us,q,q2,r⟩
  ·exact .inl ⟨e1,s _ _ q⟩
  ·exact .inr ⟨d,us,s _ _ q,s _ _ q2,RepF.mono s r⟩
 | .ref a,v,h=>by unfold Rep at h ⊢; exact h
 | .ty n,v,h=>by unfold Rep at h ⊢; exact h
theorem Reps.mono{K:Frag}{F F':Hp}(s:Same F F'):∀{ds:List D} {vs:List V},Reps K F ds vs→Reps K F' ds vs
 | [],vs,h=>by unfold Reps at h ⊢; exact h
 |d::ds,vs,h=>by unfold Reps at h ⊢; obtain ⟨v,r,e,q,z⟩:=h;exact ⟨v,r,e,Rep.mono s q,Reps.mono s z⟩
theorem RepF.mono{K:Frag}{F F':Hp}(s:Same F F'):∀{ds:List (Str×D)} {vs:List (Str×V)},RepF K F ds vs→RepF K F' ds vs
 | [],vs,h=>by unfold RepF at h ⊢; exact h
 |(x,d)::ds,vs,h=>by unfold RepF at h ⊢; obtain ⟨v,r,e,q,z⟩:=h;exact ⟨v,r,e,Rep.mono s q,RepF.mono s z⟩
theorem RepK.mono{K:Frag}{F F':Hp}(s:Same F F'):∀{ds:List (Key×D)} {vs:List (Key×V)},RepK K F ds vs→RepK K F' ds vs
 | [],vs,h=>by unfold RepK at h ⊢; exact h
 |(x,d)::ds,vs,h=>by unfold RepK at h ⊢; obtain ⟨v,r,e,q,z⟩:=h;exact ⟨v,r,e,Rep.mono s q,RepK.mono s z⟩
end
section
variable{K:Frag}{F H:Hp}
theorem rep_non{v:V}:Rep K F .non v↔v=.non:=by unfold Rep;exact Iff.rfl
theorem rep_bl{b:Bool}{v:V}:Rep K F (.bl b) v↔v=.bl b:=by unfold Rep;exact Iff.rfl
theorem rep_int{i:Int}{v:V}:Rep K F (.int i) v↔v=.int i:=by unfold Rep;exact Iff.rfl
theorem rep_str{x:Str}{v:V}:Rep K F (.str x) v↔v=.str x:=by unfold Rep;exact Iff.rfl
theorem rep_ref{a:Addr}{v:V}:Rep K F (.ref a) v↔v=.ref a:=by unfold Rep;exact Iff.rfl
theorem rep_ty{n:String}{v:V}:Rep K F (.ty n) v↔v=.ty n:=by unfold Rep;exact Iff.rfl
theorem rep_lst{ds:List D}{v:V}:Rep K F (.lst ds) v↔∃a vs,v=.ref a∧F a=some (.lst vs)∧Reps K F ds vs:=by rw[Rep]
theorem rep_tup{ds:List D}{v:V}:Rep K F (.tup ds) v↔∃a vs,v=.ref a∧F a=some (.tup vs)∧Reps K F ds vs:=by rw[Rep]
theorem rep_scr{ds:List D}{v:V}:Rep K F (.scr ds) v↔∃a vs,v=.ref a∧SqL K F a vs∧Reps K F ds vs:=by rw[Rep]
theorem rep_dic{ds:List (Key×D)}{v:V}:Rep K F (.dic ds) v↔∃a us,v=.ref a∧F a=some (.dK us)∧RepK K F ds us:=by rw[Rep]
theorem rep_ins{C:Addr}{fs:List (Str×D)}{v:V}:Rep K F (.ins C fs) v↔∃a dx us,v=.ref a∧F a=some (.ins C dx us)∧F dx=some (.own a)∧RepF K F fs us:=by rw[Rep]
theorem rep_exc{C:Addr}{fs:List (Str×D)}{v:V}:Rep K F (.exc C fs) v↔∃a fr,v=.ref a∧((fs=[]∧F a=some (XO fr a C none))∨∃d us,F a=some (XO fr a C (some d))∧F d=some (XD d us)∧RepF K F fs us):=by rw[Rep]
theorem reps_nil{vs:List V}:Reps K F [] vs↔vs=[]:=by rw[Reps]
theorem reps_cons{d:D}{ds:List D}{vs:List V}:Reps K F (d::ds) vs↔∃v r,vs=v::r∧Rep K F d v∧Reps K F ds r:=by rw[Reps]
theorem Reps.cons{d:D}{ds:List D}{v:V}{vs:List V}(h:Rep K F d v)(t:Reps K F ds vs):Reps K F (d::ds) (v::vs):=reps_cons.mpr ⟨v,vs,rfl,h,t⟩
theorem Reps.nil:Reps K F [] []:=reps_nil.mpr rfl
theorem Reps.length:∀{ds:List D} {vs:List V},Reps K F ds vs→vs.length=ds.length
 | [],vs,h=>by rw[reps_nil.mp h];rfl
 |d::ds,vs,h=>by obtain ⟨v,r,rfl,_,z⟩:=reps_cons.mp h;rw[List.length_cons,List.length_cons,Reps.length z]
theorem Reps.append:∀{ds es:List D} {vs us:List V},Reps K F ds vs→Reps K F es us→Reps K F (ds++es) (vs++us)
 | [],es,vs,us,h,h'=>by rw[reps_nil.mp h];exact h'
 |d::ds,es,vs,us,h,h'=>by obtain ⟨v,r,rfl,q,z⟩:=reps_cons.mp h;exact Reps.cons q (Reps.append z h')
theorem Reps.get:∀{ds:List D} {vs:List V} {i:Nat} {d:D},Reps K F ds vs→ds[i]?=some d→∃v,vs[i]?=some v∧Rep K F d v
 | [],vs,i,d,h,e=>by simp at e
 |d::ds,vs,0,d',h,e=>by obtain ⟨v,r,rfl,q,z⟩:=reps_cons.mp h;simp at e;subst e;exact ⟨v,rfl,q⟩
 |d::ds,vs,i+1,d',h,e=>by obtain ⟨v,r,rfl,q,z⟩:=reps_cons.mp h;simp at e;obtain ⟨u,a,b⟩:=Reps.get z e;exact ⟨u,by simpa using a,b⟩
theorem Reps.set{d:D}{v:V}(q:Rep K F d v):∀{ds:List D} {vs:List V} (i:Nat),Reps K F ds vs→Reps K F (ds.set i d) (vs.set i v)
 | [],vs,i,h=>by rw[reps_nil.mp h];exact Reps.nil
 |e::ds,vs,0,h=>by obtain ⟨u,r,rfl,_,z⟩:=reps_cons.mp h;exact Reps.cons q z
 |e::ds,vs,i+1,h=>by obtain ⟨u,r,rfl,p,z⟩:=reps_cons.mp h;exact Reps.cons p (Reps.set q i z)
theorem Reps.take:∀{ds:List D} {vs:List V} (n:Nat),Reps K F ds vs→Reps K F (ds.take n) (vs.take n)
 | [],vs,n,h=>by rw[reps_nil.mp h];simp;exact Reps.nil
 |d::ds,vs,0,h=>by simp;exact Reps.nil
 |d::ds,vs,n+1,h=>by obtain ⟨u,r,rfl,p,z⟩:=reps_cons.mp h;simp;exact Reps.cons p (Reps.take n z)
theorem Reps.drop:∀{ds:List D} {vs:List V} (n:Nat),Reps K F ds vs→Reps K F (ds.drop n) (vs.drop n)
 | [],vs,n,h=>by rw[reps_nil.mp h];simp;exact Reps.nil
 |d::ds,vs,0,h=>by simpa using h
 |d::ds,vs,n+1,h=>by obtain ⟨u,r,rfl,p,z⟩:=reps_cons.mp h;simp;exact Reps.drop n z
theorem Reps.atI{ds:List D}{vs:List V}{i:Int}{d:D}(h:Reps K F ds vs)(e:L2.atI ds i=some d):∃v,L2.atI vs i=some v∧Rep K F d v:=by
 unfold L2.atI at e ⊢;rw[h.length];cases hj:ixN ds.length i with
 |none=>rw[hj]at e;cases e
 |some j=>
  rw[hj]at e;obtain ⟨v,a,b⟩:=h.get e;exact ⟨v,a,b⟩
end
end DL
namespace DL
open PySem PySem.Spec L2
open PySem.W (XC)
noncomputable abbrev Dk:=Option (Addr×List D)
inductive Cell where
 |no |val (d:D)|own (ds:List D)|obj (C:Addr) (fs:List (Str×D))|ownD (kvs:List (Key×D))
noncomputable abbrev En:=List Cell
noncomputable def CellOk(K:Frag)(F H H₀:Hp)(sf:Option Addr):Cell→Option V→Prop
 | .no,_=>True
 | .val d,v=>∃u,v=some u∧Rep K F d u
 | .own ds,v=>∃a vs,v=some (.ref a)∧H a=some (.lst vs)∧F a=none∧H₀ a=none∧Reps K F ds vs
 | .obj C fs,v=>∃a dx us,v=some (.ref a)∧sf=some a∧H a=some (.ins C dx us)∧H dx=some (.own a)∧F a=none∧F dx=none∧H₀ a=none∧H₀ dx=none∧RepF K F fs us
 | .ownD kvs,v=>∃a us,v=some (.ref a)∧H a=some (.dK us)∧F a=none∧H₀ a=none∧RepK K F kvs us
noncomputable def Off(δ:Dk)(b:Addr):Prop:=∀a ds,δ=some (a,ds)→b≠a
noncomputable def DkOk(K:Frag)(F H:Hp)(δ:Dk):Prop:=∀a ds,δ=some (a,ds)→F a=none∧∃vs,H a=some (.lst vs)∧Reps K F ds vs
noncomputable def DkTo(H₀:Hp)(δ₀ δ:Dk):Prop:=(∀a ds,δ₀=some (a,ds)→∃es,δ=some (a,es))∧∀a ds,δ=some (a,ds)→δ₀=none→H₀ a=none
structure Ran(K:Frag)(F₀ H₀:Hp)(δ₀:Dk)(F H:Hp)(δ:Dk):Prop where
 sub:Same F H
 dk:DkOk K F H δ
 keep:∀b o,H₀ b=some o→Off δ₀ b→H b=some o
 f0:Same F₀ F
 fnew:∀b o,F b=some o→F₀ b=some o∨H₀ b=none
 dto:DkTo H₀ δ₀ δ
structure Y2 where
 F₀:Hp
 H₀:Hp
 δ₀:Dk
 sf:Option Addr:=none
noncomputable def y6(ρ:En)(σ:St)(i:Nat)(a:Addr):Prop:=((∃ds,ρ[i]?=some (.own ds))∨(∃C fs,ρ[i]?=some (.obj C fs))∨∃kvs,ρ[i]?=some (.ownD kvs))∧σ[i]?=some (some (.ref a))
structure I2(K:Frag)(Y:Y2)(F H:Hp)(σ:St)(ρ:En)(δ:Dk):Prop where
 ran:Ran K Y.F₀ Y.H₀ Y.δ₀ F H δ
 env:∀(i:Nat) (c:Cell),ρ[i]?=some c→CellOk K F H Y.H₀ Y.sf c (σ[i]?).join
 len:ρ.length=σ.length
 apart:∀(i j:Nat) (a:Addr),i≠j→y6 ρ σ i a→y6 ρ σ j a→False
 off:∀(i:Nat) (a:Addr),y6 ρ σ i a→Off δ a
section
variable{K:Frag}{Y:Y2}{F H F' H':Hp}{σ:St}{ρ:En}{δ:Dk}
theorem I2.sub(I:I2 K Y F H σ ρ δ):Same F H:=I.ran.sub
theorem w4{σ:St}{i:Nat}{v:V}(h:(σ[i]?).join=some v):σ[i]?=some (some v):=by
 cases e:σ[i]? with
 |none=>rw[e]at h;cases h
 |some o=>rw[e]at h;exact congrArg some h
theorem Ran.fresh(R:Ran K Y.F₀ Y.H₀ Y.δ₀ F H δ){p:Addr}(h:H p=none):Y.H₀ p=none:=by
 cases q:Y.H₀ p with
 |none=>rfl
 |some o=>
  by_cases z:∃ds,Y.δ₀=some (p,ds)
  ·obtain ⟨ds,z⟩:=z;obtain ⟨es,z2⟩:=R.dto.1 p ds z;obtain ⟨_,vs,z3,_⟩:=R.dk p es z2;rw[h]at z3;cases z3
  ·have:=R.keep p o q (fun a ds e w=>z ⟨ds,by rw[e,w]⟩);rw[h]at this;cases this
theorem Ran.alloc{o:HO}{p:Addr}(R:Ran K Y.F₀ Y.H₀ Y.δ₀ F H δ)(h:H p=none):Ran K Y.F₀ Y.H₀ Y.δ₀ (upd F p o) (upd H p o) δ:=by
 have hF:F p=none:=R.sub.free h;have h0:=R.fresh h;refine ⟨fun b u e=>?_,fun a ds e=>?_,fun b u e f=>?_,fun b u e=>?_,fun b u e=>?_,R.dto⟩
 ·by_cases z:b=p
  ·subst z;rw[j3]at e ⊢; exact e
  ·rw[g0 z]at e ⊢; exact R.sub _ _ e
 ·obtain ⟨q,vs,q2,r⟩:=R.dk a ds e;have z:a≠p:=j0 q2 h;exact ⟨by rw[g0 z];exact q,vs,by rw[g0 z];exact q2,r.mono (Same.new hF)⟩
 ·rw[g0 (j0 (R.keep b u e f) h)];exact R.keep b u e f
 ·rw[g0 (j0 (R.f0 b u e) hF)];exact R.f0 b u e
 ·by_cases z:b=p
  ·subst z;exact .inr h0
  ·rw[g0 z]at e;exact R.fnew b u e
theorem CellOk.alloc{o:HO}{p:Addr}{c:Cell}{v:Option V}{H₀:Hp}{sf:Option Addr}(s:Same F H)(h:H p=none)(x:CellOk K F H H₀ sf c v):CellOk K (upd F p o) (upd H p o) H₀ sf c v:=by
 have hF:F p=none:=s.free h;cases c with
 |no=>trivial
 |val d=>obtain ⟨u,e,r⟩:=x;exact ⟨u,e,r.mono (Same.new hF)⟩
 |own ds=>
  obtain ⟨a,vs,e,q,f,g,r⟩:=x;have z:=j0 q h;exact ⟨a,vs,e,by rw[g0 z];exact q,by rw[g0 z];exact f,g,r.mono (Same.new hF)⟩
 |obj C fs=>
  obtain ⟨a,dx,us,e,es,q,q2,f,f2,g,g2,r⟩:=x;have z:=j0 q h;have z2:=j0 q2 h;exact ⟨a,dx,us,e,es,by rw[g0 z];exact q,by rw[g0 z2];exact q2,by rw[g0 z];exact f,by rw[g0 z2];exact f2,g,g2,r.mono (Same.new hF)⟩
 |ownD kvs=>
  obtain ⟨a,us,e,q,f,g,r⟩:=x;have z:=j0 q h;exact ⟨a,us,e,by rw[g0 z];exact q,by rw[g0 z];exact f,g,r.mono (Same.new hF)⟩
theorem I2.alloc{o:HO}{p:Addr}(I:I2 K Y F H σ ρ δ)(h:H p=none):I2 K Y (upd F p o) (upd H p o) σ ρ δ:=
 ⟨I.ran.alloc h,fun i c e=>(I.env i c e).alloc I.sub h,I.len,I.apart,I.off⟩
theorem I2.lst{ds:List D}{vs:List V}{p:Addr}(I:I2 K Y F H σ ρ δ)(h:H p=none)(r:Reps K F ds vs):Rep K (upd F p (.lst vs)) (.lst ds) (.ref p):=
 rep_lst.mpr ⟨p,vs,rfl,j3,r.mono (Same.new (I.sub.free h))⟩
theorem I2.tup{ds:List D}{vs:List V}{p:Addr}(I:I2 K Y F H σ ρ δ)(h:H p=none)(r:Reps K F ds vs):Rep K (upd F p (.tup vs)) (.tup ds) (.ref p):=
 rep_tup.mpr ⟨p,vs,rfl,j3,r.mono (Same.new (I.sub.free h))⟩
theorem I2.grow{o:HO}{p:Addr}(I:I2 K Y F H σ ρ δ)(h:H p=none):Same F (upd F p o):=Same.new (I.sub.free h)
theorem I2.put{i:Nat}{v:V}{d:D}(I:I2 K Y F H σ ρ δ)(r:Rep K F d v):I2 K Y F H (σ.set i (some v)) (ρ.set i (.val d)) δ:=by
 have key:∀j a,y6 (ρ.set i (.val d)) (σ.set i (some v)) j a→j≠i∧y6 ρ σ j a:=fun j a o=>by
  by_cases z:j=i
  ·subst z;rcases o.1 with ⟨ds,q⟩|⟨C,fs,q⟩|⟨kvs,q⟩<;>
   ·rw[List.getElem?_set]at q;simp at q
  ·refine ⟨z,?_⟩;obtain ⟨o1,o2⟩:=o;simp only[List.getElem?_set_ne (Ne.symm z)]at o1 o2;exact ⟨o1,o2⟩
 refine ⟨I.ran,fun j c e=>?_,by simp[I.len],fun a b c n o1 o2=>I.apart a b c n (key a c o1).2 (key b c o2).2,fun j a o=>I.off j a (key j a o).2⟩;by_cases z:j=i
 ·subst z;rw[List.getElem?_set]at e;by_cases hl:j<ρ.length
  ·simp[hl]at e;subst e;refine ⟨v,?_,r⟩;rw[List.getElem?_set];simp[I.len▸hl]
  ·simp[hl]at e
 ·rw[List.getElem?_set_ne (Ne.symm z)]at e ⊢;exact I.env j c e
theorem I2.freeze{i:Nat}{ds:List D}(I:I2 K Y F H σ ρ δ)(e:ρ[i]?=some (.own ds)):
 ∃a vs,σ[i]?=some (some (.ref a))∧F a=none∧I2 K Y (upd F a (.lst vs)) H σ (ρ.set i (.val (.lst ds))) δ∧Rep K (upd F a (.lst vs)) (.lst ds) (.ref a):=by
 obtain ⟨a,vs,q,h,f,g,r⟩:=I.env i _ e;have hs:=w4 q;have ho:y6 ρ σ i a:=⟨.inl ⟨ds,e⟩,hs⟩;have rr:Rep K (upd F a (.lst vs)) (.lst ds) (.ref a):=rep_lst.mpr ⟨a,vs,rfl,j3,r.mono (Same.new f)⟩;refine ⟨a,vs,hs,f,?_,rr⟩;have key:∀j b,y6 (ρ.set i (.val (.lst ds))) σ j b→j≠i∧y6 ρ σ j b:=fun j b o=>by
  by_cases z:j=i
  ·subst z;rcases o.1 with ⟨ds,q⟩|⟨C,fs,q⟩|⟨kvs,q⟩<;>
   ·rw[List.getElem?_set]at q;simp at q
  ·refine ⟨z,?_⟩;obtain ⟨o1,o2⟩:=o;simp only[List.getElem?_set_ne (Ne.symm z)]at o1;exact ⟨o1,o2⟩
 refine ⟨⟨fun b u e=>?_,fun b es e=>?_,I.ran.keep,fun b u e=>?_,fun b u e=>?_,I.ran.dto⟩,fun j c e'=>?_,by simp[I.len],fun x y b n o1 o2=>I.apart x y b n (key x b o1).2 (key y b o2).2,fun j b o=>I.off j b (key j b o).2⟩
 ·by_cases z:b=a
  ·subst z;rw[j3]at e;cases e;exact h
  ·rw[g0 z]at e;exact I.sub _ _ e
 ·obtain ⟨q1,us,q2,q3⟩:=I.ran.dk b es e;exact ⟨by rw[g0 (Ne.symm (I.off i a ho b es e))];exact q1,us,q2,q3.mono (Same.new f)⟩
 ·rw[g0 (j0 (I.ran.f0 b u e) f)];exact I.ran.f0 b u e
 ·by_cases z:b=a
  ·subst z;exact .inr g
  ·rw[g0 z]at e;exact I.ran.fnew b u e
 ·by_cases z:j=i
  ·subst z;rw[List.getElem?_set]at e';by_cases hl:j<ρ.length
   ·simp[hl]at e';subst e';exact ⟨_,q,rr⟩
   ·simp[hl]at e'
  ·rw[List.getElem?_set_ne (Ne.symm z)]at e';have w:=I.env j c e';cases c with
   |no=>trivial
   |val d=>obtain ⟨u,e1,r1⟩:=w;exact ⟨u,e1,r1.mono (Same.new f)⟩
   |own es=>
    obtain ⟨b,us,e1,h1,f1,g1,r1⟩:=w;have nb:b≠a:=fun w=>I.apart j i a z ⟨.inl ⟨es,e'⟩,by rw[←w];exact w4 e1⟩ ho
    exact ⟨b,us,e1,h1,by rw[g0 nb];exact f1,g1,r1.mono (Same.new f)⟩
   |obj C fs=>
    obtain ⟨b,dx,us,e1,es1,h1,h2,f1,f2,g1,g2,r1⟩:=w;have nb:b≠a:=fun w=>by rw[w,h]at h1;cases h1
    have nd:dx≠a:=fun w=>by rw[w,h]at h2;cases h2
    exact ⟨b,dx,us,e1,es1,h1,h2,by rw[g0 nb];exact f1,by rw[g0 nd];exact f2,g1,g2,r1.mono (Same.new f)⟩
   |ownD kvs=>
    obtain ⟨b,us,e1,h1,f1,g1,r1⟩:=w;have nb:b≠a:=fun w=>by rw[w,h]at h1;cases h1
    exact ⟨b,us,e1,h1,by rw[g0 nb];exact f1,g1,r1.mono (Same.new f)⟩
end
end DL
namespace DL
open PySem PySem.Spec L2
open PySem.W (XC)
noncomputable abbrev XK2:=Addr→List (Str×D)→En→Dk→Prop
noncomputable abbrev K2:=D→En→Dk→Prop
noncomputable abbrev TE2:=XK2→En→Dk→K2→Prop
noncomputable abbrev TT2:=XK2→En→Dk→(Bool→En→Dk→Prop)→Prop
noncomputable abbrev TA2:=XK2→En→Dk→(List D→En→Dk→Prop)→Prop
noncomputable def XRep(K:Frag)(F:Hp)(od:Option Addr)(fs:List (Str×D)):Prop:=match od with
 |none=>fs=[]
 |some d=>∃us,F d=some (XD d us)∧RepF K F fs us
noncomputable def XR(K:Frag)(Y:Y2)(W:XW)(F:Hp)(x:XK2):Prop:=∀C od fs σ' F' H' ρ' δ',I2 K Y F' H' σ' ρ' δ'→Same F F'→XRep K F' od fs→x C fs ρ' δ'→W C od σ' H'
theorem XR.mono{K:Frag}{Y:Y2}{W:XW}{F F1:Hp}{x:XK2}(h:XR K Y W F x)(s:Same F F1):XR K Y W F1 x:=fun C od fs σ' F' H' ρ' δ' I s'=>h C od fs σ' F' H' ρ' δ' I (s.trans s')
noncomputable def upE(K:Frag)(Y:Y2)(W:XW)(t:TE2):TE:=fun σ H Q=>∃F ρ δ x q,I2 K Y F H σ ρ δ∧t x ρ δ q∧(∀d v F' H' ρ' δ',I2 K Y F' H' σ ρ' δ'→Same F F'→Rep K F' d v→q d ρ' δ'→Q v H')∧XR K Y W F x
noncomputable def upT(K:Frag)(Y:Y2)(W:XW)(t:TT2):TT:=fun σ H Q=>∃F ρ δ x q,I2 K Y F H σ ρ δ∧t x ρ δ q∧(∀b F' H' ρ' δ',I2 K Y F' H' σ ρ' δ'→Same F F'→q b ρ' δ'→Q b H')∧XR K Y W F x
noncomputable def upA(K:Frag)(Y:Y2)(W:XW)(t:TA2):TA:=fun σ H Q=>∃F ρ δ x q,I2 K Y F H σ ρ δ∧t x ρ δ q∧(∀ds vs F' H' ρ' δ',I2 K Y F' H' σ ρ' δ'→Same F F'→Reps K F' ds vs→q ds ρ' δ'→Q vs H')∧XR K Y W F x
structure PE2(X:Cx)(Y:Y2)(W:XW)(e:Expr)(t:TE2):Prop where
 go:PE X e (upE X.K Y W t)
structure PT2(X:Cx)(Y:Y2)(W:XW)(e:Expr)(t:TT2):Prop where
 go:PT X e (upT X.K Y W t)
structure PW2(X:Cx)(Y:Y2)(W:XW)(e:Expr)(t:TT2):Prop where
 go:PW X e (upT X.K Y W t)
structure PA2(X:Cx)(Y:Y2)(W:XW)(es:List Expr)(t:TA2):Prop where
 go:PA X es (upA X.K Y W t)
theorem a0r{X:Cx}{e:Expr}{t t':TE}(h:PE X e t)(k:∀ σ H Q,t' σ H Q→t σ H Q):PE X e t':=fun pins s σ H Q I q=>h pins s σ H Q I (k σ H Q q)
theorem a0q{X:Cx}{e:Expr}{t t':TT}(h:PT X e t)(k:∀ σ H Q,t' σ H Q→t σ H Q):PT X e t':=fun pins s σ H Q I q=>h pins s σ H Q I (k σ H Q q)
theorem a0p{X:Cx}{e:Expr}{t t':TT}(h:PW X e t)(k:∀ σ H Q,t' σ H Q→t σ H Q):PW X e t':=fun w pins s σ H Q I q=>h w pins s σ H Q I (k σ H Q q)
theorem a0o{X:Cx}{es:List Expr}{t t':TA}(h:PA X es t)(k:∀ σ H Q,t' σ H Q→t σ H Q):PA X es t':=fun p pins s σ H Q I q=>h p pins s σ H Q I (k σ H Q q)
noncomputable def c0e:Expr→Bool | .Starred _ _=>false |_=>true
theorem x6{e:Expr}{es:List Expr}{env:Env}(h:c0e e=true):starEach (e::es) env=(false,eval e env)::starEach es env:=by
 cases e<;>first |rfl |cases h
theorem u6{pos:Pos}{env:Env}:∀{es:List Expr},es.all c0e=true→(backTo pos (starEach es env)).any (·.1)=false
 | [],_=>rfl
 |e::es,h=>by
  rw[List.all_cons,Bool.and_eq_true]at h;rw[x6 h.1];show (false||(backTo pos (starEach es env)).any (·.1))=false;rw[u6 h.2];rfl
theorem pe2{X:Cx}{Y:Y2}{W:XW}{e:Expr}{t:TE}{u:TE2}(h:PE X e t)(k:∀ σ H Q,upE X.K Y W u σ H Q→t σ H Q):PE2 X Y W e u:=⟨a0r h k⟩
theorem pt2{X:Cx}{Y:Y2}{W:XW}{e:Expr}{t:TT}{u:TT2}(h:PT X e t)(k:∀ σ H Q,upT X.K Y W u σ H Q→t σ H Q):PT2 X Y W e u:=⟨a0q h k⟩
theorem pw2{X:Cx}{Y:Y2}{W:XW}{e:Expr}{t:TT}{u:TT2}(h:PW X e t)(k:∀ σ H Q,upT X.K Y W u σ H Q→t σ H Q):PW2 X Y W e u:=⟨a0p h k⟩
theorem pa2{X:Cx}{Y:Y2}{W:XW}{es:List Expr}{t:TA}{u:TA2}(h:PA X es t)(k:∀ σ H Q,upA X.K Y W u σ H Q→t σ H Q):PA2 X Y W es u:=⟨a0o h k⟩
section
variable{X:Cx}{Y:Y2}{W:XW}{a b c:Expr}{ta tb tc:TE2}{pos:Pos}
noncomputable def t2C(d:D):TE2:=fun _ ρ δ q=>q d ρ δ
theorem e2_c{e:Expr}{v:V}{d:D}(h:PE X e (tC v))(r:∀F,Rep X.K F d v):PE2 X Y W e (t2C d):=pe2 h fun σ H Q ⟨F,ρ,δ,x,q,I,h,k,kx⟩=>k d v F H ρ δ I (Same.refl F) (r F) h
theorem y3{i j pos}:PE2 X Y W (.Constant (.int i) j pos) (t2C (.int i)):=e2_c pe_int fun F=>rep_int.mpr rfl
theorem j0e{i j pos}:PE2 X Y W (.Constant (.bool i) j pos) (t2C (.bl i)):=e2_c pe_bl fun F=>rep_bl.mpr rfl
theorem h0k{i j pos}:PE2 X Y W (.Constant (.str i) j pos) (t2C (.str i)):=e2_c pe_str fun F=>rep_str.mpr rfl
noncomputable def rdV(ρ:En)(i:Nat)(k:D→En→Prop):Prop:=match ρ[i]? with
 |some (.val d)=>k d ρ
 |some (.own ds)=>k (.lst ds) (ρ.set i (.val (.lst ds)))
 |_=>False
noncomputable def t2V(i:Nat):TE2:=fun _ ρ δ q=>rdV ρ i fun d ρ'=>q d ρ' δ
theorem h0j{K:Frag}{F H:Hp}{σ:St}{ρ:En}{δ:Dk}{i:Nat}{k:D→En→Prop}(I:I2 K Y F H σ ρ δ)(h:rdV ρ i k):
 ∃d v F' ρ',σ[i]?=some (some v)∧I2 K Y F' H σ ρ' δ∧Same F F'∧Rep K F' d v∧k d ρ':=by
 unfold rdV at h;split at h
 ·rename_i d e;obtain ⟨v,q,r⟩:=I.env i _ e;exact ⟨d,v,F,ρ,w4 q,I,Same.refl F,r,h⟩
 ·rename_i ds e;obtain ⟨a,vs,q,f,I',r⟩:=I.freeze e;exact ⟨_,_,_,_,q,I',Same.new f,r,h⟩
 ·exact h.elim
theorem e2_v(i:Nat){x:Str}{pos:Pos}(hN:X.N[i]?=some x:=by rfl)(hv:Vis X.env.scope x:=by walk_at "v3")(hd:(x==("__debug__":Str))=false:=by decide)
 (hcd:(x==("__classdict__":Str))=false:=by decide):PE2 X Y W (.Name x pos) (t2V i):=pe2 (u0q hN hv hd hcd) fun σ H Q ⟨F,ρ,δ,x,q,I,h,k,kx⟩=>by
 obtain ⟨d,v,F',ρ',e,I',s,r,h'⟩:=h0j I h;exact ⟨v,e,k d v F' H ρ' δ I' s r h'⟩
theorem e2_gi{x:Str}{n:Int}{u:Value}(hm:X.mg x=some u)(r:∃t,u=.int n t)(hg:Gl X x:=by rfl)(hd:(x==("__debug__":Str))=false:=by decide):PE2 X Y W (.Name x pos) (t2C (.int n)):=e2_c (i0o (v:=.int n) hg hm r hd) fun F=>rep_int.mpr rfl
theorem e0l(n:String){y:Str}(hm:X.mg y=none)(hv:bootBuiltins y=some (.type n))(hg:Gl X y:=by rfl)(hn:y≠"__name__":=by decide)(hd:(y==("__debug__":Str))=false:=by decide):PE2 X Y W (.Name y pos) (t2C (.ty n)):=
 e2_c (pty n hm hv hg hn hd) fun F=>rep_ty.mpr rfl
noncomputable def h0i:TA2:=fun _ ρ δ q=>q [] ρ δ
noncomputable def t0n(te:TE2)(tr:TA2):TA2:=fun x ρ δ q=>te x ρ δ fun d ρ1 δ1=>tr x ρ1 δ1 fun ds ρ2 δ2=>q (d::ds) ρ2 δ2
theorem o0:PA2 X Y W [] h0i:=pa2 c0l fun σ H Q ⟨F,ρ,δ,x,q,I,h,k,kx⟩=>k [] [] F H ρ δ I (Same.refl F) Reps.nil h
theorem u0{e:Expr}{es:List Expr}{te:TE2}{t:TA2}(ha:PE2 X Y W e te)(hr:PA2 X Y W es t)(hs:starEach (e::es) X.env=(false,eval e X.env)::starEach es X.env:=by exact x6 rfl):PA2 X Y W (e::es) (t0n te t):=
 pa2 (i0c ha.go hr.go hs) fun σ H Q ⟨F,ρ,δ,x,q,I,h,k,kx⟩=>⟨F,ρ,δ,x,_,I,h,fun d1 v1 F1 H1 ρ1 δ1 I1 s1 r1 h1=>⟨F1,ρ1,δ1,x,_,I1,h1,fun ds vs F2 H2 ρ2 δ2 I' s2 r2 h2=>
  k (d1::ds) (v1::vs) F2 H2 ρ2 δ2 I' (s1.trans s2) (Reps.cons (r1.mono s2) r2) h2,kx.mono s1⟩,kx⟩
theorem n0d{n:Nat}(h:n≤1000):n≤PySem.sizeLine:=Nat.le_trans h (by decide)
noncomputable def e0k(t:TA2):TE2:=fun x ρ δ q=>t x ρ δ fun ds ρ1 δ1=>ds.length≤1000∧q (.lst ds) ρ1 δ1
noncomputable def e0j(t:TA2):TE2:=fun x ρ δ q=>t x ρ δ fun ds ρ1 δ1=>ds.length≤1000∧q (.tup ds) ρ1 δ1
theorem c0d{es:List Expr}{t:TA2}(h:PA2 X Y W es t):PE2 X Y W (.List es pos) (e0k t):=pe2 (i0b h.go) fun σ H Q ⟨F,ρ,δ,x,q,I,h,k,kx⟩=>
 ⟨F,ρ,δ,x,_,I,h,fun ds vs F1 H1 ρ1 δ1 I1 s1 r1 h1=>⟨n0d (by rw[r1.length];exact h1.1),fun p hp=>k _ _ _ _ ρ1 δ1 (I1.alloc hp) (s1.trans (I1.grow hp)) (I1.lst hp r1) h1.2⟩,kx⟩
theorem u0p{x1}{es:List Expr}{t:TA2}(h:PA2 X Y W es t):PE2 X Y W (.Tuple es x1 pos) (e0j t):=pe2 (pe_tup h.go) fun σ H Q ⟨F,ρ,δ,x,q,I,h,k,kx⟩=>
 ⟨F,ρ,δ,x,_,I,h,fun ds vs F1 H1 ρ1 δ1 I1 s1 r1 h1=>⟨n0d (by rw[r1.length];exact h1.1),fun p hp=>k _ _ _ _ ρ1 δ1 (I1.alloc hp) (s1.trans (I1.grow hp)) (I1.tup hp r1) h1.2⟩,kx⟩
noncomputable abbrev F2:=D→D→(D→Prop)→Prop
noncomputable def OpD(K:Frag)(r:R2)(f:F2):Prop:=∀(Y:Y2) (F H:Hp) (σ:St) (ρ:En) (δ:Dk) (x y:V) (d1 d2:D) (Q1:VK) (q:D→Prop),I2 K Y F H σ ρ δ→Rep K F d1 x→Rep K F d2 y→f d1 d2 q→
 (∀d v F' H',I2 K Y F' H' σ ρ δ→Same F F'→Rep K F' d v→q d→Q1 v H')→r x y H Q1
noncomputable def t2Op(f:F2)(ta tb:TE2):TE2:=fun x ρ δ q=>ta x ρ δ fun d1 ρ1 δ1=>tb x ρ1 δ1 fun d2 ρ2 δ2=>f d1 d2 fun d=>q d ρ2 δ2
theorem e0i{r:R2}{f:F2}(hf:OpD X.K r f){σ:St}{H:Hp}{Q:VK}(h:upE X.K Y W (t2Op f ta tb) σ H Q):tOp r (upE X.K Y W ta) (upE X.K Y W tb) σ H Q:=by
 obtain ⟨F,ρ,δ,x,q,I,h,k,kx⟩:=h;exact ⟨F,ρ,δ,x,_,I,h,fun d1 v1 F1 H1 ρ1 δ1 I1 s1 r1 h1=>⟨F1,ρ1,δ1,x,_,I1,h1,fun d2 v2 F2 H2 ρ2 δ2 I' s2 r2 h2=>
  hf Y F2 H2 σ ρ2 δ2 v1 v2 d1 d2 _ _ I' (r1.mono s2) r2 h2 fun d v F' H' I' s' r' q'=>k d v F' H' ρ2 δ2 I' ((s1.trans s2).trans s') r' q',kx.mono s1⟩,kx⟩
theorem y4{op:Operator}{r:R2}{f:F2}(ho:OpR X (binaryOp op) r)(hf:OpD X.K r f)(ha:PE2 X Y W a ta)(hb:PE2 X Y W b tb):PE2 X Y W (.BinOp a op b pos) (t2Op f ta tb):=pe2 (pe_op ho ha.go hb.go) fun σ H Q h=>e0i hf h
theorem r0b{op:CmpOp}{r:R2}{f:F2}(ho:OpR X (compareOp op) r)(hf:OpD X.K r f)(ha:PE2 X Y W a ta)(hb:PE2 X Y W b tb)(hm:behindInMarks op b=false):PE2 X Y W (.Compare a [op] [b] pos) (t2Op f ta tb):=pe2 (b0k ho ha.go hb.go hm) fun σ H Q h=>e0i hf h
theorem e2_ix{r:R2}{f:F2}(hr:IxR X r)(hf:OpD X.K r f)(ha:PE2 X Y W a ta)(hb:PE2 X Y W b tb)(hs:q0q b:=by exact fun _ _=>rfl):PE2 X Y W (.Subscript a b pos) (t2Op f ta tb):=pe2 (b0b hr ha.go hb.go hs) fun σ H Q h=>e0i hf h
noncomputable def t2B(t:TE2):TT2:=fun x ρ δ q=>t x ρ δ fun d ρ1 δ1=>match d with | .bl k=>q k ρ1 δ1 |_=>False
theorem n0c{t:TE2}{σ:St}{H:Hp}{Q:Bool→Hp→Prop}(h:upT X.K Y W (t2B t) σ H Q):upE X.K Y W t σ H fun x H1=>∃c,x=.bl c∧Q c H1:=by
 obtain ⟨F,ρ,δ,x,q,I,h,k,kx⟩:=h;refine ⟨F,ρ,δ,x,_,I,h,fun d v F' H' ρ' δ' I' s' r' h'=>?_,kx⟩;cases d with
 |bl b=>exact ⟨b,rep_bl.mp r',k b F' H' ρ' δ' I' s' h'⟩
 |_=>exact h'.elim
theorem x0v{e:Expr}{t:TE2}(h:PE2 X Y W e t)(he:∀whole,isTrue e X.env whole=(do let v←whole;standAt e.pos;holding [v] (truthy v)):=by intro _;rfl):PT2 X Y W e (t2B t):=pt2 (pt_val h.go he) fun σ H Q h=>n0c h
theorem b7{op:CmpOp}{r:R2}{f:F2}(ho:OpR X (compareOp op) r)(hf:OpD X.K r f)(ha:PE2 X Y W a ta)(hb:PE2 X Y W b tb)(hm:behindInMarks op b=false):PT2 X Y W (.Compare a [op] [b] pos) (t2B (t2Op f ta tb)):=
 pt2 (b0j ho ha.go hb.go hm) fun σ H Q h=>e0i hf (n0c h)
noncomputable def e0h(t:TT2):TT2:=fun x ρ δ q=>t x ρ δ fun k ρ1 δ1=>q (!k) ρ1 δ1
theorem z0d{t:TT2}(h:PT2 X Y W a t):PT2 X Y W (.UnaryOp .Not a pos) (e0h t):=pt2 (pt_not h.go) fun σ H Q ⟨F,ρ,δ,x,q,I,h,k,kx⟩=>⟨F,ρ,δ,x,_,I,h,fun b F' H' ρ' δ' I' s' h'=>k _ F' H' ρ' δ' I' s' h',kx⟩
noncomputable def t2And(t u:TT2):TT2:=fun x ρ δ q=>t x ρ δ fun k ρ1 δ1=>if k=true then u x ρ1 δ1 q else q false ρ1 δ1
noncomputable def t2Or(t u:TT2):TT2:=fun x ρ δ q=>t x ρ δ fun k ρ1 δ1=>if k=true then q true ρ1 δ1 else u x ρ1 δ1 q
variable{tA tB':TT2}{rest:List Expr}
theorem l0a(ha:PT2 X Y W a tA):PW2 X Y W (.BoolOp .Or [a] pos) tA:=⟨pw_or1 ha.go⟩
theorem e0g(ha:PT2 X Y W a tA)(hb:PW2 X Y W (.BoolOp .Or (b::rest) pos) tB'):PW2 X Y W (.BoolOp .Or (a::b::rest) pos) (t2Or tA tB'):=pw2 (pw_or ha.go hb.go) fun σ H Q ⟨F,ρ,δ,x,q,I,h,k,kx⟩=>by
 refine ⟨F,ρ,δ,x,_,I,h,fun b F' H' ρ' δ' I' s' h'=>?_,kx⟩;cases b with
 |true=>rw[if_pos rfl]at h' ⊢; exact k true F' H' ρ' δ' I' s' h'
 |false=>rw[if_neg Bool.false_ne_true]at h' ⊢; exact ⟨F',ρ',δ',x,q,I',h',fun b F2 H2 ρ2 δ2 I2 s2 h2=>k b F2 H2 ρ2 δ2 I2 (s'.trans s2) h2,kx.mono s'⟩
theorem PW2.pt(h:PW2 X Y W a tA):PT2 X Y W a tA:=⟨PW.pt h.go⟩
noncomputable def k0z(ta tb:TE2):TE2:=fun x ρ δ q=>ta x ρ δ fun d ρ1 δ1=>match d with | .bl k=>if k=true then tb x ρ1 δ1 q else q (.bl false) ρ1 δ1 |_=>False
noncomputable def t2OrV(ta tb:TE2):TE2:=fun x ρ δ q=>ta x ρ δ fun d ρ1 δ1=>match d with | .bl k=>if k=true then q (.bl true) ρ1 δ1 else tb x ρ1 δ1 q |_=>False
noncomputable def k0y(ta:TE2):TE2:=fun x ρ δ q=>ta x ρ δ fun d ρ1 δ1=>match d with | .bl k=>q (.bl (!k)) ρ1 δ1 |_=>False
theorem k0x{op}(h:PE2 X Y W a ta):PE2 X Y W (.BoolOp op [a] pos) ta:=⟨pe_one h.go⟩
theorem k0w(ha:PE2 X Y W a ta)(hb:PE2 X Y W (.BoolOp .And (b::rest) pos) tb):PE2 X Y W (.BoolOp .And (a::b::rest) pos) (k0z ta tb):=pe2 (pe_and ha.go hb.go) fun σ H Q ⟨F,ρ,δ,x,q,I,h,k,kx⟩=>by
 refine ⟨F,ρ,δ,x,_,I,h,fun d v F' H' ρ' δ' I' s' r' h'=>?_,kx⟩;cases d with
 |bl b=>
  refine ⟨b,rep_bl.mp r',?_⟩;cases b with
  |true=>dsimp only at h';rw[if_pos rfl]at h' ⊢; exact ⟨F',ρ',δ',x,q,I',h',fun d v F2 H2 ρ2 δ2 I2 s2 r2 h2=>k d v F2 H2 ρ2 δ2 I2 (s'.trans s2) r2 h2,kx.mono s'⟩
  |false=>dsimp only at h';rw[if_neg Bool.false_ne_true]at h' ⊢; exact k _ _ F' H' ρ' δ' I' s' (rep_bl.mpr rfl) h'
 |_=>exact h'.elim
theorem e2_not(ha:PE2 X Y W a ta):PE2 X Y W (.UnaryOp .Not a pos) (k0y ta):=pe2 (pe_not ha.go) fun σ H Q ⟨F,ρ,δ,x,q,I,h,k,kx⟩=>by
 refine ⟨F,ρ,δ,x,_,I,h,fun d v F' H' ρ' δ' I' s' r' h'=>?_,kx⟩;cases d with
 |bl b=>exact ⟨b,rep_bl.mp r',k _ _ F' H' ρ' δ' I' s' (rep_bl.mpr rfl) h'⟩
 |_=>exact h'.elim
noncomputable def t2If(t:TT2)(ta tb:TE2):TE2:=fun x ρ δ q=>t x ρ δ fun k ρ1 δ1=>if k=true then ta x ρ1 δ1 q else tb x ρ1 δ1 q
theorem e2_if{e:Expr}(hc:PT2 X Y W e tA)(ha:PE2 X Y W a ta)(hb:PE2 X Y W b tb):PE2 X Y W (.IfExp e a b pos) (t2If tA ta tb):=pe2 (f0d hc.go ha.go hb.go) fun σ H Q ⟨F,ρ,δ,x,q,I,h,k,kx⟩=>by
 refine ⟨F,ρ,δ,x,_,I,h,fun b F' H' ρ' δ' I' s' h'=>?_,kx⟩;cases b with
 |true=>rw[if_pos rfl]at h' ⊢; exact ⟨F',ρ',δ',x,q,I',h',fun d v F2 H2 ρ2 δ2 I2 s2 r2 h2=>k d v F2 H2 ρ2 δ2 I2 (s'.trans s2) r2 h2,kx.mono s'⟩
 |false=>rw[if_neg Bool.false_ne_true]at h' ⊢; exact ⟨F',ρ',δ',x,q,I',h',fun d v F2 H2 ρ2 δ2 I2 s2 r2 h2=>k d v F2 H2 ρ2 δ2 I2 (s'.trans s2) r2 h2,kx.mono s'⟩
noncomputable def v0q(f f':F2)(ta tb tc:TE2):TE2:=fun x ρ δ q=>ta x ρ δ fun d1 ρ1 δ1=>tb x ρ1 δ1 fun d2 ρ2 δ2=>f d1 d2 fun d=>match d with
 | .bl k=>if k=true then tc x ρ2 δ2 fun d3 ρ3 δ3=>f' d2 d3 fun d=>q d ρ3 δ3 else q (.bl false) ρ2 δ2
 |_=>False
theorem k0v{r r':R2}{f f':F2}(hf:OpD X.K r f)(hf':OpD X.K r' f'){σ:St}{H:Hp}{Q:VK}(h:upE X.K Y W (v0q f f' ta tb tc) σ H Q):i0e r r' (upE X.K Y W ta) (upE X.K Y W tb) (upE X.K Y W tc) σ H Q:=by
 obtain ⟨F,ρ,δ,x,q,I,h,k,kx⟩:=h;refine ⟨F,ρ,δ,x,_,I,h,fun d1 v1 F1 H1 ρ1 δ1 I1 s1 r1 h1=>⟨F1,ρ1,δ1,x,_,I1,h1,fun d2 v2 F2 H2 ρ2 δ2 I2 s2 r2 h2=>?_,kx.mono s1⟩,kx⟩;refine hf Y F2 H2 σ ρ2 δ2 v1 v2 d1 d2 _ _ I2 (r1.mono s2) r2 h2 fun d v F' H' I' s' r' q'=>?_
 cases d with
 |bl b=>
  refine ⟨b,rep_bl.mp r',?_⟩;have s3:=(s1.trans s2).trans s';cases b with
  |true=>
   dsimp only at q';rw[if_pos rfl]at q' ⊢;exact ⟨F',ρ2,δ2,x,_,I',q',fun d3 v3 F3 H3 ρ3 δ3 I3 s4 r3 h3=>hf' Y F3 H3 σ ρ3 δ3 v2 v3 d2 d3 _ _ I3 (r2.mono (s'.trans s4)) r3 h3 fun d v F4 H4 I4 s5 r4 q4=>k d v F4 H4 ρ3 δ3 I4 ((s3.trans s4).trans s5) r4 q4,kx.mono s3⟩
  |false=>
   dsimp only at q';rw[if_neg Bool.false_ne_true]at q' ⊢;exact k _ _ F' H' ρ2 δ2 I' s3 (rep_bl.mpr rfl) q'
 |_=>exact q'.elim
theorem e0f{op op':CmpOp}{r r':R2}{f f':F2}(ho:OpR X (compareOp op) r)(ho':OpR X (compareOp op') r')(hf:OpD X.K r f)(hf':OpD X.K r' f')(ha:PE2 X Y W a ta)(hb:PE2 X Y W b tb)(hc:PE2 X Y W c tc)
 (hm:lastMarks [op,op'] [b,c]=false:=by with_unfolding_all rfl):PE2 X Y W (.Compare a [op,op'] [b,c] pos) (v0q f f' ta tb tc):=pe2 (f0a ho ho' ha.go hb.go hc.go hm) fun σ H Q h=>k0v hf hf' h
theorem e0e{op op':CmpOp}{r r':R2}{f f':F2}(ho:OpR X (compareOp op) r)(ho':OpR X (compareOp op') r')(hf:OpD X.K r f)(hf':OpD X.K r' f')(ha:PE2 X Y W a ta)(hb:PE2 X Y W b tb)(hc:PE2 X Y W c tc)
 (hm:lastMarks [op,op'] [b,c]=false:=by with_unfolding_all rfl):PT2 X Y W (.Compare a [op,op'] [b,c] pos) (t2B (v0q f f' ta tb tc)):=pt2 (e0z ho ho' ha.go hb.go hc.go hm) fun σ H Q h=>k0v hf hf' (n0c h)
noncomputable abbrev F1:=List D→(D→Prop)→Prop
noncomputable def v0p(K:Frag)(r:List V→Hp→VK→Prop)(f:F1):Prop:=∀(Y:Y2) (F H:Hp) (σ:St) (ρ:En) (δ:Dk) (vs:List V) (ds:List D) (Q1:VK) (q:D→Prop),I2 K Y F H σ ρ δ→Reps K F ds vs→f ds q→
 (∀d v F' H',I2 K Y F' H' σ ρ δ→Same F F'→Rep K F' d v→q d→Q1 v H')→r vs H Q1
noncomputable def t2Bi(f:F1)(t:TA2):TE2:=fun x ρ δ q=>t x ρ δ fun ds ρ1 δ1=>f ds fun d=>q d ρ1 δ1
theorem up_bi{r:List V→Hp→VK→Prop}{f:F1}{t:TA2}(hf:v0p X.K r f){σ:St}{H:Hp}{Q:VK}(h:upE X.K Y W (t2Bi f t) σ H Q):tCB r (upA X.K Y W t) σ H Q:=by
 obtain ⟨F,ρ,δ,x,q,I,h,k,kx⟩:=h;exact ⟨F,ρ,δ,x,_,I,h,fun ds vs F1 H1 ρ1 δ1 I1 s1 r1 h1=>hf Y F1 H1 σ ρ1 δ1 vs ds _ _ I1 r1 h1 fun d v F' H' I' s' r' q'=>k d v F' H' ρ1 δ1 I' (s1.trans s') r' q',kx⟩
variable{x:Str}{e:Expr}{es:List Expr}{t:TA2}{p:Pos}
theorem e2_b{id:String}{r:List V→Hp→VK→Prop}{f:F1}(hc:x0t X (.builtin id) r)(hf:v0p X.K r f)(hm:X.mg x=none)(hv:bootBuiltins x=some (.builtin id))(ha:PA2 X Y W (e::es) t)(hg:Gl X x:=by rfl)(hn:x≠"__name__":=by decide)(hdb:(x==("__debug__":Str))=false:=by decide)
 (he:starEach (e::es) X.env=(false,eval e X.env)::starEach es X.env:=by exact x6 rfl) (hpl:(backTo pos (starEach es X.env)).any (·.1)=false:=by exact u6 rfl):PE2 X Y W (.Call (.Name x p) (e::es) [] pos) (t2Bi f t):=pe2 (l0h hc hg hm hv ha.go hn hdb he hpl) fun σ H Q h=>up_bi hf h
theorem j0d{T:String}{r:List V→Hp→VK→Prop}{f:F1}(hc:x0t X (.type T) r)(hf:v0p X.K r f)(hm:X.mg x=none)(hv:bootBuiltins x=some (.type T))(ha:PA2 X Y W (e::es) t)(hg:Gl X x:=by rfl)(hn:x≠"__name__":=by decide)(hdb:(x==("__debug__":Str))=false:=by decide)
 (he:starEach (e::es) X.env=(false,eval e X.env)::starEach es X.env:=by exact x6 rfl) (hpl:(backTo pos (starEach es X.env)).any (·.1)=false:=by exact u6 rfl):PE2 X Y W (.Call (.Name x p) (e::es) [] pos) (t2Bi f t):=pe2 (o0q hc hg hm hv ha.go hn hdb he hpl) fun σ H Q h=>up_bi hf h
noncomputable def t2Un(f:D→(D→Prop)→Prop)(ta:TE2):TE2:=fun x ρ δ q=>ta x ρ δ fun d ρ1 δ1=>f d fun d=>q d ρ1 δ1
theorem k0u(ha:PE2 X Y W a ta):PE2 X Y W (.UnaryOp .USub a pos) (t2Un (fun d q=>match d with | .int i=>q (.int (-i))|_=>False) ta):=pe2 (pe_un un_neg ha.go) fun σ H Q ⟨F,ρ,δ,x,q,I,h,k,kx⟩=>by
 refine ⟨F,ρ,δ,x,_,I,h,fun d v F' H' ρ' δ' I' s' r' h'=>?_,kx⟩;cases d with
 |int i=>exact ⟨i,rep_int.mp r',k _ _ F' H' ρ' δ' I' s' (rep_int.mpr rfl) h'⟩
 |_=>exact h'.elim
end
end DL
namespace DL
open PySem PySem.Spec L2
open PySem.W (XC)
section
variable{X:Cx}{K:Frag}
theorem k0t{f:Value→Value→Sem Value}{r r':R2}(h:OpR X f r)(h':OpR X f r'):OpR X f (fun x y H Q=>r x y H Q∨r' x y H Q):=by
 intro pins s σ H x y v u Q I rx ry q;rcases q with q |q
 ·exact h pins s σ H x y v u Q I rx ry q
 ·exact h' pins s σ H x y v u Q I rx ry q
noncomputable def fI(C:Int→Int→Prop)(g:Int→Int→D):F2:=fun d1 d2 q=>match d1,d2 with
 | .int i,.int j=>C i j∧q (g i j)
 |_,_=>False
theorem dI{C:Int→Int→Prop}{g:Int→Int→V}{g':Int→Int→D}(h:∀F i j,Rep K F (g' i j) (g i j)):OpD K (rI C g) (fI C g'):=by
 intro Y F H σ ρ δ x y d1 d2 Q1 q I r1 r2 h' k;unfold fI at h';split at h'
 ·rename_i i j;exact ⟨i,j,rep_int.mp r1,rep_int.mp r2,h'.1,k _ _ F H I (Same.refl F) (h F i j) h'.2⟩
 ·exact h'.elim
noncomputable def fI0(g:Int→Int→D):F2:=fun d1 d2 q=>match d1,d2 with
 | .int i,.int j=>q (g i j)
 |_,_=>False
theorem dI0{g:Int→Int→V}{g':Int→Int→D}(h:∀F i j,Rep K F (g' i j) (g i j)):OpD K (rI0 g) (fI0 g'):=by
 intro Y F H σ ρ δ x y d1 d2 Q1 q I r1 r2 h' k;unfold fI0 at h';split at h'
 ·rename_i i j;exact ⟨i,j,rep_int.mp r1,rep_int.mp r2,k _ _ F H I (Same.refl F) (h F i j) h'⟩
 ·exact h'.elim
noncomputable def a0n(K:Frag):R2:=fun x y H Q=>rI0 (fun i j=>.int (i+j)) x y H Q∨rCat x y H Q
noncomputable def addF:F2:=fun d1 d2 q=>match d1,d2 with
 | .int i,.int j=>q (.int (i+j))
 | .lst xs,.lst ys=>xs.length+ys.length≤1000∧q (.lst (xs++ys))
 |_,_=>False
theorem a0m:OpR X (binaryOp .Add) (a0n X.K):=k0t op_add op_cat
theorem d_add:OpD K (a0n K) addF:=by
 intro Y F H σ ρ δ x y d1 d2 Q1 q I r1 r2 h' k;unfold addF at h';split at h'
 ·rename_i i j;exact .inl ⟨i,j,rep_int.mp r1,rep_int.mp r2,k _ _ F H I (Same.refl F) (rep_int.mpr rfl) h'⟩
 ·rename_i xs ys;obtain ⟨a,vs,rfl,e1,z1⟩:=rep_lst.mp r1;obtain ⟨b,us,rfl,e2,z2⟩:=rep_lst.mp r2;refine .inr ⟨a,b,vs,us,rfl,rfl,I.sub _ _ e1,I.sub _ _ e2,n0d (by rw[z1.length,z2.length];exact h'.1),fun p hp=>k _ _ _ _ (I.alloc hp) (I.grow hp) (I.lst hp (z1.append z2)) h'.2⟩
 ·exact h'.elim
noncomputable abbrev subF:F2:=fI0 fun i j=>.int (i-j)
noncomputable abbrev mulF:F2:=fI CMul fun i j=>.int (i*j)
noncomputable abbrev e0d:F2:=fI CDiv fun i j=>.int (i/j)
noncomputable abbrev modF:F2:=fI (fun _ j=>0<j) fun i j=>.int (i%j)
noncomputable abbrev powF:F2:=fI CPow fun i j=>.int (i^j.toNat)
noncomputable abbrev ltF:F2:=fI0 fun i j=>.bl (decide (i<j))
noncomputable abbrev leF:F2:=fI0 fun i j=>.bl (decide (i≤j))
noncomputable abbrev gtF:F2:=fI0 fun i j=>.bl (decide (j<i))
noncomputable abbrev geF:F2:=fI0 fun i j=>.bl (decide (j≤i))
theorem r0o:OpD K (rI0 fun i j=>.int (i-j)) subF:=dI0 fun _ _ _=>rep_int.mpr rfl
theorem z6:OpD K (rI CMul fun i j=>.int (i*j)) mulF:=dI fun _ _ _=>rep_int.mpr rfl
theorem h0h:OpD K (rI CDiv fun i j=>.int (i/j)) e0d:=dI fun _ _ _=>rep_int.mpr rfl
theorem j0c:OpD K (rI (fun _ j=>0<j) fun i j=>.int (i%j)) modF:=dI fun _ _ _=>rep_int.mpr rfl
theorem d_pow:OpD K (rI CPow fun i j=>.int (i^j.toNat)) powF:=dI fun _ _ _=>rep_int.mpr rfl
theorem d_lt:OpD K (rI0 fun i j=>.bl (decide (i<j))) ltF:=dI0 fun _ _ _=>rep_bl.mpr rfl
theorem d_le:OpD K (rI0 fun i j=>.bl (decide (i≤j))) leF:=dI0 fun _ _ _=>rep_bl.mpr rfl
theorem d_gt:OpD K (rI0 fun i j=>.bl (decide (j<i))) gtF:=dI0 fun _ _ _=>rep_bl.mpr rfl
theorem d_ge:OpD K (rI0 fun i j=>.bl (decide (j≤i))) geF:=dI0 fun _ _ _=>rep_bl.mpr rfl
noncomputable def repF:F2:=fun d1 d2 q=>match d1,d2 with
 | .lst xs,.int k=>xs.length*k.toNat≤1000∧0≤k∧k≤1000∧q (.lst (List.replicate k.toNat xs).flatten)
 |_,_=>False
theorem Reps.rep{F:Hp}{ds:List D}{vs:List V}(h:Reps K F ds vs):∀n:Nat,Reps K F (List.replicate n ds).flatten (List.replicate n vs).flatten
 | 0=>by simp;exact Reps.nil
 |n+1=>by rw[List.replicate_succ,List.replicate_succ,List.flatten_cons,List.flatten_cons];exact h.append (Reps.rep h n)
noncomputable def eqD:D→D→Option Bool
 | .int i,.int j=>some (decide (i=j))
 | .bl i,.bl j=>some (decide (i=j))
 | .str i,.str j=>some (decide (i=j))
 | .non,.non=>some true
 | .non,.int _=>some false | .non,.bl _=>some false | .non,.str _=>some false
 | .int _,.non=>some false | .bl _,.non=>some false | .str _,.non=>some false
 | .int _,.str _=>some false | .bl _,.str _=>some false
 | .str _,.int _=>some false | .str _,.bl _=>some false
 |_,_=>none
noncomputable def eqF:F2:=fun d1 d2 q=>match eqD d1 d2 with |some b=>q (.bl b)|none=>False
noncomputable def neF:F2:=fun d1 d2 q=>match eqD d1 d2 with |some b=>q (.bl (!b))|none=>False
theorem eqD_v{F:Hp}{d1 d2:D}{x y:V}{b:Bool}(h:eqD d1 d2=some b)(r1:Rep K F d1 x)(r2:Rep K F d2 y):scal x y=true∧decide (x=y)=b:=by
 unfold eqD at h;split at h<;>first |cases h |skip
 all_goals
  first
   |(rw[rep_int.mp r1,rep_int.mp r2];exact ⟨rfl,by simp⟩)
   |(rw[rep_bl.mp r1,rep_bl.mp r2];exact ⟨rfl,by simp⟩)
   |(rw[rep_str.mp r1,rep_str.mp r2];exact ⟨rfl,by simp⟩)
   |(rw[rep_non.mp r1,rep_non.mp r2];exact ⟨rfl,by simp⟩)
   |(rw[rep_non.mp r1,rep_int.mp r2];exact ⟨rfl,by simp⟩)
   |(rw[rep_non.mp r1,rep_bl.mp r2];exact ⟨rfl,by simp⟩)
   |(rw[rep_non.mp r1,rep_str.mp r2];exact ⟨rfl,by simp⟩)
   |(rw[rep_int.mp r1,rep_non.mp r2];exact ⟨rfl,by simp⟩)
   |(rw[rep_bl.mp r1,rep_non.mp r2];exact ⟨rfl,by simp⟩)
   |(rw[rep_str.mp r1,rep_non.mp r2];exact ⟨rfl,by simp⟩)
   |(rw[rep_int.mp r1,rep_str.mp r2];exact ⟨rfl,by simp⟩)
   |(rw[rep_bl.mp r1,rep_str.mp r2];exact ⟨rfl,by simp⟩)
   |(rw[rep_str.mp r1,rep_int.mp r2];exact ⟨rfl,by simp⟩)
   |(rw[rep_str.mp r1,rep_bl.mp r2];exact ⟨rfl,by simp⟩)
theorem d_eq:OpD K rEq eqF:=by
 intro Y F H σ ρ δ x y d1 d2 Q1 q I r1 r2 h' k;unfold eqF at h';split at h'
 ·rename_i b e;obtain ⟨s,e2⟩:=eqD_v e r1 r2;exact ⟨s,by rw[e2];exact k _ _ F H I (Same.refl F) (rep_bl.mpr rfl) h'⟩
 ·exact h'.elim
theorem d_ne:OpD K rNe neF:=by
 intro Y F H σ ρ δ x y d1 d2 Q1 q I r1 r2 h' k;unfold neF at h';split at h'
 ·rename_i b e;obtain ⟨s,e2⟩:=eqD_v e r1 r2;exact ⟨s,by rw[e2];exact k _ _ F H I (Same.refl F) (rep_bl.mpr rfl) h'⟩
 ·exact h'.elim
noncomputable def h0g:D→Bool | .non=>true |_=>false
noncomputable def isNF:F2:=fun d1 d2 q=>match d2 with | .non=>q (.bl (h0g d1))|_=>False
noncomputable def notNF:F2:=fun d1 d2 q=>match d2 with | .non=>q (.bl (!h0g d1))|_=>False
noncomputable def isBF:F2:=fun d1 d2 q=>match d1,d2 with | .bl i,.bl j=>q (.bl (i==j))|_,_=>False
noncomputable def notBF:F2:=fun d1 d2 q=>match d1,d2 with | .bl i,.bl j=>q (.bl (!(i==j)))|_,_=>False
noncomputable def seqD:D→Option (List D)
 | .lst xs=>some xs | .tup xs=>some xs | .scr xs=>some xs |_=>none
noncomputable def ixF:F2:=fun d1 d2 q=>match seqD d1,d2 with
 |some xs,.int i=>match atI xs i with |some d=>q d |none=>False
 |_,_=>False
theorem k0s{F H:Hp}{d:D}{xs:List D}{x:V}(s:Same F H)(h:seqD d=some xs)(r:Rep K F d x):∃a vs,x=.ref a∧(SqL K H a vs∨SqT K H a vs)∧Reps K F xs vs:=by
 cases d with
 |lst ys=>cases h;obtain ⟨a,vs,rfl,e,z⟩:=rep_lst.mp r;exact ⟨a,vs,rfl,.inl (SqL.of (s _ _ e)),z⟩
 |tup ys=>cases h;obtain ⟨a,vs,rfl,e,z⟩:=rep_tup.mp r;exact ⟨a,vs,rfl,.inr (SqT.of (s _ _ e)),z⟩
 |scr ys=>cases h;obtain ⟨a,vs,rfl,e,z⟩:=rep_scr.mp r;exact ⟨a,vs,rfl,.inl (s.sqL e),z⟩
 |_=>cases h
theorem d_ix:OpD K (rIx K) ixF:=by
 intro Y F H σ ρ δ x y d1 d2 Q1 q I r1 r2 h' k;unfold ixF at h';split at h'
 ·rename_i xs i e;split at h'
  ·rename_i d ed;obtain ⟨a,vs,rfl,sq,z⟩:=k0s I.sub e r1;obtain ⟨v,ev,rv⟩:=z.atI ed;have fin:=k d v F H I (Same.refl F) rv h';rcases sq with sq |sq
   ·exact .inl ⟨a,vs,i,v,rfl,rep_int.mp r2,sq,ev,fin⟩
   ·exact .inr (.inl ⟨a,vs,i,v,rfl,rep_int.mp r2,sq,ev,fin⟩)
  ·exact h'.elim
 ·exact h'.elim
noncomputable def j8:D→Bool | .non=>true | .bl _=>true | .int _=>true | .str _=>true |_=>false
noncomputable def toV:D→V | .bl b=>.bl b | .int i=>.int i | .str x=>.str x |_=>.non
theorem flat_v{F:Hp}{d:D}{x:V}(h:j8 d=true)(r:Rep K F d x):x=toV d∧t0r x=true:=by
 cases d with
 |non=>rw[rep_non.mp r];exact ⟨rfl,rfl⟩
 |bl b=>rw[rep_bl.mp r];exact ⟨rfl,rfl⟩
 |int b=>rw[rep_int.mp r];exact ⟨rfl,rfl⟩
 |str b=>rw[rep_str.mp r];exact ⟨rfl,rfl⟩
 |_=>cases h
theorem t0m{F:Hp}:∀{ds:List D} {xs:List V},ds.all j8=true→Reps K F ds xs→xs=ds.map toV∧xs.all t0r=true
 | [],xs,_,r=>by rw[reps_nil.mp r];exact ⟨rfl,rfl⟩
 |d::ds,xs,h,r=>by
  obtain ⟨v,vs,rfl,r1,r2⟩:=reps_cons.mp r;rw[List.all_cons,Bool.and_eq_true]at h;obtain ⟨e1,e2⟩:=flat_v h.1 r1;obtain ⟨e3,e4⟩:=t0m h.2 r2;rw[List.all_cons,e2,e4,List.map_cons,← e1,← e3];exact ⟨rfl,rfl⟩
noncomputable def inD(d:D)(xs:List D):Bool:=xs.any fun e=>eqV (toV e) (toV d)
noncomputable def inF:F2:=fun d1 d2 q=>match seqD d2 with |some xs=>(j8 d1&&xs.all j8)=true∧q (.bl (inD d1 xs))|none=>False
noncomputable def notInF:F2:=fun d1 d2 q=>match seqD d2 with |some xs=>(j8 d1&&xs.all j8)=true∧q (.bl (!inD d1 xs))|none=>False
noncomputable def lenF:F1:=fun ds q=>match ds with | [d]=>(match seqD d with |some xs=>q (.int (xs.length:Nat))|none=>False)|_=>False
theorem i9{F:Hp}{d:D}{vs:List V}(r:Reps K F [d] vs):∃v,vs=[v]∧Rep K F d v:=by
 obtain ⟨v,l,rfl,r1,r2⟩:=reps_cons.mp r;rw[reps_nil.mp r2];exact ⟨v,rfl,r1⟩
theorem e0c{F:Hp}{d e:D}{vs:List V}(r:Reps K F [d,e] vs):∃v u,vs=[v,u]∧Rep K F d v∧Rep K F e u:=by
 obtain ⟨v,l,rfl,r1,r2⟩:=reps_cons.mp r;obtain ⟨u,rfl,r3⟩:=i9 r2;exact ⟨v,u,rfl,r1,r3⟩
noncomputable def absF:F1:=fun ds q=>match ds with | [.int i]=>q (.int (if i<0 then -i else i))|_=>False
theorem d_abs:v0p K (fun xs H Q=>∃i,xs=[.int i]∧Q (.int (if i<0 then -i else i)) H) absF:=by
 intro Y F H σ ρ δ vs ds Q1 q I r h' k;unfold absF at h';split at h'
 ·obtain ⟨v,rfl,r1⟩:=i9 r;rw[rep_int.mp r1];exact ⟨_,rfl,k _ _ F H I (Same.refl F) (rep_int.mpr rfl) h'⟩
 ·exact h'.elim
noncomputable def minF:F1:=fun ds q=>match ds with | [.int i,.int j]=>q (.int (if j<i then j else i))|_=>False
noncomputable def maxF:F1:=fun ds q=>match ds with | [.int i,.int j]=>q (.int (if j>i then j else i))|_=>False
theorem a0l:v0p K (fun xs H Q=>∃i j,xs=[.int i,.int j]∧Q (.int (if j<i then j else i)) H) minF:=by
 intro Y F H σ ρ δ vs ds Q1 q I r h' k;unfold minF at h';split at h'
 ·obtain ⟨v,u,rfl,r1,r2⟩:=e0c r;rw[rep_int.mp r1,rep_int.mp r2];exact ⟨_,_,rfl,k _ _ F H I (Same.refl F) (rep_int.mpr rfl) h'⟩
 ·exact h'.elim
noncomputable def intF:F1:=fun ds q=>match ds with | [.int i]=>q (.int i)| [.bl k]=>q (.int (if k then 1 else 0))|_=>False
theorem d_int:v0p K (fun xs H Q=>(∃i,xs=[.int i]∧Q (.int i) H)∨∃k,xs=[.bl k]∧Q (.int (if k then 1 else 0)) H) intF:=by
 intro Y F H σ ρ δ vs ds Q1 q I r h' k;unfold intF at h';split at h'
 ·obtain ⟨v,rfl,r1⟩:=i9 r;rw[rep_int.mp r1];exact .inl ⟨_,rfl,k _ _ F H I (Same.refl F) (rep_int.mpr rfl) h'⟩
 ·obtain ⟨v,rfl,r1⟩:=i9 r;rw[rep_bl.mp r1];exact .inr ⟨_,rfl,k _ _ F H I (Same.refl F) (rep_int.mpr rfl) h'⟩
 ·exact h'.elim
noncomputable def listF:F1:=fun ds q=>match ds with | [d]=>(match seqD d with |some xs=>q (.lst xs)|none=>False)|_=>False
noncomputable def o0f:F1:=fun ds q=>match ds with | [.lst xs]=>q (.tup xs)| [.scr xs]=>q (.tup xs)| [.tup xs]=>q (.tup xs)|_=>False
theorem q0n:v0p K (fun xs H Q=>∃p ys,xs=[.ref p]∧((SqL K H p ys∧∀l,H l=none→Q (.ref l) (upd H l (.tup ys)))∨(SqT K H p ys∧Q (.ref p) H))) o0f:=by
 intro Y F H σ ρ δ vs ds Q1 q I r h' k;unfold o0f at h';split at h'
 ·obtain ⟨v,rfl,r1⟩:=i9 r;obtain ⟨a,us,rfl,e,z⟩:=rep_lst.mp r1;exact ⟨a,us,rfl,.inl ⟨SqL.of (I.sub _ _ e),fun l hl=>k _ _ _ _ (I.alloc hl) (I.grow hl) (I.tup hl z) h'⟩⟩
 ·obtain ⟨v,rfl,r1⟩:=i9 r;obtain ⟨a,us,rfl,e,z⟩:=rep_scr.mp r1;exact ⟨a,us,rfl,.inl ⟨I.sub.sqL e,fun l hl=>k _ _ _ _ (I.alloc hl) (I.grow hl) (I.tup hl z) h'⟩⟩
 ·obtain ⟨v,rfl,r1⟩:=i9 r;obtain ⟨a,us,rfl,e,z⟩:=rep_tup.mp r1;exact ⟨a,us,rfl,.inr ⟨SqT.of (I.sub _ _ e),k _ _ F H I (Same.refl F) (rep_tup.mpr ⟨a,us,rfl,e,z⟩) h'⟩⟩
 ·exact h'.elim
noncomputable def blsD:List D→Option (List Bool)
 | []=>some []
 | .bl b::r=>(blsD r).map (b::·)
 |_=>none
theorem bls_v{F:Hp}:∀{ds:List D} {bs:List Bool} {vs:List V},blsD ds=some bs→Reps K F ds vs→vs=bs.map V.bl
 | [],bs,vs,h,r=>by cases h;rw[reps_nil.mp r];rfl
 |d::ds,bs,vs,h,r=>by
  obtain ⟨v,l,rfl,r1,r2⟩:=reps_cons.mp r;cases d with
  |bl b=>
   unfold blsD at h;obtain ⟨cs,e1,rfl⟩:=Option.map_eq_some_iff.mp h;rw[rep_bl.mp r1,bls_v e1 r2];rfl
  |_=>cases h
noncomputable def allF:F1:=fun ds q=>match ds with | [.lst xs]=>(match blsD xs with |some bs=>q (.bl (bs.all id))|none=>False)|_=>False
theorem d_all:v0p K (rAll K) allF:=by
 intro Y F H σ ρ δ vs ds Q1 q I r h' k;unfold allF at h';split at h'
 ·split at h'
  ·rename_i xs _ bs e;obtain ⟨v,rfl,r1⟩:=i9 r;obtain ⟨a,us,rfl,e2,z⟩:=rep_lst.mp r1;exact ⟨a,bs,rfl,SqL.of (by rw[←bls_v e z];exact I.sub _ _ e2),k _ _ F H I (Same.refl F) (rep_bl.mpr rfl) h'⟩
  ·exact h'.elim
 ·exact h'.elim
structure ClsI(K:Frag)(C:Addr):Prop where
 cl:Cls K C
 ha:PySem.W.findIn K (.ref C) "__class__"=some (some (.builtin "object.__class__"))
 hn:PySem.W.specialIn K (.builtin "object.__class__") "__get__"=some (some (.builtin "getset_descriptor.__get__"))
 htk:PySem.W.takesIn K (.builtin "object.__class__")=some true
 hm:PySem.W.mroIn K C (.type "object")=some true
noncomputable def tyD:D→Value
 | .non=>.type "NoneType" | .bl _=>.type "bool" | .int _=>.type "int" | .str _=>.type "str" | .lst _=>.type "list" | .scr _=>.type "list" | .tup _=>.type "tuple" | .dic _=>.type "dict"
 | .ins C _=>.ref C | .exc C _=>.ref C |_=>.none
noncomputable def TyD(K:Frag):D→Prop
 | .ins C _=>ClsI K C | .exc C _=>XC K C | .ref _=>False | .ty _=>False | .scr _=>False | .dwk _=>False |_=>True
theorem tyD_v{F H:Hp}{d:D}{x:V}(s:Same F H)(t:TyD K d)(r:Rep K F d x):TyX K H x (tyD d):=by
 cases d with
 |non=>rw[rep_non.mp r];exact .of .non
 |bl b=>rw[rep_bl.mp r];exact .of (.bl b)
 |int b=>rw[rep_int.mp r];exact .of (.int b)
 |str b=>rw[rep_str.mp r];exact .of (.str b)
 |lst b=>obtain ⟨a,vs,rfl,e,_⟩:=rep_lst.mp r;exact .of (.lst (s _ _ e))
 |tup b=>obtain ⟨a,vs,rfl,e,_⟩:=rep_tup.mp r;exact .of (.tup (s _ _ e))
 |scr b=>exact t.elim
 |dic b=>obtain ⟨a,vs,rfl,e,_⟩:=rep_dic.mp r;exact .of (.dK (s _ _ e))
 |dwk b=>exact t.elim
 |ins C b=>obtain ⟨a,dx,vs,rfl,e,_⟩:=rep_ins.mp r;exact .of (.ins (s _ _ e) t.cl t.ha t.hn t.htk t.hm)
 |exc C b=>
  obtain ⟨a,fr,rfl,h⟩:=rep_exc.mp r;rcases h with ⟨_,e⟩|⟨d,us,e,e2,_⟩
  ·exact .exc0 (s _ _ e) t
  ·exact .exc (s _ _ e) (s _ _ e2) t
 |ref a=>exact t.elim
 |ty a=>exact t.elim
noncomputable def tysD:List D→Option (List String)
 | []=>some []
 | .ty n::r=>(tysD r).map (n::·)
 |_=>none
theorem tys_v{F:Hp}:∀{ds:List D} {ns:List String} {vs:List V},tysD ds=some ns→Reps K F ds vs→vs=ns.map V.ty
 | [],bs,vs,h,r=>by cases h;rw[reps_nil.mp r];rfl
 |d::ds,bs,vs,h,r=>by
  obtain ⟨v,l,rfl,r1,r2⟩:=reps_cons.mp r;cases d with
  |ty b=>
   unfold tysD at h;obtain ⟨cs,e1,rfl⟩:=Option.map_eq_some_iff.mp h;rw[rep_ty.mp r1,tys_v e1 r2];rfl
  |_=>cases h
noncomputable def h0f(K:Frag)(d c:D):Option Bool:=match c with
 | .ty n=>PySem.W.kitOne K (tyD d) (.type n)
 | .ref C=>PySem.W.kitOne K (tyD d) (.ref C)
 | .tup cs=>match tysD cs with |some ns=>PySem.W.kitAny K (tyD d) (ns.map Value.type)|none=>none
 |_=>none
noncomputable def h0e(K:Frag):F1:=fun ds q=>match ds with | [d,c]=>TyD K d∧(match h0f K d c with |some b=>q (.bl b)|none=>False)|_=>False
theorem h0d:v0p K (rInst K) (h0e K):=by
 intro Y F H σ ρ δ vs ds Q1 q I r h' k;unfold h0e at h';split at h'
 ·rename_i d c;obtain ⟨ht,h'⟩:=h';obtain ⟨v,u,rfl,r1,r2⟩:=e0c r;split at h'
  ·rename_i b e;refine ⟨v,u,_,b,rfl,tyD_v I.sub ht r1,?_,k _ _ F H I (Same.refl F) (rep_bl.mpr rfl) h'⟩;unfold h0f at e;split at e
   ·exact .inl ⟨_,rep_ty.mp r2,e⟩
   ·exact .inr (.inl ⟨_,rep_ref.mp r2,e⟩)
   ·split at e
    ·rename_i ns en;obtain ⟨a,us,rfl,e2,z⟩:=rep_tup.mp r2;exact .inr (.inr ⟨a,ns,rfl,by rw[←tys_v en z];exact I.sub _ _ e2,e⟩)
    ·cases e
   ·cases e
  ·exact h'.elim
 ·exact h'.elim
end
end DL
namespace DL
open PySem PySem.Spec L2
open PySem.W (XC)
structure End2 where
 nx:En→Dk→Prop
 rt:D→Dk→Prop
 xc:XK2
 bk:En→Dk→Prop:=fun _ _=>False
 ct:En→Dk→Prop:=fun _ _=>False
noncomputable abbrev TS2:=End2→En→Dk→Prop
structure ER(K:Frag)(Y:Y2)(W:XW)(F:Hp)(E2:End2)(E1:Ends):Prop where
 nx:∀ σ' F' H' ρ' δ',I2 K Y F' H' σ' ρ' δ'→Same F F'→E2.nx ρ' δ'→E1.nx σ' H'
 rt:∀d v σ' F' H' ρ' δ',I2 K Y F' H' σ' ρ' δ'→Same F F'→Rep K F' d v→E2.rt d δ'→E1.rt v H'
 xc:XR K Y W F E2.xc
 bk:∀ σ' F' H' ρ' δ',I2 K Y F' H' σ' ρ' δ'→Same F F'→E2.bk ρ' δ'→E1.bk σ' H'
 ct:∀ σ' F' H' ρ' δ',I2 K Y F' H' σ' ρ' δ'→Same F F'→E2.ct ρ' δ'→E1.ct σ' H'
theorem ER.mono{K:Frag}{Y:Y2}{W:XW}{F F1:Hp}{E2:End2}{E1:Ends}(h:ER K Y W F E2 E1)(s:Same F F1):ER K Y W F1 E2 E1:=
 ⟨fun σ' F' H' ρ' δ' I s'=>h.nx σ' F' H' ρ' δ' I (s.trans s'),fun d v σ' F' H' ρ' δ' I s'=>h.rt d v σ' F' H' ρ' δ' I (s.trans s'),h.xc.mono s,fun σ' F' H' ρ' δ' I s'=>h.bk σ' F' H' ρ' δ' I (s.trans s'),fun σ' F' H' ρ' δ' I s'=>h.ct σ' F' H' ρ' δ' I (s.trans s')⟩
noncomputable def upS(K:Frag)(Y:Y2)(W:XW)(t:TS2):TS:=fun E1 σ H=>∃F ρ δ E2,I2 K Y F H σ ρ δ∧t E2 ρ δ∧ER K Y W F E2 E1
structure PS2(X:Cx)(Y:Y2)(W:XW)(st:Stmt)(t:TS2):Prop where
 go:PS X st (upS X.K Y W t)
structure PSs2(X:Cx)(Y:Y2)(W:XW)(st:List Stmt)(t:TS2):Prop where
 go:PSs X st (upS X.K Y W t)
theorem a0k{X:Cx}{st:Stmt}{t t':TS}(h:PS X st t)(k:∀D σ H,t' D σ H→t D σ H):PS X st t':=fun pins s σ H D I q=>h pins s σ H D I (k D σ H q)
theorem k0r{X:Cx}{st:List Stmt}{t t':TS}(h:PSs X st t)(k:∀D σ H,t' D σ H→t D σ H):PSs X st t':=fun pins s σ H D I q=>h pins s σ H D I (k D σ H q)
theorem ps2{X:Cx}{Y:Y2}{W:XW}{st:Stmt}{t:TS}{u:TS2}(h:PS X st t)(k:∀D σ H,upS X.K Y W u D σ H→t D σ H):PS2 X Y W st u:=⟨a0k h k⟩
theorem pss2{X:Cx}{Y:Y2}{W:XW}{st:List Stmt}{t:TS}{u:TS2}(h:PSs X st t)(k:∀D σ H,upS X.K Y W u D σ H→t D σ H):PSs2 X Y W st u:=⟨k0r h k⟩
section
variable{X:Cx}{Y:Y2}{W:XW}{st:Stmt}{rest:List Stmt}{t u:TS2}{e:Expr}{te:TE2}{pos:Pos}
noncomputable def k0q:TS2:=fun E ρ δ=>E.nx ρ δ
noncomputable def e0b(t u:TS2):TS2:=fun E ρ δ=>t {E with nx:=u E} ρ δ
theorem w6:PSs2 X Y W [] k0q:=pss2 b0p fun E1 σ H ⟨F,ρ,δ,E2,I,h,er⟩=>er.nx σ F H ρ δ I (Same.refl F) h
theorem o3(h1:PS2 X Y W st t)(h2:PSs2 X Y W rest u):PSs2 X Y W (st::rest) (e0b t u):=pss2 (f0c h1.go h2.go) fun E1 σ H ⟨F,ρ,δ,E2,I,h,er⟩=>
 ⟨F,ρ,δ,{E2 with nx:=u E2},I,h,⟨fun σ' F' H' ρ' δ' I' s' h'=>⟨F',ρ',δ',E2,I',h',er.mono s'⟩,er.rt,er.xc,er.bk,er.ct⟩⟩
theorem l3(h1:PS2 X Y W st t):PSs2 X Y W [st] t:=⟨n0h h1.go⟩
noncomputable def a0j:TS2:=fun E ρ δ=>E.bk ρ δ
noncomputable def t2Cont:TS2:=fun E ρ δ=>E.ct ρ δ
noncomputable def k0p(te:TE2):TS2:=fun E ρ δ=>te E.xc ρ δ fun _ ρ1 δ1=>E.nx ρ1 δ1
theorem x0r(he:PE2 X Y W e te)(hs:swapsWith e none pos.line X.env=pure false:=by rfl):PS2 X Y W (.Expr e pos) (k0p te):=ps2 (b0o he.go hs) fun E1 σ H ⟨F,ρ,δ,E2,I,h,er⟩=>
 ⟨F,ρ,δ,E2.xc,_,I,h,fun d v F' H' ρ' δ' I' s' r' h'=>er.nx σ F' H' ρ' δ' I' s' h',er.xc⟩
noncomputable def e0a(te:TE2):TS2:=fun E ρ δ=>te E.xc ρ δ fun d _ δ1=>E.rt d δ1
theorem o4(he:PE2 X Y W e te):PS2 X Y W (.Return (some e) pos) (e0a te):=ps2 (c0p he.go) fun E1 σ H ⟨F,ρ,δ,E2,I,h,er⟩=>
 ⟨F,ρ,δ,E2.xc,_,I,h,fun d v F' H' ρ' δ' I' s' r' h'=>er.rt d v σ F' H' ρ' δ' I' s' r' h',er.xc⟩
noncomputable def t2RetN:TS2:=fun E _ δ=>E.rt .non δ
noncomputable def d0z(c:TT2)(t u:TS2):TS2:=fun E ρ δ=>c E.xc ρ δ fun b ρ1 δ1=>if b=true then t E ρ1 δ1 else u E ρ1 δ1
theorem i8{c:Expr}{a b:List Stmt}{tc:TT2}(hc:PT2 X Y W c tc)(ha:PSs2 X Y W a t)(hb:PSs2 X Y W b u):PS2 X Y W (.If c a b pos) (d0z tc t u):=ps2 (ps_if hc.go ha.go hb.go) fun E1 σ H ⟨F,ρ,δ,E2,I,h,er⟩=>by
 refine ⟨F,ρ,δ,E2.xc,_,I,h,fun b F' H' ρ' δ' I' s' h'=>?_,er.xc⟩;cases b with
 |true=>rw[if_pos rfl]at h' ⊢; exact ⟨F',ρ',δ',E2,I',h',er.mono s'⟩
 |false=>rw[if_neg Bool.false_ne_true]at h' ⊢; exact ⟨F',ρ',δ',E2,I',h',er.mono s'⟩
variable{i:Nat}{x:Str}{pos' p:Pos}
noncomputable def h0c(i:Nat)(te:TE2):TS2:=fun E ρ δ=>te E.xc ρ δ fun d ρ1 δ1=>E.nx (ρ1.set i (.val d)) δ1
theorem n4(i:Nat)(hN:X.N.Nodup)(he:PE2 X Y W e te)(hi:X.N[i]?=some x:=by rfl)(hx:Loc X.env.scope x:=by walk_at "v2")(hs:swapsWith e (some (.Name x pos')) pos.line X.env=pure false:=by rfl)
 (hf:X.fn x=true∨X.env.scope.names.lookup x=some .local:=by walk_at "v1"):PS2 X Y W (.Assign [.Name x pos'] e pos) (h0c i te):=ps2 (l0k (i:=i) hN hi hx he.go hs hf) fun E1 σ H ⟨F,ρ,δ,E2,I,h,er⟩=>
 ⟨F,ρ,δ,E2.xc,_,I,h,fun d v F' H' ρ' δ' I' s' r' h'=>er.nx _ F' H' _ δ' (I'.put r') s' h',er.xc⟩
theorem I2.own{K:Frag}{F H:Hp}{σ:St}{ρ:En}{δ:Dk}{i:Nat}{p:Addr}{ds:List D}{vs:List V}(I:I2 K Y F H σ ρ δ)(h:H p=none)(r:Reps K F ds vs):I2 K Y F (upd H p (.lst vs)) (σ.set i (some (.ref p))) (ρ.set i (.own ds)) δ:=by
 have hF:F p=none:=I.sub.free h;have h0:=I.ran.fresh h;have key:∀j a,y6 (ρ.set i (.own ds)) (σ.set i (some (.ref p))) j a→(j=i∧a=p)∨(j≠i∧y6 ρ σ j a):=fun j a o=>by
  by_cases z:j=i
  ·subst z;have:=o.2;rw[List.getElem?_set]at this;by_cases hl:j<σ.length
   ·simp[hl]at this;exact .inl ⟨rfl,this.symm⟩
   ·simp[hl]at this
  ·obtain ⟨o1,o2⟩:=o;simp only[List.getElem?_set_ne (Ne.symm z)]at o1 o2;exact .inr ⟨z,o1,o2⟩
 have addr:∀j a,y6 ρ σ j a→a≠p:=fun j a o=>by
  rcases o.1 with ⟨ds,q⟩|⟨C,fs,q⟩|⟨kvs,q⟩
  ·obtain ⟨b,us,e,hb,_⟩:=I.env j _ q;rw[o.2]at e;cases e;exact j0 hb h
  ·obtain ⟨b,dx,us,e,es0,hb,_⟩:=I.env j _ q;rw[o.2]at e;cases e;exact j0 hb h
  ·obtain ⟨b,us,e,hb,_⟩:=I.env j _ q;rw[o.2]at e;cases e;exact j0 hb h
 refine ⟨⟨fun b u e=>?_,fun a es e=>?_,fun b u e f=>?_,I.ran.f0,I.ran.fnew,I.ran.dto⟩,fun j c e=>?_,by simp[I.len],fun a b c n o1 o2=>?_,fun j a o=>?_⟩
 ·rw[g0 (j0 e hF)];exact I.sub _ _ e
 ·obtain ⟨q,us,q2,r2⟩:=I.ran.dk a es e;exact ⟨q,us,by rw[g0 (j0 q2 h)];exact q2,r2⟩
 ·rw[g0 (j0 (I.ran.keep b u e f) h)];exact I.ran.keep b u e f
 ·by_cases z:j=i
  ·subst z;rw[List.getElem?_set]at e;by_cases hl:j<ρ.length
   ·simp[hl]at e;subst e;refine ⟨p,vs,?_,j3,hF,h0,r⟩;rw[List.getElem?_set];simp[I.len▸hl]
   ·simp[hl]at e
  ·rw[List.getElem?_set_ne (Ne.symm z)]at e ⊢;have w:=I.env j c e;cases c with
   |no=>trivial
   |val d=>exact w
   |own es=>
    obtain ⟨b,us,e1,h1,f1,g1,r1⟩:=w;exact ⟨b,us,e1,by rw[g0 (j0 h1 h)];exact h1,f1,g1,r1⟩
   |obj C fs=>
    obtain ⟨b,dx,us,e1,es1,h1,h2,f1,f2,g1,g2,r1⟩:=w;exact ⟨b,dx,us,e1,es1,by rw[g0 (j0 h1 h)];exact h1,by rw[g0 (j0 h2 h)];exact h2,f1,f2,g1,g2,r1⟩
   |ownD kvs=>
    obtain ⟨b,us,e1,h1,f1,g1,r1⟩:=w;exact ⟨b,us,e1,by rw[g0 (j0 h1 h)];exact h1,f1,g1,r1⟩
 ·rcases key a c o1 with ⟨z1,z2⟩|⟨z1,z2⟩
  ·rcases key b c o2 with ⟨y1,y2⟩|⟨y1,y2⟩
   ·exact n (z1.trans y1.symm)
   ·exact addr b c y2 z2
  ·rcases key b c o2 with ⟨y1,y2⟩|⟨y1,y2⟩
   ·exact addr a c z2 y2
   ·exact I.apart a b c n z2 y2
 ·rcases key j a o with ⟨z1,z2⟩|⟨z1,z2⟩
  ·intro b es eb w;obtain ⟨_,us,q2,_⟩:=I.ran.dk b es eb;rw[←w,z2,h]at q2;cases q2
  ·exact I.off j a z2
noncomputable def d0y(i:Nat)(ta:TA2):TS2:=fun E ρ δ=>ta E.xc ρ δ fun ds ρ1 δ1=>ds.length≤1000∧E.nx (ρ1.set i (.own ds)) δ1
theorem k0o(i:Nat){es:List Expr}{ta:TA2}{lpos:Pos}(hN:X.N.Nodup)(ha:PA2 X Y W es ta)(hi:X.N[i]?=some x:=by rfl)(hx:Loc X.env.scope x:=by walk_at "v2")(hs:swapsWith (.List es lpos) (some (.Name x pos')) pos.line X.env=pure false:=by rfl)
 (hf:X.fn x=true∨X.env.scope.names.lookup x=some .local:=by walk_at "v1"):PS2 X Y W (.Assign [.Name x pos'] (.List es lpos) pos) (d0y i ta):=ps2 (l0k (i:=i) hN hi hx (i0b ha.go) hs hf) fun E1 σ H ⟨F,ρ,δ,E2,I,h,er⟩=>
 ⟨F,ρ,δ,E2.xc,_,I,h,fun ds vs F1 H1 ρ1 δ1 I1 s1 r1 h1=>⟨n0d (by rw[r1.length];exact h1.1),fun p hp=>er.nx _ F1 _ _ δ1 (I1.own hp r1) s1 h1.2⟩,er.xc⟩
noncomputable def k0n(i:Nat)(ta:TA2):TS2:=fun E ρ δ=>ta E.xc ρ δ fun ds ρ1 δ1=>match ds with | [d]=>(match seqD d with |some xs=>E.nx (ρ1.set i (.own xs)) δ1 |none=>False)|_=>False
theorem a0i(i:Nat){a:Expr}{ta:TA2}{cpos np:Pos}(hN:X.N.Nodup)(hm:X.mg "list"=none)(ha:PA2 X Y W [a] ta)(hg:Gl X "list":=by rfl)(hst:starEach [a] X.env=[(false,eval a X.env)]:=by rfl)(hi:X.N[i]?=some x:=by rfl)(hx:Loc X.env.scope x:=by walk_at "v2")
 (hs:swapsWith (.Call (.Name "list" np) [a] [] cpos) (some (.Name x pos')) pos.line X.env=pure false:=by rfl) (hf:X.fn x=true∨X.env.scope.names.lookup x=some .local:=by walk_at "v1") (hpl:(backTo cpos (starEach [] X.env)).any (·.1)=false:=by exact u6 rfl):
 PS2 X Y W (.Assign [.Name x pos'] (.Call (.Name "list" np) [a] [] cpos) pos) (k0n i ta):=ps2 (l0k (i:=i) hN hi hx (o0q o0n hg hm h0m ha.go (by decide) (by decide) hst hpl) hs hf) fun E1 σ H ⟨F,ρ,δ,E2,I,h,er⟩=>by
 refine ⟨F,ρ,δ,E2.xc,_,I,h,fun ds vs F1 H1 ρ1 δ1 I1 s1 r1 h1=>?_,er.xc⟩;split at h1
 ·split at h1
  ·rename_i xs e;obtain ⟨v,rfl,r2⟩:=i9 r1;obtain ⟨a,us,rfl,sq,z⟩:=k0s I1.sub e r2;exact ⟨a,us,rfl,sq,fun l hl=>er.nx _ F1 _ _ δ1 (I1.own hl z) s1 h1⟩
  ·exact h1.elim
 ·exact h1.elim
noncomputable def hasV(ρ:En)(i:Nat):Bool:=match ρ[i]? with |some .no=>false |none=>false |_=>true
theorem has_v{K:Frag}{F H:Hp}{σ:St}{ρ:En}{δ:Dk}(I:I2 K Y F H σ ρ δ)(h:hasV ρ i=true):∃v,σ[i]?=some (some v):=by
 unfold hasV at h;split at h
 ·cases h
 ·cases h
 ·rename_i o n1 n2;cases e:ρ[i]? with
  |none=>exact absurd e n2
  |some c=>
   have w:=I.env i c e;cases c with
   |no=>exact absurd e n1
   |val d=>obtain ⟨v,q,_⟩:=w;exact ⟨v,w4 q⟩
   |own ds=>obtain ⟨a,vs,q,_⟩:=w;exact ⟨_,w4 q⟩
   |obj C fs=>obtain ⟨a,dx,vs,q,_⟩:=w;exact ⟨_,w4 q⟩
   |ownD kvs=>obtain ⟨a,vs,q,_⟩:=w;exact ⟨_,w4 q⟩
noncomputable def seqV(ρ:En)(δ:Dk)(i:Nat):Option (List D):=match ρ[i]? with
 |some (.own ds)=>some ds
 |some (.val (.ref a))=>(match δ with |some (b,ds)=>if a=b then some ds else none |none=>none)
 |some (.val d)=>seqD d
 |_=>none
theorem seq_v{K:Frag}{F H:Hp}{σ:St}{ρ:En}{δ:Dk}{ds:List D}(I:I2 K Y F H σ ρ δ)(h:seqV ρ δ i=some ds):∃a vs,σ[i]?=some (some (.ref a))∧(SqL K H a vs∨SqT K H a vs)∧Reps K F ds vs:=by
 unfold seqV at h;split at h
 ·rename_i es e;cases h;obtain ⟨a,vs,q,hh,_,_,r⟩:=I.env i _ e;exact ⟨a,vs,w4 q,.inl (SqL.of hh),r⟩
 ·rename_i a e;split at h
  ·rename_i b es;by_cases z:a=b
   ·subst z;simp at h;subst h;obtain ⟨u,q,r⟩:=I.env i _ e;rw[rep_ref.mp r]at q;obtain ⟨_,vs,hh,rr⟩:=I.ran.dk a es rfl;exact ⟨a,vs,w4 q,.inl (SqL.of hh),rr⟩
   ·simp[z]at h
  ·cases h
 ·rename_i d _ e;obtain ⟨u,q,r⟩:=I.env i _ e;obtain ⟨a,vs,rfl,sq,z⟩:=k0s I.sub h r;exact ⟨a,vs,w4 q,sq,z⟩
 ·cases h
variable{a b:Expr}{ta tb:TE2}
noncomputable def ixQ(o:Option (List D))(d:D):Option D:=match o,d with |some xs,.int j=>atI xs j |_,_=>none
noncomputable def d0x(i:Nat)(tb:TE2):TE2:=fun x ρ δ q=>hasV ρ i=true∧tb x ρ δ fun d ρ1 δ1=>match ixQ (seqV ρ1 δ1 i) d with |some e=>q e ρ1 δ1 |none=>False
theorem l4(i:Nat)(hb:PE2 X Y W b tb)(hN:X.N[i]?=some x:=by rfl)(hv:Vis X.env.scope x:=by walk_at "v3")(hd:(x==("__debug__":Str))=false:=by decide)
 (hcd:(x==("__classdict__":Str))=false:=by decide) (hs:q0q b:=by exact fun _ _=>rfl):PE2 X Y W (.Subscript (.Name x p) b pos) (d0x i tb):=pe2 (b0b h0x (u0q hN hv hd hcd) hb.go hs) fun σ H Q ⟨F,ρ,δ,x,q,I,h,k,kx⟩=>by
 obtain ⟨v,ev⟩:=has_v I h.1;refine ⟨v,ev,F,ρ,δ,x,_,I,h.2,fun d w F' H' ρ' δ' I' s' r' h'=>?_,kx⟩;split at h'
 ·rename_i e ee;unfold ixQ at ee;split at ee
  ·rename_i xs j es;obtain ⟨a,vs,ea,sq,z⟩:=seq_v I' es;rw[ev]at ea;cases ea;obtain ⟨v2,e2,r2⟩:=z.atI ee;have fin:=k e v2 F' H' ρ' δ' I' s' r2 h';rcases sq with sq |sq
   ·exact .inl ⟨a,vs,j,v2,rfl,rep_int.mp r',sq,e2,fin⟩
   ·exact .inr (.inl ⟨a,vs,j,v2,rfl,rep_int.mp r',sq,e2,fin⟩)
  ·cases ee
 ·exact h'.elim
noncomputable def o0e(i:Nat):TE2:=fun x ρ δ q=>match seqV ρ δ i with |some xs=>q (.int (xs.length:Nat)) ρ δ |none=>False
theorem u9(i:Nat){np:Pos}(hm:X.mg "len"=none)(hg:Gl X "len":=by rfl)(hN:X.N[i]?=some x:=by rfl)(hv:Vis X.env.scope x:=by walk_at "v3")(hd:(x==("__debug__":Str))=false:=by decide)
 (hcd:(x==("__classdict__":Str))=false:=by decide) (hst:starEach [.Name x p] X.env=[(false,eval (.Name x p) X.env)]:=by rfl) (hpl:(backTo pos (starEach [] X.env)).any (·.1)=false:=by exact u6 rfl):
 PE2 X Y W (.Call (.Name "len" np) [.Name x p] [] pos) (o0e i):=pe2 (l0h o0o hg hm bt_len (i0c (u0q hN hv hd hcd) c0l hst) (by decide) (by decide) hst hpl) fun σ H Q ⟨F,ρ,δ,x,q,I,h,k,kx⟩=>by
 unfold o0e at h;split at h
 ·rename_i xs e;obtain ⟨a,vs,ea,sq,z⟩:=seq_v I e;exact ⟨_,ea,a,vs,rfl,sq,by rw[z.length];exact k _ _ F H ρ δ I (Same.refl F) (rep_int.mpr rfl) h⟩
 ·exact h.elim
noncomputable def mutV(ρ:En)(δ:Dk)(i:Nat):Option (List D×(List D→En×Dk)):=match ρ[i]? with
 |some (.own ds)=>some (ds,fun es=>(ρ.set i (.own es),δ))
 |some (.val (.ref a))=>(match δ with |some (b,ds)=>if a=b then some (ds,fun es=>(ρ,some (b,es)))else none |none=>none)
 |_=>none
theorem j0b{K:Frag}{F H:Hp}{σ:St}{ρ:En}{δ:Dk}{ds:List D}{put:List D→En×Dk}(I:I2 K Y F H σ ρ δ)(h:mutV ρ δ i=some (ds,put)):
 ∃a vs,σ[i]?=some (some (.ref a))∧H a=some (.lst vs)∧Reps K F ds vs∧∀es us,Reps K F es us→I2 K Y F (upd H a (.lst us)) σ (put es).1 (put es).2:=by
 unfold mutV at h;split at h
 ·rename_i es e;cases h;obtain ⟨a,vs,q,hh,hF,h0,r⟩:=I.env i _ e;have hs:=w4 q;have ho:y6 ρ σ i a:=⟨.inl ⟨_,e⟩,hs⟩;refine ⟨a,vs,hs,hh,r,fun es us r2=>?_⟩;have key:∀j b,y6 (ρ.set i (.own es)) σ j b→y6 ρ σ j b:=fun j b o=>by
   by_cases z:j=i
   ·subst z;exact ⟨ho.1,o.2⟩
   ·obtain ⟨o1,o2⟩:=o;simp only[List.getElem?_set_ne (Ne.symm z)]at o1;exact ⟨o1,o2⟩
  refine ⟨⟨fun b u e=>?_,fun b fs e=>?_,fun b u e f=>?_,I.ran.f0,I.ran.fnew,I.ran.dto⟩,fun j c e'=>?_,by simp[I.len],fun x y b n o1 o2=>I.apart x y b n (key x b o1) (key y b o2),fun j b o=>I.off j b (key j b o)⟩
  ·rw[g0 (j0 e hF)];exact I.sub _ _ e
  ·obtain ⟨q1,ws,q2,q3⟩:=I.ran.dk b fs e;exact ⟨q1,ws,by rw[g0 (Ne.symm (I.off i a ho b fs e))];exact q2,q3⟩
  ·rw[g0 (j0 e h0)];exact I.ran.keep b u e f
  ·by_cases z:j=i
   ·subst z;rw[List.getElem?_set]at e';by_cases hl:j<ρ.length
    ·simp[hl]at e';subst e';exact ⟨a,us,q,j3,hF,h0,r2⟩
    ·simp[hl]at e'
   ·rw[List.getElem?_set_ne (Ne.symm z)]at e';have w:=I.env j c e';cases c with
    |no=>trivial
    |val d=>exact w
    |own fs=>
     obtain ⟨b,ws,e1,h1,f1,g1,r1⟩:=w;have nb:b≠a:=fun w=>I.apart j i a z ⟨.inl ⟨fs,e'⟩,by rw[←w];exact w4 e1⟩ ho
     exact ⟨b,ws,e1,by rw[g0 nb];exact h1,f1,g1,r1⟩
    |obj C fs=>
     obtain ⟨b,dx,ws,e1,es1,h1,h2,f1,f2,g1,g2,r1⟩:=w;have nb:b≠a:=fun w=>by rw[w,hh]at h1;cases h1
     have nd:dx≠a:=fun w=>by rw[w,hh]at h2;cases h2
     exact ⟨b,dx,ws,e1,es1,by rw[g0 nb];exact h1,by rw[g0 nd];exact h2,f1,f2,g1,g2,r1⟩
    |ownD kvs=>
     obtain ⟨b,ws,e1,h1,f1,g1,r1⟩:=w;have nb:b≠a:=fun w=>by rw[w,hh]at h1;cases h1
     exact ⟨b,ws,e1,by rw[g0 nb];exact h1,f1,g1,r1⟩
 ·rename_i a e;split at h
  ·rename_i b es;by_cases z:a=b
   ·subst z;simp at h;obtain ⟨rfl,rfl⟩:=h;obtain ⟨u,q,r⟩:=I.env i _ e;rw[rep_ref.mp r]at q;obtain ⟨hF,vs,hh,rr⟩:=I.ran.dk a es rfl;refine ⟨a,vs,w4 q,hh,rr,fun fs us r2=>?_⟩;refine ⟨⟨fun b u e=>?_,fun b gs e=>?_,fun b u eb fb=>?_,I.ran.f0,I.ran.fnew,⟨fun b gs e=>?_,fun b gs e n=>?_⟩⟩,fun j c e'=>?_,I.len,I.apart,fun j b o c gs e=>?_⟩
    ·rw[g0 (j0 e hF)];exact I.sub _ _ e
    ·cases e;exact ⟨hF,us,j3,r2⟩
    ·have nb:b≠a:=by
      intro w;subst w;cases hd:Y.δ₀ with
      |none=>
       have:=I.ran.dto.2 b es rfl hd;rw[eb]at this;cases this
      |some p0=>
       obtain ⟨c,gs⟩:=p0;obtain ⟨es',w2⟩:=I.ran.dto.1 c gs hd;cases w2;exact fb b gs hd rfl
     rw[g0 nb];exact I.ran.keep b u eb fb
    ·obtain ⟨es',w⟩:=I.ran.dto.1 b gs e;cases w;exact ⟨_,rfl⟩
    ·cases e;exact I.ran.dto.2 a es rfl n
    ·have w:=I.env j c e';cases c with
     |no=>trivial
     |val d=>exact w
     |own fs=>
      obtain ⟨b,ws,e1,h1,f1,g1,r1⟩:=w;have nb:b≠a:=I.off j b ⟨.inl ⟨fs,e'⟩,w4 e1⟩ a es rfl;exact ⟨b,ws,e1,by rw[g0 nb];exact h1,f1,g1,r1⟩
     |obj C fs=>
      obtain ⟨b,dx,ws,e1,es1,h1,h2,f1,f2,g1,g2,r1⟩:=w;have nb:b≠a:=fun w=>by rw[w,hh]at h1;cases h1
      have nd:dx≠a:=fun w=>by rw[w,hh]at h2;cases h2
      exact ⟨b,dx,ws,e1,es1,by rw[g0 nb];exact h1,by rw[g0 nd];exact h2,f1,f2,g1,g2,r1⟩
     |ownD kvs=>
      obtain ⟨b,ws,e1,h1,f1,g1,r1⟩:=w;have nb:b≠a:=fun w=>by rw[w,hh]at h1;cases h1
      exact ⟨b,ws,e1,by rw[g0 nb];exact h1,f1,g1,r1⟩
    ·cases e;exact I.off j b o a es rfl
   ·simp[z]at h
  ·cases h
 ·cases h
noncomputable def k0m(i:Nat)(tj te:TE2):TS2:=fun E ρ δ=>te E.xc ρ δ fun d ρ1 δ1=>hasV ρ1 i=true∧tj E.xc ρ1 δ1 fun dj ρ2 δ2=>match mutV ρ2 δ2 i,dj with
 |some (ds,put),.int j=>(match ixN ds.length j with |some m=>E.nx (put (ds.set m d)).1 (put (ds.set m d)).2 |none=>False)
 |_,_=>False
theorem x0q(i:Nat){j:Expr}{tj:TE2}{spos:Pos}(hj:PE2 X Y W j tj)(he:PE2 X Y W e te)(hN:X.N[i]?=some x:=by rfl)(hv:Vis X.env.scope x:=by walk_at "v3")(hd:(x==("__debug__":Str))=false:=by decide)
 (hcd:(x==("__classdict__":Str))=false:=by decide)
 (ha:∀v,assign (.Subscript (.Name x p) j spos) X.env v=(do
  let ov←holding [v] (eval (.Name x p) X.env)
  let iv←holding [v,ov] (eval j X.env)
  standAt spos
  holding [v,ov,iv] (setItem ov iv v)
  release [v,ov,iv] []):=by intro _;rfl)
 (hs:swapsWithSole [.Subscript (.Name x p) j spos] e pos.line X.env=pure false:=by rfl) (hw:swappedStores [.Subscript (.Name x p) j spos] e X.env=pure none:=by rfl)
 (h1:(assignEach [.Subscript (.Name x p) j spos] X.env).map (·.2)=[assign (.Subscript (.Name x p) j spos) X.env]:=by rfl):
 PS2 X Y W (.Assign [.Subscript (.Name x p) j spos] e pos) (k0m i tj te):=ps2 (c0o he.go (pg_sub (u0q hN hv hd hcd) hj.go l0g ha) hs hw h1) fun E1 σ H ⟨F,ρ,δ,E2,I,h,er⟩=>by
 refine ⟨F,ρ,δ,E2.xc,_,I,h,fun d v F1 H1 ρ1 δ1 I1 s1 r1 h1=>?_,er.xc⟩;obtain ⟨o,eo⟩:=has_v I1 h1.1;refine ⟨o,eo,F1,ρ1,δ1,E2.xc,_,I1,h1.2,fun dj w F2 H2 ρ2 δ2 I2' s2 r2 h2=>?_,er.xc.mono s1⟩;split at h2
 ·rename_i ds put j em;split at h2
  ·rename_i m hm;obtain ⟨a,vs,ea,hh,z,up⟩:=j0b I2' em;rw[eo]at ea;cases ea;refine ⟨a,vs,j,m,rfl,rep_int.mp r2,hh,by rw[z.length];exact hm,er.nx σ F2 _ _ _ (up _ _ (z.set (r1.mono s2) m)) (s1.trans s2) h2⟩
  ·exact h2.elim
 ·exact h2.elim
noncomputable abbrev FM:=List D→List D→(D→List D→Prop)→Prop
noncomputable def MtD(K:Frag)(r:V→List V→Hp→VK→Prop)(m:FM):Prop:=∀(F H:Hp) (a:Addr) (vs us:List V) (ds es:List D) (Q:VK) (q:D→List D→Prop),H a=some (.lst vs)→Reps K F ds vs→Reps K F es us→m ds es q→
 (∀d v ds' vs',Rep K F d v→Reps K F ds' vs'→q d ds'→Q v (upd H a (.lst vs')))→r (.ref a) us H Q
noncomputable def t2MV(i:Nat)(m:FM)(ta:TA2):TE2:=fun x ρ δ q=>(mutV ρ δ i).isSome=true∧ta x ρ δ fun es ρ1 δ1=>match mutV ρ1 δ1 i with
 |some (ds,put)=>m ds es fun d ds'=>q d (put ds').1 (put ds').2
 |none=>False
theorem e2_mv(i:Nat){name:Str}{id:String}{r:V→List V→Hp→VK→Prop}{m:FM}{es:List Expr}{t:TA2}{apos cpos:Pos}(slot:Slot "list" name id)(hty:typeOf (.builtin id)=pure (.type "method_descriptor"))(hm:MtM X id r)(hd2:MtD X.K r m)(hta:PA2 X Y W (e::es) t)
 (hN:X.N[i]?=some x:=by rfl) (hv:Vis X.env.scope x:=by walk_at "v3") (hd:(x==("__debug__":Str))=false:=by decide) (hcd:(x==("__classdict__":Str))=false:=by decide)
 (hbase:attributeBase (.Name x p) name X.env (eval (.Name x p) X.env)=eval (.Name x p) X.env:=by rfl)
 (hfew:((backTo cpos (starEach (e::es) X.env)).all (fun x=>!x.1)&&(backToKw cpos (keywordEach [] X.env)).all (fun x=>x.1.isSome)
  &&decide ((e::es).length+([]:List Keyword).length+(if ([]:List Keyword).isEmpty then 0 else 1)<30))=true:=by rfl)
 (hline:(apos.endLine==cpos.line)=true:=by rfl) (hs:starEach (e::es) X.env=(false,eval e X.env)::starEach es X.env:=by exact x6 rfl) (hplain:(backTo cpos (starEach es X.env)).any (·.1)=false:=by exact u6 rfl):
 PE2 X Y W (.Call (.Attribute (.Name x p) name apos) (e::es) [] cpos) (t2MV i m t):=pe2 (a0z PySem.F.plainAttrs_list slot hty hm (u0q hN hv hd hcd) hta.go hbase hfew hline hs hplain) fun σ H Q ⟨F,ρ,δ,x,q,I,h,k,kx⟩=>by
 obtain ⟨h0,h⟩:=h;obtain ⟨⟨ds0,put0⟩,e0⟩:=Option.isSome_iff_exists.mp h0;obtain ⟨a,vs,ea,hh,z,up⟩:=j0b I e0;refine ⟨_,ea,.inl ⟨rfl,vs,SqL.of hh⟩,F,ρ,δ,x,_,I,h,fun es us F1 H1 ρ1 δ1 I1 s1 r1 h1=>?_,kx⟩;split at h1
 ·rename_i ds put em;obtain ⟨a',vs',ea',hh',z',up'⟩:=j0b I1 em;rw[ea]at ea';cases ea';exact hd2 F1 H1 a vs' us ds es _ _ hh' z' r1 h1 fun d v ds' ws r2 r3 q'=>k d v F1 _ _ _ (up' _ _ r3) s1 r2 q'
 ·exact h1.elim
noncomputable def t2MV0(i:Nat)(m:FM):TE2:=fun x ρ δ q=>match mutV ρ δ i with
 |some (ds,put)=>m ds [] fun d ds'=>q d (put ds').1 (put ds').2
 |none=>False
noncomputable def t0l:FM:=fun ds es q=>match es with | [e]=>ds.length<1000∧q .non (ds++[e])|_=>False
theorem k0l{K:Frag}:MtD K h0w t0l:=by
 intro F H a vs us ds es Q q hh z r h k;unfold t0l at h;split at h
 ·obtain ⟨v,rfl,r1⟩:=i9 r;exact ⟨a,vs,v,rfl,rfl,hh,Nat.lt_of_lt_of_le (by rw[z.length];exact h.1) (show 1000≤PySem.sizeLine by decide),k _ _ _ _ (rep_non.mpr rfl) (z.append (Reps.cons r1 Reps.nil)) h.2⟩
 ·exact h.elim
noncomputable def popM:FM:=fun ds es q=>match es,ds.getLast? with | [],some d=>q d ds.dropLast |_,_=>False
noncomputable def d0w(i:Nat)(f:F2)(te:TE2):TS2:=fun E ρ δ=>rdV ρ i fun d1 ρ0=>te E.xc ρ0 δ fun d2 ρ1 δ1=>f d1 d2 fun d=>E.nx (ρ1.set i (.val d)) δ1
theorem c0c(i:Nat){op:Operator}{g:Int→Int→Int}(hN:X.N.Nodup)(ho:PIp X op (ipI g))(he:PE2 X Y W e te)(hi:X.N[i]?=some x:=by rfl)(hx:Loc X.env.scope x:=by walk_at "v2")
 (hf:X.fn x=true∨X.env.scope.names.lookup x=some .local:=by walk_at "v1"):PS2 X Y W (.AugAssign (.Name x pos') op e pos) (d0w i (fI0 fun a b=>.int (g a b)) te):=ps2 (c0n (i:=i) hN hi hx he.go ho hf) fun E1 σ H ⟨F,ρ,δ,E2,I,h,er⟩=>by
 obtain ⟨d1,v1,F0,ρ0,e1,I0,s0,r1,h⟩:=h0j I h;refine ⟨v1,e1,F0,ρ0,δ,E2.xc,_,I0,h,fun d2 v2 F1 H1 ρ1 δ1 I1 s1 r2 h1=>?_,er.xc.mono s0⟩;unfold fI0 at h1;split at h1
 ·exact ⟨_,_,rep_int.mp r1,rep_int.mp r2,er.nx _ F1 H1 _ δ1 (I1.put (rep_int.mpr rfl)) (s0.trans s1) h1⟩
 ·exact h1.elim
noncomputable def h0b(K:Frag)(f:Str)(ta:TE2):TE2:=fun x ρ δ q=>ta x ρ δ fun d ρ1 δ1=>match d with
 | .ins C fs=>(Cls K C∧NoAttr K C f)∧(match fs.lookup f with |some e=>q e ρ1 δ1 |none=>False)
 |_=>False
theorem RepF.look{K:Frag}{F:Hp}{f:Str}:∀{fs:List (Str×D)} {us:List (Str×V)} {d:D},RepF K F fs us→fs.lookup f=some d→∃v,us.lookup f=some v∧Rep K F d v
 | [],us,d,r,e=>by cases e
 |(g,c)::fs,us,d,r,e=>by
  unfold RepF at r;obtain ⟨v,l,rfl,r1,r2⟩:=r;rw[List.lookup_cons]at e ⊢;split at e
  ·cases e;exact ⟨v,rfl,r1⟩
  ·exact RepF.look r2 e
theorem e2_fld{f:Str}(ha:PE2 X Y W a ta)(hb:attributeBase a f X.env (eval a X.env)=eval a X.env:=by rfl):PE2 X Y W (.Attribute a f pos) (h0b X.K f ta):=pe2 (pe_fld ha.go hb) fun σ H Q ⟨F,ρ,δ,x,q,I,h,k,kx⟩=>by
 refine ⟨F,ρ,δ,x,_,I,h,fun d v F' H' ρ' δ' I' s' r' h'=>?_,kx⟩;cases d with
 |ins C fs=>
  obtain ⟨⟨c,n⟩,h'⟩:=h';obtain ⟨a,dx,us,rfl,e1,e2,rf⟩:=rep_ins.mp r';split at h'
  ·rename_i e ee;obtain ⟨v,ev,rv⟩:=rf.look ee;exact ⟨a,C,dx,us,v,rfl,I'.sub _ _ e1,c,n,ev,k e v F' H' ρ' δ' I' s' rv h'⟩
  ·exact h'.elim
 |_=>exact h'.elim
noncomputable def t2XFld(K:Frag)(f:Str)(ta:TE2):TE2:=fun x ρ δ q=>ta x ρ δ fun d ρ1 δ1=>match d with
 | .exc C fs=>(XC K C∧NoAttr K C f)∧(match fs.lookup f with |some e=>q e ρ1 δ1 |none=>False)
 |_=>False
noncomputable def q0m(f:Str)(v:D):List (Str×D)→List (Str×D)
 | []=>[(f,v)]
 |(g,u)::r=>if g=f then (g,v)::r else (g,u)::q0m f v r
theorem RepF.put{K:Frag}{F:Hp}{f:Str}{d:D}{v:V}(q:Rep K F d v):∀{fs:List (Str×D)} {us:List (Str×V)},RepF K F fs us→RepF K F (q0m f d fs) (putF f v us)
 | [],us,r=>by
  unfold RepF at r;subst r;unfold q0m putF RepF;exact ⟨v,[],rfl,q,by unfold RepF;rfl⟩
 |(g,c)::fs,us,r=>by
  unfold RepF at r;obtain ⟨w,l,rfl,r1,r2⟩:=r;unfold q0m putF;by_cases z:g=f
  ·rw[if_pos z,if_pos z];unfold RepF;exact ⟨v,l,rfl,q,r2⟩
  ·rw[if_neg z,if_neg z];unfold RepF;exact ⟨w,_,rfl,r1,RepF.put q r2⟩
theorem RepF.length{K:Frag}{F:Hp}:∀{fs:List (Str×D)} {us:List (Str×V)},RepF K F fs us→us.length=fs.length
 | [],us,r=>by unfold RepF at r;subst r;rfl
 |(g,c)::fs,us,r=>by
  unfold RepF at r;obtain ⟨w,l,rfl,r1,r2⟩:=r;rw[List.length_cons,List.length_cons,RepF.length r2]
noncomputable def o0d(K:Frag)(i:Nat)(f:Str)(te:TE2):TS2:=fun E ρ δ=>te E.xc ρ δ fun d ρ1 δ1=>match ρ1[i]? with
 |some (.obj C fs)=>(Cls K C∧NoAttr K C f)∧fs.length<1000∧E.nx (ρ1.set i (.obj C (q0m f d fs))) δ1
 |_=>False
theorem I2.self{K:Frag}{F H:Hp}{σ:St}{ρ:En}{δ:Dk}{C:Addr}{fs:List (Str×D)}(I:I2 K Y F H σ ρ δ)(e:ρ[i]?=some (.obj C fs)):
 ∃a dx us,σ[i]?=some (some (.ref a))∧H a=some (.ins C dx us)∧RepF K F fs us∧∀gs ws,RepF K F gs ws→I2 K Y F (upd H a (.ins C dx ws)) σ (ρ.set i (.obj C gs)) δ:=by
 obtain ⟨a,dx,us,q,es0,hh,hd,hF,hF2,h0,h02,r⟩:=I.env i _ e;have hs:=w4 q;have ho:y6 ρ σ i a:=⟨.inr (.inl ⟨_,_,e⟩),hs⟩;refine ⟨a,dx,us,hs,hh,r,fun gs ws r2=>?_⟩;have ndx:dx≠a:=fun w=>by rw[w,hh]at hd;cases hd
 have key:∀j b,y6 (ρ.set i (.obj C gs)) σ j b→y6 ρ σ j b:=fun j b o=>by
  by_cases z:j=i
  ·subst z;exact ⟨ho.1,o.2⟩
  ·obtain ⟨o1,o2⟩:=o;simp only[List.getElem?_set_ne (Ne.symm z)]at o1;exact ⟨o1,o2⟩
 refine ⟨⟨fun b u e=>?_,fun b fs e=>?_,fun b u e f=>?_,I.ran.f0,I.ran.fnew,I.ran.dto⟩,fun j c e'=>?_,by simp[I.len],fun x y b n o1 o2=>I.apart x y b n (key x b o1) (key y b o2),fun j b o=>I.off j b (key j b o)⟩
 ·rw[g0 (j0 e hF)];exact I.sub _ _ e
 ·obtain ⟨q1,ys,q2,q3⟩:=I.ran.dk b fs e;exact ⟨q1,ys,by rw[g0 (Ne.symm (I.off i a ho b fs e))];exact q2,q3⟩
 ·rw[g0 (j0 e h0)];exact I.ran.keep b u e f
 ·by_cases z:j=i
  ·subst z;rw[List.getElem?_set]at e';by_cases hl:j<ρ.length
   ·simp[hl]at e';subst e';exact ⟨a,dx,ws,q,es0,j3,by rw[g0 ndx];exact hd,hF,hF2,h0,h02,r2⟩
   ·simp[hl]at e'
  ·rw[List.getElem?_set_ne (Ne.symm z)]at e';have w:=I.env j c e';cases c with
   |no=>trivial
   |val d=>exact w
   |own fs=>
    obtain ⟨b,ys,e1,h1,f1,g1,r1⟩:=w;have nb:b≠a:=fun w=>by rw[w,hh]at h1;cases h1
    exact ⟨b,ys,e1,by rw[g0 nb];exact h1,f1,g1,r1⟩
   |obj C' fs=>
    obtain ⟨b,dy,ys,e1,es1,h1,h2,f1,f2,g1,g2,r1⟩:=w;have nb:b≠a:=fun w=>I.apart j i a z ⟨.inr (.inl ⟨_,_,e'⟩),by rw[←w];exact w4 e1⟩ ho
    have nd:dy≠a:=fun w=>by rw[w,hh]at h2;cases h2
    exact ⟨b,dy,ys,e1,es1,by rw[g0 nb];exact h1,by rw[g0 nd];exact h2,f1,f2,g1,g2,r1⟩
   |ownD kvs=>
    obtain ⟨b,ys,e1,h1,f1,g1,r1⟩:=w;have nb:b≠a:=fun w=>by rw[w,hh]at h1;cases h1
    exact ⟨b,ys,e1,by rw[g0 nb];exact h1,f1,g1,r1⟩
theorem a0h(i:Nat){f:Str}{tpos:Pos}(he:PE2 X Y W e te)(hN:X.N[i]?=some x:=by rfl)(hv:Vis X.env.scope x:=by walk_at "v3")(hd:(x==("__debug__":Str))=false:=by decide)(hcd:(x==("__classdict__":Str))=false:=by decide)
 (hs:swapsWith e (some (.Attribute (.Name x p) f tpos)) pos.line X.env=pure false:=by rfl):PS2 X Y W (.Assign [.Attribute (.Name x p) f tpos] e pos) (o0d X.K i f te):=ps2 (ps_fld (u0q hN hv hd hcd) he.go hs) fun E1 σ H ⟨F,ρ,δ,E2,I,h,er⟩=>by
 refine ⟨F,ρ,δ,E2.xc,_,I,h,fun d v F1 H1 ρ1 δ1 I1 s1 r1 h1=>?_,er.xc⟩;split at h1
 ·rename_i C fs ee;obtain ⟨⟨c,n⟩,hl,h1⟩:=h1;obtain ⟨a,dx,us,ea,hh,rf,up⟩:=I1.self ee;exact ⟨_,ea,a,C,dx,us,rfl,hh,c,n,by rw[rf.length];exact hl,er.nx σ F1 _ _ δ1 (up _ _ (rf.put r1)) s1 h1⟩
 ·exact h1.elim
end
end DL
namespace DL
open PySem PySem.Spec L2
open PySem.W (XC)
open PyProof.Rows (envOfC)
noncomputable abbrev Sp2:=List D→Dk→(D→Dk→Prop)→(Addr→List (Str×D)→Dk→Prop)→Prop
noncomputable def upF(K:Frag)(sp:Sp2):Sp:=fun vs H Q E=>∃F ds δ q x,Same F H∧DkOk K F H δ∧Reps K F ds vs∧sp ds δ q x∧
 (∀d v F' H' δ',Ran K F H δ F' H' δ'→Rep K F' d v→q d δ'→Q v H')∧∀C od fs F' H' δ',Ran K F H δ F' H' δ'→XRep K F' od fs→x C fs δ'→E (.ref C) od H'
noncomputable abbrev Fun2(P:Program)(w:World)(K:Frag)(mg:Str→Option Value)(base:Heap)(x:Str)(k:Nat)(ps:List Str)(sp:Sp2):Prop:=FnAt P w K mg base (CX1 P w) x k ps (upF K sp)
section
variable{K:Frag}{Y:Y2}{F H F' H':Hp}{σ:St}{ρ:En}{δ δ':Dk}
theorem Ran.trans{F₀ H₀:Hp}{δ₀:Dk}(R:Ran K F₀ H₀ δ₀ F H δ)(S:Ran K F H δ F' H' δ'):Ran K F₀ H₀ δ₀ F' H' δ':=by
 have offs:∀b o,H₀ b=some o→Off δ₀ b→Off δ b:=fun b o e f a ds q w=>by
  subst w;cases hd:δ₀ with
  |none=>have:=R.dto.2 b ds q hd;rw[e]at this;cases this
  |some p=>
   obtain ⟨c,gs⟩:=p;obtain ⟨es,z⟩:=R.dto.1 c gs hd;rw[q]at z;cases z;exact f b gs hd rfl
 have fr:∀p,H p=none→H₀ p=none:=fun p h=>(Ran.fresh (Y:=⟨F₀,H₀,δ₀,none⟩) R h)
 refine ⟨S.sub,S.dk,fun b o e f=>S.keep b o (R.keep b o e f) (offs b o e f),R.f0.trans S.f0,fun b o e=>?_,⟨fun a ds e=>?_,fun a ds e n=>?_⟩⟩
 ·rcases S.fnew b o e with z |z
  ·exact R.fnew b o z
  ·exact .inr (fr b z)
 ·obtain ⟨es,z⟩:=R.dto.1 a ds e;exact S.dto.1 a es z
 ·cases hd:δ with
  |none=>exact fr a (S.dto.2 a ds e hd)
  |some p=>
   obtain ⟨c,gs⟩:=p;obtain ⟨es,z⟩:=S.dto.1 c gs hd;rw[e]at z;cases z;exact R.dto.2 a gs hd n
theorem I2.call(I:I2 K Y F H σ ρ δ)(S:Ran K F H δ F' H' δ'):I2 K Y F' H' σ ρ δ':=by
 have fno:∀a o,H a=some o→F a=none→F' a=none:=fun a o h f=>by
  cases q:F' a with
  |none=>rfl
  |some u=>
   rcases S.fnew a u q with z |z
   ·rw[f]at z;cases z
   ·rw[h]at z;cases z
 have addr:∀j a,y6 ρ σ j a→∃o,H a=some o:=fun j a o=>by
  rcases o.1 with ⟨ds,q⟩|⟨C,fs,q⟩|⟨kvs,q⟩
  ·obtain ⟨b,us,e,hb,_⟩:=I.env j _ q;rw[o.2]at e;cases e;exact ⟨_,hb⟩
  ·obtain ⟨b,dx,us,e,es0,hb,_⟩:=I.env j _ q;rw[o.2]at e;cases e;exact ⟨_,hb⟩
  ·obtain ⟨b,us,e,hb,_⟩:=I.env j _ q;rw[o.2]at e;cases e;exact ⟨_,hb⟩
 refine ⟨I.ran.trans S,fun i c e=>?_,I.len,I.apart,fun j a o b ds e w=>?_⟩
 ·have w:=I.env i c e;cases c with
  |no=>trivial
  |val d=>obtain ⟨u,e1,r⟩:=w;exact ⟨u,e1,r.mono S.f0⟩
  |own ds=>
   obtain ⟨a,vs,e1,h1,f1,g1,r1⟩:=w;have of:=I.off i a ⟨.inl ⟨ds,e⟩,w4 e1⟩;exact ⟨a,vs,e1,S.keep a _ h1 of,fno a _ h1 f1,g1,r1.mono S.f0⟩
  |obj C fs=>
   obtain ⟨a,dx,us,e1,es1,h1,h2,f1,f2,g1,g2,r1⟩:=w;have of:=I.off i a ⟨.inr (.inl ⟨C,fs,e⟩),w4 e1⟩;have od:Off δ dx:=fun b ds q w=>by
    obtain ⟨_,vs,q2,_⟩:=I.ran.dk b ds q;rw[←w,h2]at q2;cases q2
   exact ⟨a,dx,us,e1,es1,S.keep a _ h1 of,S.keep dx _ h2 od,fno a _ h1 f1,fno dx _ h2 f2,g1,g2,r1.mono S.f0⟩
  |ownD ds=>
   obtain ⟨a,vs,e1,h1,f1,g1,r1⟩:=w;have of:=I.off i a ⟨.inr (.inr ⟨ds,e⟩),w4 e1⟩;exact ⟨a,vs,e1,S.keep a _ h1 of,fno a _ h1 f1,g1,r1.mono S.f0⟩
 ·subst w;obtain ⟨u,hu⟩:=addr j a o;cases hd:δ with
  |none=>have:=S.dto.2 a ds e hd;rw[hu]at this;cases this
  |some p=>
   obtain ⟨c,gs⟩:=p;obtain ⟨es,z⟩:=S.dto.1 c gs hd;rw[e]at z;cases z;exact I.off j a o a gs hd rfl
theorem Ran.refl(s:Same F H)(d:DkOk K F H δ):Ran K F H δ F H δ:=⟨s,d,fun _ _ e _=>e,Same.refl F,fun _ _ e=>.inl e,fun a ds e=>⟨ds,e⟩,fun a ds e n=>by rw[n]at e;cases e⟩
end
section
variable{X:Cx}{Y:Y2}{W:XW}{x:Str}{p pos:Pos}{e:Expr}{es:List Expr}{t:TA2}{k:Nat}{ps:List Str}{sp:Sp2}
noncomputable def t0k(sp:Sp2)(t:TA2):TE2:=fun x ρ δ q=>t x ρ δ fun ds ρ1 δ1=>sp ds δ1 (fun d δ2=>q d ρ1 δ2) fun C fs δ2=>x C fs ρ1 δ2
theorem a0g{σ:St}{H:Hp}{Q:VK}(h:upE X.K Y W (t0k sp t) σ H Q):h0r (upF X.K sp) W (upA X.K Y W t) σ H Q:=by
 obtain ⟨F,ρ,δ,x,q,I,h,k,kx⟩:=h;refine ⟨F,ρ,δ,x,_,I,h,fun ds vs F1 H1 ρ1 δ1 I1 s1 r1 h1=>⟨F1,ds,δ1,_,_,I1.sub,I1.ran.dk,r1,h1,fun d v F' H' δ' R r' q'=>?_,fun C od fs F' H' δ' R r' q'=>?_⟩,kx⟩
 ·exact k d v F' H' ρ1 δ' (I1.call R) (s1.trans R.f0) r' q'
 ·exact ⟨C,rfl,kx C od fs σ F' H' ρ1 δ' (I1.call R) (s1.trans R.f0) r' q'⟩
theorem u3(G:Fun2 X.prog X.w X.K X.mg X.base x k ps sp)(hr:Room k X.A)(hf:w0y X W)(ha:PA2 X Y W (e::es) t)(hg:Gl X x:=by rfl)(hdb:(x==("__debug__":Str))=false:=by decide)
 (he:starEach (e::es) X.env=(false,eval e X.env)::starEach es X.env:=by exact x6 rfl) (hpl:(backTo pos (starEach es X.env)).any (·.1)=false:=by exact u6 rfl):PE2 X Y W (.Call (.Name x p) (e::es) [] pos) (t0k sp t):=pe2 (pe_cX G hr hf ha.go hg hdb he hpl) fun σ H Q h=>a0g h
theorem r0a:w0y X (fun _ _ _ _=>False):=fun pins e s ⟨_,_,_,_,_,_,_,_,_,_,_,q⟩=>q.elim
end
noncomputable def v4(N:List Str)(ds:List D):En:=ds.map .val++List.replicate (N.length-ds.length) .no
theorem x0p{K:Frag}{F H H₀:Hp}{sf:Option Addr}:∀{ds:List D} {vs:List V},Reps K F ds vs→∀(n i:Nat) (c:Cell),(ds.map Cell.val++List.replicate n Cell.no)[i]?=some c→CellOk K F H H₀ sf c ((vs.map some++List.replicate n none:St)[i]?).join
 | [],vs,r,n,i,c,e=>by
  rw[List.map_nil,List.nil_append,List.getElem?_replicate]at e;split at e
  ·cases e;trivial
  ·cases e
 |d::ds,vs,r,n,0,c,e=>by
  obtain ⟨v,l,rfl,r1,r2⟩:=reps_cons.mp r;cases e;exact ⟨v,rfl,r1⟩
 |d::ds,vs,r,n,i+1,c,e=>by
  obtain ⟨v,l,rfl,r1,r2⟩:=reps_cons.mp r;exact x0p r2 n i c e
theorem o9{ds:List D}{n i:Nat}{c:Cell}(e:(ds.map Cell.val++List.replicate n Cell.no)[i]?=some c):(∃d,c=.val d)∨c=.no:=by
 have m:=List.mem_of_getElem? e;rcases List.mem_append.mp m with m |m
 ·obtain ⟨d,_,rfl⟩:=List.mem_map.mp m;exact .inl ⟨d,rfl⟩
 ·exact .inr (List.mem_replicate.mp m).2
theorem I2.start{K:Frag}{F H:Hp}{δ:Dk}{ds:List D}{vs:List V}{N:List Str}(s:Same F H)(dk:DkOk K F H δ)(r:Reps K F ds vs):I2 K ⟨F,H,δ,none⟩ F H (L2.start N vs) (v4 N ds) δ:=by
 have no:∀i a,¬y6 (v4 N ds) (L2.start N vs) i a:=fun i a o=>by
  rcases o.1 with ⟨es,q⟩|⟨C,fs,q⟩|⟨kvs,q⟩
  ·rcases o9 q with ⟨d,z⟩|z<;>cases z
  ·rcases o9 q with ⟨d,z⟩|z<;>cases z
  ·rcases o9 q with ⟨d,z⟩|z<;>cases z
 refine ⟨Ran.refl s dk,fun i c e=>?_,?_,fun i j a _ o _=>no i a o,fun i a o=>absurd o (no i a)⟩
 ·unfold L2.start;rw[r.length];exact x0p r _ i c e
 ·unfold L2.start v4;simp[r.length]
section
variable{P:Program}{w:World}{K:Frag}{mg:Str→Option Value}{base:Heap}
theorem def2F{x:Str}{st:Stmt}{f:Addr}{fd:FuncData}{N ps:List Str}{k:Nat}{sp:Sp2}(D:DefAt K mg x st ps f fd)(S:FnScope N ps (defScope st))(len:∀ds δ q x,sp ds δ q x→ds.length=ps.length)
 (hbody:∀(cdv:Value) (A:Around) (outer:List Env) (s:Shared) (H:Hp) (E:XK) (Y:Y2),Room k (A.deeper (envOfC x (defScope st) s.heap.objs.size f cdv))→
  ∃t,PSs2 (cxX P w K mg base N x (defScope st) f cdv A outer s H E) Y (fun C od _ H'=>E (.ref C) od H') (defBody st) t∧
   ∀ds δ q x,sp ds δ q x→t {nx:=fun _ δ=>q .non δ,rt:=q,xc:=fun C fs _ δ=>x C fs δ} (v4 N ds) δ):FnOk P w K mg base (CX1 P w) (k+1) f fd ps (upF K sp):=by
 refine D.F.okX S (fun vs H Q E h=>?_) fun cdv A outer s H vs Q E hr h=>?_
 ·obtain ⟨F,ds,δ,q,x,_,_,r,h,_⟩:=h;rw[r.length];exact len ds δ q x h
 ·obtain ⟨F,ds,δ,q,x,s1,dk,r,h,kq,kx⟩:=h;obtain ⟨t,ht,rd⟩:=hbody cdv A outer s H E ⟨F,H,δ,none⟩ hr;refine ⟨_,ht.go,F,v4 N ds,δ,_,I2.start s1 dk r,rd ds δ q x h,⟨fun σ' F' H' ρ' δ' I' s' h'=>?_,fun d v σ' F' H' ρ' δ' I' s' r' h'=>?_,fun C od fs σ' F' H' ρ' δ' I' s' r' h'=>?_,fun _ _ _ _ _ _ _ z=>z.elim,fun _ _ _ _ _ _ _ z=>z.elim⟩⟩
  ·exact kq .non .non F' H' δ' I'.ran (rep_non.mpr rfl) h'
  ·exact kq d v F' H' δ' I'.ran r' h'
  ·exact kx C od fs F' H' δ' I'.ran r' h'
theorem def2{x:Str}{st:Stmt}{f:Addr}{fd:FuncData}{N ps:List Str}{k:Nat}{sp:Sp2}(D:DefAt K mg x st ps f fd)(S:FnScope N ps (defScope st))(len:∀ds δ q x,sp ds δ q x→ds.length=ps.length)
 (hbody:∀(cdv:Value) (A:Around) (outer:List Env) (s:Shared) (H:Hp) (E:XK) (Y:Y2),Room k (A.deeper (envOfC x (defScope st) s.heap.objs.size f cdv))→
  ∃t,PSs2 (cxX P w K mg base N x (defScope st) f cdv A outer s H E) Y (fun C od _ H'=>E (.ref C) od H') (defBody st) t∧
   ∀ds δ q x,sp ds δ q x→t {nx:=fun _ δ=>q .non δ,rt:=q,xc:=fun C fs _ δ=>x C fs δ} (v4 N ds) δ):Fun2 P w K mg base x (k+1) ps sp:=D.at (def2F D S len hbody)
noncomputable def upI(K:Frag)(C:Addr)(sp:Sp2):Sp:=fun vs H Q E=>∃p dx us H1 F ds δ q x,vs=.ref p::us∧H=upd (upd H1 dx (.own p)) p (.ins C dx [])∧H1 p=none∧H1 dx=none∧dx≠p∧Same F H1∧DkOk K F H1 δ∧Reps K F ds us∧sp ds δ q x∧
 (∀fs F' H' δ',Ran K F H1 δ F' H' δ'→Rep K F' (.ins C fs) (.ref p)→q (.ins C fs) δ'→Q .non H')∧∀C od fs F' H' δ',Ran K F H1 δ F' H' δ'→XRep K F' od fs→x C fs δ'→E (.ref C) od H'
structure Make2(P:Program)(w:World)(K:Frag)(mg:Str→Option Value)(base:Heap)(x:Str)(k:Nat)(sp:Sp2):Prop where
 ex:∃C f fd ps,Mk K C f∧FnOk P w K mg base (CX1 P w) k f fd ps (upI K C sp)∧mg x=some (.ref C)∧Binds K fd ps []
end
section
variable{X:Cx}{Y:Y2}{W:XW}{x:Str}{p pos:Pos}{e:Expr}{es:List Expr}{t:TA2}{k:Nat}{sp:Sp2}
theorem t0j(G:Make2 X.prog X.w X.K X.mg X.base x k sp)(hr:Room (k+1) X.A)(hf:w0y X W)(ha:PA2 X Y W (e::es) t)(hg:Gl X x:=by rfl)(hdb:(x==("__debug__":Str))=false:=by decide)
 (he:starEach (e::es) X.env=(false,eval e X.env)::starEach es X.env:=by exact x6 rfl) (hpl:(backTo pos (starEach es X.env)).any (·.1)=false:=by exact u6 rfl):PE2 X Y W (.Call (.Name x p) (e::es) [] pos) (t0k sp t):=by
 obtain ⟨C,f,fd,ps,M,F,m,b⟩:=G.ex;refine pe2 (e0n M F hr hg m b hf ha.go hdb he hpl) fun σ H Q h=>?_
 obtain ⟨F,ρ,δ,x,q,I,h,k,kx⟩:=h;refine ⟨F,ρ,δ,x,_,I,h,fun ds vs F1 H1 ρ1 δ1 I1 s1 r1 h1=>fun y dx hy hdx ne=>⟨y,dx,vs,H1,F1,ds,δ1,_,_,rfl,rfl,hy,hdx,ne,I1.sub,I1.ran.dk,r1,h1,fun fs F' H' δ' R r' q'=>⟨rfl,?_⟩,fun C od fs F' H' δ' R r' q'=>?_⟩,kx⟩
 ·exact k _ _ F' H' ρ1 δ' (I1.call R) (s1.trans R.f0) r' q'
 ·exact ⟨C,rfl,kx C od fs σ F' H' ρ1 δ' (I1.call R) (s1.trans R.f0) r' q'⟩
end
theorem I2.startO{K:Frag}{F H1:Hp}{δ:Dk}{ds:List D}{us:List V}{N:List Str}{C p dx:Addr}(s:Same F H1)(dk:DkOk K F H1 δ)(r:Reps K F ds us)(hp:H1 p=none)(hdx:H1 dx=none)(ne:dx≠p):
 I2 K ⟨F,H1,δ,some p⟩ F (upd (upd H1 dx (.own p)) p (.ins C dx [])) (some (.ref p)::L2.start N us) (.obj C []::v4 N ds) δ:=by
 have own:∀i a,y6 (.obj C []::v4 N ds) (some (.ref p)::L2.start N us) i a→i=0∧a=p:=fun i a o=>by
  cases i with
  |zero=>have z:=o.2;cases z;exact ⟨rfl,rfl⟩
  |succ i=>
   rcases o.1 with ⟨es,q⟩|⟨C,fs,q⟩|⟨kvs,q⟩
   ·rcases o9 (show (ds.map Cell.val++List.replicate _ Cell.no)[i]?=some _ from q)with ⟨d,z⟩|z<;>cases z
   ·rcases o9 (show (ds.map Cell.val++List.replicate _ Cell.no)[i]?=some _ from q)with ⟨d,z⟩|z<;>cases z
   ·rcases o9 (show (ds.map Cell.val++List.replicate _ Cell.no)[i]?=some _ from q)with ⟨d,z⟩|z<;>cases z
 have kp:∀b o,H1 b=some o→upd (upd H1 dx (.own p)) p (.ins C dx []) b=some o:=fun b o e=>by
  rw[g0 (j0 e hp),g0 (j0 e hdx)];exact e
 refine ⟨⟨fun b o e=>kp b o (s b o e),fun a ds e=>?_,fun b o e _=>kp b o e,Same.refl F,fun b o e=>.inl e,fun a ds e=>⟨ds,e⟩,fun a ds e n=>by rw[show δ=none from n]at e;cases e⟩,fun i c e=>?_,?_,fun i j a n o1 o2=>n ((own i a o1).1.trans (own j a o2).1.symm),fun i a o b ds e w=>?_⟩
 ·obtain ⟨q,vs,q2,r⟩:=dk a ds e;exact ⟨q,vs,kp a _ q2,r⟩
 ·cases i with
  |zero=>
   cases e;refine ⟨p,dx,[],rfl,rfl,j3,by rw[g0 ne,j3],s.free hp,s.free hdx,hp,hdx,?_⟩;unfold RepF;rfl
  |succ i=>
   show CellOk K F _ _ _ c ((L2.start N us)[i]?).join;unfold L2.start;rw[r.length];exact x0p r _ i c e
 ·unfold L2.start v4;simp[r.length]
 ·obtain ⟨_,rfl⟩:=own i a o;obtain ⟨_,vs,q2,_⟩:=dk b ds e;rw[←w,hp]at q2;cases q2
section
variable{P:Program}{w:World}{K:Frag}{mg:Str→Option Value}{base:Heap}
theorem init2{x qual cn:Str}{st:Stmt}{f C:Addr}{fd:FuncData}{N ps:List Str}{k:Nat}{sp:Sp2}(Fn:Fun K x qual st f fd)(M:Mk K C f)(hm:mg cn=some (.ref C))(b:Binds K fd ("self"::ps) [])(S:FnScope ("self"::N) ("self"::ps) (defScope st))(len:∀ds δ q x,sp ds δ q x→ds.length=ps.length)
 (hbody:∀(cdv:Value) (A:Around) (outer:List Env) (s:Shared) (H:Hp) (E:XK) (Y:Y2),Room k (A.deeper (envOfC qual (defScope st) s.heap.objs.size f cdv))→
  ∃t,PSs2 (cxX P w K mg base ("self"::N) qual (defScope st) f cdv A outer s H E) Y (fun C od _ H'=>E (.ref C) od H') (defBody st) t∧
   ∀ds δ q x,sp ds δ q x→t {nx:=fun ρ δ=>∃fs,ρ[0]?=some (.obj C fs)∧q (.ins C fs) δ,rt:=fun _ _=>False,xc:=fun C fs _ δ=>x C fs δ} (.obj C []::v4 N ds) δ):Make2 P w K mg base cn (k+1) sp:=by
 refine ⟨C,f,fd,_,M,Fn.okX S (fun vs H Q E h=>?_) (fun cdv A outer s H vs Q E hr h=>?_),hm,b⟩
 ·obtain ⟨p,dx,us,H1,F,ds,δ,q,x,rfl,_,_,_,_,_,_,r,h,_⟩:=h;rw[List.length_cons,List.length_cons,r.length,len ds δ q x h]
 ·obtain ⟨p,dx,us,H1,F,ds,δ,q,x,rfl,rfl,hp,hdx,ne,s1,dk,r,h,kq,kx⟩:=h;obtain ⟨t,ht,rd⟩:=hbody cdv A outer s _ E ⟨F,H1,δ,some p⟩ hr;have es:L2.start ("self"::N) (V.ref p::us)=some (.ref p)::L2.start N us:=by unfold L2.start;simp
  refine ⟨_,ht.go,?_⟩;rw[es];refine ⟨F,_,δ,_,I2.startO s1 dk r hp hdx ne,rd ds δ q x h,⟨fun σ' F' H' ρ' δ' I' s' h'=>?_,fun d v σ' F' H' ρ' δ' I' s' r' h'=>h'.elim,fun C od fs σ' F' H' ρ' δ' I' s' r' h'=>?_,fun _ _ _ _ _ _ _ z=>z.elim,fun _ _ _ _ _ _ _ z=>z.elim⟩⟩
  ·obtain ⟨fs,e0,hq⟩:=h';obtain ⟨a,dy,ws,e1,es1,h1,h2,f1,f2,g1,g2,r1⟩:=I'.env 0 _ e0;cases (show some p=some a from es1);have nd:dy≠p:=fun w=>by rw[w,h1]at h2;cases h2
   have sF:Same F' (upd (upd F' dy (.own p)) p (.ins C dy ws)):=fun b o e=>by rw[g0 (j0 e f1),g0 (j0 e f2)];exact e
   have R:=I'.ran;refine kq fs (upd (upd F' dy (.own p)) p (.ins C dy ws)) H' δ' ⟨fun b o e=>?_,fun a ds e=>?_,R.keep,R.f0.trans sF,fun b o e=>?_,R.dto⟩ (rep_ins.mpr ⟨p,dy,ws,rfl,j3,by rw[g0 nd,j3],r1.mono sF⟩) hq
   ·by_cases z:b=p
    ·subst z;rw[j3]at e;cases e;exact h1
    ·rw[g0 z]at e;by_cases z2:b=dy
     ·subst z2;rw[j3]at e;cases e;exact h2
     ·rw[g0 z2]at e;exact R.sub _ _ e
   ·obtain ⟨q1,vs,q2,q3⟩:=R.dk a ds e;have n1:a≠p:=fun w=>by rw[w,h1]at q2;cases q2
    have n2:a≠dy:=fun w=>by rw[w,h2]at q2;cases q2
    exact ⟨by rw[g0 n1,g0 n2];exact q1,vs,q2,q3.mono sF⟩
   ·by_cases z:b=p
    ·subst z;exact .inr g1
    ·rw[g0 z]at e;by_cases z2:b=dy
     ·subst z2;exact .inr g2
     ·rw[g0 z2]at e;exact R.fnew b o e
  ·exact kx C od fs F' H' δ' I'.ran r' h'
end
section
variable{X:Cx}{Y:Y2}{W:XW}{x:Str}{p pos cpos:Pos}{e:Expr}{es:List Expr}{t:TA2}{k:Nat}{ps:List Str}{C:Addr}{f g:Str}
theorem d0v{H:Hp}{x d:Addr}{o o1 o2:HO}(hx:H x=none)(ne:d≠x):L2.drop (upd (upd (upd H x o1) d o) x o2) x=upd H d o:=by
 funext b;by_cases z:b=x
 ·subst z;rw[z0e,g0 (Ne.symm ne)];exact hx.symm
 ·rw[z0f z,g0 z];by_cases z2:b=d
  ·subst z2;rw[j3,j3]
  ·rw[g0 z2,g0 z2,g0 z]
theorem h0a{H:Hp}{x:Addr}{o:HO}(hx:H x=none):L2.drop (upd H x o) x=H:=by
 funext b;by_cases z:b=x
 ·subst z;rw[z0e];exact hx.symm
 ·rw[z0f z,g0 z]
theorem repF1{K:Frag}{F:Hp}{f:Str}{d:D}{v:V}(r:Rep K F d v):RepF K F [(f,d)] [(f,v)]:=by
 unfold RepF;exact ⟨v,[],rfl,r,by unfold RepF;rfl⟩
noncomputable def u0f(C:Addr)(f:Str)(t:TA2):TS2:=fun E ρ δ=>t E.xc ρ δ fun ds ρ1 δ1=>match ds with | [d]=>E.xc C [(f,d)] ρ1 δ1 |_=>False
theorem w0w(hc:X.calm=true)(hf:w0y X W)(M:MkE X.prog X.w X.K X.mg X.base x C k ps (spXI C f))(hr:Room (k+1) X.A)(ha:PA2 X Y W (e::es) t)(hg:Gl X x:=by rfl)(hdb:(x==("__debug__":Str))=false:=by decide)
 (he:starEach (e::es) X.env=(false,eval e X.env)::starEach es X.env:=by exact x6 rfl) (hpl:(backTo cpos (starEach es X.env)).any (·.1)=false:=by exact u6 rfl):
 PS2 X Y W (.Raise (some (.Call (.Name x p) (e::es) [] cpos)) none pos) (u0f C f t):=ps2 (h0l hc hf M hr ha.go hg hdb he hpl) fun E1 σ H ⟨F,ρ,δ,E2,I,h,er⟩=>by
 refine ⟨F,ρ,δ,E2.xc,_,I,h,fun ds vs F1 H1 ρ1 δ1 I1 s1 r1 h1=>?_,er.xc⟩;split at h1
 ·rename_i d;obtain ⟨v,rfl,r2⟩:=i9 r1;refine ⟨sz1,fun y hy=>⟨y,v,rfl,j3,fun dx hdx ne=>⟨rfl,some dx,j3,?_⟩⟩⟩;rw[d0v hy ne];have hd:H1 dx=none:=by rw[g0 ne]at hdx;exact hdx
  exact er.xc C (some dx) _ σ _ _ ρ1 δ1 (I1.alloc hd) (s1.trans (I1.grow hd)) ⟨_,j3,(repF1 r2).mono (I1.grow hd)⟩ h1
 ·exact h1.elim
noncomputable def d0u(C:Addr)(f g:Str)(t:TA2):TS2:=fun E ρ δ=>t E.xc ρ δ fun ds ρ1 δ1=>match ds with | [d,d']=>E.xc C (q0m g d' [(f,d)]) ρ1 δ1 |_=>False
noncomputable def u0e(C:Addr):TS2:=fun E ρ δ=>E.xc C [] ρ δ
theorem t0i(hc:X.calm=true)(hf:w0y X W)(M:XMk0 X.K C)(hK:xcIn X.K C=true)(hm:X.mg x=some (.ref C))(hg:Gl X x:=by rfl)(hdb:(x==("__debug__":Str))=false:=by decide):
 PS2 X Y W (.Raise (some (.Call (.Name x p) [] [] cpos)) none pos) (u0e C):=ps2 (h0o hc hf M hK hg hm hdb) fun E1 σ H ⟨F,ρ,δ,E2,I,h,er⟩=>by
 intro y hy;rw[h0a hy];exact er.xc C none [] σ F H ρ δ I (Same.refl F) rfl h
noncomputable def t2Exc1(C:Addr)(f:Str)(t:TA2):TE2:=fun x ρ δ q=>t x ρ δ fun ds ρ1 δ1=>match ds with | [d]=>q (.exc C [(f,d)]) ρ1 δ1 |_=>False
noncomputable def t2Exc2(C:Addr)(f g:Str)(t:TA2):TE2:=fun x ρ δ q=>t x ρ δ fun ds ρ1 δ1=>match ds with | [d,d']=>q (.exc C (q0m g d' [(f,d)])) ρ1 δ1 |_=>False
noncomputable abbrev XTS2:=Addr→List (Str×D)→TS2
noncomputable def upH(K:Frag)(Y:Y2)(W:XW)(t:XTS2):XTS:=fun C od E1 σ H=>∃F ρ δ E2 fs,I2 K Y F H σ ρ δ∧XRep K F od fs∧t C fs E2 ρ δ∧ER K Y W F E2 E1
structure PH2(X:Cx)(Y:Y2)(W:XW)(hs:List ExceptHandler)(t:XTS2):Prop where
 go:PH X hs (upH X.K Y W t)
noncomputable def t2H0:XTS2:=fun _ _ _ _ _=>False
noncomputable abbrev W0:XW:=fun _ _ _ _=>False
noncomputable def noX(E:End2):End2:={E with xc:=fun _ _ _ _=>False}
noncomputable def t2H(K:Frag)(D:Addr)(ts:TS2)(tr:XTS2):XTS2:=fun C fs E ρ δ=>match PySem.W.mroIn K C (.ref D)with |some b=>if b=true then ts (noX E) ρ δ else tr C fs E ρ δ |none=>False
variable{D:Addr}{y n:Str}{np:Pos}{b₀:Stmt}{suite:List Stmt}{rest:List ExceptHandler}{ts:TS2}{tr:XTS2}
noncomputable def asE(i:Nat)(E:End2):End2:={nx:=fun ρ δ=>E.nx (ρ.set i .no) δ,rt:=E.rt,xc:=fun _ _ _ _=>False,bk:=fun ρ δ=>E.bk (ρ.set i .no) δ,ct:=fun ρ δ=>E.ct (ρ.set i .no) δ}
noncomputable def t2HAs(K:Frag)(i:Nat)(D:Addr)(ts:TS2)(tr:XTS2):XTS2:=fun C fs E ρ δ=>match PySem.W.mroIn K C (.ref D)with |some b=>if b=true then ts (asE i E) (ρ.set i (.val (.exc C fs))) δ else tr C fs E ρ δ |none=>False
noncomputable def t2Try(tb:TS2)(th:XTS2):TS2:=fun E ρ δ=>tb {E with xc:=fun C fs ρ' δ'=>th C fs E ρ' δ'} ρ δ
end
end DL
namespace DL
open PySem PySem.Spec L2
open PySem.W (XC)
noncomputable def c0b(K:Frag)(F H:Hp)(d:D)(v:V)(H':Hp):Prop:=(H'=H∧Rep K F d v)∨∃p vs es,H p=none∧H'=upd H p (.tup vs)∧v=.ref p∧d=.tup es∧Reps K F es vs
structure SrcOk(K:Frag)(J:It)(F:Hp)(ds:List D):Prop where
 item:∀(i:Nat) (d:D) (F' H:Hp),ds[i]?=some d→Same F F'→Same F' H→J.go i H∧∀v H',J.yld i H v H'→c0b K F' H d v H'
 stop:∀(F' H:Hp),Same F F'→Same F' H→J.stop ds.length H
theorem I2.yld{K:Frag}{Y:Y2}{F H H':Hp}{σ:St}{ρ:En}{δ:Dk}{d:D}{v:V}(I:I2 K Y F H σ ρ δ)(y:c0b K F H d v H'):∃F',I2 K Y F' H' σ ρ δ∧Same F F'∧Rep K F' d v∧∀D u,H D=some u→F D=none→F' D=none:=by
 rcases y with ⟨rfl,r⟩|⟨p,vs,es,hp,rfl,rfl,rfl,r⟩
 ·exact ⟨F,I,Same.refl F,r,fun _ _ _ z=>z⟩
 ·exact ⟨_,I.alloc hp,I.grow hp,I.tup hp r,fun D u h z=>by rw[g0 (j0 h hp)];exact z⟩
noncomputable abbrev TI2:=XK2→En→Dk→(List D→En→Dk→Prop)→Prop
noncomputable def upI2(K:Frag)(Y:Y2)(W:XW)(t:TI2):TI:=fun σ H R=>∃F ρ δ x q,I2 K Y F H σ ρ δ∧t x ρ δ q∧(∀ds J F' H' ρ' δ',I2 K Y F' H' σ ρ' δ'→Same F F'→SrcOk K J F' ds→q ds ρ' δ'→R J H')∧XR K Y W F x
structure PI2(X:Cx)(Y:Y2)(W:XW)(tg iter:Expr)(t:TI2):Prop where
 go:PI X tg iter (upI2 X.K Y W t)
theorem a0f{X:Cx}{tg iter:Expr}{t t':TI}(h:PI X tg iter t)(k:∀ σ H R,t' σ H R→t σ H R):PI X tg iter t':=fun pins s σ H R I q=>h pins s σ H R I (k σ H R q)
theorem pi2{X:Cx}{Y:Y2}{W:XW}{tg iter:Expr}{t:TI}{u:TI2}(h:PI X tg iter t)(k:∀ σ H R,upI2 X.K Y W u σ H R→t σ H R):PI2 X Y W tg iter u:=⟨a0f h k⟩
section
variable{X:Cx}{Y:Y2}{W:XW}{tg:Expr}{K:Frag}
theorem a0e{F:Hp}{a:Addr}{xs:List V}{ds:List D}(h:SqT K F a xs)(r:Reps K F ds xs):SrcOk K (Itt K a) F ds:=by
 refine ⟨fun i d F' H e s1 s2=>?_,fun F' H s1 s2=>?_⟩
 ·obtain ⟨v,ev,rv⟩:=r.get e;have hs:=(s1.trans s2).sqT h;refine ⟨⟨xs,v,hs,ev⟩,fun u H' y=>?_⟩;obtain ⟨rfl,y⟩:=y;have:=y xs hs;rw[ev]at this;cases this;exact .inl ⟨rfl,rv.mono s1⟩
 ·exact ⟨xs,(s1.trans s2).sqT h,by rw[r.length];exact Nat.le_refl _⟩
theorem g0z{F:Hp}{a:Addr}{xs:List V}{ds:List D}(h:SqL K F a xs)(r:Reps K F ds xs):SrcOk K (Itl K a) F ds:=by
 refine ⟨fun i d F' H e s1 s2=>?_,fun F' H s1 s2=>?_⟩
 ·obtain ⟨v,ev,rv⟩:=r.get e;have hs:=(s1.trans s2).sqL h;refine ⟨⟨xs,v,hs,ev⟩,fun u H' y=>?_⟩;obtain ⟨rfl,y⟩:=y;have:=y xs hs;rw[ev]at this;cases this;exact .inl ⟨rfl,rv.mono s1⟩
 ·exact ⟨xs,(s1.trans s2).sqL h,by rw[r.length];exact Nat.le_refl _⟩
noncomputable def rngD(lo:Int)(n:Nat):List D:=(List.range n).map fun (k:Nat)=>D.int (lo+(k:Int))
theorem w0v{lo:Int}{n i:Nat}{d:D}(e:(rngD lo n)[i]?=some d):i<n∧d=.int (lo+(i:Int)):=by
 unfold rngD at e;rw[List.getElem?_map,Option.map_eq_some_iff]at e;obtain ⟨k,ek,rfl⟩:=e;obtain ⟨h1,h2⟩:=List.getElem?_eq_some_iff.mp ek;rw[List.length_range]at h1;rw[List.getElem_range]at h2;subst h2;exact ⟨h1,rfl⟩
theorem i5{lo:Int}{n:Nat}:(rngD lo n).length=n:=by unfold rngD;simp
theorem g0y{F:Hp}{lo:Int}{n:Nat}:SrcOk K (Itr lo n) F (rngD lo n):=by
 refine ⟨fun i d F' H e s1 s2=>?_,fun F' H s1 s2=>?_⟩
 ·obtain ⟨hi,rfl⟩:=w0v e;refine ⟨hi,fun v H' y=>?_⟩;obtain ⟨rfl,rfl⟩:=y;exact .inl ⟨rfl,rep_int.mpr rfl⟩
 ·show n≤_;rw[i5];exact Nat.le_refl _
noncomputable def iSeq(K:Frag)(tl:TE):TI:=fun σ H R=>tl σ H fun x H1=>∃a,x=.ref a∧(((∃xs,SqL K H1 a xs)∧R (Itl K a) H1)∨((∃xs,SqT K H1 a xs)∧R (Itt K a) H1))
theorem pi_seq{l:Expr}{tl:TE}(hl:PE X l tl):PI X tg l (iSeq X.K tl):=by
 intro pins s σ H R I h;refine thn (hl pins s σ H _ I h) fun v s1 ⟨x,H1,I1,r1,q1⟩=>?_
 obtain ⟨a,e,q⟩:=q1;subst e;cases r1;rcases q with ⟨⟨xs,hq⟩,q⟩|⟨⟨xs,hq⟩,q⟩
 ·obtain ⟨its,rv,p,hz⟩:=I1.list hq;refine wpAny_pyIter_list p.isList ?_;refine ⟨s1.heap.objs.size,[s1.heap.objs.size],_,_,H1,rfl,I1.kept (t':=s1.toks) fun b o e=>Heap.get?_push_of_some _ e,i0m a _,⟨_,Heap.get?_push_size _ rfl,rfl,rfl⟩,fun b hb=>?_,q⟩;have e:b=s1.heap.objs.size:=by simpa using hb
  subst e;exact I1.fpOk (Nat.le_refl _) (I1.hok.fresh (Nat.le_refl _))
 ·obtain ⟨its,rv,p,hz⟩:=I1.tuple hq;refine wpAny_pyIter_tuple (show s1.heap.IsTuple a its.toArray from p) ?_;refine ⟨s1.heap.objs.size,[s1.heap.objs.size],_,_,H1,rfl,I1.kept (t':=s1.toks) fun b o e=>Heap.get?_push_of_some _ e,j0p a _,⟨_,Heap.get?_push_size _ rfl,rfl,rfl⟩,fun b hb=>?_,q⟩;have e:b=s1.heap.objs.size:=by simpa using hb
  subst e;exact I1.fpOk (Nat.le_refl _) (I1.hok.fresh (Nat.le_refl _))
noncomputable def t2Is(te:TE2):TI2:=fun x ρ δ q=>te x ρ δ fun d ρ1 δ1=>match seqD d with |some ds=>q ds ρ1 δ1 |none=>False
theorem c0a{F:Hp}{d:D}{xs:List D}{x:V}(h:seqD d=some xs)(r:Rep K F d x):∃a vs,x=.ref a∧(SqL K F a vs∨SqT K F a vs)∧Reps K F xs vs:=k0s (Same.refl F) h r
theorem k0k{l:Expr}{te:TE2}(hl:PE2 X Y W l te):PI2 X Y W tg l (t2Is te):=pi2 (pi_seq hl.go) fun σ H R ⟨F,ρ,δ,x,q,I,h,k,kx⟩=>by
 refine ⟨F,ρ,δ,x,_,I,h,fun d v F' H' ρ' δ' I' s' r' h'=>?_,kx⟩;split at h'
 ·rename_i ds e;obtain ⟨a,vs,rfl,sq,z⟩:=c0a e r';refine ⟨a,rfl,?_⟩;rcases sq with sq |sq
  ·exact .inl ⟨⟨vs,I'.sub.sqL sq⟩,k ds _ F' H' ρ' δ' I' s' (g0z sq z) h'⟩
  ·exact .inr ⟨⟨vs,I'.sub.sqT sq⟩,k ds _ F' H' ρ' δ' I' s' (a0e sq z) h'⟩
 ·exact h'.elim
variable{a b:Expr}{ta:TA2}{p pos:Pos}
noncomputable def t2R1(ta:TA2):TI2:=fun x ρ δ q=>ta x ρ δ fun ds ρ1 δ1=>match ds with | [.int j]=>(-(2^62)≤j∧j<2^62)∧q (rngD 0 j.toNat) ρ1 δ1 |_=>False
theorem n9(hm:X.mg "range"=none)(ha:PA2 X Y W [a] ta)(hg:Gl X "range":=by rfl)(hs:starEach [a] X.env=[(false,eval a X.env)]:=by rfl):PI2 X Y W tg (.Call (.Name "range" p) [a] [] pos) (t2R1 ta):=pi2 (i0l hg hm ha.go hs) fun σ H R ⟨F,ρ,δ,x,q,I,h,k,kx⟩=>by
 refine ⟨F,ρ,δ,x,_,I,h,fun ds vs F' H' ρ' δ' I' s' r' h'=>?_,kx⟩;split at h'
 ·rename_i j;obtain ⟨v,rfl,r1⟩:=i9 r';rw[rep_int.mp r1];exact ⟨j,rfl,h'.1.1,h'.1.2,k _ _ F' H' ρ' δ' I' s' g0y h'.2⟩
 ·exact h'.elim
noncomputable def t2R2(ta:TA2):TI2:=fun x ρ δ q=>ta x ρ δ fun ds ρ1 δ1=>match ds with | [.int i,.int j]=>(-(2^62)≤i∧i<2^62∧-(2^62)≤j∧j<2^62)∧q (rngD i (j-i).toNat) ρ1 δ1 |_=>False
theorem o0c(hm:X.mg "range"=none)(ha:PA2 X Y W [a,b] ta)(hg:Gl X "range":=by rfl)(hs:starEach [a,b] X.env=[(false,eval a X.env),(false,eval b X.env)]:=by rfl)(hs2:starEach [b] X.env=[(false,eval b X.env)]:=by rfl):
 PI2 X Y W tg (.Call (.Name "range" p) [a,b] [] pos) (t2R2 ta):=pi2 (i0k hg hm ha.go hs hs2) fun σ H R ⟨F,ρ,δ,x,q,I,h,k,kx⟩=>by
 refine ⟨F,ρ,δ,x,_,I,h,fun ds vs F' H' ρ' δ' I' s' r' h'=>?_,kx⟩;split at h'
 ·rename_i i j;obtain ⟨v,u,rfl,r1,r2⟩:=e0c r';rw[rep_int.mp r1,rep_int.mp r2];exact ⟨i,j,rfl,h'.1,k _ _ F' H' ρ' δ' I' s' g0y h'.2⟩
 ·exact h'.elim
end
noncomputable abbrev G2:=D→En→Option En
noncomputable def TgD(K:Frag)(g:TG)(g2:G2):Prop:=∀(Y:Y2) (F H:Hp) (σ:St) (ρ ρ':En) (δ:Dk) (d:D) (v:V) (Q:St→Hp→Prop),I2 K Y F H σ ρ δ→Rep K F d v→g2 d ρ=some ρ'→(∀ σ',I2 K Y F H σ' ρ' δ→Q σ' H)→g v σ H Q
noncomputable def g2N(i:Nat):G2:=fun d ρ=>some (ρ.set i (.val d))
theorem q0l{K:Frag}{i:Nat}:TgD K (n0g i) (g2N i):=fun Y F H σ ρ ρ' δ d v Q I r e k=>by cases e;exact k _ (I.put r)
noncomputable def t0h:List Nat→List D→En→Option En
 | [],[],ρ=>some ρ
 |i::is,d::ds,ρ=>t0h is ds (ρ.set i (.val d))
 |_,_,_=>none
noncomputable def g2T(is:List Nat):G2:=fun d ρ=>match d with | .tup ds=>t0h is ds ρ |_=>none
noncomputable def gAll:List Nat→TGs
 | []=>gNil
 |i::is=>gCons (n0g i) (gAll is)
theorem b0z{K:Frag}:∀{is:List Nat} {ds:List D} {vs:List V} {Y:Y2} {F H:Hp} {σ:St} {ρ ρ':En} {δ:Dk} {Q:St→Hp→Prop},I2 K Y F H σ ρ δ→Reps K F ds vs→t0h is ds ρ=some ρ'→(∀ σ',I2 K Y F H σ' ρ' δ→Q σ' H)→gAll is vs σ H Q∧vs.length=is.length
 | [],[],vs,Y,F,H,σ,ρ,ρ',δ,Q,I,r,e,k=>by cases e;rw[reps_nil.mp r];exact ⟨⟨rfl,k σ I⟩,rfl⟩
 |i::is,d::ds,vs,Y,F,H,σ,ρ,ρ',δ,Q,I,r,e,k=>by
  obtain ⟨v,l,rfl,r1,r2⟩:=reps_cons.mp r;obtain ⟨h1,h2⟩:=b0z (I.put (i:=i) r1) r2 e k;exact ⟨⟨v,l,rfl,h1⟩,by rw[List.length_cons,List.length_cons,h2]⟩
 | [],d::ds,vs,Y,F,H,σ,ρ,ρ',δ,Q,I,r,e,k=>by cases e
 |i::is,[],vs,Y,F,H,σ,ρ,ρ',δ,Q,I,r,e,k=>by cases e
theorem t0g{K:Frag}{is:List Nat}{n:Nat}(hn:is.length=n):TgD K (gTup K n (gAll is)) (g2T is):=fun Y F H σ ρ ρ' δ d v Q I r e k=>by
 unfold g2T at e;split at e
 ·rename_i ds;obtain ⟨a,vs,rfl,ea,z⟩:=rep_tup.mp r;obtain ⟨h1,h2⟩:=b0z I z e k;exact ⟨a,vs,rfl,SqT.of (I.sub _ _ ea),by rw[h2,hn],h1⟩
 ·cases e
noncomputable def forL(g:G2)(body:TS2)(E:End2):List D→En→Dk→Prop
 | [],ρ,δ=>E.nx ρ δ
 |d::ds,ρ,δ=>match g d ρ with
  |some ρ'=>body {E with nx:=forL g body E ds,ct:=forL g body E ds,bk:=E.nx} ρ' δ
  |none=>False
noncomputable def d0t(ti:TI2)(g:G2)(body:TS2):TS2:=fun E ρ δ=>ti E.xc ρ δ fun ds ρ1 δ1=>forL g body E ds ρ1 δ1
section
variable{X:Cx}{Y:Y2}{W:XW}{tg iter:Expr}{pos:Pos}
theorem x0u{body:List Stmt}{ti:TI2}{g:TG}{g2:G2}{tb:TS2}(hp:PassesOwn (model X.prog X.w) X.A X.env X.xe)(hc:X.calm=true)(hi:PI2 X Y W tg iter ti)(hg:PG X tg g)(hd:TgD X.K g g2)(hb:PSs2 X Y W body tb)
 (hs:∀x,foldedSetIterable iter X.env x=pure x:=by intro _;rfl):PS2 X Y W (.For tg iter body [] pos) (d0t ti g2 tb):=ps2 (ps_for hp hc hi.go hg hb.go hs) fun E1 σ H ⟨F,ρ,δ,E2,I,h,er⟩=>by
 refine ⟨F,ρ,δ,E2.xc,_,I,h,fun ds J F1 H1 ρ1 δ1 I1 s1 src h1=>?_,er.xc⟩;refine ⟨fun i m σ H=>∃F' ρ' δ',I2 X.K Y F' H σ ρ' δ'∧Same F1 F'∧forL g2 tb E2 (ds.drop i) ρ' δ'∧i≤ds.length∧m=ds.length-i,⟨ds.length,F1,ρ1,δ1,I1,Same.refl F1,by simpa using h1,Nat.zero_le _,by simp⟩,?_⟩;rintro i m σ' H' ⟨F',ρ',δ',I',s',h',hi,rfl⟩;cases e:ds[i]? with
 |none=>
  have hl:ds.length≤i:=List.getElem?_eq_none_iff.mp e;have ei:i=ds.length:=by omega
  subst ei;rw[List.drop_length]at h';exact .inl ⟨src.stop F' H' s' I'.sub,er.nx σ' F' H' ρ' δ' I' (s1.trans s') h'⟩
 |some d=>
  have hl:i<ds.length:=(List.getElem?_eq_some_iff.mp e).1;obtain ⟨go,yl⟩:=src.item i d F' H' e s' I'.sub;refine .inr ⟨go,fun σ2 H2=>∃F2 ρ2 δ2,I2 X.K Y F2 H2 σ2 ρ2 δ2∧Same F1 F2∧forL g2 tb E2 (ds.drop (i+1)) ρ2 δ2,fun σ2 H2 ⟨F2,ρ2,δ2,I2',s2,h2⟩=>⟨ds.length-(i+1),by omega,F2,ρ2,δ2,I2',s2,h2,hl,rfl⟩,fun x H2 y=>?_⟩;obtain ⟨F2,I2',s2,r2,_⟩:=I'.yld (yl x H2 y);have ed:ds.drop i=d::ds.drop (i+1):=by rw[List.drop_eq_getElem_cons hl];congr 1;exact (List.getElem?_eq_some_iff.mp e).2
  rw[ed]at h';unfold forL at h';split at h'
  ·rename_i ρ3 e3;refine hd Y F2 H2 σ' ρ' ρ3 δ' d x _ I2' r2 e3 fun σ3 I3=>?_
   have sa:Same F1 F2:=s'.trans s2;refine ⟨F2,ρ3,δ',_,I3,h',⟨fun σ4 F4 H4 ρ4 δ4 I4 s4 h4=>⟨F4,ρ4,δ4,I4,sa.trans s4,h4⟩,fun d v σ4 F4 H4 ρ4 δ4 I4 s4=>er.rt d v σ4 F4 H4 ρ4 δ4 I4 ((s1.trans sa).trans s4),er.xc.mono (s1.trans sa),fun σ4 F4 H4 ρ4 δ4 I4 s4 h4=>er.nx σ4 F4 H4 ρ4 δ4 I4 ((s1.trans sa).trans s4) h4,fun σ4 F4 H4 ρ4 δ4 I4 s4 h4=>⟨F4,ρ4,δ4,I4,sa.trans s4,h4⟩⟩⟩
  ·exact h'.elim
end
section
variable{K:Frag}{Y:Y2}{F H:Hp}{σ:St}{ρ:En}{δ:Dk}
theorem I2.side{D:Addr}{o:HO}(I:I2 K Y F H σ ρ δ)(hF:F D=none)(h0:Y.H₀ D=none)(hd:Off δ D)(hD:∃vs,H D=some (.lst vs))(no:∀j a,y6 ρ σ j a→a≠D):I2 K Y F (upd H D o) σ ρ δ:=by
 obtain ⟨vs,hD⟩:=hD;refine ⟨⟨fun b u e=>?_,fun b fs e=>?_,fun b u e f=>?_,I.ran.f0,I.ran.fnew,I.ran.dto⟩,fun j c e=>?_,I.len,I.apart,I.off⟩
 ·rw[g0 (j0 e hF)];exact I.sub _ _ e
 ·obtain ⟨q1,ws,q2,q3⟩:=I.ran.dk b fs e;exact ⟨q1,ws,by rw[g0 (Ne.symm (hd b fs e))];exact q2,q3⟩
 ·rw[g0 (j0 e h0)];exact I.ran.keep b u e f
 ·have w:=I.env j c e;cases c with
  |no=>trivial
  |val d=>exact w
  |own fs=>
   obtain ⟨b,ws,e1,h1,f1,g1,r1⟩:=w;exact ⟨b,ws,e1,by rw[g0 (no j b ⟨.inl ⟨fs,e⟩,w4 e1⟩)];exact h1,f1,g1,r1⟩
  |obj C fs=>
   obtain ⟨b,dx,ws,e1,es1,h1,h2,f1,f2,g1,g2,r1⟩:=w;have nd:dx≠D:=fun w=>by rw[w,hD]at h2;cases h2
   exact ⟨b,dx,ws,e1,es1,by rw[g0 (no j b ⟨.inr (.inl ⟨C,fs,e⟩),w4 e1⟩)];exact h1,by rw[g0 nd];exact h2,f1,f2,g1,g2,r1⟩
  |ownD fs=>
   obtain ⟨b,ws,e1,h1,f1,g1,r1⟩:=w;exact ⟨b,ws,e1,by rw[g0 (no j b ⟨.inr (.inr ⟨fs,e⟩),w4 e1⟩)];exact h1,f1,g1,r1⟩
theorem I2.ice{D:Addr}{vs:List V}(I:I2 K Y F H σ ρ δ)(hF:F D=none)(h0:Y.H₀ D=none)(hd:Off δ D)(hD:H D=some (.lst vs))(no:∀j a,y6 ρ σ j a→a≠D):I2 K Y (upd F D (.lst vs)) H σ ρ δ:=by
 refine ⟨⟨fun b u e=>?_,fun b fs e=>?_,I.ran.keep,fun b u e=>?_,fun b u e=>?_,I.ran.dto⟩,fun j c e=>?_,I.len,I.apart,I.off⟩
 ·by_cases z:b=D
  ·subst z;rw[j3]at e;cases e;exact hD
  ·rw[g0 z]at e;exact I.sub _ _ e
 ·obtain ⟨q1,ws,q2,q3⟩:=I.ran.dk b fs e;exact ⟨by rw[g0 (Ne.symm (hd b fs e))];exact q1,ws,q2,q3.mono (Same.new hF)⟩
 ·rw[g0 (j0 (I.ran.f0 b u e) hF)];exact I.ran.f0 b u e
 ·by_cases z:b=D
  ·subst z;exact .inr h0
  ·rw[g0 z]at e;exact I.ran.fnew b u e
 ·have w:=I.env j c e;cases c with
  |no=>trivial
  |val d=>obtain ⟨u,e1,r1⟩:=w;exact ⟨u,e1,r1.mono (Same.new hF)⟩
  |own fs=>
   obtain ⟨b,ws,e1,h1,f1,g1,r1⟩:=w;exact ⟨b,ws,e1,h1,by rw[g0 (no j b ⟨.inl ⟨fs,e⟩,w4 e1⟩)];exact f1,g1,r1.mono (Same.new hF)⟩
  |obj C fs=>
   obtain ⟨b,dx,ws,e1,es1,h1,h2,f1,f2,g1,g2,r1⟩:=w;have nd:dx≠D:=fun w=>by rw[w,hD]at h2;cases h2
   exact ⟨b,dx,ws,e1,es1,h1,h2,by rw[g0 (no j b ⟨.inr (.inl ⟨C,fs,e⟩),w4 e1⟩)];exact f1,by rw[g0 nd];exact f2,g1,g2,r1.mono (Same.new hF)⟩
  |ownD fs=>
   obtain ⟨b,ws,e1,h1,f1,g1,r1⟩:=w;exact ⟨b,ws,e1,h1,by rw[g0 (no j b ⟨.inr (.inr ⟨fs,e⟩),w4 e1⟩)];exact f1,g1,r1.mono (Same.new hF)⟩
theorem I2.ownAddr{j:Nat}{a:Addr}(I:I2 K Y F H σ ρ δ)(o:y6 ρ σ j a):∃u,H a=some u:=by
 rcases o.1 with ⟨ds,q⟩|⟨C,fs,q⟩|⟨kvs,q⟩
 rotate_left 2
 ·obtain ⟨b,us,e,hb,_⟩:=I.env j _ q;rw[o.2]at e;cases e;exact ⟨_,hb⟩
 ·obtain ⟨b,us,e,hb,_⟩:=I.env j _ q;rw[o.2]at e;cases e;exact ⟨_,hb⟩
 ·obtain ⟨b,dx,us,e,es0,hb,_⟩:=I.env j _ q;rw[o.2]at e;cases e;exact ⟨_,hb⟩
noncomputable def u0j:Option Cell→Cell |some (.val d)=>.val d |_=>.no
noncomputable def capt(ρ:En)(js:List Nat):En:=js.map fun j=>u0j ρ[j]?
noncomputable def x0o(te:TE2)(js:List Nat)(ρ:En)(q:List D→Dk→Prop):List D→List D→Dk→Prop
 | [],acc,δ=>q acc δ
 |d::ds,acc,δ=>te (fun _ _ _ _=>False) (.val d::capt ρ js) δ fun e _ δ1=>acc.length<1000∧x0o te js ρ q ds (acc++[e]) δ1
end
section
variable{X:Cx}{Y:Y2}{W:XW}{x:Str}{px pos:Pos}{elt iter:Expr}{js:List Nat}{scope:Scope}{te:TE2}{ti:TI2}
noncomputable def teY(K:Frag)(te:TE2):TE:=fun σ H Q=>∃Y',upE K Y' W0 te σ H Q
variable{i:Nat}{y:Str}{py spos:Pos}
noncomputable def t2Comp(ti:TI2)(js:List Nat)(te:TE2):TE2:=fun x ρ δ q=>ti x ρ δ fun ds ρ1 δ1=>x0o te js ρ1 (fun acc δ2=>q (.lst acc) ρ1 δ2) ds [] δ1
noncomputable def t2OwnC(i:Nat)(ti:TI2)(js:List Nat)(te:TE2):TS2:=fun E ρ δ=>ti E.xc ρ δ fun ds ρ1 δ1=>x0o te js ρ1 (fun acc δ2=>E.nx (ρ1.set i (.own acc)) δ2) ds [] δ1
theorem I2.take{K:Frag}{F H:Hp}{σ:St}{ρ:En}{δ:Dk}{D:Addr}{ds:List DL.D}{vs:List V}(I:I2 K Y F H σ ρ δ)(hF:F D=none)(h0:Y.H₀ D=none)(hd:Off δ D)(hD:H D=some (.lst vs))(no:∀j a,y6 ρ σ j a→a≠D)(r:Reps K F ds vs):I2 K Y F H (σ.set i (some (.ref D))) (ρ.set i (.own ds)) δ:=by
 have key:∀j a,y6 (ρ.set i (.own ds)) (σ.set i (some (.ref D))) j a→(j=i∧a=D)∨(j≠i∧y6 ρ σ j a):=fun j a o=>by
  by_cases z:j=i
  ·subst z;have:=o.2;rw[List.getElem?_set]at this;by_cases hl:j<σ.length
   ·simp[hl]at this;exact .inl ⟨rfl,this.symm⟩
   ·simp[hl]at this
  ·obtain ⟨o1,o2⟩:=o;simp only[List.getElem?_set_ne (Ne.symm z)]at o1 o2;exact .inr ⟨z,o1,o2⟩
 refine ⟨I.ran,fun j c e=>?_,by simp[I.len],fun a b c n o1 o2=>?_,fun j a o=>?_⟩
 ·by_cases z:j=i
  ·subst z;rw[List.getElem?_set]at e;by_cases hl:j<ρ.length
   ·simp[hl]at e;subst e;refine ⟨D,vs,?_,hD,hF,h0,r⟩;rw[List.getElem?_set];simp[I.len▸hl]
   ·simp[hl]at e
  ·rw[List.getElem?_set_ne (Ne.symm z)]at e ⊢;exact I.env j c e
 ·rcases key a c o1 with ⟨z1,z2⟩|⟨z1,z2⟩
  ·rcases key b c o2 with ⟨y1,y2⟩|⟨y1,y2⟩
   ·exact n (z1.trans y1.symm)
   ·exact no b c y2 z2
  ·rcases key b c o2 with ⟨y1,y2⟩|⟨y1,y2⟩
   ·exact no a c z2 y2
   ·exact I.apart a b c n z2 y2
 ·rcases key j a o with ⟨z1,z2⟩|⟨z1,z2⟩
  ·rw[z2];exact hd
  ·exact I.off j a z2
end
section
variable{X:Cx}{Y:Y2}{W:XW}{pos:Pos}
theorem I2.deck{K:Frag}{F H:Hp}{σ:St}{ρ:En}{p:Addr}{ds:List D}{vs:List V}(I:I2 K Y F H σ ρ none)(h:H p=none)(r:Reps K F ds vs):I2 K Y F (upd H p (.lst vs)) σ ρ (some (p,ds)):=by
 have hF:F p=none:=I.sub.free h;have h0:=I.ran.fresh h;have n0:Y.δ₀=none:=by
  cases hd:Y.δ₀ with
  |none=>rfl
  |some q=>
   obtain ⟨a,gs⟩:=q;obtain ⟨es,z⟩:=I.ran.dto.1 a gs hd;cases z
 refine ⟨⟨fun b u e=>by rw[g0 (j0 e hF)];exact I.sub _ _ e,fun a es e=>(by cases e;exact ⟨hF,vs,j3,r⟩),fun b u e f=>by rw[g0 (j0 e h0)];exact I.ran.keep b u e f,I.ran.f0,I.ran.fnew,⟨fun a gs e=>(by rw[n0]at e;cases e),fun a gs e _=>(by cases e;exact h0)⟩⟩,fun j c e=>?_,I.len,I.apart,fun j a o b es e=>?_⟩
 ·have w:=I.env j c e;cases c with
  |no=>trivial
  |val d=>exact w
  |own fs=>
   obtain ⟨b,ws,e1,h1,f1,g1,r1⟩:=w;exact ⟨b,ws,e1,by rw[g0 (j0 h1 h)];exact h1,f1,g1,r1⟩
  |obj C fs=>
   obtain ⟨b,dx,ws,e1,es1,h1,h2,f1,f2,g1,g2,r1⟩:=w;exact ⟨b,dx,ws,e1,es1,by rw[g0 (j0 h1 h)];exact h1,by rw[g0 (j0 h2 h)];exact h2,f1,f2,g1,g2,r1⟩
  |ownD fs=>
   obtain ⟨b,ws,e1,h1,f1,g1,r1⟩:=w;exact ⟨b,ws,e1,by rw[g0 (j0 h1 h)];exact h1,f1,g1,r1⟩
 ·cases e;obtain ⟨u,hu⟩:=I.ownAddr o;exact j0 hu h
noncomputable def q0k(ta:TA2):TS2:=fun E ρ δ=>ta E.xc ρ δ fun ds ρ1 δ1=>δ1=none∧ds.length≤1000∧∀p,E.rt (.ref p) (some (p,ds))
theorem d0s{es:List Expr}{ta:TA2}{lpos:Pos}(ha:PA2 X Y W es ta):PS2 X Y W (.Return (some (.List es lpos)) pos) (q0k ta):=ps2 (c0p (i0b ha.go)) fun E1 σ H ⟨F,ρ,δ,E2,I,h,er⟩=>
 ⟨F,ρ,δ,E2.xc,_,I,h,fun ds vs F1 H1 ρ1 δ1 I1 s1 r1 h1=>⟨n0d (by rw[r1.length];exact h1.2.1),fun p hp=>by
  obtain ⟨rfl,_,h2⟩:=h1;exact er.rt _ _ σ F1 _ ρ1 _ (I1.deck hp r1) s1 (rep_ref.mpr rfl) (h2 p)⟩,er.xc⟩
noncomputable def countQ(xs:List D)(y:D):Nat:=xs.countP fun z=>eqV (toV z) (toV y)
noncomputable def a0d(ta:TE2)(t:TA2):TE2:=fun x ρ δ q=>ta x ρ δ fun d ρ1 δ1=>match d with
 | .lst xs=>t x ρ1 δ1 fun es ρ2 δ2=>(match es with | [y]=>(j8 y&&xs.all j8)=true∧q (.int (countQ xs y:Nat)) ρ2 δ2 |_=>False)
 |_=>False
end
end DL
namespace DL
open PySem PySem.Spec L2
open PySem.W (XC)
section
variable{X:Cx}{Y:Y2}{W:XW}{pos:Pos}
end
section
variable(K:Frag)
open PySem.W (kitOne kitAny)
theorem ko{n:String}(h:n∈BT):kitOne K (.type n) (.type "bool")=some (n=="bool")∧kitOne K (.type n) (.type "int")=some (n=="int"||n=="bool")∧
 kitOne K (.type n) (.type "list")=some (n=="list")∧kitOne K (.type n) (.type "tuple")=some (n=="tuple")∧kitAny K (.type n) [.type "list",.type "tuple"]=some (n=="list"||n=="tuple"):=kt_all K h
theorem a0c{d:D}(h:TyD K d)(hp:∀C fs,d≠.ins C fs∧d≠.exc C fs):h0f K d (.ty "bool")=some (match d with | .bl _=>true |_=>false):=by
 cases d with
 |non=>exact (ko K (n:="NoneType") (by decide)).1
 |bl b=>exact (ko K (n:="bool") (by decide)).1
 |int b=>exact (ko K (n:="int") (by decide)).1
 |str b=>exact (ko K (n:="str") (by decide)).1
 |lst b=>exact (ko K (n:="list") (by decide)).1
 |tup b=>exact (ko K (n:="tuple") (by decide)).1
 |scr b=>exact h.elim
 |dic b=>exact (ko K (n:="dict") (by decide)).1
 |dwk b=>exact h.elim
 |ins C b=>exact absurd rfl (hp C b).1
 |exc C b=>exact absurd rfl (hp C b).2
 |ref a=>exact h.elim
 |ty a=>exact h.elim
theorem ko_int{d:D}(h:TyD K d)(hp:∀C fs,d≠.ins C fs∧d≠.exc C fs):h0f K d (.ty "int")=some (match d with | .bl _=>true | .int _=>true |_=>false):=by
 cases d with
 |non=>exact (ko K (n:="NoneType") (by decide)).2.1
 |bl b=>exact (ko K (n:="bool") (by decide)).2.1
 |int b=>exact (ko K (n:="int") (by decide)).2.1
 |str b=>exact (ko K (n:="str") (by decide)).2.1
 |lst b=>exact (ko K (n:="list") (by decide)).2.1
 |tup b=>exact (ko K (n:="tuple") (by decide)).2.1
 |scr b=>exact h.elim
 |dic b=>exact (ko K (n:="dict") (by decide)).2.1
 |dwk b=>exact h.elim
 |ins C b=>exact absurd rfl (hp C b).1
 |exc C b=>exact absurd rfl (hp C b).2
 |ref a=>exact h.elim
 |ty a=>exact h.elim
theorem ko_row{d:D}(h:TyD K d)(hp:∀C fs,d≠.ins C fs∧d≠.exc C fs):h0f K d (.tup [.ty "list",.ty "tuple"])=some (match d with | .lst _=>true | .tup _=>true |_=>false):=by
 cases d with
 |non=>exact (ko K (n:="NoneType") (by decide)).2.2.2.2
 |bl b=>exact (ko K (n:="bool") (by decide)).2.2.2.2
 |int b=>exact (ko K (n:="int") (by decide)).2.2.2.2
 |str b=>exact (ko K (n:="str") (by decide)).2.2.2.2
 |lst b=>exact (ko K (n:="list") (by decide)).2.2.2.2
 |tup b=>exact (ko K (n:="tuple") (by decide)).2.2.2.2
 |scr b=>exact h.elim
 |dic b=>exact (ko K (n:="dict") (by decide)).2.2.2.2
 |dwk b=>exact h.elim
 |ins C b=>exact absurd rfl (hp C b).1
 |exc C b=>exact absurd rfl (hp C b).2
 |ref a=>exact h.elim
 |ty a=>exact h.elim
end
noncomputable def a5:D→Bool
 | .non=>true | .bl _=>true | .int _=>true | .str _=>true | .lst _=>true | .tup _=>true | .dic _=>true |_=>false
theorem k0j{K:Frag}{d:D}(h:a5 d=true):TyD K d∧∀C fs,d≠.ins C fs∧d≠.exc C fs:=by
 cases d with
 |scr b=>cases h
 |dwk b=>cases h
 |ins C b=>cases h
 |exc C b=>cases h
 |ref a=>cases h
 |ty a=>cases h
 |_=>exact ⟨trivial,fun C fs=>⟨(by intro z;cases z),(by intro z;cases z)⟩⟩
noncomputable def i4:D→Int→Int→Bool
 | .int i,lo,hi=>decide (lo≤i)&&decide (i≤hi)
 |_,_,_=>false
end DL
namespace DL
open PySem PySem.Spec L2
section
variable{X:Cx}{Y:Y2}{W:XW}{pos:Pos}{a:Expr}{ta:TE2}
theorem a0b{x:Str}{n:Int}(hm:∃t,X.mg x=some (.int n t))(hg:Gl X x:=by rfl)(hd:(x==("__debug__":Str))=false:=by decide):PE2 X Y W (.Name x pos) (t2C (.int n)):=by
 obtain ⟨t,hm⟩:=hm;exact e2_gi hm ⟨t,rfl⟩ hg hd
theorem j5(K:Frag){f:Str}(ha:PE2 X Y W a ta)(hK:X.K=K:=by rfl)(hb:attributeBase a f X.env (eval a X.env)=eval a X.env:=by rfl):PE2 X Y W (.Attribute a f pos) (h0b K f ta):=hK▸e2_fld ha hb
variable{x:Str}{p:Pos}{e:Expr}{te:TE2}
theorem y0m(K:Frag)(i:Nat){f:Str}{tpos:Pos}(he:PE2 X Y W e te)(hK:X.K=K:=by rfl)(hN:X.N[i]?=some x:=by rfl)(hv:Vis X.env.scope x:=by walk_at "v3")(hd:(x==("__debug__":Str))=false:=by decide)(hcd:(x==("__classdict__":Str))=false:=by decide)
 (hs:swapsWith e (some (.Attribute (.Name x p) f tpos)) pos.line X.env=pure false:=by rfl):PS2 X Y W (.Assign [.Attribute (.Name x p) f tpos] e pos) (o0d K i f te):=hK▸a0h i he hN hv hd hcd hs
variable{D:Addr}{y n:Str}{np:Pos}{b₀:Stmt}{suite:List Stmt}{rest:List ExceptHandler}{ts:TS2}{tr:XTS2}
end
end DL
namespace DL
open L2
theorem n0b{α:Type}(l:List α)(k:Nat):atI l (no_index (OfNat.ofNat k))=l[k]?:=by
 have e:(OfNat.ofNat k:Int)=((k:Nat):Int):=rfl;rw[e];unfold atI ixN;rw[if_pos (by omega)];by_cases h:k<l.length
 ·rw[if_pos (by omega)];show l[((k:Nat):Int).toNat]?=_;rw[Int.toNat_natCast]
 ·rw[if_neg (by omega),List.getElem?_eq_none (by omega)];rfl
theorem n0a(n k:Nat):ixN n (no_index (OfNat.ofNat k))=if k<n then some k else none:=by
 have e:(OfNat.ofNat k:Int)=((k:Nat):Int):=rfl;rw[e];unfold ixN;rw[if_pos (by omega)];by_cases h:k<n
 ·rw[if_pos (by omega),if_pos h,Int.toNat_natCast]
 ·rw[if_neg (by omega),if_neg h]
end DL
namespace DL
open PySem PySem.Spec L2
noncomputable def v0o(g:G2)(body:TS2)(E:End2)(rest:En→Dk→Prop)(d:D)(ρ:En)(δ:Dk):Prop:=match g d ρ with
 |some ρ'=>body {E with nx:=rest,ct:=rest,bk:=E.nx} ρ' δ
 |none=>False
theorem f9{g:G2}{body:TS2}{E:End2}{ρ:En}{δ:Dk}{ds:List D}(P:Nat→En→Dk→Prop)(h0:P 0 ρ δ)
 (step:∀(i:Nat) (d:D) (ρ:En) (δ:Dk) (rest:En→Dk→Prop),ds[i]?=some d→P i ρ δ→(∀ ρ' δ',P (i+1) ρ' δ'→rest ρ' δ')→v0o g body E rest d ρ δ) (fin:∀ ρ δ,P ds.length ρ δ→E.nx ρ δ):forL g body E ds ρ δ:=by
 have key:∀(k i:Nat) (ρ:En) (δ:Dk),i+k=ds.length→P i ρ δ→forL g body E (ds.drop i) ρ δ:=by
  intro k
  induction k with
  |zero=>
   intro i ρ δ hi p;rw[List.drop_eq_nil_of_le (by omega)];have:i=ds.length:=by omega
   subst this;exact fin ρ δ p
  |succ k ih=>
   intro i ρ δ hi p;have hl:i<ds.length:=by omega
   rw[List.drop_eq_getElem_cons hl];have:=step i ds[i] ρ δ (forL g body E (ds.drop (i+1))) (by simp[hl]) p fun ρ' δ' p'=>ih (i+1) ρ' δ' (by omega) p'
   unfold v0o at this;unfold forL;exact this
 have:=key ds.length 0 ρ δ (by omega) h0
 rwa[List.drop_zero]at this
theorem u0d{te:TE2}{js:List Nat}{ρ:En}{q:List D→Dk→Prop}{ds:List D}{acc:List D}{δ:Dk}(P:Nat→List D→Dk→Prop)(h0:P 0 acc δ)
 (step:∀(i:Nat) (d:D) (acc:List D) (δ:Dk) (rest:List D→Dk→Prop),ds[i]?=some d→P i acc δ→(∀acc' δ',P (i+1) acc' δ'→rest acc' δ')→te (fun _ _ _ _=>False) (.val d::capt ρ js) δ fun e _ δ1=>acc.length<1000∧rest (acc++[e]) δ1)
 (fin:∀acc δ,P ds.length acc δ→q acc δ):x0o te js ρ q ds acc δ:=by
 have key:∀(k i:Nat) (acc:List D) (δ:Dk),i+k=ds.length→P i acc δ→x0o te js ρ q (ds.drop i) acc δ:=by
  intro k
  induction k with
  |zero=>
   intro i acc δ hi p;rw[List.drop_eq_nil_of_le (by omega)];have:i=ds.length:=by omega
   subst this;exact fin acc δ p
  |succ k ih=>
   intro i acc δ hi p;have hl:i<ds.length:=by omega
   rw[List.drop_eq_getElem_cons hl];unfold x0o;exact step i ds[i] acc δ (fun acc' δ'=>x0o te js ρ q (ds.drop (i+1)) acc' δ') (by simp[hl]) p fun acc' δ' p'=>ih (i+1) acc' δ' (by omega) p'
 have:=key ds.length 0 acc δ (by omega) h0
 rwa[List.drop_zero]at this
theorem o0b{K:Frag}{F:Hp}:∀ns:List Int,Reps K F (ns.map D.int) (ns.map V.int)
 | []=>Reps.nil
 |n::ns=>Reps.cons (rep_int.mpr rfl) (o0b ns)
noncomputable def j0a:Sp2:=fun ds δ q _=>∃ns:List Int,ds=[.scr (ns.map D.int)]∧ns.length≤63∧δ=none∧∀ δ',q (.bl true) δ'
theorem walk2{l:PySem.W.OpenLaw}{k:Nat}{q:Program}{loose:List Str}{XP:(Str→Option Value)→Heap→Prop}{YP:World→Heap→Prop}{d:DefRec}{K:Params→PySem.W.Frag}{x:Str}(hn:l.most=some 63)(hdf:d.params.defaults=[])(hr:Room k callerA)
 (hY:∀(w:World) (h:Heap),YP w h→(K w.params).In h)
 (F:∀(w:World) (mg:Str→Option Value) (fa:Addr) (h:Heap),(K w.params).In h→h.Ns mainGlobals mg→mg d.name=some (.ref fa)→
  ∃fd:FuncData,(∀(s:Shared) (u:Value),BindsTo s fd ⟨[u],[]⟩ [(x,u)])∧∀base:Heap,(K w.params).In base→base.Ns mainGlobals mg→FnOk l.prog w (K w.params) mg base (CX1 l.prog w) k fa fd [x] (upF (K w.params) j0a)):
 PySem.W.WalkO q loose XP YP l.row.toRowW d [] (fun f vs=>PySem.call f vs):=
 L2.walk_of (n:=63) (k:=k) (x:=x) (CX:=fun w=>CX1 l.prog w) (sp:=fun w=>upF (K w.params) j0a) hn (by decide) hdf hr hY F
  (fun w H a ns hl _ hS=>⟨H,[.scr (ns.map D.int)],none,fun d _=>d=.bl true,fun _ _ _=>False,Same.refl H,fun a ds e=>(by cases e),Reps.cons (rep_scr.mpr ⟨a,_,rfl,hS,o0b ns⟩) Reps.nil,⟨ns,rfl,hl,rfl,fun _=>rfl⟩,
   fun d v F' H' δ' R r e=>(by subst e;exact rep_bl.mp r),fun _ _ _ _ _ _ _ _ z=>z⟩)
  fun w H s e s' ⟨_,_,_,_,_,_,_,_,_,_,_,_,_,_,z⟩=>z
end DL
namespace L2
open PySem PySem.Spec PyProof.Rows
section
variable{prog:Program}{w:World}{A:Around}{E:Value→Shared→Prop}{s:Shared}
theorem nx_tup{j t:Addr}{i:Nat}{xs:Array Value}{x:Value}{Q:Value→Shared→Prop}(hj:s.heap.IsTupleIter j t i)(ht:s.heap.IsTuple t xs)(hx:xs[i]?=some x)
 (hQ:∀h',h'.IsTupleIter j t (i+1)→Heap.SameBut j s.heap h'→Q x {s with heap:=h'}):wpAny (model prog w) A (Builtin.SmallTypes.nextOf (.ref j)) Q E s:=by
 obtain ⟨o,ho,hc,hd⟩:=id hj;obtain ⟨ot,hot,_,nt,hdt⟩:=ht;unfold Builtin.SmallTypes.nextOf;refine wpAny_bind (wpAny_callSpecial?_slot (name:=Str.ofString "__next__") hj.typeIs F.slot_tuple_iterator_next (wpAny_call_entry F.slot_tuple_iterator_next hj.typeIs F.entry_tuple_iterator_next ?_ (F.args_tuple_iterator_next_1 _)));show wpAny _ _ (field (.ref j) 0 >>= _) _ _ s;refine wpAny_bind (wpAny_field ho hd (x:=.ref t) rfl ?_);show wpAny _ _ (if ((Value.ref t)==Value.none)=true then _ else _) _ _ s;rw[if_neg (show ¬(((Value.ref t)==Value.none)=true)from Bool.false_ne_true)];show wpAny _ _ (field (.ref j) 1 >>= _) _ _ s;refine wpAny_bind (wpAny_field ho hd (x:=(.int i 0)) rfl ?_);refine wpAny_bind (m:=seqItems? (.ref t)) (wpAny_seqItems hot hdt ?_);simp only[Int.toNat_natCast,hx];refine wpAny_bind (wpAny_setField ho hd (by simp) (wpAny_pure ⟨x,rfl,wpAny_pure (hQ _ ⟨_,Heap.get?_update_self _ ho (Obj.isFreed_of_fields (Obj.data_mapFields hd _)),(Obj.cls_mapFields ..).trans hc,?_⟩ (Heap.SameBut.update ..))⟩));rw[Obj.data_mapFields hd];simp[rawInt]
theorem i0z{j t:Addr}{i:Nat}{xs:Array Value}{Q:Value→Shared→Prop}(hh:A.handled=none)(hj:s.heap.IsTupleIter j t i)(ht:s.heap.IsTuple t xs)(hx:xs[i]?=none)
 (hE:∀h' e,Heap.ExtBut j s.heap h'→(∃o,h'.get? e=some o∧o.cls=.type "StopIteration")→E (.ref e) {s with heap:=h'}):wpAny (model prog w) A (Builtin.SmallTypes.nextOf (.ref j)) Q E s:=by
 obtain ⟨o,ho,hc,hd⟩:=id hj;obtain ⟨ot,hot,_,nt,hdt⟩:=ht;unfold Builtin.SmallTypes.nextOf;refine wpAny_bind (wpAny_callSpecial?_slot (name:=Str.ofString "__next__") hj.typeIs F.slot_tuple_iterator_next (wpAny_call_entry F.slot_tuple_iterator_next hj.typeIs F.entry_tuple_iterator_next ?_ (F.args_tuple_iterator_next_1 _)));show wpAny _ _ (field (.ref j) 0 >>= _) _ _ s;refine wpAny_bind (wpAny_field ho hd (x:=.ref t) rfl ?_);show wpAny _ _ (if ((Value.ref t)==Value.none)=true then _ else _) _ _ s;rw[if_neg (show ¬(((Value.ref t)==Value.none)=true)from Bool.false_ne_true)];show wpAny _ _ (field (.ref j) 1 >>= _) _ _ s;refine wpAny_bind (wpAny_field ho hd (x:=(.int i 0)) rfl ?_);refine wpAny_bind (m:=seqItems? (.ref t)) (wpAny_seqItems hot hdt ?_);simp only[Int.toNat_natCast,hx];refine wpAny_bind (wpAny_rule (wpAny_bind (wpAny_setField ho hd (by simp) (wpAny_bind ?_))));simp only[newExc,newTuple];refine wpAny_bind (wpAny_newObj_type (wpAny_bind (m:=firstArgMember _ _) (wpAny_of_eq (a:=Value.none) (by first |rfl |(simp only[firstArgMember];rfl)) (wpAny_newObj_type ?_ (by size_fits)))) (by size_fits));simp only[raiseNew];refine wpAny_bind (wpAny_handled ?_)
 first |rw[show A.in1.handled=none from hh]|rw[hh]
 exact wpAny_bind (wpAny_pure (wpAny_throw (hE _ _ (((Heap.SameBut.update ..).extBut.push _).push _) ⟨_,Heap.get?_push_size _ rfl,rfl⟩)))
end
theorem g0x{prog:Program}{w:World}{A:Around}(hh:A.handled=none)(j t:Addr)(ne:t≠j)(xs:Array Value):
 Draws prog w A j [j,t] xs.size (fun i v=>xs[i]?=some v) (fun i h=>h.IsTupleIter j t i∧h.IsTuple t xs)where
 live:=fun _ _ st=>let ⟨o,ho,_⟩:=st.1;⟨o,ho⟩
 frame:=fun _ _ _ st k=>⟨st.1.at fun o e=>k j (by simp) o e,let ⟨o,e,r⟩:=st.2;⟨o,k t (by simp) o e,r⟩⟩
 item:=fun i s Q E hi st hQ=>nx_tup st.1 st.2 (x:=xs[i]) (by simp[hi]) fun h' st' sb=>hQ _ h' s.toks (by simp[hi]) ⟨st',let ⟨o,e,r⟩:=st.2;⟨o,sb.extBut _ _ ne e,r⟩⟩ sb
 done:=fun s Q E st hE=>i0z hh st.1 st.2 (by simp) hE
noncomputable def SqAt(b:Bool)(h:Heap)(l:Addr)(xs:Array Value):Prop:=match b with |true=>h.IsTuple l xs |false=>h.IsList l xs
noncomputable def ItAt(b:Bool)(h:Heap)(j l:Addr)(i:Nat):Prop:=match b with |true=>h.IsTupleIter j l i |false=>h.IsListIter j l i
noncomputable def itN(b:Bool):String:=match b with |true=>"tuple_iterator" |false=>"list_iterator"
theorem y0l(b:Bool){prog:Program}{w:World}{A:Around}(hh:A.handled=none)(j l:Addr)(ne:l≠j)(xs:Array Value):
 Draws prog w A j [j,l] xs.size (fun i v=>xs[i]?=some v) (fun i h=>ItAt b h j l i∧SqAt b h l xs):=by
 cases b
 ·exact Draws.list hh j l ne xs
 ·exact g0x hh j l ne xs
theorem ItAt.obj{b:Bool}{h:Heap}{j l:Addr}{i:Nat}(q:ItAt b h j l i):∃o,h.get? j=some o∧o.cls=.type (itN b)∧o.data=.fields #[.ref l,.int i 0]:=by
 cases b
 ·obtain ⟨o,e,c,d⟩:=q;exact ⟨o,e,c,d⟩
 ·obtain ⟨o,e,c,d⟩:=q;exact ⟨o,e,c,d⟩
theorem ItAt.of{b:Bool}{h:Heap}{j l:Addr}{i:Nat}{o:Obj}(e:h.get? j=some o)(c:o.cls=.type (itN b))(d:o.data=.fields #[.ref l,.int i 0]):ItAt b h j l i:=by
 cases b
 ·exact ⟨o,e,c,d⟩
 ·exact ⟨o,e,c,d⟩
theorem ItAt.stay{b:Bool}{h h':Heap}{j l:Addr}{i:Nat}(q:ItAt b h j l i)(k:∀o,h.get? j=some o→h'.get? j=some o):ItAt b h' j l i:=by
 obtain ⟨o,e,c,d⟩:=q.obj;exact .of (k o e) c d
theorem SqAt.obj{b:Bool}{h:Heap}{l:Addr}{xs:Array Value}(q:SqAt b h l xs):∃o,h.get? l=some o∧o.cls=.type (if b=true then "tuple" else "list")∧∃n,o.data=.seq xs n:=by
 cases b
 ·obtain ⟨o,e,c,n,d⟩:=q;exact ⟨o,e,c,n,d⟩
 ·obtain ⟨o,e,c,n,d⟩:=q;exact ⟨o,e,c,n,d⟩
theorem SqAt.stay{b:Bool}{h h':Heap}{l:Addr}{xs:Array Value}(q:SqAt b h l xs)(k:∀o,h.get? l=some o→h'.get? l=some o):SqAt b h' l xs:=by
 cases b
 ·obtain ⟨o,e,c,n,d⟩:=q;exact ⟨o,k o e,c,n,d⟩
 ·obtain ⟨o,e,c,n,d⟩:=q;exact ⟨o,k o e,c,n,d⟩
theorem t0f{b:Bool}{prog:Program}{w:World}{A:Around}{E:Value→Shared→Prop}{s:Shared}{l:Addr}{xs:Array Value}{Q:Value→Shared→Prop}(hl:SqAt b s.heap l xs)
 (h:Q (.ref s.heap.objs.size) {s with heap:=s.heap.push {cls:=.type (itN b),data:=.fields #[.ref l,.int 0 0]}}):wpAny (model prog w) A (pyIter (.ref l)) Q E s:=by
 cases b
 ·exact wpAny_pyIter_list hl h
 ·exact wpAny_pyIter_tuple hl h
end L2
namespace L2
open PySem PySem.Spec PyProof.Rows
open AutoSeq1 (wpAny_loadPart')
noncomputable abbrev enH(b:Bool)(h:Heap)(l:Addr):Heap:=h.push {cls:=.type (itN b),data:=.fields #[.ref l,.int 0 0]}
theorem g0w(l:Addr)(xs:Array Value)(n:Nat)(dct:Option Addr)(sl:Array (Option Value)):
 Meets (Builtin.«enumerate.__new__» ⟨[.type "enumerate",.ref l],[]⟩) (fun _ R s=>s.heap.get? l=some {cls:=.type "tuple",dict:=dct,data:=.seq xs n,slots:=sl}∧
  R (.ok (.ret (.ref (enH true s.heap l).objs.size))) {s with heap:=(enH true s.heap l).push {cls:=.type "enumerate",data:=.fields #[.none,.bool false,.ref s.heap.objs.size,rawInt 0,.none,.none]}}):=
 .of_wp fun prog w A R s h=>by
  obtain ⟨hp,g,d,tk,os⟩:=s;obtain ⟨hl,h⟩:=h;have hsub:=sub_enumerate;have hT:Heap.IsTuple (Shared.heap ⟨hp,g,d,tk,os⟩) l xs:=⟨_,hl,rfl,n,rfl⟩
  wp_walk using wpAny_loadPart' hl
  refine wpAny_stack_any fun st=>wpAny_pure ?_
  split
  ·rename_i c _ _ _ _ _;cases (c==Value.type "enumerate")<;>(wp_walk using wpAny_loadPart' hl,wpAny_pyIter_tuple hT;exact ⟨_,rfl,h⟩)
  ·wp_walk using wpAny_loadPart' hl,wpAny_pyIter_tuple hT
   exact ⟨_,rfl,h⟩
section
variable{prog:Program}{w:World}{A:Around}{E:Value→Shared→Prop}{s:Shared}
theorem d0r{l:Addr}{xs:Array Value}{Q:Value→Shared→Prop}(hT:s.heap.IsTuple l xs)
 (h:∀h',IsEnum h' (s.heap.objs.size+1) s.heap.objs.size 0 .none→h'.IsTupleIter s.heap.objs.size l 0→(∀b o,s.heap.get? b=some o→h'.get? b=some o)→Q (.ref (s.heap.objs.size+1)) {s with heap:=h'}):
 wpAny (model prog w) A (call (.type "enumerate") [.ref l]) Q E s:=by
 obtain ⟨⟨c,dct,dt,sl⟩,hl,hc,n,hd⟩:=hT;cases (show c=.type "tuple" from hc);cases (show dt=.seq xs n from hd);refine callType_new F.called_enumerate (by decide) (F.typeCall_enumerate_1 _) (F.newCall_enumerate_1 _) (fun obj=>F.args_object_init_2 obj _) F.entry_enumerate_new (g0w l xs n dct sl) ⟨hl,?_⟩;have hz:(enH true s.heap l).objs.size=s.heap.objs.size+1:=Heap.size_push ..;have he:=Heap.get?_push_size (enH true s.heap l) (o:={cls:=.type "enumerate",data:=.fields #[.none,.bool false,.ref s.heap.objs.size,rawInt 0,.none,.none]}) rfl;show _∧_;rw[hz]at he ⊢;exact ⟨⟨_,he,rfl⟩,h _ he ⟨_,Heap.get?_push_of_some _ (Heap.get?_push_size _ rfl),rfl,rfl⟩ fun b o x=>Heap.get?_push_of_some _ (Heap.get?_push_of_some _ x)⟩
theorem a0a{b:Bool}{l:Addr}{xs:Array Value}{Q:Value→Shared→Prop}(hq:SqAt b s.heap l xs)
 (h:∀h',IsEnum h' (s.heap.objs.size+1) s.heap.objs.size 0 .none→ItAt b h' s.heap.objs.size l 0→(∀b o,s.heap.get? b=some o→h'.get? b=some o)→Q (.ref (s.heap.objs.size+1)) {s with heap:=h'}):
 wpAny (model prog w) A (call (.type "enumerate") [.ref l]) Q E s:=by
 cases b
 ·exact call_enumerate_list hq fun h' a1 a2 _ a4=>h h' a1 a2 a4
 ·exact d0r hq fun h' a1 a2 a4=>h h' a1 a2 a4
end
noncomputable abbrev zp1(b:Bool)(h:Heap)(l:Addr):Heap:=h.push {cls:=.type (itN b),data:=.fields #[.ref l,.int 0 0]}
noncomputable abbrev zp2(b b':Bool)(h:Heap)(l l':Addr):Heap:=(zp1 b h l).push {cls:=.type (itN b'),data:=.fields #[.ref l',.int 0 0]}
noncomputable abbrev zp3(b b':Bool)(h:Heap)(l l':Addr):Heap:=(zp2 b b' h l l').push {cls:=.type "tuple",data:=.seq #[.ref h.objs.size,.ref (zp1 b h l).objs.size]}
noncomputable abbrev zp4(b b':Bool)(h:Heap)(l l':Addr):Heap:=(zp3 b b' h l l').push {cls:=.type "tuple",data:=.seq #[.none,.none]}
noncomputable abbrev zp5(b b':Bool)(h:Heap)(l l':Addr):Heap:=(zp4 b b' h l l').push {cls:=.type "zip",data:=.fields #[.none,.bool false,.bool false,.ref (zp2 b b' h l l').objs.size,.ref (zp3 b b' h l l').objs.size]}
theorem d0q(b b':Bool)(l l':Addr)(xs ys:Array Value):
 Meets (Builtin.«zip.__new__» ⟨[.type "zip",.ref l,.ref l'],[]⟩) (fun _ R s=>SqAt b s.heap l xs∧SqAt b' s.heap l' ys∧R (.ok (.ret (.ref (zp4 b b' s.heap l l').objs.size))) {s with heap:=zp5 b b' s.heap l l'}):=
 .of_wp fun prog w A R s h=>by
  obtain ⟨hp,g,d,tk,os⟩:=s;obtain ⟨h1,h2,h⟩:=h;have hsub:=sub_zip;have q1:SqAt b (Shared.heap ⟨hp,g,d,tk,os⟩) l xs:=h1;have q2:SqAt b' (Shared.heap ⟨zp1 b hp l,g,d,tk,os⟩) l' ys:=h2.stay fun o e=>Heap.get?_push_of_some _ e
  wp_walk using t0f q1,t0f q2
  exact ⟨_,rfl,h⟩
section
variable{prog:Program}{w:World}{A:Around}{E:Value→Shared→Prop}{s:Shared}
theorem z1z{b b':Bool}{l l':Addr}{xs ys:Array Value}{Q:Value→Shared→Prop}(h1:SqAt b s.heap l xs)(h2:SqAt b' s.heap l' ys)
 (h:∀h',IsZip h' (s.heap.objs.size+4) (s.heap.objs.size+2) (s.heap.objs.size+3) .none→IsPair h' (s.heap.objs.size+2) (.ref s.heap.objs.size) (.ref (s.heap.objs.size+1))→IsPair h' (s.heap.objs.size+3) .none .none→
  ItAt b h' s.heap.objs.size l 0→ItAt b' h' (s.heap.objs.size+1) l' 0→(∀c o,s.heap.get? c=some o→h'.get? c=some o)→Q (.ref (s.heap.objs.size+4)) {s with heap:=h'}):
 wpAny (model prog w) A (call (.type "zip") [.ref l,.ref l']) Q E s:=by
 refine callType_new F.called_zip (by decide) (F.typeCall_zip_2 _ _) (F.newCall_zip_2 _ _) (fun obj=>F.args_object_init_3 obj _ _) F.entry_zip_new (d0q b b' l l' xs ys) ⟨h1,h2,?_⟩;have z1:(zp1 b s.heap l).objs.size=s.heap.objs.size+1:=Heap.size_push ..;have z2:(zp2 b b' s.heap l l').objs.size=s.heap.objs.size+2:=by rw[Heap.size_push,z1]
 have z3:(zp3 b b' s.heap l l').objs.size=s.heap.objs.size+3:=by rw[Heap.size_push,z2]
 have z4:(zp4 b b' s.heap l l').objs.size=s.heap.objs.size+4:=by rw[Heap.size_push,z3]
 have u:∀{h:Heap} {o} {c u},h.get? c=some u→(h.push o).get? c=some u:=fun e=>Heap.get?_push_of_some _ e
 have g5:(zp5 b b' s.heap l l').get? (zp4 b b' s.heap l l').objs.size=some _:=Heap.get?_push_size _ rfl;have g4:(zp5 b b' s.heap l l').get? (zp3 b b' s.heap l l').objs.size=some _:=u (Heap.get?_push_size _ rfl);have g3:(zp5 b b' s.heap l l').get? (zp2 b b' s.heap l l').objs.size=some _:=u (u (Heap.get?_push_size _ rfl));have g2:(zp5 b b' s.heap l l').get? (zp1 b s.heap l).objs.size=some _:=u (u (u (Heap.get?_push_size _ rfl)));have g1:(zp5 b b' s.heap l l').get? s.heap.objs.size=some _:=u (u (u (u (Heap.get?_push_size _ rfl))));show _∧_;rw[z2,z3,z4]at g5;rw[z1,z2]at g3;rw[z3]at g4;rw[z1]at g2;rw[z4];exact ⟨⟨_,g5,rfl⟩,h _ g5 g3 g4 (.of g1 rfl rfl) (.of g2 rfl rfl) fun c o x=>u (u (u (u (u x))))⟩
structure ZA(z TI TO j1 j2:Addr):Prop where
 a:TI≠z
 b:TO≠z
 c:j1≠z
 d:j2≠z
 e:TI≠TO
 f:TI≠j1
 g:TI≠j2
 h:TO≠j1
 i:TO≠j2
 j:j1≠j2
theorem z1y{z TI TO j1 j2:Addr}{f1 f2:List Addr}{n1 n2 k:Nat}{P1 P2:Nat→Value→Prop}{S1 S2:Nat→Heap→Prop}{a0 b0:Value}{Q:Value→Shared→Prop}(D1:Draws prog w A j1 f1 n1 P1 S1)(D2:Draws prog w A j2 f2 n2 P2 S2)
 (Z:ZA z TI TO j1 j2) (o1:∀c∈f1,c≠z∧c≠TO∧c≠j2) (o2:∀c∈f2,c≠z∧c≠TO∧c≠j1)
 (hz:IsZip s.heap z TI TO .none) (hTI:IsPair s.heap TI (.ref j1) (.ref j2)) (hTO:IsPair s.heap TO a0 b0) (s1:S1 k s.heap) (s2:S2 k s.heap) (l1:k<n1) (l2:k<n2)
 (hQ:∀x y h' tk,P1 k x→P2 k y→IsZip h' z TI TO (rawInt s.heap.objs.size)→IsPair h' TO x y→S1 (k+1) h'→S2 (k+1) h'→IsPair h' s.heap.objs.size x y→
  (∀c o,c≠z→c≠TO→c≠j1→c≠j2→s.heap.get? c=some o→h'.get? c=some o)→Q (.ref s.heap.objs.size) {s with heap:=h',toks:=tk}):
 wpAny (model prog w) A (Builtin.«zip.__next__» ⟨[.ref z],[]⟩) (fun fin s'=>∃v,fin=.done (.ret v)∧Q v s') E s:=by
 obtain ⟨hp,ge,dr,tk0,os⟩:=s;show wpAny _ _ (field (.ref z) 2 >>= _) _ _ _;refine wpAny_bind (wpAny_field hz rfl (x:=.bool false) rfl ?_);show wpAny _ _ (field (.ref z) 3 >>= _) _ _ _;refine wpAny_bind (wpAny_field hz rfl (x:=.ref TI) rfl (wpAny_bind (wpAny_seqItems hTI rfl ?_)));show wpAny _ _ (Builtin.SmallTypes.ownedTupleIsFree (.ref z) >>= _) _ _ _;refine wpAny_bind ?_;unfold Builtin.SmallTypes.ownedTupleIsFree;refine wpAny_bind (wpAny_field hz rfl (x:=.none) rfl (wpAny_pure ?_));simp only[if_true];refine wpAny_bind (wpAny_rule (wpAny_bind (wpAny_field hz rfl (x:=.ref TO) rfl (wpAny_bind (wpAny_setField_rec hz (by simp) fun h₁ hz₁ hs₁=>?_)))));replace hz₁:IsZip h₁ z TI TO .ellipsis:=hz₁;replace hs₁:Heap.SameBut z hp h₁:=hs₁;refine wpAny_bind ?_;simp only[List.zipIdx_cons,List.zipIdx_nil,List.forIn_cons,List.forIn_nil];refine wpAny_bind (wpAny_bind (wpAny_onRaise ?_));show wpAny _ _ (Builtin.SmallTypes.nextOf (.ref j1) >>= _) _ _ _;have s1₁:S1 k h₁:=D1.frame _ _ _ s1 fun c hc o e=>hs₁.extBut c o (o1 c hc).1 e
 refine wpAny_bind (D1.item k ⟨h₁,ge,dr,tk0,os⟩ _ _ l1 s1₁ fun x h₂ t₂ px s1₂ hs₂=>wpAny_pure ?_);replace hs₂:Heap.SameBut j1 h₁ h₂:=hs₂;have hTO₂:IsPair h₂ TO a0 b0:=hs₂.extBut _ _ Z.h (hs₁.extBut _ _ Z.b hTO);refine wpAny_bind (wpAny_seqItems hTO₂ rfl (wpAny_bind (wpAny_updateSeq_pair hTO₂ fun h₃ hTO₃ hs₃=>?_)));replace hTO₃:IsPair h₃ TO x b0:=hTO₃;replace hs₃:Heap.SameBut TO h₂ h₃:=hs₃;refine wpAny_bind (wpAny_letGo (wpAny_pure (wpAny_bind (wpAny_bind (wpAny_onRaise ?_)))));show wpAny _ _ (Builtin.SmallTypes.nextOf (.ref j2) >>= _) _ _ _;have s2₃:S2 k h₃:=D2.frame _ _ _ s2 fun c hc o e=>hs₃.extBut c o (o2 c hc).2.1 (hs₂.extBut c o (o2 c hc).2.2 (hs₁.extBut c o (o2 c hc).1 e))
 refine wpAny_bind (D2.item k ⟨h₃,ge,dr,t₂,os⟩ _ _ l2 s2₃ fun y h₄ t₄ py s2₄ hs₄=>wpAny_pure ?_);replace hs₄:Heap.SameBut j2 h₃ h₄:=hs₄;have hTO₄:IsPair h₄ TO x b0:=hs₄.extBut _ _ Z.i hTO₃;refine wpAny_bind (wpAny_seqItems hTO₄ rfl (wpAny_bind (wpAny_updateSeq_pair hTO₄ fun h₅ hTO₅ hs₅=>?_)));replace hTO₅:IsPair h₅ TO x y:=hTO₅;replace hs₅:Heap.SameBut TO h₄ h₅:=hs₅;refine wpAny_bind (wpAny_letGo (wpAny_pure (wpAny_pure (wpAny_bind (wpAny_seqItems hTO₅ rfl (wpAny_bind (wpAny_newTuple ?_)))))));have hsz:h₅.objs.size=hp.objs.size:=by rw[hs₅.1,hs₄.1,hs₃.1,hs₂.1,hs₁.1]
 have hz₅:IsZip h₅ z TI TO .ellipsis:=hs₅.extBut _ _ Z.b.symm (hs₄.extBut _ _ Z.d.symm (hs₃.extBut _ _ Z.b.symm (hs₂.extBut _ _ Z.c.symm hz₁)));have hk₅:∀c o,c≠z→c≠TO→c≠j1→c≠j2→hp.get? c=some o→h₅.get? c=some o:=fun c o c1 c2 c3 c4 e=>
  hs₅.extBut _ _ c2 (hs₄.extBut _ _ c4 (hs₃.extBut _ _ c2 (hs₂.extBut _ _ c3 (hs₁.extBut _ _ c1 e))))
 have hzlt:z<h₅.objs.size:=Heap.lt_size hz₅;have s1₅:S1 (k+1) h₅:=D1.frame _ _ _ s1₂ fun c hc o e=>hs₅.extBut c o (o1 c hc).2.1 (hs₄.extBut c o (o1 c hc).2.2 (hs₃.extBut c o (o1 c hc).2.1 e))
 have s2₅:S2 (k+1) h₅:=D2.frame _ _ _ s2₄ fun c hc o e=>hs₅.extBut c o (o2 c hc).2.1 e
 show wpAny _ _ (Builtin.SmallTypes.ownedTupleHandOut (.ref z) (.ref h₅.objs.size) >>= _) _ _ _;refine wpAny_bind ?_;unfold Builtin.SmallTypes.ownedTupleHandOut;have hz₆:IsZip (h₅.push {cls:=.type "tuple",data:=.seq #[x,y]}) z TI TO .ellipsis:=Heap.get?_push_of_some _ hz₅;refine wpAny_bind (wpAny_setField_rec hz₆ (by simp) fun h₇ hz₇ hs₇=>?_);replace hz₇:IsZip h₇ z TI TO (rawInt h₅.objs.size):=hz₇;refine wpAny_setField_rec hz₇ (by simp) fun h₈ hz₈ hs₈=>?_
 replace hz₈:IsZip h₈ z TI TO (rawInt h₅.objs.size):=hz₈;have up:∀c o,c≠z→h₅.get? c=some o→h₈.get? c=some o:=fun c o c1 e=>hs₈.extBut _ _ c1 (hs₇.extBut _ _ c1 (Heap.get?_push_of_some _ e))
 have hT₈:IsPair h₈ h₅.objs.size x y:=hs₈.extBut _ _ (Nat.ne_of_gt hzlt) (hs₇.extBut _ _ (Nat.ne_of_gt hzlt) (Heap.get?_push_size _ rfl));rw[hsz]at hz₈ hT₈;refine wpAny_pure ⟨_,rfl,?_⟩;show Q (.ref h₅.objs.size) _;rw[hsz];exact hQ x y h₈ t₄ px py hz₈ (up _ _ Z.b hTO₅) (D1.frame _ _ _ s1₅ fun c hc o e=>up c o (o1 c hc).1 e) (D2.frame _ _ _ s2₅ fun c hc o e=>up c o (o2 c hc).1 e) hT₈ fun c o c1 c2 c3 c4 e=>up c o c1 (hk₅ c o c1 c2 c3 c4 e)
end
end L2
namespace L2
open PySem PySem.Spec PyProof.Rows
section
variable{prog:Program}{w:World}{A:Around}{E:Value→Shared→Prop}{s:Shared}
theorem zp_end{z TI TO j1 j2:Addr}{f1 f2:List Addr}{n1 n2 k:Nat}{P1 P2:Nat→Value→Prop}{S1 S2:Nat→Heap→Prop}{a0 b0:Value}{Q:Fin→Shared→Prop}(D1:Draws prog w A j1 f1 n1 P1 S1)(D2:Draws prog w A j2 f2 n2 P2 S2)
 (Z:ZA z TI TO j1 j2) (o1:∀c∈f1,c≠z∧c≠TO∧c≠j2) (o2:∀c∈f2,c≠z∧c≠TO∧c≠j1)
 (hz:IsZip s.heap z TI TO .none) (hTI:IsPair s.heap TI (.ref j1) (.ref j2)) (hTO:IsPair s.heap TO a0 b0) (s1:S1 k s.heap) (s2:S2 k s.heap) (le:k=n1∨(k<n1∧k=n2))
 (hE:∀h' e tk,(∀c o,c≠z→c≠TO→c≠j1→c≠j2→s.heap.get? c=some o→h'.get? c=some o)→(∃o,h'.get? e=some o∧o.cls=.type "StopIteration")→E (.ref e) {s with heap:=h',toks:=tk}):
 wpAny (model prog w) A (Builtin.«zip.__next__» ⟨[.ref z],[]⟩) Q E s:=by
 obtain ⟨hp,ge,dr,tk0,os⟩:=s;show wpAny _ _ (field (.ref z) 2 >>= _) _ _ _;refine wpAny_bind (wpAny_field hz rfl (x:=.bool false) rfl ?_);show wpAny _ _ (field (.ref z) 3 >>= _) _ _ _;refine wpAny_bind (wpAny_field hz rfl (x:=.ref TI) rfl (wpAny_bind (wpAny_seqItems hTI rfl ?_)));show wpAny _ _ (Builtin.SmallTypes.ownedTupleIsFree (.ref z) >>= _) _ _ _;refine wpAny_bind ?_;unfold Builtin.SmallTypes.ownedTupleIsFree;refine wpAny_bind (wpAny_field hz rfl (x:=.none) rfl (wpAny_pure ?_));simp only[if_true];refine wpAny_bind (wpAny_rule (wpAny_bind (wpAny_field hz rfl (x:=.ref TO) rfl (wpAny_bind (wpAny_setField_rec hz (by simp) fun h₁ hz₁ hs₁=>?_)))));replace hz₁:IsZip h₁ z TI TO .ellipsis:=hz₁;replace hs₁:Heap.SameBut z hp h₁:=hs₁;refine wpAny_bind ?_;simp only[List.zipIdx_cons,List.zipIdx_nil,List.forIn_cons,List.forIn_nil];refine wpAny_bind (wpAny_bind (wpAny_onRaise ?_));show wpAny _ _ (Builtin.SmallTypes.nextOf (.ref j1) >>= _) _ _ _;have s1₁:S1 k h₁:=D1.frame _ _ _ s1 fun c hc o e=>hs₁.extBut c o (o1 c hc).1 e
 rcases le with rfl |⟨l1,rfl⟩
 ·refine wpAny_bind (D1.done ⟨h₁,ge,dr,tk0,os⟩ _ _ s1₁ fun h₂ e hs₂ ⟨oe,hoe,hce⟩=>?_);replace hs₂:Heap.ExtBut j1 h₁ h₂:=hs₂;have hz₂:IsZip h₂ z TI TO .ellipsis:=hs₂ _ _ Z.c.symm hz₁;have hez:e≠z:=fun q=>by subst q;rw[hz₂]at hoe;cases hoe;simp at hce
  refine wpAny_setField_rec hz₂ (by simp) fun h₃ _ hs₃=>hE h₃ e tk0 (fun c o c1 _ c3 _ q=>hs₃.extBut _ _ c1 (hs₂ _ _ c3 (hs₁.extBut _ _ c1 q))) ⟨oe,hs₃.extBut _ _ hez hoe,hce⟩
 ·refine wpAny_bind (D1.item k ⟨h₁,ge,dr,tk0,os⟩ _ _ l1 s1₁ fun x h₂ t₂ px s1₂ hs₂=>wpAny_pure ?_);replace hs₂:Heap.SameBut j1 h₁ h₂:=hs₂;have hTO₂:IsPair h₂ TO a0 b0:=hs₂.extBut _ _ Z.h (hs₁.extBut _ _ Z.b hTO);refine wpAny_bind (wpAny_seqItems hTO₂ rfl (wpAny_bind (wpAny_updateSeq_pair hTO₂ fun h₃ hTO₃ hs₃=>?_)));replace hs₃:Heap.SameBut TO h₂ h₃:=hs₃;refine wpAny_bind (wpAny_letGo (wpAny_pure (wpAny_bind (wpAny_bind (wpAny_onRaise ?_)))));show wpAny _ _ (Builtin.SmallTypes.nextOf (.ref j2) >>= _) _ _ _;have s2₃:S2 k h₃:=D2.frame _ _ _ s2 fun c hc o e=>hs₃.extBut c o (o2 c hc).2.1 (hs₂.extBut c o (o2 c hc).2.2 (hs₁.extBut c o (o2 c hc).1 e))
  refine wpAny_bind (D2.done ⟨h₃,ge,dr,t₂,os⟩ _ _ s2₃ fun h₄ e hs₄ ⟨oe,hoe,hce⟩=>?_);replace hs₄:Heap.ExtBut j2 h₃ h₄:=hs₄;have hz₄:IsZip h₄ z TI TO .ellipsis:=hs₄ _ _ Z.d.symm (hs₃.extBut _ _ Z.b.symm (hs₂.extBut _ _ Z.c.symm hz₁));have hez:e≠z:=fun q=>by subst q;rw[hz₄]at hoe;cases hoe;simp at hce
  refine wpAny_setField_rec hz₄ (by simp) fun h₅ _ hs₅=>hE h₅ e t₂ (fun c o c1 c2 c3 c4 q=>hs₅.extBut _ _ c1 (hs₄ _ _ c4 (hs₃.extBut _ _ c2 (hs₂.extBut _ _ c3 (hs₁.extBut _ _ c1 q))))) ⟨oe,hs₅.extBut _ _ hez hoe,hce⟩
end
theorem Inv.turnedL{X:Cx}{pins:List (Addr×Obj)}{σ:List (Option V)}{H:Hp}{s:Shared}{h':Heap}{t':Nat}{ch:List Addr}(I:Inv X pins σ H s)(k:∀b o,b∉ch→s.heap.get? b=some o→h'.get? b=some o)(hf:∀b∈ch,FpOk X pins H b):
 Inv X pins σ H {s with heap:=h',toks:=t'}:=by
 have nit:∀b u,H b=some u→b∉ch:=fun b u e z=>by rw[(hf b z).1]at e;cases e
 refine I.step (g':=s.gens) (d':=s.drawn) (ch:=ch) (fun b hb=>?_) (fun b o _ _ hc e _=>k b o hc e) (fun b o _ _ hc e _=>⟨o.slots,k b o hc e⟩) (fun _ _ _ _ n=>n)
  (fun b o hc e=>⟨o,k b o hc e⟩) (fun _ _ e=>e) (fun _ _ _ e=>e) (fun b ps e=>⟨#[],by rw[e];simp⟩) (fun m hm=>?_) (fun b u e=>?_) I.bare
 ·obtain ⟨_,f1,_,f3,f4,f5⟩:=hf b hb;exact ⟨f3,f1,f4,f5⟩
 ·obtain ⟨o,es,ep,ho,r⟩:=hm;exact ⟨o,es,ep,k _ o (fun z=>(hf _ z).2.1 rfl) ho,r⟩
 ·refine (I.hok b u e).stay (fun c v hc q=>k c v ?_ q) (fun _ q=>q) fun _ _ q=>q
  rcases hc with z |z
  ·rw[z];exact nit b u e
  ·exact nit c _ z
noncomputable def Sq(K:PySem.W.Frag)(b:Bool)(H:Hp)(a:Addr)(xs:List V):Prop:=match b with |true=>SqT K H a xs |false=>SqL K H a xs
theorem Inv.sq{b:Bool}{X:Cx}{pins:List (Addr×Obj)}{σ:List (Option V)}{H:Hp}{s:Shared}{a:Addr}{xs:List V}(I:Inv X pins σ H s)(h:Sq X.K b H a xs):∃its:List Value,Vals xs its∧SqAt b s.heap a its.toArray∧xs.length≤sizeLine:=by
 cases b
 ·obtain ⟨its,r,p,z⟩:=I.list h;exact ⟨its,r,p.isList,z⟩
 ·obtain ⟨its,r,p,z⟩:=I.tuple h;exact ⟨its,r,p,z⟩
theorem Inv.sq_inj{b:Bool}{X:Cx}{pins:List (Addr×Obj)}{σ:List (Option V)}{H:Hp}{s:Shared}{a:Addr}{xs ys:List V}(I:Inv X pins σ H s)(h:Sq X.K b H a xs)(h':Sq X.K b H a ys):xs=ys:=by
 cases b
 ·exact I.list_inj h h'
 ·exact I.tuple_inj h h'
noncomputable def Itz(K:PySem.W.Frag)(b b':Bool)(a a':Addr):It:=
 ⟨fun i H=>∃xs ys x y,Sq K b H a xs∧xs[i]?=some x∧Sq K b' H a' ys∧ys[i]?=some y,
  fun i H v H'=>∃p x y,H p=none∧v=.ref p∧H'=upd H p (.tup [x,y])∧(∀xs,Sq K b H a xs→xs[i]?=some x)∧∀ys,Sq K b' H a' ys→ys[i]?=some y,
  fun i H=>∃xs ys,Sq K b H a xs∧Sq K b' H a' ys∧(xs.length=i∨(i<xs.length∧ys.length=i))⟩
noncomputable def zipT(b b':Bool)(a a' z TI TO j1 j2:Addr)(i:Nat)(h:Heap):Prop:=IsZip h z TI TO .none∧IsPair h TI (.ref j1) (.ref j2)∧(∃u v,IsPair h TO u v)∧ItAt b h j1 a i∧ItAt b' h j2 a' i
theorem d0p{P:Program}{w:World}{K:PySem.W.Frag}{elts:List Expr}{x1}{pos:Pos}(b b':Bool)(a a' z TI TO j1 j2:Addr)(Z:ZA z TI TO j1 j2)(na:a≠z∧a≠TO∧a≠j1∧a≠j2)(na':a'≠z∧a'≠TO∧a'≠j1∧a'≠j2):
 Turn P w K (.Tuple elts x1 pos) (Itz K b b' a a') [z,TI,TO,j1,j2] z (zipT b b' a a' z TI TO j1 j2)where
 mem:=by simp
 obj:=fun i h st c hc=>by
  obtain ⟨hz,hTI,⟨u,v,hTO⟩,h1,h2⟩:=st;have hc':c=z∨c=TI∨c=TO∨c=j1∨c=j2:=by simpa using hc
  rcases hc' with rfl |rfl |rfl |rfl |rfl
  ·exact ⟨_,hz,fun v q=>by simp at q⟩
  ·exact ⟨_,hTI,fun v q=>by simp at q⟩
  ·exact ⟨_,hTO,fun v q=>by simp at q⟩
  ·obtain ⟨o,e,_,d⟩:=h1.obj;exact ⟨o,e,fun v q=>by rw[d]at q;cases q⟩
  ·obtain ⟨o,e,_,d⟩:=h2.obj;exact ⟨o,e,fun v q=>by rw[d]at q;cases q⟩
 keep:=fun i h h' st k=>by
  obtain ⟨hz,hTI,⟨u,v,hTO⟩,h1,h2⟩:=st;exact ⟨k z (by simp) _ hz,k TI (by simp) _ hTI,⟨u,v,k TO (by simp) _ hTO⟩,h1.stay fun o e=>k j1 (by simp) o e,h2.stay fun o e=>k j2 (by simp) o e⟩
 item:=by
  intro X hP hw hK hc i pins s σ H E I hf st hg;subst hP hw hK;obtain ⟨xs,ys,x,y,q1,e1,q2,e2⟩:=hg;obtain ⟨its1,r1,p1,z1⟩:=I.sq q1;obtain ⟨its2,r2,p2,z2⟩:=I.sq q2;obtain ⟨u1,g1,v1⟩:=r1.get e1;obtain ⟨u2,g2,v2⟩:=r2.get e2;obtain ⟨hz,hTI,⟨u,v,hTO⟩,h1,h2⟩:=st;have l1:=(List.getElem?_eq_some_iff.mp g1).1;have l2:=(List.getElem?_eq_some_iff.mp g2).1;have hh:X.A.in1.handled=none:=I.ok.hd hc;have D1:=y0l b (prog:=X.prog) (w:=X.w) hh j1 a na.2.2.1 its1.toArray;have D2:=y0l b' (prog:=X.prog) (w:=X.w) hh j2 a' na'.2.2.2 its2.toArray;have hT:s.TypeIs (.ref z) "zip":=⟨_,hz,rfl⟩;unfold pyNext;refine wpAny_bind (wpAny_attempt (wpAny_callSpecial?_slot (name:=Str.ofString "__next__") hT F.slot_zip_next (wpAny_call_entry F.slot_zip_next hT F.entry_zip_next
   (z1y D1 D2 Z (fun c hc=>?_) (fun c hc=>?_) hz hTI hTO ⟨h1,p1⟩ ⟨h2,p2⟩ (by simpa using l1) (by simpa using l2) fun x' y' h' tk px py hz' hTO' st1 st2 hT' kk=>wpAny_pure ⟨_,rfl,?_⟩) (F.args_zip_next_1 _))))
  ·have:c=j1∨c=a:=by simpa using hc
   rcases this with rfl |rfl
   ·exact ⟨Z.c,Z.h.symm,Z.j⟩
   ·exact ⟨na.1,na.2.1,na.2.2.2⟩
  ·have:c=j2∨c=a':=by simpa using hc
   rcases this with rfl |rfl
   ·exact ⟨Z.d,Z.i.symm,Z.j.symm⟩
   ·exact ⟨na'.1,na'.2.1,na'.2.2.1⟩
  have ex:x'=u1:=by
   have px':its1.toArray[i]?=some x':=px;rw[List.getElem?_toArray,g1]at px';exact (Option.some.inj px').symm
  have ey:y'=u2:=by
   have py':its2.toArray[i]?=some y':=py;rw[List.getElem?_toArray,g2]at py';exact (Option.some.inj py').symm
  subst ex ey;refine wpAny_letOwnedTupleGo_zip (s:={s with heap:=h',toks:=tk}) hz' fun h₂ hz₂ hs₂=>?_
  replace hs₂:Heap.SameBut z h' h₂:=hs₂;have hfr:H s.heap.objs.size=none:=I.hok.fresh (Nat.le_refl _);have Il:Inv X pins σ (upd H s.heap.objs.size (.tup [x,y])) {s with heap:=s.heap.push {cls:=.type "tuple",data:=.seq #[x',y']}}:=I.laid (t':=s.toks) (fun b u e=>Heap.get?_push_of_some _ e) (Nat.le_refl _)
   ⟨by show 2≤sizeLine;decide,[x',y'],.cons v1 (.cons v2 .nil),⟨_,Heap.get?_push_size _ rfl,rfl,⟨_,rfl⟩,rfl⟩⟩
  have lt:∀{c o},s.heap.get? c=some o→c≠s.heap.objs.size:=fun e=>Nat.ne_of_lt (Heap.lt_size e)
  have nT:∀c∈[z,TI,TO,j1,j2],c≠s.heap.objs.size:=fun c hc=>by
   have hc':c=z∨c=TI∨c=TO∨c=j1∨c=j2:=by simpa using hc
   rcases hc' with rfl |rfl |rfl |rfl |rfl
   ·exact lt hz
   ·exact lt hTI
   ·exact lt hTO
   ·obtain ⟨o,e,_⟩:=h1.obj;exact lt e
   ·obtain ⟨o,e,_⟩:=h2.obj;exact lt e
  have hn2:∀c∈[z,TI,TO,j1,j2],upd H s.heap.objs.size (.tup [x,y]) c=none:=fun c hc=>by rw[g0 (nT c hc)];exact (hf c hc).1
  have If:Inv X pins σ (upd H s.heap.objs.size (.tup [x,y])) {s with heap:=h₂,toks:=tk}:=Inv.turnedL (s:={s with heap:=s.heap.push {cls:=.type "tuple",data:=.seq #[x',y']}}) (ch:=[z,TI,TO,j1,j2]) (h':=h₂) (t':=tk) Il (fun c o hc e=>by
   have hc':c≠z∧c≠TI∧c≠TO∧c≠j1∧c≠j2:=by simpa using hc
   rcases Heap.get?_push_cases e with ⟨rfl,rfl⟩|e
   ·exact hs₂.extBut _ _ hc'.1 hT'
   ·exact hs₂.extBut _ _ hc'.1 (kk c o hc'.1 hc'.2.2.1 hc'.2.2.2.1 hc'.2.2.2.2 e)) fun c hc=>⟨hn2 c hc,(hf c hc).2⟩
  refine ⟨.ref s.heap.objs.size,_,If,rfl,⟨s.heap.objs.size,x,y,hfr,rfl,rfl,fun zs hq=>by rw[I.sq_inj hq q1];exact e1,fun zs hq=>by rw[I.sq_inj hq q2];exact e2⟩,?_,hn2⟩;exact ⟨hz₂,hs₂.extBut _ _ Z.a (kk _ _ Z.a Z.e Z.f Z.g hTI),⟨_,_,hs₂.extBut _ _ Z.b hTO'⟩,st1.1.stay fun o e=>hs₂.extBut _ _ Z.c e,st2.1.stay fun o e=>hs₂.extBut _ _ Z.d e⟩
 done:=by
  intro X hP hw hK hc i pins s σ H E I hf st hg;subst hP hw hK;obtain ⟨xs,ys,q1,q2,le⟩:=hg;obtain ⟨its1,r1,p1,z1⟩:=I.sq q1;obtain ⟨its2,r2,p2,z2⟩:=I.sq q2;obtain ⟨hz,hTI,⟨u,v,hTO⟩,h1,h2⟩:=st;have hh:X.A.in1.handled=none:=I.ok.hd hc;have D1:=y0l b (prog:=X.prog) (w:=X.w) hh j1 a na.2.2.1 its1.toArray;have D2:=y0l b' (prog:=X.prog) (w:=X.w) hh j2 a' na'.2.2.2 its2.toArray;have hT:s.TypeIs (.ref z) "zip":=⟨_,hz,rfl⟩;have len1:=r1.length;have len2:=r2.length;unfold pyNext;refine wpAny_bind (wpAny_attempt (wpAny_callSpecial?_slot (name:=Str.ofString "__next__") hT F.slot_zip_next (wpAny_call_entry F.slot_zip_next hT F.entry_zip_next
   (zp_end D1 D2 Z (fun c hc=>?_) (fun c hc=>?_) hz hTI hTO ⟨h1,p1⟩ ⟨h2,p2⟩ ?_ fun h' e tk kk ⟨o,ho,hco⟩=>?_) (F.args_zip_next_1 _))))
  ·have:c=j1∨c=a:=by simpa using hc
   rcases this with rfl |rfl
   ·exact ⟨Z.c,Z.h.symm,Z.j⟩
   ·exact ⟨na.1,na.2.1,na.2.2.2⟩
  ·have:c=j2∨c=a':=by simpa using hc
   rcases this with rfl |rfl
   ·exact ⟨Z.d,Z.i.symm,Z.j.symm⟩
   ·exact ⟨na'.1,na'.2.1,na'.2.2.1⟩
  ·simp only[List.size_toArray];omega
  ·refine wpAny_bind (wpAny_isInstance (T:="StopIteration") (b:=true) ⟨o,ho,hco⟩ isSubtype_stop (wpAny_pure ⟨rfl,?_⟩));exact I.turnedL (ch:=[z,TI,TO,j1,j2]) (h':=h') (t':=tk) (fun c o hc e=>by
    have hc':c≠z∧c≠TI∧c≠TO∧c≠j1∧c≠j2:=by simpa using hc
    exact kk c o hc'.1 hc'.2.2.1 hc'.2.2.2.1 hc'.2.2.2.2 e) hf
 self:=fun A i s Q E st h=>wpAny_pyIter_zip st.1 h
end L2
namespace L2
open PySem PySem.Spec PyProof.Rows
noncomputable def Ite(K:PySem.W.Frag)(b:Bool)(a:Addr):It:=
 ⟨fun i H=>∃xs x,Sq K b H a xs∧xs[i]?=some x,
  fun i H v H'=>∃p x,H p=none∧v=.ref p∧H'=upd H p (.tup [.int i,x])∧∀xs,Sq K b H a xs→xs[i]?=some x,
  fun i H=>∃xs,Sq K b H a xs∧xs.length=i⟩
noncomputable def enumT(b:Bool)(a e j:Addr)(i:Nat)(h:Heap):Prop:=(∃old,IsEnum h e j (i:Int) old)∧ItAt b h j a i
theorem g0v{P:Program}{w:World}{K:PySem.W.Frag}{elts:List Expr}{x1}{pos:Pos}(b:Bool)(a e j:Addr)(hej:e≠j)(na:a≠e∧a≠j):
 Turn P w K (.Tuple elts x1 pos) (Ite K b a) [e,j] e (enumT b a e j)where
 mem:=by simp
 obj:=fun i h st c hc=>by
  obtain ⟨⟨old,he⟩,h1⟩:=st;have hc':c=e∨c=j:=by simpa using hc
  rcases hc' with rfl |rfl
  ·exact ⟨_,he,fun v q=>by simp at q⟩
  ·obtain ⟨o,e,_,d⟩:=h1.obj;exact ⟨o,e,fun v q=>by rw[d]at q;cases q⟩
 keep:=fun i h h' st k=>by
  obtain ⟨⟨old,he⟩,h1⟩:=st;exact ⟨⟨old,k e (by simp) _ he⟩,h1.stay fun o e=>k j (by simp) o e⟩
 item:=by
  intro X hP hw hK hc i pins s σ H E I hf st hg;subst hP hw hK;obtain ⟨xs,x,q1,e1⟩:=hg;obtain ⟨its1,r1,p1,z1⟩:=I.sq q1;obtain ⟨u1,g1,v1⟩:=r1.get e1;obtain ⟨⟨old,he⟩,h1⟩:=st;have l1:=(List.getElem?_eq_some_iff.mp g1).1;have hh:X.A.in1.handled=none:=I.ok.hd hc;have D1:=y0l b (prog:=X.prog) (w:=X.w) hh j a na.2 its1.toArray;refine wpAny_pyNext_enum_itemD D1 he ⟨h1,p1⟩ (by simpa using l1) hej (by simp[hej,na.1.symm]) fun x' h' tk px ho st1 hT' hsz kk=>⟨_,rfl,?_⟩
  have ex:x'=u1:=by
   have px':its1.toArray[i]?=some x':=px;rw[List.getElem?_toArray,g1]at px';exact (Option.some.inj px').symm
  subst ex;refine wpAny_letOwnedTupleGo_enum (s:={s with heap:=h',toks:=tk+1}) ho fun h₂ he₂ hs₂=>?_
  replace hs₂:Heap.SameBut e h' h₂:=hs₂;have hfr:H s.heap.objs.size=none:=I.hok.fresh (Nat.le_refl _);have Il:Inv X pins σ (upd H s.heap.objs.size (.tup [.int i,x])) {s with heap:=s.heap.push {cls:=.type "tuple",data:=.seq #[.int i tk,x']}}:=I.laid (t':=s.toks) (fun b u e=>Heap.get?_push_of_some _ e) (Nat.le_refl _)
   ⟨by show 2≤sizeLine;decide,[.int i tk,x'],.cons ⟨tk,rfl⟩ (.cons v1 .nil),⟨_,Heap.get?_push_size _ rfl,rfl,⟨_,rfl⟩,rfl⟩⟩
  have lt:∀{c o},s.heap.get? c=some o→c≠s.heap.objs.size:=fun e=>Nat.ne_of_lt (Heap.lt_size e)
  have nT:∀c∈[e,j],c≠s.heap.objs.size:=fun c hc=>by
   have hc':c=e∨c=j:=by simpa using hc
   rcases hc' with rfl |rfl
   ·exact lt he
   ·obtain ⟨o,e,_⟩:=h1.obj;exact lt e
  have hn2:∀c∈[e,j],upd H s.heap.objs.size (.tup [.int i,x]) c=none:=fun c hc=>by rw[g0 (nT c hc)];exact (hf c hc).1
  have If:Inv X pins σ (upd H s.heap.objs.size (.tup [.int i,x])) {s with heap:=h₂,toks:=tk+1}:=Inv.turnedL (s:={s with heap:=s.heap.push {cls:=.type "tuple",data:=.seq #[.int i tk,x']}}) (ch:=[e,j]) (h':=h₂) (t':=tk+1) Il (fun c o hc q=>by
   have hc':c≠e∧c≠j:=by simpa using hc
   rcases Heap.get?_push_cases q with ⟨rfl,rfl⟩|q
   ·exact hs₂.extBut _ _ hc'.1 hT'
   ·exact hs₂.extBut _ _ hc'.1 (kk c o hc'.1 hc'.2 q)) fun c hc=>⟨hn2 c hc,(hf c hc).2⟩
  refine ⟨.ref s.heap.objs.size,_,If,rfl,⟨s.heap.objs.size,x,hfr,rfl,rfl,fun zs hq=>by rw[I.sq_inj hq q1];exact e1⟩,?_,hn2⟩;exact ⟨⟨_,by simpa using he₂⟩,st1.1.stay fun o q=>hs₂.extBut _ _ hej.symm q⟩
 done:=by
  intro X hP hw hK hc i pins s σ H E I hf st hg;subst hP hw hK;obtain ⟨xs,q1,le⟩:=hg;obtain ⟨its1,r1,p1,z1⟩:=I.sq q1;obtain ⟨⟨old,he⟩,h1⟩:=st;have hh:X.A.in1.handled=none:=I.ok.hd hc;have D1:=y0l b (prog:=X.prog) (w:=X.w) hh j a na.2 its1.toArray;have len1:=r1.length;have en:its1.toArray.size=i:=by simp only[List.size_toArray];omega
  refine wpAny_pyNext_enum_endD D1 he ⟨by rw[en];exact h1,p1⟩ fun h' sb=>⟨rfl,?_⟩
  exact I.turnedL (ch:=[e,j]) (h':=h') (t':=s.toks) (fun c o hc q=>by
   have hc':c≠e∧c≠j:=by simpa using hc
   exact sb c o hc'.2 q) hf
 self:=fun A i s Q E st h=>let ⟨⟨_,he⟩,_⟩:=st;wpAny_pyIter_enum he h
theorem bt_zip:bootBuiltins "zip"=some (.type "zip"):=by decide +kernel
theorem o0a:bootBuiltins "enumerate"=some (.type "enumerate"):=by decide +kernel
end L2
namespace L2
open PySem PySem.Spec PyProof.Rows
theorem n0z{prog:Program}{w:World}{A:Around}{R:Result→Shared→Prop}{s:Shared}{elt target iter:Expr}{ifs:List Expr}{scope:Scope}{pos:Pos}{it acc:Value}{env:Env}(I:Nat→Shared→Prop)
 (turn:∀n s,I n s→wpAny (model prog w) A (pyNext it) (fun r s₁=>match r with
  |none=>R (.ok .next) s₁
  |some v=>wpAny (model prog w) A (letOwnedTupleGo target it v) (fun _ s₁'=>wpAny (model prog w) A (assign target env v) (fun _ s₂=>
   wpAny (model prog w) A (forIn ifs true fun c r=>if r=true then do let ok←isTrue c env (eval c env);pure (ForInStep.yield ok)else pure (ForInStep.yield r)) (fun ok s₃=>
    if ok=true then wpAny (model prog w) A (eval elt env) (fun x s₄=>wpAny (model prog w) A (call (.builtin "list.append") [acc,x]) (fun _ s₅=>∃m,m<n∧I m s₅) (fun _ _=>False) s₄) (fun _ _=>False) s₃
    else ∃m,m<n∧I m s₃) (fun _ _=>False) s₂) (fun _ _=>False) s₁') (fun _ _=>False) s₁) (fun _ _=>False) s)
 (n:Nat) (h:I n s):codeAny (model prog w) A (.compLoop (.ListComp elt [⟨target,iter,ifs,0⟩] scope pos) 0 it acc env) R s:=by
 refine codeAny_loop rfl I (fun n s hI=>?_) n h;show wpAny _ _ ((compTurn (.ListComp elt [⟨target,iter,ifs,0⟩] scope pos) 0 it acc env).onRaise (fun y=>do noteFrame y env;theTreesLotGoes y)) _ _ s;refine wpAny_noted ?_;rw[compTurn_list];refine wpAny_bind (wpAny_standAt (wpAny_bind (wpAny_mono (turn n s hI) (fun r s₁ h₁=>?_) fun _ _ z=>z.elim)));cases r with
 |none=>exact wpAny_pure h₁
 |some v=>
  refine wpAny_bind (wpAny_mono h₁ (fun _ s₁' h₁'=>?_) fun _ _ z=>z.elim);refine wpAny_bind (wpAny_mono h₁' (fun _ s₂ h₂=>wpAny_bind (wpAny_mono h₂ (fun ok s₃ h₃=>?_) fun _ _ z=>z.elim)) fun _ _ z=>z.elim);cases ok with
  |false=>exact wpAny_pure ⟨rfl,h₃⟩
  |true=>exact wpAny_bind (wpAny_bind (wpAny_mono h₃ (fun x s₄ h₄=>wpAny_bind (wpAny_mono h₄ (fun _ s₅ h₅=>wpAny_pure (wpAny_pure ⟨rfl,h₅⟩)) fun _ _ z=>z.elim)) fun _ _ z=>z.elim))
noncomputable def Cx.compM(X:Cx)(xs:List Str)(js:List Nat)(scope:Scope)(cl:List (Str×Addr))(C:Addr)(s₀:Shared)(H₀:Hp)(fp:List Addr):Cx:=
 {X with N:=xs++js.map (fun j=>X.N.getD j ""),s₀:=s₀,H₀:=H₀,env:=compEnvC scope cl C X.env,outer:=X.stack,ex:=fp,fn:=fun _=>false,pn:=[],xe:=fun _ _=>False}
noncomputable def i6(σ:St)(js:List Nat):St:=js.map fun j=>(σ[j]?).join
structure CompOkM(X:Cx)(xs:List Str)(js:List Nat)(scope:Scope):Prop where
 kind:scope.kind=.function
 cell:∀y∈scope.names,y.2≠.cell
 loc:∀y∈scope.names,y.2=.local→scope.names.lookup y.1=some .local
 free:∀y∈scope.names,y.2=.free→X.env.kindOf y.1=some .cell∨X.env.kindOf y.1=some .free
 caps:∀j∈js,scope.names.lookup (X.N.getD j "")=some .free
 nd:(xs++js.map (fun j=>X.N.getD j "")).Nodup
noncomputable def k0i(names:List (Str×NameKind))(N xs:List Str)(js:List Nat)(scope:Scope):Bool:=
 (scope.kind== .function)&&(scope.names.all fun y=>(y.2 !=.cell)&&((y.2 !=.local)||scope.names.lookup y.1==some .local)&&((y.2 !=.free)||(names.lookup y.1==some .cell||names.lookup y.1==some .free)))&&
  (js.all fun j=>scope.names.lookup (N.getD j "")==some .free)&&decide ((xs++js.map (fun j=>N.getD j "")).Nodup)
theorem CompOkM.of{X:Cx}{scope:Scope}(xs:List Str)(js:List Nat)(h:k0i X.env.scope.names X.N xs js scope=true):CompOkM X xs js scope:=by
 unfold k0i at h;simp only[Bool.and_eq_true,List.all_eq_true,beq_iff_eq,bne_iff_ne,Bool.or_eq_true,decide_eq_true_eq]at h;obtain ⟨⟨⟨h1,h2⟩,h4⟩,h5⟩:=h;refine ⟨h1,fun y hy=>(h2 y hy).1.1,fun y hy e=>?_,fun y hy e=>?_,h4,h5⟩
 ·rcases (h2 y hy).1.2 with z |z
  ·exact absurd e z
  ·exact z
 ·rcases (h2 y hy).2 with z |z
  ·exact absurd e z
  ·exact z
section
variable{X:Cx}{pins:List (Addr×Obj)}{σ:St}{H:Hp}{s:Shared}
theorem g0u{xs:List Str}{js:List Nat}{scope:Scope}{cl:List (Str×Addr)}{fp:List Addr}{h':Heap}{tk:Nat}(I:Inv X pins σ H s)(S:CompOkM X xs js scope)
 (h1:∀y c,cl.lookup y=some c→X.env.cells.lookup y=some c) (h2:∀y,(y,NameKind.free)∈scope.names→∃c,cl.lookup y=some c)
 (hf:∀b∈fp,FpOk X pins H b) (hfl:∀b∈fp,b<s.heap.objs.size)
 (hn:h'.Ns s.heap.objs.size (fun _=>none)) (hk:∀b o,s.heap.get? b=some o→h'.get? b=some o):
 Inv (X.compM xs js scope cl s.heap.objs.size s H fp) [] (List.replicate xs.length none++i6 σ js) H {s with heap:=h',toks:=tk}:=by
 have e0:=I.env0;have hfree:H s.heap.objs.size=none:=I.hok.fresh (Nat.le_refl _);refine ⟨⟨I.ok.mod,S.kind,I.ok.glob,I.ok.blt,Nat.le_refl _,fun y z c a b=>I.ok.inj y z c (h1 y c a) (h1 z c b),fun y hy=>?_,(fun y c z=>by cases z),I.ok.hd,I.ok.frames,.inl rfl,fun b hb=>⟨Nat.ne_of_lt (hfl b hb),fun y c e=>(hf b hb).2.2.2.2.1 y c (h1 y c e)⟩,
  I.bs,Nat.le_trans I.ok.bsz I.sz,fun b o e hb=>?_,fun b hb z=>?_,I.stack,I.stkFree⟩,rfl,I.bare,Un.kept hk,⟨_,hn,fun i y v e1 e2 e3=>?_⟩,fun y c e=>?_,hfree,fun y c e=>I.freeC y c (h1 y c e),(fun p hp=>by cases hp),I.hok.kept hk,?_⟩
 ·have hy:(relabel scope X.env).names.lookup y=some .cell∨(relabel scope X.env).names.lookup y=some .free:=hy;rcases hy with hy |hy
  ·exact h2 y (z0g hy (.inl rfl) S.cell)
  ·exact h2 y (z0g hy (.inr rfl) S.cell)
 ·rcases (hf b hb).2.2.2.1 with z |z
  ·exact I.ok.noex b o e z
  ·exact absurd (Nat.lt_of_lt_of_le (Heap.lt_size e) (Nat.le_trans I.ok.bsz z)) (Nat.lt_irrefl _)
 ·have z:b∈frs X.stack:=z;rcases List.mem_cons.mp (I.stkSub b z)with q |q
  ·exact (hf b hb).2.1 q
  ·exact (hf b hb).2.2.1 q
 ·have e1:(xs++js.map (fun j=>X.N.getD j ""))[i]?=some y:=e1;by_cases hi:i<xs.length
  ·rw[List.getElem?_append_left (by simpa using hi),List.getElem?_replicate,if_pos hi]at e2;cases e2
  ·rw[List.getElem?_append_right (by omega)]at e1;rw[List.getElem?_append_right (by simp;omega)]at e2;simp only[List.length_replicate]at e2;generalize i-xs.length=i at e1 e2;unfold i6 at e2;rw[List.getElem?_map]at e1 e2;cases ej:js[i]? with
   |none=>rw[ej]at e1;cases e1
   |some j=>
    rw[ej]at e1 e2;have e1:X.N.getD j ""=y:=Option.some.inj e1;have e2:(σ[j]?).join=some v:=Option.some.inj e2;have hjm:j∈js:=List.mem_of_getElem? ej;have e2':σ[j]?=some (some v):=by
     cases q:σ[j]? with
     |none=>rw[q]at e2;cases e2
     |some o=>rw[q]at e2;cases o with
      |none=>cases e2
      |some v'=>cases e2;rfl
    have hjl:j<X.N.length:=by rw[←I.len];exact (List.getElem?_eq_some_iff.mp e2').1
    have eN:X.N[j]?=some y:=by
     rw[←e1,List.getD_eq_getElem?_getD,List.getElem?_eq_getElem hjl];rfl
    have hfr:scope.names.lookup y=some .free:=by rw[←e1];exact S.caps j hjm
    have hmem:(y,NameKind.free)∈scope.names:=PySem.mem_of_lookup hfr;obtain ⟨c,hc⟩:=h2 y hmem;have hXc:=h1 y c hc;have hkd:=S.free (y,.free) hmem rfl;obtain ⟨m,hm,hl⟩:=I.loc;have hvis:Vis X.env.scope y:=by rcases hkd with q |q;exact .inr (.inl q);exact .inr (.inr q)
    obtain ⟨u,r,l⟩:=hl j y v eN e2' hvis;refine ⟨u,r,.inr ⟨o0h hfr,c,hc,?_⟩⟩;rcases l with ⟨q,_⟩|⟨q,c',q1,q2⟩
    ·rcases hkd with z |z
     ·rw[z]at q;cases q
     ·rw[z]at q;cases q
    ·rw[hXc]at q1;cases q1;obtain ⟨o,ho,hd⟩:=q2;exact ⟨o,hk _ _ ho,hd⟩
 ·obtain ⟨v,o,ho,hd⟩:=I.cell y c (h1 y c e);exact ⟨v,o,hk _ _ ho,hd⟩
 ·show (List.replicate xs.length none++i6 σ js).length=(xs++js.map (fun j=>X.N.getD j "")).length;unfold i6;simp
end
noncomputable def tgV(K:PySem.W.Frag)(tup:Bool)(n:Nat)(v:V)(H:Hp)(k:List V→Prop):Prop:=match tup with
 |false=>k [v]
 |true=>∃a ws,v=.ref a∧SqT K H a ws∧ws.length=n∧k ws
structure TgM(K:PySem.W.Frag)(tup:Bool)(n:Nat)(g:TG):Prop where
 go:∀(caps:St) (v:V) (H:Hp) (Q:St→Hp→Prop),tgV K tup n v H (fun ws=>Q (ws.map some++caps) H)→g v (List.replicate n none++caps) H Q
theorem f8{K:PySem.W.Frag}:TgM K false 1 (n0g 0):=⟨fun caps v H Q h=>h⟩
theorem n0y:∀(ws:List V) (pre post:St) (H:Hp) (Q:St→Hp→Prop),Q (pre++ws.map some++post) H→DL.gAll (List.range' pre.length ws.length) ws (pre++List.replicate ws.length none++post) H Q
 | [],pre,post,H,Q,h=>⟨rfl,by simpa using h⟩
 |w::ws,pre,post,H,Q,h=>by
  refine ⟨w,ws,rfl,?_⟩;show DL.gAll (List.range' (pre.length+1) ws.length) ws ((pre++List.replicate (w::ws).length none++post).set pre.length (some w)) H Q;have e:(pre++List.replicate (w::ws).length (none:Option V)++post).set pre.length (some w)=(pre++[some w])++List.replicate ws.length none++post:=by
   rw[List.length_cons,List.replicate_succ,List.append_assoc,List.cons_append,List.set_append_right _ _ (Nat.le_refl _)];simp
  rw[e];have:=n0y ws (pre++[some w]) post H Q (by simpa using h);simpa using this
theorem g0t{K:PySem.W.Frag}{n:Nat}{is:List Nat}(hi:is=List.range' 0 n):TgM K true n (gTup K n (DL.gAll is)):=⟨fun caps v H Q h=>by
 subst hi;obtain ⟨a,ws,rfl,q,hl,h⟩:=h;subst hl;exact ⟨a,ws,rfl,q,rfl,n0y ws [] caps H Q h⟩⟩
noncomputable def PIfs(X:Cx)(ifs:List Expr)(t:TT):Prop:=∀(pins:List (Addr×Obj)) (s:Shared) (σ:St) (H:Hp) (Q:Bool→Hp→Prop),Inv X pins σ H s→t σ H Q→
 wpAny (model X.prog X.w) X.A (forIn ifs true fun c r=>if r=true then do let ok←isTrue c X.env (eval c X.env);pure (ForInStep.yield ok)else pure (ForInStep.yield r)) (TP X pins σ Q) X.xe s
theorem d0o{X:Cx}:PIfs X [] (fun _ H Q=>Q true H):=fun pins s σ H Q I h=>wpAny_tests_nil ⟨H,I,h⟩
noncomputable def k0h(K:PySem.W.Frag)(J:It)(tup:Bool)(n:Nat)(caps:St)(D:Addr)(tc:TT)(te:TE)(H1:Hp)(Q:Hp→Prop):Prop:=∃P:Nat→Nat→List V→Hp→Prop,(∃m,P 0 m [] (upd H1 D (.lst [])))∧∀i m ys H2,P i m ys H2→H2 D=some (.lst ys)∧
 ((J.stop i H2∧Q H2)∨(J.go i H2∧∀v H3,J.yld i H2 v H3→tgV K tup n v H3 fun ws=>tc (ws.map some++caps) H3 fun ok H4=>
  if ok=true then te (ws.map some++caps) H4 fun y H5=>H5 D=some (.lst ys)∧ys.length<sizeLine∧∃m',m'<m∧P (i+1) m' (ys++[y]) (upd H5 D (.lst (ys++[y])))
  else ∃m',m'<m∧P (i+1) m' ys H4))
noncomputable def k0g(K:PySem.W.Frag)(wi:TI)(tup:Bool)(n:Nat)(js:List Nat)(tc:TT)(te:TE):TE:=fun σ H Q=>wi σ H fun J H1=>∀D,H1 D=none→k0h K J tup n (i6 σ js) D tc te H1 fun H2=>Q (.ref D) H2
section
variable{X:Cx}
theorem t0e{xs:List Str}{target elt iter:Expr}{ifs:List Expr}{js:List Nat}{scope:Scope}{cl:List (Str×Addr)}{pos:Pos}{tup:Bool}{g:TG}{tc:TT}{te:TE}{J:It}{fp:List Addr}{it:Addr}{tn:Nat→Heap→Prop}{pins:List (Addr×Obj)}{σ:St}{H1:Hp}{s1:Shared}
 {Q:V→Hp→Prop} {RR:Value→Addr→Result→Shared→Prop} {E:Value→Shared→Prop} (hc:X.calm=true) (S:CompOkM X xs js scope)
 (hg:∀C s₀ H₀ fp cl,PG (X.compM xs js scope cl C s₀ H₀ fp) target g) (gm:TgM X.K tup xs.length g) (ht:∀C s₀ H₀ fp cl,PIfs (X.compM xs js scope cl C s₀ H₀ fp) ifs tc)
 (he:∀C s₀ H₀ fp cl,PE (X.compM xs js scope cl C s₀ H₀ fp) elt te)
 (h1:∀y c,cl.lookup y=some c→X.env.cells.lookup y=some c) (h2:∀y,(y,NameKind.free)∈scope.names→∃c,cl.lookup y=some c)
 (I:Inv X pins σ H1 s1) (T:Turn X.prog X.w X.K target J fp it tn) (st:tn 0 s1.heap) (hf:∀b∈fp,FpOk X pins H1 b)
 (q:∀D,H1 D=none→k0h X.K J tup xs.length (i6 σ js) D tc te H1 fun H2=>Q (.ref D) H2)
 (hRR:∀D C H' s',Inv X pins σ H' s'→Loose X pins H' C→(∃m,s'.heap.Ns C m)→Q (.ref D) H'→RR (.ref D) C (.ok .next) s'):
 wpAny (model X.prog X.w) X.A (newList []) (fun acc s₃=>wpAny (model X.prog X.w) X.A (newFunctionEnv scope X.env.globals cl [] X.env.qual none .none (some X.env)) (fun cenv s₄=>
  codeAny (model X.prog X.w) X.A (.compStart (.ListComp elt [⟨target,iter,ifs,0⟩] scope pos) 0 (.ref it) acc {cenv with scope:=relabel scope X.env}) (RR acc cenv.locals) s₄) E s₃) E s1:=by
 have hfr:H1 s1.heap.objs.size=none:=I.hok.fresh (Nat.le_refl _);refine wpAny_newObj_type (wpAny_newFunctionEnv S.cell (by intro y hy;simp at hy) (fun h₁ hns₁ hsb₁=>?_) S.kind);dsimp only at hns₁ hsb₁ ⊢;have I3:=I.laid (a:=s1.heap.objs.size) (o:=.lst []) (h':=s1.heap.push {cls:=.type "list",dict:=none,data:=.seq ([]:List Value).toArray}) (t':=s1.toks) (fun b u e=>Heap.get?_push_of_some _ e) (Nat.le_refl _)
  ⟨by simp,[],0,.nil,Heap.get?_push_size _ rfl⟩
 generalize hD:s1.heap.objs.size=D at*
 generalize hH2:s1.heap.push {cls:=.type "list",dict:=none,data:=.seq ([]:List Value).toArray}=G at*
 have hGD:G.objs.size=D+1:=by rw[←hH2,Heap.size_push,hD]
 have hkG:∀b o,G.get? b=some o→h₁.get? b=some o:=fun b o e=>hsb₁.extBut b o (Nat.ne_of_lt (Heap.lt_size e)) (Heap.get?_push_of_some _ e)
 have hold:∀b o,s1.heap.get? b=some o→h₁.get? b=some o:=fun b o e=>hkG b o (by rw[←hH2];exact Heap.get?_push_of_some _ e)
 have hfpl:∀b∈fp,b<s1.heap.objs.size:=fun b hb=>by obtain ⟨o,e,_⟩:=T.obj _ _ st b hb;exact Heap.lt_size e
 have hf3:∀b∈fp,FpOk X pins (upd H1 D (.lst [])) b:=fun b hb=>⟨by rw[g0 (by rw[←hD];exact Nat.ne_of_lt (hfpl b hb))];exact (hf b hb).1,(hf b hb).2⟩
 have IC:=g0u (xs:=xs) (js:=js) (scope:=scope) (cl:=cl) (fp:=fp) (h':=h₁) (tk:=s1.toks+([]:List (Str×Value)).length) I3 S h1 h2 hf3 (fun b hb=>Nat.lt_of_lt_of_le (hfpl b hb) (by show s1.heap.objs.size≤G.objs.size;rw[hGD,hD];exact Nat.le_succ _)) hns₁ hkG;obtain ⟨P,⟨m0,p0⟩,turn⟩:=q D hfr;have loop:∀s':Shared,s'={s1 with heap:=h₁,toks:=s1.toks+([]:List (Str×Value)).length}→
  codeAny (model X.prog X.w) X.A (.compLoop (.ListComp elt [⟨target,iter,ifs,0⟩] scope pos) 0 (.ref it) (.ref D) (compEnvC scope cl G.objs.size X.env)) (RR (.ref D) G.objs.size) s':=by
  rintro s' rfl;refine n0z (fun n s'=>∃i ys H',Inv (X.compM xs js scope cl G.objs.size {s1 with heap:=G} (upd H1 D (.lst [])) fp) [] (List.replicate xs.length none++i6 σ js) H' s'∧tn i s'.heap∧(∀b∈fp,H' b=none)∧P i n ys H') ?_ m0 ⟨0,[],_,IC,T.keep _ _ _ st fun b hb o e=>hold b o e,fun b hb=>(hf3 b hb).1,p0⟩;rintro n s3 ⟨i,ys,H3,J3,st3,fr3,p3⟩;obtain ⟨hD3,tr⟩:=turn i n ys H3 p3;have stat:∀{H':Hp} {s':Shared} {σ':St},Inv (X.compM xs js scope cl G.objs.size {s1 with heap:=G} (upd H1 D (.lst [])) fp) [] σ' H' s'→(∀b∈fp,H' b=none)→∀b∈fp,FpOk (X.compM xs js scope cl G.objs.size {s1 with heap:=G} (upd H1 D (.lst [])) fp) [] H' b:=
   fun {H' s' σ'} JJ hn b hb=>⟨hn b hb,(JJ.ok.exf b hb).1,JJ.ok.exfs b hb,.inl hb,(JJ.ok.exf b hb).2,fun p hp=>by cases hp⟩
  rcases tr with ⟨stop,qn⟩|⟨go,step⟩
  ·refine wpAny_mono (T.done (X.compM xs js scope cl G.objs.size {s1 with heap:=G} (upd H1 D (.lst [])) fp) rfl rfl rfl hc i [] s3 _ H3 (fun _ _=>False) J3 (stat J3 fr3) st3 stop) (fun r s4 ⟨hr,J4⟩=>?_) fun _ _ z=>z
   subst hr;have I4:Inv X pins σ H3 s4:=by
    refine I3.call' (ch:=fp) (s':=s4) J4.os J4.base J4.hok J4.bare fun b hb=>?_
    obtain ⟨_,f1,f2,f3,f4,f5⟩:=hf3 b hb;exact ⟨f3,f1,f4,f5⟩
   refine hRR D G.objs.size H3 s4 I4 ⟨J4.free,?_,?_,?_,?_⟩ (let ⟨m,hm,_⟩:=J4.loc;⟨m,hm⟩) qn
   ·exact Nat.ne_of_gt I3.lt
   ·exact I3.sz
   ·exact fun y c e=>by obtain ⟨v,z⟩:=I3.cell y c e;exact Nat.ne_of_lt z.lt
   ·exact fun p hp=>Nat.ne_of_lt (Heap.lt_size (I3.pin p hp).1)
  ·refine wpAny_mono (T.item (X.compM xs js scope cl G.objs.size {s1 with heap:=G} (upd H1 D (.lst [])) fp) rfl rfl rfl hc i [] s3 _ H3 (fun _ _=>False) J3 (stat J3 fr3) st3 go) (fun r s4 ⟨u,hr,h4⟩=>?_) fun _ _ z=>z
   subst hr;refine wpAny_mono h4 (fun _ s5 ⟨v,H5,J5,r5,y5,st5,fr5⟩=>?_) fun _ _ z=>z
   have J5':=J5.pinned (stat J5 fr5) (T.obj _ _ st5);have back:∀{ws:List V} {H':Hp} {s':Shared} {pp},Inv (X.compM xs js scope cl G.objs.size {s1 with heap:=G} (upd H1 D (.lst [])) fp) pp (ws.map some++i6 σ js) H' s'→Inv (X.compM xs js scope cl G.objs.size {s1 with heap:=G} (upd H1 D (.lst [])) fp) pp (List.replicate xs.length none++i6 σ js) H' s':=
    fun {ws H' s' pp} JJ=>by
     have hl:(ws.map some++i6 σ js).length=(List.replicate xs.length none++i6 σ js).length:=by rw[JJ.len,← J3.len]
     have hw:ws.length=xs.length:=by simpa using hl
     refine JJ.weak hl.symm fun k v e=>?_
     by_cases hk:k<xs.length
     ·rw[List.getElem?_append_left (by simpa using hk),List.getElem?_replicate,if_pos hk]at e;cases e
     ·rw[List.getElem?_append_right (by simp;omega)]at e ⊢;simpa[hw]using e
   have seen:∀{H':Hp} {s':Shared} {σ':St},Inv (X.compM xs js scope cl G.objs.size {s1 with heap:=G} (upd H1 D (.lst [])) fp) ([]++o0x fp s5.heap) σ' H' s'→tn (i+1) s'.heap∧∀b∈fp,H' b=none:=fun {H' s' σ'} JJ=>by
    refine ⟨T.keep _ _ _ st5 fun b hb o e=>(JJ.pin (b,o) (List.mem_append_right _ (List.mem_append_right _ (y0n hb e)))).1,fun b hb=>?_⟩;obtain ⟨o,e,d⟩:=T.obj _ _ st5 b hb;exact (JJ.pin (b,o) (List.mem_append_right _ (List.mem_append_right _ (y0n hb e)))).2.1
   have st5':=step v H5 y5;refine wpAny_mono (hg G.objs.size {s1 with heap:=G} (upd H1 D (.lst [])) fp cl _ s5 _ H5 v u (fun σ' H'=>∃ws:List V,σ'=ws.map some++i6 σ js∧H'=H5∧tc (ws.map some++i6 σ js) H5 fun ok H4=>
    if ok=true then te (ws.map some++i6 σ js) H4 fun y H5=>H5 D=some (.lst ys)∧ys.length<sizeLine∧∃m',m'<n∧P (i+1) m' (ys++[y]) (upd H5 D (.lst (ys++[y])))else ∃m',m'<n∧P (i+1) m' ys H4) J5' r5 (gm.go _ _ _ _ ?_)) (fun _ s6 ⟨σ6,H6,J6,ws,e1,e2,h6⟩=>?_) fun _ _ z=>z
   ·unfold tgV at st5' ⊢;cases tup
    ·exact ⟨_,rfl,rfl,st5'⟩
    ·obtain ⟨a,ws,z1,z2,z3,z4⟩:=st5';exact ⟨a,ws,z1,z2,z3,ws,rfl,rfl,z4⟩
   subst e1 e2;refine wpAny_mono (ht G.objs.size {s1 with heap:=G} (upd H1 D (.lst [])) fp cl _ s6 _ _ _ J6 h6) (fun ok s7 ⟨H7,J7,q7⟩=>?_) fun _ _ z=>z
   cases ok with
   |false=>
    rw[if_neg Bool.false_ne_true]at q7 ⊢;obtain ⟨m',hm',p7⟩:=q7;obtain ⟨w1,w2⟩:=seen J7;exact ⟨m',hm',i+1,ys,H7,back J7.unpinned,w1,w2,p7⟩
   |true=>
    rw[if_pos rfl]at q7 ⊢;refine wpAny_mono (he G.objs.size {s1 with heap:=G} (upd H1 D (.lst [])) fp cl _ s7 _ H7 _ J7 q7) (fun y s8 ⟨yv,H8,J8,ry,hD8,hz8,m',hm',p8⟩=>?_) fun _ _ z=>z
    obtain ⟨z,its,nn,r,hl,e⟩:=J8.lstM hD8;refine call_meets F.slot_list_append ⟨_,e,rfl⟩ F.entry_list_append (F.args_list_append_2 _ _) (PySem.list_append D its.toArray nn y (by rw[List.size_toArray];omega)) ⟨e,?_⟩;have J9:=J8.lset (its':=its++[y]) (t':=s8.toks) hD8 e (f:=fun xs=>xs.push y) (by simp) (r.append (.cons ry .nil)) (by rw[List.length_append,List.length_singleton];omega);obtain ⟨w1,w2⟩:=seen J9;exact ⟨m',hm',i+1,ys++[yv],_,back J9.unpinned,w1,w2,p8⟩
 exact codeAny_compStart_list (loop _ rfl) (T.self X.A 0 _ _ _ (T.keep _ _ _ st fun b hb o e=>hold b o e) (loop _ rfl))
theorem k0f{xs:List Str}{target elt iter:Expr}{ifs:List Expr}{js:List Nat}{scope:Scope}{pos:Pos}{tup:Bool}{g:TG}{tc:TT}{te:TE}{wi:TI}(hc:X.calm=true)(S:CompOkM X xs js scope)(hi:PI X target iter wi)
 (hg:∀C s₀ H₀ fp cl,PG (X.compM xs js scope cl C s₀ H₀ fp) target g) (gm:TgM X.K tup xs.length g) (ht:∀C s₀ H₀ fp cl,PIfs (X.compM xs js scope cl C s₀ H₀ fp) ifs tc)
 (he:∀C s₀ H₀ fp cl,PE (X.compM xs js scope cl C s₀ H₀ fp) elt te) (hs:∀v,foldedSetIterable iter X.env v=pure v:=by intro _;rfl):
 PE X (.ListComp elt [⟨target,iter,ifs,0⟩] scope pos) (k0g X.K wi tup xs.length js tc te):=by
 intro pins s σ H Q I h;obtain ⟨cl,c0,c1,c2⟩:=r0c (scope:=scope) (env:=X.env) fun p hp hk=>I.ok.has p.1 (S.free p hp hk)
 rw[eval_ListComp];refine wpAny_comprehension_free (use:=none) rfl hs c0 S.kind S.loc (thn (hi pins s σ H _ I h) fun xv s₁ h₁=>thn h₁ fun itv s₂ h₂=>?_);obtain ⟨it,fp,tn,J,H',rfl,I2,T,st,hf,q⟩:=h₂;refine t0e (RR:=fun acc C=>compPost (model X.prog X.w) X.A X.xe none (EP X pins σ Q) acc C) hc S hg gm ht he c1 c2 I2 T st hf q ?_;rintro D C H' s' I' L ⟨m,hm⟩ qq;refine ⟨m,hm,fun h' hs'=>⟨.ref D,H',?_,rfl,qq⟩⟩;exact I'.turned (t':=s'.toks) (it:=C) (fun b o hb e=>hs'.extBut b o hb e) L.free L.ne (.inr L.yng) L.cell L.pin
theorem k0e{i:Nat}{y:Str}{py:Pos}{xs:List Str}{target elt iter:Expr}{ifs:List Expr}{js:List Nat}{scope:Scope}{pos spos:Pos}{tup:Bool}{g:TG}{tc:TT}{te:TE}{wi:TI}(hc:X.calm=true)(S:CompOkM X xs js scope)(hi:PI X target iter wi)
 (hg:∀C s₀ H₀ fp cl,PG (X.compM xs js scope cl C s₀ H₀ fp) target g) (gm:TgM X.K tup xs.length g) (ht:∀C s₀ H₀ fp cl,PIfs (X.compM xs js scope cl C s₀ H₀ fp) ifs tc)
 (he:∀C s₀ H₀ fp cl,PE (X.compM xs js scope cl C s₀ H₀ fp) elt te) (hN:X.N.Nodup) (hy:X.N[i]?=some y) (hl:Loc X.env.scope y)
 (hsw:swapsWith (.ListComp elt [⟨target,iter,ifs,0⟩] scope pos) (some (.Name y py)) spos.line X.env=pure true)
 (hs:∀v,foldedSetIterable iter X.env v=pure v:=by intro _;rfl) (hfn:X.fn y=true∨X.env.scope.names.lookup y=some .local:=by first |exact .inl rfl |exact .inr rfl |assumption):
 PS X (.Assign [.Name y py] (.ListComp elt [⟨target,iter,ifs,0⟩] scope pos) spos) (tAsg (k0g X.K wi tup xs.length js tc te) (n0g i)):=by
 intro pins s σ H D I h;obtain ⟨cl,c0,c1,c2⟩:=r0c (scope:=scope) (env:=X.env) fun p hp hk=>I.ok.has p.1 (S.free p hp hk)
 rw[exec_Assign_Name_used _ _ _ _ hsw];refine wpAny_bind (wpAny_standAt (wpAny_bind ?_));show wpAny _ _ (do let _←comprehension (.ListComp elt [⟨target,iter,ifs,0⟩] scope pos) scope X.env _ (newList []) false (eval iter X.env) (some (assign (.Name y py) X.env))) _ _ s;refine wpAny_bind (wpAny_mono (wpAny_comprehension_free (use:=some (assign (.Name y py) X.env)) (Q:=fun _ s'=>SP X pins D .next s') rfl hs c0 S.kind S.loc
  (thn (hi pins s σ H _ I h) fun xv s₁ h₁=>thn h₁ fun itv s₂ h₂=>?_)) (fun _ s' hq=>wpAny_pure (wpAny_pure hq)) fun _ _ e=>e)
 obtain ⟨it,fp,tn,J,H',rfl,I2,T,st,hf,q⟩:=h₂;refine t0e (Q:=fun v H1=>n0g i v σ H1 D.nx) (RR:=fun acc C=>compPost (model X.prog X.w) X.A X.xe (some (assign (.Name y py) X.env)) (fun _ s'=>SP X pins D .next s') acc C) hc S hg gm ht he c1 c2 I2 T st hf q ?_;rintro E C H' s' I' L ⟨m,hm⟩ qq;show wpAny _ _ (assign (.Name y py) X.env (.ref E)) _ _ _;refine wpAny_assign_Name (o0y (v:=.ref E) I' hN hy hl rfl (fun s2 I2 ⟨a,sb,ha⟩=>?_) hfn);have nca:C≠a:=by
  rcases ha with z |z
  ·rw[z];exact L.ne
  ·exact (L.cell y a z).symm
 refine ⟨m,hm.sameBut sb nca,fun h' hs'=>⟨_,H',?_,qq⟩⟩;exact I2.turned (t':=s2.toks) (it:=C) (fun b o hb e=>hs'.extBut b o hb e) L.free L.ne (.inr L.yng) L.cell L.pin
end
section
variable{X:Cx}{elts:List Expr}{x1:Nat}{tpos:Pos}
noncomputable def iZip(K:PySem.W.Frag)(ta:TA):TI:=fun σ H R=>ta σ H fun vs H1=>∃a a' b b',vs=[.ref a,.ref a']∧(∃xs,Sq K b H1 a xs)∧(∃ys,Sq K b' H1 a' ys)∧R (Itz K b b' a a') H1
theorem pi_zip{a b:Expr}{ta:TA}{p pos:Pos}(hg:Gl X "zip")(hm:X.mg "zip"=none)(ha:PA X [a,b] ta)(hs:starEach [a,b] X.env=[(false,eval a X.env),(false,eval b X.env)]:=by rfl)(hs2:starEach [b] X.env=[(false,eval b X.env)]:=by rfl):
 PI X (.Tuple elts x1 tpos) (.Call (.Name "zip" p) [a,b] [] pos) (iZip X.K ta):=by
 intro pins s σ H R I h;refine Call_ (t0w I hg hm bt_zip (PyProof.Rows.callWith_type1 (thn (ha pos pins s σ H _ I h) fun us s1 ⟨vs,H1,I1,r1,q1⟩=>?_) (by rw[hs,hs2]) (by rw[hs2];rfl)));obtain ⟨a1,a2,b1,b2,e,⟨xs,k1⟩,⟨ys,k2⟩,q⟩:=q1;subst e;cases r1 with
 |cons r rr=>
  cases rr with
  |cons r' rr=>
   cases rr;cases r;cases r';obtain ⟨its1,v1,p1,z1⟩:=I1.sq k1;obtain ⟨its2,v2,p2,z2⟩:=I1.sq k2;have l1:a1<s1.heap.objs.size:=by obtain ⟨o,e,_⟩:=p1.obj;exact Heap.lt_size e
   have l2:a2<s1.heap.objs.size:=by obtain ⟨o,e,_⟩:=p2.obj;exact Heap.lt_size e
   refine z1z p1 p2 fun h' hz hTI hTO i1 i2 kk=>wpAny_pyIter_zip (s:={s1 with heap:=h'}) hz ?_
   have ne:∀{c k:Nat},c<s1.heap.objs.size→c≠s1.heap.objs.size+k:=fun h z=>by omega
   have ap:∀{k l:Nat},k≠l→s1.heap.objs.size+k≠s1.heap.objs.size+l:=fun h z=>h (by omega)
   have ap0:∀{l:Nat},l≠0→s1.heap.objs.size≠s1.heap.objs.size+l:=fun h z=>h (by omega)
   refine ⟨_,[s1.heap.objs.size+4,s1.heap.objs.size+2,s1.heap.objs.size+3,s1.heap.objs.size,s1.heap.objs.size+1],_,_,H1,rfl,I1.kept (t':=s1.toks) kk,d0p b1 b2 a1 a2 _ _ _ _ _ ⟨ap (by decide),ap (by decide),ap0 (by decide),ap (by decide),ap (by decide),(ap0 (by decide)).symm,ap (by decide),(ap0 (by decide)).symm,ap (by decide),ap0 (by decide)⟩
    ⟨ne l1,ne l1,Nat.ne_of_lt l1,ne l1⟩ ⟨ne l2,ne l2,Nat.ne_of_lt l2,ne l2⟩,⟨hz,hTI,⟨_,_,hTO⟩,i1,i2⟩,fun c hc=>?_,q⟩
   have hle:s1.heap.objs.size≤c:=by
    have hc':c=s1.heap.objs.size+4∨c=s1.heap.objs.size+2∨c=s1.heap.objs.size+3∨c=s1.heap.objs.size∨c=s1.heap.objs.size+1:=by simpa using hc
    rcases hc' with e |e |e |e |e<;>(rw[e];omega)
   exact I1.fpOk hle (I1.hok.fresh hle)
noncomputable def iEnu(K:PySem.W.Frag)(ta:TA):TI:=fun σ H R=>ta σ H fun vs H1=>∃a b,vs=[.ref a]∧(∃xs,Sq K b H1 a xs)∧R (Ite K b a) H1
theorem z1x{a:Expr}{ta:TA}{p pos:Pos}(hg:Gl X "enumerate")(hm:X.mg "enumerate"=none)(ha:PA X [a] ta)(hs:starEach [a] X.env=[(false,eval a X.env)]:=by rfl):
 PI X (.Tuple elts x1 tpos) (.Call (.Name "enumerate" p) [a] [] pos) (iEnu X.K ta):=by
 intro pins s σ H R I h;refine Call_ (t0w I hg hm o0a (PyProof.Rows.callWith_type1 (thn (ha pos pins s σ H _ I h) fun us s1 ⟨vs,H1,I1,r1,q1⟩=>?_) hs rfl));obtain ⟨a1,b1,e,⟨xs,k1⟩,q⟩:=q1;subst e;cases r1 with
 |cons r rr=>
  cases rr;cases r;obtain ⟨its1,v1,p1,z1⟩:=I1.sq k1;have l1:a1<s1.heap.objs.size:=by obtain ⟨o,e,_⟩:=p1.obj;exact Heap.lt_size e
  refine a0a p1 fun h' he i1 kk=>wpAny_pyIter_enum (s:={s1 with heap:=h'}) he ?_
  refine ⟨_,[s1.heap.objs.size+1,s1.heap.objs.size],_,_,H1,rfl,I1.kept (t':=s1.toks) kk,g0v b1 a1 _ _ (Nat.succ_ne_self _) ⟨Nat.ne_of_lt (Nat.lt_succ_of_lt l1),Nat.ne_of_lt l1⟩,⟨⟨_,he⟩,i1⟩,fun c hc=>?_,q⟩;have hle:s1.heap.objs.size≤c:=by
   have hc':c=s1.heap.objs.size+1∨c=s1.heap.objs.size:=by simpa using hc
   rcases hc' with e |e<;>(rw[e];omega)
  exact I1.fpOk hle (I1.hok.fresh hle)
end
end L2
namespace L2
open PySem PySem.Spec PyProof.Rows
section
variable{X:Cx}
theorem u0o:bootBuiltins "sum"=some (.builtin "sum"):=by decide +kernel
noncomputable def m0z(ns:List Int):Prop:=∀j,j<ns.length→InLong (ns.getD j 0)∧InLong (preSum (fun i=>ns.getD i 0) (j+1))
theorem e9(ns:List Int):∀j,preSum (fun i=>ns.getD i 0) j=(ns.take j).sum
 | 0=>by simp[preSum]
 |j+1=>by
  rw[PySem.sum_take_succ,← e9 ns j];rfl
noncomputable def rSum(K:PySem.W.Frag):List V→Hp→VK→Prop:=fun vs H Q=>∃(b:Bool) (a:Addr) (ns:List Int),vs=[.ref a]∧Sq K b H a (ns.map V.int)∧m0z ns∧Q (.int ns.sum) H
theorem q0j(b:Bool){prog:Program}{w:World}{A:Around}(hh:A.handled=none)(j a:Addr)(ne:a≠j)(xs:Array Value):
 Walks prog w A j [j,a] [j] xs.size (fun i v=>xs[i]?=some v) (fun i h=>ItAt b h j a i∧SqAt b h a xs):=by
 cases b
 ·exact Walks.list hh j a ne xs
 ·exact Walks.tuple hh j a ne xs
theorem e8(hc:X.calm=true):x0t X (.builtin "sum") (rSum X.K):=by
 intro pins s σ H xs us Q I rv h;obtain ⟨b,a,ns,rfl,hq,fit,q⟩:=h;obtain ⟨u,rfl,ru⟩:=rv.one;cases (show u=Value.ref a from ru);obtain ⟨its,r,p,hz⟩:=I.sq hq;have hi:=j0g r;have hlt:a<s.heap.objs.size:=by obtain ⟨_,e,_⟩:=p.obj;exact Heap.lt_size e
 have hlen:its.length=ns.length:=by have:=r.length;simpa using this.symm
 refine call_sum_walk (t0f p ?_);refine ⟨s.heap.objs.size,[s.heap.objs.size,a],[s.heap.objs.size],its.toArray.size,_,_,fun i=>ns.getD i 0,rfl,q0j b (A:=X.A.in1) (I.ok.hd hc) _ a (Nat.ne_of_lt hlt) its.toArray,
  ⟨.of (Heap.get?_push_size _ rfl) rfl rfl,p.stay fun o e=>Heap.get?_push_of_some _ e⟩,fun c hcm=>?_,fun i v hP=>?_,fun j hj=>fit j (by simpa[hlen]using hj),fun h' tk t' hk=>?_⟩
 ·show c<(s.heap.push _).objs.size;rw[Heap.size_push];have:c=s.heap.objs.size∨c=a:=by simpa using hcm
  rcases this with rfl |rfl
  ·exact Nat.lt_succ_self _
  ·exact Nat.lt_succ_of_lt hlt
 ·have hP':its[i]?=some v:=by simpa using hP
  have hl:=(List.getElem?_eq_some_iff.mp hP').1;have hl2:i<(ns.map V.int).length:=by rw[List.length_map];omega
  obtain ⟨u,hu,rr⟩:=r.get (List.getElem?_eq_getElem hl2);rw[hP']at hu;cases hu;rw[List.getElem_map]at rr;obtain ⟨t,e⟩:=rr;refine ⟨t,?_⟩;rw[e];show Value.int ns[i] t=Value.int (ns.getD i 0) t;rw[List.getD_eq_getElem?_getD,List.getElem?_eq_getElem (by omega)];rfl
 ·rw[List.size_toArray,hlen,e9,List.take_length];have hn:∀c o,s.heap.get? c=some o→c∉ [s.heap.objs.size]:=fun c o e z=>by
   have z':c=s.heap.objs.size:=by simpa using z
   subst z';exact absurd (Heap.lt_size e) (Nat.lt_irrefl _)
  exact ⟨.int _,H,I.kept fun c o e=>hk c o (hn c o e) (Heap.get?_push_of_some _ e),⟨t',rfl⟩,q⟩
noncomputable def rCatA(K:PySem.W.Frag):R2:=fun x y H Q=>∃a b xs ys,x=.ref a∧y=.ref b∧SqT K H a xs∧SqT K H b ys∧xs.length+ys.length≤sizeLine∧
 (xs=[]→Q (.ref b) H)∧(xs≠[]→ys=[]→Q (.ref a) H)∧(xs≠[]→ys≠[]→∀p,H p=none→Q (.ref p) (upd H p (.tup (xs++ys))))
theorem z1w:OpR X (binaryOp .Add) (rCatA X.K):=by
 intro pins s σ H x y v u Q I rx ry h;obtain ⟨a,b,xs,ys,rfl,rfl,ha,hb,hz,q0,q1,q2⟩:=h;by_cases hx:xs=[]
 ·cases rx;cases ry;obtain ⟨its,r1,p1,_⟩:=I.tuple ha;obtain ⟨its2,r2,p2,_⟩:=I.tuple hb;have hv:its=[]:=r1.nil_iff.mpr hx;obtain ⟨⟨cls,dd,data,sl⟩,ho,hc,n,hd⟩:=id p1;obtain ⟨⟨cls2,dd2,data2,sl2⟩,ho2,hc2,n2,hd2⟩:=id p2;simp only at hc hd hc2 hd2;subst hc hd hc2 hd2;exact concat_meets ⟨_,ho,rfl⟩ ⟨_,ho2,rfl⟩ noFill_tuple_add seq_tuple_add PySem.F.slot_tuple_add PySem.F.entry_tuple_add (PySem.F.args_tuple_add_2 _ _) (tuple_addW0 a b its.toArray its2.toArray n n2 dd dd2 sl sl2 (by simp[hv])) ⟨ho,ho2,.ref b,H,I,rfl,q0 hx⟩
 ·exact b0c pins s σ H _ _ v u Q I rx ry ⟨a,b,xs,ys,rfl,rfl,ha,hb,hx,hz,q1 hx,q2 hx⟩
end
end L2
namespace DL
open PySem PySem.Spec L2
open PySem.W (XC)
section
variable{X:Cx}{Y:Y2}{W:XW}{tg:Expr}{K:Frag}
noncomputable def sqb:D→Bool | .tup _=>true |_=>false
theorem t0d{F:Hp}{d:D}{xs:List D}{x:V}(h:seqD d=some xs)(r:Rep K F d x):∃a vs b,x=.ref a∧Sq K b F a vs∧Reps K F xs vs:=by
 obtain ⟨a,vs,e,sq,z⟩:=c0a h r;rcases sq with sq |sq
 ·exact ⟨a,vs,false,e,sq,z⟩
 ·exact ⟨a,vs,true,e,sq,z⟩
theorem _root_.L2.Same.sq{F F':Hp}{b:Bool}{a:Addr}{xs:List V}(s:Same F F')(h:Sq K b F a xs):Sq K b F' a xs:=by
 cases b
 ·exact s.sqL h
 ·exact s.sqT h
noncomputable def zipD(ds es:List D):List D:=List.zipWith (fun d e=>D.tup [d,e]) ds es
theorem d0n{ds es:List D}{i:Nat}{c:D}(h:(zipD ds es)[i]?=some c):∃d e,ds[i]?=some d∧es[i]?=some e∧c=.tup [d,e]:=by
 unfold zipD at h;rw[List.getElem?_zipWith]at h;cases h1:ds[i]? with
 |none=>rw[h1]at h;cases h
 |some d=>
  cases h2:es[i]? with
  |none=>rw[h1,h2]at h;cases h
  |some e=>rw[h1,h2]at h;exact ⟨d,e,rfl,rfl,(Option.some.inj h).symm⟩
theorem d0m{ds es:List D}:(zipD ds es).length=min ds.length es.length:=by unfold zipD;simp
theorem z1v{F:Hp}{b b':Bool}{a a':Addr}{xs ys:List V}{ds es:List D}(h:Sq K b F a xs)(h':Sq K b' F a' ys)(r:Reps K F ds xs)(r':Reps K F es ys):SrcOk K (Itz K b b' a a') F (zipD ds es):=by
 refine ⟨fun i c F' H e s1 s2=>?_,fun F' H s1 s2=>?_⟩
 ·obtain ⟨d,e',e1,e2,rfl⟩:=d0n e;obtain ⟨v,ev,rv⟩:=r.get e1;obtain ⟨v',ev',rv'⟩:=r'.get e2;have q1:=(s1.trans s2).sq h;have q2:=(s1.trans s2).sq h';refine ⟨⟨xs,ys,v,v',q1,ev,q2,ev'⟩,fun u H' y=>?_⟩;obtain ⟨p,x,y,hp,rfl,rfl,k1,k2⟩:=y;have e3:=k1 xs q1;have e4:=k2 ys q2;rw[ev]at e3;rw[ev']at e4;cases e3;cases e4;exact .inr ⟨p,_,_,hp,rfl,rfl,rfl,Reps.cons (rv.mono s1) (Reps.cons (rv'.mono s1) Reps.nil)⟩
 ·rw[d0m];refine ⟨xs,ys,(s1.trans s2).sq h,(s1.trans s2).sq h',?_⟩;rw[r.length,r'.length];omega
noncomputable def w0u(k:Nat)(ds:List D):List D:=match ds with | []=>[]|d::r=>.tup [.int (k:Int),d]::w0u (k+1) r
theorem r6:∀(ds:List D) (k:Nat),(w0u k ds).length=ds.length
 | [],k=>rfl
 |d::r,k=>by unfold w0u;rw[List.length_cons,List.length_cons,r6 r]
theorem p6:∀{ds:List D} {k i:Nat} {c:D},(w0u k ds)[i]?=some c→∃d,ds[i]?=some d∧c=.tup [.int ((k+i:Nat):Int),d]
 | [],k,i,c,h=>by unfold w0u at h;simp at h
 |d::r,k,0,c,h=>by unfold w0u at h;simp at h;exact ⟨d,rfl,h.symm⟩
 |d::r,k,i+1,c,h=>by
  unfold w0u at h;rw[List.getElem?_cons_succ]at h;obtain ⟨e,h1,h2⟩:=p6 h;exact ⟨e,by simpa using h1,by rw[h2,show k+1+i=k+(i+1)by omega]⟩
theorem d0l{F:Hp}{b:Bool}{a:Addr}{xs:List V}{ds:List D}(h:Sq K b F a xs)(r:Reps K F ds xs):SrcOk K (Ite K b a) F (w0u 0 ds):=by
 refine ⟨fun i c F' H e s1 s2=>?_,fun F' H s1 s2=>?_⟩
 ·obtain ⟨d,e1,rfl⟩:=p6 e;obtain ⟨v,ev,rv⟩:=r.get e1;have q1:=(s1.trans s2).sq h;refine ⟨⟨xs,v,q1,ev⟩,fun u H' y=>?_⟩;obtain ⟨p,x,hp,rfl,rfl,k1⟩:=y;have e3:=k1 xs q1;rw[ev]at e3;cases e3;rw[Nat.zero_add];exact .inr ⟨p,_,_,hp,rfl,rfl,rfl,Reps.cons (rep_int.mpr rfl) (Reps.cons (rv.mono s1) Reps.nil)⟩
 ·rw[r6];exact ⟨xs,(s1.trans s2).sq h,r.length⟩
variable{a b:Expr}{ta:TA2}{p pos tpos:Pos}{elts:List Expr}{x1:Nat}
noncomputable def d0k(ta:TA2):TI2:=fun x ρ δ q=>ta x ρ δ fun ds ρ1 δ1=>match ds with | [d,e]=>(match seqD d,seqD e with |some xs,some ys=>q (zipD xs ys) ρ1 δ1 |_,_=>False)|_=>False
theorem i2_zip(hm:X.mg "zip"=none)(ha:PA2 X Y W [a,b] ta)(hg:Gl X "zip":=by rfl)(hs:starEach [a,b] X.env=[(false,eval a X.env),(false,eval b X.env)]:=by rfl)(hs2:starEach [b] X.env=[(false,eval b X.env)]:=by rfl):
 PI2 X Y W (.Tuple elts x1 tpos) (.Call (.Name "zip" p) [a,b] [] pos) (d0k ta):=pi2 (pi_zip hg hm ha.go hs hs2) fun σ H R ⟨F,ρ,δ,x,q,I,h,k,kx⟩=>by
 refine ⟨F,ρ,δ,x,_,I,h,fun ds vs F' H' ρ' δ' I' s' r' h'=>?_,kx⟩;split at h'
 ·rename_i d e;split at h'
  ·rename_i xs ys e1 e2;obtain ⟨v,u,rfl,r1,r2⟩:=e0c r';obtain ⟨a1,vs1,b1,rfl,q1,z1⟩:=t0d e1 r1;obtain ⟨a2,vs2,b2,rfl,q2,z2⟩:=t0d e2 r2;exact ⟨a1,a2,b1,b2,rfl,⟨_,I'.sub.sq q1⟩,⟨_,I'.sub.sq q2⟩,k _ _ F' H' ρ' δ' I' s' (z1v q1 q2 z1 z2) h'⟩
  ·exact h'.elim
 ·exact h'.elim
noncomputable def d0j(ta:TA2):TI2:=fun x ρ δ q=>ta x ρ δ fun ds ρ1 δ1=>match ds with | [d]=>(match seqD d with |some xs=>q (w0u 0 xs) ρ1 δ1 |none=>False)|_=>False
theorem x0n(hm:X.mg "enumerate"=none)(ha:PA2 X Y W [a] ta)(hg:Gl X "enumerate":=by rfl)(hs:starEach [a] X.env=[(false,eval a X.env)]:=by rfl):
 PI2 X Y W (.Tuple elts x1 tpos) (.Call (.Name "enumerate" p) [a] [] pos) (d0j ta):=pi2 (z1x hg hm ha.go hs) fun σ H R ⟨F,ρ,δ,x,q,I,h,k,kx⟩=>by
 refine ⟨F,ρ,δ,x,_,I,h,fun ds vs F' H' ρ' δ' I' s' r' h'=>?_,kx⟩;split at h'
 ·split at h'
  ·rename_i xs e1;obtain ⟨v,rfl,r1⟩:=i9 r';obtain ⟨a1,vs1,b1,rfl,q1,z1⟩:=t0d e1 r1;exact ⟨a1,b1,rfl,⟨_,I'.sub.sq q1⟩,k _ _ F' H' ρ' δ' I' s' (d0l q1 z1) h'⟩
  ·exact h'.elim
 ·exact h'.elim
end
noncomputable def tgD(tup:Bool)(n:Nat)(d:D):Option (List D):=match tup,d with
 |false,d=>some [d]
 |true,.tup ds=>if ds.length=n then some ds else none
 |true,_=>none
noncomputable def compM(tup:Bool)(n:Nat)(tc:TT2)(te:TE2)(js:List Nat)(ρ:En)(q:List D→Dk→Prop):List D→List D→Dk→Prop
 | [],acc,δ=>q acc δ
 |d::ds,acc,δ=>match tgD tup n d with
  |some es=>tc (fun _ _ _ _=>False) (es.map .val++capt ρ js) δ fun b ρ1 δ1=>if b=true then te (fun _ _ _ _=>False) ρ1 δ1 fun e _ δ2=>acc.length<1000∧compM tup n tc te js ρ q ds (acc++[e]) δ2 else compM tup n tc te js ρ q ds acc δ1
  |none=>False
section
variable{K:Frag}{Y:Y2}{F H:Hp}{σ:St}{ρ:En}{δ:Dk}
theorem t0c{H₀:Hp}{sf:Option Addr}{cs:En}{ss:St}(hc:∀(i:Nat) (c:Cell),cs[i]?=some c→CellOk K F H H₀ sf c (ss[i]?).join):∀{es:List D} {ws:List V},Reps K F es ws→∀(i:Nat) (c:Cell),(es.map Cell.val++cs)[i]?=some c→CellOk K F H H₀ sf c ((ws.map some++ss:St)[i]?).join
 | [],ws,r,i,c,e=>by rw[reps_nil.mp r];exact hc i c e
 |d::es,ws,r,0,c,e=>by
  obtain ⟨v,l,rfl,r1,r2⟩:=reps_cons.mp r;cases e;exact ⟨v,rfl,r1⟩
 |d::es,ws,r,i+1,c,e=>by
  obtain ⟨v,l,rfl,r1,r2⟩:=reps_cons.mp r;exact t0c hc r2 i c e
theorem I2.blockM{es:List D}{ws:List V}{js:List Nat}(I:I2 K Y F H σ ρ δ)(r:Reps K F es ws):I2 K ⟨F,H,δ,none⟩ F H (ws.map some++i6 σ js) (es.map .val++capt ρ js) δ:=by
 have vals:∀(i:Nat) c,(es.map Cell.val++capt ρ js)[i]?=some c→(∃e,c=.val e)∨c=.no:=fun i c e=>by
  have m:=List.mem_of_getElem? e;rcases List.mem_append.mp m with m |m
  ·obtain ⟨d,_,rfl⟩:=List.mem_map.mp m;exact .inl ⟨d,rfl⟩
  ·unfold capt at m;obtain ⟨j,_,rfl⟩:=List.mem_map.mp m;unfold u0j;split
   ·exact .inl ⟨_,rfl⟩
   ·exact .inr rfl
 have no:∀i a,¬y6 (es.map .val++capt ρ js) (ws.map some++i6 σ js) i a:=fun i a o=>by
  rcases o.1 with ⟨es,q⟩|⟨C,fs,q⟩|⟨kvs,q⟩
  ·rcases vals i _ q with ⟨d,z⟩|z<;>cases z
  ·rcases vals i _ q with ⟨d,z⟩|z<;>cases z
  ·rcases vals i _ q with ⟨d,z⟩|z<;>cases z
 refine ⟨Ran.refl I.sub I.ran.dk,t0c (fun i c e=>?_) r,by simp[i6,capt,r.length],fun i j a _ o _=>absurd o (no i a),fun i a o=>absurd o (no i a)⟩;unfold capt at e;rw[List.getElem?_map,Option.map_eq_some_iff]at e;obtain ⟨j,ej,rfl⟩:=e;unfold i6;rw[List.getElem?_map,ej];show CellOk K F H H none _ (σ[j]?).join;cases ec:ρ[j]? with
 |none=>trivial
 |some c=>
  have w:=I.env j c ec;cases c with
  |val e=>exact w
  |_=>trivial
end
section
variable{X:Cx}{Y:Y2}{W:XW}{px pos:Pos}{target elt iter:Expr}{ifs:List Expr}{xs:List Str}{js:List Nat}{scope:Scope}{tc:TT2}{te:TE2}{ti:TI2}{tup:Bool}{g:TG}
noncomputable def tcY(K:Frag)(tc:TT2):TT:=fun σ H Q=>∃Y',upT K Y' W0 tc σ H Q
theorem n0x{σ:St}{ρ1:En}{δ1:Dk}{F1 H1:Hp}{J:It}{n:Nat}{ds:List D}{q:List D→Dk→Prop}{Q:Addr→Hp→Prop}(I1:I2 X.K Y F1 H1 σ ρ1 δ1)(src:SrcOk X.K J F1 ds)(h1:compM tup n tc te js ρ1 q ds [] δ1)
 (k:∀D F' H' δ' acc vs,I2 X.K Y F' H' σ ρ1 δ'→Same F1 F'→H' D=some (.lst vs)→F' D=none→Y.H₀ D=none→Off δ' D→(∀j a,y6 ρ1 σ j a→a≠D)→Reps X.K F' acc vs→q acc δ'→Q D H'):
 ∀D,H1 D=none→k0h X.K J tup n (i6 σ js) D (tcY X.K tc) (teY X.K te) H1 fun H2=>Q D H2:=by
 intro D hD;have hF:F1 D=none:=I1.sub.free hD;have h0:=I1.ran.fresh hD;have no:∀j a,y6 ρ1 σ j a→a≠D:=fun j a o=>by
  obtain ⟨u,hu⟩:=I1.ownAddr o;exact j0 hu hD
 have off:Off δ1 D:=fun b es e w=>by
  obtain ⟨_,vs,q2,_⟩:=I1.ran.dk b es e;rw[←w,hD]at q2;cases q2
 have I0:I2 X.K Y F1 (upd H1 D (.lst [])) σ ρ1 δ1:=by
  refine ⟨⟨fun b u e=>by rw[g0 (j0 e hF)];exact I1.sub _ _ e,fun b fs e=>?_,fun b u e f=>by rw[g0 (j0 e h0)];exact I1.ran.keep b u e f,I1.ran.f0,I1.ran.fnew,I1.ran.dto⟩,fun j c e=>?_,I1.len,I1.apart,I1.off⟩
  ·obtain ⟨q1,ws,q2,q3⟩:=I1.ran.dk b fs e;exact ⟨q1,ws,by rw[g0 (Ne.symm (off b fs e))];exact q2,q3⟩
  ·have w:=I1.env j c e;cases c with
   |no=>trivial
   |val d=>exact w
   |own fs=>
    obtain ⟨b,ws,e1,h1,f1,g1,r1⟩:=w;exact ⟨b,ws,e1,by rw[g0 (j0 h1 hD)];exact h1,f1,g1,r1⟩
   |obj C fs=>
    obtain ⟨b,dx,ws,e1,es1,h1,h2,f1,f2,g1,g2,r1⟩:=w;exact ⟨b,dx,ws,e1,es1,by rw[g0 (j0 h1 hD)];exact h1,by rw[g0 (j0 h2 hD)];exact h2,f1,f2,g1,g2,r1⟩
   |ownD fs=>
    obtain ⟨b,ws,e1,h1,f1,g1,r1⟩:=w;exact ⟨b,ws,e1,by rw[g0 (j0 h1 hD)];exact h1,f1,g1,r1⟩
 refine ⟨fun i m ys H2=>∃F2 δ2 acc,I2 X.K Y F2 H2 σ ρ1 δ2∧Same F1 F2∧H2 D=some (.lst ys)∧F2 D=none∧Off δ2 D∧Reps X.K F2 acc ys∧compM tup n tc te js ρ1 q (ds.drop i) acc δ2∧i≤ds.length∧m=ds.length-i,⟨ds.length,F1,δ1,[],I0,Same.refl F1,j3,hF,off,Reps.nil,by simpa using h1,Nat.zero_le _,by simp⟩,?_⟩;rintro i m ys H2 ⟨F2,δ2,acc,I2',s2,hD2,hF2,of2,r2,h2,hi,rfl⟩;refine ⟨hD2,?_⟩;cases e:ds[i]? with
 |none=>
  have hl:ds.length≤i:=List.getElem?_eq_none_iff.mp e;have ei:i=ds.length:=by omega
  subst ei;rw[List.drop_length]at h2;exact .inl ⟨src.stop F2 H2 s2 I2'.sub,k D F2 H2 δ2 acc ys I2' s2 hD2 hF2 h0 of2 no r2 h2⟩
 |some d=>
  have hl:i<ds.length:=(List.getElem?_eq_some_iff.mp e).1;obtain ⟨go,yl⟩:=src.item i d F2 H2 e s2 I2'.sub;refine .inr ⟨go,fun v H3 y=>?_⟩;have hy:=yl v H3 y;obtain ⟨F3,I3,s3,r3,nf3⟩:=I2'.yld hy;have hD3:H3 D=some (.lst ys):=by
   rcases hy with ⟨rfl,_⟩|⟨p,vs,es,hp,rfl,_⟩
   ·exact hD2
   ·rw[g0 (j0 hD2 hp)];exact hD2
  have hF3:F3 D=none:=nf3 D _ hD2 hF2;have ed:ds.drop i=d::ds.drop (i+1):=by rw[List.drop_eq_getElem_cons hl];congr 1;exact (List.getElem?_eq_some_iff.mp e).2
  rw[ed]at h2;unfold compM at h2;split at h2
  ·rename_i es ees;have body:∀ws:List V,Reps X.K F3 es ws→tcY X.K tc (ws.map some++i6 σ js) H3 fun ok H4=>if ok=true then teY X.K te (ws.map some++i6 σ js) H4 fun y H5=>H5 D=some (.lst ys)∧ys.length<sizeLine∧∃m',m'<ds.length-i∧
    ∃F2 δ2 acc,I2 X.K Y F2 (upd H5 D (.lst (ys++[y]))) σ ρ1 δ2∧Same F1 F2∧upd H5 D (.lst (ys++[y])) D=some (.lst (ys++[y]))∧F2 D=none∧Off δ2 D∧Reps X.K F2 acc (ys++[y])∧compM tup n tc te js ρ1 q (ds.drop (i+1)) acc δ2∧i+1≤ds.length∧m'=ds.length-(i+1)
    else ∃m',m'<ds.length-i∧∃F2 δ2 acc,I2 X.K Y F2 H4 σ ρ1 δ2∧Same F1 F2∧H4 D=some (.lst ys)∧F2 D=none∧Off δ2 D∧Reps X.K F2 acc ys∧compM tup n tc te js ρ1 q (ds.drop (i+1)) acc δ2∧i+1≤ds.length∧m'=ds.length-(i+1):=by
    intro ws rw';have kept:∀{F4 H4 δ4},Ran X.K F3 H3 δ2 F4 H4 δ4→H4 D=some (.lst ys)∧F4 D=none∧Off δ4 D:=fun {F4 H4 δ4} R=>by
     refine ⟨R.keep D _ hD3 of2,?_,fun b es e w=>?_⟩
     ·cases z:F4 D with
      |none=>rfl
      |some u=>
       rcases R.fnew D u z with w |w
       ·rw[hF3]at w;cases w
       ·rw[hD3]at w;cases w
     ·cases hd:δ2 with
      |none=>have:=R.dto.2 b es e hd;rw[←w,hD3]at this;cases this
      |some p=>
       obtain ⟨c,gs⟩:=p;obtain ⟨es',z⟩:=R.dto.1 c gs hd;rw[e]at z;cases z;exact of2 b gs hd w
    refine ⟨⟨F3,H3,δ2,none⟩,F3,_,δ2,_,_,I3.blockM rw',h2,fun bb F4 H4 ρ4 δ4 I4 s4 h4=>?_,fun _ _ _ _ _ _ _ _ _ _ _ z=>z⟩;obtain ⟨hD4,hF4,of4⟩:=kept I4.ran;cases bb with
    |false=>
     rw[if_neg Bool.false_ne_true]at h4 ⊢;exact ⟨ds.length-(i+1),by omega,F4,δ4,acc,I3.call I4.ran,(s2.trans s3).trans s4,hD4,hF4,of4,r2.mono (s3.trans s4),h4,hl,rfl⟩
    |true=>
     rw[if_pos rfl]at h4 ⊢;refine ⟨⟨F3,H3,δ2,none⟩,F4,ρ4,δ4,_,_,I4,h4,fun d5 v5 F5 H5 ρ5 δ5 I5 s5 r5 h5=>?_,fun _ _ _ _ _ _ _ _ _ _ _ z=>z⟩;obtain ⟨hD5,hF5,of5⟩:=kept I5.ran;have hlen:acc.length<1000:=h5.1;have s35:Same F3 F5:=s4.trans s5;exact ⟨hD5,by rw[r2.length];exact Nat.lt_of_lt_of_le hlen (by decide),ds.length-(i+1),by omega,F5,δ5,acc++[d5],(I3.call I5.ran).side hF5 h0 of5 ⟨_,hD5⟩ no,(s2.trans s3).trans s35,j3,hF5,of5,(r2.mono (s3.trans s35)).append (Reps.cons r5 Reps.nil),h5.2,hl,rfl⟩
   unfold tgD at ees;split at ees
   ·cases ees;exact body [v] (Reps.cons r3 Reps.nil)
   ·rename_i _ es0;split at ees
    ·rename_i hn;cases ees;obtain ⟨a,vs,rfl,ea,z⟩:=rep_tup.mp r3;exact ⟨a,vs,rfl,SqT.of (I3.sub _ _ ea),by rw[z.length];exact hn,body vs z⟩
    ·cases ees
   ·cases ees
  ·exact h2.elim
structure PIf2(X:Cx)(Y:Y2)(W:XW)(ifs:List Expr)(t:TT2):Prop where
 go:PIfs X ifs (upT X.K Y W t)
noncomputable def l7:TT2:=fun _ ρ δ q=>q true ρ δ
theorem r9:PIf2 X Y W [] l7:=⟨fun pins s σ H Q I ⟨F,ρ,δ,x,q,I2',h,k,kx⟩=>d0o pins s σ H Q I (k true F H ρ δ I2' (Same.refl F) h)⟩
variable{i:Nat}{y:Str}{py spos:Pos}
noncomputable def v0n(ti:TI2)(tup:Bool)(n:Nat)(js:List Nat)(tc:TT2)(te:TE2):TE2:=fun x ρ δ q=>ti x ρ δ fun ds ρ1 δ1=>compM tup n tc te js ρ1 (fun acc δ2=>q (.lst acc) ρ1 δ2) ds [] δ1
theorem k0d{n:Nat}{σ:St}{H:Hp}{Q:VK}(h:upE X.K Y W (v0n ti tup n js tc te) σ H Q):k0g X.K (upI2 X.K Y W ti) tup n js (tcY X.K tc) (teY X.K te) σ H Q:=by
 obtain ⟨F,ρ,δ,x,q,I,h,k,kx⟩:=h;refine ⟨F,ρ,δ,x,_,I,h,fun ds J F1 H1 ρ1 δ1 I1 s1 src h1=>n0x (Q:=fun D H2=>Q (.ref D) H2) I1 src h1 fun D F' H' δ' acc vs I' s' hD hF h0 of no r hq=>?_,kx⟩;exact k _ _ _ _ ρ1 δ' (I'.ice hF h0 of hD no) ((s1.trans s').trans (Same.new hF)) (rep_lst.mpr ⟨D,vs,rfl,j3,r.mono (Same.new hF)⟩) hq
variable(hc:X.calm=true)(S:CompOkM X xs js scope)(hi:PI2 X Y W target iter ti)(hg:(xs++js.map (fun j=>X.N.getD j "")).Nodup→∀C s₀ H₀ fp cl,PG (X.compM xs js scope cl C s₀ H₀ fp) target g)(gm:TgM X.K tup xs.length g)
 (ht:∀C s₀ H₀ fp cl Y',PIf2 (X.compM xs js scope cl C s₀ H₀ fp) Y' W0 ifs tc) (he:∀C s₀ H₀ fp cl Y',PE2 (X.compM xs js scope cl C s₀ H₀ fp) Y' W0 elt te)
include hc S hi hg gm ht he
theorem w0t(hs:∀v,foldedSetIterable iter X.env v=pure v:=by intro _;rfl):PE2 X Y W (.ListComp elt [⟨target,iter,ifs,0⟩] scope pos) (v0n ti tup xs.length js tc te):=
 pe2 (k0f (tc:=tcY X.K tc) (te:=teY X.K te) hc S hi.go (hg S.nd) gm (fun C s₀ H₀ fp cl pins s σ H Q I ⟨Y',h⟩=>(ht C s₀ H₀ fp cl Y').go pins s σ H Q I h) (fun C s₀ H₀ fp cl pins s σ H Q I ⟨Y',h⟩=>(he C s₀ H₀ fp cl Y').go pins s σ H Q I h) hs) fun σ H Q h=>k0d h
theorem k0c(hN:X.N.Nodup)(hy:X.N[i]?=some y:=by rfl)(hl:Loc X.env.scope y:=by walk_at "v2")
 (hsw:swapsWith (.ListComp elt [⟨target,iter,ifs,0⟩] scope pos) (some (.Name y py)) spos.line X.env=pure true:=by rfl) (hs:∀v,foldedSetIterable iter X.env v=pure v:=by intro _;rfl) (hfn:X.fn y=true∨X.env.scope.names.lookup y=some .local:=by walk_at "v1"):
 PS2 X Y W (.Assign [.Name y py] (.ListComp elt [⟨target,iter,ifs,0⟩] scope pos) spos) (h0c i (v0n ti tup xs.length js tc te)):=
 ps2 (k0e (i:=i) (tc:=tcY X.K tc) (te:=teY X.K te) hc S hi.go (hg S.nd) gm (fun C s₀ H₀ fp cl pins s σ H Q I ⟨Y',h⟩=>(ht C s₀ H₀ fp cl Y').go pins s σ H Q I h) (fun C s₀ H₀ fp cl pins s σ H Q I ⟨Y',h⟩=>(he C s₀ H₀ fp cl Y').go pins s σ H Q I h) hN hy hl hsw hs hfn) fun E1 σ H ⟨F,ρ,δ,E2,I,h,er⟩=>
  k0d ⟨F,ρ,δ,E2.xc,_,I,h,fun d v F' H' ρ' δ' I' s' r' h'=>er.nx _ F' H' _ δ' (I'.put r') s' h',er.xc⟩
omit hc S hi hg gm ht he in
noncomputable def k0b(i:Nat)(ti:TI2)(tup:Bool)(n:Nat)(js:List Nat)(tc:TT2)(te:TE2):TS2:=fun E ρ δ=>ti E.xc ρ δ fun ds ρ1 δ1=>compM tup n tc te js ρ1 (fun acc δ2=>E.nx (ρ1.set i (.own acc)) δ2) ds [] δ1
theorem g0s(hN:X.N.Nodup)(hy:X.N[i]?=some y:=by rfl)(hl:Loc X.env.scope y:=by walk_at "v2")
 (hsw:swapsWith (.ListComp elt [⟨target,iter,ifs,0⟩] scope pos) (some (.Name y py)) spos.line X.env=pure true:=by rfl) (hs:∀v,foldedSetIterable iter X.env v=pure v:=by intro _;rfl) (hfn:X.fn y=true∨X.env.scope.names.lookup y=some .local:=by walk_at "v1"):
 PS2 X Y W (.Assign [.Name y py] (.ListComp elt [⟨target,iter,ifs,0⟩] scope pos) spos) (k0b i ti tup xs.length js tc te):=
 ps2 (k0e (i:=i) (tc:=tcY X.K tc) (te:=teY X.K te) hc S hi.go (hg S.nd) gm (fun C s₀ H₀ fp cl pins s σ H Q I ⟨Y',h⟩=>(ht C s₀ H₀ fp cl Y').go pins s σ H Q I h) (fun C s₀ H₀ fp cl pins s σ H Q I ⟨Y',h⟩=>(he C s₀ H₀ fp cl Y').go pins s σ H Q I h) hN hy hl hsw hs hfn) fun E1 σ H ⟨F,ρ,δ,E2,I,h,er⟩=>
  ⟨F,ρ,δ,E2.xc,_,I,h,fun ds J F1 H1 ρ1 δ1 I1 s1 src h1=>n0x (Q:=fun D H2=>E1.nx (σ.set i (some (.ref D))) H2) I1 src h1 fun D F' H' δ' acc vs I' s' hD hF h0 of no r hq=>
   er.nx _ F' H' _ δ' (I'.take hF h0 of hD no r) (s1.trans s') hq,er.xc⟩
end
end DL
namespace DL
open PySem PySem.Spec L2
open PySem.W (XC)
mutual
noncomputable def lfD:D→Bool
 | .lst _=>false | .scr _=>false | .dic _=>false | .dwk _=>false
 | .tup xs=>lfDs xs
 | .ins _ fs=>lfFs fs | .exc _ fs=>lfFs fs
 |_=>true
noncomputable def lfDs:List D→Bool
 | []=>true
 |d::ds=>lfD d&&lfDs ds
noncomputable def lfFs:List (Str×D)→Bool
 | []=>true
 |(_,d)::ds=>lfD d&&lfFs ds
end
mutual
theorem Rep.lf{K:Frag}{F F':Hp}(s:∀b o,F b=some o→(∀vs,o≠.lst vs)→F' b=some o):∀{d:D} {v:V},lfD d=true→Rep K F d v→Rep K F' d v
 | .non,v,_,h=>by unfold Rep at h ⊢; exact h
 | .bl b,v,_,h=>by unfold Rep at h ⊢; exact h
 | .int i,v,_,h=>by unfold Rep at h ⊢; exact h
 | .str x,v,_,h=>by unfold Rep at h ⊢; exact h
 | .lst ds,v,l,h=>by unfold lfD at l;cases l
 | .tup ds,v,l,h=>by unfold Rep at h ⊢; unfold lfD at l;obtain ⟨a,vs,e,q,r⟩:=h;exact ⟨a,vs,e,s _ _ q (fun vs z=>by cases z),Reps.lf s l r⟩
 | .scr ds,v,l,h=>by unfold lfD at l;cases l
 | .dic ds,v,l,h=>by unfold lfD at l;cases l
 | .dwk ds,v,l,h=>by unfold lfD at l;cases l
 | .ins C fs,v,l,h=>by unfold Rep at h ⊢; unfold lfD at l;obtain ⟨a,dx,vs,e,q,q2,r⟩:=h;exact ⟨a,dx,vs,e,s _ _ q (fun vs z=>by cases z),s _ _ q2 (fun vs z=>by cases z),RepF.lf s l r⟩
 | .exc C fs,v,l,h=>by
  unfold Rep at h ⊢;unfold lfD at l;obtain ⟨a,fr,e,h⟩:=h;refine ⟨a,fr,e,?_⟩;rcases h with ⟨e1,q⟩|⟨d,us,q,q2,r⟩
  ·exact .inl ⟨e1,s _ _ q (fun vs z=>by cases z)⟩
  ·exact .inr ⟨d,us,s _ _ q (fun vs z=>by cases z),s _ _ q2 (fun vs z=>by cases z),RepF.lf s l r⟩
 | .ref a,v,_,h=>by unfold Rep at h ⊢; exact h
 | .ty n,v,_,h=>by unfold Rep at h ⊢; exact h
theorem Reps.lf{K:Frag}{F F':Hp}(s:∀b o,F b=some o→(∀vs,o≠.lst vs)→F' b=some o):∀{ds:List D} {vs:List V},lfDs ds=true→Reps K F ds vs→Reps K F' ds vs
 | [],vs,_,h=>by unfold Reps at h ⊢; exact h
 |d::ds,vs,l,h=>by
  unfold Reps at h ⊢;unfold lfDs at l;rw[Bool.and_eq_true]at l;obtain ⟨v,r,e,q,z⟩:=h;exact ⟨v,r,e,Rep.lf s l.1 q,Reps.lf s l.2 z⟩
theorem RepF.lf{K:Frag}{F F':Hp}(s:∀b o,F b=some o→(∀vs,o≠.lst vs)→F' b=some o):∀{ds:List (Str×D)} {vs:List (Str×V)},lfFs ds=true→RepF K F ds vs→RepF K F' ds vs
 | [],vs,_,h=>by unfold RepF at h ⊢; exact h
 |(x,d)::ds,vs,l,h=>by
  unfold RepF at h ⊢;unfold lfFs at l;rw[Bool.and_eq_true]at l;obtain ⟨v,r,e,q,z⟩:=h;exact ⟨v,r,e,Rep.lf s l.1 q,RepF.lf s l.2 z⟩
end
inductive BA where |v (d:D)|o (i:Nat)
noncomputable def RepB(K:Frag)(F:Hp)(σ:St):BA→V→Prop
 | .v d,v=>Rep K F d v
 | .o i,v=>σ[i]?=some (some v)
inductive RepsB(K:Frag)(F:Hp)(σ:St):List BA→List V→Prop
 |nil:RepsB K F σ [] []
 |cons {b v bs vs}:RepB K F σ b v→RepsB K F σ bs vs→RepsB K F σ (b::bs) (v::vs)
noncomputable abbrev TB2:=XK2→En→Dk→(List BA→En→Dk→Prop)→Prop
noncomputable def upB(K:Frag)(Y:Y2)(W:XW)(t:TB2):TA:=fun σ H Q=>∃F ρ δ x q,I2 K Y F H σ ρ δ∧t x ρ δ q∧(∀bs vs F' H' ρ' δ',I2 K Y F' H' σ ρ' δ'→Same F F'→RepsB K F' σ bs vs→q bs ρ' δ'→Q vs H')∧XR K Y W F x
structure PB2(X:Cx)(Y:Y2)(W:XW)(es:List Expr)(t:TB2):Prop where
 go:PA X es (upB X.K Y W t)
section
variable{X:Cx}{Y:Y2}{W:XW}{e:Expr}{es:List Expr}{te:TE2}{t:TB2}{x:Str}{p pos:Pos}
noncomputable def t2BNil:TB2:=fun _ ρ δ q=>q [] ρ δ
noncomputable def t2BV(te:TE2)(t:TB2):TB2:=fun x ρ δ q=>te x ρ δ fun d ρ1 δ1=>t x ρ1 δ1 fun bs ρ2 δ2=>q (.v d::bs) ρ2 δ2
noncomputable def t2BO(i:Nat)(t:TB2):TB2:=fun x ρ δ q=>hasV ρ i=true∧t x ρ δ fun bs ρ2 δ2=>q (.o i::bs) ρ2 δ2
noncomputable def argB(ρ:En):BA→Option D
 | .v d=>some d
 | .o i=>match ρ[i]? with |some (.own ds)=>some (.lst ds)|some (.val d)=>some d |_=>none
noncomputable def argsB(ρ:En):List BA→Option (List D)
 | []=>some []
 |b::bs=>match argB ρ b,argsB ρ bs with |some d,some ds=>some (d::ds)|_,_=>none
noncomputable def g0r(ρ:En)(σ:St)(b:Addr):Prop:=∃(i:Nat) (ds:List D),ρ[i]?=some (Cell.own ds)∧σ[i]?=some (some (V.ref b))
open Classical in
noncomputable def lend(ρ:En)(σ:St)(F H:Hp):Hp:=fun b=>if g0r ρ σ b then H b else F b
open Classical in
noncomputable def back(ρ:En)(σ:St)(F:Hp):Hp:=fun b=>if g0r ρ σ b then none else F b
section
variable{K:Frag}{F H F' H':Hp}{σ:St}{ρ:En}{δ δ':Dk}
theorem I2.lent(I:I2 K Y F H σ ρ δ){b:Addr}(h:g0r ρ σ b):F b=none∧(∃vs,H b=some (.lst vs))∧Y.H₀ b=none:=by
 obtain ⟨i,ds,e1,e2⟩:=h;obtain ⟨a,vs,q,h,f,g,r⟩:=I.env i _ e1;rw[e2]at q;cases q;exact ⟨f,⟨vs,h⟩,g⟩
theorem I2.lend1(I:I2 K Y F H σ ρ δ):Same F (lend ρ σ F H):=fun b o e=>by
 unfold lend;split
 ·rename_i z;rw[(I.lent z).1]at e;cases e
 ·exact e
theorem I2.lend2(I:I2 K Y F H σ ρ δ):Same (lend ρ σ F H) H:=fun b o e=>by
 unfold lend at e;split at e
 ·exact e
 ·exact I.sub _ _ e
theorem I2.back(I:I2 K Y F H σ ρ δ)(R:Ran K (lend ρ σ F H) H none F' H' δ'):I2 K Y (back ρ σ F') H' σ ρ δ∧Same F (DL.back ρ σ F')∧∀b o,F' b=some o→(∀vs,o≠.lst vs)→DL.back ρ σ F' b=some o:=by
 have kp:∀b o,H b=some o→H' b=some o:=fun b o e=>R.keep b o e (fun _ _ z=>by cases z)
 have sF:Same F (DL.back ρ σ F'):=fun b o e=>by
  unfold DL.back;split
  ·rename_i z;rw[(I.lent z).1]at e;cases e
  ·exact R.f0 b o (I.lend1 b o e)
 have nn:∀a o,H a=some o→F a=none→DL.back ρ σ F' a=none:=fun a o h f=>by
  unfold DL.back;split
  ·rfl
  ·rename_i z;cases q:F' a with
   |none=>rfl
   |some u=>
    rcases R.fnew a u q with w |w
    ·unfold lend at w;rw[if_neg z,f]at w;cases w
    ·rw[h]at w;cases w
 refine ⟨⟨⟨fun b o e=>?_,fun a ds e=>?_,fun b o e f=>kp b o (I.ran.keep b o e f),I.ran.f0.trans sF,fun b o e=>?_,I.ran.dto⟩,fun i c e=>?_,I.len,I.apart,I.off⟩,sF,fun b o e n=>?_⟩
 ·unfold DL.back at e;split at e
  ·cases e
  ·exact R.sub _ _ e
 ·obtain ⟨q,vs,q2,r⟩:=I.ran.dk a ds e;exact ⟨nn a _ q2 q,vs,kp _ _ q2,r.mono sF⟩
 ·unfold DL.back at e;split at e
  ·cases e
  ·rename_i z;rcases R.fnew b o e with w |w
   ·unfold lend at w;rw[if_neg z]at w;exact I.ran.fnew b o w
   ·exact .inr (I.ran.fresh w)
 ·have w:=I.env i c e;cases c with
  |no=>trivial
  |val d=>obtain ⟨u,e1,r⟩:=w;exact ⟨u,e1,r.mono sF⟩
  |own ds=>
   obtain ⟨a,vs,e1,h1,f1,g1,r1⟩:=w;exact ⟨a,vs,e1,kp _ _ h1,nn a _ h1 f1,g1,r1.mono sF⟩
  |obj C fs=>
   obtain ⟨a,dx,us,e1,es1,h1,h2,f1,f2,g1,g2,r1⟩:=w;exact ⟨a,dx,us,e1,es1,kp _ _ h1,kp _ _ h2,nn a _ h1 f1,nn dx _ h2 f2,g1,g2,r1.mono sF⟩
  |ownD ds=>
   obtain ⟨a,vs,e1,h1,f1,g1,r1⟩:=w;exact ⟨a,vs,e1,kp _ _ h1,nn a _ h1 f1,g1,r1.mono sF⟩
 ·unfold DL.back;split
  ·rename_i z;obtain ⟨f,⟨vs,hv⟩,g⟩:=I.lent z;have w:lend ρ σ F H b=some (.lst vs):=by unfold lend;rw[if_pos z];exact hv
   have w2:=R.f0 _ _ w;rw[e]at w2;cases w2;exact absurd rfl (n vs)
  ·exact e
end
noncomputable def z1u(sp:Sp2)(t:TB2):TE2:=fun x ρ δ q=>t x ρ δ fun bs ρ1 δ1=>match argsB ρ1 bs with
 |some ds=>sp ds none (fun d _=>lfD d=true∧q d ρ1 δ1) fun C fs _=>lfFs fs=true∧x C fs ρ1 δ1
 |none=>False
variable{k:Nat}{ps:List Str}{sp:Sp2}
end
end DL
namespace DL
open PySem PySem.Spec L2
open PySem.W (XC)
section
variable{X:Cx}{K:Frag}
noncomputable def h8:List D→Option (List Int)
 | []=>some []
 | .int i::r=>(h8 r).map (i::·)
 |_=>none
theorem t0b{F:Hp}:∀{ds:List D} {ns:List Int} {vs:List V},h8 ds=some ns→Reps K F ds vs→vs=ns.map V.int
 | [],ns,vs,h,r=>by cases h;rw[reps_nil.mp r];rfl
 |d::ds,ns,vs,h,r=>by
  obtain ⟨v,l,rfl,r1,r2⟩:=reps_cons.mp r;cases d with
  |int b=>
   unfold h8 at h;obtain ⟨cs,e1,rfl⟩:=Option.map_eq_some_iff.mp h;rw[rep_int.mp r1,t0b e1 r2];rfl
  |_=>cases h
theorem l5:∀ns:List Int,h8 (ns.map D.int)=some ns
 | []=>rfl
 |n::ns=>by rw[List.map_cons];unfold h8;rw[l5 ns];rfl
noncomputable def fewD(ns:List Int):Prop:=ns.length≤1000∧∀n∈ns,-(2^40)≤n∧n≤2^40
theorem n0w:∀(ns:List Int),(∀n∈ns,-(2^40)≤n∧n≤2^40)→-(2^40*(ns.length:Int))≤ns.sum∧ns.sum≤2^40*(ns.length:Int)
 | [],_=>by simp
 |n::ns,h=>by
  have h1:=n0w ns fun m hm=>h m (List.mem_cons_of_mem _ hm)
  have h2:=h n List.mem_cons_self;rw[List.sum_cons,List.length_cons];omega
theorem d0i{ns:List Int}(h:fewD ns):m0z ns:=fun j hj=>by
 have h1:-(2^40)≤ns.getD j 0∧ns.getD j 0≤2^40:=by
  rw[List.getD_eq_getElem?_getD,List.getElem?_eq_getElem hj];exact h.2 _ (List.getElem_mem hj)
 refine ⟨⟨by omega,by omega⟩,?_⟩;rw[e9];have h2:=n0w (ns.take (j+1)) fun m hm=>h.2 m (List.mem_of_mem_take hm)
 have h3:(ns.take (j+1)).length≤1000:=Nat.le_trans (by rw[List.length_take];omega) h.1;exact ⟨by omega,by omega⟩
noncomputable def sumF:F1:=fun ds q=>match ds with | [d]=>(match seqD d with |some xs=>(match h8 xs with |some ns=>fewD ns∧q (.int ns.sum)|none=>False)|none=>False)|_=>False
theorem z1t:v0p K (rSum K) sumF:=by
 intro Y F H σ ρ δ vs ds Q1 q I r h' k;unfold sumF at h';split at h'
 ·split at h'
  ·split at h'
   ·rename_i xs e _ ns en;obtain ⟨v,rfl,r1⟩:=i9 r;obtain ⟨a,us,b,rfl,sq,z⟩:=t0d e r1;exact ⟨b,a,ns,rfl,by rw[←t0b en z];exact I.sub.sq sq,d0i h'.1,k _ _ F H I (Same.refl F) (rep_int.mpr rfl) h'.2⟩
   ·exact h'.elim
  ·exact h'.elim
 ·exact h'.elim
noncomputable def rAddE(K:Frag):R2:=fun x y H Q=>a0n K x y H Q∨rCatA K x y H Q
noncomputable def addG:F2:=fun d1 d2 q=>match d1,d2 with
 | .int i,.int j=>q (.int (i+j))
 | .lst xs,.lst ys=>xs.length+ys.length≤1000∧q (.lst (xs++ys))
 | .tup xs,.tup ys=>xs.length+ys.length≤1000∧q (.tup (xs++ys))
 |_,_=>False
theorem p4:OpR X (binaryOp .Add) (rAddE X.K):=k0t a0m z1w
theorem b4:OpD K (rAddE K) addG:=by
 intro Y F H σ ρ δ x y d1 d2 Q1 q I r1 r2 h' k;unfold addG at h';split at h'
 ·exact .inl (d_add Y F H σ ρ δ x y _ _ Q1 q I r1 r2 h' k)
 ·exact .inl (d_add Y F H σ ρ δ x y _ _ Q1 q I r1 r2 h' k)
 ·rename_i xs ys;have r1':=r1;have r2':=r2;obtain ⟨a,vs,rfl,e1,z1⟩:=rep_tup.mp r1;obtain ⟨b,us,rfl,e2,z2⟩:=rep_tup.mp r2;refine .inr ⟨a,b,vs,us,rfl,rfl,SqT.of (I.sub _ _ e1),SqT.of (I.sub _ _ e2),n0d (by rw[z1.length,z2.length];exact h'.1),fun hv=>?_,fun hv hu=>?_,fun _ _ p hp=>k _ _ _ _ (I.alloc hp) (I.grow hp) (I.tup hp (z1.append z2)) h'.2⟩
  ·have:xs=[]:=List.eq_nil_of_length_eq_zero (by rw[←z1.length,hv];rfl);subst this;exact k _ _ F H I (Same.refl F) r2' h'.2
  ·have:ys=[]:=List.eq_nil_of_length_eq_zero (by rw[←z2.length,hu];rfl);subst this;exact k _ _ F H I (Same.refl F) (by rw[List.append_nil];exact r1') h'.2
 ·exact h'.elim
noncomputable def z1s:FM:=fun ds es q=>match es with | [.int k,e]=>ds.length<1000∧(0≤k∧k≤1000)∧q .non (ds.take (min k.toNat ds.length)++[e]++ds.drop (min k.toNat ds.length))|_=>False
end
section
variable{X:Cx}{Y:Y2}{W:XW}{a:Expr}{ta:TA2}{p p2 pos pos2:Pos}{i:Nat}{x:Str}{pos':Pos}
noncomputable def lrQ(ds:List D)(q:List D→Prop):Prop:=match ds with | [.int n]=>(0≤n∧n≤1000)∧q (rngD 0 n.toNat)|_=>False
noncomputable def t2LR(ta:TA2):TE2:=fun x ρ δ q=>ta x ρ δ fun ds ρ1 δ1=>lrQ ds fun l=>q (.lst l) ρ1 δ1
noncomputable def z1r(i:Nat)(ta:TA2):TS2:=fun E ρ δ=>ta E.xc ρ δ fun ds ρ1 δ1=>lrQ ds fun l=>E.nx (ρ1.set i (.own l)) δ1
end
structure KNo(K:Frag)(C:Addr):Prop where
 n:PySem.W.kitOne K (.type "NoneType") (.ref C)=some false
 b:PySem.W.kitOne K (.type "bool") (.ref C)=some false
 i:PySem.W.kitOne K (.type "int") (.ref C)=some false
 s:PySem.W.kitOne K (.type "str") (.ref C)=some false
 l:PySem.W.kitOne K (.type "list") (.ref C)=some false
 t:PySem.W.kitOne K (.type "tuple") (.ref C)=some false
 d:PySem.W.kitOne K (.type "dict") (.ref C)=some false
theorem d0h{tup:Bool}{n:Nat}{tc:TT2}{te:TE2}{js:List Nat}{ρ:En}{q:List D→Dk→Prop}{ds:List D}{acc:List D}{δ:Dk}(P:Nat→List D→Dk→Prop)(h0:P 0 acc δ)
 (step:∀(i:Nat) (d:D) (acc:List D) (δ:Dk) (rest:List D→Dk→Prop),ds[i]?=some d→P i acc δ→(∀acc' δ',P (i+1) acc' δ'→rest acc' δ')→match tgD tup n d with
  |some es=>tc (fun _ _ _ _=>False) (es.map .val++capt ρ js) δ fun b ρ1 δ1=>if b=true then te (fun _ _ _ _=>False) ρ1 δ1 fun e _ δ2=>acc.length<1000∧rest (acc++[e]) δ2 else rest acc δ1
  |none=>False)
 (fin:∀acc δ,P ds.length acc δ→q acc δ):compM tup n tc te js ρ q ds acc δ:=by
 have key:∀(k i:Nat) (acc:List D) (δ:Dk),i+k=ds.length→P i acc δ→compM tup n tc te js ρ q (ds.drop i) acc δ:=by
  intro k
  induction k with
  |zero=>
   intro i acc δ hi p;rw[List.drop_eq_nil_of_le (by omega)];have:i=ds.length:=by omega
   subst this;exact fin acc δ p
  |succ k ih=>
   intro i acc δ hi p;have hl:i<ds.length:=by omega
   rw[List.drop_eq_getElem_cons hl];have:=step i ds[i] acc δ (compM tup n tc te js ρ q (ds.drop (i+1))) (by simp[hl]) p fun acc' δ' p'=>ih (i+1) acc' δ' (by omega) p'
   unfold compM;exact this
 have:=key ds.length 0 acc δ (by omega) h0
 rwa[List.drop_zero]at this
end DL
namespace L2
open PySem PySem.Spec PyProof.Rows
section
variable{X:Cx}
noncomputable def eqVs:List V→List V→Bool
 | [],[]=>true
 |x::xs,y::ys=>eqV x y&&eqVs xs ys
 |_,_=>false
theorem q0i:∀(xs ys:List V),((List.range (min xs.length ys.length)).all (fun j=>match xs[j]?,ys[j]? with |some x,some y=>eqV x y |_,_=>false)&&xs.length==ys.length)=eqVs xs ys
 | [],[]=>rfl
 | [],_::_=>by simp[eqVs]
 |_::_,[]=>by simp[eqVs]
 |x::xs,y::ys=>by
  have ih:=q0i xs ys;have e:min (x::xs).length (y::ys).length=min xs.length ys.length+1:=by simp only[List.length_cons];omega
  rw[e,List.range_succ_eq_map,List.all_cons,List.all_map];unfold eqVs;rw[←ih,← Bool.and_assoc];simp only[List.length_cons,List.getElem?_cons_zero];congr 1;simp
noncomputable def rEqT(K:PySem.W.Frag)(neg:Bool):R2:=fun x y H Q=>∃a b xs ys,x=.ref a∧y=.ref b∧SqT K H a xs∧SqT K H b ys∧xs.all t0r=true∧ys.all t0r=true∧Q (.bl (if neg then !eqVs xs ys else eqVs xs ys)) H
theorem g0q{A:Around}{s:Shared}{xs ys:List V}{us ws:List Value}(r:Vals xs us)(r':Vals ys ws)(f:xs.all t0r=true)(f':ys.all t0r=true):∀j (h1:j<us.toArray.size) (h2:j<ws.toArray.size),SeqAt.EqAt A s us.toArray[j] ws.toArray[j] (match xs[j]?,ys[j]? with |some x,some y=>eqV x y |_,_=>false):=by
 intro j h1 h2;have l1:j<xs.length:=by rw[r.length];simpa using h1
 have l2:j<ys.length:=by rw[r'.length];simpa using h2
 obtain ⟨u,hu,ru⟩:=r.get (List.getElem?_eq_getElem l1);obtain ⟨w,hw,rw'⟩:=r'.get (List.getElem?_eq_getElem l2);have eu:us.toArray[j]=u:=by
  have:us[j]?=some us.toArray[j]:=by simp
  rw[hu]at this;exact (Option.some.inj this).symm
 have ew:ws.toArray[j]=w:=by
  have:ws[j]?=some ws.toArray[j]:=by simp
  rw[hw]at this;exact (Option.some.inj this).symm
 rw[eu,ew,List.getElem?_eq_getElem l1,List.getElem?_eq_getElem l2];exact c0j ru rw' (List.all_eq_true.mp f _ (List.getElem_mem l1)) (List.all_eq_true.mp f' _ (List.getElem_mem l2))
theorem op_eqT(hu:X.A.units<cLine):OpR X (compareOp .Eq) (rEqT X.K false):=by
 intro pins s σ H x y v u Q I rx ry h;obtain ⟨a,b,xs,ys,rfl,rfl,ha,hb,f1,f2,q⟩:=h;cases rx;cases ry;obtain ⟨its,r,p,_⟩:=I.tuple ha;obtain ⟨its2,r2,p2,_⟩:=I.tuple hb;refine SeqAt.eq_tupleAt p p2 hu (g0q r r2 f1 f2) ⟨.bl (eqVs xs ys),H,I,?_,q⟩;rw[←q0i,r.length,r2.length];simp only[List.size_toArray];rfl
theorem op_neT(hu:X.A.units<cLine):OpR X (compareOp .NotEq) (rEqT X.K true):=by
 intro pins s σ H x y v u Q I rx ry h;obtain ⟨a,b,xs,ys,rfl,rfl,ha,hb,f1,f2,q⟩:=h;cases rx;cases ry;obtain ⟨its,r,p,_⟩:=I.tuple ha;obtain ⟨its2,r2,p2,_⟩:=I.tuple hb;refine SeqAt.RcNeAt.tuples p p2 hu (g0q r r2 f1 f2) X.prog X.w X.xe _ ⟨.bl (!eqVs xs ys),H,I,?_,q⟩;rw[←q0i,r.length,r2.length];simp only[List.size_toArray];rfl
end
end L2
namespace DL
open PySem PySem.Spec L2
open PySem.W (XC)
section
variable{X:Cx}{K:Frag}
noncomputable def rEqE(K:Frag):R2:=fun x y H Q=>rEq x y H Q∨rEqT K false x y H Q
noncomputable def rNeE(K:Frag):R2:=fun x y H Q=>rNe x y H Q∨rEqT K true x y H Q
theorem z0h(hu:X.A.units<cLine):OpR X (compareOp .Eq) (rEqE X.K):=k0t op_eq (op_eqT hu)
theorem b0y(hu:X.A.units<cLine):OpR X (compareOp .NotEq) (rNeE X.K):=k0t op_ne (op_neT hu)
noncomputable def eqDs:List D→List D→Bool
 | [],[]=>true
 |x::xs,y::ys=>eqV (toV x) (toV y)&&eqDs xs ys
 |_,_=>false
theorem g0p:∀xs ys:List D,eqVs (xs.map toV) (ys.map toV)=eqDs xs ys
 | [],[]=>rfl
 | [],_::_=>rfl
 |_::_,[]=>rfl
 |x::xs,y::ys=>by rw[List.map_cons,List.map_cons];unfold eqVs eqDs;rw[g0p xs ys]
noncomputable def eqG:F2:=fun d1 d2 q=>match eqD d1 d2 with
 |some b=>q (.bl b)
 |none=>match d1,d2 with | .tup xs,.tup ys=>(xs.all j8&&ys.all j8)=true∧q (.bl (eqDs xs ys))|_,_=>False
noncomputable def neG:F2:=fun d1 d2 q=>match eqD d1 d2 with
 |some b=>q (.bl (!b))
 |none=>match d1,d2 with | .tup xs,.tup ys=>(xs.all j8&&ys.all j8)=true∧q (.bl (!eqDs xs ys))|_,_=>False
theorem u0i:OpD K (rEqE K) eqG:=by
 intro Y F H σ ρ δ x y d1 d2 Q1 q I r1 r2 h' k;unfold eqG at h';split at h'
 ·rename_i b e;exact .inl (d_eq Y F H σ ρ δ x y d1 d2 Q1 q I r1 r2 (by unfold eqF;rw[e];exact h') k)
 ·split at h'
  ·rename_i xs ys;obtain ⟨hf,h'⟩:=h';rw[Bool.and_eq_true]at hf;obtain ⟨a,vs,rfl,e1,z1⟩:=rep_tup.mp r1;obtain ⟨b,us,rfl,e2,z2⟩:=rep_tup.mp r2;obtain ⟨e3,e4⟩:=t0m hf.1 z1;obtain ⟨e5,e6⟩:=t0m hf.2 z2;refine .inr ⟨a,b,vs,us,rfl,rfl,SqT.of (I.sub _ _ e1),SqT.of (I.sub _ _ e2),e4,e6,?_⟩;rw[if_neg Bool.false_ne_true,e3,e5,g0p];exact k _ _ F H I (Same.refl F) (rep_bl.mpr rfl) h'
  ·exact h'.elim
theorem d_neE:OpD K (rNeE K) neG:=by
 intro Y F H σ ρ δ x y d1 d2 Q1 q I r1 r2 h' k;unfold neG at h';split at h'
 ·rename_i b e;exact .inl (d_ne Y F H σ ρ δ x y d1 d2 Q1 q I r1 r2 (by unfold neF;rw[e];exact h') k)
 ·split at h'
  ·rename_i xs ys;obtain ⟨hf,h'⟩:=h';rw[Bool.and_eq_true]at hf;obtain ⟨a,vs,rfl,e1,z1⟩:=rep_tup.mp r1;obtain ⟨b,us,rfl,e2,z2⟩:=rep_tup.mp r2;obtain ⟨e3,e4⟩:=t0m hf.1 z1;obtain ⟨e5,e6⟩:=t0m hf.2 z2;refine .inr ⟨a,b,vs,us,rfl,rfl,SqT.of (I.sub _ _ e1),SqT.of (I.sub _ _ e2),e4,e6,?_⟩;rw[if_pos rfl,e3,e5,g0p];exact k _ _ F H I (Same.refl F) (rep_bl.mpr rfl) h'
  ·exact h'.elim
noncomputable def cutD(xs:List D)(lo hi:Option Int):List D:=(xs.drop (HT.sIx xs.length 0 lo)).take (HT.sIx xs.length xs.length hi-HT.sIx xs.length 0 lo)
theorem Reps.cut{F:Hp}{ds:List D}{vs:List V}{lo hi:Option Int}(r:Reps K F ds vs):Reps K F (cutD ds lo hi) (cutV vs lo hi):=by
 unfold cutD cutV;rw[r.length];exact (r.drop _).take _
noncomputable abbrev TO2:=XK2→En→Dk→(Option Int→En→Dk→Prop)→Prop
variable{Y:Y2}{W:XW}{e lo hi:Expr}{te tl th:TE2}{pos p2:Pos}
noncomputable def upO(K:Frag)(Y:Y2)(W:XW)(t:TO2):TO:=fun σ H Q=>∃F ρ δ x q,I2 K Y F H σ ρ δ∧t x ρ δ q∧(∀o F' H' ρ' δ',I2 K Y F' H' σ ρ' δ'→Same F F'→q o ρ' δ'→Q o H')∧XR K Y W F x
structure PO2(X:Cx)(Y:Y2)(W:XW)(e:Option Expr)(t:TO2):Prop where
 go:PO X e (upO X.K Y W t)
noncomputable def t2ON:TO2:=fun _ ρ δ q=>q none ρ δ
noncomputable def t2OI(te:TE2):TO2:=fun x ρ δ q=>te x ρ δ fun d ρ1 δ1=>match d with | .int i=>q (some i) ρ1 δ1 |_=>False
theorem z1q:PO2 X Y W none t2ON:=⟨fun pins s σ H Q I ⟨F,ρ,δ,x,q,I',h,k,kx⟩=>b0e pins s σ H Q I (k none F H ρ δ I' (Same.refl F) h)⟩
theorem z1p(h:PE2 X Y W e te):PO2 X Y W (some e) (t2OI te):=⟨fun pins s σ H Q I ⟨F,ρ,δ,x,q,I',h',k,kx⟩=>b0d h.go pins s σ H Q I ⟨F,ρ,δ,x,_,I',h',fun d v F1 H1 ρ1 δ1 I1 s1 r1 h1=>by
 cases d with
 |int i=>exact ⟨i,rep_int.mp r1,k (some i) F1 H1 ρ1 δ1 I1 s1 h1⟩
 |_=>exact h1.elim,kx⟩⟩
noncomputable def slF(d:D)(l u:Option Int)(q:D→Prop):Prop:=match d with
 | .lst xs=>q (.lst (cutD xs l u))
 | .tup xs=>¬(HT.sIx xs.length 0 l=0∧HT.sIx xs.length xs.length u=xs.length)∧q (.tup (cutD xs l u))
 |_=>False
noncomputable def t2Sl(te:TE2)(tl th:TO2):TE2:=fun x ρ δ q=>te x ρ δ fun d ρ1 δ1=>tl x ρ1 δ1 fun l ρ2 δ2=>th x ρ2 δ2 fun u ρ3 δ3=>slF d l u fun e=>q e ρ3 δ3
theorem d0g{lo hi:Option Expr}{tl th:TO2}(he:PE2 X Y W e te)(hl:PO2 X Y W lo tl)(hu:PO2 X Y W hi th):PE2 X Y W (.Subscript e (.Slice lo hi none p2) pos) (t2Sl te tl th):=pe2 (e0v (SlR.or b0a sl_tup) he.go hl.go hu.go) fun σ H Q ⟨F,ρ,δ,x,q,I,h,k,kx⟩=>by
 refine ⟨F,ρ,δ,x,_,I,h,fun d v F1 H1 ρ1 δ1 I1 s1 r1 h1=>⟨F1,ρ1,δ1,x,_,I1,h1,fun l F2 H2 ρ2 δ2 I2' s2 h2=>⟨F2,ρ2,δ2,x,_,I2',h2,fun u F3 H3 ρ3 δ3 I3 s3 h3=>?_,kx.mono (s1.trans s2)⟩,kx.mono s1⟩,kx⟩;have sa:=(s1.trans s2).trans s3;have r3:=r1.mono (s2.trans s3);unfold slF at h3;cases d with
 |lst xs=>
  obtain ⟨a,vs,rfl,ea,z⟩:=rep_lst.mp r3;exact .inl ⟨a,vs,rfl,SqL.of (I3.sub _ _ ea),fun p hp=>k _ _ _ _ ρ3 δ3 (I3.alloc hp) (sa.trans (I3.grow hp)) (I3.lst hp z.cut) h3⟩
 |tup xs=>
  obtain ⟨a,vs,rfl,ea,z⟩:=rep_tup.mp r3;exact .inr ⟨a,vs,rfl,SqT.of (I3.sub _ _ ea),by rw[z.length];exact h3.1,fun p hp=>k _ _ _ _ ρ3 δ3 (I3.alloc hp) (sa.trans (I3.grow hp)) (I3.tup hp z.cut) h3.2⟩
 |_=>exact h3.elim
end
theorem q0h{te:TE2}{js:List Nat}{ρ:En}{q:List D→Dk→Prop}:∀(ds acc:List D) (δ:Dk),compM false 1 l7 te js ρ q ds acc δ=x0o te js ρ q ds acc δ
 | [],acc,δ=>rfl
 |d::ds,acc,δ=>by
  show (te (fun _ _ _ _=>False) (.val d::capt ρ js) δ fun e _ δ2=>acc.length<1000∧compM false 1 l7 te js ρ q ds (acc++[e]) δ2)=te (fun _ _ _ _=>False) (.val d::capt ρ js) δ fun e _ δ1=>acc.length<1000∧x0o te js ρ q ds (acc++[e]) δ1
  congr 1;funext e ρ1 δ1;rw[q0h ds (acc++[e]) δ1]
end DL
namespace L2
open PySem PySem.Spec PyProof.Rows PySem.W PySem.SeqAt
open AutoSeq1 (wpAny_loadPart')
open MeetsSeq MeetsSeq2 MeetsSeq3 SeqRoads2
section
variable{prog:Program}{w:World}{A:Around}{E:Value→Shared→Prop}{s:Shared}
end
section
variable{B:Nat}
end
section
variable{prog:Program}{w:World}{A:Around}{E:Value→Shared→Prop}{s:Shared}
end
end L2
namespace L2
open PySem PySem.Spec PyProof.Rows PySem.W
section
variable{X:Cx}
end
end L2
namespace DL
open PySem PySem.Spec L2
end DL
namespace L2
open PySem PySem.Spec PyProof.Rows PySem.W
open AutoSeq1 (wpAny_loadPart')
section
variable{X:Cx}
end
end L2
namespace DL
open PySem PySem.Spec L2
end DL
namespace L2
end L2
namespace DL
open PySem PySem.Spec L2
end DL
namespace DL
open PySem PySem.Spec L2
theorem q0g{X:Cx}{Y:Y2}{W:XW}{ss:List Stmt}{t t':TS2}(h:PSs2 X Y W ss t)(k:∀E ρ δ,t' E ρ δ→t E ρ δ):PSs2 X Y W ss t':=⟨k0r h.go fun D σ H ⟨F,ρ,δ,E2,I,q,er⟩=>⟨F,ρ,δ,E2,I,k _ _ _ q,er⟩⟩
end DL
namespace L2
open PySem PySem.Spec PyProof.Rows PySem.W
theorem d0f{X:Cx}:PGet X (rIxL X.K):=by
 intro pins s σ H x y v u Q I rx ry h;obtain ⟨p,xs,i,z,rfl,rfl,hq,he,q⟩:=h;cases rx;obtain ⟨t,rfl⟩:=ry;obtain ⟨its,r,pl,hz⟩:=I.list hq;obtain ⟨j,h1,h2,h3,h4,h5⟩:=q0s he;obtain ⟨w,ew,rw'⟩:=r.get h2;have hl:=r.length;have hn:=r0e;have fin:EP X pins σ Q w s:=⟨z,H,I,rw',q⟩;by_cases h0:0≤i
 ·have hj:i.toNat=j:=by
   rw[seqIndex_of h0 h5]at h1;exact Option.some.inj h1
  exact wpAny_getItem_list pl.isList h0 (by omega) (by rw[hj];simpa using ew) fin
 ·have hj:(i+(its.toArray.size:Int)).toNat=j:=by
   rw[seqIndex_neg (by omega) h4]at h1;rw[List.size_toArray,← hl];exact Option.some.inj h1
  exact wpAny_getItem_list_neg pl.isList (by omega) (by rw[List.size_toArray]<;>omega) (by omega) (by rw[hj];simpa using ew) fin
end L2
namespace DL
open PySem PySem.Spec L2
section
variable{X:Cx}{Y:Y2}{W:XW}{x:Str}{p tpos pos:Pos}{e j:Expr}{te tj:TE2}
noncomputable def k0a(i:Nat)(g:Int→Int→Int)(tj te:TE2):TS2:=fun E ρ δ=>(mutV ρ δ i).isSome=true∧tj E.xc ρ δ fun dj ρ1 δ1=>match mutV ρ1 δ1 i,dj with
 |some (ds,_),.int j=>(match atI ds j with
  |some (.int a)=>te E.xc ρ1 δ1 fun d ρ2 δ2=>(match d,mutV ρ2 δ2 i with
   | .int b,some (ds',put)=>(match ixN ds'.length j with |some m=>E.nx (put (ds'.set m (.int (g a b)))).1 (put (ds'.set m (.int (g a b)))).2 |none=>False)
   |_,_=>False)
  |_=>False)
 |_,_=>False
theorem z1o(i:Nat){op:Operator}{g:Int→Int→Int}(ho:PIp X op (ipI g))(hj:PE2 X Y W j tj)(he:PE2 X Y W e te)(hN:X.N[i]?=some x:=by rfl)(hv:Vis X.env.scope x:=by walk_at "v3")(hd:(x==("__debug__":Str))=false:=by decide)
 (hcd:(x==("__classdict__":Str))=false:=by decide) (ha:∀ov iv new,augStore j ov iv new=(do holding [new,ov,iv] (setItem ov iv new);release [new,ov,iv] [];pure .next):=by intros;rfl):
 PS2 X Y W (.AugAssign (.Subscript (.Name x p) j tpos) op e pos) (k0a i g tj te):=ps2 (b0n (u0q hN hv hd hcd) hj.go d0f he.go ho l0g ha) fun E1 σ H ⟨F,ρ,δ,E2,I,h,er⟩=>by
 obtain ⟨h0,h⟩:=h;obtain ⟨⟨ds0,put0⟩,e0⟩:=Option.isSome_iff_exists.mp h0;obtain ⟨a0,vs0,ea0,hh0,z0,up0⟩:=j0b I e0;refine ⟨_,ea0,F,ρ,δ,E2.xc,_,I,h,fun dj w F1 H1 ρ1 δ1 I1 s1 r1 h1=>?_,er.xc⟩;split at h1
 ·rename_i ds put k em;split at h1
  ·rename_i av eat
   obtain ⟨a,vs,ea,hh,z,up⟩:=j0b I1 em;rw[ea0]at ea;cases ea;obtain ⟨v3,e3,r3⟩:=z.atI eat
   refine ⟨a0,vs,k,v3,rfl,rep_int.mp r1,SqL.of hh,e3,F1,ρ1,δ1,E2.xc,_,I1,h1,fun d v F2 H2 ρ2 δ2 I2' s2 r2 h2=>?_,er.xc.mono s1⟩;split at h2
   ·rename_i b ds' put' em';split at h2
    ·rename_i m hm;obtain ⟨a',vs',ea',hh',z',up'⟩:=j0b I2' em';rw[ea0]at ea';cases ea';exact ⟨av,b,rep_int.mp r3,rep_int.mp r2,a0,vs',k,m,rfl,rep_int.mp r1,hh',by rw[z'.length];exact hm,er.nx σ F2 _ _ _ (up' _ _ (z'.set (rep_int.mpr rfl) m)) (s1.trans s2) h2⟩
    ·exact h2.elim
   ·exact h2.elim
  ·exact h1.elim
 ·exact h1.elim
end
end DL
namespace DL
open PySem PySem.Spec L2
theorem i0y{tup:Bool}{n:Nat}{te:TE2}{js:List Nat}{ρ:En}{q:List D→Dk→Prop}{ds:List D}{δ:Dk}(I:Nat→Dk→Prop)(R:Nat→D→D→Prop)(hl:ds.length≤1000)(h0:I 0 δ)
 (step:∀(i:Nat) (d:D) (δ':Dk),ds[i]?=some d→I i δ'→∀Q:D→Dk→Prop,(∀e δ1,R i d e→I (i+1) δ1→Q e δ1)→∃es,tgD tup n d=some es∧te (fun _ _ _ _=>False) (es.map .val++capt ρ js) δ' fun e _ δ1=>Q e δ1)
 (fin:∀acc δ',acc.length=ds.length→(∀i d e,ds[i]?=some d→acc[i]?=some e→R i d e)→I ds.length δ'→q acc δ'):compM tup n l7 te js ρ q ds [] δ:=by
 refine d0h (fun i acc δ'=>acc.length=i∧(∀j d e,ds[j]?=some d→acc[j]?=some e→R j d e)∧I i δ') ⟨rfl,fun j d e _ h=>(by simp at h),h0⟩ ?_ ?_
 ·rintro i d acc δ' rest hi ⟨rfl,hR,hI⟩ hrest;have hlt:=(List.getElem?_eq_some_iff.mp hi).1;obtain ⟨es,e1,e2⟩:=step _ d δ' hi hI (fun e δ1=>acc.length<1000∧rest (acc++[e]) δ1) fun e δ1 hr hI1=>⟨by omega,hrest _ _ ⟨by rw[List.length_append];rfl,fun j d' e' h1 h2=>by
   rcases Nat.lt_or_ge j acc.length with hj |hj
   ·rw[List.getElem?_append_left hj]at h2;exact hR j d' e' h1 h2
   ·rw[List.getElem?_append_right hj]at h2;have hj2:j-acc.length=0:=by
     have:=(List.getElem?_eq_some_iff.mp h2).1;simp at this;omega
    rw[hj2]at h2;have hj3:j=acc.length:=by omega
    subst hj3;rw[hi]at h1;cases h1;cases h2;exact hr,hI1⟩⟩
  rw[e1];exact e2
 ·rintro acc δ' ⟨h1,h2,h3⟩;exact fin acc δ' h1 h2 h3
theorem g0o{tup:Bool}{n:Nat}{te:TE2}{js:List Nat}{ρ:En}{q:List D→Dk→Prop}{ds:List D}{δ:Dk}(f:D→D)(hl:ds.length≤1000)
 (step:∀d∈ds,∀Q:D→Dk→Prop,Q (f d) δ→∃es,tgD tup n d=some es∧te (fun _ _ _ _=>False) (es.map .val++capt ρ js) δ fun e _ δ1=>Q e δ1) (fin:q (ds.map f) δ):compM tup n l7 te js ρ q ds [] δ:=by
 refine i0y (fun _ δ'=>δ'=δ) (fun _ d e=>e=f d) hl rfl (fun i d δ' hi h Q hQ=>?_) fun acc δ' h1 h2 h3=>?_
 ·subst h;exact step d (List.mem_of_getElem? hi) Q (hQ _ _ rfl rfl)
 ·subst h3;have:acc=ds.map f:=by
   apply List.ext_getElem?;intro i;rw[List.getElem?_map];cases e1:ds[i]? with
   |none=>
    rw[List.getElem?_eq_none_iff]at e1;rw[List.getElem?_eq_none (by omega)];rfl
   |some d=>
    have hi:=(List.getElem?_eq_some_iff.mp e1).1;have hi2:i<acc.length:=by omega
    rw[List.getElem?_eq_getElem hi2,h2 i d _ e1 (List.getElem?_eq_getElem hi2)];rfl
  rw[this];exact fin
end DL
namespace L2
open PySem PySem.Spec PyProof.Rows
section
variable{prog:Program}{w:World}{A:Around}{E:Value→Shared→Prop}{s:Shared}
end
section
variable{prog:Program}{w:World}{A:Around}{E:Value→Shared→Prop}{s:Shared}
end
section
variable{X:Cx}
end
end L2
namespace DL
open PySem PySem.Spec L2
section
variable{X:Cx}{Y:Y2}{W:XW}{a e tg:Expr}{ta:TA2}{te:TE2}{p p2 pos pos2:Pos}
noncomputable def t2TR(ta:TA2):TE2:=fun x ρ δ q=>ta x ρ δ fun ds ρ1 δ1=>lrQ ds fun l=>q (.tup l) ρ1 δ1
noncomputable def d0e(g:G2)(te:TE2):TS2:=fun E ρ δ=>te E.xc ρ δ fun d ρ1 δ1=>match g d ρ1 with |some ρ2=>E.nx ρ2 δ1 |none=>False
theorem s2_unp{g:TG}{g2:G2}(he:PE2 X Y W e te)(hg:PG X tg g)(hd:TgD X.K g g2)(hs:swapsWithSole [tg] e pos.line X.env=pure false:=by rfl)(hw:swappedStores [tg] e X.env=pure none:=by rfl)
 (h1:(assignEach [tg] X.env).map (·.2)=[assign tg X.env]:=by rfl):PS2 X Y W (.Assign [tg] e pos) (d0e g2 te):=ps2 (c0o he.go hg hs hw h1) fun E1 σ H ⟨F,ρ,δ,E2,I,h,er⟩=>by
 refine ⟨F,ρ,δ,E2.xc,_,I,h,fun d v F1 H1 ρ1 δ1 I1 s1 r1 h1=>?_,er.xc⟩;split at h1
 ·rename_i ρ2 e2;exact hd Y F1 H1 σ ρ1 ρ2 δ1 d v _ I1 r1 e2 fun σ' I'=>er.nx σ' F1 H1 ρ2 δ1 I' s1 h1
 ·exact h1.elim
end
end DL
namespace L2
open PySem PySem.Spec PyProof.Rows
section
variable{prog:Program}{w:World}{A:Around}{E:Value→Shared→Prop}{s:Shared}
end
noncomputable def sortZ(ns:List Int):List Int:=ns.mergeSort fun a b=>decide (a≤b)
section
variable{X:Cx}
end
end L2
namespace DL
open PySem PySem.Spec L2
noncomputable def sortIF:F1:=fun ds q=>match ds with
 | [d]=>(match seqD d with |some xs=>(match h8 xs with |some ns=>ns.length<64∧q (.lst ((sortZ ns).map D.int))|none=>False)|none=>False)
 |_=>False
end DL
namespace L2
open PySem PySem.Spec PyProof.Rows PySem.W
open AutoSeq1 (wpAny_loadPart')
section
variable{X:Cx}
theorem m0y(bt:Nat→Nat→Bool):∀n,argBest bt n≤n
 | 0=>Nat.le_refl _
 |n+1=>by
  unfold argBest;split
  ·exact Nat.le_refl _
  ·exact Nat.le_succ_of_le (m0y bt n)
end
end L2
namespace DL
open PySem PySem.Spec L2
noncomputable def z1n:F2:=fun d1 d2 q=>match d1,d2 with
 | .tup xs,.int k=>xs.length*k.toNat≤1000∧0≤k∧k≤1000∧xs≠[]∧q (.tup (List.replicate k.toNat xs).flatten)
 |_,_=>False
noncomputable def neL:F2:=fun d1 d2 q=>match d1,d2 with | .lst xs,.lst ys=>(xs.all j8&&ys.all j8)=true∧q (.bl (!eqDs xs ys))|_,_=>False
noncomputable def maxLF:F1:=fun ds q=>match ds with | [d]=>(match seqD d with |some xs=>(match h8 xs with |some ns=>ns≠[]∧∀n∈ns,q (.int n)|none=>False)|none=>False)|_=>False
noncomputable def strF:F1:=fun ds q=>match ds with | [.int i]=>i.natAbs.log2<1920∧q (.str (toString i))|_=>False
noncomputable def addS:F2:=fun d1 d2 q=>match d1,d2 with
 | .str x,.str y=>x.length+y.length≤1000∧q (.str (x++y))
 |_,_=>False
noncomputable def addH:F2:=fun d1 d2 q=>match d1,d2 with
 | .lst xs,.lst ys=>xs.length+ys.length≤100000∧q (.lst (xs++ys))
 |_,_=>False
section
variable{X:Cx}{Y:Y2}{W:XW}{a b:Expr}{ta tb:TE2}{x:Str}{pos pos' bpos:Pos}
noncomputable def u0c(i:Nat)(ta tb:TE2):TS2:=fun E ρ δ=>ta E.xc ρ δ fun d1 ρ1 δ1=>tb E.xc ρ1 δ1 fun d2 ρ2 δ2=>match d1,d2 with
 | .lst xs,.int k=>xs.length*k.toNat≤1000∧0≤k∧k≤1000∧E.nx (ρ2.set i (.own (List.replicate k.toNat xs).flatten)) δ2
 |_,_=>False
theorem n0v(i:Nat)(hN:X.N.Nodup)(ha:PE2 X Y W a ta)(hb:PE2 X Y W b tb)(hi:X.N[i]?=some x:=by rfl)(hx:Loc X.env.scope x:=by walk_at "v2")
 (hs:swapsWith (.BinOp a .Mult b bpos) (some (.Name x pos')) pos.line X.env=pure false:=by rfl) (hf:X.fn x=true∨X.env.scope.names.lookup x=some .local:=by walk_at "v1"):
 PS2 X Y W (.Assign [.Name x pos'] (.BinOp a .Mult b bpos) pos) (u0c i ta tb):=ps2 (l0k (i:=i) hN hi hx (pe_op op_rep ha.go hb.go) hs hf) fun E1 σ H ⟨F,ρ,δ,E2,I,h,er⟩=>by
 refine ⟨F,ρ,δ,E2.xc,_,I,h,fun d1 v1 F1 H1 ρ1 δ1 I1 s1 r1 h1=>⟨F1,ρ1,δ1,E2.xc,_,I1,h1,fun d2 v2 F2 H2 ρ2 δ2 I2 s2 r2 h2=>?_,er.xc.mono s1⟩,er.xc⟩;split at h2
 ·rename_i xs k;obtain ⟨l,vs,rfl,e1,z1⟩:=rep_lst.mp (r1.mono s2);obtain ⟨h3,h4,h5,h6⟩:=h2;exact ⟨l,k,vs,rfl,rep_int.mp r2,I2.sub _ _ e1,by omega,by omega,n0d (by rw[z1.length];exact h3),fun p hp=>er.nx _ F2 _ _ δ2 (I2.own hp (z1.rep _)) (s1.trans s2) h6⟩
 ·exact h2.elim
variable{i:Nat}{p:Pos}
noncomputable def t2MaxV(i:Nat):TE2:=fun x ρ δ q=>match seqV ρ δ i with |some xs=>(match h8 xs with |some ns=>ns≠[]∧∀n∈ns,q (.int n) ρ δ |none=>False)|none=>False
end
end DL
namespace L2
end L2
namespace DL
open PySem PySem.Spec L2
noncomputable def valD(kvs:List (Key×D))(k:Key):Option D:=(kvs.find? fun kv=>decide (kv.1=k)).map (·.2)
noncomputable def putD(kvs:List (Key×D))(k:Key)(v:D):List (Key×D):=if (kvs.any fun kv=>decide (kv.1=k))=true then kvs.map (fun kv=>if kv.1=k then (kv.1,v)else kv)else kvs++[(k,v)]
section
variable{K:Frag}{F:Hp}
end
section
variable{X:Cx}{Y:Y2}{W:XW}{e j:Expr}{te tj tx:TE2}{x:Str}{i:Nat}{p pos pos' spos:Pos}
noncomputable def z1m(i:Nat):TS2:=fun E ρ δ=>E.nx (ρ.set i (.ownD [])) δ
noncomputable def t2PutD(i:Nat)(tj te:TE2):TS2:=fun E ρ δ=>te E.xc ρ δ fun d ρ1 δ1=>hasV ρ1 i=true∧tj E.xc ρ1 δ1 fun dj ρ2 δ2=>match ρ2[i]?,dj with
 |some (.ownD kvs),.int k=>kvs.length<1000∧E.nx (ρ2.set i (.ownD (putD kvs (.inl k) d))) δ2
 |_,_=>False
noncomputable def dicV(ρ:En)(i:Nat):Option (List (Key×D)):=match ρ[i]? with
 |some (.ownD kvs)=>some kvs
 |some (.val (.dwk kvs))=>some kvs
 |_=>none
noncomputable def t2GetD(i:Nat)(ty tx:TE2):TE2:=fun x ρ δ q=>(dicV ρ i).isSome=true∧ty x ρ δ fun dk ρ1 δ1=>tx x ρ1 δ1 fun dd ρ2 δ2=>match dicV ρ2 i,dk with
 |some kvs,.int k=>q ((valD kvs (.inl k)).getD dd) ρ2 δ2
 |_,_=>False
noncomputable def t2IxD(i:Nat)(ty:TE2):TE2:=fun x ρ δ q=>(dicV ρ i).isSome=true∧ty x ρ δ fun dk ρ1 δ1=>match dicV ρ1 i,dk with
 |some kvs,.int k=>(match valD kvs (.inl k)with |some d=>q d ρ1 δ1 |none=>False)
 |_,_=>False
end
end DL
namespace L2
open PySem PySem.Spec PyProof.Rows
section
variable{X:Cx}{pins:List (Addr×Obj)}{σ:St}{H:Hp}{s:Shared}{a:Addr}{kvs:List (Key×V)}
variable{tg:Expr}
end
end L2
namespace DL
open PySem PySem.Spec L2
section
variable{X:Cx}{Y:Y2}{W:XW}{tg e:Expr}{te:TE2}{x:Str}{i:Nat}{p pos:Pos}{K:Frag}
noncomputable def t2VD(i:Nat):TE2:=fun _ ρ δ q=>match ρ[i]? with |some (.ownD kvs)=>q (.dwk kvs) (ρ.set i (.val (.dwk kvs))) δ |_=>False
noncomputable def t2DicV(i:Nat)(v:Int):TE2:=fun _ ρ δ q=>match ρ[i]? with |some (.val (.int k))=>q (.dwk [(.inl k,.int v)]) ρ δ |_=>False
noncomputable def keyD:Key→D
 | .inl n=>.int n
 | .inr s=>.str s
noncomputable def t2Keys(te:TE2):TI2:=fun x ρ δ q=>te x ρ δ fun d ρ1 δ1=>match d with | .dwk kvs=>q (kvs.map fun kv=>keyD kv.1) ρ1 δ1 |_=>False
end
end DL
namespace L2
open PySem PySem.Spec PyProof.Rows
structure RoomU(k:Nat)(A:Around):Prop where
 dp:A.depth+3*k+5<recursionLimit
 un:A.units+16*k+200<cLine
structure FnOkU(P:Program)(w:World)(K:PySem.W.Frag)(mg:Str→Option Value)(base:Heap)(CX:CXT)(k:Nat)(f:Addr)(fd:FuncData)(ps:List Str)(sp:Sp):Prop where
 len:∀vs H Q E,sp vs H Q E→vs.length=ps.length
 run:∀(A:Around) (outer:List Env) (s:Shared) (H:Hp) (args:Args) (us:List Value) (vs:List V) (Q:VK) (E:XK),RoomU k A→Env0 P w K mg base A outer s H→BindsTo s fd args (ps.zip us)→Vals vs us→sp vs H Q E→
  codeAny (model P w) A (.call (.ref f) args) (CR CX outer P w H s Q E) s
structure FnAtU(P:Program)(w:World)(K:PySem.W.Frag)(mg:Str→Option Value)(base:Heap)(CX:CXT)(x:Str)(k:Nat)(ps:List Str)(sp:Sp):Prop where
 ex:∃f fd,FnOkU P w K mg base CX k f fd ps sp∧mg x=some (.ref f)∧PySem.W.keepIn K (.ref f)=true∧Binds K fd ps []
section
variable{X:Cx}{pins:List (Addr×Obj)}{σ:St}{H:Hp}{s:Shared}
end
end L2
namespace DL
open PySem PySem.Spec L2
open PySem.W (XC)
open PyProof.Rows (envOfC)
section
variable{X:Cx}{Y:Y2}{W:XW}{x:Str}{p pos:Pos}{e:Expr}{es:List Expr}{t:TA2}{k:Nat}{ps:List Str}{sp:Sp2}
end
section
variable{P:Program}{w:World}{K:Frag}{mg:Str→Option Value}{base:Heap}
end
end DL
namespace L2
open PySem PySem.Spec PyProof.Rows PySem.Calls
section
variable{prog:Program}{w:World}{A:Around}{E:Value→Shared→Prop}{s:Shared}{I l:Addr}{its:Array Value}
end
end L2
namespace L2
open PySem PySem.Spec PyProof.Rows PySem.Calls
section
variable{X:Cx}
end
end L2
namespace DL
open PySem PySem.Spec L2
section
variable{X:Cx}{Y:Y2}{W:XW}{a:Expr}{ta:TA2}{p p2 pos pos2 spos:Pos}
noncomputable def d0d(ta:TA2):TS2:=fun E ρ δ=>ta E.xc ρ δ fun ds ρ1 δ1=>δ1=none∧match ds with | [d]=>(match d with | .lst xs=>∀p,E.rt (.ref p) (some (p,xs.reverse))|_=>False)|_=>False
end
end DL
namespace L2
open PySem PySem.Spec PyProof.Rows PySem.Calls PySem.W
section
variable{X:Cx}
theorem q0z(f:Nat→Int):∀n j,j≤n→f (argBest (fun i j=>decide (f i<f j)) n)≤f j
 | 0,j,h=>by
  have:j=0:=by omega
  subst this;exact Int.le_refl _
 |n+1,j,h=>by
  unfold argBest;by_cases z:j=n+1
  ·subst z;split
   ·exact Int.le_refl _
   ·rename_i hb;simp only[decide_eq_true_eq]at hb;omega
  ·have ih:=q0z f n j (by omega);split
   ·rename_i hb;simp only[decide_eq_true_eq]at hb;omega
   ·exact ih
noncomputable def i0x(ns:List Int)(m:Int):Prop:=m∈ns∧∀n∈ns,m≤n
theorem d0c(ns:List Int)(h:0<ns.length):i0x ns (ns.getD (argBest (fun i j=>decide (ns.getD i 0<ns.getD j 0)) (ns.length-1)) 0):=by
 have lt:=m0y (fun i j=>decide (ns.getD i 0<ns.getD j 0)) (ns.length-1);refine ⟨?_,fun n hn=>?_⟩
 ·generalize argBest (fun i j=>decide (ns.getD i 0<ns.getD j 0)) (ns.length-1)=m at lt ⊢;rw[List.getD_eq_getElem?_getD,List.getElem?_eq_getElem (by omega)];exact List.getElem_mem _
 ·obtain ⟨j,hj,rfl⟩:=List.getElem_of_mem hn;have:=q0z (fun i=>ns.getD i 0) (ns.length-1) j (by omega);simp only[List.getD_eq_getElem?_getD (l:=ns) (i:=j),List.getElem?_eq_getElem hj,Option.getD_some]at this;exact this
theorem b0x{ns:List Int}{its:List Value}(r:Vals (ns.map V.int) its){i:Nat}{v:Value}(e:its[i]?=some v):∃t,v=Value.int (ns.getD i 0) t:=by
 have hl:=(List.getElem?_eq_some_iff.mp e).1;have hlen:its.length=ns.length:=by have:=r.length;simpa using this.symm
 have hl2:i<(ns.map V.int).length:=by rw[List.length_map];omega
 obtain ⟨u,hu,rr⟩:=r.get (List.getElem?_eq_getElem hl2);rw[e]at hu;cases hu;rw[List.getElem_map]at rr;obtain ⟨t,e⟩:=rr;refine ⟨t,?_⟩;rw[e];show Value.int ns[i] t=Value.int (ns.getD i 0) t;rw[List.getD_eq_getElem?_getD,List.getElem?_eq_getElem (by omega)];rfl
noncomputable def rMinL(K:PySem.W.Frag):List V→Hp→VK→Prop:=fun vs H Q=>∃(b:Bool) (a:Addr) (ns:List Int),vs=[.ref a]∧Sq K b H a (ns.map V.int)∧ns≠[]∧∀m,i0x ns m→Q (.int m) H
theorem w0s(hc:X.calm=true):x0t X (.builtin "min") (rMinL X.K):=by
 intro pins s σ H xs us Q I rv h;obtain ⟨b,a,ns,rfl,hq,hne,q⟩:=h;obtain ⟨u,rfl,ru⟩:=rv.one;cases (show u=Value.ref a from ru);obtain ⟨its,r,p,hz⟩:=I.sq hq;have hlt:a<s.heap.objs.size:=by obtain ⟨_,e,_⟩:=p.obj;exact Heap.lt_size e
 have hlen:its.length=ns.length:=by have:=r.length;simpa using this.symm
 have hpos:0<ns.length:=List.length_pos_iff.mpr hne;have hval:∀i v,its.toArray[i]?=some v→∃t,v=Value.int (ns.getD i 0) t:=fun i v hP=>b0x r (by simpa using hP)
 refine call_min_walk (t0f p ?_);refine ⟨s.heap.objs.size,[s.heap.objs.size,a],[s.heap.objs.size],its.toArray.size,_,_,_,rfl,q0j b (A:=X.A.in1) (I.ok.hd hc) _ a (Nat.ne_of_lt hlt) its.toArray,
  ⟨.of (Heap.get?_push_size _ rfl) rfl rfl,p.stay fun o e=>Heap.get?_push_of_some _ e⟩,fun c hcm=>?_,by rw[List.size_toArray,hlen];exact hpos,CmpOf.ints_lt (fun i=>ns.getD i 0) hval,fun v h' tk hP hk=>?_⟩
 ·show c<(s.heap.push _).objs.size;rw[Heap.size_push];have:c=s.heap.objs.size∨c=a:=by simpa using hcm
  rcases this with rfl |rfl
  ·exact Nat.lt_succ_self _
  ·exact Nat.lt_succ_of_lt hlt
 ·obtain ⟨t,rfl⟩:=hval _ _ hP;have hn:∀c o,s.heap.get? c=some o→c∉ [s.heap.objs.size]:=fun c o e z=>by
   have z':c=s.heap.objs.size:=by simpa using z
   subst z';exact absurd (Heap.lt_size e) (Nat.lt_irrefl _)
  refine ⟨.int _,H,I.kept fun c o e=>hk c o (hn c o e) (Heap.get?_push_of_some _ e),⟨t,rfl⟩,q _ ?_⟩;rw[List.size_toArray,hlen];exact d0c ns hpos
end
end L2
namespace DL
open PySem PySem.Spec L2
section
variable{K:Frag}
noncomputable def g0n:F1:=fun ds q=>match ds with | [d]=>(match seqD d with |some xs=>(match h8 xs with |some ns=>ns≠[]∧∀m,i0x ns m→q (.int m)|none=>False)|none=>False)|_=>False
theorem j0z:v0p K (rMinL K) g0n:=by
 intro Y F H σ ρ δ vs ds Q1 q I r h' k;unfold g0n at h';split at h'
 ·split at h'
  ·split at h'
   ·rename_i xs e _ ns en;obtain ⟨v,rfl,r1⟩:=i9 r;obtain ⟨a,us,b,rfl,sq,z⟩:=t0d e r1;exact ⟨b,a,ns,rfl,by rw[←t0b en z];exact I.sub.sq sq,h'.1,fun m hm=>k _ _ F H I (Same.refl F) (rep_int.mpr rfl) (h'.2 m hm)⟩
   ·exact h'.elim
  ·exact h'.elim
 ·exact h'.elim
end
section
variable{X:Cx}{Y:Y2}{W:XW}{x:Str}{p apos cpos p2 pos2:Pos}
noncomputable def z1l(i:Nat):TE2:=fun _ ρ δ q=>match dicV ρ i with |some kvs=>q (.lst (kvs.map (·.2))) ρ δ |none=>False
noncomputable def t2LenD(i:Nat):TE2:=fun _ ρ δ q=>match dicV ρ i with |some kvs=>q (.int (kvs.length:Nat)) ρ δ |none=>False
end
end DL
namespace DL
open PySem PySem.Spec L2
structure DI(l:List (Key×D))(g:Int→Int→Prop):Prop where
 nd:(l.map (·.1)).Nodup
 all:∀kv∈l,∃k v:Int,kv=(.inl k,.int v)∧g k v
end DL
namespace L2
open PySem PySem.Spec PyProof.Rows PySem.Calls
section
variable{prog:Program}{w:World}{A:Around}{E:Value→Shared→Prop}{I:Addr}{fp wr:List Addr}{n:Nat}{P:Nat→Value→Prop}{St:Nat→Heap→Prop}
end
section
variable{prog:Program}{w:World}{A:Around}{E:Value→Shared→Prop}{s:Shared}
end
section
variable{X:Cx}{pos:Pos}
end
end L2
namespace DL
open PySem PySem.Spec L2
noncomputable def g2L(is:List Nat):G2:=fun d ρ=>match d with | .lst ds=>t0h is ds ρ |_=>none
end DL
namespace L2
open PySem PySem.Spec PyProof.Rows
section
variable{X:Cx}
end
end L2
namespace DL
open PySem PySem.Spec L2
noncomputable def eqL:F2:=fun d1 d2 q=>match d1,d2 with | .lst xs,.lst ys=>(xs.all j8&&ys.all j8)=true∧q (.bl (eqDs xs ys))|_,_=>False
end DL
namespace L2
open PySem PySem.Spec PyProof.Rows
section
variable{X:Cx}{pins:List (Addr×Obj)}{σ:St}{H:Hp}{s:Shared}
end
end L2
namespace DL
open PySem PySem.Spec L2
noncomputable def eqR:D→D→Option Bool
 | .tup xs,.tup ys=>if (xs.all j8&&ys.all j8)=true then some (eqDs xs ys)else none
 | .lst xs,.lst ys=>if (xs.all j8&&ys.all j8)=true then some (eqDs xs ys)else none
 |x,y=>if (j8 x&&j8 y)=true then some (eqV (toV x) (toV y))else none
noncomputable def eqRs:List D→List D→Option Bool
 | [],[]=>some true
 |x::xs,y::ys=>match eqR x y,eqRs xs ys with |some a,some b=>some (a&&b)|_,_=>none
 | [],_::_=>some false
 |_::_,[]=>some false
noncomputable def eqRF(neg:Bool):F2:=fun d1 d2 q=>match d1,d2 with
 | .lst xs,.lst ys=>(match eqRs xs ys with |some r=>q (.bl (if neg=true then !r else r))|none=>False)
 | .tup xs,.tup ys=>(match eqRs xs ys with |some r=>q (.bl (if neg=true then !r else r))|none=>False)
 |_,_=>False
end DL
namespace L2
open PySem PySem.Spec PyProof.Rows PySem.Calls
section
variable{X:Cx}
end
end L2
namespace DL
open PySem PySem.Spec L2
section
variable{X:Cx}{Y:Y2}{W:XW}{te:TE2}{K:Frag}
noncomputable def pairK(kv:Key×D):D:=.tup [keyD kv.1,kv.2]
noncomputable def z1k(te:TE2):TI2:=fun x ρ δ q=>te x ρ δ fun d ρ1 δ1=>match d with | .dwk kvs=>q (kvs.map pairK) ρ1 δ1 |_=>False
end
section
variable{K:Frag}
noncomputable def bigD(ns:List Int):Prop:=(∀n∈ns,0≤n)∧ns.sum<2^63
theorem q0f:∀(ns:List Int) (j:Nat),(∀n∈ns,0≤n)→0≤(ns.take j).sum∧(ns.take j).sum≤ns.sum
 | [],j,_=>by simp
 |n::ns,0,h=>by
  have h2:=q0f ns ns.length fun z hz=>h z (List.mem_cons_of_mem _ hz)
  rw[List.take_length]at h2;have:=h n (List.mem_cons_self ..);simp;omega
 |n::ns,j+1,h=>by
  have h2:=q0f ns j fun z hz=>h z (List.mem_cons_of_mem _ hz)
  have:=h n (List.mem_cons_self ..);rw[List.take_succ_cons,List.sum_cons,List.sum_cons];omega
theorem v0m:∀{ns:List Int} {n:Int},(∀n∈ns,0≤n)→n∈ns→n≤ns.sum
 |a::ns,n,h,m=>by
  have h1:=h a (List.mem_cons_self ..);have h2:=q0f ns ns.length fun z hz=>h z (List.mem_cons_of_mem _ hz)
  rw[List.take_length]at h2;rw[List.sum_cons];rcases List.mem_cons.mp m with rfl |m
  ·omega
  ·have:=v0m (fun z hz=>h z (List.mem_cons_of_mem _ hz)) m;omega
theorem d0b{ns:List Int}(h:bigD ns):m0z ns:=fun j hj=>by
 have e:ns.getD j 0∈ns:=by
  rw[List.getD_eq_getElem?_getD,List.getElem?_eq_getElem hj];exact List.getElem_mem hj
 have h1:=h.1 _ e;have h2:=v0m h.1 e;have h3:=q0f ns (j+1) h.1;have h4:=h.2;rw[e9];constructor
 ·unfold InLong;omega
 ·unfold InLong;omega
noncomputable def sumB:F1:=fun ds q=>match ds with | [d]=>(match seqD d with |some xs=>(match h8 xs with |some ns=>bigD ns∧q (.int ns.sum)|none=>False)|none=>False)|_=>False
theorem n0u:v0p K (rSum K) sumB:=by
 intro Y F H σ ρ δ vs ds Q1 q I r h' k;unfold sumB at h';split at h'
 ·split at h'
  ·split at h'
   ·rename_i xs e _ ns en;obtain ⟨v,rfl,r1⟩:=i9 r;obtain ⟨a,us,b,rfl,sq,z⟩:=t0d e r1;exact ⟨b,a,ns,rfl,by rw[←t0b en z];exact I.sub.sq sq,d0b h'.1,k _ _ F H I (Same.refl F) (rep_int.mpr rfl) h'.2⟩
   ·exact h'.elim
  ·exact h'.elim
 ·exact h'.elim
end
section
variable{X:Cx}{Y:Y2}{W:XW}{e:Expr}{te:TE2}{x:Str}{pos pos':Pos}
noncomputable def j0y(i:Nat)(te:TE2):TS2:=fun E ρ δ=>rdV ρ i fun d1 ρ0=>te E.xc ρ0 δ fun d2 ρ1 δ1=>match d1,d2 with | .int a,.int b=>CMul a b∧E.nx (ρ1.set i (.val (.int (a*b)))) δ1 |_,_=>False
theorem z1j(i:Nat)(hN:X.N.Nodup)(he:PE2 X Y W e te)(hi:X.N[i]?=some x:=by rfl)(hx:Loc X.env.scope x:=by walk_at "v2")(hf:X.fn x=true∨X.env.scope.names.lookup x=some .local:=by walk_at "v1"):
 PS2 X Y W (.AugAssign (.Name x pos') .Mult e pos) (j0y i te):=ps2 (c0n (i:=i) (ti:=rI CMul fun i j=>.int (i*j)) hN hi hx he.go b0l hf) fun E1 σ H ⟨F,ρ,δ,E2,I,h,er⟩=>by
 obtain ⟨d1,v1,F0,ρ0,e1,I0,s0,r1,h⟩:=h0j I h;refine ⟨v1,e1,F0,ρ0,δ,E2.xc,_,I0,h,fun d2 v2 F1 H1 ρ1 δ1 I1 s1 r2 h1=>?_,er.xc.mono s0⟩;split at h1
 ·exact ⟨_,_,rep_int.mp r1,rep_int.mp r2,h1.1,er.nx _ F1 H1 _ δ1 (I1.put (rep_int.mpr rfl)) (s0.trans s1) h1.2⟩
 ·exact h1.elim
end
end DL
namespace DL
open PySem PySem.Spec L2
noncomputable def z1i:F1:=fun ds q=>match ds with | [.int i,.int j]=>CDiv i j∧q (.tup [.int (i/j),.int (i%j)])|_=>False
end DL
namespace DL
open PySem PySem.Spec L2
section
variable{X:Cx}{Y:Y2}{W:XW}{pos pos' bpos:Pos}{a b:Expr}{ta tb:TE2}{x:Str}
noncomputable def d0a(i:Nat)(ta tb:TE2):TS2:=fun E ρ δ=>ta E.xc ρ δ fun d1 ρ1 δ1=>tb E.xc ρ1 δ1 fun d2 ρ2 δ2=>match d1,d2 with
 | .lst xs,.lst ys=>xs.length+ys.length≤1000∧E.nx (ρ2.set i (.own (xs++ys))) δ2
 |_,_=>False
end
end DL
namespace L2
open PySem PySem.Spec PyProof.Rows PySem.Calls PySem.W
section
variable{X:Cx}
variable{tg:Expr}
end
end L2
namespace DL
open PySem PySem.Spec L2
section
variable{X:Cx}{Y:Y2}{W:XW}{te:TE2}{K:Frag}{tg:Expr}
noncomputable def t2Vals(te:TE2):TI2:=fun x ρ δ q=>te x ρ δ fun d ρ1 δ1=>match d with | .dwk kvs=>q (kvs.map (·.2)) ρ1 δ1 |_=>False
end
section
variable{X:Cx}{Y:Y2}{W:XW}{x:Str}{p apos cpos p2 pos2:Pos}
noncomputable def c0z(i:Nat):TE2:=fun _ ρ δ q=>match dicV ρ i with |some kvs=>q (.lst (kvs.map pairK)) ρ δ |none=>False
noncomputable def g0m(i:Nat):TE2:=fun _ ρ δ q=>match dicV ρ i with |some kvs=>(match h8 (kvs.map (·.2))with |some ns=>ns≠[]∧∀m,i0x ns m→q (.int m) ρ δ |none=>False)|none=>False
end
end DL
namespace L2
open PySem PySem.Spec PyProof.Rows
open AutoSeq1 (wpAny_loadPart')
section
variable{prog:Program}{w:World}{A:Around}{E:Value→Shared→Prop}{s:Shared}
end
section
variable{prog:Program}{w:World}{A:Around}{E:Value→Shared→Prop}{s:Shared}
end
section
variable{M:Model}{A:Around}{E:Value→Shared→Prop}{s:Shared}{env:Env}
end
section
variable{X:Cx}{elts:List Expr}{x1:Nat}{tpos:Pos}
end
end L2
namespace DL
open PySem PySem.Spec L2
section
variable{X:Cx}{Y:Y2}{W:XW}{K:Frag}
variable{a e:Expr}{ta:TA2}{te:TE2}{p pos tpos kp:Pos}{elts:List Expr}{x1:Nat}
noncomputable def t2EnuK(ta:TA2)(te:TE2):TI2:=fun x ρ δ q=>ta x ρ δ fun ds ρ1 δ1=>te x ρ1 δ1 fun d ρ2 δ2=>match ds,d with | [c],.int m=>(match seqD c with |some xs=>0≤m∧m≤1000000∧q (w0u m.toNat xs) ρ2 δ2 |none=>False)|_,_=>False
end
end DL
namespace DL
open PySem PySem.Spec L2
open PySem.W (XC)
noncomputable def z1h:Option Cell→Cell |some (.val d)=>.val d |some (.own ds)=>.val (.lst ds)|_=>.no
noncomputable def t0a(ρ:En)(js:List Nat):En:=js.map fun j=>z1h ρ[j]?
noncomputable def s0z(tup:Bool)(n:Nat)(te:TE2)(js:List Nat)(ρ:En)(q:List D→Dk→Prop):List D→List D→Dk→Prop
 | [],acc,δ=>q acc δ
 |d::ds,acc,δ=>match tgD tup n d with
  |some es=>te (fun _ _ _ _=>False) (es.map .val++t0a ρ js) none fun e _ _=>lfD e=true∧acc.length<1000∧s0z tup n te js ρ q ds (acc++[e]) δ
  |none=>False
section
variable{K:Frag}{Y:Y2}{F H:Hp}{σ:St}{ρ:En}{δ:Dk}
theorem I2.blockK{es:List D}{ws:List V}{js:List Nat}(I:I2 K Y F H σ ρ δ)(r:Reps K F es ws):I2 K ⟨lend ρ σ F H,H,none,none⟩ (lend ρ σ F H) H (ws.map some++i6 σ js) (es.map .val++t0a ρ js) none:=by
 have vals:∀(i:Nat) c,(es.map Cell.val++t0a ρ js)[i]?=some c→(∃e,c=.val e)∨c=.no:=fun i c e=>by
  have m:=List.mem_of_getElem? e;rcases List.mem_append.mp m with m |m
  ·obtain ⟨d,_,rfl⟩:=List.mem_map.mp m;exact .inl ⟨d,rfl⟩
  ·unfold t0a at m;obtain ⟨j,_,rfl⟩:=List.mem_map.mp m;unfold z1h;split
   ·exact .inl ⟨_,rfl⟩
   ·exact .inl ⟨_,rfl⟩
   ·exact .inr rfl
 have no:∀i a,¬y6 (es.map .val++t0a ρ js) (ws.map some++i6 σ js) i a:=fun i a o=>by
  rcases o.1 with ⟨es,q⟩|⟨C,fs,q⟩|⟨kvs,q⟩
  ·rcases vals i _ q with ⟨d,z⟩|z<;>cases z
  ·rcases vals i _ q with ⟨d,z⟩|z<;>cases z
  ·rcases vals i _ q with ⟨d,z⟩|z<;>cases z
 refine ⟨Ran.refl I.lend2 (fun _ _ z=>by cases z),t0c (fun i c e=>?_) (r.mono I.lend1),by simp[i6,t0a,r.length],fun i j a _ o _=>absurd o (no i a),fun i a o=>absurd o (no i a)⟩;unfold t0a at e;rw[List.getElem?_map,Option.map_eq_some_iff]at e;obtain ⟨j,ej,rfl⟩:=e;unfold i6;rw[List.getElem?_map,ej];show CellOk K _ H H none _ (σ[j]?).join;cases ec:ρ[j]? with
 |none=>trivial
 |some c=>
  have w:=I.env j c ec;cases c with
  |val e=>obtain ⟨u,e1,r1⟩:=w;exact ⟨u,e1,r1.mono I.lend1⟩
  |own ds=>
   obtain ⟨a,vs,e1,h1,f1,g1,r1⟩:=w;refine ⟨.ref a,e1,rep_lst.mpr ⟨a,vs,rfl,?_,r1.mono I.lend1⟩⟩;unfold lend;rw[if_pos ⟨j,ds,ec,w4 e1⟩];exact h1
  |_=>trivial
end
section
variable{X:Cx}{Y:Y2}{W:XW}{px pos:Pos}{target elt iter:Expr}{xs:List Str}{js:List Nat}{scope:Scope}{te:TE2}{ti:TI2}{tup:Bool}{g:TG}
theorem g0l{σ:St}{ρ1:En}{δ1:Dk}{F1 H1:Hp}{J:It}{n:Nat}{ds:List D}{q:List D→Dk→Prop}{Q:Addr→Hp→Prop}(I1:I2 X.K Y F1 H1 σ ρ1 δ1)(src:SrcOk X.K J F1 ds)(h1:s0z tup n te js ρ1 q ds [] δ1)
 (k:∀D F' H' δ' acc vs,I2 X.K Y F' H' σ ρ1 δ'→Same F1 F'→H' D=some (.lst vs)→F' D=none→Y.H₀ D=none→Off δ' D→(∀j a,y6 ρ1 σ j a→a≠D)→Reps X.K F' acc vs→q acc δ'→Q D H'):
 ∀D,H1 D=none→k0h X.K J tup n (i6 σ js) D (tcY X.K l7) (teY X.K te) H1 fun H2=>Q D H2:=by
 intro D hD;have hF:F1 D=none:=I1.sub.free hD;have h0:=I1.ran.fresh hD;have no:∀j a,y6 ρ1 σ j a→a≠D:=fun j a o=>by
  obtain ⟨u,hu⟩:=I1.ownAddr o;exact j0 hu hD
 have off:Off δ1 D:=fun b es e w=>by
  obtain ⟨_,vs,q2,_⟩:=I1.ran.dk b es e;rw[←w,hD]at q2;cases q2
 have I0:I2 X.K Y F1 (upd H1 D (.lst [])) σ ρ1 δ1:=by
  refine ⟨⟨fun b u e=>by rw[g0 (j0 e hF)];exact I1.sub _ _ e,fun b fs e=>?_,fun b u e f=>by rw[g0 (j0 e h0)];exact I1.ran.keep b u e f,I1.ran.f0,I1.ran.fnew,I1.ran.dto⟩,fun j c e=>?_,I1.len,I1.apart,I1.off⟩
  ·obtain ⟨q1,ws,q2,q3⟩:=I1.ran.dk b fs e;exact ⟨q1,ws,by rw[g0 (Ne.symm (off b fs e))];exact q2,q3⟩
  ·have w:=I1.env j c e;cases c with
   |no=>trivial
   |val d=>exact w
   |own fs=>
    obtain ⟨b,ws,e1,h1,f1,g1,r1⟩:=w;exact ⟨b,ws,e1,by rw[g0 (j0 h1 hD)];exact h1,f1,g1,r1⟩
   |obj C fs=>
    obtain ⟨b,dx,ws,e1,es1,h1,h2,f1,f2,g1,g2,r1⟩:=w;exact ⟨b,dx,ws,e1,es1,by rw[g0 (j0 h1 hD)];exact h1,by rw[g0 (j0 h2 hD)];exact h2,f1,f2,g1,g2,r1⟩
   |ownD fs=>
    obtain ⟨b,ws,e1,h1,f1,g1,r1⟩:=w;exact ⟨b,ws,e1,by rw[g0 (j0 h1 hD)];exact h1,f1,g1,r1⟩
 refine ⟨fun i m ys H2=>∃F2 acc,I2 X.K Y F2 H2 σ ρ1 δ1∧Same F1 F2∧H2 D=some (.lst ys)∧F2 D=none∧Reps X.K F2 acc ys∧s0z tup n te js ρ1 q (ds.drop i) acc δ1∧i≤ds.length∧m=ds.length-i,⟨ds.length,F1,[],I0,Same.refl F1,j3,hF,Reps.nil,by simpa using h1,Nat.zero_le _,by simp⟩,?_⟩;rintro i m ys H2 ⟨F2,acc,I2',s2,hD2,hF2,r2,h2,hi,rfl⟩;refine ⟨hD2,?_⟩;cases e:ds[i]? with
 |none=>
  have hl:ds.length≤i:=List.getElem?_eq_none_iff.mp e;have ei:i=ds.length:=by omega
  subst ei;rw[List.drop_length]at h2;exact .inl ⟨src.stop F2 H2 s2 I2'.sub,k D F2 H2 δ1 acc ys I2' s2 hD2 hF2 h0 off no r2 h2⟩
 |some d=>
  have hl:i<ds.length:=(List.getElem?_eq_some_iff.mp e).1;obtain ⟨go,yl⟩:=src.item i d F2 H2 e s2 I2'.sub;refine .inr ⟨go,fun v H3 y=>?_⟩;have hy:=yl v H3 y;obtain ⟨F3,I3,s3,r3,nf3⟩:=I2'.yld hy;have hD3:H3 D=some (.lst ys):=by
   rcases hy with ⟨rfl,_⟩|⟨p,vs,es,hp,rfl,_⟩
   ·exact hD2
   ·rw[g0 (j0 hD2 hp)];exact hD2
  have hF3:F3 D=none:=nf3 D _ hD2 hF2;have hL3:lend ρ1 σ F3 H3 D=none:=by
   unfold lend;split
   ·rename_i z;obtain ⟨j,es,e1,e2⟩:=z;exact absurd rfl (no j D ⟨.inl ⟨es,e1⟩,e2⟩)
   ·exact hF3
  have ed:ds.drop i=d::ds.drop (i+1):=by rw[List.drop_eq_getElem_cons hl];congr 1;exact (List.getElem?_eq_some_iff.mp e).2
  rw[ed]at h2;unfold s0z at h2;split at h2
  ·rename_i es ees;have body:∀ws:List V,Reps X.K F3 es ws→tcY X.K l7 (ws.map some++i6 σ js) H3 fun ok H4=>if ok=true then teY X.K te (ws.map some++i6 σ js) H4 fun y H5=>H5 D=some (.lst ys)∧ys.length<sizeLine∧∃m',m'<ds.length-i∧
    ∃F2 acc,I2 X.K Y F2 (upd H5 D (.lst (ys++[y]))) σ ρ1 δ1∧Same F1 F2∧upd H5 D (.lst (ys++[y])) D=some (.lst (ys++[y]))∧F2 D=none∧Reps X.K F2 acc (ys++[y])∧s0z tup n te js ρ1 q (ds.drop (i+1)) acc δ1∧i+1≤ds.length∧m'=ds.length-(i+1)
    else ∃m',m'<ds.length-i∧∃F2 acc,I2 X.K Y F2 H4 σ ρ1 δ1∧Same F1 F2∧H4 D=some (.lst ys)∧F2 D=none∧Reps X.K F2 acc ys∧s0z tup n te js ρ1 q (ds.drop (i+1)) acc δ1∧i+1≤ds.length∧m'=ds.length-(i+1):=by
    intro ws rw';refine ⟨⟨lend ρ1 σ F3 H3,H3,none,none⟩,lend ρ1 σ F3 H3,es.map .val++t0a ρ1 js,none,fun _ _ _ _=>False,fun b ρ4 δ4=>b=true∧ρ4=es.map .val++t0a ρ1 js∧δ4=none,I3.blockK rw',⟨rfl,rfl,rfl⟩,fun bb F4 H4 ρ4 δ4 I4 s4 h4=>?_,fun _ _ _ _ _ _ _ _ _ _ _ z=>z⟩;obtain ⟨rfl,rfl,rfl⟩:=h4;rw[if_pos rfl];refine ⟨⟨lend ρ1 σ F3 H3,H3,none,none⟩,F4,_,none,_,_,I4,h2,fun d5 v5 F5 H5 ρ5 δ5 I5 s5 r5 h5=>?_,fun _ _ _ _ _ _ _ _ _ _ _ z=>z⟩;obtain ⟨lf5,hlen,h6⟩:=h5;have R:=I5.ran;obtain ⟨I6,s6,b6⟩:=I3.back R;have hD5:H5 D=some (.lst ys):=R.keep D _ hD3 (fun _ _ z=>by cases z);have hF5:DL.back ρ1 σ F5 D=none:=by
     unfold DL.back;split
     ·rfl
     ·cases z:F5 D with
      |none=>rfl
      |some u=>
       rcases R.fnew D u z with w |w
       ·rw[show lend ρ1 σ F3 H3 D=some u from w]at hL3;cases hL3
       ·rw[show H3 D=none from w]at hD3;cases hD3
    exact ⟨hD5,by rw[r2.length];exact Nat.lt_of_lt_of_le hlen (by decide),ds.length-(i+1),by omega,_,acc++[d5],I6.side hF5 h0 off ⟨_,hD5⟩ no,(s2.trans s3).trans s6,j3,hF5,(r2.mono (s3.trans s6)).append (Reps.cons (Rep.lf b6 lf5 r5) Reps.nil),h6,hl,rfl⟩
   unfold tgD at ees;split at ees
   ·cases ees;exact body [v] (Reps.cons r3 Reps.nil)
   ·rename_i _ es0;split at ees
    ·rename_i hn;cases ees;obtain ⟨a,vs,rfl,ea,z⟩:=rep_tup.mp r3;exact ⟨a,vs,rfl,SqT.of (I3.sub _ _ ea),by rw[z.length];exact hn,body vs z⟩
    ·cases ees
   ·cases ees
  ·exact h2.elim
noncomputable def s0y(ti:TI2)(tup:Bool)(n:Nat)(js:List Nat)(te:TE2):TE2:=fun x ρ δ q=>ti x ρ δ fun ds ρ1 δ1=>s0z tup n te js ρ1 (fun acc δ2=>q (.lst acc) ρ1 δ2) ds [] δ1
theorem c0y{n:Nat}{σ:St}{H:Hp}{Q:VK}(h:upE X.K Y W (s0y ti tup n js te) σ H Q):k0g X.K (upI2 X.K Y W ti) tup n js (tcY X.K l7) (teY X.K te) σ H Q:=by
 obtain ⟨F,ρ,δ,x,q,I,h,k,kx⟩:=h;refine ⟨F,ρ,δ,x,_,I,h,fun ds J F1 H1 ρ1 δ1 I1 s1 src h1=>g0l (Q:=fun D H2=>Q (.ref D) H2) I1 src h1 fun D F' H' δ' acc vs I' s' hD hF h0 of no r hq=>?_,kx⟩;exact k _ _ _ _ ρ1 δ' (I'.ice hF h0 of hD no) ((s1.trans s').trans (Same.new hF)) (rep_lst.mpr ⟨D,vs,rfl,j3,r.mono (Same.new hF)⟩) hq
variable(hc:X.calm=true)(S:CompOkM X xs js scope)(hi:PI2 X Y W target iter ti)(hg:(xs++js.map (fun j=>X.N.getD j "")).Nodup→∀C s₀ H₀ fp cl,PG (X.compM xs js scope cl C s₀ H₀ fp) target g)(gm:TgM X.K tup xs.length g)
 (ht:∀C s₀ H₀ fp cl Y',PIf2 (X.compM xs js scope cl C s₀ H₀ fp) Y' W0 [] l7) (he:∀C s₀ H₀ fp cl Y',PE2 (X.compM xs js scope cl C s₀ H₀ fp) Y' W0 elt te)
include hc S hi hg gm ht he
theorem c0x(hs:∀v,foldedSetIterable iter X.env v=pure v:=by intro _;rfl):PE2 X Y W (.ListComp elt [⟨target,iter,[],0⟩] scope pos) (s0y ti tup xs.length js te):=
 pe2 (k0f (tc:=tcY X.K l7) (te:=teY X.K te) hc S hi.go (hg S.nd) gm (fun C s₀ H₀ fp cl pins s σ H Q I ⟨Y',h⟩=>(ht C s₀ H₀ fp cl Y').go pins s σ H Q I h) (fun C s₀ H₀ fp cl pins s σ H Q I ⟨Y',h⟩=>(he C s₀ H₀ fp cl Y').go pins s σ H Q I h) hs) fun σ H Q h=>c0y h
end
end DL
namespace DL
open PySem PySem.Spec L2
structure Tg{α:Type}(q:α):Type where
noncomputable def u0h(q:K2)(ρ:En)(_:Tg q):D→Dk→Prop:=fun d δ=>q d ρ δ
noncomputable def z1g(x:XK2)(ρ:En)(_:Tg x):Addr→List (Str×D)→Dk→Prop:=fun C fs δ=>x C fs ρ δ
section
variable{q:K2}{x:XK2}{ρ:En}{u:Tg q}{v:Tg x}{δ:Dk}
theorem m0x{d:D}:u0h q ρ u d δ=q d ρ δ:=rfl
theorem k_int{i:Int}:u0h q ρ u (.int i) δ=q (.int i) ρ δ:=rfl
theorem k_bl{i:Bool}:u0h q ρ u (.bl i) δ=q (.bl i) ρ δ:=rfl
theorem k_str{i:Str}:u0h q ρ u (.str i) δ=q (.str i) ρ δ:=rfl
theorem k_non:u0h q ρ u .non δ=q .non ρ δ:=rfl
theorem k_lst{i:List D}:u0h q ρ u (.lst i) δ=q (.lst i) ρ δ:=rfl
theorem k_tup{i:List D}:u0h q ρ u (.tup i) δ=q (.tup i) ρ δ:=rfl
theorem k_ins{C:Addr}{fs:List (Str×D)}:u0h q ρ u (.ins C fs) δ=q (.ins C fs) ρ δ:=rfl
theorem k_ref{i:Addr}:u0h q ρ u (.ref i) δ=q (.ref i) ρ δ:=rfl
theorem k_dwk{i:List (Key×D)}:u0h q ρ u (.dwk i) δ=q (.dwk i) ρ δ:=rfl
theorem k_dic{i:List (Key×D)}:u0h q ρ u (.dic i) δ=q (.dic i) ρ δ:=rfl
theorem x_nil{C:Addr}:z1g x ρ v C [] δ=x C [] ρ δ:=rfl
theorem x_cons{C:Addr}{a:Str×D}{fs:List (Str×D)}:z1g x ρ v C (a::fs) δ=x C (a::fs) ρ δ:=rfl
theorem call_s{sp:Sp2}{t:TA2}{q:K2}:t0k sp t x ρ δ q=t x ρ δ fun ds ρ1 δ1=>sp ds δ1 (u0h q ρ1 ⟨⟩) (z1g x ρ1 ⟨⟩):=rfl
end
theorem z1f{P:Program}{w:World}{K:Frag}{mg:Str→Option Value}{base:Heap}{x:Str}{st:Stmt}{ps:List Str}{f:Addr}{fd:FuncData}{k:Nat}{sp:Sp2}(D:DefAt K mg x st ps f fd)(no:∀ds δ q x,¬sp ds δ q x):Fun2 P w K mg base x k ps sp:=
 D.at ⟨fun vs H Q E h=>by obtain ⟨F,ds,δ,q,x,_,_,_,h,_⟩:=h;exact absurd h (no ds δ q x),fun A outer s H args us vs Q E _ _ _ _ h=>by obtain ⟨F,ds,δ,q,x,_,_,_,h,_⟩:=h;exact absurd h (no ds δ q x)⟩
theorem q0y{tup:Bool}{n:Nat}{te:TE2}{js:List Nat}{ρ:En}{q:List D→Dk→Prop}{δ:Dk}:∀{ds acc:List D} (es:List D),ds.length=es.length→acc.length+ds.length≤1000→
 (∀(i:Nat) (d e:D),ds[i]?=some d→es[i]?=some e→lfD e=true∧∀Q:D→Dk→Prop,(∀ δ',Q e δ')→∃xs,tgD tup n d=some xs∧te (fun _ _ _ _=>False) (xs.map .val++t0a ρ js) none fun e _ δ1=>Q e δ1)→q (acc++es) δ→s0z tup n te js ρ q ds acc δ
 | [],acc,[],_,_,_,fin=>by unfold s0z;rw[List.append_nil]at fin;exact fin
 |d::ds,acc,e::es,hl,ha,step,fin=>by
  unfold s0z;rw[List.length_cons]at ha;rw[List.length_cons,List.length_cons]at hl;obtain ⟨hf,st⟩:=step 0 d e rfl rfl;obtain ⟨xs,e1,e2⟩:=st (fun e _=>lfD e=true∧acc.length<1000∧s0z tup n te js ρ q ds (acc++[e]) δ) fun δ'=>⟨hf,by omega,q0y es (by omega) (by rw[List.length_append,List.length_singleton];omega) (fun i d e h1 h2=>step (i+1) d e (by rw[List.getElem?_cons_succ];exact h1) (by rw[List.getElem?_cons_succ];exact h2)) (by rw[List.append_assoc];exact fin)⟩
  rw[e1];exact e2
theorem y0k{te:TE2}{js:List Nat}{ρ:En}{q:List D→Dk→Prop}{δ:Dk}:∀{ds acc:List D} (es:List D),ds.length=es.length→acc.length+ds.length≤1000→
 (∀(i:Nat) (d e:D),ds[i]?=some d→es[i]?=some e→∀Q:D→Dk→Prop,Q e δ→te (fun _ _ _ _=>False) (.val d::capt ρ js) δ fun e _ δ1=>Q e δ1)→q (acc++es) δ→x0o te js ρ q ds acc δ
 | [],acc,[],_,_,_,fin=>by unfold x0o;rw[List.append_nil]at fin;exact fin
 |d::ds,acc,e::es,hl,ha,step,fin=>by
  unfold x0o;rw[List.length_cons]at ha;rw[List.length_cons,List.length_cons]at hl;exact step 0 d e rfl rfl (fun e δ1=>acc.length<1000∧x0o te js ρ q ds (acc++[e]) δ1) ⟨by omega,y0k es (by omega) (by rw[List.length_append,List.length_singleton];omega) (fun i d e h1 h2=>step (i+1) d e (by rw[List.getElem?_cons_succ];exact h1) (by rw[List.getElem?_cons_succ];exact h2)) (by rw[List.append_assoc];exact fin)⟩
theorem q0x{tup:Bool}{n:Nat}{te:TE2}{js:List Nat}{ρ:En}{q:List D→Dk→Prop}{δ:Dk}:∀{ds acc:List D} (es:List D),ds.length=es.length→acc.length+ds.length≤1000→
 (∀(i:Nat) (d e:D),ds[i]?=some d→es[i]?=some e→∀Q:D→Dk→Prop,Q e δ→∃xs,tgD tup n d=some xs∧te (fun _ _ _ _=>False) (xs.map .val++capt ρ js) δ fun e _ δ1=>Q e δ1)→q (acc++es) δ→compM tup n l7 te js ρ q ds acc δ
 | [],acc,[],_,_,_,fin=>by unfold compM;rw[List.append_nil]at fin;exact fin
 |d::ds,acc,e::es,hl,ha,step,fin=>by
  unfold compM;rw[List.length_cons]at ha;rw[List.length_cons,List.length_cons]at hl;obtain ⟨xs,e1,e2⟩:=step 0 d e rfl rfl (fun e δ1=>acc.length<1000∧compM tup n l7 te js ρ q ds (acc++[e]) δ1) ⟨by omega,q0x es (by omega) (by rw[List.length_append,List.length_singleton];omega) (fun i d e h1 h2=>step (i+1) d e (by rw[List.getElem?_cons_succ];exact h1) (by rw[List.getElem?_cons_succ];exact h2)) (by rw[List.append_assoc];exact fin)⟩;rw[e1];unfold l7;dsimp only;rw[if_pos rfl];exact e2
theorem i0w{α:Type}{tup:Bool}{n:Nat}{te:TE2}{js:List Nat}{ρ:En}{q:List D→Dk→Prop}{δ:Dk}(g f:α→D)(l:List α)(hl:l.length≤1000)(step:∀a∈l,∀Q:D→Dk→Prop,Q (f a) δ→∃xs,tgD tup n (g a)=some xs∧te (fun _ _ _ _=>False) (xs.map .val++capt ρ js) δ fun e _ δ1=>Q e δ1)(fin:q (l.map f) δ):compM tup n l7 te js ρ q (l.map g) [] δ:=
 q0x (l.map f) (by rw[List.length_map,List.length_map]) (by rw[List.length_map];show 0+_≤_;omega) (fun i d e hd he Q hQ=>by
  rw[List.getElem?_map,Option.map_eq_some_iff]at hd;obtain ⟨a,ha,rfl⟩:=hd;rw[List.getElem?_map,ha]at he;cases he;exact step a (List.mem_of_getElem? ha) Q hQ) fin
theorem forL_G{α:Type}{gt:G2}{body:TS2}{E:End2}{ρ:En}{δ:Dk}(g:α→D)(l:List α)(P:Nat→En→Dk→Prop)(h0:P 0 ρ δ)(step:∀(i:Nat) (a:α) (ρ:En) (δ:Dk) (rest:En→Dk→Prop),l[i]?=some a→P i ρ δ→(∀ ρ' δ',P (i+1) ρ' δ'→rest ρ' δ')→v0o gt body E rest (g a) ρ δ)(fin:∀ ρ δ,P l.length ρ δ→E.nx ρ δ):forL gt body E (l.map g) ρ δ:=
 f9 P h0 (fun i d ρ δ rest hd hp hr=>by
  rw[List.getElem?_map,Option.map_eq_some_iff]at hd;obtain ⟨a,ha,rfl⟩:=hd;exact step i a ρ δ rest ha hp hr) (by rw[List.length_map];exact fin)
theorem forL_E{α:Type}{gt:G2}{body:TS2}{E:End2}{ρ:En}{δ:Dk}(g:α→D)(l:List α)(P:Nat→En→Dk→Prop)(h0:P 0 ρ δ)(step:∀(i:Nat) (a:α) (ρ:En) (δ:Dk) (rest:En→Dk→Prop),l[i]?=some a→P i ρ δ→(∀ ρ' δ',P (i+1) ρ' δ'→rest ρ' δ')→v0o gt body E rest (.tup [.int (i:Int),g a]) ρ δ)(fin:∀ ρ δ,P l.length ρ δ→E.nx ρ δ):forL gt body E (w0u 0 (l.map g)) ρ δ:=
 f9 P h0 (fun i d ρ δ rest hd hp hr=>by
  obtain ⟨z,hz,rfl⟩:=p6 hd;rw[List.getElem?_map,Option.map_eq_some_iff]at hz;obtain ⟨a,ha,rfl⟩:=hz;rw[Nat.zero_add];exact step i a ρ δ rest ha hp hr) (by rw[r6,List.length_map];exact fin)
end DL
namespace L2
open PySem PySem.Spec PyProof.Rows PySem.SeqAt
theorem q0e(l:Addr)(items:Array Value)(n:Nat)(dd:Option Addr)(sl:Array (Option Value))(x:Value)(e:Value→Bool)(j:Nat)(hj:j<items.size)
 (hit:e items[j]=true) (hno:∀m (hm:m<items.size),m<j→e items[m]=false):
 Meets (Builtin.«tuple.index» ⟨[.ref l,x],[]⟩)
  (fun A R s=>s.heap.get? l=some {cls:=.type "tuple",dict:=dd,data:=.seq items n,slots:=sl}∧(∀y,y∈items→EqAt A.in1 s y x (e y))∧R (.ok (.ret (.int j s.toks))) {s with toks:=s.toks+1}):=
 .of_wp fun prog w A R s h=>by
  obtain ⟨hp,g,d,tk,os⟩:=s;obtain ⟨hl,he,h⟩:=h;unfold Builtin.«tuple.index»;simp only[Std.Legacy.Range.forIn_eq_forIn_range']
  wp_walk using wpAny_loadPart' hl,wpAny_forIn_list _ (fun rest b s'=>b.1=none∧s'=⟨hp,g,d,tk,os⟩∧∃i,i≤j∧rest=List.range' i (items.size-i)) _
  case turn=>
   rintro k rest b s' ⟨hb,rfl,i,hi,hr⟩;have e1:items.size-i=(items.size-(i+1))+1:=by omega
   rw[e1,List.range'_succ]at hr;obtain ⟨rfl,rfl⟩:=List.cons.inj hr;have hk:k<items.size:=by omega
   rw[show items[k]?=some items[k]from Array.getElem?_eq_getElem hk];refine wpAny_bind (he _ (Array.getElem_mem hk) prog w _ _ ?_);by_cases z:k=j
   ·subst z;rw[hit]
    wp_walk
    exact ⟨_,rfl,h⟩
   ·rw[hno k hk (by omega)]
    wp_walk
    exact ⟨rfl,rfl,k+1,by omega,rfl⟩
  case fin=>
   rintro b s' ⟨hb,rfl,i,hi,hr⟩;have e1:items.size-i=(items.size-(i+1))+1:=by omega
   rw[e1,List.range'_succ]at hr;cases hr
  case h=>
   refine ⟨rfl,rfl,0,Nat.zero_le _,?_⟩;rw[show [:min items.size items.size].size=items.size-0 by simp[Std.Legacy.Range.size]]
section
variable{X:Cx}
theorem g0k{ns:List Int}{its:List Value}{k:Int}(r:Vals (ns.map V.int) its)(hk:k∈ns):∃hj:ns.idxOf k<its.length,eqU (.int k) its[ns.idxOf k]=true∧∀m (hm:m<its.length),m<ns.idxOf k→eqU (.int k) its[m]=false:=by
 have hl:its.length=ns.length:=by have:=r.length;rw[List.length_map]at this;omega
 have hj:ns.idxOf k<ns.length:=List.idxOf_lt_length_iff.mpr hk;have key:∀m (hm:m<its.length),eqU (.int k) its[m]=decide (ns[m]'(by omega)=k):=fun m hm=>by
  obtain ⟨u,e1,e2⟩:=r.get (i:=m) (x:=.int (ns[m]'(by omega))) (by rw[List.getElem?_map,List.getElem?_eq_getElem (by omega)];rfl);rw[List.getElem?_eq_getElem hm]at e1;cases e1;rw[c0i e2 rfl];show (ns[m]==k)=_;exact Bool.beq_eq_decide_eq ..
 refine ⟨by omega,?_,fun m hm hlt=>?_⟩
 ·rw[key _ (by omega)];exact decide_eq_true (List.getElem_idxOf hj)
 ·rw[key m hm];exact decide_eq_false (fun e=>by
   have:=List.not_of_lt_findIdx (p:=(·==k)) hlt;simp[e]at this)
theorem g0j{n:Nat}(h:n≤sizeLine):(n:Int)<2^63-1:=by
 have:sizeLine≤2^40:=by decide
 omega
noncomputable def z1e:V→List V→Hp→VK→Prop:=fun x vs H Q=>∃(l:Addr) (ns:List Int) (k:Int),x=.ref l∧vs=[.int k]∧H l=some (.lst (ns.map V.int))∧k∈ns∧Q (.int ((ns.idxOf k:Nat):Int)) H
theorem g0i:MtM X "list.index" z1e:=by
 intro pins s σ H x vs v us Q I rx rv h;obtain ⟨l,ns,k,rfl,rfl,hH,hk,q⟩:=h;cases rx;obtain ⟨u,rfl,ru⟩:=rv.one;obtain ⟨z,its,n,r,hl,e⟩:=I.lstM hH;obtain ⟨hj,h1,h2⟩:=g0k r hk;refine call_meets F.slot_list_index ⟨_,e,rfl⟩ F.entry_list_index (F.args_list_index_2 _ _) (list_indexAt l its.toArray n _ _ u (eqU (.int k)) (ns.idxOf k) (by simpa using hj) (g0j (by omega)) (by simpa using h1) (fun m hm hlt=>by simpa using h2 m (by simpa using hm) hlt)) ⟨e,fun w hw=>q0o ru rfl r (by rw[List.all_map];exact List.all_eq_true.mpr fun _ _=>rfl) w (by simpa using hw),?_⟩;exact ⟨.int _,H,I.tok _,⟨s.toks,rfl⟩,q⟩
noncomputable def z1d(K:PySem.W.Frag):V→List V→Hp→VK→Prop:=fun x vs H Q=>∃(l:Addr) (ns:List Int) (k:Int),x=.ref l∧vs=[.int k]∧SqT K H l (ns.map V.int)∧k∈ns∧Q (.int ((ns.idxOf k:Nat):Int)) H
theorem g0h:MtM X "tuple.index" (z1d X.K):=by
 intro pins s σ H x vs v us Q I rx rv h;obtain ⟨l,ns,k,rfl,rfl,hH,hk,q⟩:=h;cases rx;obtain ⟨u,rfl,ru⟩:=rv.one;obtain ⟨its,r,⟨⟨c,dd,dt,sl⟩,e,hc,n,hd⟩,z⟩:=I.tuple hH;simp only at hc hd;subst hc hd;obtain ⟨hj,h1,h2⟩:=g0k r hk;refine call_meets F.slot_tuple_index ⟨_,e,rfl⟩ F.entry_tuple_index (F.args_tuple_index_2 _ _) (q0e l its.toArray n _ _ u (eqU (.int k)) (ns.idxOf k) (by simpa using hj) (by simpa using h1) (fun m hm hlt=>by simpa using h2 m (by simpa using hm) hlt)) ⟨e,fun w hw=>q0o ru rfl r (by rw[List.all_map];exact List.all_eq_true.mpr fun _ _=>rfl) w (by simpa using hw),?_⟩;exact ⟨.int _,H,I.tok _,⟨s.toks,rfl⟩,q⟩
end
end L2
namespace DL
open PySem PySem.Spec L2
section
variable{X:Cx}{Y:Y2}{W:XW}{o e b:Expr}{es:List Expr}{ta tb:TE2}{t:TA2}{p pos apos cpos:Pos}
noncomputable def idxQ(xs es:List D)(q:D→Prop):Prop:=match h8 xs,es with |some ns,[.int k]=>k∈ns∧q (.int ((ns.idxOf k:Nat):Int))|_,_=>False
noncomputable def u0b(ta:TE2)(t:TA2):TE2:=fun x ρ δ q=>ta x ρ δ fun d ρ1 δ1=>match d with | .lst xs=>t x ρ1 δ1 fun es ρ2 δ2=>idxQ xs es fun r=>q r ρ2 δ2 |_=>False
noncomputable def u0a(ta:TE2)(t:TA2):TE2:=fun x ρ δ q=>ta x ρ δ fun d ρ1 δ1=>match d with | .tup xs=>t x ρ1 δ1 fun es ρ2 δ2=>idxQ xs es fun r=>q r ρ2 δ2 |_=>False
theorem g0g(ho:PE2 X Y W o ta)(ha:PA2 X Y W (e::es) t)(hbase:attributeBase o "index" X.env (eval o X.env)=eval o X.env:=by rfl)
 (hfew:((backTo cpos (starEach (e::es) X.env)).all (fun x=>!x.1)&&(backToKw cpos (keywordEach [] X.env)).all (fun x=>x.1.isSome)
  &&decide ((e::es).length+([]:List Keyword).length+(if ([]:List Keyword).isEmpty then 0 else 1)<30))=true:=by rfl)
 (hline:(apos.endLine==cpos.line)=true:=by rfl) (hs:starEach (e::es) X.env=(false,eval e X.env)::starEach es X.env:=by exact x6 rfl) (hplain:(backTo cpos (starEach es X.env)).any (·.1)=false:=by exact u6 rfl):
 PE2 X Y W (.Call (.Attribute o "index" apos) (e::es) [] cpos) (u0b ta t):=pe2 (a0z PySem.F.plainAttrs_list PySem.F.slot_list_index PySem.F.type_list_index g0i ho.go ha.go hbase hfew hline hs hplain) fun σ H Q ⟨F,ρ,δ,x,q,I,h,k,kx⟩=>by
 refine ⟨F,ρ,δ,x,_,I,h,fun d v F1 H1 ρ1 δ1 I1 s1 r1 h1=>?_,kx⟩;cases d with
 |lst xs=>
  obtain ⟨a,vs,rfl,ea,z⟩:=rep_lst.mp r1;refine ⟨.inl ⟨rfl,vs,SqL.of (I1.sub _ _ ea)⟩,F1,ρ1,δ1,x,_,I1,h1,fun es us F2 H2 ρ2 δ2 I2' s2 r2 h2=>?_,kx.mono s1⟩;unfold idxQ at h2;split at h2
  ·rename_i ns j e1;obtain ⟨hk,h2⟩:=h2;obtain ⟨u,rfl,ru⟩:=i9 r2;cases rep_int.mp ru;cases t0b e1 z;exact ⟨a,ns,j,rfl,rfl,I2'.sub _ _ (s2 _ _ ea),hk,k _ _ F2 H2 ρ2 δ2 I2' (s1.trans s2) (rep_int.mpr rfl) h2⟩
  ·exact h2.elim
 |_=>exact h1.elim
theorem g0f(ho:PE2 X Y W o ta)(ha:PA2 X Y W (e::es) t)(hbase:attributeBase o "index" X.env (eval o X.env)=eval o X.env:=by rfl)
 (hfew:((backTo cpos (starEach (e::es) X.env)).all (fun x=>!x.1)&&(backToKw cpos (keywordEach [] X.env)).all (fun x=>x.1.isSome)
  &&decide ((e::es).length+([]:List Keyword).length+(if ([]:List Keyword).isEmpty then 0 else 1)<30))=true:=by rfl)
 (hline:(apos.endLine==cpos.line)=true:=by rfl) (hs:starEach (e::es) X.env=(false,eval e X.env)::starEach es X.env:=by exact x6 rfl) (hplain:(backTo cpos (starEach es X.env)).any (·.1)=false:=by exact u6 rfl):
 PE2 X Y W (.Call (.Attribute o "index" apos) (e::es) [] cpos) (u0a ta t):=pe2 (a0z PySem.F.plainAttrs_tuple PySem.F.slot_tuple_index PySem.F.type_tuple_index g0h ho.go ha.go hbase hfew hline hs hplain) fun σ H Q ⟨F,ρ,δ,x,q,I,h,k,kx⟩=>by
 refine ⟨F,ρ,δ,x,_,I,h,fun d v F1 H1 ρ1 δ1 I1 s1 r1 h1=>?_,kx⟩;cases d with
 |tup xs=>
  obtain ⟨a,vs,rfl,ea,z⟩:=rep_tup.mp r1;refine ⟨.inr (.inr (.inr (.inr ⟨rfl,vs,I1.sub _ _ ea⟩))),F1,ρ1,δ1,x,_,I1,h1,fun es us F2 H2 ρ2 δ2 I2' s2 r2 h2=>?_,kx.mono s1⟩;unfold idxQ at h2;split at h2
  ·rename_i ns j e1;obtain ⟨hk,h2⟩:=h2;obtain ⟨u,rfl,ru⟩:=i9 r2;cases rep_int.mp ru;cases t0b e1 z;exact ⟨a,ns,j,rfl,rfl,SqT.of (I2'.sub _ _ (s2 _ _ ea)),hk,k _ _ F2 H2 ρ2 δ2 I2' (s1.trans s2) (rep_int.mpr rfl) h2⟩
  ·exact h2.elim
 |_=>exact h1.elim
structure TopRow(K:Frag)(mg:Str→Option Value)(x:Str)(ds:List D):Prop where
 ex:∃a vs,mg x=some (.ref a)∧(∀H,SqT K H a vs)∧∀F,Reps K F ds vs
theorem topRow3{K:Frag}{mg:Str→Option Value}{x:Str}{a:Addr}{s1 s2 s3:Str}{t1 t2 t3:Tok}{n:Nat}{dd:Option Addr}{sl:Array (Option Value)}(hm:mg x=some (.ref a))(hk:K.lookup a=some {cls:=.type "tuple",dict:=dd,data:=.seq ⟨[.str s1 t1,.str s2 t2,.str s3 t3]⟩ n,slots:=sl}):TopRow K mg x [.str s1,.str s2,.str s3]:=
 ⟨a,[.str s1,.str s2,.str s3],hm,fun H=>.inr ⟨_,_,n,hk,rfl,rfl,by show 3≤sizeLine;decide,.cons ⟨t1,rfl⟩ (.cons ⟨t2,rfl⟩ (.cons ⟨t3,rfl⟩ .nil))⟩,fun F=>Reps.cons (rep_str.mpr rfl) (Reps.cons (rep_str.mpr rfl) (Reps.cons (rep_str.mpr rfl) Reps.nil))⟩
noncomputable def c0w(ds:List D)(tb:TE2):TE2:=fun x ρ δ q=>tb x ρ δ fun d ρ1 δ1=>match ixQ (some ds) d with |some e=>q e ρ1 δ1 |none=>False
theorem e2_ixG{x:Str}{ds:List D}(hr:TopRow X.K X.mg x ds)(hb:PE2 X Y W b tb)(hg:Gl X x:=by rfl)(hd:(x==("__debug__":Str))=false:=by decide)(hs:q0q b:=by exact fun _ _=>rfl):PE2 X Y W (.Subscript (.Name x p) b pos) (c0w ds tb):=by
 obtain ⟨a,vs,hm,sq,rp⟩:=hr.ex;refine pe2 (b0b ix_tup (i0o (v:=.ref a) hg hm rfl hd) hb.go hs) fun σ H Q ⟨F,ρ,δ,x,q,I,h,k,kx⟩=>?_
 refine ⟨F,ρ,δ,x,_,I,h,fun d v F1 H1 ρ1 δ1 I1 s1 r1 h1=>?_,kx⟩;split at h1
 ·rename_i e he;unfold ixQ at he;split at he
  ·rename_i xs j e1;cases e1;cases rep_int.mp r1;obtain ⟨u,e3,r3⟩:=(rp F1).atI he;exact ⟨a,vs,j,u,rfl,rfl,sq _,e3,k _ _ F1 H1 ρ1 δ1 I1 s1 r3 h1⟩
  ·cases he
 ·exact h1.elim
end
end DL
namespace L2
open PySem PySem.Spec PyProof.Rows PySem.Calls PySem.W
section
variable{X:Cx}
theorem n0t(f:Nat→Int):∀n j,j≤n→f j≤f (argBest (fun i j=>decide (f i>f j)) n)
 | 0,j,h=>by
  have:j=0:=by omega
  subst this;exact Int.le_refl _
 |n+1,j,h=>by
  unfold argBest;by_cases z:j=n+1
  ·subst z;split
   ·exact Int.le_refl _
   ·rename_i hb;simp only[decide_eq_true_eq]at hb;omega
  ·have ih:=n0t f n j (by omega);split
   ·rename_i hb;simp only[decide_eq_true_eq]at hb;omega
   ·exact ih
noncomputable def rMaxM(K:PySem.W.Frag):List V→Hp→VK→Prop:=fun vs H Q=>∃(b:Bool) (a:Addr) (ns:List Int),vs=[.ref a]∧Sq K b H a (ns.map V.int)∧ns≠[]∧∀n∈ns,(∀k∈ns,k≤n)→Q (.int n) H
theorem g0e(hc:X.calm=true):x0t X (.builtin "max") (rMaxM X.K):=by
 intro pins s σ H xs us Q I rv h;obtain ⟨b,a,ns,rfl,hq,hne,q⟩:=h;obtain ⟨u,rfl,ru⟩:=rv.one;cases (show u=Value.ref a from ru);obtain ⟨its,r,p,hz⟩:=I.sq hq;have hlt:a<s.heap.objs.size:=by obtain ⟨_,e,_⟩:=p.obj;exact Heap.lt_size e
 have hlen:its.length=ns.length:=by have:=r.length;simpa using this.symm
 have hpos:0<ns.length:=List.length_pos_iff.mpr hne;have hval:∀i v,its.toArray[i]?=some v→∃t,v=Value.int (ns.getD i 0) t:=fun i v hP=>b0x r (by simpa using hP)
 refine call_max_walk (t0f p ?_);refine ⟨s.heap.objs.size,[s.heap.objs.size,a],[s.heap.objs.size],its.toArray.size,_,_,_,rfl,q0j b (A:=X.A.in1) (I.ok.hd hc) _ a (Nat.ne_of_lt hlt) its.toArray,
  ⟨.of (Heap.get?_push_size _ rfl) rfl rfl,p.stay fun o e=>Heap.get?_push_of_some _ e⟩,fun c hcm=>?_,by rw[List.size_toArray,hlen];exact hpos,CmpOf.ints_gt (fun i=>ns.getD i 0) hval,fun v h' tk hP hk=>?_⟩
 ·show c<(s.heap.push _).objs.size;rw[Heap.size_push];have:c=s.heap.objs.size∨c=a:=by simpa using hcm
  rcases this with rfl |rfl
  ·exact Nat.lt_succ_self _
  ·exact Nat.lt_succ_of_lt hlt
 ·obtain ⟨t,rfl⟩:=hval _ _ hP;have hn:∀c o,s.heap.get? c=some o→c∉ [s.heap.objs.size]:=fun c o e z=>by
   have z':c=s.heap.objs.size:=by simpa using z
   subst z';exact absurd (Heap.lt_size e) (Nat.lt_irrefl _)
  have hb:=m0y (fun i j=>decide (ns.getD i 0>ns.getD j 0)) (ns.length-1);have hm:=n0t (fun i=>ns.getD i 0) (ns.length-1);have e2:its.toArray.size-1=ns.length-1:=by rw[List.size_toArray,hlen]
  refine ⟨.int _,H,I.kept fun c o e=>hk c o (hn c o e) (Heap.get?_push_of_some _ e),⟨t,rfl⟩,q _ ?_ fun k hk=>?_⟩
  ·rw[e2];generalize argBest (fun i j=>decide (ns.getD i 0>ns.getD j 0)) (ns.length-1)=m at hb ⊢;rw[List.getD_eq_getElem?_getD,List.getElem?_eq_getElem (by omega)];exact List.getElem_mem _
  ·rw[e2];obtain ⟨i,hi,rfl⟩:=List.mem_iff_getElem.mp hk;have:=hm i (by omega);rw[List.getD_eq_getElem?_getD,List.getElem?_eq_getElem hi]at this;exact this
end
end L2
namespace DL
open PySem PySem.Spec L2
noncomputable def g0d:F1:=fun ds q=>match ds with | [d]=>(match seqD d with |some xs=>(match h8 xs with |some ns=>ns≠[]∧∀n∈ns,(∀k∈ns,k≤n)→q (.int n)|none=>False)|none=>False)|_=>False
theorem d_maxM{K:PySem.W.Frag}:v0p K (rMaxM K) g0d:=by
 intro Y F H σ ρ δ vs ds Q1 q I r h' k;unfold g0d at h';split at h'
 ·rename_i d;obtain ⟨v,rfl,r1⟩:=i9 r;split at h'
  ·rename_i xs e1;split at h'
   ·rename_i ns e2;obtain ⟨hne,hq⟩:=h';obtain ⟨a1,vs1,b1,rfl,q1,z1⟩:=t0d e1 r1;exact ⟨b1,a1,ns,rfl,by rw[←t0b e2 z1];exact I.sub.sq q1,hne,fun n hn hx=>k _ _ F H I (Same.refl F) (rep_int.mpr rfl) (hq n hn hx)⟩
   ·exact h'.elim
  ·exact h'.elim
 ·exact h'.elim
end DL
namespace HD
open PySem PySem.W PyProof.Rows PySem.Calls
noncomputable abbrev N:Value:=.none
noncomputable abbrev r(a:Nat):Value:=.ref a
noncomputable abbrev s(x:String)(t:Nat):Value:=.str (Str.ofString x) t
noncomputable abbrev i(n:Int)(t:Nat):Value:=.int n t
noncomputable abbrev b(x:Bool):Value:=.bool x
noncomputable abbrev ty(x:String):Value:=.type x
noncomputable abbrev bi(x:String):Value:=.builtin x
noncomputable abbrev ob(c:Value)(d:Data):Obj:={cls:=c,data:=d}
noncomputable abbrev tp(l:List Value):Obj:=ob (.type "tuple") (.seq ⟨l⟩)
noncomputable abbrev fl(c:Value)(l:List Value):Obj:=ob c (.fields ⟨l⟩)
noncomputable abbrev en(P:Params)(x:String)(t:Nat)(v:Value):DictEntry:=⟨PyData.keyHash P (Str.ofString x),.str (Str.ofString x) t,v⟩
noncomputable abbrev di(l:List DictEntry)(n:Nat):Obj:=ob (.type "dict") (.dict ⟨l⟩ n)
noncomputable abbrev fn(c:Value)(n q:String)(st:Stmt)(g:Nat)(m cd:Value):Obj:=
 ob c (.func {name:=Str.ofString n,qualname:=Str.ofString q,params:=L2.defArgs st,body:=.stmts (L2.defBody st),scope:=L2.defScope st,globals:=g,closure:=[],defaults:=.none,kwdefaults:=.none,pyModule:=m,code:=cd})
noncomputable abbrev co(n:String)(bs mro:List Value)(ns:Nat)(q:String)(hd hl:Bool)(subs:List Value)(sl:List (Option Value)):Obj:={cls:=.type "type",data:=.cls {name:=Str.ofString n,bases:=bs,mro:=mro,ns:=ns,qualname:=Str.ofString q,hasDict:=hd,hasDel:=hl,subclasses:=subs},slots:=⟨sl⟩}
noncomputable def x(g:Params→List Obj)(i:Nat)(P:Params):Obj:=(g P).getD i default
noncomputable def insT(t:BT):Nat→Obj→BT:=
 @BT.rec (fun _=>Nat→Obj→BT) (fun _ o=>.node o .nil .nil)
  (fun v l r ihl ihr i o=>@Bool.rec (fun _=>BT) (@Bool.rec (fun _=>BT) (.node v l (ihr (i/2-1) o)) (.node v (ihl (i/2) o) r) (Nat.beq (i%2) 1)) (.node o l r) (Nat.beq i 0)) t
noncomputable def insL(l:List Obj):Nat→BT→BT:=
 @List.rec Obj (fun _=>Nat→BT→BT) (fun _ t=>t) (fun o _ ih n t=>ih (Nat.succ n) (insT t n o)) l
noncomputable def setL(l:List (Nat×Obj)):BT→BT:=
 @List.rec (Nat×Obj) (fun _=>BT→BT) (fun t=>t) (fun p _ ih t=>ih (insT t p.1 p.2)) l
section
variable{p:Program}{w:World}{n₀:Nat}{ann:Option Value}{bb n:Nat}{st:SharedT}{l:List Stmt}{env:Env}{c:Code}{q:Pos}{B:List Frame}{rr:Option (Flow×SharedT×Code×Pos)}
theorem d9(h:PySem.W.Fast.tw10110043849684766642 PySem.W.Fast.tw14364793385576792824 p w n₀ ann bb n st ⟨(PySem.W.Fast.tw12563942051412417395 l env).wrap doneF deadEnd id id,c,q,B⟩=rr):
 segRunT treeTable p w n₀ ann bb n st (piecesOf l env c q B)=rr:=by
 unfold piecesOf;rw[PySem.W.Fast.te10110043849684766642,PySem.W.Fast.te14364793385576792824,PySem.W.Fast.te12563942051412417395];exact h
theorem turnGo{s:Shared}{t:Thread}{r:Option (Shared×Thread)}(h:PySem.W.Fast.tw15667345088766844465 PySem.W.Fast.tw14364793385576792824 p w n₀ ann n s t=r):topGo treeTable p w n₀ ann n s t=r:=by
 rw[PySem.W.Fast.te15667345088766844465,PySem.W.Fast.te14364793385576792824];exact h
theorem z1c{s:Shared}{t:Thread}{r:Option Shared}(h:PySem.W.Fast.tw14082659384304107361 PySem.W.Fast.tw14364793385576792824 p w n₀ ann n s t=r):topRun treeTable p w n₀ ann n s t=r:=by
 rw[PySem.W.Fast.te14082659384304107361,PySem.W.Fast.te14364793385576792824];exact h
theorem g0c{s:Shared}{r:Option (Flow×Shared×Code×Pos)}(h:PySem.W.Fast.tw14374325043358763698 PySem.W.Fast.tw14364793385576792824 p w n₀ ann bb n s ⟨(PySem.W.Fast.tw1066825118222455980 l env).wrap (fun _=>doneF .next) deadEnd id id,c,q,B⟩=r):
 segRun treeTable p w n₀ ann bb n s (blockOf l env c q B)=r:=by
 unfold blockOf;rw[PySem.W.Fast.te14374325043358763698,PySem.W.Fast.te14364793385576792824,PySem.W.Fast.te1066825118222455980];exact h
theorem n0s{N:Nat}{s s' r:Shared}{b b':List Stmt}{pos p' q:Pos}(e:b=b')(h:segRun treeTable p w n₀ ann 1 n s (blockOf b env c pos [topFrame q])=some (.next,s',c,p'))
 (k:topRun treeTable p w n₀ ann N s' (restOf b' env c p' [topFrame q])=some r):topRun treeTable p w n₀ ann (n+N) s ⟨denote treeTable (.body b env),c,pos,[topFrame q]⟩=some r:=by
 subst e;exact piece_block h k
end
noncomputable def FnF(K:PySem.W.Frag)(x:Str)(st:Stmt):Prop:=∃f fd,PySem.W.nsIn K mainGlobals x=some (some (.ref f))∧L2.Fun K x x st f fd
theorem FnF.at{K:PySem.W.Frag}{h:Heap}{mg:Str→Option Value}{x:Str}{st:Stmt}(F:FnF K x st)(X:K.In h)(G:h.Ns mainGlobals mg){ps:List Str}
 (b:∀(kV doc pm:Value) (an:Option Addr) (cdv ct:Value) (us:List Value),us.length=ps.length→bindArgs (PySem.W.fnOf x x (L2.defArgs st) (L2.defBody st) (L2.defScope st) .none kV doc pm an cdv ct) ⟨us,[]⟩=pure (ps.zip us)):∃f fd,L2.DefAt K mg x st ps f fd:=by
 obtain ⟨f,fd,a,u⟩:=F;exact ⟨f,fd,u,PySem.W.mg_of X G a,u.binds b⟩
noncomputable def XMkF(K:PySem.W.Frag)(C:Addr)(q:Str)(st:Stmt):Prop:=∃f fd,L2.XMk K C f∧L2.Fun K "__init__" q st f fd
noncomputable def MkF(K:PySem.W.Frag)(C:Addr)(q:Str)(st:Stmt):Prop:=∃f fd,L2.Mk K C f∧L2.Fun K "__init__" q st f fd
end HD
set_option maxHeartbeats 8000000
namespace K31
open PySem L2 DL
open PySem.W (XC)
local macro_rules | `(tactic|walk_at "dl")=>do
 let ids:=("n0b n0a Nat.reduceAdd Nat.reduceLT Nat.reduceLeDiff Nat.reduceSub Nat.zero_add k0q e0b k0p e0a d0z h0c d0y k0n d0x o0e k0m t2MV d0w h0b o0d t0k u0e u0f d0t forL x0o u0j capt List.map_cons List.map_nil t2Is t2R1 t2R2 q0k t2C t2V h0i t0n e0k e0j t2Op t2B e0h t2Or k0z k0y t2If v0q t2Bi t2Un rdV hasV seqV mutV ixQ seqD addF addG sumF eqG neG t2Sl slF t2ON t2OI d0e d0k d0j v0n k0b q0h l7 tgD fI fI0 eqF neF eqD isBF ixF lenF absF minF intF o0f allF h0e subF mulF e0d modF powF ltF leF gtF geF g2N g2T t0h t0l List.getElem?_cons_zero List.getElem?_cons_succ List.set_cons_zero List.set_cons_succ List.length_cons List.length_nil List.lookup_cons if_true if_false Bool.false_eq_true Bool.not_true Bool.not_false decide_eq_true_eq if_pos ite_true ite_false true_and and_true List.cons_append List.nil_append z1n k0a u0c neL s0y u0b u0a c0w g0d g0n sumB j0y".splitOn " ").toArray.map fun s=>Lean.mkIdent s.toName
 let args←ids.mapM fun i=>`(Lean.Parser.Tactic.simpLemma| $i:ident)
 `(tactic|simp only[reduceIte,↓reduceIte,$args,*])
local macro_rules | `(tactic|walk_at "dn")=>do
 let ids:=("n0b n0a Nat.reduceAdd Nat.reduceLT Nat.reduceLeDiff Nat.reduceSub Nat.zero_add k0q e0b k0p e0a d0z h0c d0y k0n d0x o0e k0m t2MV d0w h0b o0d t0k u0e u0f d0t u0j capt List.map_cons List.map_nil t2Is t2R1 t2R2 q0k t2C t2V h0i t0n e0k e0j t2Op t2B e0h t2Or k0z k0y t2If v0q t2Bi t2Un rdV hasV seqV mutV ixQ seqD addF addG sumF eqG neG t2Sl slF t2ON t2OI d0e d0k d0j v0n k0b q0h l7 tgD fI fI0 eqF neF eqD isBF ixF lenF absF minF intF o0f allF h0e subF mulF e0d modF powF ltF leF gtF geF g2N g2T t0h t0l List.getElem?_cons_zero List.getElem?_cons_succ List.set_cons_zero List.set_cons_succ List.length_cons List.length_nil List.lookup_cons if_true if_false Bool.false_eq_true Bool.not_true Bool.not_false decide_eq_true_eq if_pos ite_true ite_false true_and and_true List.cons_append List.nil_append z1n k0a u0c neL s0y u0b u0a c0w g0d g0n sumB j0y".splitOn " ").toArray.map fun s=>Lean.mkIdent s.toName
 let args←ids.mapM fun i=>`(Lean.Parser.Tactic.simpLemma| $i:ident)
 `(tactic|simp only[reduceIte,↓reduceIte,$args,*])
noncomputable def top(i:Nat):Stmt:=PySem.Challenge.pw_wearplan_k31_whole_looking_pays.main.body.getD i (.Pass ⟨0,0,0,0⟩)
noncomputable abbrev x0m:Stmt:=top 7
noncomputable abbrev v0l:Stmt:=top 8
noncomputable abbrev q0d:Stmt:=top 9
noncomputable abbrev q9:Stmt:=top 10
noncomputable abbrev v0k:Stmt:=top 12
noncomputable abbrev b9:Stmt:=top 13
noncomputable abbrev v0j:Stmt:=top 16
noncomputable abbrev v0i:Stmt:=top 17
noncomputable abbrev z0c:Stmt:=top 18
noncomputable abbrev x0l:Stmt:=top 19
noncomputable abbrev a9:Stmt:=top 26
noncomputable abbrev d8:Stmt:=top 27
noncomputable abbrev b8:Stmt:=top 28
noncomputable abbrev z0z:Stmt:=top 29
noncomputable abbrev q8:Stmt:=top 30
noncomputable abbrev z0y:Stmt:=top 31
noncomputable abbrev s0x:Stmt:=top 32
noncomputable abbrev x0k:Stmt:=top 33
noncomputable abbrev z0b:Stmt:=top 34
noncomputable abbrev v0h:Stmt:=top 36
noncomputable abbrev v0g:Stmt:=top 37
noncomputable abbrev v0f:Stmt:=top 38
noncomputable abbrev v0e:Stmt:=top 39
noncomputable abbrev x0j:Stmt:=top 40
noncomputable abbrev z0x:Stmt:=top 41
noncomputable abbrev z0a:Stmt:=top 42
noncomputable abbrev s0w:Stmt:=top 43
noncomputable abbrev v0d:Stmt:=top 44
noncomputable abbrev x0i:Stmt:=top 45
noncomputable abbrev v0c:Stmt:=top 46
noncomputable abbrev y0z:Stmt:=top 47
noncomputable abbrev v0b:Stmt:=top 48
noncomputable abbrev x0h:Stmt:=top 49
noncomputable abbrev y0y:Stmt:=top 50
noncomputable abbrev z1b:Stmt:=top 51
noncomputable abbrev z0w:Stmt:=inClass (top 2) 0
noncomputable abbrev p9:Stmt:=inClass (top 3) 0
noncomputable abbrev z0v:Stmt:=inClass (top 15) 0
noncomputable abbrev f6:Stmt:=inClass (top 25) 0
structure Cs where
 W:Addr
 Shared:Addr
 LookPrices:Addr
 NoPart:Addr
 NoWorks:Addr
 NoStands:Addr
 NoRounds:Addr
noncomputable def Cs.ds(c:Cs):List Addr:=[c.NoPart,c.NoWorks,c.NoStands,c.NoRounds]
structure Txt(K:PySem.W.Frag)(mg:Str→Option Value)(cs:Cs):Prop where
 n_ValueError:mg "ValueError"=none
 n_abs:mg "abs"=none
 n_all:mg "all"=none
 n_bool:mg "bool"=none
 n_enumerate:mg "enumerate"=none
 n_int:mg "int"=none
 n_isinstance:mg "isinstance"=none
 n_len:mg "len"=none
 n_list:mg "list"=none
 n_max:mg "max"=none
 n_min:mg "min"=none
 n_range:mg "range"=none
 n_sum:mg "sum"=none
 n_tuple:mg "tuple"=none
 n_zip:mg "zip"=none
 g_GREATEST_PRICE:∃t,mg "GREATEST_PRICE"=some (.int 99 t)
 g_GREATEST_WEIGHT:∃t,mg "GREATEST_WEIGHT"=some (.int 1000000 t)
 g_MOST_ROUNDS_HERE:∃t,mg "MOST_ROUNDS_HERE"=some (.int 4 t)
 g_MOVES:TopRow K mg "MOVES" [.str "wait",.str "look",.str "change"]
 c_WearError:mg "WearError"=some (.ref cs.W)
 h_WearError:XHd K cs.W
 c_Shared:mg "Shared"=some (.ref cs.Shared)
 cl_Shared:ClsI K cs.Shared
 kn_Shared:KNo K cs.Shared
 f_Shared_full:NoAttr K cs.Shared "full"
 f_Shared_mark:NoAttr K cs.Shared "mark"
 f_Shared_shares:NoAttr K cs.Shared "shares"
 c_LookPrices:mg "LookPrices"=some (.ref cs.LookPrices)
 cl_LookPrices:ClsI K cs.LookPrices
 kn_LookPrices:KNo K cs.LookPrices
 f_LookPrices_look:NoAttr K cs.LookPrices "look"
 f_LookPrices_change:NoAttr K cs.LookPrices "change"
 f_LookPrices_fall:NoAttr K cs.LookPrices "fall"
 err:∀D∈cs.ds,ErrC K cs.W D
 ne:∀D∈cs.ds,D≠cs.W
 nd:cs.ds.Nodup
 c_NoPart:mg "NoPart"=some (.ref cs.NoPart)
 h_NoPart:XHd K cs.NoPart
 x_NoPart:xcIn K cs.NoPart=true
 a_NoPart_at:NoAttr K cs.NoPart "at"
 c_NoWorks:mg "NoWorks"=some (.ref cs.NoWorks)
 h_NoWorks:XHd K cs.NoWorks
 x_NoWorks:xcIn K cs.NoWorks=true
 a_NoWorks_at:NoAttr K cs.NoWorks "at"
 c_NoStands:mg "NoStands"=some (.ref cs.NoStands)
 h_NoStands:XHd K cs.NoStands
 x_NoStands:xcIn K cs.NoStands=true
 k_NoStands:XMk0 K cs.NoStands
 c_NoRounds:mg "NoRounds"=some (.ref cs.NoRounds)
 h_NoRounds:XHd K cs.NoRounds
 x_NoRounds:xcIn K cs.NoRounds=true
 k_NoRounds:XMk0 K cs.NoRounds
noncomputable def DkAt(p:Addr)(ns:List Int)(n:Nat)(δ:Dk):Prop:=∃c k:Int,δ=some (p,[.scr (ns.map D.int),.int c,.int k])∧0≤c∧0≤k∧k≤n
noncomputable def g0b:Sp2:=fun ds δ q _=>∃(ns:List Int) (k:Int),ds=[.scr (ns.map D.int),.int k]∧0≤k∧∀r:Int,0≤r→q (.int r) δ
noncomputable def g0a:Sp2:=fun ds δ q _=>∃(ns:List Int) (k m:Int),ds=[.scr (ns.map D.int),.int k,.int m]∧0≤k∧k<2^40∧0<m∧∀r:Int,0≤r→r<m→q (.int r) δ
noncomputable def f0z:Sp2:=fun ds δ q _=>∃(ns:List Int),ds=[.scr (ns.map D.int)]∧δ=none∧∀p δ',DkAt p ns 0 δ'→q (.ref p) δ'
noncomputable def f0y:Sp2:=fun ds δ q _=>∃(p:Addr) (ns:List Int) (n:Nat) (m:Int),ds=[.ref p,.int m]∧DkAt p ns n δ∧n<2^30∧0<m∧m<2^30∧∀(d:Int) δ',0≤d→d<m→DkAt p ns (n+1) δ'→q (.int d) δ'
noncomputable def f0x(d:D):Bool:=match d with | .int _=>true |_=>false
noncomputable def q0c:Sp2:=fun ds δ q _=>match ds with | [d]=>a5 d=true∧q (.bl (f0x d)) δ |_=>False
noncomputable def v0a:Sp2:=fun ds δ q _=>match ds with | [d,.int lo,.int hi]=>a5 d=true∧q (.bl (i4 d lo hi)) δ |_=>False
noncomputable def numD(d:D)(j:Int):Bool:=match d with | .int i=>decide (i=j)|_=>false
noncomputable def e0m:Sp2:=fun ds δ q _=>match ds with | [d,.int j]=>a5 d=true∧q (.bl (numD d j)) δ |_=>False
noncomputable def rowD:D→Option (List D)| .lst xs=>some xs | .tup xs=>some xs |_=>none
noncomputable def n0r(d:D):Bool:=(rowD d).isSome
noncomputable def o8(d:D):Bool:=a5 d&&(match rowD d with |some xs=>xs.all a5 |none=>true)
noncomputable def u0z(d:D)(a b lo hi:Int):Bool:=match rowD d with |some xs=>decide (a≤(xs.length:Int))&&decide ((xs.length:Int)≤b)&&xs.all (i4 · lo hi)|none=>false
noncomputable def c0v:Sp2:=fun ds δ q _=>match ds with | [d]=>a5 d=true∧q (.bl (n0r d)) δ |_=>False
noncomputable def j0x:Sp2:=fun ds δ q _=>match ds with | [d,.int a,.int b,.int lo,.int hi]=>o8 d=true∧b≤900∧q (.bl (u0z d a b lo hi)) δ |_=>False
theorem f0w{α:Type}(f:α→Bool):∀xs:List α,blsD (xs.map fun e=>D.bl (f e))=some (xs.map f)
 | []=>rfl
 |x::xs=>by rw[List.map_cons,List.map_cons];unfold blsD;rw[f0w f xs];rfl
theorem all_id(xs:List Bool):xs.all id=xs.all fun b=>b:=rfl
theorem y0x:(("change":Str)=="change")=true:=by decide +kernel
theorem w0r:(("change":Str)=="fall")=false:=by decide +kernel
theorem q0b:(("change":Str)="fall")=False:=eq_false (by decide +kernel)
theorem w0q:(("change":Str)=="full")=false:=by decide +kernel
theorem q0a:(("change":Str)="full")=False:=eq_false (by decide +kernel)
theorem w0p:(("change":Str)=="look")=false:=by decide +kernel
theorem p0z:(("change":Str)="look")=False:=eq_false (by decide +kernel)
theorem w0o:(("change":Str)=="mark")=false:=by decide +kernel
theorem p0y:(("change":Str)="mark")=False:=eq_false (by decide +kernel)
theorem y0w:(("change":Str)=="shares")=false:=by decide +kernel
theorem s0v:(("change":Str)="shares")=False:=eq_false (by decide +kernel)
theorem w0n:(("fall":Str)=="change")=false:=by decide +kernel
theorem p0x:(("fall":Str)="change")=False:=eq_false (by decide +kernel)
theorem s0u:(("fall":Str)=="fall")=true:=by decide +kernel
theorem s0t:(("fall":Str)=="full")=false:=by decide +kernel
theorem m0w:(("fall":Str)="full")=False:=eq_false (by decide +kernel)
theorem s0s:(("fall":Str)=="look")=false:=by decide +kernel
theorem m0v:(("fall":Str)="look")=False:=eq_false (by decide +kernel)
theorem s0r:(("fall":Str)=="mark")=false:=by decide +kernel
theorem m0u:(("fall":Str)="mark")=False:=eq_false (by decide +kernel)
theorem w0m:(("fall":Str)=="shares")=false:=by decide +kernel
theorem p0w:(("fall":Str)="shares")=False:=eq_false (by decide +kernel)
theorem w0l:(("full":Str)=="change")=false:=by decide +kernel
theorem p0v:(("full":Str)="change")=False:=eq_false (by decide +kernel)
theorem s0q:(("full":Str)=="fall")=false:=by decide +kernel
theorem m0t:(("full":Str)="fall")=False:=eq_false (by decide +kernel)
theorem s0p:(("full":Str)=="full")=true:=by decide +kernel
theorem s0o:(("full":Str)=="look")=false:=by decide +kernel
theorem m0s:(("full":Str)="look")=False:=eq_false (by decide +kernel)
theorem s0n:(("full":Str)=="mark")=false:=by decide +kernel
theorem s0m:(("full":Str)="mark")=False:=eq_false (by decide +kernel)
theorem w0k:(("full":Str)=="shares")=false:=by decide +kernel
theorem w0j:(("full":Str)="shares")=False:=eq_false (by decide +kernel)
theorem w0i:(("look":Str)=="change")=false:=by decide +kernel
theorem p0u:(("look":Str)="change")=False:=eq_false (by decide +kernel)
theorem s0l:(("look":Str)=="fall")=false:=by decide +kernel
theorem m0r:(("look":Str)="fall")=False:=eq_false (by decide +kernel)
theorem s0k:(("look":Str)=="full")=false:=by decide +kernel
theorem m0q:(("look":Str)="full")=False:=eq_false (by decide +kernel)
theorem s0j:(("look":Str)=="look")=true:=by decide +kernel
theorem s0i:(("look":Str)=="mark")=false:=by decide +kernel
theorem m0p:(("look":Str)="mark")=False:=eq_false (by decide +kernel)
theorem w0h:(("look":Str)=="shares")=false:=by decide +kernel
theorem p0t:(("look":Str)="shares")=False:=eq_false (by decide +kernel)
theorem w0g:(("mark":Str)=="change")=false:=by decide +kernel
theorem p0s:(("mark":Str)="change")=False:=eq_false (by decide +kernel)
theorem s0h:(("mark":Str)=="fall")=false:=by decide +kernel
theorem m0o:(("mark":Str)="fall")=False:=eq_false (by decide +kernel)
theorem s0g:(("mark":Str)=="full")=false:=by decide +kernel
theorem m0n:(("mark":Str)="full")=False:=eq_false (by decide +kernel)
theorem s0f:(("mark":Str)=="look")=false:=by decide +kernel
theorem m0m:(("mark":Str)="look")=False:=eq_false (by decide +kernel)
theorem s0e:(("mark":Str)=="mark")=true:=by decide +kernel
theorem w0f:(("mark":Str)=="shares")=false:=by decide +kernel
theorem w0e:(("mark":Str)="shares")=False:=eq_false (by decide +kernel)
theorem y0v:(("shares":Str)=="change")=false:=by decide +kernel
theorem s0d:(("shares":Str)="change")=False:=eq_false (by decide +kernel)
theorem w0d:(("shares":Str)=="fall")=false:=by decide +kernel
theorem p0r:(("shares":Str)="fall")=False:=eq_false (by decide +kernel)
theorem w0c:(("shares":Str)=="full")=false:=by decide +kernel
theorem p0q:(("shares":Str)="full")=False:=eq_false (by decide +kernel)
theorem w0b:(("shares":Str)=="look")=false:=by decide +kernel
theorem p0p:(("shares":Str)="look")=False:=eq_false (by decide +kernel)
theorem w0a:(("shares":Str)=="mark")=false:=by decide +kernel
theorem p0o:(("shares":Str)="mark")=False:=eq_false (by decide +kernel)
theorem y0u:(("shares":Str)=="shares")=true:=by decide +kernel
local macro_rules | `(tactic|walk_at "fl")=>do
 let ids:=("T.cl_Shared.cl T.cl_LookPrices.cl T.f_Shared_full T.f_Shared_mark T.f_Shared_shares T.f_LookPrices_look T.f_LookPrices_change T.f_LookPrices_fall y0x w0r w0q w0p w0o y0w w0n s0u s0t s0s s0r w0m w0l s0q s0p s0o s0n w0k w0i s0l s0k s0j s0i w0h w0g s0h s0g s0f s0e w0f y0v w0d w0c w0b w0a y0u List.lookup_cons true_and".splitOn " ").toArray.map fun s=>Lean.mkIdent s.toName
 let args←ids.mapM fun i=>`(Lean.Parser.Tactic.simpLemma| $i:ident)
 `(tactic|simp only[reduceIte,↓reduceIte,$args,*])
local macro_rules | `(tactic|walk_at "ds")=>do
 let ids:=("n0b n0a Nat.reduceAdd Nat.reduceLT Nat.reduceLeDiff Nat.reduceSub Nat.zero_add u0j capt List.map_cons List.map_nil t0h List.getElem?_cons_zero List.getElem?_cons_succ List.set_cons_zero List.set_cons_succ List.length_cons List.length_nil List.lookup_cons if_true if_false Bool.false_eq_true Bool.not_true Bool.not_false decide_eq_true_eq if_pos ite_true ite_false true_and and_true List.cons_append List.nil_append T.cl_Shared.cl T.cl_LookPrices.cl T.f_Shared_full T.f_Shared_mark T.f_Shared_shares T.f_LookPrices_look T.f_LookPrices_change T.f_LookPrices_fall y0x w0r w0q w0p w0o y0w w0n s0u s0t s0s s0r w0m w0l s0q s0p s0o s0n w0k w0i s0l s0k s0j s0i w0h w0g s0h s0g s0f s0e w0f y0v w0d w0c w0b w0a y0u q0m q0b q0a p0z p0y s0v p0x m0w m0v m0u p0w p0v m0t m0s s0m w0j p0u m0r m0q m0p p0t p0s m0o m0n m0m w0e s0d p0r p0q p0p p0o".splitOn " ").toArray.map fun s=>Lean.mkIdent s.toName
 let jds:=("k0q e0b a0j t2Cont k0p e0a t2RetN d0z h0c d0y k0n d0x o0e k0m t2MV t2MV0 d0w h0b t2XFld o0d call_s k_int k_bl k_str k_non k_lst k_tup k_ins k_ref k_dwk k_dic x_nil x_cons u0e u0f d0u t2Exc1 t2Exc2 t2H0 t2H t2HAs t2Try noX asE d0t t2Is t2R1 t2R2 t2Comp t2OwnC q0k a0d t2C t2V h0i t0n e0k e0j t2Op t2B e0h t2And t2Or k0z t2OrV k0y t2If v0q t2Bi t2Un rdV hasV seqV mutV ixQ seqD addF addG sumF eqG neG t2Sl slF t2ON t2OI lrQ z1s t2LR z1r t2TR d0e sortIF d0k d0j v0n k0b q0h l7 t2BNil t2BV t2BO z1u tgD fI fI0 eqF neF eqD isNF notNF h0g isBF notBF ixF inF notInF lenF absF minF maxF intF listF o0f allF h0e subF mulF e0d modF powF ltF leF gtF geF repF g2N g2T t0l popM z1n maxLF strF addS addH k0a u0c t2MaxV neL d0a t2Vals c0z g0m t2EnuK s0y u0b u0a c0w g0d z1m t2PutD t2GetD t2IxD dicV t2VD t2DicV t2Keys g0n z1l t2LenD d0d g2L eqL eqRF z1k sumB j0y z1i".splitOn " ").toArray.map fun s=>Lean.mkIdent s.toName
 let a←ids.mapM fun i=>`(Lean.Parser.Tactic.simpLemma| $i:ident)
 let b←jds.mapM fun i=>`(Lean.Parser.Tactic.simpLemma| ↓ $i:ident)
 let args:=a++b
 `(tactic|simp -dsimp -failIfUnchanged only[reduceIte,↓reduceIte,$args,*])
section
variable{P:Program}{w:World}{K:PySem.W.Frag}{mg:Str→Option Value}{base:Heap}{cs:Cs}
noncomputable abbrev z0u:List Str:=["thing"]
theorem sc_is_number:FnScope ["thing"] z0u (defScope x0m):=⟨rfl,rfl,rfl,by decide +kernel,rfl,by decide +kernel,by decide +kernel⟩
noncomputable abbrev x0g(P:Program)(w:World)(K:PySem.W.Frag)(mg:Str→Option Value)(base:Heap)(cs:Cs):Prop:=Fun2 P w K mg base "is_number" 1 z0u q0c
theorem n0q{f:Addr}{fd:FuncData}(Df:DefAt K mg "is_number" x0m z0u f fd)(T:Txt K mg cs):x0g P w K mg base cs:=by
 have nd:=sc_is_number.nd;refine def2 Df sc_is_number (fun ds δ q x h=>?_) (fun cdv A outer s H E Y hr=>⟨_,(l3 (o4 (k0w (e2_b t0p (h0d (K:=K)) T.n_isinstance j9 (u0 (e2_v 0) (u0 (e0l "int" T.n_int h0n) o0))) (k0x (e2_not (e2_b t0p (h0d (K:=K)) T.n_isinstance j9 (u0 (e2_v 0) (u0 (e0l "bool" T.n_bool a0t) o0)))))))),fun ds δ q x h=>?_⟩)
 ·unfold q0c at h;split at h
  ·rfl
  ·exact h.elim
 ·unfold q0c at h;split at h;rotate_left
  ·exact h.elim
  rename_i d;obtain ⟨hd,hq⟩:=h;rw[show v4 ["thing"] _=[.val _]from rfl];obtain ⟨t1,t2⟩:=k0j (K:=K) hd;walk_at "dl";simp only[a0c K t1 t2,ko_int K t1 t2,t1,true_and];cases d<;>first |cases hd |skip
  all_goals (walk_at "dl";exact hq)
noncomputable abbrev y0j:List Str:=["thing","least","most"]
theorem sc_is_whole:FnScope ["thing","least","most"] y0j (defScope v0l):=⟨rfl,rfl,rfl,by decide +kernel,rfl,by decide +kernel,by decide +kernel⟩
noncomputable abbrev d6(P:Program)(w:World)(K:PySem.W.Frag)(mg:Str→Option Value)(base:Heap)(cs:Cs):Prop:=Fun2 P w K mg base "is_whole" 2 y0j v0a
theorem m0l{f:Addr}{fd:FuncData}(Df:DefAt K mg "is_whole" v0l y0j f fd)(T:Txt K mg cs)(G_is_number:x0g P w K mg base cs):d6 P w K mg base cs:=by
 have nd:=sc_is_whole.nd;refine def2 Df sc_is_whole (fun ds δ q x h=>?_) (fun cdv A outer s H E Y hr=>⟨_,(l3 (o4 (k0w (u3 G_is_number (hr.mono (by decide)) r0 (u0 (e2_v 0) o0)) (k0x (e0f f0b f0b d_le d_le (e2_v 1) (e2_v 0) (e2_v 2)))))),fun ds δ q x h=>?_⟩)
 ·unfold v0a at h;split at h
  ·rfl
  ·exact h.elim
 ·unfold v0a at h;split at h;rotate_left
  ·exact h.elim
  rename_i d lo hi;obtain ⟨hd,hq⟩:=h;rw[show v4 ["thing","least","most"] _=[.val _,.val _,.val _]from rfl];walk_at "dl";simp only[q0c,hd,true_and];cases d<;>first |cases hd |skip
  all_goals first |(simp only[f0x];walk_at "dl";exact hq)|(simp only[f0x];walk_at "dl")
  simp only[i4]at hq;split
  ·rename_i h1;rw[decide_eq_true h1,Bool.true_and]at hq;exact hq
  ·rename_i h1;rw[decide_eq_false h1,Bool.false_and]at hq;exact hq
noncomputable abbrev y0i:List Str:=["_law_script","_law_k"]
theorem sc_law_cell:FnScope ["_law_script","_law_k"] y0i (defScope v0h):=⟨rfl,rfl,rfl,by decide +kernel,rfl,by decide +kernel,by decide +kernel⟩
noncomputable abbrev y0h(P:Program)(w:World)(K:PySem.W.Frag)(mg:Str→Option Value)(base:Heap)(cs:Cs):Prop:=Fun2 P w K mg base "_law_cell" 2 y0i g0b
theorem m0k{f:Addr}{fd:FuncData}(Df:DefAt K mg "_law_cell" v0h y0i f fd)(T:Txt K mg cs):y0h P w K mg base cs:=by
 have nd:=sc_law_cell.nd;refine def2 Df sc_law_cell (fun ds δ q x h=>?_) (fun cdv A outer s H E Y hr=>⟨_,(o3 (i8 (b7 (z0h hr.units0) u0i (u9 0 T.n_len) y3 (b5 _)) (l3 (o4 (y4 p4 b4 (y4 d4 z6 y3 (e2_v 1)) y3))) w6)
  (l3 (o4 (e2_b e0y d_abs T.n_abs bt_abs (u0 (l4 0 (y4 r0f j0c (e2_v 1) (u9 0 T.n_len))) o0))))),fun ds δ q x h=>?_⟩)
 ·unfold g0b at h;obtain ⟨ns,k,rfl,hk,hq⟩:=h;rfl
 ·unfold g0b at h;obtain ⟨ns,k,rfl,hk,hq⟩:=h;rw[show v4 ["_law_script","_law_k"] _=[.val _,.val _]from rfl];walk_at "dl";simp only[List.length_map];split
  ·rename_i h0;exact ⟨.inl ⟨by decide,by decide⟩,hq _ (by omega)⟩
  ·rename_i h0;have hlen:0<ns.length:=by omega
   refine ⟨by omega,?_⟩;obtain ⟨v,hat,hv⟩:=a0s (xs:=ns.map D.int) (k:=k) (by rw[List.length_map];exact hlen);rw[List.length_map]at hat
   obtain ⟨z,_,rfl⟩:=List.mem_map.mp hv;rw[hat];dsimp only;exact hq _ (by split<;>omega)
noncomputable abbrev y0g:List Str:=["_law_script","_law_k","_law_many"]
theorem sc_law_draw:FnScope ["_law_script","_law_k","_law_many","_law_a"] y0g (defScope v0g):=⟨rfl,rfl,rfl,by decide +kernel,rfl,by decide +kernel,by decide +kernel⟩
noncomputable abbrev u0y(P:Program)(w:World)(K:PySem.W.Frag)(mg:Str→Option Value)(base:Heap)(cs:Cs):Prop:=Fun2 P w K mg base "_law_draw" 3 y0g g0a
theorem m0j{f:Addr}{fd:FuncData}(Df:DefAt K mg "_law_draw" v0g y0g f fd)(T:Txt K mg cs)(G_law_cell:y0h P w K mg base cs):u0y P w K mg base cs:=by
 have nd:=sc_law_draw.nd;refine def2 Df sc_law_draw (fun ds δ q x h=>?_) (fun cdv A outer s H E Y hr=>⟨_,(o3 (n4 3 nd (y4 r0f j0c (y4 p4 b4 (y4 p4 b4 (y4 d4 z6 (y4 r0f j0c (u3 G_law_cell (hr.mono (by decide)) r0 (u0 (e2_v 0) (u0 (e2_v 1) o0))) y3) y3) (y4 d4 z6 (y4 d4 z6 (e2_v 1) (e2_v 1)) y3)) y3) y3))
  (o3 (n4 3 nd (y4 r0f j0c (y4 p4 b4 (y4 p4 b4 (y4 d4 z6 (e2_v 3) (e2_v 3)) (y4 d4 z6 y3 (e2_v 3))) (y4 d4 z6 (e2_v 1) y3)) y3))
  (l3 (o4 (y4 r0f j0c (y4 n0f h0h (e2_v 3) y3) (e2_v 2)))))),fun ds δ q x h=>?_⟩)
 ·unfold g0a at h;obtain ⟨ns,k,m,rfl,hk,hk2,hm,hq⟩:=h;rfl
 ·unfold g0a at h;obtain ⟨ns,k,m,rfl,hk,hk2,hm,hq⟩:=h;rw[show v4 ["_law_script","_law_k","_law_many","_law_a"] _=[.val _,.val _,.val _,.no]from rfl];walk_at "dl";refine ⟨ns,k,rfl,hk,fun c hc=>?_⟩;have h1:=Int.emod_nonneg c (b:=1000003) (by decide);have h2:=Int.emod_lt_of_pos c (b:=1000003) (by decide);refine ⟨by decide,.inl ⟨by omega,by omega⟩,.inl ⟨by omega,by omega⟩,.inr ⟨by decide,by decide⟩,by decide,?_⟩;generalize c%1000003*48271+k*k*7919+101=z;have h3:=Int.emod_nonneg z (b:=2147483647) (by decide);have h4:=Int.emod_lt_of_pos z (b:=2147483647) (by decide);refine ⟨.inl ⟨by omega,by omega⟩,.inl ⟨by decide,by decide⟩,.inl ⟨by omega,by omega⟩,by decide,⟨by decide,by decide⟩,hm,hq _ (Int.emod_nonneg _ (by omega)) (Int.emod_lt_of_pos _ hm)⟩
noncomputable abbrev y0f:List Str:=["_law_script"]
theorem sc_law_deck:FnScope ["_law_script","_law_cell_here"] y0f (defScope v0f):=⟨rfl,rfl,rfl,by decide +kernel,rfl,by decide +kernel,by decide +kernel⟩
noncomputable abbrev u0x(P:Program)(w:World)(K:PySem.W.Frag)(mg:Str→Option Value)(base:Heap)(cs:Cs):Prop:=Fun2 P w K mg base "_law_deck" 3 y0f f0z
theorem m0i{f:Addr}{fd:FuncData}(Df:DefAt K mg "_law_deck" v0f y0f f fd)(T:Txt K mg cs)(G_law_cell:y0h P w K mg base cs):u0x P w K mg base cs:=by
 have nd:=sc_law_deck.nd;refine def2 Df sc_law_deck (fun ds δ q x h=>?_) (fun cdv A outer s H E Y hr=>⟨_,(o3 (n4 1 nd (u3 G_law_cell (hr.mono (by decide)) r0 (u0 (e2_v 0) (u0 y3 o0))))
  (l3 (d0s (u0 (e2_v 0) (u0 (y4 d4 z6 (e2_v 1) (j0d o0w d_int T.n_int h0n (u0 (r0b op_ge d_ge (e2_v 1) (y4 op_pow d_pow y3 y3) (b5 _)) o0))) (u0 y3 o0)))))),fun ds δ q x h=>?_⟩)
 ·unfold f0z at h;obtain ⟨ns,rfl,rfl,hq⟩:=h;rfl
 ·unfold f0z at h;obtain ⟨ns,rfl,rfl,hq⟩:=h;rw[show v4 ["_law_script","_law_cell_here"] _=[.val _,.no]from rfl];walk_at "dl";refine ⟨ns,0,rfl,by decide,fun c hc=>?_⟩;refine ⟨⟨by decide,by decide,by decide⟩,.inr ⟨by split<;>decide,by split<;>decide⟩,rfl,fun p=>hq p _ ⟨_,_,rfl,?_,by decide,by decide⟩⟩;split<;>omega
noncomputable abbrev y0e:List Str:=["_law_deck_here","_law_many"]
theorem sc_law_take:FnScope ["_law_deck_here","_law_many","_law_digit"] y0e (defScope v0e):=⟨rfl,rfl,rfl,by decide +kernel,rfl,by decide +kernel,by decide +kernel⟩
noncomputable abbrev a6(P:Program)(w:World)(K:PySem.W.Frag)(mg:Str→Option Value)(base:Heap)(cs:Cs):Prop:=Fun2 P w K mg base "_law_take" 4 y0e f0y
theorem m0h{f:Addr}{fd:FuncData}(Df:DefAt K mg "_law_take" v0e y0e f fd)(T:Txt K mg cs)(G_law_draw:u0y P w K mg base cs):a6 P w K mg base cs:=by
 have nd:=sc_law_take.nd;refine def2 Df sc_law_take (fun ds δ q x h=>?_) (fun cdv A outer s H E Y hr=>⟨_,(o3 (i8 (b7 i0f d_gt (l4 0 y3) y3 (b5 _)) (o3 (n4 2 nd (y4 r0f j0c (l4 0 y3) (e2_v 1)))
  (o3 (x0q 0 y3 (y4 n0f h0h (l4 0 y3) (e2_v 1)))
  (l3 (o4 (e2_v 2))))) w6)
  (o3 (x0q 0 y3 (y4 p4 b4 (l4 0 y3) y3))
  (l3 (o4 (u3 G_law_draw (hr.mono (by decide)) r0 (u0 (l4 0 y3) (u0 (l4 0 y3) (u0 (e2_v 1) o0)))))))),fun ds δ q x h=>?_⟩)
 ·unfold f0y at h;obtain ⟨p,ns,n,m,rfl,hD,hn,hm,hm2,hq⟩:=h;rfl
 ·unfold f0y at h;obtain ⟨p,ns,n,m,rfl,hD,hn,hm,hm2,hq⟩:=h;rw[show v4 ["_law_deck_here","_law_many","_law_digit"] _=[.val _,.val _,.no]from rfl];obtain ⟨c,k,rfl,hc,hk,hkn⟩:=hD;walk_at "dl";split
  ·exact ⟨hm,⟨hm,by omega⟩,hq _ _ (Int.emod_nonneg _ (by omega)) (Int.emod_lt_of_pos _ hm) ⟨_,_,rfl,Int.ediv_nonneg hc (by omega),hk,by omega⟩⟩
  ·exact ⟨ns,k+1,m,rfl,by omega,by omega,hm,fun r h1 h2=>hq _ _ h1 h2 ⟨_,_,rfl,hc,by omega,by omega⟩⟩
theorem n8{i lo hi:Int}(h1:lo≤i)(h2:i≤hi):i4 (.int i) lo hi=true:=by show (decide (lo≤i)&&decide (i≤hi))=true;rw[decide_eq_true h1,decide_eq_true h2];rfl
theorem whole_f{i lo hi:Int}(h:i<lo∨hi<i):i4 (.int i) lo hi=false:=by
 show (decide (lo≤i)&&decide (i≤hi))=false;rw[Bool.and_eq_false_iff];rcases h with h |h
 ·exact .inl (decide_eq_false (by omega))
 ·exact .inr (decide_eq_false (by omega))
noncomputable abbrev t0z:List Str:=["thing"]
theorem sc_is_row:FnScope ["thing"] t0z (defScope q0d):=⟨rfl,rfl,rfl,by decide +kernel,rfl,by decide +kernel,by decide +kernel⟩
noncomputable abbrev p0n(P:Program)(w:World)(K:PySem.W.Frag)(mg:Str→Option Value)(base:Heap)(cs:Cs):Prop:=Fun2 P w K mg base "is_row" 2 t0z c0v
theorem f0v{f:Addr}{fd:FuncData}(Df:DefAt K mg "is_row" q0d t0z f fd)(T:Txt K mg cs):p0n P w K mg base cs:=by
 have nd:=sc_is_row.nd;refine def2 Df sc_is_row (fun ds δ q x h=>?_) (fun cdv A outer s H E Y hr=>⟨_,(l3 (o4 (e2_b t0p (h0d (K:=K)) T.n_isinstance j9 (u0 (e2_v 0) (u0 (u0p (u0 (e0l "list" T.n_list h0m) (u0 (e0l "tuple" T.n_tuple w0x) o0))) o0))))),fun ds δ q x h=>?_⟩)
 ·unfold c0v at h;split at h
  ·rfl
  ·exact h.elim
 ·unfold c0v at h;split at h;rotate_left
  ·exact h.elim
  rename_i d;obtain ⟨hd,hq⟩:=h;rw[show v4 ["thing"] _=[.val _]from rfl];obtain ⟨t1,t2⟩:=k0j (K:=K) hd;walk_at "dl";simp only[ko_row K t1 t2,t1,true_and];cases d
  all_goals first |exact hq |cases hd
noncomputable abbrev o7:List Str:=["thing","shortest","longest","least","most"]
theorem sc_is_whole_row:FnScope ["thing","shortest","longest","least","most"] o7 (defScope q9):=⟨rfl,rfl,rfl,by decide +kernel,rfl,by decide +kernel,by decide +kernel⟩
noncomputable abbrev m7(P:Program)(w:World)(K:PySem.W.Frag)(mg:Str→Option Value)(base:Heap)(cs:Cs):Prop:=Fun2 P w K mg base "is_whole_row" 3 o7 j0x
theorem s0c{f:Addr}{fd:FuncData}(Df:DefAt K mg "is_whole_row" q9 o7 f fd)(T:Txt K mg cs)(G_is_row:p0n P w K mg base cs)(G_is_whole:d6 P w K mg base cs):m7 P w K mg base cs:=by
 have nd:=sc_is_whole_row.nd;refine def2 Df sc_is_whole_row (fun ds δ q x h=>?_) (fun cdv A outer s H E Y hr=>⟨_,(o3 (i8 (PW2.pt (e0g (z0d (x0v (u3 G_is_row (hr.mono (by decide)) r0 (u0 (e2_v 0) o0)))) (l0a (z0d (e0e f0b f0b d_le d_le (e2_v 1) (u9 0 T.n_len) (e2_v 2)))))) (l3 (o4 j0e)) w6)
  (l3 (o4 (e2_b (e0q rfl) d_all T.n_all bt_all (u0 (w0t rfl (CompOkM.of ["entry"] [3,4] rfl) (k0k (e2_v 0)) (fun nd _ _ _ _ _=>(m4 (i:=0) nd rfl (by first |exact Or.inl rfl |exact Or.inr rfl))) f8 (fun _ _ _ _ _ _=>r9) (fun _ _ _ _ _ _=>(u3 G_is_whole (hr.mono (by decide)) r0a (u0 (e2_v 0) (u0 (e2_v 1) (u0 (e2_v 2) o0)))))) o0))))),fun ds δ q x h=>?_⟩)
 ·unfold j0x at h;split at h
  ·rfl
  ·exact h.elim
 ·unfold j0x at h;split at h;rotate_left
  ·exact h.elim
  rename_i d a b lo hi;obtain ⟨ht,hb,hq⟩:=h;rw[show v4 ["thing","shortest","longest","least","most"] _=[.val _,.val _,.val _,.val _,.val _]from rfl];have hp:a5 d=true:=by unfold o8 at ht;rw[Bool.and_eq_true]at ht;exact ht.1
  walk_at "dl";simp only[c0v,hp,true_and];cases e:rowD d with
  |none=>
   have e1:n0r d=false:=by unfold n0r;rw[e];rfl
   have e2:u0z d a b lo hi=false:=by unfold u0z;rw[e]
   rw[e2]at hq;simp only[e1,Bool.not_false,if_true];exact hq
  |some xs=>
   have e1:n0r d=true:=by unfold n0r;rw[e];rfl
   have e3:seqD d=some xs:=by cases d<;>first |(cases e;rfl)|cases e
   have hx:∀x∈xs,a5 x=true:=by
    unfold o8 at ht;rw[Bool.and_eq_true,e]at ht;exact List.all_eq_true.mp ht.2
   unfold u0z at hq;rw[e]at hq;dsimp only at hq;simp only[e1,Bool.not_true,Bool.false_eq_true,if_false];have main:∀ ρ:En,ρ[3]?=some (.val (.int lo))→ρ[4]?=some (.val (.int hi))→(xs.length:Int)≤b→q (.bl (xs.all (i4 · lo hi))) δ→x0o (t0k v0a (t0n (t2V 0) (t0n (t2V 1) (t0n (t2V 2) h0i)))) [3,4] ρ
    (fun acc δ2=>match blsD acc with |some bs=>q (D.bl (bs.all id)) δ2 |none=>False) xs [] δ:=by
    intro ρ r3 r4 hlen hq;refine u0d (fun i acc δ'=>acc=(xs.take i).map (fun z=>D.bl (i4 z lo hi))∧δ'=δ) ⟨rfl,rfl⟩ ?_ ?_
    ·rintro i z acc δ' rest hi ⟨rfl,rfl⟩ hrest;have hl:=(List.getElem?_eq_some_iff.mp hi).1;simp only[capt,u0j,List.map_cons,List.map_nil,r3,r4];walk_at "dl";simp only[v0a,hx z (List.mem_of_getElem? hi),true_and];refine ⟨by rw[List.length_map,List.length_take];omega,hrest _ _ ⟨?_,rfl⟩⟩;rw[List.take_succ,hi,List.map_append];rfl
    ·rintro acc δ' ⟨rfl,rfl⟩;rw[List.take_length,f0w];have:(xs.map fun z=>i4 z lo hi).all id=xs.all (i4 · lo hi):=by rw[List.all_map];rfl
     dsimp only;rw[this];exact hq
   cases d<;>first |(cases e;done)|skip
   all_goals
    cases e;dsimp only;split
    ·rename_i h1;split
     ·rename_i h2;rw[Bool.not_eq_true',decide_eq_false_iff_not]at h2;rw[decide_eq_true h1,decide_eq_false h2]at hq;exact hq
     ·rename_i h2;rw[Bool.not_eq_true',decide_eq_false_iff_not,Decidable.not_not]at h2;rw[decide_eq_true h1,decide_eq_true h2]at hq;exact main _ rfl rfl h2 hq
    ·rename_i h1;rw[decide_eq_false h1]at hq;exact hq
theorem m9{d:D}{lo hi:Int}(h:i4 d lo hi=true):∃i,d=.int i∧lo≤i∧i≤hi:=by
 cases d with
 |int i=>unfold i4 at h;rw[Bool.and_eq_true,decide_eq_true_eq,decide_eq_true_eq]at h;exact ⟨i,rfl,h.1,h.2⟩
 |_=>cases h
theorem z0t{lo hi:Int}:∀{xs:List D},xs.all (i4 · lo hi)=true→∃ns:List Int,xs=ns.map D.int∧∀n∈ns,lo≤n∧n≤hi
 | [],_=>⟨[],rfl,fun n hn=>by cases hn⟩
 |d::xs,h=>by
  rw[List.all_cons,Bool.and_eq_true]at h;obtain ⟨i,rfl,h1,h2⟩:=m9 h.1;obtain ⟨ns,rfl,hn⟩:=z0t h.2;refine ⟨i::ns,rfl,fun n m=>?_⟩;rcases List.mem_cons.mp m with rfl |m
  ·exact ⟨h1,h2⟩
  ·exact hn n m
noncomputable def m5(cs:Cs)(full mark:Int)(ws:List Int):D:=.ins cs.Shared [("full",.int full),("mark",.int mark),("shares",.tup (ws.map D.int))]
noncomputable def shD(d:D):Bool:=u0z d 1 4 0 9&&(match h8 ((rowD d).getD [])with |some ns=>!decide (ns.sum=0)|none=>true)
noncomputable def s0b(cs:Cs):Sp2:=fun ds δ q x=>match ds with
 | [a,m,w]=>(o8 a&&o8 m&&o8 w)=true∧(if i4 a 1 6=true then (match a with
  | .int i=>if i4 m 0 i=true then (if shD w=true then q (.ins cs.Shared [("full",a),("mark",m),("shares",.tup ((rowD w).getD []))]) δ else x cs.NoPart [("at",.int 2)] δ)else x cs.NoPart [("at",.int 1)] δ
  |_=>False)else x cs.NoPart [("at",.int 0)] δ)
 |_=>False
theorem sc_Shared_init:FnScope ["self","full","mark","shares"] ["self","full","mark","shares"] (defScope z0v):=⟨rfl,rfl,rfl,by decide +kernel,rfl,by decide +kernel,by decide +kernel⟩
theorem r0n{f:Addr}{fd:FuncData}(Fn:Fun K "__init__" "Shared.__init__" z0v f fd)(M:Mk K cs.Shared f)(bd:Binds K fd ["self","full","mark","shares"] [])(T:Txt K mg cs)(G_is_whole:d6 P w K mg base cs)(G_is_whole_row:m7 P w K mg base cs)(M_NoPart:MkE P w K mg base "NoPart" cs.NoPart 1 ["self","at"] (spXI cs.NoPart "at")):Make2 P w K mg base "Shared" 4 (s0b cs):=by
 have nd:=sc_Shared_init.nd;refine init2 Fn M T.c_Shared bd sc_Shared_init (fun ds δ q x h=>?_) (fun cdv A outer s H E Y hr=>⟨_,(o3 (i8 (z0d (x0v (u3 G_is_whole (hr.mono (by decide)) r0 (u0 (e2_v 1) (u0 y3 (u0 y3 o0)))))) (l3 (w0w rfl r0 M_NoPart (hr.mono (by decide)) (u0 y3 o0))) w6)
  (o3 (i8 (z0d (x0v (u3 G_is_whole (hr.mono (by decide)) r0 (u0 (e2_v 2) (u0 y3 (u0 (e2_v 1) o0)))))) (l3 (w0w rfl r0 M_NoPart (hr.mono (by decide)) (u0 y3 o0))) w6)
  (o3 (i8 (PW2.pt (e0g (z0d (x0v (u3 G_is_whole_row (hr.mono (by decide)) r0 (u0 (e2_v 3) (u0 y3 (u0 y3 (u0 y3 (u0 y3 o0)))))))) (l0a (b7 (z0h hr.units0) u0i (e2_b (e8 rfl) z1t T.n_sum u0o (u0 (e2_v 3) o0)) y3 (b5 _))))) (l3 (w0w rfl r0 M_NoPart (hr.mono (by decide)) (u0 y3 o0))) w6)
  (o3 (y0m K 0 (e2_v 1))
  (o3 (y0m K 0 (e2_v 2))
  (l3 (y0m K 0 (j0d a7 q0n T.n_tuple w0x (u0 (e2_v 3) o0))))))))),fun ds δ q x h=>?_⟩)
 ·unfold s0b at h;split at h
  ·rfl
  ·exact h.elim
 ·unfold s0b at h;split at h;rotate_left
  ·exact h.elim
  rename_i a m v;rw[show v4 ["full","mark","shares"] _=[.val _,.val _,.val _]from rfl];obtain ⟨ht,hq⟩:=h;simp only[Bool.and_eq_true]at ht;obtain ⟨⟨ta,tm⟩,tv⟩:=ht;have pl:∀{d:D},o8 d=true→a5 d=true:=fun {d} h=>by unfold o8 at h;rw[Bool.and_eq_true]at h;exact h.1
  walk_at "dl";simp only[v0a,pl ta,true_and];cases ea:i4 a 1 6 with
  |false=>
   rw[ea]at hq;simp only[Bool.not_false,if_true];exact hq
  |true=>
   rw[ea]at hq;obtain ⟨i,rfl,i1,i2⟩:=m9 ea;simp only[Bool.not_true,Bool.false_eq_true,if_false,pl tm,true_and,j0x,tv,if_true]at hq ⊢;cases em:i4 m 0 i with
   |false=>
    rw[em]at hq;simp only[Bool.not_false,if_true];exact hq
   |true=>
    rw[em]at hq;simp only[Bool.not_true,Bool.false_eq_true,if_false,if_true]at hq ⊢;refine ⟨by decide,?_⟩;unfold shD at hq;cases ev:u0z v 1 4 0 9 with
    |false=>
     rw[ev]at hq;simp only[Bool.not_false,if_true];exact hq
    |true=>
     rw[ev,Bool.true_and]at hq;have hv:∃ns:List Int,(v=.lst (ns.map D.int)∨v=.tup (ns.map D.int))∧fewD ns:=by
      unfold u0z at ev;cases er:rowD v with
      |none=>rw[er]at ev;cases ev
      |some xs=>
       rw[er]at ev;simp only[Bool.and_eq_true,decide_eq_true_eq]at ev;obtain ⟨ns,rfl,hn⟩:=z0t ev.2;refine ⟨ns,?_,?_,fun n m=>?_⟩
       ·cases v<;>first |(cases er;exact .inl rfl)|(cases er;exact .inr rfl)|cases er
       ·have:=ev.1.2;rw[List.length_map]at this;omega
       ·have:=hn n m;omega
     obtain ⟨ns,hv,hf⟩:=hv;simp only[Bool.not_true,Bool.false_eq_true,if_false];rcases hv with rfl |rfl
     all_goals
      simp only[rowD,Option.getD_some,l5]at hq ⊢;refine ⟨hf,?_⟩;by_cases hs:ns.sum=0
      ·rw[decide_eq_true hs]at hq;simp only[hs,decide_true,if_true];exact hq
      ·rw[decide_eq_false hs]at hq;simp only[hs,decide_false,Bool.false_eq_true,if_false];simp only[Bool.not_false,if_true]at hq;simp only[T.cl_Shared.cl,T.f_Shared_full,T.f_Shared_mark,T.f_Shared_shares,q0m,s0m,w0j,w0e,if_false,List.length_cons,List.length_nil,true_and]
       repeat (first |exact ⟨_,rfl,hq⟩|(refine ⟨by decide,?_⟩))
noncomputable def m0g(cs:Cs):Sp2:=fun ds δ q _=>∃full mark ws,ds=[m5 cs full mark ws]∧fewD ws∧q (.int ws.sum) δ
noncomputable abbrev y0d:List Str:=["part"]
theorem sc_total_of:FnScope ["part"] y0d (defScope v0j):=⟨rfl,rfl,rfl,by decide +kernel,rfl,by decide +kernel,by decide +kernel⟩
noncomputable abbrev u0w(P:Program)(w:World)(K:PySem.W.Frag)(mg:Str→Option Value)(base:Heap)(cs:Cs):Prop:=Fun2 P w K mg base "total_of" 2 y0d (m0g cs)
theorem m0f{f:Addr}{fd:FuncData}(Df:DefAt K mg "total_of" v0j y0d f fd)(T:Txt K mg cs):u0w P w K mg base cs:=by
 have nd:=sc_total_of.nd;refine def2 Df sc_total_of (fun ds δ q x h=>?_) (fun cdv A outer s H E Y hr=>⟨_,(l3 (o4 (e2_b (e8 rfl) z1t T.n_sum u0o (u0 (j5 K (e2_v 0)) o0)))),fun ds δ q x h=>?_⟩)
 ·unfold m0g at h;obtain ⟨full,mark,ws,rfl,hf,hq⟩:=h;rfl
 ·unfold m0g at h;obtain ⟨full,mark,ws,rfl,hf,hq⟩:=h;rw[show v4 ["part"] _=[.val _]from rfl];walk_at "dn"
  (try simp only[m5];walk_at "fl")
  simp only[seqD,l5];exact ⟨hf,hq⟩
noncomputable def s0a(cs:Cs):Sp2:=fun ds δ q _=>∃full mark ws d,ds=[m5 cs full mark ws,d]∧a5 d=true∧q (.bl (i4 d mark full)) δ
noncomputable def y0t(cs:Cs):Sp2:=fun ds δ q x=>∃full mark ws d,ds=[m5 cs full mark ws,d]∧a5 d=true∧(i4 d mark full=true→q .non δ)∧(i4 d mark full=false→x cs.NoStands [] δ)
noncomputable abbrev y0c:List Str:=["part","thing"]
theorem sc_is_stand:FnScope ["part","thing"] y0c (defScope v0k):=⟨rfl,rfl,rfl,by decide +kernel,rfl,by decide +kernel,by decide +kernel⟩
noncomputable abbrev u0v(P:Program)(w:World)(K:PySem.W.Frag)(mg:Str→Option Value)(base:Heap)(cs:Cs):Prop:=Fun2 P w K mg base "is_stand" 3 y0c (s0a cs)
theorem m0e{f:Addr}{fd:FuncData}(Df:DefAt K mg "is_stand" v0k y0c f fd)(T:Txt K mg cs)(G_is_whole:d6 P w K mg base cs):u0v P w K mg base cs:=by
 have nd:=sc_is_stand.nd;refine def2 Df sc_is_stand (fun ds δ q x h=>?_) (fun cdv A outer s H E Y hr=>⟨_,(l3 (o4 (u3 G_is_whole (hr.mono (by decide)) r0 (u0 (e2_v 1) (u0 (j5 K (e2_v 0)) (u0 (j5 K (e2_v 0)) o0)))))),fun ds δ q x h=>?_⟩)
 ·unfold s0a at h;obtain ⟨full,mark,ws,d,rfl,hd,hq⟩:=h;rfl
 ·unfold s0a at h;obtain ⟨full,mark,ws,d,rfl,hd,hq⟩:=h;rw[show v4 ["part","thing"] _=[.val _,.val _]from rfl];walk_at "dl"
  (try simp only[m5];walk_at "fl")
  exact ⟨hd,hq⟩
noncomputable abbrev z8:List Str:=["part","stand"]
theorem sc_check_stand:FnScope ["part","stand"] z8 (defScope b9):=⟨rfl,rfl,rfl,by decide +kernel,rfl,by decide +kernel,by decide +kernel⟩
noncomputable abbrev z0s(P:Program)(w:World)(K:PySem.W.Frag)(mg:Str→Option Value)(base:Heap)(cs:Cs):Prop:=Fun2 P w K mg base "check_stand" 4 z8 (y0t cs)
theorem r0m{f:Addr}{fd:FuncData}(Df:DefAt K mg "check_stand" b9 z8 f fd)(T:Txt K mg cs)(G_is_stand:u0v P w K mg base cs):z0s P w K mg base cs:=by
 have nd:=sc_check_stand.nd;refine def2 Df sc_check_stand (fun ds δ q x h=>?_) (fun cdv A outer s H E Y hr=>⟨_,(l3 (i8 (z0d (x0v (u3 G_is_stand (hr.mono (by decide)) r0 (u0 (e2_v 0) (u0 (e2_v 1) o0))))) (l3 (t0i rfl r0 T.k_NoStands T.x_NoStands T.c_NoStands)) w6)),fun ds δ q x h=>?_⟩)
 ·unfold y0t at h;obtain ⟨full,mark,ws,d,rfl,hd,hq,hx⟩:=h;rfl
 ·unfold y0t at h;obtain ⟨full,mark,ws,d,rfl,hd,hq,hx⟩:=h;rw[show v4 ["part","stand"] _=[.val _,.val _]from rfl];walk_at "dl";refine ⟨full,mark,ws,d,rfl,hd,?_⟩;cases e:i4 d mark full with
  |true=>exact hq e
  |false=>exact hx e
noncomputable def w0(full mark stand:Int):List Int:=(List.range (full-mark+1).toNat).map fun (j:Nat)=>if mark+(j:Int)=stand then 1 else 0
noncomputable def spW0(cs:Cs):Sp2:=fun ds δ q _=>∃full mark ws stand,ds=[m5 cs full mark ws,.int stand]∧0≤mark∧mark≤full∧full≤6∧q (.tup ((w0 full mark stand).map D.int)) δ
noncomputable abbrev a8:List Str:=["part","stand"]
theorem sc_weights_of:FnScope ["part","stand"] a8 (defScope z0c):=⟨rfl,rfl,rfl,by decide +kernel,rfl,by decide +kernel,by decide +kernel⟩
noncomputable abbrev v6(P:Program)(w:World)(K:PySem.W.Frag)(mg:Str→Option Value)(base:Heap)(cs:Cs):Prop:=Fun2 P w K mg base "weights_of" 2 a8 (spW0 cs)
theorem p0m{f:Addr}{fd:FuncData}(Df:DefAt K mg "weights_of" z0c a8 f fd)(T:Txt K mg cs):v6 P w K mg base cs:=by
 have nd:=sc_weights_of.nd;refine def2 Df sc_weights_of (fun ds δ q x h=>?_) (fun cdv A outer s H E Y hr=>⟨_,(l3 (o4 (j0d a7 q0n T.n_tuple w0x (u0 (w0t rfl (CompOkM.of ["at"] [1] rfl) (o0c T.n_range (u0 (j5 K (e2_v 0)) (u0 (y4 p4 b4 (j5 K (e2_v 0)) y3) o0))) (fun nd _ _ _ _ _=>(m4 (i:=0) nd rfl (by first |exact Or.inl rfl |exact Or.inr rfl))) f8 (fun _ _ _ _ _ _=>r9) (fun _ _ _ _ _ _=>(e2_if (b7 (z0h hr.units0) u0i (e2_v 0) (e2_v 1) (b5 _)) y3 y3))) o0)))),fun ds δ q x h=>?_⟩)
 ·unfold spW0 at h;obtain ⟨full,mark,ws,stand,rfl,h0,h1,h2,hq⟩:=h;rfl
 ·unfold spW0 at h;obtain ⟨full,mark,ws,stand,rfl,h0,h1,h2,hq⟩:=h;rw[show v4 ["part","stand"] _=[.val _,.val _]from rfl];walk_at "dn"
  (try simp only[m5];walk_at "fl")
  refine ⟨by omega,?_⟩;refine u0d (fun i acc δ'=>acc=((List.range i).map fun (j:Nat)=>if mark+(j:Int)=stand then (1:Int)else 0).map D.int∧δ'=δ) ⟨rfl,rfl⟩ ?_ ?_
  ·rintro i z acc δ' rest hi ⟨rfl,rfl⟩ hrest;obtain ⟨hi2,rfl⟩:=w0v hi;simp only[capt,u0j,List.map_cons,List.map_nil,List.getElem?_cons_zero,List.getElem?_cons_succ];walk_at "dn";have step:∀v:Int,v=(if mark+(i:Int)=stand then (1:Int)else 0)→((((List.range i).map fun (j:Nat)=>if mark+(j:Int)=stand then (1:Int)else 0).map D.int).length<1000∧rest (((List.range i).map fun (j:Nat)=>if mark+(j:Int)=stand then (1:Int)else 0).map D.int++[.int v]) δ'):=by
    rintro v rfl;refine ⟨by rw[List.length_map,List.length_map,List.length_range];omega,hrest _ _ ⟨?_,rfl⟩⟩;rw[List.range_succ,List.map_append,List.map_append];rfl
   split
   ·rename_i hh;exact step 1 (by rw[if_pos hh])
   ·rename_i hh;exact step 0 (by rw[if_neg hh])
  ·rintro acc δ' ⟨rfl,rfl⟩;rw[i5];have e:(full+1-mark).toNat=(full-mark+1).toNat:=by omega
   rw[e];exact hq
noncomputable def m3:Nat→(Nat→Int)→Int
 | 0,_=>0
 |n+1,f=>m3 n f+f n
theorem j4{f g:Nat→Int}:∀{n:Nat},(∀i,i<n→f i=g i)→m3 n f=m3 n g
 | 0,_=>rfl
 |n+1,e=>by
  show m3 n f+f n=m3 n g+g n;rw[j4 fun i hi=>e i (Nat.lt_succ_of_lt hi),e n (Nat.lt_succ_self n)]
theorem n6{f g:Nat→Int}:∀n,m3 n (fun i=>f i+g i)=m3 n f+m3 n g
 | 0=>rfl
 |n+1=>by
  show m3 n (fun i=>f i+g i)+(f n+g n)=(m3 n f+f n)+(m3 n g+g n);rw[n6 n];omega
theorem m8{f:Nat→Int}{c:Int}:∀n,m3 n (fun i=>c*f i)=c*m3 n f
 | 0=>by simp[m3]
 |n+1=>by
  show m3 n (fun i=>c*f i)+c*f n=c*(m3 n f+f n);rw[m8 n,Int.mul_add]
theorem u0u{f:Nat→Int}{c:Int}(n:Nat):m3 n (fun i=>f i*c)=m3 n f*c:=by
 rw[Int.mul_comm,← m8];exact j4 fun i _=>Int.mul_comm _ _
theorem z7:∀n,m3 n (fun _=>0)=0
 | 0=>rfl
 |n+1=>by show m3 n (fun _=>0)+0=0;rw[z7 n];rfl
theorem r0z{f:Nat→Int}{k:Nat}:∀{n:Nat},k<n→m3 n (fun i=>if i=k then f i else 0)=f k
 |n+1,h=>by
  show m3 n (fun i=>if i=k then f i else 0)+(if n=k then f n else 0)=f k;by_cases e:n=k
  ·subst e;rw[if_pos rfl,j4 (g:=fun _=>0) fun i hi=>if_neg (by omega),z7];omega
  ·rw[if_neg e,r0z (by omega:k<n)];omega
theorem r0y{f:Nat→Int}:∀n,m3 (n+1) f=f 0+m3 n fun i=>f (i+1)
 | 0=>by show (0:Int)+f 0=f 0+0;omega
 |n+1=>by
  show m3 (n+1) f+f (n+1)=f 0+(m3 n (fun i=>f (i+1))+f (n+1));rw[r0y n];omega
theorem r0x:∀xs:List Int,xs.sum=m3 xs.length fun i=>xs.getD i 0
 | []=>rfl
 |a::xs=>by
  rw[List.sum_cons,List.length_cons,r0y,r0x xs];rfl
theorem q0w{f:Nat→Nat→Int}{m:Nat}:∀n,m3 n (fun i=>m3 m (f i))=m3 m fun j=>m3 n fun i=>f i j
 | 0=>(z7 m).symm
 |n+1=>by
  show m3 n (fun i=>m3 m (f i))+m3 m (f n)=m3 m fun j=>m3 n (fun i=>f i j)+f n j
  rw[q0w n,n6]
theorem v0z{f g:Nat→Int}:∀{n:Nat},(∀i,i<n→f i≤g i)→m3 n f≤m3 n g
 | 0,_=>Int.le_refl _
 |n+1,e=>by
  show m3 n f+f n≤m3 n g+g n;have:=v0z (n:=n) fun i hi=>e i (Nat.lt_succ_of_lt hi)
  have:=e n (Nat.lt_succ_self n);omega
theorem u4{f:Nat→Int}{n:Nat}(h:∀i,i<n→0≤f i):0≤m3 n f:=by
 have:=v0z (f:=fun _=>0) (g:=f) h;rw[z7]at this;exact this
theorem t0y{f:Nat→Int}{k:Nat}:∀{n:Nat},(∀i,i<n→0≤f i)→k<n→f k≤m3 n f
 |n+1,h,hk=>by
  show f k≤m3 n f+f n;have h1:=u4 (n:=n) fun i hi=>h i (Nat.lt_succ_of_lt hi)
  have h2:=h n (Nat.lt_succ_self n);by_cases e:k=n
  ·subst e;omega
  ·have:=t0y (n:=n) (fun i hi=>h i (Nat.lt_succ_of_lt hi)) (show k<n by omega);omega
noncomputable def r0l(j l:Nat):Option Nat:=if j<l then none else some (j-l)
noncomputable def GP(shs:List Int)(j:Nat)(x:Option Nat):Nat→Int
 | 0=>0
 |l+1=>GP shs j x l+(if r0l j l=x then shs.getD l 0 else 0)
theorem x0f{shs:List Int}{j l:Nat}{x:Option Nat}(h:r0l j l≠x):GP shs j x (l+1)=GP shs j x l:=by
 show GP shs j x l+_=_;rw[if_neg h];omega
theorem p0l{shs:List Int}{j l:Nat}{x:Option Nat}(h:r0l j l=x):GP shs j x (l+1)=GP shs j x l+shs.getD l 0:=by
 show GP shs j x l+_=_;rw[if_pos h]
noncomputable abbrev Wt:=Nat→Int
noncomputable def gS(shs:List Int)(j:Nat)(x:Option Nat):Int:=GP shs j x shs.length
noncomputable def bW(shs:List Int)(m:Nat)(w:Wt):Wt:=fun x=>m3 m fun j=>w j*gS shs j (some x)
noncomputable def fW(shs:List Int)(m:Nat)(w:Wt):Int:=m3 m fun j=>w j*gS shs j none
noncomputable def un(j:Nat):Wt:=fun x=>if x=j then 1 else 0
noncomputable def sc(c:Int)(w:Wt):Wt:=fun x=>c*w x
structure PrZ where
 look:Int
 change:Int
 fall:Int
section
variable(shs:List Int)(z:PrZ)(m:Nat)
noncomputable def o5(lz:Wt→Int)(n:Nat)(w:Wt):Int:=fW shs m w*(z.fall*shs.sum^n+lz (un (m-1)))+lz (bW shs m w)
noncomputable def chW(lz:Wt→Int)(n:Nat):Int:=z.change*shs.sum^(n+1)+o5 shs z m lz n (un (m-1))
noncomputable def z0r(lz:Wt→Int)(n:Nat)(w:Wt):Int:=m3 m w*z.look*shs.sum^(n+1)+m3 m fun a=>w a*min (o5 shs z m lz n (un a)) (chW shs z m lz n)
noncomputable def n3:Nat→Wt→Int
 | 0,_=>0
 |n+1,w=>min (o5 shs z m (n3 n) n w) (min (z0r shs z m (n3 n) n w) (m3 m w*chW shs z m (n3 n) n))
end
section
variable{shs:List Int}{z:PrZ}{m:Nat}
theorem bW_sc(c:Int)(w:Wt):bW shs m (sc c w)=sc c (bW shs m w):=by
 funext x;show m3 m (fun j=>c*w j*_)=c*m3 m _;rw[←m8];exact j4 fun i _=>Int.mul_assoc ..
theorem fW_sc(c:Int)(w:Wt):fW shs m (sc c w)=c*fW shs m w:=by
 show m3 m (fun j=>c*w j*_)=c*m3 m _;rw[←m8];exact j4 fun i _=>Int.mul_assoc ..
theorem m0d{lz:Wt→Int}{c:Int}(h:∀w,lz (sc c w)=c*lz w)(n:Nat)(w:Wt):o5 shs z m lz n (sc c w)=c*o5 shs z m lz n w:=by
 unfold o5;rw[fW_sc,bW_sc,h,Int.mul_add c,Int.mul_assoc]
theorem m0c{a b c:Int}(h:0≤c):min (c*a) (c*b)=c*min a b:=by
 rcases Int.le_total a b with e |e
 ·rw[Int.min_eq_left e,Int.min_eq_left (Int.mul_le_mul_of_nonneg_left e h)]
 ·rw[Int.min_eq_right e,Int.min_eq_right (Int.mul_le_mul_of_nonneg_left e h)]
theorem q0v(c:Int)(w:Wt):m3 m (sc c w)=c*m3 m w:=m8 m
theorem z1a{lz:Wt→Int}{c:Int}(n:Nat)(w:Wt):z0r shs z m lz n (sc c w)=c*z0r shs z m lz n w:=by
 unfold z0r;rw[q0v,Int.mul_add,Int.mul_assoc,Int.mul_assoc,← Int.mul_assoc (m3 m w),← m8 (c:=c)];congr 1;exact j4 fun i _=>Int.mul_assoc ..
theorem z0q{c:Int}(hc:0≤c):∀(n:Nat) (w:Wt),n3 shs z m n (sc c w)=c*n3 shs z m n w
 | 0,_=>(Int.mul_zero _).symm
 |n+1,w=>by
  unfold n3;rw[m0d (z0q hc n),z1a,q0v,Int.mul_assoc,m0c hc,m0c hc]
theorem y1z(n:Nat):n3 shs z m n (fun _=>0)=0:=by
 have:=z0q (shs:=shs) (z:=z) (m:=m) (Int.le_refl 0) n (fun _=>0);rw[show sc 0 (fun _=>0)=fun _=>0 from funext fun _=>Int.zero_mul _]at this;rw[this,Int.zero_mul]
structure PrOk(z:PrZ):Prop where
 l:0≤z.look∧z.look≤99
 c:0≤z.change∧z.change≤99
 f:0≤z.fall∧z.fall≤99
theorem m0b(h:∀y∈shs,0≤y){j:Nat}{x:Option Nat}:∀n,0≤GP shs j x n
 | 0=>Int.le_refl _
 |n+1=>by
  show 0≤GP shs j x n+_;have:=m0b h (j:=j) (x:=x) n;split
  ·rw[List.getD_eq_getElem?_getD];cases e:shs[n]? with
   |none=>show 0≤_+(0:Int);omega
   |some y=>have:=h y (List.mem_of_getElem? e);show 0≤_+y;omega
  ·omega
theorem b0w{j:Nat}(hj:j<m):∀n,GP shs j none n+m3 m (fun x=>GP shs j (some x) n)=m3 n fun l=>shs.getD l 0
 | 0=>by rw[show m3 m (fun x=>GP shs j (some x) 0)=0 from z7 m];rfl
 |n+1=>by
  show GP shs j none n+_+m3 m (fun x=>GP shs j (some x) n+_)=m3 n (fun l=>shs.getD l 0)+shs.getD n 0;rw[n6,← b0w hj n];by_cases h:j<n
  ·have e:r0l j n=none:=if_pos h;rw[e,if_pos rfl,j4 (f:=fun i=>if none=some i then shs.getD n 0 else 0) (g:=fun _=>0) fun i _=>if_neg (by intro q;cases q),z7];omega
  ·have e:r0l j n=some (j-n):=if_neg h;have e2:m3 m (fun i=>if some (j-n)=some i then shs.getD n 0 else 0)=shs.getD n 0:=by
    rw[j4 (g:=fun i=>if i=j-n then shs.getD n 0 else 0) fun i _=>?_,r0z (f:=fun _=>shs.getD n 0) (by omega)];by_cases q:i=j-n
    ·rw[if_pos q,if_pos (by rw[q])]
    ·rw[if_neg q,if_neg (fun w=>q (Option.some.inj w).symm)]
   rw[e,if_neg (by intro q;cases q),e2];omega
theorem mass{w:Wt}:fW shs m w+m3 m (bW shs m w)=m3 m w*shs.sum:=by
 unfold fW bW;rw[q0w,← n6,← u0u];refine j4 fun j hj=>?_
 rw[m8,← Int.mul_add];unfold gS;rw[b0w hj,← r0x]
noncomputable def capN(n:Nat):Int:=99*n*36^n
structure LzOk(m:Nat)(lz:Wt→Int)(b:Int):Prop where
 nn:∀w:Wt,(∀i,i<m→0≤w i)→0≤lz w∧lz w≤m3 m w*b
theorem r0w{j i:Nat}:0≤un j i:=by unfold un;split<;>decide
theorem u0n{j:Nat}(h:j<m):m3 m (un j)=1:=r0z (f:=fun _=>1) h
theorem u0m{s:Int}(s1:0≤s)(s2:s≤36):∀n:Nat,0≤s^n∧s^n≤36^n
 | 0=>by rw[Int.pow_zero,Int.pow_zero];decide
 |n+1=>by
  have ih:=u0m s1 s2 n;rw[Int.pow_succ,Int.pow_succ];exact ⟨Int.mul_nonneg ih.1 s1,Int.mul_le_mul ih.2 s2 s1 (Int.le_trans ih.1 ih.2)⟩
theorem f0u{lz:Wt→Int}{b:Int}{n:Nat}(hs:∀y∈shs,0≤y)(hT:shs.sum≤36)(hz:PrOk z)(hm:0<m)(hb:0≤b)(L:LzOk m lz b){w:Wt}(hw:∀i,i<m→0≤w i):
 0≤o5 shs z m lz n w∧o5 shs z m lz n w≤m3 m w*(36*(99*36^n+b)):=by
 have hT0:0≤shs.sum:=by rw[r0x];exact u4 fun i hi=>hs _ (by rw[List.getD_eq_getElem?_getD,List.getElem?_eq_getElem hi];exact List.getElem_mem hi)
 have p:=u0m hT0 hT n;have f0:0≤fW shs m w:=u4 fun i hi=>Int.mul_nonneg (hw i hi) (m0b hs _)
 have b0:∀i,i<m→0≤bW shs m w i:=fun x _=>u4 fun i hi=>Int.mul_nonneg (hw i hi) (m0b hs _)
 have bs:=u4 b0;have u:=L.nn (un (m-1)) fun _ _=>r0w
 rw[u0n (by omega),Int.one_mul]at u;have v:=L.nn _ b0;have ms:=mass (shs:=shs) (m:=m) (w:=w);have ws:=u4 hw;have q1:0≤z.fall*shs.sum^n:=Int.mul_nonneg hz.f.1 p.1;have q2:z.fall*shs.sum^n≤99*36^n:=Int.mul_le_mul hz.f.2 p.2 p.1 (by decide);unfold o5;refine ⟨?_,?_⟩
 ·have:=Int.mul_nonneg f0 (show 0≤z.fall*shs.sum^n+lz (un (m-1))by omega);omega
 ·have a1:fW shs m w*(z.fall*shs.sum^n+lz (un (m-1)))≤fW shs m w*(99*36^n+b):=Int.mul_le_mul_of_nonneg_left (by omega) f0;have p0:(0:Int)≤36^n:=Int.le_trans p.1 p.2;have a2:m3 m (bW shs m w)*b≤m3 m (bW shs m w)*(99*36^n+b):=Int.mul_le_mul_of_nonneg_left (by omega) bs;have a3:(fW shs m w+m3 m (bW shs m w))*(99*36^n+b)≤m3 m w*36*(99*36^n+b):=by
   rw[ms];exact Int.mul_le_mul_of_nonneg_right (Int.mul_le_mul_of_nonneg_left hT ws) (by omega)
  rw[Int.add_mul]at a3;rw[←Int.mul_assoc];omega
theorem j0w(hs:∀y∈shs,0≤y)(hT:shs.sum≤36)(hz:PrOk z)(hm:0<m):∀n:Nat,LzOk m (n3 shs z m n) (capN n)
 | 0=>⟨fun w hw=>⟨Int.le_refl _,by show (0:Int)≤_*(99*0*_);simp⟩⟩
 |n+1=>⟨fun w hw=>by
  have L:=j0w hs hT hz hm n;have cp:(0:Int)≤capN n:=by
   unfold capN;exact Int.mul_nonneg (by omega) (Int.pow_nonneg (by decide))
  have W:=fun (w:Wt) hw=>f0u (n:=n) hs hT hz hm cp L (w:=w) hw
  have hT0:0≤shs.sum:=by rw[r0x];exact u4 fun i hi=>hs _ (by rw[List.getD_eq_getElem?_getD,List.getElem?_eq_getElem hi];exact List.getElem_mem hi)
  have p:=u0m hT0 hT (n+1);have c0:0≤chW shs z m (n3 shs z m n) n:=by
   have:=(W (un (m-1)) fun _ _=>r0w).1;have:=Int.mul_nonneg hz.c.1 p.1;unfold chW;omega
  have ws:=u4 hw;have l0:0≤z0r shs z m (n3 shs z m n) n w:=by
   have a:=Int.mul_nonneg (Int.mul_nonneg ws hz.l.1) p.1;have b:=u4 (n:=m) (f:=fun a=>w a*min (o5 shs z m (n3 shs z m n) n (un a)) (chW shs z m (n3 shs z m n) n)) fun i hi=>Int.mul_nonneg (hw i hi) (by have:=(W (un (i)) fun _ _=>r0w).1;omega)
   unfold z0r;omega
  have k0:=Int.mul_nonneg ws c0;have w1:=W w hw;have e:36*(99*36^n+capN n)=capN (n+1):=by
   unfold capN;rw[Int.pow_succ,show ((n+1:Nat):Int)=(n:Int)+1 by omega,show 99*(n:Int)*36^n=(n:Int)*(99*36^n)by rw[Int.mul_comm 99,Int.mul_assoc],show 99*((n:Int)+1)*(36^n*36)=((n:Int)+1)*(99*36^n)*36 by rw[Int.mul_comm 99,Int.mul_assoc,Int.mul_assoc,Int.mul_assoc]];rw[Int.add_mul,Int.one_mul,Int.mul_comm 36,Int.add_comm]
  rw[e]at w1;unfold n3;omega⟩
theorem y1y{n:Nat}(hs:∀y∈shs,0≤y)(hT:shs.sum≤36)(hz:PrOk z)(hm:0<m):0≤chW shs z m (n3 shs z m n) n∧chW shs z m (n3 shs z m n) n≤99*36^(n+1)+capN (n+1)∧∀a,0≤o5 shs z m (n3 shs z m n) n (un a):=by
 have cp:(0:Int)≤capN n:=by
  unfold capN;exact Int.mul_nonneg (by omega) (Int.pow_nonneg (by decide))
 have hT0:0≤shs.sum:=by rw[r0x];exact u4 fun i hi=>hs _ (by rw[List.getD_eq_getElem?_getD,List.getElem?_eq_getElem hi];exact List.getElem_mem hi)
 have p:=u0m hT0 hT (n+1);have W:=fun (w:Wt) hw=>f0u (n:=n) hs hT hz hm cp (j0w hs hT hz hm n) (w:=w) hw
 have w1:=W (un (m-1)) fun _ _=>r0w
 rw[u0n (by omega),Int.one_mul]at w1;have q1:=Int.mul_nonneg hz.c.1 p.1;have q2:z.change*shs.sum^(n+1)≤99*36^(n+1):=Int.mul_le_mul hz.c.2 p.2 p.1 (by decide);have e:36*(99*36^n+capN n)=capN (n+1):=by
  unfold capN;rw[Int.pow_succ,show ((n+1:Nat):Int)=(n:Int)+1 by omega,show 99*(n:Int)*36^n=(n:Int)*(99*36^n)by rw[Int.mul_comm 99,Int.mul_assoc],show 99*((n:Int)+1)*(36^n*36)=((n:Int)+1)*(99*36^n)*36 by rw[Int.mul_comm 99,Int.mul_assoc,Int.mul_assoc,Int.mul_assoc]];rw[Int.add_mul,Int.one_mul,Int.mul_comm 36,Int.add_comm]
 rw[e]at w1;unfold chW;exact ⟨by omega,by omega,fun a=>(W (un (a)) fun _ _=>r0w).1⟩
end
noncomputable def rowN(m:Nat)(f:Nat→Int):List Int:=(List.range m).map f
theorem i3{m:Nat}{f:Nat→Int}:(rowN m f).length=m:=by unfold rowN;rw[List.length_map,List.length_range]
theorem p5{m k:Nat}{f:Nat→Int}(h:k<m):(rowN m f)[k]?=some (f k):=by unfold rowN;rw[List.getElem?_map,List.getElem?_range h];rfl
theorem j0v{m k:Nat}{f g:Nat→Int}{v:Int}(hk:k<m)(hv:g k=v)(ho:∀i,i≠k→g i=f i):(rowN m f).set k v=rowN m g:=by
 apply List.ext_getElem?;intro i;rw[List.getElem?_set];by_cases e:k=i
 ·subst e;rw[if_pos rfl,i3,if_pos hk,p5 hk,hv]
 ·rw[if_neg e];by_cases hi:i<m
  ·rw[p5 hi,p5 hi,ho i (Ne.symm e)]
  ·rw[List.getElem?_eq_none (by rw[i3];omega),List.getElem?_eq_none (by rw[i3];omega)]
theorem j0u{m:Nat}{f g:Nat→Int}(h:∀i,i<m→f i=g i):rowN m f=rowN m g:=by
 unfold rowN;exact List.map_congr_left fun i hi=>h i (List.mem_range.mp hi)
theorem m6{m:Nat}{f:Nat→Int}:(rowN m f).sum=m3 m f:=by
 rw[r0x,i3];exact j4 fun i hi=>by rw[List.getD_eq_getElem?_getD,p5 hi];rfl
theorem f0t(ws:List Int):ws=rowN ws.length fun i=>ws.getD i 0:=by
 apply List.ext_getElem?;intro i;by_cases h:i<ws.length
 ·rw[p5 h,List.getD_eq_getElem?_getD,List.getElem?_eq_getElem h];rfl
 ·rw[List.getElem?_eq_none (by omega),List.getElem?_eq_none (by rw[i3];omega)]
theorem y0b{m:Nat}{f:Nat→Int}{y:Int}(h:y∈rowN m f):∃i,i<m∧f i=y:=by
 obtain ⟨i,hi,e⟩:=List.mem_map.mp h;exact ⟨i,List.mem_range.mp hi,e⟩
theorem rep0{m:Nat}:(List.replicate m [D.int 0]).flatten=(rowN m fun _=>0).map D.int:=by
 rw[List.flatten_replicate_singleton];apply List.ext_getElem?;intro i;rw[List.getElem?_replicate,List.getElem?_map];by_cases h:i<m
 ·rw[if_pos h,p5 h];rfl
 ·rw[if_neg h,List.getElem?_eq_none (by rw[i3];omega)];rfl
theorem m0a{n k:Nat}(h:k<n):ixN n (k:Int)=some k:=by
 unfold ixN;rw[if_pos (by omega),if_pos (by omega),Int.toNat_natCast]
noncomputable def LP(shs:List Int)(w:Wt)(x:Option Nat)(i:Nat):Int:=m3 i fun j=>w j*gS shs j x
noncomputable def RowZ(d:D)(c:List Int):Prop:=d=.tup (c.map D.int)∨d=.lst (c.map D.int)
noncomputable def f0s(cs:Cs):Sp2:=fun ds δ q _=>∃full mark shs w m wd,ds=[m5 cs full mark shs,wd]∧RowZ wd (rowN m w)∧shs.length≤4∧(∀z∈shs,0≤z∧z≤9)∧m≤7∧q (.tup [.tup ((rowN m (bW shs m w)).map D.int),.int (fW shs m w)]) δ
noncomputable abbrev z0p:List Str:=["part","weights"]
theorem sc_lose_once:FnScope ["part","weights","behind","fallen","at","weight","lost","share"] z0p (defScope x0l):=⟨rfl,rfl,rfl,by decide +kernel,rfl,by decide +kernel,by decide +kernel⟩
noncomputable abbrev z0o(P:Program)(w:World)(K:PySem.W.Frag)(mg:Str→Option Value)(base:Heap)(cs:Cs):Prop:=Fun2 P w K mg base "lose_once" 2 z0p (f0s cs)
theorem n0p{f:Addr}{fd:FuncData}(Df:DefAt K mg "lose_once" x0l z0p f fd)(T:Txt K mg cs):z0o P w K mg base cs:=by
 have nd:=sc_lose_once.nd;refine def2 Df sc_lose_once (fun ds δ q x h=>?_) (fun cdv A outer s H E Y hr=>⟨_,(o3 (n0v 2 nd (c0d (u0 y3 o0)) (u9 1 T.n_len))
  (o3 (n4 3 nd y3)
  (o3 (x0u PassesOwn.leaving rfl (x0n T.n_enumerate (u0 (e2_v 1) o0)) (w0z rfl (z5 (m4 (i:=4) nd rfl (by first |exact Or.inl rfl |exact Or.inr rfl)) (z5 (m4 (i:=5) nd rfl (by first |exact Or.inl rfl |exact Or.inr rfl)) k9))) (t0g (is:=[4,5]) rfl) (l3 (x0u PassesOwn.leaving rfl (x0n T.n_enumerate (u0 (j5 K (e2_v 0)) o0)) (w0z rfl (z5 (m4 (i:=6) nd rfl (by first |exact Or.inl rfl |exact Or.inr rfl)) (z5 (m4 (i:=7) nd rfl (by first |exact Or.inl rfl |exact Or.inr rfl)) k9))) (t0g (is:=[6,7]) rfl) (l3 (i8 (b7 i0f d_gt (e2_v 6) (e2_v 4) (b5 _)) (l3 (c0c 3 nd i0n (y4 d4 z6 (e2_v 5) (e2_v 7)))) (l3 (z1o 2 i0n (y4 x0w r0o (e2_v 4) (e2_v 6)) (y4 d4 z6 (e2_v 5) (e2_v 7)))))))))
  (l3 (o4 (u0p (u0 (j0d a7 q0n T.n_tuple w0x (u0 (e2_v 2) o0)) (u0 (e2_v 3) o0)))))))),fun ds δ q x h=>?_⟩)
 ·unfold f0s at h;obtain ⟨full,mark,shs,w,m,wd,rfl,hwd,h4,h9,h7,hq⟩:=h;rfl
 ·unfold f0s at h;obtain ⟨full,mark,shs,w,m,wd,rfl,hwd,h4,h9,h7,hq⟩:=h;rw[show v4 ["part","weights","behind","fallen","at","weight","lost","share"] _=[.val _,.val _,.no,.no,.no,.no,.no,.no]from rfl];have e0:(List.replicate ((((rowN m w).map D.int).length:Nat):Int).toNat [D.int 0]).flatten=(rowN m fun x=>LP shs w (some x) 0).map D.int:=by
   rw[List.length_map,i3,Int.toNat_natCast];exact rep0
  rcases hwd with rfl |rfl
  all_goals
   walk_at "dn";rw[e0];refine ⟨by rw[List.length_map,i3];omega,by omega,by rw[List.length_map,i3];omega,?_⟩;refine f9 (fun i ρ δ'=>∃c1 c4 c5 c6 c7,ρ=[.val (m5 cs full mark shs),c1,.own ((rowN m fun x=>LP shs w (some x) i).map D.int),.val (.int (LP shs w none i)),c4,c5,c6,c7]∧δ'=δ) ⟨_,_,_,_,_,rfl,rfl⟩ ?_ ?_
   ·rintro i d ρ δ' rest hi ⟨c1,c4,c5,c6,c7,rfl,rfl⟩ hrest;obtain ⟨z,hz,rfl⟩:=p6 hi;have hil:=(List.getElem?_eq_some_iff.mp hz).1;rw[List.length_map,i3]at hil;rw[List.getElem?_map,p5 hil]at hz;cases hz;rw[Nat.zero_add];unfold v0o;walk_at "dn"
    (try simp only[m5];walk_at "fl")
    refine f9 (fun l ρ δ1=>∃c6 c7,ρ=[.val (m5 cs full mark shs),c1,.own ((rowN m fun x=>LP shs w (some x) i+w i*GP shs i (some x) l).map D.int),.val (.int (LP shs w none i+w i*GP shs i none l)),.val (.int (i:Int)),.val (.int (w i)),c6,c7]∧δ1=δ') ⟨c6,c7,by simp only[GP,Int.mul_zero,Int.add_zero];rfl,rfl⟩ ?_ ?_
    ·rintro l d ρ δ1 rest hl ⟨c6,c7,rfl,rfl⟩ hrest;obtain ⟨z,hz,rfl⟩:=p6 hl;rw[List.getElem?_map,Option.map_eq_some_iff]at hz;obtain ⟨sh,hs,rfl⟩:=hz;have hll:=(List.getElem?_eq_some_iff.mp hs).1;have es:shs.getD l 0=sh:=by rw[List.getD_eq_getElem?_getD,hs];rfl
     have s9:=h9 sh (List.mem_of_getElem? hs);have cm:CMul (w i) sh:=.inr ⟨by omega,by omega⟩;rw[Nat.zero_add];unfold v0o;walk_at "dn";split
     ·rename_i hgt;have hgt:i<l:=by omega
      have e1:r0l i l=none:=if_pos hgt;have e2:(rowN m fun x=>LP shs w (some x) i+w i*GP shs i (some x) l)=rowN m fun x=>LP shs w (some x) i+w i*GP shs i (some x) (l+1):=j0u fun x _=>by rw[x0f (by rw[e1];exact fun h=>by cases h)]
      have e3:LP shs w none i+w i*GP shs i none l+w i*sh=LP shs w none i+w i*GP shs i none (l+1):=by rw[p0l e1,es,Int.mul_add,Int.add_assoc]
      rw[e2,e3];exact ⟨cm,hrest _ _ ⟨_,_,rfl,rfl⟩⟩
     ·rename_i hgt;have hgt:¬i<l:=by omega
      have e1:r0l i l=some (i-l):=if_neg hgt;have e4:(i:Int)-(l:Int)=((i-l:Nat):Int):=by omega
      have hk:i-l<m:=by omega
      have e2:((rowN m fun x=>LP shs w (some x) i+w i*GP shs i (some x) l).map D.int).set (i-l) (.int (LP shs w (some (i-l)) i+w i*GP shs i (some (i-l)) l+w i*sh))=(rowN m fun x=>LP shs w (some x) i+w i*GP shs i (some x) (l+1)).map D.int:=by
       rw[←List.map_set];congr 1;refine j0v hk ?_ fun x hx=>?_
       ·rw[p0l e1,es,Int.mul_add,Int.add_assoc]
       ·rw[x0f (by rw[e1];exact fun h=>hx (Option.some.inj h).symm)]
      have e3:LP shs w none i+w i*GP shs i none l=LP shs w none i+w i*GP shs i none (l+1):=by rw[x0f (by rw[e1];exact fun h=>by cases h)]
      rw[e4,q0r (show ((rowN m fun x=>LP shs w (some x) i+w i*GP shs i (some x) l).map D.int)[i-l]?=some (.int (LP shs w (some (i-l)) i+w i*GP shs i (some (i-l)) l))by rw[List.getElem?_map,p5 hk];rfl)];dsimp only;refine ⟨rfl,?_⟩;rw[m0a (by rw[List.length_map,i3];exact hk)];dsimp only;rw[e2,e3];exact ⟨cm,hrest _ _ ⟨_,_,rfl,rfl⟩⟩
    ·rintro ρ δ1 ⟨c6,c7,rfl,rfl⟩;rw[r6,List.length_map];exact hrest _ _ ⟨_,_,_,_,_,rfl,rfl⟩
   ·rintro ρ δ' ⟨c1,c4,c5,c6,c7,rfl,rfl⟩;rw[r6,List.length_map,i3];walk_at "dn";exact hq
structure ShOk(full mark:Int)(shs:List Int):Prop where
 f1:1≤full
 f2:full≤6
 m1:0≤mark
 m2:mark≤full
 l1:0<shs.length
 l2:shs.length≤4
 s:∀z∈shs,0≤z∧z≤9
theorem f0r{c:Int}:∀{l:List Int},(∀z∈l,0≤z∧z≤c)→0≤l.sum∧l.sum≤c*(l.length:Int)
 | [],_=>by simp
 |a::l,h=>by
  have h1:=f0r fun z hz=>h z (List.mem_cons_of_mem _ hz)
  have h2:=h a (List.mem_cons_self ..);rw[List.sum_cons,List.length_cons,Int.natCast_add,Int.mul_add];omega
theorem f0q{full mark:Int}{shs:List Int}(h:ShOk full mark shs):fewD shs:=⟨by have:=h.l2;omega,fun z hz=>by have:=h.s z hz;omega⟩
theorem y0s{full mark:Int}{shs:List Int}(h:ShOk full mark shs):0≤shs.sum∧shs.sum≤36:=by
 have:=f0r (c:=9) h.s;have:=h.l2;omega
noncomputable def mOf(full mark:Int):Nat:=(full-mark+1).toNat
theorem y1x{full mark:Int}{s:Nat}:w0 full mark (mark+(s:Int))=rowN (mOf full mark) (un s):=by
 unfold w0 rowN mOf un;refine List.map_congr_left fun j _=>?_
 by_cases h:j=s
 ·rw[if_pos h,if_pos (by omega)]
 ·rw[if_neg h,if_neg (by omega)]
noncomputable def l0z(cs:Cs):Sp2:=fun ds δ q _=>∃full mark shs n,ds=[m5 cs full mark shs,.int n]∧ShOk full mark shs∧0≤n∧n≤12∧q (.int (shs.sum^n.toNat)) δ
noncomputable def y7(cs:Cs)(z:PrZ):D:=.ins cs.LookPrices [("look",.int z.look),("change",.int z.change),("fall",.int z.fall)]
noncomputable def v0y(shs:List Int)(z:PrZ)(m k:Nat):D:=D.lst ((rowN m fun a=>o5 shs z m (n3 shs z m k) k (un a)).map D.int)
noncomputable def v0x(shs:List Int)(z:PrZ)(m n:Nat):D:=.lst ((List.range n).map (v0y shs z m))
structure WtOk(m:Nat)(w:Wt)(c:Int):Prop where
 n:∀i,i<m→0≤w i∧w i≤c
noncomputable def l0y(cs:Cs)(N:Nat):Sp2:=fun ds δ q _=>∃full mark shs w wd z n,ds=[m5 cs full mark shs,wd,y7 cs z,v0x shs z (mOf full mark) n]∧n≤N∧RowZ wd (rowN (mOf full mark) w)∧ShOk full mark shs∧PrOk z∧n≤4∧WtOk (mOf full mark) w (7*10^6*36^(4-n))∧m3 (mOf full mark) w≤7*10^6*36^(4-n)∧q (.int (n3 shs z (mOf full mark) n w)) δ
noncomputable def j0t(cs:Cs)(N:Nat):Sp2:=fun ds δ q _=>∃full mark shs w wd z n,ds=[m5 cs full mark shs,wd,y7 cs z,v0x shs z (mOf full mark) n]∧n≤N∧RowZ wd (rowN (mOf full mark) w)∧ShOk full mark shs∧PrOk z∧n≤3∧WtOk (mOf full mark) w (7*10^6*36^(3-n))∧m3 (mOf full mark) w≤7*10^6*36^(3-n)∧q (.int (o5 shs z (mOf full mark) (n3 shs z (mOf full mark) n) n w)) δ
noncomputable def l0x(cs:Cs)(N:Nat):Sp2:=fun ds δ q _=>∃full mark shs w wd z n,ds=[m5 cs full mark shs,wd,y7 cs z,v0x shs z (mOf full mark) (n+1)]∧n<N∧RowZ wd (rowN (mOf full mark) w)∧ShOk full mark shs∧PrOk z∧n≤3∧WtOk (mOf full mark) w (7*10^6*36^(3-n))∧m3 (mOf full mark) w≤7*10^6*36^(3-n)∧
 q (.tup [.int (o5 shs z (mOf full mark) (n3 shs z (mOf full mark) n) n w),.int (z0r shs z (mOf full mark) (n3 shs z (mOf full mark) n) n w),.int (m3 (mOf full mark) w*chW shs z (mOf full mark) (n3 shs z (mOf full mark) n) n)]) δ
theorem p0k{n:Nat}(h:0<n):ixN n (-1)=some (n-1):=by
 unfold ixN;rw[if_neg (by decide),if_pos (by omega)];congr 1;omega
theorem c0u{xs:List D}{z:D}:atI (xs++[z]) (-1)=some z:=by
 unfold atI;rw[p0k (by simp)];simp
theorem i0v{shs:List Int}{z:PrZ}{m n:Nat}:(List.range (n+1)).map (v0y shs z m)=(List.range n).map (v0y shs z m)++[v0y shs z m n]:=by rw[List.range_succ,List.map_append];rfl
theorem f0p{m:Nat}{f:Nat→Int}(h:0<m):atI ((rowN m f).map D.int) (-1)=some (.int (f (m-1))):=by
 unfold atI;rw[List.length_map,i3,p0k h];show ((rowN m f).map D.int)[m-1]?=_;rw[List.getElem?_map,p5 (by omega)];rfl
noncomputable abbrev y0a:List Str:=["part","rounds"]
theorem sc_cases_of:FnScope ["part","rounds","cases","k"] y0a (defScope v0i):=⟨rfl,rfl,rfl,by decide +kernel,rfl,by decide +kernel,by decide +kernel⟩
noncomputable abbrev l9(P:Program)(w:World)(K:PySem.W.Frag)(mg:Str→Option Value)(base:Heap)(cs:Cs):Prop:=Fun2 P w K mg base "cases_of" 3 y0a (l0z cs)
theorem l0w{f:Addr}{fd:FuncData}(Df:DefAt K mg "cases_of" v0i y0a f fd)(T:Txt K mg cs)(G_total_of:u0w P w K mg base cs):l9 P w K mg base cs:=by
 have nd:=sc_cases_of.nd;refine def2 Df sc_cases_of (fun ds δ q x h=>?_) (fun cdv A outer s H E Y hr=>⟨_,(o3 (n4 2 nd y3)
  (o3 (x0u PassesOwn.leaving rfl (n9 T.n_range (u0 (e2_v 1) o0)) (m4 (i:=3) nd rfl (by first |exact Or.inl rfl |exact Or.inr rfl)) (q0l (i:=3)) (l3 (z1j 2 nd (u3 G_total_of (hr.mono (by decide)) r0 (u0 (e2_v 0) o0)))))
  (l3 (o4 (e2_v 2))))),fun ds δ q x h=>?_⟩)
 ·unfold l0z at h;obtain ⟨full,mark,shs,n,rfl,h,n1,n2,hq⟩:=h;rfl
 ·unfold l0z at h;obtain ⟨full,mark,shs,n,rfl,h,n1,n2,hq⟩:=h;rw[show v4 ["part","rounds","cases","k"] _=[.val _,.val _,.no,.no]from rfl];have sm:=y0s h;walk_at "dn";refine ⟨⟨by omega,by omega⟩,?_⟩;refine f9 (fun i ρ δ'=>∃c3,ρ=[.val (m5 cs full mark shs),.val (.int n),.val (.int (shs.sum^i)),c3]∧δ'=δ) ⟨_,by rw[Int.pow_zero],rfl⟩ ?_ ?_
  ·rintro i d ρ δ' rest hi ⟨c3,rfl,rfl⟩ hrest;unfold v0o;walk_at "dn";refine ⟨full,mark,shs,rfl,f0q h,?_⟩;walk_at "dn";exact ⟨.inr ⟨by omega,by omega⟩,hrest _ _ ⟨_,by rw[Int.pow_succ],rfl⟩⟩
  ·rintro ρ δ' ⟨c3,rfl,rfl⟩;rw[i5];exact hq
theorem powB{n:Nat}(hn:n≤3):(7:Int)*10^6*36^(3-n)*(99*36^(n+1)+capN (n+1))<2^63∧(7:Int)*10^6*36^(3-n)≤2^40∧(0:Int)≤99*36^(n+1)+capN (n+1)∧(36:Int)^(n+1)≤2^30:=by
 have:n=0∨n=1∨n=2∨n=3:=by omega
 rcases this with rfl |rfl |rfl |rfl<;>(unfold capN;decide)
theorem c0t{xs:List D}{y:D}:cutD (xs++[y]) none (some (-1))=xs:=by
 unfold cutD HT.sIx;simp only[List.length_append,List.length_singleton,List.drop_zero,Nat.sub_zero];rw[if_pos (by decide),show (-1+((xs.length+1:Nat):Int)).toNat=xs.length by omega,List.take_left'];rfl
theorem p0j{i j:Int}:(if j<i then j else i)=min i j:=by split<;>omega
theorem i0u{m:Nat}{w:Wt}{h:Nat→Int}:(w0u 0 ((rowN m w).map D.int)).map (fun d=>match d with | .tup [.int a,.int b]=>D.int (b*h a.toNat)|_=>.non)=(rowN m fun a=>w a*h a).map D.int:=by
 apply List.ext_getElem?;intro i;rw[List.getElem?_map];cases e:(w0u 0 ((rowN m w).map D.int))[i]? with
 |none=>
  have:=List.getElem?_eq_none_iff.mp e;rw[r6,List.length_map,i3]at this;rw[List.getElem?_eq_none (by rw[List.length_map,i3];exact this)];rfl
 |some d=>
  obtain ⟨z,hz,rfl⟩:=p6 e;have hil:=(List.getElem?_eq_some_iff.mp hz).1;rw[List.length_map,i3]at hil;rw[List.getElem?_map,p5 hil]at hz;cases hz;rw[List.getElem?_map,p5 hil];simp
noncomputable abbrev j7:List Str:=["part","weights","prices","known"]
theorem sc_move_costs:FnScope ["part","weights","prices","known","waits","cases","changed","looked","together"] j7 (defScope d8):=⟨rfl,rfl,rfl,by decide +kernel,rfl,by decide +kernel,by decide +kernel⟩
noncomputable abbrev i7(n:Nat)(P:Program)(w:World)(K:PySem.W.Frag)(mg:Str→Option Value)(base:Heap)(cs:Cs):Prop:=Fun2 P w K mg base "move_costs" (3*n+4) j7 ((l0x cs) n)
theorem p0i{f:Addr}{fd:FuncData}(Df:DefAt K mg "move_costs" d8 j7 f fd)(T:Txt K mg cs){n:Nat}(G_cases_of:l9 P w K mg base cs)(G_wait_cost:Fun2 P w K mg base "wait_cost" (3*n+6) ["part","weights","prices","known"] (j0t cs n)):i7 (n+1) P w K mg base cs:=by
 have nd:=sc_move_costs.nd;refine def2 Df sc_move_costs (fun ds δ q x h=>?_) (fun cdv A outer s H E Y hr=>⟨_,(o3 (n4 4 nd (l4 3 (k0u y3)))
  (o3 (n4 5 nd (u3 G_cases_of (hr.mono (by omega)) r0 (u0 (e2_v 0) (u0 (u9 3 T.n_len) o0))))
  (o3 (n4 6 nd (y4 p4 b4 (y4 d4 z6 (j5 K (e2_v 2)) (e2_v 5)) (l4 4 (k0u y3))))
  (o3 (n4 7 nd (e2_b (e8 rfl) n0u T.n_sum u0o (u0 (w0t rfl (CompOkM.of ["at","weight"] [6,4] rfl) (x0n T.n_enumerate (u0 (e2_v 1) o0)) (fun nd _ _ _ _ _=>(w0z rfl (z5 (m4 (i:=0) nd rfl (by first |exact Or.inl rfl |exact Or.inr rfl)) (z5 (m4 (i:=1) nd rfl (by first |exact Or.inl rfl |exact Or.inr rfl)) k9)))) (g0t (is:=[0,1]) rfl) (fun _ _ _ _ _ _=>r9) (fun _ _ _ _ _ _=>(y4 d4 z6 (e2_v 1) (e2_b (t0v rfl) a0l T.n_min t0o (u0 (l4 3 (e2_v 0)) (u0 (e2_v 2) o0)))))) o0)))
  (o3 (n4 8 nd (e2_b (e8 rfl) n0u T.n_sum u0o (u0 (e2_v 1) o0)))
  (l3 (o4 (u0p (u0 (u3 G_wait_cost (hr.mono (by omega)) r0 (u0 (e2_v 0) (u0 (e2_v 1) (u0 (e2_v 2) (u0 (d0g (e2_v 3) z1q (z1p (k0u y3))) o0))))) (u0 (y4 p4 b4 (y4 d4 z6 (y4 d4 z6 (e2_v 8) (j5 K (e2_v 2))) (e2_v 5)) (e2_v 7)) (u0 (y4 d4 z6 (e2_v 8) (e2_v 6)) o0))))))))))),fun ds δ q x h=>?_⟩)
 ·unfold l0x at h;obtain ⟨full,mark,shs,w,wd,z,k,rfl,hN,hwd,h,hz,h3,hw,hws,hq⟩:=h;rfl
 ·unfold l0x at h;obtain ⟨full,mark,shs,w,wd,z,k,rfl,hN,hwd,h,hz,h3,hw,hws,hq⟩:=h;rw[show v4 ["part","weights","prices","known","waits","cases","changed","looked","together"] _=[.val _,.val _,.val _,.val _,.no,.no,.no,.no,.no]from rfl];have sm:=y0s h;have hm:0<mOf full mark:=by have:=h.m2;unfold mOf;omega
  have hs0:∀y∈shs,0≤y:=fun y hy=>(h.s y hy).1
  have lb:=y1y (n:=k) hs0 sm.2 hz hm;have pw:=powB h3;have pp:=u0m sm.1 sm.2 (k+1);have w0:=u4 fun i hi=>(hw.n i hi).1
  unfold v0x y7;rcases hwd with rfl |rfl
  all_goals
   walk_at "dn";rw[i0v,c0u];dsimp only;rw[List.length_append,List.length_map,List.length_range,List.length_singleton];refine ⟨full,mark,shs,_,rfl,h,by omega,by omega,?_⟩;unfold v0y;walk_at "dn";walk_at "fl";rw[f0p hm];dsimp only;have c1:=hz.c;have c2:=hz.l;refine ⟨.inl ⟨by omega,by omega⟩,?_⟩;refine g0o (fun d=>match d with | .tup [.int a,.int b]=>D.int (b*min (o5 shs z (mOf full mark) (n3 shs z (mOf full mark) k) k (un a.toNat)) (chW shs z (mOf full mark) (n3 shs z (mOf full mark) k) k))|_=>.non) (by rw[r6,List.length_map,i3];have:=h.f2;have:=h.m1;unfold mOf;omega) (fun d hd Q hQ=>?_) ?_
   ·obtain ⟨i,hi⟩:=List.mem_iff_getElem?.mp hd;obtain ⟨y,hy,rfl⟩:=p6 hi;have hil:=(List.getElem?_eq_some_iff.mp hy).1;rw[List.length_map,i3]at hil;rw[List.getElem?_map,p5 hil]at hy;cases hy;rw[Nat.zero_add]at hQ ⊢;refine ⟨_,rfl,?_⟩;simp only[capt,u0j,List.map_cons,List.map_nil,List.getElem?_cons_zero,List.getElem?_cons_succ,List.cons_append,List.nil_append];walk_at "dn";rw[q0r (show ((rowN (mOf full mark) fun a=>o5 shs z (mOf full mark) (n3 shs z (mOf full mark) k) k (un a)).map D.int)[i]?=some (.int (o5 shs z (mOf full mark) (n3 shs z (mOf full mark) k) k (un i)))by rw[List.getElem?_map,p5 hil];rfl)];dsimp only at hQ ⊢;refine ⟨.inl ?_,?_⟩
    ·have:=hw.n i hil;omega
    ·rw[p0j,Int.toNat_natCast];rw[Int.toNat_natCast]at hQ;exact hQ
   ·rw[i0u (h:=fun a=>min (o5 shs z (mOf full mark) (n3 shs z (mOf full mark) k) k (un a)) (chW shs z (mOf full mark) (n3 shs z (mOf full mark) k) k)),l5,l5];dsimp only;have b1:bigD (rowN (mOf full mark) w):=⟨fun y hy=>by obtain ⟨i,hi,rfl⟩:=y0b hy;exact (hw.n i hi).1,by rw[m6];omega⟩;refine ⟨⟨fun y hy=>?_,?_⟩,b1,?_⟩
    ·obtain ⟨i,hi,rfl⟩:=y0b hy;exact Int.mul_nonneg (hw.n i hi).1 (by have:=lb.2.2 i;omega)
    ·rw[m6];have e1:=v0z (n:=mOf full mark) (f:=fun a=>w a*min (o5 shs z (mOf full mark) (n3 shs z (mOf full mark) k) k (un a)) (chW shs z (mOf full mark) (n3 shs z (mOf full mark) k) k)) (g:=fun a=>w a*(99*36^(k+1)+capN (k+1))) fun i hi=>Int.mul_le_mul_of_nonneg_left (by omega) (hw.n i hi).1
     rw[u0u]at e1;have e2:=Int.mul_le_mul_of_nonneg_right hws pw.2.2.1;omega
    ·rw[c0t,m6,m6];refine ⟨full,mark,shs,w,_,z,k,rfl,by omega,by first |exact .inl rfl |exact .inr rfl,h,hz,h3,hw,hws,?_⟩;rw[Int.toNat_natCast];walk_at "fl";refine ⟨.inl ⟨by omega,by omega⟩,.inr ⟨by omega,by omega⟩,.inl ⟨by omega,by omega⟩,?_⟩;exact hq
noncomputable abbrev f7:List Str:=["part","weights","prices","known"]
theorem sc_least_cost:FnScope ["part","weights","prices","known"] f7 (defScope b8):=⟨rfl,rfl,rfl,by decide +kernel,rfl,by decide +kernel,by decide +kernel⟩
noncomputable abbrev e7(n:Nat)(P:Program)(w:World)(K:PySem.W.Frag)(mg:Str→Option Value)(base:Heap)(cs:Cs):Prop:=Fun2 P w K mg base "least_cost" (3*n+5) f7 ((l0y cs) n)
theorem v0w{f:Addr}{fd:FuncData}(Df:DefAt K mg "least_cost" b8 f7 f fd)(T:Txt K mg cs){n:Nat}(G_move_costs:i7 n P w K mg base cs):e7 n P w K mg base cs:=by
 have nd:=sc_least_cost.nd;refine def2 Df sc_least_cost (fun ds δ q x h=>?_) (fun cdv A outer s H E Y hr=>⟨_,(o3 (i8 (b7 (z0h hr.units0) u0i (u9 3 T.n_len) y3 (b5 _)) (l3 (o4 y3)) w6)
  (l3 (o4 (e2_b (w0s rfl) j0z T.n_min t0o (u0 (u3 G_move_costs (hr.mono (by omega)) r0 (u0 (e2_v 0) (u0 (e2_v 1) (u0 (e2_v 2) (u0 (e2_v 3) o0))))) o0))))),fun ds δ q x h=>?_⟩)
 ·unfold l0y at h;obtain ⟨full,mark,shs,w,wd,z,k,rfl,hN,hwd,h,hz,h3,hw,hws,hq⟩:=h;rfl
 ·unfold l0y at h;obtain ⟨full,mark,shs,w,wd,z,k,rfl,hN,hwd,h,hz,h3,hw,hws,hq⟩:=h;rw[show v4 ["part","weights","prices","known"] _=[.val _,.val _,.val _,.val _]from rfl];have sm:=y0s h;walk_at "dn";unfold v0x;dsimp only;rw[List.length_map,List.length_range];cases k with
  |zero=>
   simp only[decide_eq_true_eq,Int.ofNat_eq_zero,if_true,Int.natCast_zero];exact hq
  |succ k=>
   rw[if_neg (by omega)];refine ⟨full,mark,shs,w,wd,z,k,rfl,by omega,hwd,h,hz,by omega,?_,?_,?_⟩
   ·rw[show 3-k=4-(k+1)by omega];exact hw
   ·rw[show 3-k=4-(k+1)by omega];exact hws
   ·walk_at "dn";simp only[h8,Option.map_some];refine ⟨(by intro e;cases e),fun m hm=>?_⟩;obtain ⟨m1,m2⟩:=hm;have e:m=n3 shs z (mOf full mark) (k+1) w:=by
     have a1:=m2 _ (List.mem_cons_self ..);have a2:=m2 _ (List.mem_cons_of_mem _ (List.mem_cons_self ..));have a3:=m2 _ (List.mem_cons_of_mem _ (List.mem_cons_of_mem _ (List.mem_cons_self ..)));simp only[List.mem_cons,List.not_mem_nil,or_false]at m1;unfold n3;omega
    rw[e];exact hq
noncomputable abbrev l8:List Str:=["part","weights","prices","known"]
theorem sc_wait_cost:FnScope ["part","weights","prices","known","behind","fallen","fall"] l8 (defScope a9):=⟨rfl,rfl,rfl,by decide +kernel,rfl,by decide +kernel,by decide +kernel⟩
noncomputable abbrev z0n(n:Nat)(P:Program)(w:World)(K:PySem.W.Frag)(mg:Str→Option Value)(base:Heap)(cs:Cs):Prop:=Fun2 P w K mg base "wait_cost" (3*n+6) l8 ((j0t cs) n)
theorem u0l{f:Addr}{fd:FuncData}(Df:DefAt K mg "wait_cost" a9 l8 f fd)(T:Txt K mg cs){n:Nat}(G_lose_once:z0o P w K mg base cs)(G_cases_of:l9 P w K mg base cs)(G_least_cost:e7 n P w K mg base cs)(G_weights_of:v6 P w K mg base cs):z0n n P w K mg base cs:=by
 have nd:=sc_wait_cost.nd;refine def2 Df sc_wait_cost (fun ds δ q x h=>?_) (fun cdv A outer s H E Y hr=>⟨_,(o3 (s2_unp (u3 G_lose_once (hr.mono (by omega)) r0 (u0 (e2_v 0) (u0 (e2_v 1) o0))) (w0z rfl (z5 (m4 (i:=4) nd rfl (by first |exact Or.inl rfl |exact Or.inr rfl)) (z5 (m4 (i:=5) nd rfl (by first |exact Or.inl rfl |exact Or.inr rfl)) k9))) (t0g (is:=[4,5]) rfl))
  (o3 (n4 6 nd (y4 d4 z6 (j5 K (e2_v 2)) (u3 G_cases_of (hr.mono (by omega)) r0 (u0 (e2_v 0) (u0 (u9 3 T.n_len) o0)))))
  (o3 (c0c 6 nd i0n (u3 G_least_cost (hr.mono (by omega)) r0 (u0 (e2_v 0) (u0 (u3 G_weights_of (hr.mono (by omega)) r0 (u0 (e2_v 0) (u0 (j5 K (e2_v 0)) o0))) (u0 (e2_v 2) (u0 (e2_v 3) o0))))))
  (l3 (o4 (y4 p4 b4 (y4 d4 z6 (e2_v 5) (e2_v 6)) (u3 G_least_cost (hr.mono (by omega)) r0 (u0 (e2_v 0) (u0 (e2_v 4) (u0 (e2_v 2) (u0 (e2_v 3) o0))))))))))),fun ds δ q x h=>?_⟩)
 ·unfold j0t at h;obtain ⟨full,mark,shs,w,wd,z,k,rfl,hN,hwd,h,hz,h3,hw,hws,hq⟩:=h;rfl
 ·unfold j0t at h;obtain ⟨full,mark,shs,w,wd,z,k,rfl,hN,hwd,h,hz,h3,hw,hws,hq⟩:=h;rw[show v4 ["part","weights","prices","known","behind","fallen","fall"] _=[.val _,.val _,.val _,.val _,.no,.no,.no]from rfl];have sm:=y0s h;have hm:0<mOf full mark:=by have:=h.m2;unfold mOf;omega
  have f2:=h.f2;have m1:=h.m1;have m2:=h.m2;have hm7:mOf full mark≤7:=by unfold mOf;omega
  have hs0:∀y∈shs,0≤y:=fun y hy=>(h.s y hy).1
  have wn:=fun i hi=>(hw.n i hi).1
  have ws:=u4 wn;have ms:=mass (shs:=shs) (m:=mOf full mark) (w:=w);have f0:0≤fW shs (mOf full mark) w:=u4 fun i hi=>Int.mul_nonneg (wn i hi) (m0b hs0 _)
  have b0:∀i,i<mOf full mark→0≤bW shs (mOf full mark) w i:=fun x _=>u4 fun i hi=>Int.mul_nonneg (wn i hi) (m0b hs0 _)
  have bs:=u4 b0;have tot:m3 (mOf full mark) w*shs.sum≤7*10^6*36^(4-k):=by
   have e:=Int.mul_le_mul hws sm.2 sm.1 (Int.mul_nonneg (by decide) (Int.pow_nonneg (by decide)));rw[Int.mul_assoc (7*10^6),← Int.pow_succ,show (3-k).succ=4-k by omega]at e;exact e
  have big:(1:Int)≤36^(4-k)∧(36:Int)^(4-k)≤36^4:=by
   have:k=0∨k=1∨k=2∨k=3:=by omega
   rcases this with rfl |rfl |rfl |rfl<;>decide
  unfold m5 y7;walk_at "ds";refine ⟨full,mark,shs,w,mOf full mark,wd,rfl,hwd,h.l2,h.s,hm7,?_⟩;rw[show v0x shs z (mOf full mark) k=.lst ((List.range k).map (v0y shs z (mOf full mark)))from rfl];walk_at "ds";rw[List.length_map,List.length_range];refine ⟨full,mark,shs,_,rfl,h,by omega,by omega,?_⟩;have z3:=hz.f;walk_at "ds";refine ⟨.inl ⟨by omega,by omega⟩,?_⟩;refine ⟨full,mark,shs,full,rfl,m1,m2,f2,?_⟩;have e1:w0 full mark full=rowN (mOf full mark) (un (mOf full mark-1)):=by
   rw[←y1x];congr 1;unfold mOf;omega
  rw[e1];walk_at "ds";refine ⟨full,mark,shs,un (mOf full mark-1),_,z,k,rfl,by omega,.inl rfl,h,hz,by omega,⟨fun i hi=>⟨r0w,?_⟩⟩,?_,?_⟩
  ·have:un (mOf full mark-1) i≤1:=by unfold un;split<;>decide
   omega
  ·rw[u0n (by omega)];omega
  ·walk_at "ds";refine ⟨.inl ⟨by omega,by omega⟩,?_⟩;refine ⟨full,mark,shs,bW shs (mOf full mark) w,_,z,k,rfl,by omega,.inl rfl,h,hz,by omega,⟨fun i hi=>⟨b0 i hi,?_⟩⟩,by omega,?_⟩
   ·have:=t0y b0 hi;omega
   ·walk_at "ds";rw[Int.toNat_natCast];exact hq
theorem v0v{f1 f2 f3:Addr}{fd1 fd2 fd3:FuncData}(D1:DefAt K mg "move_costs" d8 j7 f1 fd1)(D2:DefAt K mg "least_cost" b8 f7 f2 fd2)(D3:DefAt K mg "wait_cost" a9 l8 f3 fd3)(T:Txt K mg cs)(G1:l9 P w K mg base cs)(G2:z0o P w K mg base cs)(G3:v6 P w K mg base cs):
 ∀n,i7 n P w K mg base cs∧e7 n P w K mg base cs∧z0n n P w K mg base cs
 | 0=>
  have A:=z1f D1 fun ds δ q x h=>by obtain ⟨_,_,_,_,_,_,_,_,h,_⟩:=h;exact absurd h (Nat.not_lt_zero _)
  have B:=v0w D2 T A
  ⟨A,B,u0l D3 T G2 G1 B G3⟩
 |n+1=>
  have A:=p0i D1 T G1 (v0v D1 D2 D3 T G1 G2 G3 n).2.2;have B:=v0w D2 T A
  ⟨A,B,u0l D3 T G2 G1 B G3⟩
noncomputable def rowsD(m:Nat):D:=.lst ((List.range m).map fun j=>.tup ((rowN m (un j)).map D.int))
noncomputable def l0v(cs:Cs):Sp2:=fun ds δ q _=>∃full mark shs z n,ds=[m5 cs full mark shs,y7 cs z,.int ((n:Nat):Int)]∧ShOk full mark shs∧PrOk z∧n≤4∧q (v0x shs z (mOf full mark) n) δ
noncomputable abbrev y8:List Str:=["part","prices","rounds"]
theorem sc_known_waits:FnScope ["part","prices","rounds","rows","known","k"] y8 (defScope z0z):=⟨rfl,rfl,rfl,by decide +kernel,rfl,by decide +kernel,by decide +kernel⟩
noncomputable abbrev x8(P:Program)(w:World)(K:PySem.W.Frag)(mg:Str→Option Value)(base:Heap)(cs:Cs):Prop:=Fun2 P w K mg base "known_waits" 17 y8 (l0v cs)
theorem r0k{f:Addr}{fd:FuncData}(Df:DefAt K mg "known_waits" z0z y8 f fd)(T:Txt K mg cs)(G_wait_cost:z0n 3 P w K mg base cs)(G_weights_of:v6 P w K mg base cs):x8 P w K mg base cs:=by
 have nd:=sc_known_waits.nd;refine def2 Df sc_known_waits (fun ds δ q x h=>?_) (fun cdv A outer s H E Y hr=>⟨_,(o3 (k0c (i:=3) rfl (CompOkM.of ["stand"] [0] rfl) (o0c T.n_range (u0 (j5 K (e2_v 0)) (u0 (y4 p4 b4 (j5 K (e2_v 0)) y3) o0))) (fun nd _ _ _ _ _=>(m4 (i:=0) nd rfl (by first |exact Or.inl rfl |exact Or.inr rfl))) f8 (fun _ _ _ _ _ _=>r9) (fun _ _ _ _ _ _=>(u3 G_weights_of (hr.mono (by decide)) r0a (u0 (e2_v 1) (u0 (e2_v 0) o0)))) nd)
  (o3 (k0o 4 nd o0)
  (o3 (x0u PassesOwn.leaving rfl (n9 T.n_range (u0 (e2_v 2) o0)) (m4 (i:=5) nd rfl (by first |exact Or.inl rfl |exact Or.inr rfl)) (q0l (i:=5)) (l3 (x0r (e2_mv 4 PySem.F.slot_list_append PySem.F.type_list_append o0l k0l (u0 (c0x rfl (CompOkM.of ["weights"] [0,1,4] rfl) (k0k (e2_v 3)) (fun nd _ _ _ _ _=>(m4 (i:=0) nd rfl (by first |exact Or.inl rfl |exact Or.inr rfl))) f8 (fun _ _ _ _ _ _=>r9) (fun _ _ _ _ _ _=>(u3 G_wait_cost (hr.mono (by decide)) r0a (u0 (e2_v 1) (u0 (e2_v 0) (u0 (e2_v 2) (u0 (e2_v 3) o0))))))) o0)))))
  (l3 (o4 (e2_v 4)))))),fun ds δ q x h=>?_⟩)
 ·unfold l0v at h;obtain ⟨full,mark,shs,z,n,rfl,h,hz,h4,hq⟩:=h;rfl
 ·unfold l0v at h;obtain ⟨full,mark,shs,z,n,rfl,h,hz,h4,hq⟩:=h;rw[show v4 ["part","prices","rounds","rows","known","k"] _=[.val _,.val _,.val _,.no,.no,.no]from rfl];have f2:=h.f2;have m1:=h.m1;have m2:=h.m2;have hm7:mOf full mark≤7:=by unfold mOf;omega
  unfold m5;walk_at "ds";refine ⟨by omega,?_⟩;have em:(full+1-mark).toNat=mOf full mark:=by unfold mOf;omega
  refine y0k ((List.range (mOf full mark)).map fun j=>.tup ((rowN (mOf full mark) (un j)).map D.int)) (by rw[i5,List.length_map,List.length_range];exact em) (by rw[i5,em];show 0+_≤_;omega) (fun i d e hd he Q hQ=>?_) ?_
  ·obtain ⟨hi,rfl⟩:=w0v hd;rw[em]at hi;rw[List.getElem?_map,List.getElem?_range hi]at he;cases he;simp only[capt,u0j,List.map_cons,List.map_nil,List.getElem?_cons_zero];walk_at "ds";refine ⟨full,mark,shs,mark+(i:Int),rfl,m1,m2,f2,?_⟩;rw[y1x];exact hQ
  ·rw[List.nil_append];refine ⟨⟨by omega,by omega⟩,?_⟩;rw[Int.toNat_natCast];refine f9 (fun i ρ δ'=>∃c5,ρ=[.val (m5 cs full mark shs),.val (y7 cs z),.val (.int (n:Int)),.val (rowsD (mOf full mark)),.own ((List.range i).map (v0y shs z (mOf full mark))),c5]∧δ'=δ) ⟨.no,rfl,rfl⟩ ?_ ?_
   ·rintro i d ρ δ' rest hi ⟨c5,rfl,rfl⟩ hrest;obtain ⟨hi2,rfl⟩:=w0v hi;unfold v0o rowsD;walk_at "ds";refine ⟨rfl,?_⟩;refine q0y ((rowN (mOf full mark) fun a=>o5 shs z (mOf full mark) (n3 shs z (mOf full mark) i) i (un a)).map D.int) (by rw[List.length_map,List.length_map,i3,List.length_range]) (by rw[List.length_map,List.length_range];show 0+_≤_;omega) (fun j d e hd he=>?_) ?_
    ·have hj:j<mOf full mark:=by have:=(List.getElem?_eq_some_iff.mp hd).1;rw[List.length_map,List.length_range]at this;exact this
     rw[List.getElem?_map,List.getElem?_range hj]at hd;rw[List.getElem?_map,p5 hj]at he;cases hd;cases he;refine ⟨rfl,fun Q hQ=>⟨_,rfl,?_⟩⟩;simp only[t0a,z1h,List.map_cons,List.map_nil,List.getElem?_cons_zero,List.getElem?_cons_succ,List.cons_append,List.nil_append];walk_at "ds";have big:(1:Int)≤36^(3-i):=by
      have:i=0∨i=1∨i=2∨i=3:=by omega
      rcases this with rfl |rfl |rfl |rfl<;>decide
     refine ⟨full,mark,shs,un j,_,z,i,rfl,by omega,.inl rfl,h,hz,by omega,⟨fun a ha=>⟨r0w,?_⟩⟩,?_,?_⟩
     ·have:un j a≤1:=by unfold un;split<;>decide
      omega
     ·rw[u0n hj];omega
     ·exact hQ _
    ·rw[List.nil_append];refine ⟨by rw[List.length_map,List.length_range];omega,hrest _ _ ⟨.val (.int (0+(i:Int))),?_,rfl⟩⟩;rw[List.range_succ,List.map_append];rfl
   ·rintro ρ δ' ⟨c5,rfl,rfl⟩;rw[i5];walk_at "ds";exact hq
noncomputable def r0v(cs:Cs):Sp2:=fun ds δ q x=>match ds with
 | [a,b,c]=>(a5 a&&a5 b&&a5 c)=true∧(if i4 a 0 99=true then (if i4 b 0 99=true then (if i4 c 0 99=true then q (.ins cs.LookPrices [("look",a),("change",b),("fall",c)]) δ else x cs.NoWorks [("at",.int 2)] δ)else x cs.NoWorks [("at",.int 1)] δ)else x cs.NoWorks [("at",.int 0)] δ)
 |_=>False
theorem sc_LookPrices_init:FnScope ["self","look","change","fall","at","price"] ["self","look","change","fall"] (defScope f6):=⟨rfl,rfl,rfl,by decide +kernel,rfl,by decide +kernel,by decide +kernel⟩
theorem v0u{f:Addr}{fd:FuncData}(Fn:Fun K "__init__" "LookPrices.__init__" f6 f fd)(M:Mk K cs.LookPrices f)(bd:Binds K fd ["self","look","change","fall"] [])(T:Txt K mg cs)(G_is_whole:d6 P w K mg base cs)(M_NoWorks:MkE P w K mg base "NoWorks" cs.NoWorks 1 ["self","at"] (spXI cs.NoWorks "at")):Make2 P w K mg base "LookPrices" 4 (r0v cs):=by
 have nd:=sc_LookPrices_init.nd;refine init2 Fn M T.c_LookPrices bd sc_LookPrices_init (fun ds δ q x h=>?_) (fun cdv A outer s H E Y hr=>⟨_,(o3 (x0u PassesOwn.leaving rfl (x0n T.n_enumerate (u0 (u0p (u0 (e2_v 1) (u0 (e2_v 2) (u0 (e2_v 3) o0)))) o0)) (w0z rfl (z5 (m4 (i:=4) nd rfl (by first |exact Or.inl rfl |exact Or.inr rfl)) (z5 (m4 (i:=5) nd rfl (by first |exact Or.inl rfl |exact Or.inr rfl)) k9))) (t0g (is:=[4,5]) rfl) (l3 (i8 (z0d (x0v (u3 G_is_whole (hr.mono (by decide)) r0 (u0 (e2_v 5) (u0 y3 (u0 (a0b T.g_GREATEST_PRICE) o0)))))) (l3 (w0w rfl r0 M_NoWorks (hr.mono (by decide)) (u0 (e2_v 4) o0))) w6)))
  (o3 (y0m K 0 (e2_v 1))
  (o3 (y0m K 0 (e2_v 2))
  (l3 (y0m K 0 (e2_v 3)))))),fun ds δ q x h=>?_⟩)
 ·unfold r0v at h;split at h
  ·rfl
  ·exact h.elim
 ·unfold r0v at h;split at h;rotate_left
  ·exact h.elim
  rename_i a b c;rw[show v4 ["look","change","fall","at","price"] _=[.val _,.val _,.val _,.no,.no]from rfl];obtain ⟨ht,hq⟩:=h;simp only[Bool.and_eq_true]at ht;obtain ⟨⟨ta,tb⟩,tc⟩:=ht;walk_at "ds";simp only[forL,w0u];walk_at "ds";refine ⟨ta,?_⟩;cases ea:i4 a 0 99 with
  |false=>
   rw[ea]at hq;walk_at "ds";exact hq
  |true=>
   rw[ea,if_pos rfl]at hq;walk_at "ds";refine ⟨tb,?_⟩;cases eb:i4 b 0 99 with
   |false=>
    rw[eb]at hq;walk_at "ds";exact hq
   |true=>
    rw[eb,if_pos rfl]at hq;walk_at "ds";refine ⟨tc,?_⟩;cases ec:i4 c 0 99 with
    |false=>
     rw[ec]at hq;walk_at "ds";exact hq
    |true=>
     rw[ec,if_pos rfl]at hq;walk_at "ds";exact ⟨_,rfl,hq⟩
noncomputable def wtsD(m:Nat)(d:D):Bool:=u0z d m m 0 1000000&&(match h8 ((rowD d).getD [])with |some ns=>!decide (ns.sum=0)|none=>true)
theorem f0o{d:D}{m:Nat}{w:Wt}(h:RowZ d (rowN m w)):rowD d=some ((rowN m w).map D.int):=by rcases h with rfl |rfl<;>rfl
theorem l0u{d:D}{m:Nat}{w w':Wt}(h:RowZ d (rowN m w))(h':RowZ d (rowN m w')):∀i,i<m→w i=w' i:=fun i hi=>by
 have e:=(f0o h).symm.trans (f0o h');have e2:=congrArg (fun o=>(o.getD [])[i]?) e;simp only[Option.getD_some,List.getElem?_map,p5 hi]at e2;exact D.int.inj (Option.some.inj e2)
theorem f0n{m:Nat}{d:D}(h:wtsD m d=true):∃w,RowZ d (rowN m w)∧WtOk m w (10^6)∧m3 m w≠0∧∀i,m≤i→w i=0:=by
 unfold wtsD u0z at h;cases er:rowD d with
 |none=>rw[er]at h;cases h
 |some xs=>
  rw[er]at h;simp only[Bool.and_eq_true,decide_eq_true_eq,Option.getD_some]at h;obtain ⟨⟨⟨h1,h2⟩,h3⟩,h4⟩:=h;obtain ⟨ns,rfl,hn⟩:=z0t h3;rw[List.length_map]at h1 h2;have hl:ns.length=m:=by omega
  rw[l5]at h4;simp only[Bool.not_eq_true',decide_eq_false_iff_not]at h4;have e:=f0t ns;rw[hl]at e;refine ⟨fun i=>ns.getD i 0,?_,⟨fun i hi=>?_⟩,?_,fun i hi=>?_⟩
  ·rw[←e];cases d<;>first |(cases er;exact .inl rfl)|(cases er;exact .inr rfl)|cases er
  ·have:=hn (ns.getD i 0) (by rw[List.getD_eq_getElem?_getD,List.getElem?_eq_getElem (by omega)];exact List.getElem_mem _);exact ⟨this.1,this.2⟩
  ·rw[←m6,← e];exact h4
  ·show ns.getD i 0=0;rw[List.getD_eq_getElem?_getD,List.getElem?_eq_none (by omega)];rfl
theorem f0m{m:Nat}{d:D}{w:Wt}(h:RowZ d (rowN m w))(hw:WtOk m w (10^6))(hs:m3 m w≠0):wtsD m d=true:=by
 unfold wtsD u0z;rw[f0o h];simp only[Option.getD_some];rw[l5,List.length_map,i3];have e2:((rowN m w).map D.int).all (i4 · 0 1000000)=true:=by
  rw[List.all_eq_true];intro x hx;obtain ⟨z,hz,rfl⟩:=List.mem_map.mp hx;obtain ⟨i,hi,rfl⟩:=y0b hz;exact n8 (hw.n i hi).1 (hw.n i hi).2
 rw[e2,decide_eq_true (Int.le_refl _)];dsimp only;rw[m6,decide_eq_false hs];rfl
theorem j0s{m:Nat}{w:Wt}{c:Int}(h:WtOk m w c)(hm:m≤7)(hc:0≤c):0≤m3 m w∧m3 m w≤7*c:=by
 refine ⟨u4 fun i hi=>(h.n i hi).1,?_⟩;have e:=v0z (n:=m) (f:=w) (g:=fun _=>1*c) fun i hi=>by rw[Int.one_mul];exact (h.n i hi).2
 have e2:∀n:Nat,m3 n (fun _=>(1:Int))=(n:Int):=by
  intro n
  induction n with
  |zero=>rfl
  |succ n ih=>show m3 n _+1=_;rw[ih];omega
 rw[u0u (f:=fun _=>1),e2]at e;exact Int.le_trans e (Int.mul_le_mul_of_nonneg_right (by omega) hc)
noncomputable def p0h(cs:Cs):Sp2:=fun ds δ q x=>∃full mark shs d,ds=[m5 cs full mark shs,d]∧ShOk full mark shs∧o8 d=true∧(wtsD (mOf full mark) d=true→q .non δ)∧(wtsD (mOf full mark) d=false→x cs.NoStands [] δ)
noncomputable def p0g(cs:Cs):Sp2:=fun ds δ q x=>∃d lo,ds=[d,.int lo]∧a5 d=true∧(i4 d lo 4=true→q .non δ)∧(i4 d lo 4=false→x cs.NoRounds [] δ)
noncomputable def j0r(cs:Cs):Sp2:=fun ds δ q x=>∃full mark shs d z rd,ds=[m5 cs full mark shs,d,y7 cs z,rd]∧ShOk full mark shs∧PrOk z∧o8 d=true∧a5 rd=true∧(wtsD (mOf full mark) d=false→x cs.NoStands [] δ)∧(wtsD (mOf full mark) d=true→i4 rd 0 4=false→x cs.NoRounds [] δ)∧
 (wtsD (mOf full mark) d=true→∀w n,RowZ d (rowN (mOf full mark) w)→(∀i,mOf full mark≤i→w i=0)→rd=.int ((n:Nat):Int)→n≤4→q (.int (n3 shs z (mOf full mark) n w)) δ)
noncomputable abbrev l6:List Str:=["part","weights"]
theorem sc_check_weights:FnScope ["part","weights","many"] l6 (defScope q8):=⟨rfl,rfl,rfl,by decide +kernel,rfl,by decide +kernel,by decide +kernel⟩
noncomputable abbrev j6(P:Program)(w:World)(K:PySem.W.Frag)(mg:Str→Option Value)(base:Heap)(cs:Cs):Prop:=Fun2 P w K mg base "check_weights" 5 l6 (p0h cs)
theorem u0g{f:Addr}{fd:FuncData}(Df:DefAt K mg "check_weights" q8 l6 f fd)(T:Txt K mg cs)(G_is_whole_row:m7 P w K mg base cs):j6 P w K mg base cs:=by
 have nd:=sc_check_weights.nd;refine def2 Df sc_check_weights (fun ds δ q x h=>?_) (fun cdv A outer s H E Y hr=>⟨_,(o3 (n4 2 nd (y4 p4 b4 (y4 x0w r0o (j5 K (e2_v 0)) (j5 K (e2_v 0))) y3))
  (l3 (i8 (PW2.pt (e0g (z0d (x0v (u3 G_is_whole_row (hr.mono (by decide)) r0 (u0 (e2_v 1) (u0 (e2_v 2) (u0 (e2_v 2) (u0 y3 (u0 (a0b T.g_GREATEST_WEIGHT) o0)))))))) (l0a (b7 (z0h hr.units0) u0i (e2_b (e8 rfl) n0u T.n_sum u0o (u0 (e2_v 1) o0)) y3 (b5 _))))) (l3 (t0i rfl r0 T.k_NoStands T.x_NoStands T.c_NoStands)) w6))),fun ds δ q x h=>?_⟩)
 ·unfold p0h at h;obtain ⟨full,mark,shs,d,rfl,h,ht,hq,hx⟩:=h;rfl
 ·unfold p0h at h;obtain ⟨full,mark,shs,d,rfl,h,ht,hq,hx⟩:=h;rw[show v4 ["part","weights","many"] _=[.val _,.val _,.no]from rfl];have f2:=h.f2;have m1:=h.m1;have m2:=h.m2;have em:full-mark+1=(mOf full mark:Int):=by unfold mOf;omega
  unfold m5;walk_at "ds";rw[em];refine ⟨ht,by unfold mOf;omega,?_⟩;unfold wtsD at hq hx;cases ev:u0z d (mOf full mark) (mOf full mark) 0 1000000 with
  |false=>
   rw[ev]at hx;walk_at "ds";exact hx rfl
  |true=>
   rw[ev,Bool.true_and]at hq hx;have hv:∃ns:List Int,(d=.lst (ns.map D.int)∨d=.tup (ns.map D.int))∧bigD ns:=by
    unfold u0z at ev;cases er:rowD d with
    |none=>rw[er]at ev;cases ev
    |some xs=>
     rw[er]at ev;simp only[Bool.and_eq_true,decide_eq_true_eq]at ev;obtain ⟨ns,rfl,hn⟩:=z0t ev.2;refine ⟨ns,?_,fun n m=>(hn n m).1,?_⟩
     ·cases d<;>first |(cases er;exact .inl rfl)|(cases er;exact .inr rfl)|cases er
     ·have e2:=(f0r hn).2;have:=ev.1.2;rw[List.length_map]at this;have:(ns.length:Int)≤7:=by unfold mOf at this;omega
      omega
   obtain ⟨ns,hv,hf⟩:=hv;rcases hv with rfl |rfl
   all_goals
    simp only[rowD,Option.getD_some,l5]at hq hx;walk_at "ds";rw[l5];refine ⟨hf,?_⟩;by_cases hs:ns.sum=0
    ·rw[decide_eq_true hs]at hx;rw[if_pos hs];exact hx rfl
    ·rw[decide_eq_false hs]at hq;rw[if_neg hs];exact hq rfl
noncomputable abbrev w8:List Str:=["rounds","fewest"]
theorem sc_check_looks:FnScope ["rounds","fewest"] w8 (defScope z0y):=⟨rfl,rfl,rfl,by decide +kernel,rfl,by decide +kernel,by decide +kernel⟩
noncomputable abbrev v8(P:Program)(w:World)(K:PySem.W.Frag)(mg:Str→Option Value)(base:Heap)(cs:Cs):Prop:=Fun2 P w K mg base "check_looks" 4 w8 (p0g cs)
theorem r0j{f:Addr}{fd:FuncData}(Df:DefAt K mg "check_looks" z0y w8 f fd)(T:Txt K mg cs)(G_is_whole:d6 P w K mg base cs):v8 P w K mg base cs:=by
 have nd:=sc_check_looks.nd;refine def2 Df sc_check_looks (fun ds δ q x h=>?_) (fun cdv A outer s H E Y hr=>⟨_,(l3 (i8 (z0d (x0v (u3 G_is_whole (hr.mono (by decide)) r0 (u0 (e2_v 0) (u0 (e2_v 1) (u0 (a0b T.g_MOST_ROUNDS_HERE) o0)))))) (l3 (t0i rfl r0 T.k_NoRounds T.x_NoRounds T.c_NoRounds)) w6)),fun ds δ q x h=>?_⟩)
 ·unfold p0g at h;obtain ⟨d,lo,rfl,hd,hq,hx⟩:=h;rfl
 ·unfold p0g at h;obtain ⟨d,lo,rfl,hd,hq,hx⟩:=h;rw[show v4 ["rounds","fewest"] _=[.val _,.val _]from rfl];walk_at "ds";refine ⟨hd,?_⟩;cases e:i4 d lo 4 with
  |true=>
   walk_at "ds";exact hq e
  |false=>
   walk_at "ds";exact hx e
noncomputable abbrev v0t:List Str:=["part","weights","prices","rounds"]
theorem sc_risk_of:FnScope ["part","weights","prices","rounds"] v0t (defScope s0x):=⟨rfl,rfl,rfl,by decide +kernel,rfl,by decide +kernel,by decide +kernel⟩
noncomputable abbrev k8(P:Program)(w:World)(K:PySem.W.Frag)(mg:Str→Option Value)(base:Heap)(cs:Cs):Prop:=Fun2 P w K mg base "risk_of" 20 v0t (j0r cs)
theorem i0t{f:Addr}{fd:FuncData}(Df:DefAt K mg "risk_of" s0x v0t f fd)(T:Txt K mg cs)(G_check_weights:j6 P w K mg base cs)(G_check_looks:v8 P w K mg base cs)(G_least_cost:e7 4 P w K mg base cs)(G_known_waits:x8 P w K mg base cs):k8 P w K mg base cs:=by
 have nd:=sc_risk_of.nd;refine def2 Df sc_risk_of (fun ds δ q x h=>?_) (fun cdv A outer s H E Y hr=>⟨_,(o3 (x0r (u3 G_check_weights (hr.mono (by decide)) r0 (u0 (e2_v 0) (u0 (e2_v 1) o0))))
  (o3 (x0r (u3 G_check_looks (hr.mono (by decide)) r0 (u0 (e2_v 3) (u0 y3 o0))))
  (l3 (o4 (u3 G_least_cost (hr.mono (by decide)) r0 (u0 (e2_v 0) (u0 (e2_v 1) (u0 (e2_v 2) (u0 (u3 G_known_waits (hr.mono (by decide)) r0 (u0 (e2_v 0) (u0 (e2_v 2) (u0 (e2_v 3) o0)))) o0))))))))),fun ds δ q x h=>?_⟩)
 ·unfold j0r at h;obtain ⟨full,mark,shs,d,z,rd,rfl,h,hz,hd,hr',hx1,hx2,hq⟩:=h;rfl
 ·unfold j0r at h;obtain ⟨full,mark,shs,d,z,rd,rfl,h,hz,hd,hr',hx1,hx2,hq⟩:=h;rw[show v4 ["part","weights","prices","rounds"] _=[.val _,.val _,.val _,.val _]from rfl];have f2:=h.f2;have m1:=h.m1;have m2:=h.m2;have hm7:mOf full mark≤7:=by unfold mOf;omega
  walk_at "ds";refine ⟨full,mark,shs,d,rfl,h,hd,fun e1=>?_,hx1⟩;walk_at "ds";refine ⟨rd,0,rfl,hr',fun e2=>?_,hx2 e1⟩;obtain ⟨i,rfl,i1,i2⟩:=m9 e2;have ei:i=((i.toNat:Nat):Int):=by omega
  rw[ei]at hq ⊢;walk_at "ds";refine ⟨full,mark,shs,z,i.toNat,rfl,h,hz,by omega,?_⟩;obtain ⟨w,hw1,hw2,hw3,hw4⟩:=f0n e1;have ws:=j0s hw2 hm7 (by decide);have big:(1:Int)≤36^(4-i.toNat):=by
   have:i.toNat=0∨i.toNat=1∨i.toNat=2∨i.toNat=3∨i.toNat=4:=by omega
   rcases this with e |e |e |e |e<;>(rw[e];decide)
  rw[show v0x shs z (mOf full mark) i.toNat=.lst ((List.range i.toNat).map (v0y shs z (mOf full mark)))from rfl];walk_at "ds";refine ⟨full,mark,shs,w,d,z,i.toNat,rfl,by omega,hw1,h,hz,by omega,⟨fun a ha=>?_⟩,by omega,?_⟩
  ·have:=hw2.n a ha;omega
  ·exact hq e1 w _ hw1 hw4 rfl (by omega)
theorem v0s{xs:List Int}:o8 (.tup (xs.map D.int))=true:=by
 unfold o8 rowD;dsimp only;rw[List.all_eq_true.mpr fun x hx=>by obtain ⟨z,_,rfl⟩:=List.mem_map.mp hx;rfl];rfl
noncomputable def x0e(cs:Cs):Sp2:=fun ds δ q x=>∃full mark shs d z rd,ds=[m5 cs full mark shs,d,y7 cs z,rd]∧ShOk full mark shs∧PrOk z∧a5 d=true∧a5 rd=true∧(i4 d mark full=false→x cs.NoStands [] δ)∧(i4 d mark full=true→i4 rd 0 4=false→x cs.NoRounds [] δ)∧
 (∀(s n:Nat),d=.int (mark+(s:Int))→s<mOf full mark→rd=.int ((n:Nat):Int)→n≤4→q (.int (n3 shs z (mOf full mark) n (un s))) δ)
theorem b0v{s m:Nat}(hs:s<m):∀i,m≤i→un s i=0:=fun i hi=>if_neg (by omega)
theorem un_wt{s m:Nat}{c:Int}(hc:1≤c):WtOk m (un s) c:=⟨fun a _=>⟨r0w,by have:un s a≤1:=(by unfold un;split<;>decide);omega⟩⟩
noncomputable abbrev z9:List Str:=["part","stand","prices","rounds"]
theorem sc_least_risk:FnScope ["part","stand","prices","rounds"] z9 (defScope z0b):=⟨rfl,rfl,rfl,by decide +kernel,rfl,by decide +kernel,by decide +kernel⟩
noncomputable abbrev y0r(P:Program)(w:World)(K:PySem.W.Frag)(mg:Str→Option Value)(base:Heap)(cs:Cs):Prop:=Fun2 P w K mg base "least_risk" 21 z9 (x0e cs)
theorem p0f{f:Addr}{fd:FuncData}(Df:DefAt K mg "least_risk" z0b z9 f fd)(T:Txt K mg cs)(G_check_stand:z0s P w K mg base cs)(G_risk_of:k8 P w K mg base cs)(G_weights_of:v6 P w K mg base cs):y0r P w K mg base cs:=by
 have nd:=sc_least_risk.nd;refine def2 Df sc_least_risk (fun ds δ q x h=>?_) (fun cdv A outer s H E Y hr=>⟨_,(o3 (x0r (u3 G_check_stand (hr.mono (by decide)) r0 (u0 (e2_v 0) (u0 (e2_v 1) o0))))
  (l3 (o4 (u3 G_risk_of (hr.mono (by decide)) r0 (u0 (e2_v 0) (u0 (u3 G_weights_of (hr.mono (by decide)) r0 (u0 (e2_v 0) (u0 (e2_v 1) o0))) (u0 (e2_v 2) (u0 (e2_v 3) o0)))))))),fun ds δ q x h=>?_⟩)
 ·unfold x0e at h;obtain ⟨full,mark,shs,d,z,rd,rfl,h,hz,hd,hr',hx1,hx2,hq⟩:=h;rfl
 ·unfold x0e at h;obtain ⟨full,mark,shs,d,z,rd,rfl,h,hz,hd,hr',hx1,hx2,hq⟩:=h;rw[show v4 ["part","stand","prices","rounds"] _=[.val _,.val _,.val _,.val _]from rfl];have f2:=h.f2;have m1:=h.m1;have m2:=h.m2;walk_at "ds";refine ⟨full,mark,shs,d,rfl,hd,fun e1=>?_,hx1⟩;obtain ⟨i,rfl,i1,i2⟩:=m9 e1;have ei:i=mark+(((i-mark).toNat:Nat):Int):=by omega
  have hs:(i-mark).toNat<mOf full mark:=by unfold mOf;omega
  generalize (i-mark).toNat=s at ei hs;subst ei;walk_at "ds";refine ⟨full,mark,shs,_,rfl,m1,m2,f2,?_⟩;rw[y1x];walk_at "ds";have ok:wtsD (mOf full mark) (.tup ((rowN (mOf full mark) (un s)).map D.int))=true:=f0m (.inl rfl) (un_wt (by decide)) (by rw[u0n hs];decide);refine ⟨full,mark,shs,_,z,rd,rfl,h,hz,v0s,hr',fun e=>(by rw[ok]at e;cases e),fun _=>hx2 e1,fun _ w n hw hw0 e hn=>?_⟩;have e3:w=un s:=by
   funext j;by_cases hj:j<mOf full mark
   ·exact l0u hw (.inl rfl) j hj
   ·rw[hw0 j (by omega),b0v hs j (by omega)]
  rw[e3];exact hq s n rfl hs e hn
theorem DkAt.mono{p:Addr}{ns:List Int}{n m:Nat}{δ:Dk}(h:DkAt p ns n δ)(l:n≤m):DkAt p ns m δ:=by
 obtain ⟨c,k,e,h1,h2,h3⟩:=h;exact ⟨c,k,e,h1,h2,by omega⟩
noncomputable def d7(full mark:Int)(shs:List Int):D:=.tup [.int full,.int mark,.tup (shs.map D.int)]
theorem f0l{ns:List Int}(h:∀z∈ns,0≤z){a:Int}(ha:a∈ns)(h0:a≠0):ns.sum≠0:=by
 have e:=v0m h ha;have:=h a ha;omega
noncomputable def l0t:Sp2:=fun ds δ q _=>∃p ns n most,ds=[.ref p,.int most]∧DkAt p ns n δ∧n<2^20∧1≤most∧most≤6∧∀full mark shs δ',ShOk full mark shs→shs.sum≠0→full≤most→DkAt p ns (n+9) δ'→q (d7 full mark shs) δ'
noncomputable def r0u:Sp2:=fun ds δ q _=>∃p ns n full mark shs,ds=[.ref p,d7 full mark shs]∧DkAt p ns n δ∧n<2^20∧ShOk full mark shs∧∀w δ',WtOk (mOf full mark) w 11→m3 (mOf full mark) w≠0→(∀i,mOf full mark≤i→w i=0)→DkAt p ns (n+16) δ'→q (.lst ((rowN (mOf full mark) w).map D.int)) δ'
noncomputable def x0d(z:PrZ):D:=.lst [.int z.look,.int z.change,.int z.fall]
noncomputable def p0e:Sp2:=fun ds δ q _=>∃p ns n,ds=[.ref p]∧DkAt p ns n δ∧n<2^20∧∀z δ',PrOk z→DkAt p ns (n+9) δ'→q (x0d z) δ'
noncomputable def y1w:Sp2:=fun ds δ q _=>∃full mark shs n,ds=[d7 full mark shs,.int n]∧ShOk full mark shs∧0≤n∧n≤12∧q (.int (shs.sum^n.toNat)) δ
noncomputable abbrev v0r:List Str:=["_law_spec","_law_rounds"]
theorem sc_law_all:FnScope ["_law_spec","_law_rounds","_law_cases","_law_turn"] v0r (defScope s0w):=⟨rfl,rfl,rfl,by decide +kernel,rfl,by decide +kernel,by decide +kernel⟩
noncomputable abbrev y0q(P:Program)(w:World)(K:PySem.W.Frag)(mg:Str→Option Value)(base:Heap)(cs:Cs):Prop:=Fun2 P w K mg base "_law_all" 2 v0r y1w
theorem i0s{f:Addr}{fd:FuncData}(Df:DefAt K mg "_law_all" s0w v0r f fd)(T:Txt K mg cs):y0q P w K mg base cs:=by
 have nd:=sc_law_all.nd;refine def2 Df sc_law_all (fun ds δ q x h=>?_) (fun cdv A outer s H E Y hr=>⟨_,(o3 (n4 2 nd y3)
  (o3 (x0u PassesOwn.leaving rfl (n9 T.n_range (u0 (e2_v 1) o0)) (m4 (i:=3) nd rfl (by first |exact Or.inl rfl |exact Or.inr rfl)) (q0l (i:=3)) (l3 (n4 2 nd (y4 d4 z6 (e2_v 2) (e2_b (e8 rfl) z1t T.n_sum u0o (u0 (l4 0 y3) o0))))))
  (l3 (o4 (e2_v 2))))),fun ds δ q x h=>?_⟩)
 ·unfold y1w at h;obtain ⟨full,mark,shs,n,rfl,h,n1,n2,hq⟩:=h;rfl
 ·unfold y1w at h;obtain ⟨full,mark,shs,n,rfl,h,n1,n2,hq⟩:=h;rw[show v4 ["_law_spec","_law_rounds","_law_cases","_law_turn"] _=[.val _,.val _,.no,.no]from rfl];have sm:=y0s h;unfold d7;walk_at "dn";refine ⟨⟨by omega,by omega⟩,?_⟩;refine f9 (fun i ρ δ'=>∃c3,ρ=[.val (.tup [.int full,.int mark,.tup (shs.map D.int)]),.val (.int n),.val (.int (shs.sum^i)),c3]∧δ'=δ) ⟨_,by rw[Int.pow_zero],rfl⟩ ?_ ?_
  ·rintro i d ρ δ' rest hi ⟨c3,rfl,rfl⟩ hrest;unfold v0o;walk_at "dn";rw[l5];refine ⟨f0q h,.inr ⟨by omega,by omega⟩,hrest _ _ ⟨_,by rw[Int.pow_succ],rfl⟩⟩
  ·rintro ρ δ' ⟨c3,rfl,rfl⟩;rw[i5];exact hq
noncomputable abbrev z0m:List Str:=["_law_deck_here","_law_most"]
theorem sc_law_short:FnScope ["_law_deck_here","_law_most","_law_full","_law_mark","_law_shares"] z0m (defScope x0j):=⟨rfl,rfl,rfl,by decide +kernel,rfl,by decide +kernel,by decide +kernel⟩
noncomputable abbrev x0c(P:Program)(w:World)(K:PySem.W.Frag)(mg:Str→Option Value)(base:Heap)(cs:Cs):Prop:=Fun2 P w K mg base "_law_short" 5 z0m l0t
theorem n0o{f:Addr}{fd:FuncData}(Df:DefAt K mg "_law_short" x0j z0m f fd)(T:Txt K mg cs)(G_law_take:a6 P w K mg base cs):x0c P w K mg base cs:=by
 have nd:=sc_law_short.nd;refine def2 Df sc_law_short (fun ds δ q x h=>?_) (fun cdv A outer s H E Y hr=>⟨_,(o3 (n4 2 nd (y4 p4 b4 y3 (u3 G_law_take (hr.mono (by decide)) r0 (u0 (e2_v 0) (u0 (e2_v 1) o0)))))
  (o3 (n4 3 nd (y4 d4 z6 (u3 G_law_take (hr.mono (by decide)) r0 (u0 (e2_v 0) (u0 (y4 p4 b4 (e2_v 2) y3) o0))) (u3 G_law_take (hr.mono (by decide)) r0 (u0 (e2_v 0) (u0 y3 o0)))))
  (o3 (g0s (i:=4) rfl (CompOkM.of ["_law_k"] [0] rfl) (n9 T.n_range (u0 (y4 p4 b4 y3 (u3 G_law_take (hr.mono (by decide)) r0 (u0 (e2_v 0) (u0 y3 o0)))) o0)) (fun nd _ _ _ _ _=>(m4 (i:=0) nd rfl (by first |exact Or.inl rfl |exact Or.inr rfl))) f8 (fun _ _ _ _ _ _=>r9) (fun _ _ _ _ _ _=>(u3 G_law_take (hr.mono (by decide)) r0a (u0 (e2_v 1) (u0 y3 o0)))) nd)
  (o3 (x0q 4 (k0u y3) (y4 p4 b4 y3 (u3 G_law_take (hr.mono (by decide)) r0 (u0 (e2_v 0) (u0 y3 o0)))))
  (l3 (o4 (u0p (u0 (e2_v 2) (u0 (e2_v 3) (u0 (j0d a7 q0n T.n_tuple w0x (u0 (e2_v 4) o0)) o0)))))))))),fun ds δ q x h=>?_⟩)
 ·unfold l0t at h;obtain ⟨p,ns,n,most,rfl,hD,hn,o1,o6,hq⟩:=h;rfl
 ·unfold l0t at h;obtain ⟨p,ns,n,most,rfl,hD,hn,o1,o6,hq⟩:=h;rw[show v4 ["_law_deck_here","_law_most","_law_full","_law_mark","_law_shares"] _=[.val _,.val _,.no,.no,.no]from rfl];walk_at "ds";refine ⟨p,ns,_,most,rfl,hD,by omega,by omega,by omega,fun a0 δ0 a1 a2 hD=>?_⟩;walk_at "ds";refine ⟨p,ns,_,1+a0+1,rfl,hD,by omega,by omega,by omega,fun b0 δ1 b1 b2 hD=>?_⟩;walk_at "ds";refine ⟨p,ns,_,2,rfl,hD,by omega,by decide,by decide,fun c0 δ2 c1 c2 hD=>?_⟩;walk_at "ds";refine ⟨.inl ⟨by omega,by omega⟩,?_⟩;refine ⟨p,ns,_,4,rfl,hD,by omega,by decide,by decide,fun d0 δ3 d1 d2 hD=>?_⟩;walk_at "ds";have hc:c0=0∨c0=1:=by omega
  have hmark:0≤b0*c0∧b0*c0≤1+a0:=by
   rcases hc with rfl |rfl
   ·rw[Int.mul_zero];omega
   ·rw[Int.mul_one];omega
  generalize b0*c0=mk at hmark;have hsz:(rngD 0 (1+d0).toNat).length≤4:=by rw[i5];omega
  have hs0:0<(rngD 0 (1+d0).toNat).length:=by rw[i5];omega
  refine ⟨⟨by omega,by omega⟩,?_⟩;refine u0d (fun i acc δ'=>∃ws:List Int,acc=ws.map D.int∧ws.length=i∧(∀x∈ws,0≤x∧x≤9)∧DkAt p ns (n+4+i) δ') ⟨[],rfl,rfl,fun x hx=>(by cases hx),hD⟩ ?_ ?_
  ·rintro i d acc δ' rest hi ⟨ws,rfl,hwl,hw,hD⟩ hrest;have hlt:=(List.getElem?_eq_some_iff.mp hi).1;walk_at "ds";refine ⟨p,ns,_,10,rfl,hD,by omega,by decide,by decide,fun x0 δ5 x1 x2 hD=>?_⟩;refine ⟨by rw[List.length_map];omega,hrest _ _ ⟨ws++[x0],by rw[List.map_append];rfl,by rw[List.length_append,hwl];rfl,fun y hy=>?_,hD⟩⟩;rcases List.mem_append.mp hy with hy |hy
   ·exact hw y hy
   ·rw[List.mem_singleton.mp hy];omega
  ·rintro acc δ' ⟨ws,rfl,hwl,hw,hD⟩;refine ⟨p,ns,_,9,rfl,hD,by omega,by decide,by decide,fun y0 δ6 y1 y2 hD=>?_⟩;walk_at "ds";rw[p0k (by rw[List.length_map];omega)];walk_at "ds";rw[show (ws.map D.int).set ((ws.map D.int).length-1) (.int (1+y0))=(ws.set (ws.length-1) (1+y0)).map D.int by rw[List.length_map,List.map_set]];have hw2:∀x∈ws.set (ws.length-1) (1+y0),0≤x∧x≤9:=fun x hx=>by
    rcases List.mem_or_eq_of_mem_set hx with h |h
    ·exact hw x h
    ·omega
   exact hq _ _ _ _ ⟨by omega,by omega,hmark.1,hmark.2,by rw[List.length_set];omega,by rw[List.length_set];omega,hw2⟩ (f0l (fun z hz=>(hw2 z hz).1) (a:=1+y0) (List.mem_set (by omega) _) (by omega)) (by omega) (hD.mono (by omega))
noncomputable abbrev u8:List Str:=["_law_deck_here","_law_spec"]
theorem sc_law_weights:FnScope ["_law_deck_here","_law_spec","_law_found"] u8 (defScope z0x):=⟨rfl,rfl,rfl,by decide +kernel,rfl,by decide +kernel,by decide +kernel⟩
noncomputable abbrev z0l(P:Program)(w:World)(K:PySem.W.Frag)(mg:Str→Option Value)(base:Heap)(cs:Cs):Prop:=Fun2 P w K mg base "_law_weights" 5 u8 r0u
theorem r0i{f:Addr}{fd:FuncData}(Df:DefAt K mg "_law_weights" z0x u8 f fd)(T:Txt K mg cs)(G_law_take:a6 P w K mg base cs):z0l P w K mg base cs:=by
 have nd:=sc_law_weights.nd;refine def2 Df sc_law_weights (fun ds δ q x h=>?_) (fun cdv A outer s H E Y hr=>⟨_,(o3 (g0s (i:=2) rfl (CompOkM.of ["_law_k"] [0] rfl) (n9 T.n_range (u0 (y4 p4 b4 (y4 x0w r0o (l4 1 y3) (l4 1 y3)) y3) o0)) (fun nd _ _ _ _ _=>(m4 (i:=0) nd rfl (by first |exact Or.inl rfl |exact Or.inr rfl))) f8 (fun _ _ _ _ _ _=>r9) (fun _ _ _ _ _ _=>(y4 d4 z6 (u3 G_law_take (hr.mono (by decide)) r0a (u0 (e2_v 1) (u0 y3 o0))) (u3 G_law_take (hr.mono (by decide)) r0a (u0 (e2_v 1) (u0 y3 o0))))) nd)
  (o3 (x0q 2 (u3 G_law_take (hr.mono (by decide)) r0 (u0 (e2_v 0) (u0 (u9 2 T.n_len) o0))) (y4 p4 b4 y3 (u3 G_law_take (hr.mono (by decide)) r0 (u0 (e2_v 0) (u0 y3 o0)))))
  (l3 (o4 (e2_v 2))))),fun ds δ q x h=>?_⟩)
 ·unfold r0u at h;obtain ⟨p,ns,n,full,mark,shs,rfl,hD,hn,h,hq⟩:=h;rfl
 ·unfold r0u at h;obtain ⟨p,ns,n,full,mark,shs,rfl,hD,hn,h,hq⟩:=h;rw[show v4 ["_law_deck_here","_law_spec","_law_found"] _=[.val _,.val _,.no]from rfl];have f2:=h.f2;have m1:=h.m1;have m2:=h.m2;have em:full-mark+1=(mOf full mark:Int):=by unfold mOf;omega
  have hm7:mOf full mark≤7:=by unfold mOf;omega
  have hm0:0<mOf full mark:=by unfold mOf;omega
  unfold d7;walk_at "ds";rw[em,Int.toNat_natCast];refine ⟨⟨by omega,by omega⟩,?_⟩;refine u0d (fun i acc δ'=>∃ws:List Int,acc=ws.map D.int∧ws.length=i∧(∀x∈ws,0≤x∧x≤11)∧DkAt p ns (n+2*i) δ') ⟨[],rfl,rfl,fun x hx=>(by cases hx),hD⟩ ?_ ?_
  ·rintro i d acc δ' rest hi ⟨ws,rfl,hwl,hw,hD⟩ hrest;have hlt:=(List.getElem?_eq_some_iff.mp hi).1;rw[i5]at hlt;walk_at "ds";refine ⟨p,ns,_,12,rfl,hD,by omega,by decide,by decide,fun x0 δ5 x1 x2 hD=>?_⟩;walk_at "ds";refine ⟨p,ns,_,2,rfl,hD,by omega,by decide,by decide,fun c0 δ6 c1 c2 hD=>?_⟩;walk_at "ds";have hc:c0=0∨c0=1:=by omega
   have hx:0≤x0*c0∧x0*c0≤11:=by
    rcases hc with rfl |rfl
    ·rw[Int.mul_zero];omega
    ·rw[Int.mul_one];omega
   refine ⟨.inl ⟨by omega,by omega⟩,by rw[List.length_map];omega,hrest _ _ ⟨ws++[x0*c0],by rw[List.map_append];rfl,by rw[List.length_append,hwl];rfl,fun y hy=>?_,hD⟩⟩;rcases List.mem_append.mp hy with hy |hy
   ·exact hw y hy
   ·rw[List.mem_singleton.mp hy];exact hx
  ·rintro acc δ' ⟨ws,rfl,hwl,hw,hD⟩;rw[i5]at hwl hD;refine ⟨p,ns,_,11,rfl,hD,by omega,by decide,by decide,fun y0 δ6 y1 y2 hD=>?_⟩;walk_at "ds";rw[List.length_map];refine ⟨p,ns,_,(ws.length:Int),rfl,hD,by omega,by omega,by omega,fun i0 δ7 i1 i2 hD=>?_⟩;walk_at "ds";have ei:i0=((i0.toNat:Nat):Int):=by omega
   have hi:i0.toNat<ws.length:=by omega
   rw[ei,List.length_map,m0a hi];walk_at "ds";have ew:=f0t (ws.set i0.toNat (1+y0));rw[List.length_set,hwl]at ew;rw[←List.map_set,ew];have hw2:∀x∈ws.set i0.toNat (1+y0),0≤x∧x≤11:=fun x hx=>by
    rcases List.mem_or_eq_of_mem_set hx with h |h
    ·exact hw x h
    ·omega
   refine hq _ _ ⟨fun i hi=>?_⟩ ?_ (fun i hi=>?_) (hD.mono (by omega))
   ·rw[List.getD_eq_getElem?_getD,List.getElem?_eq_getElem (by rw[List.length_set];omega)];exact hw2 _ (List.getElem_mem _)
   ·rw[←m6,← ew];exact f0l (fun z hz=>(hw2 z hz).1) (a:=1+y0) (List.mem_set hi _) (by omega)
   ·rw[List.getD_eq_getElem?_getD,List.getElem?_eq_none (by rw[List.length_set];omega)];rfl
noncomputable def prT:TS2:=fun E ρ δ=>∃p ns n z,ρ=[.val (.ref p),.own [.int z.look,.int z.change,.int z.fall]]∧PrOk z∧DkAt p ns n δ∧n<2^21∧∀z δ',PrOk z→DkAt p ns (n+4) δ'→E.rt (x0d z) δ'
noncomputable abbrev y9:List Str:=["_law_deck_here"]
theorem sc_law_prices:FnScope ["_law_deck_here","_law_found"] y9 (defScope z0a):=⟨rfl,rfl,rfl,by decide +kernel,rfl,by decide +kernel,by decide +kernel⟩
noncomputable abbrev y0p(P:Program)(w:World)(K:PySem.W.Frag)(mg:Str→Option Value)(base:Heap)(cs:Cs):Prop:=Fun2 P w K mg base "_law_prices" 5 y9 p0e
theorem p0d{f:Addr}{fd:FuncData}(Df:DefAt K mg "_law_prices" z0a y9 f fd)(T:Txt K mg cs)(G_law_take:a6 P w K mg base cs):y0p P w K mg base cs:=by
 have nd:=sc_law_prices.nd;refine def2 Df sc_law_prices (fun ds δ q x h=>?_) (fun cdv A outer s H E Y hr=>⟨_,(o3 (k0o 1 nd (u0 (y4 d4 z6 (u3 G_law_take (hr.mono (by decide)) r0 (u0 (e2_v 0) (u0 y3 o0))) (u3 G_law_take (hr.mono (by decide)) r0 (u0 (e2_v 0) (u0 y3 o0)))) (u0 (u3 G_law_take (hr.mono (by decide)) r0 (u0 (e2_v 0) (u0 y3 o0))) (u0 (u3 G_law_take (hr.mono (by decide)) r0 (u0 (e2_v 0) (u0 y3 o0))) o0))))
  (o3 (i8 (b7 (z0h hr.units0) u0i (u3 G_law_take (hr.mono (by decide)) r0 (u0 (e2_v 0) (u0 y3 o0))) y3 (b5 _)) (l3 (x0q 1 y3 (y4 n0f h0h (l4 1 y3) y3))) w6)
  (q0g (t':=prT) (o3 (i8 (b7 (z0h hr.units0) u0i (u3 G_law_take (hr.mono (by decide)) r0 (u0 (e2_v 0) (u0 y3 o0))) y3 (b5 _)) (l3 (k0o 1 nd (u0 (u3 G_law_take (hr.mono (by decide)) r0 (u0 (e2_v 0) (u0 y3 o0))) (u0 (u3 G_law_take (hr.mono (by decide)) r0 (u0 (e2_v 0) (u0 y3 o0))) (u0 (u3 G_law_take (hr.mono (by decide)) r0 (u0 (e2_v 0) (u0 y3 o0))) o0))))) w6)
  (l3 (o4 (e2_v 1)))) (by
   rintro E ρ δ ⟨p,ns,n,z,rfl,hz,hD,hn,hq⟩;walk_at "ds";refine ⟨p,ns,_,5,rfl,hD,by omega,by decide,by decide,fun a0 δ0 a1 a2 hD=>?_⟩;walk_at "ds";split
   ·refine ⟨p,ns,_,100,rfl,hD,by omega,by decide,by decide,fun b0 δ1 b1 b2 hD=>?_⟩;walk_at "ds";refine ⟨p,ns,_,100,rfl,hD,by omega,by decide,by decide,fun c0 δ2 c1 c2 hD=>?_⟩;walk_at "ds";refine ⟨p,ns,_,100,rfl,hD,by omega,by decide,by decide,fun d0 δ3 d1 d2 hD=>?_⟩;walk_at "ds";exact hq ⟨b0,c0,d0⟩ _ ⟨⟨b1,by show b0≤99;omega⟩,⟨c1,by show c0≤99;omega⟩,⟨d1,by show d0≤99;omega⟩⟩ (hD.mono (by omega))
   ·exact hq z _ hz (hD.mono (by omega)))))),fun ds δ q x h=>?_⟩)
 ·unfold p0e at h;obtain ⟨p,ns,n,rfl,hD,hn,hq⟩:=h;rfl
 ·unfold p0e at h;obtain ⟨p,ns,n,rfl,hD,hn,hq⟩:=h;rw[show v4 ["_law_deck_here","_law_found"] _=[.val _,.no]from rfl];walk_at "ds";refine ⟨p,ns,_,6,rfl,hD,by omega,by decide,by decide,fun a0 δ0 a1 a2 hD=>?_⟩;walk_at "ds";refine ⟨p,ns,_,2,rfl,hD,by omega,by decide,by decide,fun b0 δ1 b1 b2 hD=>?_⟩;walk_at "ds";have hc:b0=0∨b0=1:=by omega
  have hx:0≤a0*b0∧a0*b0≤5:=by
   rcases hc with rfl |rfl
   ·rw[Int.mul_zero];omega
   ·rw[Int.mul_one];omega
  refine ⟨.inl ⟨by omega,by omega⟩,?_⟩;refine ⟨p,ns,_,30,rfl,hD,by omega,by decide,by decide,fun c0 δ2 c1 c2 hD=>?_⟩;walk_at "ds";refine ⟨p,ns,_,100,rfl,hD,by omega,by decide,by decide,fun d0 δ3 d1 d2 hD=>?_⟩;walk_at "ds";refine ⟨p,ns,_,4,rfl,hD,by omega,by decide,by decide,fun e0 δ4 e1 e2 hD=>?_⟩;walk_at "ds";split
  ·refine ⟨⟨by decide,by decide⟩,p,ns,_,⟨a0*b0,c0/4,d0⟩,rfl,⟨⟨hx.1,by show a0*b0≤99;omega⟩,⟨by show 0≤c0/4;omega,by show c0/4≤99;omega⟩,⟨d1,by show d0≤99;omega⟩⟩,hD,by omega,fun z δ' hz hD=>hq z δ' hz (hD.mono (by omega))⟩
  ·exact ⟨p,ns,_,⟨a0*b0,c0,d0⟩,rfl,⟨⟨hx.1,by show a0*b0≤99;omega⟩,⟨c1,by show c0≤99;omega⟩,⟨d1,by show d0≤99;omega⟩⟩,hD,by omega,fun z δ' hz hD=>hq z δ' hz (hD.mono (by omega))⟩
noncomputable def y1v(shs:List Int)(z:PrZ)(m n:Nat)(w:Wt):Str:=
 if o5 shs z m (n3 shs z m n) n w≤z0r shs z m (n3 shs z m n) n w∧o5 shs z m (n3 shs z m n) n w≤m3 m w*chW shs z m (n3 shs z m n) n then "wait" else if z0r shs z m (n3 shs z m n) n w≤m3 m w*chW shs z m (n3 shs z m n) n then "look" else "change"
theorem idx3{a b c k:Int}(h:i0x [a,b,c] k):k∈[a,b,c]∧[a,b,c].idxOf k=if a≤b∧a≤c then 0 else if b≤c then 1 else 2:=by
 obtain ⟨h1,h2⟩:=h;refine ⟨h1,?_⟩;have a1:=h2 _ (List.mem_cons_self ..);have a2:=h2 _ (List.mem_cons_of_mem _ (List.mem_cons_self ..));have a3:=h2 _ (List.mem_cons_of_mem _ (List.mem_cons_of_mem _ (List.mem_cons_self ..)));simp only[List.mem_cons,List.not_mem_nil,or_false]at h1;simp only[List.idxOf_cons,beq_iff_eq];by_cases e1:a=k
 ·rw[if_pos (by omega),show (a==k)=true from beq_iff_eq.mpr e1];rfl
 ·rw[if_neg (by omega),show (a==k)=false from beq_false_of_ne e1];by_cases e2:b=k
  ·rw[if_pos (by omega),show (b==k)=true from beq_iff_eq.mpr e2];rfl
  ·rw[if_neg (by omega),show (b==k)=false from beq_false_of_ne e2,show (c==k)=true from beq_iff_eq.mpr (by omega)];rfl
theorem at3{a b c k:Int}(h:i0x [a,b,c] k):atI [D.str "wait",D.str "look",D.str "change"] (([a,b,c].idxOf k:Nat):Int)=some (.str (if a≤b∧a≤c then "wait" else if b≤c then "look" else "change")):=by
 rw[(idx3 h).2];by_cases e:a≤b∧a≤c
 ·rw[if_pos e,if_pos e];rfl
 ·rw[if_neg e,if_neg e];by_cases e2:b≤c
  ·rw[if_pos e2,if_pos e2];rfl
  ·rw[if_neg e2,if_neg e2];rfl
noncomputable def j0q(cs:Cs):Sp2:=fun ds δ q x=>∃full mark shs d z rd,ds=[m5 cs full mark shs,d,y7 cs z,rd]∧ShOk full mark shs∧PrOk z∧o8 d=true∧a5 rd=true∧(wtsD (mOf full mark) d=false→x cs.NoStands [] δ)∧(wtsD (mOf full mark) d=true→i4 rd 1 4=false→x cs.NoRounds [] δ)∧
 (wtsD (mOf full mark) d=true→∀w n,RowZ d (rowN (mOf full mark) w)→(∀i,mOf full mark≤i→w i=0)→rd=.int ((n:Nat)+1:Int)→n≤3→q (.str (y1v shs z (mOf full mark) n w)) δ)
noncomputable abbrev z0k:List Str:=["part","weights","prices","rounds"]
theorem sc_best_move:FnScope ["part","weights","prices","rounds","costs"] z0k (defScope x0k):=⟨rfl,rfl,rfl,by decide +kernel,rfl,by decide +kernel,by decide +kernel⟩
noncomputable abbrev x0b(P:Program)(w:World)(K:PySem.W.Frag)(mg:Str→Option Value)(base:Heap)(cs:Cs):Prop:=Fun2 P w K mg base "best_move" 20 z0k (j0q cs)
theorem n0n{f:Addr}{fd:FuncData}(Df:DefAt K mg "best_move" x0k z0k f fd)(T:Txt K mg cs)(G_check_weights:j6 P w K mg base cs)(G_check_looks:v8 P w K mg base cs)(G_move_costs:i7 4 P w K mg base cs)(G_known_waits:x8 P w K mg base cs):x0b P w K mg base cs:=by
 have nd:=sc_best_move.nd;refine def2 Df sc_best_move (fun ds δ q x h=>?_) (fun cdv A outer s H E Y hr=>⟨_,(o3 (x0r (u3 G_check_weights (hr.mono (by decide)) r0 (u0 (e2_v 0) (u0 (e2_v 1) o0))))
  (o3 (x0r (u3 G_check_looks (hr.mono (by decide)) r0 (u0 (e2_v 3) (u0 y3 o0))))
  (o3 (n4 4 nd (u3 G_move_costs (hr.mono (by decide)) r0 (u0 (e2_v 0) (u0 (e2_v 1) (u0 (e2_v 2) (u0 (u3 G_known_waits (hr.mono (by decide)) r0 (u0 (e2_v 0) (u0 (e2_v 2) (u0 (e2_v 3) o0)))) o0))))))
  (l3 (o4 (e2_ixG T.g_MOVES (g0f (e2_v 4) (u0 (e2_b (w0s rfl) j0z T.n_min t0o (u0 (e2_v 4) o0)) o0)))))))),fun ds δ q x h=>?_⟩)
 ·unfold j0q at h;obtain ⟨full,mark,shs,d,z,rd,rfl,h,hz,hd,hr',hx1,hx2,hq⟩:=h;rfl
 ·unfold j0q at h;obtain ⟨full,mark,shs,d,z,rd,rfl,h,hz,hd,hr',hx1,hx2,hq⟩:=h;rw[show v4 ["part","weights","prices","rounds","costs"] _=[.val _,.val _,.val _,.val _,.no]from rfl];have f2:=h.f2;have m1:=h.m1;have m2:=h.m2;have hm7:mOf full mark≤7:=by unfold mOf;omega
  walk_at "ds";refine ⟨full,mark,shs,d,rfl,h,hd,fun e1=>?_,hx1⟩;walk_at "ds";refine ⟨rd,1,rfl,hr',fun e2=>?_,hx2 e1⟩;obtain ⟨i,rfl,i1,i2⟩:=m9 e2;have ei:i=((i-1).toNat:Int)+1:=by omega
  have hn:(i-1).toNat≤3:=by omega
  generalize (i-1).toNat=k at ei hn;subst ei;walk_at "ds";refine ⟨full,mark,shs,z,k+1,rfl,h,hz,by omega,?_⟩;obtain ⟨w,hw1,hw2,hw3,hw4⟩:=f0n e1;have ws:=j0s hw2 hm7 (by decide);have big:(1:Int)≤36^(3-k):=by
   have:k=0∨k=1∨k=2∨k=3:=by omega
   rcases this with rfl |rfl |rfl |rfl<;>decide
  rw[show v0x shs z (mOf full mark) (k+1)=.lst ((List.range (k+1)).map (v0y shs z (mOf full mark)))from rfl];walk_at "ds";refine ⟨full,mark,shs,w,d,z,k,rfl,by omega,hw1,h,hz,by omega,⟨fun a ha=>?_⟩,by omega,?_⟩
  ·have:=hw2.n a ha;omega
  ·walk_at "ds";simp only[h8,Option.map_some];refine ⟨(by intro e;cases e),fun m hm=>?_⟩;walk_at "ds";unfold idxQ;simp only[h8,Option.map_some];refine ⟨(idx3 hm).1,?_⟩;walk_at "ds";rw[at3 hm];exact hq e1 w _ hw1 hw4 rfl hn
section
variable{shs:List Int}{z z':PrZ}{m:Nat}
structure PrLe(z z':PrZ):Prop where
 l:z.look≤z'.look
 c:z.change≤z'.change
 f:z.fall≤z'.fall
theorem b0u(hs:∀y∈shs,0≤y):0≤shs.sum:=by rw[r0x];exact u4 fun i hi=>hs _ (by rw[List.getD_eq_getElem?_getD,List.getElem?_eq_getElem hi];exact List.getElem_mem hi)
theorem fW_nn(hs:∀y∈shs,0≤y){w:Wt}(hw:∀i,i<m→0≤w i):0≤fW shs m w:=u4 fun i hi=>Int.mul_nonneg (hw i hi) (m0b hs _)
theorem c0s(hs:∀y∈shs,0≤y){w:Wt}(hw:∀i,i<m→0≤w i)(x:Nat):0≤bW shs m w x:=u4 fun i hi=>Int.mul_nonneg (hw i hi) (m0b hs _)
theorem f0k(hs:∀y∈shs,0≤y)(hz:PrLe z z'){lz lz':Wt→Int}(hl:∀w:Wt,(∀i,i<m→0≤w i)→lz w≤lz' w)(n:Nat){w:Wt}(hw:∀i,i<m→0≤w i):o5 shs z m lz n w≤o5 shs z' m lz' n w:=by
 have p:0≤shs.sum^n:=Int.pow_nonneg (b0u hs);have a:=Int.mul_le_mul_of_nonneg_right hz.f p;have b:=hl (un (m-1)) fun _ _=>r0w
 have c:=hl (bW shs m w) fun i _=>c0s hs hw i
 have d:=Int.mul_le_mul_of_nonneg_left (show z.fall*shs.sum^n+lz (un (m-1))≤z'.fall*shs.sum^n+lz' (un (m-1))by omega) (fW_nn hs hw);unfold o5;omega
theorem q0u(hs:∀y∈shs,0≤y)(hz:PrLe z z'):∀(n:Nat) {w:Wt},(∀i,i<m→0≤w i)→n3 shs z m n w≤n3 shs z' m n w
 | 0,_,_=>Int.le_refl _
 |n+1,w,hw=>by
  have W:=fun (w:Wt) (hw:∀i,i<m→0≤w i)=>f0k hs hz (lz:=n3 shs z m n) (lz':=n3 shs z' m n) (fun w hw=>q0u hs hz n hw) n hw
  have p:0≤shs.sum^(n+1):=Int.pow_nonneg (b0u hs);have c:chW shs z m (n3 shs z m n) n≤chW shs z' m (n3 shs z' m n) n:=by
   have:=Int.mul_le_mul_of_nonneg_right hz.c p;have:=W (un (m-1)) fun _ _=>r0w
   unfold chW;omega
  have l:z0r shs z m (n3 shs z m n) n w≤z0r shs z' m (n3 shs z' m n) n w:=by
   have a:=Int.mul_le_mul_of_nonneg_right (Int.mul_le_mul_of_nonneg_left hz.l (u4 hw)) p;have b:=v0z (n:=m) (f:=fun a=>w a*min (o5 shs z m (n3 shs z m n) n (un a)) (chW shs z m (n3 shs z m n) n)) (g:=fun a=>w a*min (o5 shs z' m (n3 shs z' m n) n (un a)) (chW shs z' m (n3 shs z' m n) n)) fun i hi=>Int.mul_le_mul_of_nonneg_left (by have:=W (un i) fun _ _=>r0w;omega) (hw i hi)
   unfold z0r;omega
  have k:=Int.mul_le_mul_of_nonneg_left c (u4 hw);have w1:=W w hw;unfold n3;omega
noncomputable def ad(w v:Wt):Wt:=fun x=>w x+v x
theorem fW_ad(w v:Wt):fW shs m (ad w v)=fW shs m w+fW shs m v:=by
 unfold fW;rw[←n6];exact j4 fun i _=>Int.add_mul ..
theorem bW_ad(w v:Wt):bW shs m (ad w v)=ad (bW shs m w) (bW shs m v):=by
 funext x;show m3 m _=m3 m _+m3 m _;rw[←n6];exact j4 fun i _=>Int.add_mul ..
theorem n0m(hs:∀y∈shs,0≤y):∀(n:Nat) {w v:Wt},(∀i,i<m→0≤w i)→(∀i,i<m→0≤v i)→n3 shs z m n w+n3 shs z m n v≤n3 shs z m n (ad w v)
 | 0,_,_,_,_=>Int.le_refl _
 |n+1,w,v,hw,hv=>by
  have s:m3 m (ad w v)=m3 m w+m3 m v:=n6 m;have a:o5 shs z m (n3 shs z m n) n w+o5 shs z m (n3 shs z m n) n v≤o5 shs z m (n3 shs z m n) n (ad w v):=by
   have:=n0m hs n (w:=bW shs m w) (v:=bW shs m v) (fun i _=>c0s hs hw i) (fun i _=>c0s hs hv i);unfold o5;rw[fW_ad,bW_ad,Int.add_mul];omega
  have b:z0r shs z m (n3 shs z m n) n w+z0r shs z m (n3 shs z m n) n v=z0r shs z m (n3 shs z m n) n (ad w v):=by
   unfold z0r;rw[s,Int.add_mul,Int.add_mul,show (fun a=>ad w v a*min (o5 shs z m (n3 shs z m n) n (un a)) (chW shs z m (n3 shs z m n) n))=fun a=>w a*min (o5 shs z m (n3 shs z m n) n (un a)) (chW shs z m (n3 shs z m n) n)+v a*min (o5 shs z m (n3 shs z m n) n (un a)) (chW shs z m (n3 shs z m n) n)from funext fun a=>Int.add_mul ..,n6];omega
  have c:m3 m (ad w v)*chW shs z m (n3 shs z m n) n=m3 m w*chW shs z m (n3 shs z m n) n+m3 m v*chW shs z m (n3 shs z m n) n:=by rw[s,Int.add_mul]
  unfold n3;omega
end
theorem n0l{xs:List D}(h:∀x∈xs,a5 x=true):o8 (.lst xs)=true:=by
 unfold o8 rowD;dsimp only;rw[List.all_eq_true.mpr h];rfl
theorem n0k{ch:List Int}:∀x∈ch.map D.int,a5 x=true:=fun x hx=>by
 obtain ⟨z,_,rfl⟩:=List.mem_map.mp hx;rfl
theorem cut_1{xs:List D}:cutD xs (some 1) none=xs.drop 1:=by
 unfold cutD HT.sIx;simp only[show ¬((1:Int)<0)by decide,if_false];rw[show (1:Int).toNat=1 from rfl];rcases xs with _ |⟨x,xs⟩
 ·rfl
 ·rw[List.length_cons,Nat.min_eq_left (by omega),List.drop_one,List.tail_cons,List.take_of_length_le (by omega)]
theorem tf{b:Bool}{P:Prop}(e:b=false)(h:b=true):P:=by rw[h]at e;cases e
theorem c0r{cs:Cs}{full mark:Int}{shs:List Int}(h:ShOk full mark shs)(hs:shs.sum≠0){δ:Dk}{q:D→Dk→Prop}{x:Addr→List (Str×D)→Dk→Prop}(hq:q (m5 cs full mark shs) δ):s0b cs [.int full,.int mark,.tup (shs.map D.int)] δ q x:=by
 have l1:=h.l1;have l2:=h.l2;have e1:shD (.tup (shs.map D.int))=true:=by
  unfold shD u0z rowD;dsimp only;have e2:(shs.map D.int).all (i4 · 0 9)=true:=by
   rw[List.all_eq_true];intro x hx;obtain ⟨z,hz,rfl⟩:=List.mem_map.mp hx;exact n8 (h.s z hz).1 (h.s z hz).2
  rw[e2,List.length_map,decide_eq_true (show (1:Int)≤(shs.length:Int)by omega),decide_eq_true (show (shs.length:Int)≤4 by omega),show (Option.getD (some (shs.map D.int)) [])=shs.map D.int from rfl,l5];dsimp only;rw[decide_eq_false hs];rfl
 unfold s0b;refine ⟨by rw[v0s];rfl,?_⟩;rw[if_pos (n8 h.f1 h.f2)];dsimp only;rw[if_pos (n8 h.m1 h.m2),if_pos e1];exact hq
theorem u0t{cs:Cs}{z:PrZ}(hz:PrOk z){δ:Dk}{q:D→Dk→Prop}{x:Addr→List (Str×D)→Dk→Prop}(hq:q (y7 cs z) δ):r0v cs [.int z.look,.int z.change,.int z.fall] δ q x:=by
 refine ⟨rfl,?_⟩;rw[if_pos (n8 hz.l.1 hz.l.2),if_pos (n8 hz.c.1 hz.c.2),if_pos (n8 hz.f.1 hz.f.2)];exact hq
theorem y1u:∀ns:List Int,eqDs (ns.map D.int) (ns.map D.int)=true
 | []=>rfl
 |a::r=>by rw[List.map_cons];unfold eqDs;rw[y1u r];simp[eqV,toV]
theorem v7{cs:Cs}{full mark:Int}{shs:List Int}{z:PrZ}{w:Wt}{n:Nat}{d:D}(h:ShOk full mark shs)(hz:PrOk z)(hw:WtOk (mOf full mark) w (10^6))(hs:m3 (mOf full mark) w≠0)(h0:∀i,mOf full mark≤i→w i=0)(hn:n≤4)(hd:RowZ d (rowN (mOf full mark) w)){δ:Dk}{q:D→Dk→Prop}{x:Addr→List (Str×D)→Dk→Prop}(hq:q (.int (n3 shs z (mOf full mark) n w)) δ):j0r cs [m5 cs full mark shs,d,y7 cs z,.int (n:Int)] δ q x:=by
 have ok:=f0m hd hw hs;refine ⟨full,mark,shs,d,z,_,rfl,h,hz,?_,rfl,fun e=>tf e ok,fun _ e=>tf e (n8 (by omega) (by omega)),fun _ w' n' hw' h0' e hn'=>?_⟩
 ·rcases hd with rfl |rfl
  ·exact v0s
  ·exact n0l n0k
 ·have e1:n'=n:=by have:=D.int.inj e;omega
  have e2:w'=w:=by
   funext j;by_cases hj:j<mOf full mark
   ·exact l0u hw' hd j hj
   ·rw[h0 j (by omega),h0' j (by omega)]
  rw[e1,e2];exact hq
noncomputable def f0j(cs:Cs):Sp2:=fun ds δ q _=>∃full mark shs z w sd n,ds=[sd,m5 cs full mark shs,y7 cs z,.lst ((rowN (mOf full mark) w).map D.int),.int ((n:Nat):Int)]∧ShOk full mark shs∧PrOk z∧n≤4∧WtOk (mOf full mark) w (10^6)∧(∀i,mOf full mark≤i→w i=0)∧q (.int (n3 shs z (mOf full mark) n w)) δ
noncomputable def p0c:Sp2:=fun ds δ q _=>∃full mark shs s c,ds=[d7 full mark shs,.int (mark+((s:Nat):Int)),.int c]∧ShOk full mark shs∧q (.lst ((rowN (mOf full mark) (sc c (un s))).map D.int)) δ
noncomputable def l0s(cs:Cs):Sp2:=fun ds δ q _=>∃full mark shs z w n,ds=[d7 full mark shs,m5 cs full mark shs,y7 cs z,.lst ((rowN (mOf full mark) w).map D.int),.int ((n:Nat)+1:Int)]∧ShOk full mark shs∧PrOk z∧n≤3∧WtOk (mOf full mark) w 1000∧m3 (mOf full mark) w≤1000∧q (.int (o5 shs z (mOf full mark) (n3 shs z (mOf full mark) n) n w)) δ
noncomputable def r0t(cs:Cs):Sp2:=fun ds δ q _=>∃full mark shs z w n,ds=[d7 full mark shs,m5 cs full mark shs,y7 cs z,.lst ((rowN (mOf full mark) w).map D.int),.int ((n:Nat)+1:Int)]∧ShOk full mark shs∧PrOk z∧n≤3∧WtOk (mOf full mark) w 1000∧m3 (mOf full mark) w≤1000∧q (.int (m3 (mOf full mark) w*chW shs z (mOf full mark) (n3 shs z (mOf full mark) n) n)) δ
noncomputable def l0r(cs:Cs):Sp2:=fun ds δ q _=>∃full mark shs z w n,ds=[d7 full mark shs,m5 cs full mark shs,y7 cs z,.lst ((rowN (mOf full mark) w).map D.int),.int ((n:Nat)+1:Int)]∧ShOk full mark shs∧PrOk z∧n≤3∧WtOk (mOf full mark) w 1000∧m3 (mOf full mark) w≤1000∧q (.int (z0r shs z (mOf full mark) (n3 shs z (mOf full mark) n) n w)) δ
theorem f0i{full mark:Int}(h:mark≤full):full=mark+((mOf full mark-1:Nat):Int):=by unfold mOf;omega
theorem b0t{c:Int}{s m:Nat}(hs:s<m):∀i,m≤i→sc c (un s) i=0:=fun i hi=>by show c*un s i=0;rw[b0v hs i hi,Int.mul_zero]
theorem f0h{c d:Int}{s m:Nat}(hc:0≤c)(hd:c≤d):WtOk m (sc c (un s)) d:=⟨fun a _=>by
 unfold sc un;split
 ·rw[Int.mul_one];exact ⟨hc,hd⟩
 ·rw[Int.mul_zero];exact ⟨Int.le_refl _,by omega⟩⟩
noncomputable abbrev x0z:List Str:=["_law_spec","_law_part","_law_told","_law_weights_here","_law_rounds"]
theorem sc_law_rest:FnScope ["_law_spec","_law_part","_law_told","_law_weights_here","_law_rounds"] x0z (defScope v0d):=⟨rfl,rfl,rfl,by decide +kernel,rfl,by decide +kernel,by decide +kernel⟩
noncomputable abbrev u0s(P:Program)(w:World)(K:PySem.W.Frag)(mg:Str→Option Value)(base:Heap)(cs:Cs):Prop:=Fun2 P w K mg base "_law_rest" 21 x0z (f0j cs)
theorem l0q{f:Addr}{fd:FuncData}(Df:DefAt K mg "_law_rest" v0d x0z f fd)(T:Txt K mg cs)(G_risk_of:k8 P w K mg base cs):u0s P w K mg base cs:=by
 have nd:=sc_law_rest.nd;refine def2 Df sc_law_rest (fun ds δ q x h=>?_) (fun cdv A outer s H E Y hr=>⟨_,(o3 (i8 (b7 (z0h hr.units0) u0i (e2_b (g0e rfl) d_maxM T.n_max bt_max (u0 (e2_v 3) o0)) y3 (b5 _)) (l3 (o4 y3)) w6)
  (l3 (o4 (u3 G_risk_of (hr.mono (by decide)) r0 (u0 (e2_v 1) (u0 (e2_v 3) (u0 (e2_v 2) (u0 (e2_v 4) o0)))))))),fun ds δ q x h=>?_⟩)
 ·unfold f0j at h;obtain ⟨full,mark,shs,z,w,sd,n,rfl,h,hz,hn,hw,h0,hq⟩:=h;rfl
 ·unfold f0j at h;obtain ⟨full,mark,shs,z,w,sd,n,rfl,h,hz,hn,hw,h0,hq⟩:=h;rw[show v4 ["_law_spec","_law_part","_law_told","_law_weights_here","_law_rounds"] _=[.val _,.val _,.val _,.val _,.val _]from rfl];have m1:=h.m1;have m2:=h.m2;have hm0:0<mOf full mark:=by unfold mOf;omega
  walk_at "ds";rw[l5];refine ⟨fun e=>by have:=congrArg List.length e;rw[i3]at this;simp only[List.length_nil]at this;omega,fun k hk hmx=>?_⟩;walk_at "ds";by_cases e:k=0
  ·rw[if_pos e];have ew:w=fun _=>0:=by
    funext i;by_cases hi:i<mOf full mark
    ·have:=hmx (w i) (List.mem_map.mpr ⟨i,List.mem_range.mpr hi,rfl⟩);have:=(hw.n i hi).1;omega
    ·exact h0 i (by omega)
   rw[ew,y1z]at hq;exact hq
  ·rw[if_neg e];refine v7 h hz hw ?_ h0 hn (.inr rfl) ?_
   ·intro es;obtain ⟨i,hi,rfl⟩:=y0b hk;have:=t0y (fun i hi=>(hw.n i hi).1) hi;have:=(hw.n i hi).1;omega
   ·walk_at "ds";exact hq
noncomputable abbrev z0j:List Str:=["_law_spec","_law_stand","_law_cases"]
theorem sc_law_known:FnScope ["_law_spec","_law_stand","_law_cases"] z0j (defScope x0i):=⟨rfl,rfl,rfl,by decide +kernel,rfl,by decide +kernel,by decide +kernel⟩
noncomputable abbrev u7(P:Program)(w:World)(K:PySem.W.Frag)(mg:Str→Option Value)(base:Heap)(cs:Cs):Prop:=Fun2 P w K mg base "_law_known" 2 z0j p0c
theorem n0j{f:Addr}{fd:FuncData}(Df:DefAt K mg "_law_known" x0i z0j f fd)(T:Txt K mg cs):u7 P w K mg base cs:=by
 have nd:=sc_law_known.nd;refine def2 Df sc_law_known (fun ds δ q x h=>?_) (fun cdv A outer s H E Y hr=>⟨_,(l3 (o4 (w0t rfl (CompOkM.of ["_law_at"] [2,1,0] rfl) (n9 T.n_range (u0 (y4 p4 b4 (y4 x0w r0o (l4 0 y3) (l4 0 y3)) y3) o0)) (fun nd _ _ _ _ _=>(m4 (i:=0) nd rfl (by first |exact Or.inl rfl |exact Or.inr rfl))) f8 (fun _ _ _ _ _ _=>r9) (fun _ _ _ _ _ _=>(y4 d4 z6 (e2_v 1) (j0d o0w d_int T.n_int h0n (u0 (r0b (z0h hr.units0) u0i (y4 p4 b4 (l4 3 y3) (e2_v 0)) (e2_v 2) (b5 _)) o0))))))),fun ds δ q x h=>?_⟩)
 ·unfold p0c at h;obtain ⟨full,mark,shs,s,c,rfl,h,hq⟩:=h;rfl
 ·unfold p0c at h;obtain ⟨full,mark,shs,s,c,rfl,h,hq⟩:=h;rw[show v4 ["_law_spec","_law_stand","_law_cases"] _=[.val _,.val _,.val _]from rfl];have f2:=h.f2;have m1:=h.m1;have m2:=h.m2;have em:full-mark+1=(mOf full mark:Int):=by unfold mOf;omega
  have hm7:mOf full mark≤7:=by unfold mOf;omega
  unfold d7;walk_at "ds";rw[em,Int.toNat_natCast];refine ⟨⟨by omega,by omega⟩,?_⟩;refine y0k ((rowN (mOf full mark) (sc c (un s))).map D.int) (by rw[i5,List.length_map,i3]) (by rw[i5];show 0+_≤_;omega) (fun i d e hd he Q hQ=>?_) (by rw[List.nil_append];exact hq);obtain ⟨hi,rfl⟩:=w0v hd;rw[List.getElem?_map,p5 hi]at he;cases he;simp only[capt,u0j,List.map_cons,List.map_nil,List.getElem?_cons_zero,List.getElem?_cons_succ];walk_at "ds";by_cases e:i=s
  ·rw[if_pos (show mark+(0+(i:Int))=mark+(s:Int)by omega)];refine ⟨.inr ⟨by decide,by decide⟩,?_⟩;rw[show sc c (un s) i=c*1 by unfold sc un;rw[if_pos e]]at hQ;exact hQ
  ·rw[if_neg (show ¬mark+(0+(i:Int))=mark+(s:Int)by omega)];refine ⟨.inr ⟨by decide,by decide⟩,?_⟩;rw[show sc c (un s) i=c*0 by unfold sc un;rw[if_neg e]]at hQ;exact hQ
noncomputable abbrev x0y:List Str:=["_law_spec","_law_part","_law_told","_law_weights_here","_law_rounds"]
theorem sc_law_wait:FnScope ["_law_spec","_law_part","_law_told","_law_weights_here","_law_rounds","_law_left","_law_fallen","_law_at","_law_weight","_law_less","_law_share","_law_found"] x0y (defScope v0c):=⟨rfl,rfl,rfl,by decide +kernel,rfl,by decide +kernel,by decide +kernel⟩
noncomputable abbrev r8(P:Program)(w:World)(K:PySem.W.Frag)(mg:Str→Option Value)(base:Heap)(cs:Cs):Prop:=Fun2 P w K mg base "_law_wait" 23 x0y (l0s cs)
theorem l0p{f:Addr}{fd:FuncData}(Df:DefAt K mg "_law_wait" v0c x0y f fd)(T:Txt K mg cs)(G_law_all:y0q P w K mg base cs)(G_law_rest:u0s P w K mg base cs)(G_law_known:u7 P w K mg base cs):r8 P w K mg base cs:=by
 have nd:=sc_law_wait.nd;refine def2 Df sc_law_wait (fun ds δ q x h=>?_) (fun cdv A outer s H E Y hr=>⟨_,(o3 (n0v 5 nd (c0d (u0 y3 o0)) (u9 3 T.n_len))
  (o3 (n4 6 nd y3)
  (o3 (x0u PassesOwn.leaving rfl (x0n T.n_enumerate (u0 (e2_v 3) o0)) (w0z rfl (z5 (m4 (i:=7) nd rfl (by first |exact Or.inl rfl |exact Or.inr rfl)) (z5 (m4 (i:=8) nd rfl (by first |exact Or.inl rfl |exact Or.inr rfl)) k9))) (t0g (is:=[7,8]) rfl) (l3 (x0u PassesOwn.leaving rfl (x0n T.n_enumerate (u0 (l4 0 y3) o0)) (w0z rfl (z5 (m4 (i:=9) nd rfl (by first |exact Or.inl rfl |exact Or.inr rfl)) (z5 (m4 (i:=10) nd rfl (by first |exact Or.inl rfl |exact Or.inr rfl)) k9))) (t0g (is:=[9,10]) rfl) (l3 (i8 (b7 i0f d_gt (e2_v 9) (e2_v 7) (b5 _)) (l3 (n4 6 nd (y4 p4 b4 (e2_v 6) (y4 d4 z6 (e2_v 8) (e2_v 10))))) (l3 (x0q 5 (y4 x0w r0o (e2_v 7) (e2_v 9)) (y4 p4 b4 (l4 5 (y4 x0w r0o (e2_v 7) (e2_v 9))) (y4 d4 z6 (e2_v 8) (e2_v 10))))))))))
  (o3 (n4 11 nd (y4 p4 b4 (y4 d4 z6 (y4 d4 z6 (j5 K (e2_v 2)) (e2_v 6)) (u3 G_law_all (hr.mono (by decide)) r0 (u0 (e2_v 0) (u0 (y4 x0w r0o (e2_v 4) y3) o0)))) (u3 G_law_rest (hr.mono (by decide)) r0 (u0 (e2_v 0) (u0 (e2_v 1) (u0 (e2_v 2) (u0 (e2_v 5) (u0 (y4 x0w r0o (e2_v 4) y3) o0))))))))
  (l3 (o4 (y4 p4 b4 (e2_v 11) (u3 G_law_rest (hr.mono (by decide)) r0 (u0 (e2_v 0) (u0 (e2_v 1) (u0 (e2_v 2) (u0 (u3 G_law_known (hr.mono (by decide)) r0 (u0 (e2_v 0) (u0 (l4 0 y3) (u0 (e2_v 6) o0)))) (u0 (y4 x0w r0o (e2_v 4) y3) o0))))))))))))),fun ds δ q x h=>?_⟩)
 ·unfold l0s at h;obtain ⟨full,mark,shs,z,w,k,rfl,h,hz,h3,hw,hsum,hq⟩:=h;rfl
 ·unfold l0s at h;obtain ⟨full,mark,shs,z,w,k,rfl,h,hz,h3,hw,hsum,hq⟩:=h;rw[show v4 ["_law_spec","_law_part","_law_told","_law_weights_here","_law_rounds","_law_left","_law_fallen","_law_at","_law_weight","_law_less","_law_share","_law_found"] _=[.val _,.val _,.val _,.val _,.val _,.no,.no,.no,.no,.no,.no,.no]from rfl];have f2:=h.f2;have m1:=h.m1;have m2:=h.m2;have l2:=h.l2;have hm7:mOf full mark≤7:=by unfold mOf;omega
  have hm0:0<mOf full mark:=by unfold mOf;omega
  have hs0:∀y∈shs,0≤y:=fun y hy=>(h.s y hy).1
  have sm:=y0s h;have e0:(List.replicate ((((rowN (mOf full mark) w).map D.int).length:Nat):Int).toNat [D.int 0]).flatten=(rowN (mOf full mark) fun x=>LP shs w (some x) 0).map D.int:=by
   rw[List.length_map,i3,Int.toNat_natCast];exact rep0
  unfold d7 y7;walk_at "ds";rw[e0];refine ⟨by rw[List.length_map,i3];omega,by omega,by rw[List.length_map,i3];omega,?_⟩;refine f9 (fun i ρ δ'=>∃c7 c8 c9 c10,ρ=[.val (d7 full mark shs),.val (m5 cs full mark shs),.val (y7 cs z),.val (.lst ((rowN (mOf full mark) w).map D.int)),.val (.int ((k:Int)+1)),.own ((rowN (mOf full mark) fun x=>LP shs w (some x) i).map D.int),.val (.int (LP shs w none i)),c7,c8,c9,c10,.no]∧δ'=δ) ⟨_,_,_,_,rfl,rfl⟩ ?_ ?_
  ·rintro i d ρ δ' rest hi ⟨c7,c8,c9,c10,rfl,rfl⟩ hrest;obtain ⟨y,hy,rfl⟩:=p6 hi;have hil:=(List.getElem?_eq_some_iff.mp hy).1;rw[List.length_map,i3]at hil;rw[List.getElem?_map,p5 hil]at hy;cases hy;rw[Nat.zero_add];unfold v0o d7;walk_at "ds";refine forL_E D.int shs (fun l ρ δ1=>∃c9 c10,ρ=[.val (d7 full mark shs),.val (m5 cs full mark shs),.val (y7 cs z),.val (.lst ((rowN (mOf full mark) w).map D.int)),.val (.int ((k:Int)+1)),.own ((rowN (mOf full mark) fun x=>LP shs w (some x) i+w i*GP shs i (some x) l).map D.int),.val (.int (LP shs w none i+w i*GP shs i none l)),.val (.int (i:Int)),.val (.int (w i)),c9,c10,.no]∧δ1=δ') ⟨c9,c10,by simp only[GP,Int.mul_zero,Int.add_zero];rfl,rfl⟩ ?_ ?_
   ·rintro l sh ρ δ1 rest hl ⟨c9,c10,rfl,rfl⟩ hrest;have hll:=(List.getElem?_eq_some_iff.mp hl).1;have es:shs.getD l 0=sh:=by rw[List.getD_eq_getElem?_getD,hl];rfl
    have s9:=h.s sh (List.mem_of_getElem? hl);have cm:CMul (w i) sh:=.inr ⟨by omega,by omega⟩;unfold v0o d7;walk_at "ds";split
    ·rename_i hgt;have e1:r0l i l=none:=if_pos (by omega);have e2:(rowN (mOf full mark) fun x=>LP shs w (some x) i+w i*GP shs i (some x) l)=rowN (mOf full mark) fun x=>LP shs w (some x) i+w i*GP shs i (some x) (l+1):=j0u fun x _=>by rw[x0f (by rw[e1];exact fun h=>by cases h)]
     have e3:LP shs w none i+w i*GP shs i none l+w i*sh=LP shs w none i+w i*GP shs i none (l+1):=by rw[p0l e1,es,Int.mul_add,Int.add_assoc]
     rw[e2,e3];exact ⟨cm,hrest _ _ ⟨_,_,rfl,rfl⟩⟩
    ·rename_i hgt;have hgt:¬i<l:=by omega
     have e1:r0l i l=some (i-l):=if_neg hgt;have e4:(i:Int)-(l:Int)=((i-l:Nat):Int):=by omega
     have hk:i-l<mOf full mark:=by omega
     have e2:((rowN (mOf full mark) fun x=>LP shs w (some x) i+w i*GP shs i (some x) l).map D.int).set (i-l) (.int (LP shs w (some (i-l)) i+w i*GP shs i (some (i-l)) l+w i*sh))=(rowN (mOf full mark) fun x=>LP shs w (some x) i+w i*GP shs i (some x) (l+1)).map D.int:=by
      rw[←List.map_set];congr 1;refine j0v hk ?_ fun x hx=>?_
      ·rw[p0l e1,es,Int.mul_add,Int.add_assoc]
      ·rw[x0f (by rw[e1];exact fun h=>hx (Option.some.inj h).symm)]
     have e3:LP shs w none i+w i*GP shs i none l=LP shs w none i+w i*GP shs i none (l+1):=by rw[x0f (by rw[e1];exact fun h=>by cases h)]
     rw[e4,q0r (show ((rowN (mOf full mark) fun x=>LP shs w (some x) i+w i*GP shs i (some x) l).map D.int)[i-l]?=some (.int (LP shs w (some (i-l)) i+w i*GP shs i (some (i-l)) l))by rw[List.getElem?_map,p5 hk];rfl)];walk_at "ds";rw[List.length_map,i3,m0a hk];walk_at "ds";rw[e2,e3];exact ⟨cm,hrest _ _ ⟨_,_,rfl,rfl⟩⟩
   ·rintro ρ δ1 ⟨c9,c10,rfl,rfl⟩;exact hrest _ _ ⟨_,_,_,_,rfl,rfl⟩
  ·rintro ρ δ' ⟨c7,c8,c9,c10,rfl,rfl⟩;rw[r6,List.length_map,i3];rw[show LP shs w none (mOf full mark)=fW shs (mOf full mark) w from rfl,show (fun x=>LP shs w (some x) (mOf full mark))=bW shs (mOf full mark) w from rfl];have nn:∀i,i<mOf full mark→0≤w i:=fun i hi=>(hw.n i hi).1
   have ms:=mass (shs:=shs) (m:=mOf full mark) (w:=w);have ws:=u4 nn;have fn:=fW_nn hs0 nn;have bn:∀i,i<mOf full mark→0≤bW shs (mOf full mark) w i:=fun i _=>c0s hs0 nn i
   have bs:=u4 bn;have tot:m3 (mOf full mark) w*shs.sum≤1000*36:=Int.mul_le_mul hsum sm.2 sm.1 (by decide);have p1:=u0m sm.1 sm.2 k;have p2:(36:Int)^k≤36^4:=by
    have:k=0∨k=1∨k=2∨k=3:=by omega
    rcases this with rfl |rfl |rfl |rfl<;>decide
   have z3:=hz.f;unfold y7;walk_at "ds";refine ⟨.inl ⟨by omega,by omega⟩,?_⟩;refine ⟨full,mark,shs,_,rfl,h,by omega,by omega,?_⟩;rw[show (k:Int)+1-1=(k:Int)by omega,Int.toNat_natCast];walk_at "ds";rw[show (k:Int)+1-1=(k:Int)by omega];refine ⟨.inr ⟨by omega,by omega⟩,?_⟩;refine ⟨full,mark,shs,z,bW shs (mOf full mark) w,_,k,rfl,h,hz,by omega,⟨fun i hi=>⟨bn i hi,?_⟩⟩,?_,?_⟩
   ·have:=t0y bn hi;omega
   ·intro i hi;refine (j4 (g:=fun _=>0) fun j hj=>?_).trans (z7 _);have e:∀n,GP shs j (some i) n=0:=by
     intro n
     induction n with
     |zero=>rfl
     |succ n ih=>
      rw[x0f (fun e=>by
       unfold r0l at e;split at e
       ·cases e
       ·have:=Option.some.inj e;omega),ih]
    show w j*GP shs j (some i) shs.length=0;rw[e,Int.mul_zero]
   walk_at "ds";unfold d7;walk_at "ds";refine ⟨full,mark,shs,mOf full mark-1,fW shs (mOf full mark) w,by rw[←f0i m2];rfl,h,?_⟩;walk_at "ds";rw[show (k:Int)+1-1=(k:Int)by omega];refine ⟨full,mark,shs,z,sc (fW shs (mOf full mark) w) (un (mOf full mark-1)),_,k,rfl,h,hz,by omega,f0h fn (by omega),b0t (by omega),?_⟩;walk_at "ds";rw[z0q fn];unfold o5 at hq;rw[Int.mul_add,Int.mul_comm (fW shs (mOf full mark) w) (z.fall*_),Int.mul_assoc z.fall,Int.mul_comm (shs.sum^k),← Int.mul_assoc,Int.add_assoc,Int.add_comm _ (n3 shs z (mOf full mark) k (bW shs (mOf full mark) w)),← Int.add_assoc]at hq;exact hq
noncomputable abbrev x9:List Str:=["_law_spec","_law_part","_law_told","_law_weights_here","_law_rounds"]
theorem sc_law_change:FnScope ["_law_spec","_law_part","_law_told","_law_weights_here","_law_rounds","_law_total","_law_found"] x9 (defScope y0z):=⟨rfl,rfl,rfl,by decide +kernel,rfl,by decide +kernel,by decide +kernel⟩
noncomputable abbrev w9(P:Program)(w:World)(K:PySem.W.Frag)(mg:Str→Option Value)(base:Heap)(cs:Cs):Prop:=Fun2 P w K mg base "_law_change" 25 x9 (r0t cs)
theorem p0b{f:Addr}{fd:FuncData}(Df:DefAt K mg "_law_change" y0z x9 f fd)(T:Txt K mg cs)(G_law_all:y0q P w K mg base cs)(G_law_wait:r8 P w K mg base cs)(G_law_known:u7 P w K mg base cs):w9 P w K mg base cs:=by
 have nd:=sc_law_change.nd;refine def2 Df sc_law_change (fun ds δ q x h=>?_) (fun cdv A outer s H E Y hr=>⟨_,(o3 (n4 5 nd (e2_b (e8 rfl) n0u T.n_sum u0o (u0 (e2_v 3) o0)))
  (o3 (n4 6 nd (y4 d4 z6 (y4 d4 z6 (j5 K (e2_v 2)) (e2_v 5)) (u3 G_law_all (hr.mono (by decide)) r0 (u0 (e2_v 0) (u0 (e2_v 4) o0)))))
  (l3 (o4 (y4 p4 b4 (e2_v 6) (u3 G_law_wait (hr.mono (by decide)) r0 (u0 (e2_v 0) (u0 (e2_v 1) (u0 (e2_v 2) (u0 (u3 G_law_known (hr.mono (by decide)) r0 (u0 (e2_v 0) (u0 (l4 0 y3) (u0 (e2_v 5) o0)))) (u0 (e2_v 4) o0))))))))))),fun ds δ q x h=>?_⟩)
 ·unfold r0t at h;obtain ⟨full,mark,shs,z,w,k,rfl,h,hz,h3,hw,hsum,hq⟩:=h;rfl
 ·unfold r0t at h;obtain ⟨full,mark,shs,z,w,k,rfl,h,hz,h3,hw,hsum,hq⟩:=h;rw[show v4 ["_law_spec","_law_part","_law_told","_law_weights_here","_law_rounds","_law_total","_law_found"] _=[.val _,.val _,.val _,.val _,.val _,.no,.no]from rfl];have f2:=h.f2;have m1:=h.m1;have m2:=h.m2;have hm7:mOf full mark≤7:=by unfold mOf;omega
  have hm0:0<mOf full mark:=by unfold mOf;omega
  have sm:=y0s h;have nn:∀i,i<mOf full mark→0≤w i:=fun i hi=>(hw.n i hi).1
  have ws:=u4 nn;have p1:=u0m sm.1 sm.2 (k+1);have p2:(36:Int)^(k+1)≤36^4:=by
   have:k=0∨k=1∨k=2∨k=3:=by omega
   rcases this with rfl |rfl |rfl |rfl<;>decide
  have hc:=hz.c;unfold d7 y7;walk_at "ds";rw[l5];refine ⟨⟨fun y hy=>by obtain ⟨i,hi,rfl⟩:=y0b hy;exact nn i hi,by rw[m6];omega⟩,?_⟩;rw[m6];walk_at "ds";refine ⟨.inl ⟨by omega,by omega⟩,?_⟩;refine ⟨full,mark,shs,_,rfl,h,by omega,by omega,?_⟩;rw[show ((k:Int)+1).toNat=k+1 by omega];walk_at "ds";refine ⟨.inr ⟨by omega,by omega⟩,?_⟩;refine ⟨full,mark,shs,mOf full mark-1,m3 (mOf full mark) w,by rw[←f0i m2];rfl,h,?_⟩;walk_at "ds";refine ⟨full,mark,shs,z,sc (m3 (mOf full mark) w) (un (mOf full mark-1)),k,rfl,h,hz,h3,f0h ws hsum,by rw[q0v,u0n (by omega),Int.mul_one];exact hsum,?_⟩;walk_at "ds";rw[m0d (z0q ws k)];unfold chW at hq;rw[Int.mul_add,← Int.mul_assoc,Int.mul_comm (m3 (mOf full mark) w) z.change]at hq;exact hq
noncomputable abbrev x0x:List Str:=["_law_spec","_law_part","_law_told","_law_weights_here","_law_rounds"]
theorem sc_law_look:FnScope ["_law_spec","_law_part","_law_told","_law_weights_here","_law_rounds","_law_found","_law_at","_law_weight","_law_one","_law_waited"] x0x (defScope v0b):=⟨rfl,rfl,rfl,by decide +kernel,rfl,by decide +kernel,by decide +kernel⟩
noncomputable abbrev u0r(P:Program)(w:World)(K:PySem.W.Frag)(mg:Str→Option Value)(base:Heap)(cs:Cs):Prop:=Fun2 P w K mg base "_law_look" 27 x0x (l0r cs)
theorem l0o{f:Addr}{fd:FuncData}(Df:DefAt K mg "_law_look" v0b x0x f fd)(T:Txt K mg cs)(G_law_all:y0q P w K mg base cs)(G_law_wait:r8 P w K mg base cs)(G_law_known:u7 P w K mg base cs)(G_law_change:w9 P w K mg base cs):u0r P w K mg base cs:=by
 have nd:=sc_law_look.nd;refine def2 Df sc_law_look (fun ds δ q x h=>?_) (fun cdv A outer s H E Y hr=>⟨_,(o3 (n4 5 nd (y4 d4 z6 (y4 d4 z6 (j5 K (e2_v 2)) (e2_b (e8 rfl) n0u T.n_sum u0o (u0 (e2_v 3) o0))) (u3 G_law_all (hr.mono (by decide)) r0 (u0 (e2_v 0) (u0 (e2_v 4) o0)))))
  (o3 (x0u PassesOwn.leaving rfl (x0n T.n_enumerate (u0 (e2_v 3) o0)) (w0z rfl (z5 (m4 (i:=6) nd rfl (by first |exact Or.inl rfl |exact Or.inr rfl)) (z5 (m4 (i:=7) nd rfl (by first |exact Or.inl rfl |exact Or.inr rfl)) k9))) (t0g (is:=[6,7]) rfl) (l3 (i8 (b7 i0f d_gt (e2_v 7) y3 (b5 _)) (o3 (n4 8 nd (u3 G_law_known (hr.mono (by decide)) r0 (u0 (e2_v 0) (u0 (y4 p4 b4 (l4 0 y3) (e2_v 6)) (u0 (e2_v 7) o0)))))
  (o3 (n4 9 nd (u3 G_law_wait (hr.mono (by decide)) r0 (u0 (e2_v 0) (u0 (e2_v 1) (u0 (e2_v 2) (u0 (e2_v 8) (u0 (e2_v 4) o0)))))))
  (l3 (n4 5 nd (y4 p4 b4 (e2_v 5) (e2_b (t0v rfl) a0l T.n_min t0o (u0 (e2_v 9) (u0 (u3 G_law_change (hr.mono (by decide)) r0 (u0 (e2_v 0) (u0 (e2_v 1) (u0 (e2_v 2) (u0 (e2_v 8) (u0 (e2_v 4) o0)))))) o0)))))))) w6)))
  (l3 (o4 (e2_v 5))))),fun ds δ q x h=>?_⟩)
 ·unfold l0r at h;obtain ⟨full,mark,shs,z,w,k,rfl,h,hz,h3,hw,hsum,hq⟩:=h;rfl
 ·unfold l0r at h;obtain ⟨full,mark,shs,z,w,k,rfl,h,hz,h3,hw,hsum,hq⟩:=h;rw[show v4 ["_law_spec","_law_part","_law_told","_law_weights_here","_law_rounds","_law_found","_law_at","_law_weight","_law_one","_law_waited"] _=[.val _,.val _,.val _,.val _,.val _,.no,.no,.no,.no,.no]from rfl];have f2:=h.f2;have m1:=h.m1;have m2:=h.m2;have hm7:mOf full mark≤7:=by unfold mOf;omega
  have hm0:0<mOf full mark:=by unfold mOf;omega
  have sm:=y0s h;have nn:∀i,i<mOf full mark→0≤w i:=fun i hi=>(hw.n i hi).1
  have ws:=u4 nn;have p1:=u0m sm.1 sm.2 (k+1);have p2:(36:Int)^(k+1)≤36^4:=by
   have:k=0∨k=1∨k=2∨k=3:=by omega
   rcases this with rfl |rfl |rfl |rfl<;>decide
  have hc:=hz.l;unfold d7 y7;walk_at "ds";rw[l5];refine ⟨⟨fun y hy=>by obtain ⟨i,hi,rfl⟩:=y0b hy;exact nn i hi,by rw[m6];omega⟩,?_⟩;rw[m6];refine ⟨.inl ⟨by omega,by omega⟩,?_⟩;refine ⟨full,mark,shs,_,rfl,h,by omega,by omega,?_⟩;rw[show ((k:Int)+1).toNat=k+1 by omega];walk_at "ds";refine ⟨.inr ⟨by omega,by omega⟩,?_⟩;refine f9 (fun i ρ δ'=>∃c6 c7 c8 c9,ρ=[.val (d7 full mark shs),.val (m5 cs full mark shs),.val (y7 cs z),.val (.lst ((rowN (mOf full mark) w).map D.int)),.val (.int ((k:Int)+1)),.val (.int (z.look*m3 (mOf full mark) w*shs.sum^(k+1)+m3 i fun a=>w a*min (o5 shs z (mOf full mark) (n3 shs z (mOf full mark) k) k (un a)) (chW shs z (mOf full mark) (n3 shs z (mOf full mark) k) k))),c6,c7,c8,c9]∧δ'=δ) ⟨.no,.no,.no,.no,?_,rfl⟩ ?_ ?_
  ·show _=[_,_,_,_,_,Cell.val (.int (_+0)),_,_,_,_];rw[Int.add_zero];rfl
  ·rintro i d ρ δ' rest hi ⟨c6,c7,c8,c9,rfl,rfl⟩ hrest;obtain ⟨y,hy,rfl⟩:=p6 hi;have hil:=(List.getElem?_eq_some_iff.mp hy).1;rw[List.length_map,i3]at hil;rw[List.getElem?_map,p5 hil]at hy;cases hy;rw[Nat.zero_add];have ek:m3 (i+1) (fun a=>w a*min (o5 shs z (mOf full mark) (n3 shs z (mOf full mark) k) k (un a)) (chW shs z (mOf full mark) (n3 shs z (mOf full mark) k) k))=_+_:=rfl;have wi:=hw.n i hil;unfold v0o d7;walk_at "ds";split
   ·rename_i hpos;refine ⟨full,mark,shs,i,w i,rfl,h,?_⟩;walk_at "ds";have su:m3 (mOf full mark) (sc (w i) (un i))=w i:=by rw[q0v,u0n hil,Int.mul_one]
    refine ⟨full,mark,shs,z,sc (w i) (un i),k,rfl,h,hz,h3,f0h wi.1 wi.2,by rw[su];exact wi.2,?_⟩;walk_at "ds";refine ⟨full,mark,shs,z,sc (w i) (un i),k,rfl,h,hz,h3,f0h wi.1 wi.2,by rw[su];exact wi.2,?_⟩;walk_at "ds";rw[su,m0d (z0q wi.1 k),p0j,m0c wi.1];refine hrest _ _ ⟨.val (.int (i:Int)),.val (.int (w i)),.val (.lst ((rowN (mOf full mark) (sc (w i) (un i))).map D.int)),.val (.int (w i*o5 shs z (mOf full mark) (n3 shs z (mOf full mark) k) k (un i))),?_,rfl⟩;rw[ek,← Int.add_assoc];rfl
   ·rename_i hpos;have e0:w i=0:=by omega
    refine hrest _ _ ⟨.val (.int (i:Int)),.val (.int (w i)),c8,c9,?_,rfl⟩;rw[ek];dsimp only;rw[e0,Int.zero_mul,Int.add_zero];rfl
  ·rintro ρ δ' ⟨c6,c7,c8,c9,rfl,rfl⟩;rw[r6,List.length_map,i3];walk_at "ds";unfold z0r at hq;rw[Int.mul_comm (m3 (mOf full mark) w)]at hq;exact hq
noncomputable def l0n(cs:Cs):Sp2:=fun ds δ q _=>∃full mark shs z w n,ds=[d7 full mark shs,m5 cs full mark shs,y7 cs z,.lst ((rowN (mOf full mark) w).map D.int),.int ((n:Nat)+1:Int)]∧ShOk full mark shs∧PrOk z∧n≤3∧WtOk (mOf full mark) w 11∧m3 (mOf full mark) w≠0∧(∀i,mOf full mark≤i→w i=0)∧q (.bl true) δ
theorem y1t{cs:Cs}{full mark:Int}{shs:List Int}{z:PrZ}{w:Wt}{n:Nat}{d:D}(h:ShOk full mark shs)(hz:PrOk z)(hw:WtOk (mOf full mark) w (10^6))(hs:m3 (mOf full mark) w≠0)(h0:∀i,mOf full mark≤i→w i=0)(hn:n≤3)(hd:RowZ d (rowN (mOf full mark) w)){δ:Dk}{q:D→Dk→Prop}{x:Addr→List (Str×D)→Dk→Prop}(hq:q (.str (y1v shs z (mOf full mark) n w)) δ):j0q cs [m5 cs full mark shs,d,y7 cs z,.int ((n:Int)+1)] δ q x:=by
 have ok:=f0m hd hw hs;refine ⟨full,mark,shs,d,z,_,rfl,h,hz,?_,rfl,fun e=>tf e ok,fun _ e=>tf e (n8 (by omega) (by omega)),fun _ w' n' hw' h0' e hn'=>?_⟩
 ·rcases hd with rfl |rfl
  ·exact v0s
  ·exact n0l n0k
 ·have e1:n'=n:=by have:=D.int.inj e;omega
  have e2:w'=w:=by
   funext j;by_cases hj:j<mOf full mark
   ·exact l0u hw' hd j hj
   ·rw[h0 j (by omega),h0' j (by omega)]
  rw[e1,e2];exact hq
theorem l0m{m:Nat}{w:Wt}{c d:Int}(h:WtOk m w c)(hd:c≤d):WtOk m w d:=⟨fun i hi=>by have:=h.n i hi;omega⟩
noncomputable def stT(cs:Cs):TS2:=fun E ρ δ=>∃full mark shs z w n c6,ρ=[.val (d7 full mark shs),.val (m5 cs full mark shs),.val (y7 cs z),.val (.lst ((rowN (mOf full mark) w).map D.int)),.val (.int ((n:Nat)+1:Int)),.own [.int (o5 shs z (mOf full mark) (n3 shs z (mOf full mark) n) n w),.int (z0r shs z (mOf full mark) (n3 shs z (mOf full mark) n) n w),.int (m3 (mOf full mark) w*chW shs z (mOf full mark) (n3 shs z (mOf full mark) n) n)],c6]∧ShOk full mark shs∧PrOk z∧n≤3∧WtOk (mOf full mark) w 11∧m3 (mOf full mark) w≠0∧(∀i,mOf full mark≤i→w i=0)∧E.rt (.bl true) δ
noncomputable abbrev z0i:List Str:=["_law_spec","_law_part","_law_told","_law_weights_here","_law_rounds"]
theorem sc_law_steps:FnScope ["_law_spec","_law_part","_law_told","_law_weights_here","_law_rounds","_law_costs","_law_due"] z0i (defScope x0h):=⟨rfl,rfl,rfl,by decide +kernel,rfl,by decide +kernel,by decide +kernel⟩
noncomputable abbrev x0a(P:Program)(w:World)(K:PySem.W.Frag)(mg:Str→Option Value)(base:Heap)(cs:Cs):Prop:=Fun2 P w K mg base "_law_steps" 31 z0i (l0n cs)
theorem n0i{f:Addr}{fd:FuncData}(Df:DefAt K mg "_law_steps" x0h z0i f fd)(T:Txt K mg cs)(G_law_wait:r8 P w K mg base cs)(G_law_look:u0r P w K mg base cs)(G_law_change:w9 P w K mg base cs)(G_risk_of:k8 P w K mg base cs)(G_best_move:x0b P w K mg base cs):x0a P w K mg base cs:=by
 have nd:=sc_law_steps.nd;refine def2 Df sc_law_steps (fun ds δ q x h=>?_) (fun cdv A outer s H E Y hr=>⟨_,(o3 (k0o 5 nd (u0 (u3 G_law_wait (hr.mono (by decide)) r0 (u0 (e2_v 0) (u0 (e2_v 1) (u0 (e2_v 2) (u0 (e2_v 3) (u0 (e2_v 4) o0)))))) (u0 (u3 G_law_look (hr.mono (by decide)) r0 (u0 (e2_v 0) (u0 (e2_v 1) (u0 (e2_v 2) (u0 (e2_v 3) (u0 (e2_v 4) o0)))))) o0)))
  (o3 (x0r (e2_mv 5 PySem.F.slot_list_append PySem.F.type_list_append o0l k0l (u0 (u3 G_law_change (hr.mono (by decide)) r0 (u0 (e2_v 0) (u0 (e2_v 1) (u0 (e2_v 2) (u0 (e2_v 3) (u0 (e2_v 4) o0)))))) o0)))
  (q0g (t':=stT cs) (o3 (n4 6 nd (e2_ix h0x d_ix (u0p (u0 h0k (u0 h0k (u0 h0k o0)))) (g0g (e2_v 5) (u0 (e2_b (w0s rfl) j0z T.n_min t0o (u0 (e2_v 5) o0)) o0))))
  (l3 (o4 (k0w (r0b (z0h hr.units0) u0i (u3 G_risk_of (hr.mono (by decide)) r0 (u0 (e2_v 1) (u0 (e2_v 3) (u0 (e2_v 2) (u0 (e2_v 4) o0))))) (e2_b (w0s rfl) j0z T.n_min t0o (u0 (e2_v 5) o0)) (b5 _)) (k0x (r0b (z0h hr.units0) u0i (u3 G_best_move (hr.mono (by decide)) r0 (u0 (e2_v 1) (u0 (e2_v 3) (u0 (e2_v 2) (u0 (e2_v 4) o0))))) (e2_v 6) (b5 _))))))) (by
   rintro E ρ δ ⟨full,mark,shs,z,w,n,c6,rfl,h,hz,hn,hw,hs,h0,hq⟩;have hw6:=l0m hw (show (11:Int)≤10^6 by decide);walk_at "ds";simp only[h8,Option.map_some];refine ⟨(by intro e;cases e),fun m hm=>?_⟩;walk_at "ds";unfold idxQ;simp only[h8,Option.map_some];refine ⟨(idx3 hm).1,?_⟩;walk_at "ds";rw[at3 hm];walk_at "ds";refine v7 (n:=n+1) h hz hw6 hs h0 (by omega) (.inr rfl) ?_;walk_at "ds";simp only[h8,Option.map_some];refine ⟨(by intro e;cases e),fun m' hm'=>?_⟩;have e:n3 shs z (mOf full mark) (n+1) w=m':=by
    obtain ⟨m1,m2⟩:=hm';have a1:=m2 _ (List.mem_cons_self ..);have a2:=m2 _ (List.mem_cons_of_mem _ (List.mem_cons_self ..));have a3:=m2 _ (List.mem_cons_of_mem _ (List.mem_cons_of_mem _ (List.mem_cons_self ..)));simp only[List.mem_cons,List.not_mem_nil,or_false]at m1;unfold n3;omega
   walk_at "ds";rw[if_pos e];refine y1t h hz hw6 hs h0 hn (.inr rfl) ?_;walk_at "ds";simp only[y1v,eq_self,decide_true];exact hq)))),fun ds δ q x h=>?_⟩)
 ·unfold l0n at h;obtain ⟨full,mark,shs,z,w,n,rfl,h,hz,hn,hw,hs,h0,hq⟩:=h;rfl
 ·unfold l0n at h;obtain ⟨full,mark,shs,z,w,n,rfl,h,hz,hn,hw,hs,h0,hq⟩:=h;rw[show v4 ["_law_spec","_law_part","_law_told","_law_weights_here","_law_rounds","_law_costs","_law_due"] _=[.val _,.val _,.val _,.val _,.val _,.no,.no]from rfl];have f2:=h.f2;have m1:=h.m1;have hm7:mOf full mark≤7:=by unfold mOf;omega
  have hw3:=l0m hw (show (11:Int)≤1000 by decide);have ws:=j0s hw hm7 (by decide);walk_at "ds";refine ⟨full,mark,shs,z,w,n,rfl,h,hz,hn,hw3,by omega,?_⟩;walk_at "ds";refine ⟨full,mark,shs,z,w,n,rfl,h,hz,hn,hw3,by omega,?_⟩;walk_at "ds";refine ⟨rfl,full,mark,shs,z,w,n,rfl,h,hz,hn,hw3,by omega,?_⟩;walk_at "ds";exact ⟨full,mark,shs,z,w,n,_,rfl,h,hz,hn,hw,hs,h0,hq⟩
theorem ad_row{m:Nat}{w v:Wt}:(zipD ((rowN m w).map D.int) ((rowN m v).map D.int))=(List.range m).map fun i=>D.tup [.int (w i),.int (v i)]:=by
 unfold rowN;rw[List.map_map,List.map_map];have:∀l:List Nat,zipD (l.map (D.int∘w)) (l.map (D.int∘v))=l.map fun i=>D.tup [.int (w i),.int (v i)]:=by
  intro l
  induction l with
  |nil=>rfl
  |cons a l ih=>rw[List.map_cons,List.map_cons,List.map_cons,← ih];rfl
 exact this _
noncomputable def p0a(cs:Cs):Sp2:=fun ds δ q _=>∃p ns n full mark shs z w k,ds=[.ref p,m5 cs full mark shs,x0d z,.lst ((rowN (mOf full mark) w).map D.int),.int ((k:Nat):Int)]∧DkAt p ns n δ∧n<2^20∧ShOk full mark shs∧PrOk z∧k≤4∧WtOk (mOf full mark) w 11∧m3 (mOf full mark) w≠0∧(∀i,mOf full mark≤i→w i=0)∧∀ δ',DkAt p ns (n+2) δ'→q (.bl true) δ'
theorem r0s{shs:List Int}{z z':PrZ}{full mark:Int}{k:Nat}{w:Wt}(h:ShOk full mark shs)(hw:WtOk (mOf full mark) w 11)(hl:PrLe z z'):decide (n3 shs z (mOf full mark) k w≤n3 shs z' (mOf full mark) k w)=true:=decide_eq_true (q0u (fun y hy=>(h.s y hy).1) hl k fun i hi=>(hw.n i hi).1)
noncomputable abbrev v9:List Str:=["_law_deck_here","_law_part","_law_prices_here","_law_weights_here","_law_rounds"]
theorem sc_law_raised:FnScope ["_law_deck_here","_law_part","_law_prices_here","_law_weights_here","_law_rounds","_law_before","_law_at","_law_more"] v9 (defScope y0y):=⟨rfl,rfl,rfl,by decide +kernel,rfl,by decide +kernel,by decide +kernel⟩
noncomputable abbrev y0o(P:Program)(w:World)(K:PySem.W.Frag)(mg:Str→Option Value)(base:Heap)(cs:Cs):Prop:=Fun2 P w K mg base "_law_raised" 23 v9 (p0a cs)
theorem o0z{f:Addr}{fd:FuncData}(Df:DefAt K mg "_law_raised" y0y v9 f fd)(T:Txt K mg cs)(G_law_take:a6 P w K mg base cs)(G_risk_of:k8 P w K mg base cs)(M_LookPrices:Make2 P w K mg base "LookPrices" 4 (r0v cs)):y0o P w K mg base cs:=by
 have nd:=sc_law_raised.nd;refine def2 Df sc_law_raised (fun ds δ q x h=>?_) (fun cdv A outer s H E Y hr=>⟨_,(o3 (n4 5 nd (u3 G_risk_of (hr.mono (by decide)) r0 (u0 (e2_v 1) (u0 (e2_v 3) (u0 (t0j M_LookPrices (hr.mono (by decide)) r0 (u0 (l4 2 y3) (u0 (l4 2 y3) (u0 (l4 2 y3) o0)))) (u0 (e2_v 4) o0))))))
  (o3 (n4 6 nd (u3 G_law_take (hr.mono (by decide)) r0 (u0 (e2_v 0) (u0 y3 o0))))
  (o3 (a0i 7 nd T.n_list (u0 (e2_v 2) o0))
  (o3 (x0q 7 (e2_v 6) (e2_b (t0v rfl) a0l T.n_min t0o (u0 y3 (u0 (y4 p4 b4 (y4 p4 b4 (l4 7 (e2_v 6)) y3) (u3 G_law_take (hr.mono (by decide)) r0 (u0 (e2_v 0) (u0 y3 o0)))) o0))))
  (l3 (o4 (r0b op_ge d_ge (u3 G_risk_of (hr.mono (by decide)) r0 (u0 (e2_v 1) (u0 (e2_v 3) (u0 (t0j M_LookPrices (hr.mono (by decide)) r0 (u0 (l4 7 y3) (u0 (l4 7 y3) (u0 (l4 7 y3) o0)))) (u0 (e2_v 4) o0))))) (e2_v 5) (b5 _)))))))),fun ds δ q x h=>?_⟩)
 ·unfold p0a at h;obtain ⟨p,ns,n,full,mark,shs,z,w,k,rfl,hD,hn,h,hz,hk,hw,hs,h0,hq⟩:=h;rfl
 ·unfold p0a at h;obtain ⟨p,ns,n,full,mark,shs,z,w,k,rfl,hD,hn,h,hz,hk,hw,hs,h0,hq⟩:=h;rw[show v4 ["_law_deck_here","_law_part","_law_prices_here","_law_weights_here","_law_rounds","_law_before","_law_at","_law_more"] _=[.val _,.val _,.val _,.val _,.val _,.no,.no,.no]from rfl];have hw6:=l0m hw (show (11:Int)≤10^6 by decide);have b1:=hz.l;have b2:=hz.c;have b3:=hz.f;unfold x0d;walk_at "ds";refine u0t hz ?_;rw[m0x];walk_at "ds";refine v7 h hz hw6 hs h0 hk (.inr rfl) ?_;walk_at "ds";refine ⟨p,ns,_,3,rfl,hD,by omega,by decide,by decide,fun a0 δ0 a1 a2 hD=>?_⟩;walk_at "ds";have ha:a0=0∨a0=1∨a0=2:=by omega
  rcases ha with rfl |rfl |rfl
  all_goals
   walk_at "ds";refine ⟨p,ns,_,40,rfl,hD,by omega,by decide,by decide,fun c0 δ1 c1 c2 hD=>?_⟩;walk_at "ds";rw[p0j]
  ·have hz':PrOk ⟨min 99 (z.look+1+c0),z.change,z.fall⟩:=⟨⟨by show 0≤min 99 (z.look+1+c0);omega,by show min 99 (z.look+1+c0)≤99;omega⟩,b2,b3⟩;refine u0t hz' ?_;rw[m0x];walk_at "ds";refine v7 h hz' hw6 hs h0 hk (.inr rfl) ?_;walk_at "ds";rw[r0s (z:=z) (z':=⟨min 99 (z.look+1+c0),z.change,z.fall⟩) h hw ⟨by show z.look≤min 99 (z.look+1+c0);omega,Int.le_refl _,Int.le_refl _⟩];exact hq _ hD
  ·have hz':PrOk ⟨z.look,min 99 (z.change+1+c0),z.fall⟩:=⟨b1,⟨by show 0≤min 99 (z.change+1+c0);omega,by show min 99 (z.change+1+c0)≤99;omega⟩,b3⟩;refine u0t hz' ?_;rw[m0x];walk_at "ds";refine v7 h hz' hw6 hs h0 hk (.inr rfl) ?_;walk_at "ds";rw[r0s (z:=z) (z':=⟨z.look,min 99 (z.change+1+c0),z.fall⟩) h hw ⟨Int.le_refl _,by show z.change≤min 99 (z.change+1+c0);omega,Int.le_refl _⟩];exact hq _ hD
  ·have hz':PrOk ⟨z.look,z.change,min 99 (z.fall+1+c0)⟩:=⟨b1,b2,⟨by show 0≤min 99 (z.fall+1+c0);omega,by show min 99 (z.fall+1+c0)≤99;omega⟩⟩;refine u0t hz' ?_;rw[m0x];walk_at "ds";refine v7 h hz' hw6 hs h0 hk (.inr rfl) ?_;walk_at "ds";rw[r0s (z:=z) (z':=⟨z.look,z.change,min 99 (z.fall+1+c0)⟩) h hw ⟨Int.le_refl _,Int.le_refl _,by show z.fall≤min 99 (z.fall+1+c0);omega⟩];exact hq _ hD
structure LawIn(full mark:Int)(shs:List Int)(z:PrZ)(w v:Wt)(n:Nat):Prop where
 h:ShOk full mark shs
 z:PrOk z
 n:n≤3
 ws:m3 (mOf full mark) w≠0
 w0:∀i,mOf full mark≤i→w i=0
 vs:m3 (mOf full mark) v≠0
 v0:∀i,mOf full mark≤i→v i=0
 w:WtOk (mOf full mark) w 11
 v:WtOk (mOf full mark) v 11
noncomputable def envL(cs:Cs)(c0:Cell)(p:Addr)(full mark:Int)(shs:List Int)(z:PrZ)(w v:Wt)(n:Nat)(r:List Cell):En:=[c0,.val (.ref p),.val (.int ((n:Int)+1)),.val (d7 full mark shs),.val (m5 cs full mark shs),.val (x0d z),.val (y7 cs z),.val (.lst ((rowN (mOf full mark) w).map D.int)),.val (.lst ((rowN (mOf full mark) v).map D.int))]++r
noncomputable def l1T(cs:Cs):TS2:=fun E ρ δ=>∃c0 p ns k full mark shs z w v n,ρ=envL cs c0 p full mark shs z w v n [.no,.no,.no,.no,.no]∧DkAt p ns k δ∧k≤100∧LawIn full mark shs z w v n∧∀ δ',E.rt (.bl true) δ'
noncomputable def l2T(cs:Cs):TS2:=fun E ρ δ=>∃c0 p ns k full mark shs z w v n c10,ρ=envL cs c0 p full mark shs z w v n [.val (.int (n3 shs z (mOf full mark) (n+1) w)),c10,.no,.no,.no]∧DkAt p ns k δ∧k≤200∧LawIn full mark shs z w v n∧∀ δ',E.rt (.bl true) δ'
noncomputable abbrev f0g:List Str:=["_law_script"]
theorem sc_law:FnScope ["_law_script","_law_deck_here","_law_rounds","_law_spec","_law_part","_law_prices_here","_law_told","_law_weights_here","_law_other","_law_found","_law_many","_law_both","_law_stand","_law_free"] f0g (defScope z1b):=⟨rfl,rfl,rfl,by decide +kernel,rfl,by decide +kernel,by decide +kernel⟩
theorem ok_law{f:Addr}{fd:FuncData}(Df:DefAt K mg "law" z1b f0g f fd)(T:Txt K mg cs)(G_law_deck:u0x P w K mg base cs)(G_law_take:a6 P w K mg base cs)(G_law_short:x0c P w K mg base cs)(M_Shared:Make2 P w K mg base "Shared" 4 (s0b cs))(G_law_prices:y0p P w K mg base cs)(M_LookPrices:Make2 P w K mg base "LookPrices" 4 (r0v cs))(G_law_weights:z0l P w K mg base cs)(G_law_steps:x0a P w K mg base cs)(G_law_raised:y0o P w K mg base cs)(G_risk_of:k8 P w K mg base cs)(G_law_known:u7 P w K mg base cs)(G_least_risk:y0r P w K mg base cs)(G_law_wait:r8 P w K mg base cs):FnOk P w K mg base (CX1 P w) 51 f fd f0g (upF K j0a):=by
 have nd:=sc_law.nd;refine def2F Df sc_law (fun ds δ q x h=>?_) (fun cdv A outer s H E Y hr=>⟨_,(o3 (n4 1 nd (u3 G_law_deck (hr.mono (by decide)) r0 (u0 (e2_v 0) o0)))
  (o3 (n4 2 nd (y4 p4 b4 y3 (u3 G_law_take (hr.mono (by decide)) r0 (u0 (e2_v 1) (u0 y3 o0)))))
  (o3 (n4 3 nd (u3 G_law_short (hr.mono (by decide)) r0 (u0 (e2_v 1) (u0 (e2_ix h0x d_ix (u0p (u0 y3 (u0 y3 (u0 y3 (u0 y3 o0))))) (y4 x0w r0o (e2_v 2) y3)) o0))))
  (o3 (n4 4 nd (t0j M_Shared (hr.mono (by decide)) r0 (u0 (l4 3 y3) (u0 (l4 3 y3) (u0 (l4 3 y3) o0)))))
  (o3 (n4 5 nd (u3 G_law_prices (hr.mono (by decide)) r0 (u0 (e2_v 1) o0)))
  (o3 (n4 6 nd (t0j M_LookPrices (hr.mono (by decide)) r0 (u0 (l4 5 y3) (u0 (l4 5 y3) (u0 (l4 5 y3) o0)))))
  (o3 (n4 7 nd (u3 G_law_weights (hr.mono (by decide)) r0 (u0 (e2_v 1) (u0 (e2_v 3) o0))))
  (o3 (n4 8 nd (u3 G_law_weights (hr.mono (by decide)) r0 (u0 (e2_v 1) (u0 (e2_v 3) o0))))
  (q0g (t':=l1T cs) (o3 (i8 (PW2.pt (e0g (z0d (x0v (u3 G_law_steps (hr.mono (by decide)) r0 (u0 (e2_v 3) (u0 (e2_v 4) (u0 (e2_v 6) (u0 (e2_v 7) (u0 (e2_v 2) o0)))))))) (l0a (z0d (x0v (u3 G_law_raised (hr.mono (by decide)) r0 (u0 (e2_v 1) (u0 (e2_v 4) (u0 (e2_v 5) (u0 (e2_v 7) (u0 (e2_v 2) o0))))))))))) (l3 (o4 j0e)) w6)
  (o3 (n4 9 nd (u3 G_risk_of (hr.mono (by decide)) r0 (u0 (e2_v 4) (u0 (e2_v 7) (u0 (e2_v 6) (u0 (e2_v 2) o0))))))
  (o3 (x0u PassesOwn.leaving rfl (k0k (u0p (u0 y3 (u0 y3 o0)))) (m4 (i:=10) nd rfl (by first |exact Or.inl rfl |exact Or.inr rfl)) (q0l (i:=10)) (l3 (i8 (b7 (b0y hr.units0) d_neE (u3 G_risk_of (hr.mono (by decide)) r0 (u0 (e2_v 4) (u0 (w0t rfl (CompOkM.of ["_law_weight"] [10] rfl) (k0k (e2_v 7)) (fun nd _ _ _ _ _=>(m4 (i:=0) nd rfl (by first |exact Or.inl rfl |exact Or.inr rfl))) f8 (fun _ _ _ _ _ _=>r9) (fun _ _ _ _ _ _=>(y4 d4 z6 (e2_v 1) (e2_v 0)))) (u0 (e2_v 6) (u0 (e2_v 2) o0))))) (y4 d4 z6 (e2_v 10) (e2_v 9)) (b5 _)) (l3 (o4 j0e)) w6)))
  (q0g (t':=l2T cs) (o3 (k0c (i:=11) rfl (CompOkM.of ["_law_one","_law_two"] [] rfl) (i2_zip T.n_zip (u0 (e2_v 7) (u0 (e2_v 8) o0))) (fun nd _ _ _ _ _=>(w0z rfl (z5 (m4 (i:=0) nd rfl (by first |exact Or.inl rfl |exact Or.inr rfl)) (z5 (m4 (i:=1) nd rfl (by first |exact Or.inl rfl |exact Or.inr rfl)) k9)))) (g0t (is:=[0,1]) rfl) (fun _ _ _ _ _ _=>r9) (fun _ _ _ _ _ _=>(y4 p4 b4 (e2_v 0) (e2_v 1))) nd)
  (o3 (i8 (b7 op_lt d_lt (u3 G_risk_of (hr.mono (by decide)) r0 (u0 (e2_v 4) (u0 (e2_v 11) (u0 (e2_v 6) (u0 (e2_v 2) o0))))) (y4 p4 b4 (e2_v 9) (u3 G_risk_of (hr.mono (by decide)) r0 (u0 (e2_v 4) (u0 (e2_v 8) (u0 (e2_v 6) (u0 (e2_v 2) o0)))))) (b5 _)) (l3 (o4 j0e)) w6)
  (o3 (n4 12 nd (y4 p4 b4 (l4 3 y3) (u3 G_law_take (hr.mono (by decide)) r0 (u0 (e2_v 1) (u0 (u9 7 T.n_len) o0)))))
  (o3 (i8 (b7 (b0y hr.units0) d_neE (u3 G_risk_of (hr.mono (by decide)) r0 (u0 (e2_v 4) (u0 (u3 G_law_known (hr.mono (by decide)) r0 (u0 (e2_v 3) (u0 (e2_v 12) (u0 y3 o0)))) (u0 (e2_v 6) (u0 (e2_v 2) o0))))) (y4 d4 z6 y3 (u3 G_least_risk (hr.mono (by decide)) r0 (u0 (e2_v 4) (u0 (e2_v 12) (u0 (e2_v 6) (u0 (e2_v 2) o0)))))) (b5 _)) (l3 (o4 j0e)) w6)
  (o3 (n4 13 nd (t0j M_LookPrices (hr.mono (by decide)) r0 (u0 y3 (u0 (l4 5 y3) (u0 (l4 5 y3) o0)))))
  (o3 (i8 (b7 i0f d_gt (u3 G_risk_of (hr.mono (by decide)) r0 (u0 (e2_v 4) (u0 (e2_v 7) (u0 (e2_v 13) (u0 (e2_v 2) o0))))) (u3 G_law_wait (hr.mono (by decide)) r0 (u0 (e2_v 3) (u0 (e2_v 4) (u0 (e2_v 13) (u0 (e2_v 7) (u0 (e2_v 2) o0)))))) (b5 _)) (l3 (o4 j0e)) w6)
  (l3 (o4 (k0w (r0b (z0h hr.units0) u0i (u3 G_risk_of (hr.mono (by decide)) r0 (u0 (e2_v 4) (u0 (e2_v 7) (u0 (e2_v 6) (u0 y3 o0))))) y3 (b5 _)) (k0x (u3 G_law_steps (hr.mono (by decide)) r0 (u0 (e2_v 3) (u0 (e2_v 4) (u0 (e2_v 13) (u0 (e2_v 8) (u0 (e2_v 2) o0)))))))))))))))) (by
   rintro E ρ δ ⟨c0,p,ns,k,full,mark,shs,z,w,v,n,c10,rfl,hD,hk,L,hq⟩;have h:=L.h;have hn:=L.n;have hw6:=l0m L.w (show (11:Int)≤10^6 by decide);have hv6:=l0m L.v (show (11:Int)≤10^6 by decide);have f2:=h.f2;have m1:=h.m1;have m2:=h.m2;have hm7:mOf full mark≤7:=by unfold mOf;omega
   have hm0:0<mOf full mark:=by unfold mOf;omega
   have nn:∀i,i<mOf full mark→0≤w i:=fun i hi=>(L.w.n i hi).1
   have nv:∀i,i<mOf full mark→0≤v i:=fun i hi=>(L.v.n i hi).1
   have hs0:∀y∈shs,0≤y:=fun y hy=>(h.s y hy).1
   unfold envL;walk_at "ds";rw[ad_row];refine i0w (fun (i:Nat)=>D.tup [.int (w i),.int (v i)]) (fun (i:Nat)=>D.int (ad w v i)) (List.range (mOf full mark)) (by rw[List.length_range];omega) (fun i _ Q hQ=>⟨_,rfl,?_⟩) ?_
   ·simp only[capt,u0j,List.map_cons,List.map_nil,List.cons_append,List.nil_append];walk_at "ds";exact hQ
   rw[show (List.range (mOf full mark)).map (fun (i:Nat)=>D.int (ad w v i))=(rowN (mOf full mark) (ad w v)).map D.int by unfold rowN;rw[List.map_map];rfl];have hsum:m3 (mOf full mark) (ad w v)=m3 (mOf full mark) w+m3 (mOf full mark) v:=n6 _;refine v7 (n:=n+1) h L.z ⟨fun i hi=>by have:=L.w.n i hi;have:=L.v.n i hi;show 0≤w i+v i∧w i+v i≤_;omega⟩ (by rw[hsum];have:=u4 nn;have:=u4 nv;have:=L.ws;omega) (fun i hi=>by show w i+v i=0;rw[L.w0 i hi,L.v0 i hi];rfl) (by omega) (.inr rfl) ?_;walk_at "ds";refine v7 (n:=n+1) h L.z hv6 L.vs L.v0 (by omega) (.inr rfl) ?_;walk_at "ds";have ha:=n0m (z:=z) hs0 (n+1) nn nv;rw[if_neg (by omega)];unfold d7;walk_at "ds";rw[List.length_map,i3];refine ⟨p,ns,_,(mOf full mark:Nat),rfl,hD,by omega,by omega,by omega,fun a0 δ1 a1 a2 hD=>?_⟩;walk_at "ds";have ea:mark+a0=mark+((a0.toNat:Nat):Int):=by omega
   have hs2:a0.toNat<mOf full mark:=by omega
   rw[ea];refine ⟨full,mark,shs,a0.toNat,7,rfl,h,?_⟩;walk_at "ds";refine v7 (n:=n+1) h L.z (f0h (by decide) (by decide)) (by rw[q0v,u0n hs2];decide) (b0t hs2) (by omega) (.inr rfl) ?_;walk_at "ds";rw[z0q (by decide)];refine ⟨full,mark,shs,_,z,_,rfl,h,L.z,rfl,rfl,fun e=>tf e (n8 (by omega) (by unfold mOf at hs2;omega)),fun _ e=>tf e (n8 (by omega) (by omega)),fun s' n' e hs' e' hn'=>?_⟩;have e1:s'=a0.toNat:=by have:=D.int.inj e;omega
   have e2:n'=n+1:=by have:=D.int.inj e';omega
   subst e1;subst e2;walk_at "ds";refine ⟨.inl ⟨by decide,by decide⟩,?_⟩;unfold x0d;walk_at "ds";have hzf:PrOk ⟨0,z.change,z.fall⟩:=⟨⟨Int.le_refl _,by show (0:Int)≤99;decide⟩,L.z.c,L.z.f⟩;refine u0t hzf ?_;rw[m0x];walk_at "ds";refine v7 (n:=n+1) h hzf hw6 L.ws L.w0 (by omega) (.inr rfl) ?_;walk_at "ds";have ws:=j0s L.w hm7 (by decide);refine ⟨full,mark,shs,⟨0,z.change,z.fall⟩,w,n,rfl,h,hzf,hn,l0m L.w (by decide),by omega,?_⟩;walk_at "ds";rw[if_neg (by unfold n3;omega)];refine v7 (n:=0) h L.z hw6 L.ws L.w0 (by omega) (.inr rfl) ?_;rw[show n3 shs z (mOf full mark) 0 w=0 from rfl];walk_at "ds";exact ⟨full,mark,shs,⟨0,z.change,z.fall⟩,v,n,rfl,h,hzf,hn,L.v,L.vs,L.v0,hq _⟩))))) (by
   rintro E ρ δ ⟨c0,p,ns,k,full,mark,shs,z,w,v,n,rfl,hD,hk,L,hq⟩;have h:=L.h;have hn:=L.n;have hw6:=l0m L.w (show (11:Int)≤10^6 by decide);have f2:=h.f2;have m1:=h.m1;have hm7:mOf full mark≤7:=by unfold mOf;omega
   have nn:∀i,i<mOf full mark→0≤w i:=fun i hi=>(L.w.n i hi).1
   unfold envL;walk_at "ds";refine ⟨full,mark,shs,z,w,n,rfl,h,L.z,L.n,L.w,L.ws,L.w0,?_⟩;walk_at "ds";refine ⟨p,ns,_,full,mark,shs,z,w,n+1,rfl,hD,by omega,h,L.z,by omega,L.w,L.ws,L.w0,fun δ1 hD=>?_⟩;walk_at "ds";refine v7 (n:=n+1) h L.z hw6 L.ws L.w0 (by omega) (.inr rfl) ?_;walk_at "ds";rw[show ([D.int 3,D.int 90909]:List D)=[(3:Int),90909].map D.int from rfl];refine forL_G D.int [3,90909] (fun i ρ δ'=>∃c10,ρ=envL cs c0 p full mark shs z w v n [.val (.int (n3 shs z (mOf full mark) (n+1) w)),c10,.no,.no,.no]∧δ'=δ1) ⟨_,rfl,rfl⟩ ?_ ?_
   ·rintro i c ρ δ' rest hi ⟨c10,rfl,rfl⟩ hrest;have hc:1≤c∧c≤90909:=by
     have:=List.mem_of_getElem? hi;simp only[List.mem_cons,List.not_mem_nil,or_false]at this;rcases this with rfl |rfl<;>decide
    unfold v0o envL;walk_at "ds";refine y0k ((rowN (mOf full mark) (sc c w)).map D.int) (by rw[List.length_map,List.length_map,i3,i3]) (by rw[List.length_map,i3];show 0+_≤_;omega) (fun j d e hd he Q hQ=>?_) ?_
    ·have hj:j<mOf full mark:=by have:=(List.getElem?_eq_some_iff.mp hd).1;rw[List.length_map,i3]at this;exact this
     rw[List.getElem?_map,p5 hj]at hd he;cases hd;cases he;simp only[capt,u0j,List.map_cons,List.map_nil,List.getElem?_cons_zero,List.getElem?_cons_succ];walk_at "ds";exact ⟨.inl ⟨by omega,by omega⟩,hQ⟩
    ·rw[List.nil_append];have hsc:WtOk (mOf full mark) (sc c w) (10^6):=⟨fun i hi=>by
      have:=L.w.n i hi;refine ⟨Int.mul_nonneg (by omega) this.1,?_⟩;have:=Int.mul_le_mul hc.2 this.2 this.1 (show (0:Int)≤90909 by decide);show c*w i≤_;omega⟩
     refine v7 (n:=n+1) h L.z hsc (by rw[q0v];exact fun e=>(Int.mul_eq_zero.mp e).elim (fun e=>by omega) L.ws) (fun i hi=>by show c*w i=0;rw[L.w0 i hi,Int.mul_zero]) (by omega) (.inr rfl) ?_;walk_at "ds";refine ⟨.inl ⟨by omega,by omega⟩,?_⟩;rw[z0q (by omega)];walk_at "ds";exact hrest _ _ ⟨_,rfl,rfl⟩
   ·rintro ρ δ' ⟨c10,rfl,rfl⟩;exact ⟨c0,p,ns,_,full,mark,shs,z,w,v,n,c10,rfl,hD,by omega,L,hq⟩)))))))))),fun ds δ q x h=>?_⟩)
 ·unfold j0a at h;obtain ⟨ns,rfl,hl,rfl,hq⟩:=h;rfl
 ·unfold j0a at h;obtain ⟨ns,rfl,hl,rfl,hq⟩:=h;rw[show v4 ["_law_script","_law_deck_here","_law_rounds","_law_spec","_law_part","_law_prices_here","_law_told","_law_weights_here","_law_other","_law_found","_law_many","_law_both","_law_stand","_law_free"] _=[.val _,.no,.no,.no,.no,.no,.no,.no,.no,.no,.no,.no,.no,.no]from rfl];walk_at "ds";refine ⟨ns,rfl,rfl,fun p δ0 hD=>?_⟩;walk_at "ds";refine ⟨p,ns,_,4,rfl,hD,by decide,by decide,by decide,fun a0 δ1 a1 a2 hD=>?_⟩;walk_at "ds";have hm:∃most:Int,atI [D.int 6,D.int 6,D.int 3,D.int 1] (1+a0-1)=some (.int most)∧1≤most∧most≤6:=by
   have:a0=0∨a0=1∨a0=2∨a0=3:=by omega
   rcases this with rfl |rfl |rfl |rfl
   ·exact ⟨6,rfl,by decide⟩
   ·exact ⟨6,rfl,by decide⟩
   ·exact ⟨3,rfl,by decide⟩
   ·exact ⟨1,rfl,by decide⟩
  obtain ⟨most,em,o1,o6⟩:=hm;rw[em];walk_at "ds";refine ⟨p,ns,_,most,rfl,hD,by decide,o1,o6,fun full mark shs δ1 h hs0 hf hD=>?_⟩;unfold d7;walk_at "ds";refine c0r h hs0 ?_;rw[m0x];walk_at "ds";refine ⟨p,ns,_,rfl,hD,by decide,fun z δ2 hz hD=>?_⟩;unfold x0d;walk_at "ds";refine u0t hz ?_;rw[m0x];walk_at "ds";refine ⟨p,ns,_,full,mark,shs,rfl,hD,by decide,h,fun w δ3 hw hs h0 hD=>?_⟩;walk_at "ds";refine ⟨p,ns,_,full,mark,shs,rfl,hD,by decide,h,fun v δ4 hv hvs hv0 hD=>?_⟩;walk_at "ds";exact ⟨_,p,ns,_,full,mark,shs,z,w,v,a0.toNat,by rw[show (1:Int)+a0=((a0.toNat:Nat):Int)+1 by omega];rfl,hD,by omega,⟨h,hz,by omega,hs,h0,hvs,hv0,hw,hv⟩,hq⟩
theorem r0h:FnScope ["self","at"] ["self","at"] (defScope z0w):=⟨rfl,rfl,rfl,by decide +kernel,rfl,by decide +kernel,by decide +kernel⟩
theorem r0g{f C:Addr}{fd:FuncData}(F:Fun K "__init__" "NoPart.__init__" z0w f fd)(xc:XC K C)(n0:NoAttr K C "at"):FnOk P w K mg base CX0 1 f fd ["self","at"] (spXI C "at"):=by
 refine F.ok r0h (fun vs H Q E h=>?_) (fun cdv A outer s H vs Q E hr h=>⟨_,n0h (ps_x0 (pv 0) (pv 1) rfl),?_⟩)
 ·obtain ⟨x,v,rfl,_⟩:=h;rfl
 ·obtain ⟨x,v,rfl,hx,q⟩:=h;exact ⟨_,rfl,_,rfl,x,C,rfl,hx,xc,n0,fun d hd hne=>q d hd hne⟩
theorem r0r:FnScope ["self","at"] ["self","at"] (defScope p9):=⟨rfl,rfl,rfl,by decide +kernel,rfl,by decide +kernel,by decide +kernel⟩
theorem r0q{f C:Addr}{fd:FuncData}(F:Fun K "__init__" "NoWorks.__init__" p9 f fd)(xc:XC K C)(n0:NoAttr K C "at"):FnOk P w K mg base CX0 1 f fd ["self","at"] (spXI C "at"):=by
 refine F.ok r0r (fun vs H Q E h=>?_) (fun cdv A outer s H vs Q E hr h=>⟨_,n0h (ps_x0 (pv 0) (pv 1) rfl),?_⟩)
 ·obtain ⟨x,v,rfl,_⟩:=h;rfl
 ·obtain ⟨x,v,rfl,hx,q⟩:=h;exact ⟨_,rfl,_,rfl,x,C,rfl,hx,xc,n0,fun d hd hne=>q d hd hne⟩
@[elab_as_elim] theorem el0{α:Type}{motive:List α→Prop}(us:List α)(hl:us.length=0)(h:motive []):motive us:=match us,hl with
 | [],_=>h
@[elab_as_elim] theorem el1{α:Type}{motive:List α→Prop}(us:List α)(hl:us.length=1)(h:∀a,motive [a]):motive us:=match us,hl with
 | [a],_=>h a
@[elab_as_elim] theorem el2{α:Type}{motive:List α→Prop}(us:List α)(hl:us.length=2)(h:∀a b,motive [a,b]):motive us:=match us,hl with
 | [a,b],_=>h a b
@[elab_as_elim] theorem el3{α:Type}{motive:List α→Prop}(us:List α)(hl:us.length=3)(h:∀a b c,motive [a,b,c]):motive us:=match us,hl with
 | [a,b,c],_=>h a b c
@[elab_as_elim] theorem el4{α:Type}{motive:List α→Prop}(us:List α)(hl:us.length=4)(h:∀a b c d,motive [a,b,c,d]):motive us:=match us,hl with
 | [a,b,c,d],_=>h a b c d
@[elab_as_elim] theorem el5{α:Type}{motive:List α→Prop}(us:List α)(hl:us.length=5)(h:∀a b c d e,motive [a,b,c,d,e]):motive us:=match us,hl with
 | [a,b,c,d,e],_=>h a b c d e
@[elab_as_elim] theorem el6{α:Type}{motive:List α→Prop}(us:List α)(hl:us.length=6)(h:∀a b c d e f,motive [a,b,c,d,e,f]):motive us:=match us,hl with
 | [a,b,c,d,e,f],_=>h a b c d e f
@[elab_as_elim] theorem el7{α:Type}{motive:List α→Prop}(us:List α)(hl:us.length=7)(h:∀a b c d e f g,motive [a,b,c,d,e,f,g]):motive us:=match us,hl with
 | [a,b,c,d,e,f,g],_=>h a b c d e f g
@[elab_as_elim] theorem el8{α:Type}{motive:List α→Prop}(us:List α)(hl:us.length=8)(h:∀a b c d e f g i,motive [a,b,c,d,e,f,g,i]):motive us:=match us,hl with
 | [a,b,c,d,e,f,g,i],_=>h a b c d e f g i
theorem all_mk{l:PySem.W.OpenLaw}{w:World}{K:PySem.W.Frag}{h:Heap}{mg:Str→Option Value}{fa:Addr}{cs:Cs}(X:K.In h)(G:h.Ns mainGlobals mg)(hfa:mg "law"=some (.ref fa))(T:Txt K mg cs)(h_is_number:HD.FnF K "is_number" x0m)(h_is_whole:HD.FnF K "is_whole" v0l)(h_is_row:HD.FnF K "is_row" q0d)(h_is_whole_row:HD.FnF K "is_whole_row" q9)(h_is_stand:HD.FnF K "is_stand" v0k)(h_check_stand:HD.FnF K "check_stand" b9)(h_total_of:HD.FnF K "total_of" v0j)(h_cases_of:HD.FnF K "cases_of" v0i)(h_weights_of:HD.FnF K "weights_of" z0c)(h_lose_once:HD.FnF K "lose_once" x0l)(h_wait_cost:HD.FnF K "wait_cost" a9)(h_move_costs:HD.FnF K "move_costs" d8)(h_least_cost:HD.FnF K "least_cost" b8)(h_known_waits:HD.FnF K "known_waits" z0z)(h_check_weights:HD.FnF K "check_weights" q8)(h_check_looks:HD.FnF K "check_looks" z0y)(h_risk_of:HD.FnF K "risk_of" s0x)(h_best_move:HD.FnF K "best_move" x0k)(h_least_risk:HD.FnF K "least_risk" z0b)(h_law_cell:HD.FnF K "_law_cell" v0h)(h_law_draw:HD.FnF K "_law_draw" v0g)(h_law_deck:HD.FnF K "_law_deck" v0f)(h_law_take:HD.FnF K "_law_take" v0e)(h_law_short:HD.FnF K "_law_short" x0j)(h_law_weights:HD.FnF K "_law_weights" z0x)(h_law_prices:HD.FnF K "_law_prices" z0a)(h_law_all:HD.FnF K "_law_all" s0w)(h_law_rest:HD.FnF K "_law_rest" v0d)(h_law_known:HD.FnF K "_law_known" x0i)(h_law_wait:HD.FnF K "_law_wait" v0c)(h_law_change:HD.FnF K "_law_change" y0z)(h_law_look:HD.FnF K "_law_look" v0b)(h_law_steps:HD.FnF K "_law_steps" x0h)(h_law_raised:HD.FnF K "_law_raised" y0y)(h_law:HD.FnF K "law" z1b)(x_NoPart:HD.XMkF K cs.NoPart "NoPart.__init__" z0w)(x_NoWorks:HD.XMkF K cs.NoWorks "NoWorks.__init__" p9)(o_Shared:HD.MkF K cs.Shared "Shared.__init__" z0v)(o_LookPrices:HD.MkF K cs.LookPrices "LookPrices.__init__" f6):
 ∃fd:FuncData,(∀(s:Shared) (v:Value),BindsTo s fd ⟨[v],[]⟩ [("_law_script",v)])∧∀base:Heap,K.In base→base.Ns mainGlobals mg→FnOk l.prog w K mg base (CX1 l.prog w) 51 fa fd f0g (upF K j0a):=by
 obtain ⟨f_is_number,d_is_number,D_is_number⟩:=h_is_number.at X G (ps:=z0u) fun _ _ _ _ _ _ us hl=>el1 us hl (fun _=>rfl)
 obtain ⟨f_is_whole,d_is_whole,D_is_whole⟩:=h_is_whole.at X G (ps:=y0j) fun _ _ _ _ _ _ us hl=>el3 us hl (fun _ _ _=>rfl)
 obtain ⟨f_is_row,d_is_row,D_is_row⟩:=h_is_row.at X G (ps:=t0z) fun _ _ _ _ _ _ us hl=>el1 us hl (fun _=>rfl)
 obtain ⟨f_is_whole_row,d_is_whole_row,D_is_whole_row⟩:=h_is_whole_row.at X G (ps:=o7) fun _ _ _ _ _ _ us hl=>el5 us hl (fun _ _ _ _ _=>rfl)
 obtain ⟨f_is_stand,d_is_stand,D_is_stand⟩:=h_is_stand.at X G (ps:=y0c) fun _ _ _ _ _ _ us hl=>el2 us hl (fun _ _=>rfl)
 obtain ⟨f_check_stand,d_check_stand,D_check_stand⟩:=h_check_stand.at X G (ps:=z8) fun _ _ _ _ _ _ us hl=>el2 us hl (fun _ _=>rfl)
 obtain ⟨f_total_of,d_total_of,D_total_of⟩:=h_total_of.at X G (ps:=y0d) fun _ _ _ _ _ _ us hl=>el1 us hl (fun _=>rfl)
 obtain ⟨f_cases_of,d_cases_of,D_cases_of⟩:=h_cases_of.at X G (ps:=y0a) fun _ _ _ _ _ _ us hl=>el2 us hl (fun _ _=>rfl)
 obtain ⟨f_weights_of,d_weights_of,D_weights_of⟩:=h_weights_of.at X G (ps:=a8) fun _ _ _ _ _ _ us hl=>el2 us hl (fun _ _=>rfl)
 obtain ⟨f_lose_once,d_lose_once,D_lose_once⟩:=h_lose_once.at X G (ps:=z0p) fun _ _ _ _ _ _ us hl=>el2 us hl (fun _ _=>rfl)
 obtain ⟨f_wait_cost,d_wait_cost,D_wait_cost⟩:=h_wait_cost.at X G (ps:=l8) fun _ _ _ _ _ _ us hl=>el4 us hl (fun _ _ _ _=>rfl)
 obtain ⟨f_move_costs,d_move_costs,D_move_costs⟩:=h_move_costs.at X G (ps:=j7) fun _ _ _ _ _ _ us hl=>el4 us hl (fun _ _ _ _=>rfl)
 obtain ⟨f_least_cost,d_least_cost,D_least_cost⟩:=h_least_cost.at X G (ps:=f7) fun _ _ _ _ _ _ us hl=>el4 us hl (fun _ _ _ _=>rfl)
 obtain ⟨f_known_waits,d_known_waits,D_known_waits⟩:=h_known_waits.at X G (ps:=y8) fun _ _ _ _ _ _ us hl=>el3 us hl (fun _ _ _=>rfl)
 obtain ⟨f_check_weights,d_check_weights,D_check_weights⟩:=h_check_weights.at X G (ps:=l6) fun _ _ _ _ _ _ us hl=>el2 us hl (fun _ _=>rfl)
 obtain ⟨f_check_looks,d_check_looks,D_check_looks⟩:=h_check_looks.at X G (ps:=w8) fun _ _ _ _ _ _ us hl=>el2 us hl (fun _ _=>rfl)
 obtain ⟨f_risk_of,d_risk_of,D_risk_of⟩:=h_risk_of.at X G (ps:=v0t) fun _ _ _ _ _ _ us hl=>el4 us hl (fun _ _ _ _=>rfl)
 obtain ⟨f_best_move,d_best_move,D_best_move⟩:=h_best_move.at X G (ps:=z0k) fun _ _ _ _ _ _ us hl=>el4 us hl (fun _ _ _ _=>rfl)
 obtain ⟨f_least_risk,d_least_risk,D_least_risk⟩:=h_least_risk.at X G (ps:=z9) fun _ _ _ _ _ _ us hl=>el4 us hl (fun _ _ _ _=>rfl)
 obtain ⟨f_law_cell,d_law_cell,D_law_cell⟩:=h_law_cell.at X G (ps:=y0i) fun _ _ _ _ _ _ us hl=>el2 us hl (fun _ _=>rfl)
 obtain ⟨f_law_draw,d_law_draw,D_law_draw⟩:=h_law_draw.at X G (ps:=y0g) fun _ _ _ _ _ _ us hl=>el3 us hl (fun _ _ _=>rfl)
 obtain ⟨f_law_deck,d_law_deck,D_law_deck⟩:=h_law_deck.at X G (ps:=y0f) fun _ _ _ _ _ _ us hl=>el1 us hl (fun _=>rfl)
 obtain ⟨f_law_take,d_law_take,D_law_take⟩:=h_law_take.at X G (ps:=y0e) fun _ _ _ _ _ _ us hl=>el2 us hl (fun _ _=>rfl)
 obtain ⟨f_law_short,d_law_short,D_law_short⟩:=h_law_short.at X G (ps:=z0m) fun _ _ _ _ _ _ us hl=>el2 us hl (fun _ _=>rfl)
 obtain ⟨f_law_weights,d_law_weights,D_law_weights⟩:=h_law_weights.at X G (ps:=u8) fun _ _ _ _ _ _ us hl=>el2 us hl (fun _ _=>rfl)
 obtain ⟨f_law_prices,d_law_prices,D_law_prices⟩:=h_law_prices.at X G (ps:=y9) fun _ _ _ _ _ _ us hl=>el1 us hl (fun _=>rfl)
 obtain ⟨f_law_all,d_law_all,D_law_all⟩:=h_law_all.at X G (ps:=v0r) fun _ _ _ _ _ _ us hl=>el2 us hl (fun _ _=>rfl)
 obtain ⟨f_law_rest,d_law_rest,D_law_rest⟩:=h_law_rest.at X G (ps:=x0z) fun _ _ _ _ _ _ us hl=>el5 us hl (fun _ _ _ _ _=>rfl)
 obtain ⟨f_law_known,d_law_known,D_law_known⟩:=h_law_known.at X G (ps:=z0j) fun _ _ _ _ _ _ us hl=>el3 us hl (fun _ _ _=>rfl)
 obtain ⟨f_law_wait,d_law_wait,D_law_wait⟩:=h_law_wait.at X G (ps:=x0y) fun _ _ _ _ _ _ us hl=>el5 us hl (fun _ _ _ _ _=>rfl)
 obtain ⟨f_law_change,d_law_change,D_law_change⟩:=h_law_change.at X G (ps:=x9) fun _ _ _ _ _ _ us hl=>el5 us hl (fun _ _ _ _ _=>rfl)
 obtain ⟨f_law_look,d_law_look,D_law_look⟩:=h_law_look.at X G (ps:=x0x) fun _ _ _ _ _ _ us hl=>el5 us hl (fun _ _ _ _ _=>rfl)
 obtain ⟨f_law_steps,d_law_steps,D_law_steps⟩:=h_law_steps.at X G (ps:=z0i) fun _ _ _ _ _ _ us hl=>el5 us hl (fun _ _ _ _ _=>rfl)
 obtain ⟨f_law_raised,d_law_raised,D_law_raised⟩:=h_law_raised.at X G (ps:=v9) fun _ _ _ _ _ _ us hl=>el5 us hl (fun _ _ _ _ _=>rfl)
 obtain ⟨f_law,d_law,D_law⟩:=h_law.at X G (ps:=f0g) fun _ _ _ _ _ _ us hl=>el1 us hl (fun _=>rfl)
 obtain ⟨fi_NoPart,fd_NoPart,m_NoPart,F_NoPart⟩:=x_NoPart;have M_NoPart:∀base,MkE l.prog w K mg base "NoPart" cs.NoPart 1 ["self","at"] (spXI cs.NoPart "at"):=fun base=>⟨⟨fi_NoPart,_,m_NoPart,r0g F_NoPart (T.err _ (List.mem_of_getElem? (show cs.ds[0]?=some cs.NoPart from rfl))).xc T.a_NoPart_at,F_NoPart.binds (ps:=["self","at"]) fun _ _ _ _ _ _ us hl=>el2 us hl (fun _ _=>rfl)⟩,T.c_NoPart⟩
 obtain ⟨fi_NoWorks,fd_NoWorks,m_NoWorks,F_NoWorks⟩:=x_NoWorks;have M_NoWorks:∀base,MkE l.prog w K mg base "NoWorks" cs.NoWorks 1 ["self","at"] (spXI cs.NoWorks "at"):=fun base=>⟨⟨fi_NoWorks,_,m_NoWorks,r0q F_NoWorks (T.err _ (List.mem_of_getElem? (show cs.ds[1]?=some cs.NoWorks from rfl))).xc T.a_NoWorks_at,F_NoWorks.binds (ps:=["self","at"]) fun _ _ _ _ _ _ us hl=>el2 us hl (fun _ _=>rfl)⟩,T.c_NoWorks⟩
 obtain ⟨fi_Shared,fd_Shared,m_Shared,F_Shared⟩:=o_Shared;obtain ⟨fi_LookPrices,fd_LookPrices,m_LookPrices,F_LookPrices⟩:=o_LookPrices;have G_law_cell:∀base,y0h l.prog w K mg base cs:=fun base=>m0k D_law_cell T
 have G_law_deck:∀base,u0x l.prog w K mg base cs:=fun base=>m0i D_law_deck T (G_law_cell base)
 have G_law_draw:∀base,u0y l.prog w K mg base cs:=fun base=>m0j D_law_draw T (G_law_cell base)
 have G_law_take:∀base,a6 l.prog w K mg base cs:=fun base=>m0h D_law_take T (G_law_draw base)
 have G_law_short:∀base,x0c l.prog w K mg base cs:=fun base=>n0o D_law_short T (G_law_take base)
 have G_is_number:∀base,x0g l.prog w K mg base cs:=fun base=>n0q D_is_number T
 have G_is_whole:∀base,d6 l.prog w K mg base cs:=fun base=>m0l D_is_whole T (G_is_number base)
 have G_is_row:∀base,p0n l.prog w K mg base cs:=fun base=>f0v D_is_row T
 have G_is_whole_row:∀base,m7 l.prog w K mg base cs:=fun base=>s0c D_is_whole_row T (G_is_row base) (G_is_whole base)
 have M_Shared:∀base,Make2 l.prog w K mg base "Shared" 4 (s0b cs):=fun base=>r0n F_Shared m_Shared (F_Shared.binds (ps:=["self","full","mark","shares"]) fun _ _ _ _ _ _ us hl=>el4 us hl (fun _ _ _ _=>rfl)) T (G_is_whole base) (G_is_whole_row base) (M_NoPart base)
 have G_law_prices:∀base,y0p l.prog w K mg base cs:=fun base=>p0d D_law_prices T (G_law_take base)
 have M_LookPrices:∀base,Make2 l.prog w K mg base "LookPrices" 4 (r0v cs):=fun base=>v0u F_LookPrices m_LookPrices (F_LookPrices.binds (ps:=["self","look","change","fall"]) fun _ _ _ _ _ _ us hl=>el4 us hl (fun _ _ _ _=>rfl)) T (G_is_whole base) (M_NoWorks base)
 have G_law_weights:∀base,z0l l.prog w K mg base cs:=fun base=>r0i D_law_weights T (G_law_take base)
 have G_law_all:∀base,y0q l.prog w K mg base cs:=fun base=>i0s D_law_all T
 have G_check_weights:∀base,j6 l.prog w K mg base cs:=fun base=>u0g D_check_weights T (G_is_whole_row base)
 have G_check_looks:∀base,v8 l.prog w K mg base cs:=fun base=>r0j D_check_looks T (G_is_whole base)
 have G_total_of:∀base,u0w l.prog w K mg base cs:=fun base=>m0f D_total_of T
 have G_cases_of:∀base,l9 l.prog w K mg base cs:=fun base=>l0w D_cases_of T (G_total_of base)
 have G_lose_once:∀base,z0o l.prog w K mg base cs:=fun base=>n0p D_lose_once T
 have G_weights_of:∀base,v6 l.prog w K mg base cs:=fun base=>p0m D_weights_of T
 have Rl:∀base,_:=fun base=>v0v (P:=l.prog) (w:=w) (base:=base) D_move_costs D_least_cost D_wait_cost T (G_cases_of base) (G_lose_once base) (G_weights_of base)
 have G_least_cost:∀base,e7 4 l.prog w K mg base cs:=fun base=>(Rl base 4).2.1
 have Rw:∀base,_:=fun base=>v0v (P:=l.prog) (w:=w) (base:=base) D_move_costs D_least_cost D_wait_cost T (G_cases_of base) (G_lose_once base) (G_weights_of base)
 have G_wait_cost:∀base,z0n 3 l.prog w K mg base cs:=fun base=>(Rw base 3).2.2
 have G_known_waits:∀base,x8 l.prog w K mg base cs:=fun base=>r0k D_known_waits T (G_wait_cost base) (G_weights_of base)
 have G_risk_of:∀base,k8 l.prog w K mg base cs:=fun base=>i0t D_risk_of T (G_check_weights base) (G_check_looks base) (G_least_cost base) (G_known_waits base)
 have G_law_rest:∀base,u0s l.prog w K mg base cs:=fun base=>l0q D_law_rest T (G_risk_of base)
 have G_law_known:∀base,u7 l.prog w K mg base cs:=fun base=>n0j D_law_known T
 have G_law_wait:∀base,r8 l.prog w K mg base cs:=fun base=>l0p D_law_wait T (G_law_all base) (G_law_rest base) (G_law_known base)
 have G_law_change:∀base,w9 l.prog w K mg base cs:=fun base=>p0b D_law_change T (G_law_all base) (G_law_wait base) (G_law_known base)
 have G_law_look:∀base,u0r l.prog w K mg base cs:=fun base=>l0o D_law_look T (G_law_all base) (G_law_wait base) (G_law_known base) (G_law_change base)
 have Rm:∀base,_:=fun base=>v0v (P:=l.prog) (w:=w) (base:=base) D_move_costs D_least_cost D_wait_cost T (G_cases_of base) (G_lose_once base) (G_weights_of base)
 have G_move_costs:∀base,i7 4 l.prog w K mg base cs:=fun base=>(Rm base 4).1
 have G_best_move:∀base,x0b l.prog w K mg base cs:=fun base=>n0n D_best_move T (G_check_weights base) (G_check_looks base) (G_move_costs base) (G_known_waits base)
 have G_law_steps:∀base,x0a l.prog w K mg base cs:=fun base=>n0i D_law_steps T (G_law_wait base) (G_law_look base) (G_law_change base) (G_risk_of base) (G_best_move base)
 have G_law_raised:∀base,y0o l.prog w K mg base cs:=fun base=>o0z D_law_raised T (G_law_take base) (G_risk_of base) (M_LookPrices base)
 have G_is_stand:∀base,u0v l.prog w K mg base cs:=fun base=>m0e D_is_stand T (G_is_whole base)
 have G_check_stand:∀base,z0s l.prog w K mg base cs:=fun base=>r0m D_check_stand T (G_is_stand base)
 have G_least_risk:∀base,y0r l.prog w K mg base cs:=fun base=>p0f D_least_risk T (G_check_stand base) (G_risk_of base) (G_weights_of base)
 obtain ⟨_,_,_,_,_,_,_,_,_,rfl,_,_⟩:=D_law.F.ex;have e:=hfa.symm.trans D_law.m;cases e;exact ⟨_,fun s v=>.of_eq rfl,fun base _ _=>ok_law D_law T (G_law_deck base) (G_law_take base) (G_law_short base) (M_Shared base) (G_law_prices base) (M_LookPrices base) (G_law_weights base) (G_law_steps base) (G_law_raised base) (G_risk_of base) (G_law_known base) (G_least_risk base) (G_law_wait base)⟩
end
end K31
namespace HD31
open PySem PySem.W PyProof.Rows PySem.Calls HD
open K31 (top)
noncomputable abbrev PW:Program:=PySem.Challenge.pw_wearplan_k31_whole_looking_pays
noncomputable def env:Env:=⟨PW.main.scope,mainNs,mainNs,[],Str.empty,none,(r 13),some 14,0⟩
noncomputable def cE:Code:=.body (behindTheImports PW) env
noncomputable abbrev fp:Pos:=⟨0,0,0,0⟩
noncomputable abbrev BB:List Frame:=[topFrame fp]
noncomputable def life:Life:={}
noncomputable def drawn:Drawn:={}
noncomputable def o11_0(P:Params):Obj:=tp []
noncomputable def o12_0(P:Params):Obj:=fl N []
noncomputable def o13_0(P:Params):Obj:=fl (ty "code") [(s "<module>" 182),(s "<module>" 183),(s "/claim/cut.py" 184),(i 1 0),(i 0 0),(i 0 0),(i 0 0),(i 0 0),(r 11),(b false),(i 181 0),(r 12),N,N,N,N,(i 185 0),(i 1 0),(s "/claim/cut.py" 186)]
noncomputable def o14_0(P:Params):Obj:={cls:=(ty "frame"),slots:=⟨[some (r 13),some (r 3),some (r 3),none,some (s "__main__" 164),none,some (r 0)]⟩}
noncomputable def t0(P:Params):BT:=(.node (boot_o_0 P) (.node (boot_o_1 P) (.node (boot_o_3 P) (.node (boot_o_7 P) .nil .nil) (.node (o11_0 P) .nil .nil)) (.node (boot_o_5 P) (.node (boot_o_9 P) .nil .nil) (.node (o13_0 P) .nil .nil))) (.node (boot_o_2 P) (.node (boot_o_4 P) (.node (boot_o_8 P) .nil .nil) (.node (o12_0 P) .nil .nil)) (.node (boot_o_6 P) (.node (boot_o_10 P) .nil .nil) (.node (o14_0 P) .nil .nil))))
theorem pre(w:World)(os:OsState):topGo treeTable PW w 11 (some (r 6)) 12 ⟨boot_heap w.params,⟨[]⟩,boot_drawn,boot_toks,os⟩ (topStub PW)=some ((SharedT.abs ⟨t0 w.params,15,life,⟨[]⟩,drawn,187,os⟩),⟨denote treeTable cE,cE,⟨0,0,0,0⟩,BB⟩):=turnGo (by rw[PySem.W.Fast.te11892475500146522536,PySem.W.Fast.te14364793385576792824];kernel_rfl)
theorem blk(w:World)(os:OsState):segRun treeTable PW w 11 (some (r 6)) 1 1 (SharedT.abs ⟨t0 w.params,15,life,⟨[]⟩,drawn,187,os⟩) (blockOf (behindTheImports PW) env cE ⟨0,0,0,0⟩ BB)=some (.next,(SharedT.abs ⟨t0 w.params,15,life,⟨[]⟩,drawn,187,os⟩),cE,⟨0,0,0,0⟩):=g0c (by kernel_rfl)
noncomputable def sts1:List Stmt:=[top 0,top 1]
noncomputable def e3_0(P:Params):List DictEntry:=[en P "__name__" 165 (s "wearplan.errors" 187),en P "__doc__" 166 N,en P "__package__" 167 N,en P "__loader__" 168 (bi "__main__.__loader__#opaque"),en P "__spec__" 169 N,en P "__annotations__" 170 (r 6),en P "__builtins__" 171 (r 4),en P "__file__" 173 (s "/claim/cut.py" 172),en P "__cached__" 174 N,en P "WearError" 206 (r 24)]
noncomputable def o3_0(P:Params):Obj:=di (e3_0 P) 10
noncomputable def e12_1(P:Params):List Value:=[(i 2 0),(i 0 0),(r 20)]
noncomputable def o12_1(P:Params):Obj:=fl N (e12_1 P)
noncomputable def g1(P:Params):List Obj:=[tp [(ty "ValueError")],fl (ty "builtin_function_or_method") [(bi "type.__prepare__"),(ty "type")],di [en P "__module__" 196 (s "wearplan.errors" 187),en P "__qualname__" 198 (s "WearError" 197),en P "__firstlineno__" 200 (i 2 199),en P "__static_attributes__" 201 (r 22)] 4,tp [],fl N [],fl (ty "code") [(s "WearError" 191),(s "WearError" 192),(s "/claim/cut.py" 193),(i 2 0),(i 0 0),(i 0 0),(i 0 0),(i 0 0),(r 18),(b false),(i 181 0),(r 19),N,N,N,N,(i 194 0),(i 2 0),(s "/claim/cut.py" 195)],{cls:=(ty "frame"),slots:=⟨[some (r 20),some (r 3),some (r 17),none,some (s "wearplan.errors" 187),none,some (r 0)]⟩},tp [],di [en P "__module__" 196 (s "wearplan.errors" 187),en P "__firstlineno__" 200 (i 2 199),en P "__static_attributes__" 201 (r 22),en P "__weakref__" 203 (r 25),en P "__doc__" 204 N] 3,co "WearError" [(ty "ValueError")] [(r 24),(ty "ValueError"),(ty "Exception"),(ty "BaseException"),(ty "object")] 23 "WearError" true false [] [some (r 15),none,some (s "WearError" 189),some (s "WearError" 197),some (bi "ValueError.__new__"),some (b true)],fl (ty "getset_descriptor") [(s "__weakref__" 202),(r 24),(bi "ExceptionGroup.__weakref__"),N],fl (ty "super") [(r 24),(r 24),(r 24)],fl (ty "builtin_function_or_method") [(bi "object.__init_subclass__"),(r 24)]]
noncomputable def t1(P:Params):BT:=insL (g1 P) 15 (setL [(3,o3_0 P),(12,o12_1 P)] (t0 P))
theorem pc1(w:World)(os:OsState):segRun treeTable PW w 11 (some (r 6)) 1 196 (SharedT.abs ⟨t0 w.params,15,life,⟨[]⟩,drawn,187,os⟩) (piecesOf sts1 env cE ⟨0,0,0,0⟩ BB)=some (.next,(SharedT.abs ⟨t1 w.params,28,life,⟨[]⟩,drawn,207,os⟩),cE,⟨2,0,3,8⟩):=segRun_of (d9 (by kernel_rfl))
noncomputable def sts2:List Stmt:=[top 2]
noncomputable def e3_1(P:Params):List DictEntry:=(e3_0 P)++[en P "NoPart" 231 (r 44)]
noncomputable def o3_1(P:Params):Obj:=di (e3_1 P) 11
noncomputable def e12_2(P:Params):List Value:=e12_1 P++[(i 4 0),(i 0 0),(r 33)]
noncomputable def o12_2(P:Params):Obj:=fl N (e12_2 P)
noncomputable def o24_1(P:Params):Obj:=co "WearError" [(ty "ValueError")] [(r 24),(ty "ValueError"),(ty "Exception"),(ty "BaseException"),(ty "object")] 23 "WearError" true false [(r 44)] [some (r 15),none,some (s "WearError" 189),some (s "WearError" 197),some (bi "ValueError.__new__"),some (b true)]
noncomputable def g2(P:Params):List Obj:=[tp [(r 24)],fl (ty "builtin_function_or_method") [(bi "type.__prepare__"),(ty "type")],di [en P "__module__" 214 (s "wearplan.errors" 187),en P "__qualname__" 216 (s "NoPart" 215),en P "__firstlineno__" 218 (i 4 217),en P "__init__" 226 (r 41),en P "__static_attributes__" 228 (r 42)] 5,tp [],fl N [(i 6 0),(i 4 0),(r 40)],fl (ty "code") [(s "NoPart" 209),(s "NoPart" 210),(s "/claim/cut.py" 211),(i 4 0),(i 0 0),(i 0 0),(i 0 0),(i 0 0),(r 31),(b false),(i 181 0),(r 32),N,N,N,N,(i 212 0),(i 4 0),(s "/claim/cut.py" 213)],{cls:=(ty "frame"),slots:=⟨[some (r 33),some (r 3),some (r 30),none,some (s "wearplan.errors" 187),none,some (r 0)]⟩},tp [],fl N [],tp [(s "self" 222),(s "at" 223)],tp [],fn N "__init__" "NoPart.__init__" (L2.inClass (top 2) 0) 0 N N,fl (ty "code") [(s "__init__" 219),(s "NoPart.__init__" 220),(s "/claim/cut.py" 221),(i 6 0),(i 2 0),(i 0 0),(i 0 0),(i 3 0),(r 35),(b true),(i 181 0),(r 36),N,(r 37),(r 38),(r 39),(i 224 0),(i 6 0),(s "/claim/cut.py" 225)],fn (ty "function") "__init__" "NoPart.__init__" (L2.inClass (top 2) 0) 3 (s "wearplan.errors" 187) (r 40),tp [(s "at" 227)],di [en P "__module__" 214 (s "wearplan.errors" 187),en P "__firstlineno__" 218 (i 4 217),en P "__init__" 226 (r 41),en P "__static_attributes__" 228 (r 42),en P "__doc__" 229 N] 2,co "NoPart" [(r 24)] [(r 44),(r 24),(ty "ValueError"),(ty "Exception"),(ty "BaseException"),(ty "object")] 43 "NoPart" true false [] [some (r 28),none,some (s "NoPart" 207),some (s "NoPart" 215),some (bi "ValueError.__new__"),some (b true)],fl (ty "super") [(r 44),(r 44),(r 44)],fl (ty "builtin_function_or_method") [(bi "object.__init_subclass__"),(r 44)]]
noncomputable def t2(P:Params):BT:=insL (g2 P) 28 (setL [(3,o3_1 P),(12,o12_2 P),(24,o24_1 P)] (t1 P))
theorem pc2(w:World)(os:OsState):segRun treeTable PW w 11 (some (r 6)) 1 246 (SharedT.abs ⟨t1 w.params,28,life,⟨[]⟩,drawn,207,os⟩) (piecesOf sts2 env cE ⟨2,0,3,8⟩ BB)=some (.next,(SharedT.abs ⟨t2 w.params,47,life,⟨[]⟩,drawn,232,os⟩),cE,⟨4,0,7,20⟩):=segRun_of (d9 (by kernel_rfl))
noncomputable def sts3:List Stmt:=[top 3]
noncomputable def e3_2(P:Params):List DictEntry:=(e3_1 P)++[en P "NoWorks" 256 (r 63)]
noncomputable def o3_2(P:Params):Obj:=di (e3_2 P) 12
noncomputable def e12_3(P:Params):List Value:=e12_2 P++[(i 8 0),(i 0 0),(r 52)]
noncomputable def o12_3(P:Params):Obj:=fl N (e12_3 P)
noncomputable def o24_2(P:Params):Obj:=co "WearError" [(ty "ValueError")] [(r 24),(ty "ValueError"),(ty "Exception"),(ty "BaseException"),(ty "object")] 23 "WearError" true false [(r 44),(r 63)] [some (r 15),none,some (s "WearError" 189),some (s "WearError" 197),some (bi "ValueError.__new__"),some (b true)]
noncomputable def g3(P:Params):List Obj:=[tp [(r 24)],fl (ty "builtin_function_or_method") [(bi "type.__prepare__"),(ty "type")],di [en P "__module__" 239 (s "wearplan.errors" 187),en P "__qualname__" 241 (s "NoWorks" 240),en P "__firstlineno__" 243 (i 8 242),en P "__init__" 251 (r 60),en P "__static_attributes__" 253 (r 61)] 5,tp [],fl N [(i 10 0),(i 4 0),(r 59)],fl (ty "code") [(s "NoWorks" 234),(s "NoWorks" 235),(s "/claim/cut.py" 236),(i 8 0),(i 0 0),(i 0 0),(i 0 0),(i 0 0),(r 50),(b false),(i 181 0),(r 51),N,N,N,N,(i 237 0),(i 8 0),(s "/claim/cut.py" 238)],{cls:=(ty "frame"),slots:=⟨[some (r 52),some (r 3),some (r 49),none,some (s "wearplan.errors" 187),none,some (r 0)]⟩},tp [],fl N [],tp [(s "self" 247),(s "at" 248)],tp [],fn N "__init__" "NoWorks.__init__" (L2.inClass (top 3) 0) 0 N N,fl (ty "code") [(s "__init__" 244),(s "NoWorks.__init__" 245),(s "/claim/cut.py" 246),(i 10 0),(i 2 0),(i 0 0),(i 0 0),(i 3 0),(r 54),(b true),(i 181 0),(r 55),N,(r 56),(r 57),(r 58),(i 249 0),(i 10 0),(s "/claim/cut.py" 250)],fn (ty "function") "__init__" "NoWorks.__init__" (L2.inClass (top 3) 0) 3 (s "wearplan.errors" 187) (r 59),tp [(s "at" 252)],di [en P "__module__" 239 (s "wearplan.errors" 187),en P "__firstlineno__" 243 (i 8 242),en P "__init__" 251 (r 60),en P "__static_attributes__" 253 (r 61),en P "__doc__" 254 N] 2,co "NoWorks" [(r 24)] [(r 63),(r 24),(ty "ValueError"),(ty "Exception"),(ty "BaseException"),(ty "object")] 62 "NoWorks" true false [] [some (r 47),none,some (s "NoWorks" 232),some (s "NoWorks" 240),some (bi "ValueError.__new__"),some (b true)],fl (ty "super") [(r 63),(r 63),(r 63)],fl (ty "builtin_function_or_method") [(bi "object.__init_subclass__"),(r 63)]]
noncomputable def t3(P:Params):BT:=insL (g3 P) 47 (setL [(3,o3_2 P),(12,o12_3 P),(24,o24_2 P)] (t2 P))
theorem pc3(w:World)(os:OsState):segRun treeTable PW w 11 (some (r 6)) 1 246 (SharedT.abs ⟨t2 w.params,47,life,⟨[]⟩,drawn,232,os⟩) (piecesOf sts3 env cE ⟨4,0,7,20⟩ BB)=some (.next,(SharedT.abs ⟨t3 w.params,66,life,⟨[]⟩,drawn,257,os⟩),cE,⟨8,0,11,20⟩):=segRun_of (d9 (by kernel_rfl))
noncomputable def sts4:List Stmt:=[top 4]
noncomputable def e3_3(P:Params):List DictEntry:=(e3_2 P)++[en P "NoStands" 272 (r 75)]
noncomputable def o3_3(P:Params):Obj:=di (e3_3 P) 13
noncomputable def e12_4(P:Params):List Value:=e12_3 P++[(i 12 0),(i 0 0),(r 71)]
noncomputable def o12_4(P:Params):Obj:=fl N (e12_4 P)
noncomputable def o24_3(P:Params):Obj:=co "WearError" [(ty "ValueError")] [(r 24),(ty "ValueError"),(ty "Exception"),(ty "BaseException"),(ty "object")] 23 "WearError" true false [(r 44),(r 63),(r 75)] [some (r 15),none,some (s "WearError" 189),some (s "WearError" 197),some (bi "ValueError.__new__"),some (b true)]
noncomputable def g4(P:Params):List Obj:=[tp [(r 24)],fl (ty "builtin_function_or_method") [(bi "type.__prepare__"),(ty "type")],di [en P "__module__" 264 (s "wearplan.errors" 187),en P "__qualname__" 266 (s "NoStands" 265),en P "__firstlineno__" 268 (i 12 267),en P "__static_attributes__" 269 (r 73)] 4,tp [],fl N [],fl (ty "code") [(s "NoStands" 259),(s "NoStands" 260),(s "/claim/cut.py" 261),(i 12 0),(i 0 0),(i 0 0),(i 0 0),(i 0 0),(r 69),(b false),(i 181 0),(r 70),N,N,N,N,(i 262 0),(i 12 0),(s "/claim/cut.py" 263)],{cls:=(ty "frame"),slots:=⟨[some (r 71),some (r 3),some (r 68),none,some (s "wearplan.errors" 187),none,some (r 0)]⟩},tp [],di [en P "__module__" 264 (s "wearplan.errors" 187),en P "__firstlineno__" 268 (i 12 267),en P "__static_attributes__" 269 (r 73),en P "__doc__" 270 N] 2,co "NoStands" [(r 24)] [(r 75),(r 24),(ty "ValueError"),(ty "Exception"),(ty "BaseException"),(ty "object")] 74 "NoStands" true false [] [some (r 66),none,some (s "NoStands" 257),some (s "NoStands" 265),some (bi "ValueError.__new__"),some (b true)],fl (ty "super") [(r 75),(r 75),(r 75)],fl (ty "builtin_function_or_method") [(bi "object.__init_subclass__"),(r 75)]]
noncomputable def t4(P:Params):BT:=insL (g4 P) 66 (setL [(3,o3_3 P),(12,o12_4 P),(24,o24_3 P)] (t3 P))
theorem pc4(w:World)(os:OsState):segRun treeTable PW w 11 (some (r 6)) 1 214 (SharedT.abs ⟨t3 w.params,66,life,⟨[]⟩,drawn,257,os⟩) (piecesOf sts4 env cE ⟨8,0,11,20⟩ BB)=some (.next,(SharedT.abs ⟨t4 w.params,78,life,⟨[]⟩,drawn,273,os⟩),cE,⟨12,0,13,8⟩):=segRun_of (d9 (by kernel_rfl))
noncomputable def sts5:List Stmt:=[top 5,top 6,top 7,top 8,top 9,top 10,top 11,top 12]
noncomputable def e3_4(P:Params):List DictEntry:=((e3_3 P).set 0 (en P "__name__" 165 (s "wearplan.parts" 320)))++[en P "NoRounds" 288 (r 87),en P "is_number" 297 (r 96),en P "is_whole" 306 (r 103),en P "is_row" 313 (r 110),en P "is_whole_row" 319 (r 115),en P "is_stand" 329 (r 122)]
noncomputable def o3_4(P:Params):Obj:=di (e3_4 P) 19
noncomputable def e12_5(P:Params):List Value:=e12_4 P++[(i 14 0),(i 0 0),(r 83),(i 17 0),(i 0 0),(r 95),(i 19 0),(i 0 0),(r 102),(i 21 0),(i 0 0),(r 109),(i 23 0),(i 0 0),(r 114),(i 28 0),(i 0 0),(r 121)]
noncomputable def o12_5(P:Params):Obj:=fl N (e12_5 P)
noncomputable def y1s(P:Params):Obj:=co "WearError" [(ty "ValueError")] [(r 24),(ty "ValueError"),(ty "Exception"),(ty "BaseException"),(ty "object")] 23 "WearError" true false [(r 44),(r 63),(r 75),(r 87)] [some (r 15),none,some (s "WearError" 189),some (s "WearError" 197),some (bi "ValueError.__new__"),some (b true)]
noncomputable def g5(P:Params):List Obj:=(tp [(r 24)]::fl (ty "builtin_function_or_method") [(bi "type.__prepare__"),(ty "type")]::di [en P "__module__" 280 (s "wearplan.errors" 187),en P "__qualname__" 282 (s "NoRounds" 281),en P "__firstlineno__" 284 (i 14 283),en P "__static_attributes__" 285 (r 85)] 4::tp []::fl N []::fl (ty "code") [(s "NoRounds" 275),(s "NoRounds" 276),(s "/claim/cut.py" 277),(i 14 0),(i 0 0),(i 0 0),(i 0 0),(i 0 0),(r 81),(b false),(i 181 0),(r 82),N,N,N,N,(i 278 0),(i 14 0),(s "/claim/cut.py" 279)]::{cls:=(ty "frame"),slots:=⟨[some (r 83),some (r 3),some (r 80),none,some (s "wearplan.errors" 187),none,some (r 0)]⟩}::tp []::di [en P "__module__" 280 (s "wearplan.errors" 187),en P "__firstlineno__" 284 (i 14 283),en P "__static_attributes__" 285 (r 85),en P "__doc__" 286 N] 2::co "NoRounds" [(r 24)] [(r 87),(r 24),(ty "ValueError"),(ty "Exception"),(ty "BaseException"),(ty "object")] 86 "NoRounds" true false [] [some (r 78),none,some (s "NoRounds" 273),some (s "NoRounds" 281),some (bi "ValueError.__new__"),some (b true)]::fl (ty "super") [(r 87),(r 87),(r 87)]::fl (ty "builtin_function_or_method") [(bi "object.__init_subclass__"),(r 87)]::tp []::fl N []::tp [(s "thing" 294)]::tp []::fn N "is_number" "is_number" (top 7) 0 N N::fl (ty "code") [(s "is_number" 291),(s "is_number" 292),(s "/claim/cut.py" 293),(i 17 0),(i 1 0),(i 0 0),(i 0 0),(i 3 0),(r 90),(b true),(i 181 0),(r 91),N,(r 92),(r 93),(r 94),(i 295 0),(i 17 0),(s "/claim/cut.py" 296)]::fn (ty "function") "is_number" "is_number" (top 7) 3 (s "wearplan.signs" 289) (r 95)::tp []::fl N []::tp [(s "thing" 301),(s "least" 302),(s "most" 303)]::tp []::fn N "is_whole" "is_whole" (top 8) 0 N N::fl (ty "code") [(s "is_whole" 298),(s "is_whole" 299),(s "/claim/cut.py" 300),(i 19 0),(i 3 0),(i 0 0),(i 0 0),(i 3 0),(r 97),(b true),(i 181 0),(r 98),N,(r 99),(r 100),(r 101),(i 304 0),(i 19 0),(s "/claim/cut.py" 305)]::fn (ty "function") "is_whole" "is_whole" (top 8) 3 (s "wearplan.signs" 289) (r 102)::tp []::fl N []::tp [(s "thing" 310)]::tp []::fn N "is_row" "is_row" (top 9) 0 N N::fl (ty "code") [(s "is_row" 307),(s "is_row" 308),(s "/claim/cut.py" 309),(i 21 0),(i 1 0),(i 0 0),(i 0 0),(i 3 0),(r 104),(b true),(i 181 0),(r 105),N,(r 106),(r 107),(r 108),(i 311 0),(i 21 0),(s "/claim/cut.py" 312)]::fn (ty "function") "is_row" "is_row" (top 9) 3 (s "wearplan.signs" 289) (r 109)::tp []::fl N []::fn N "is_whole_row" "is_whole_row" (top 10) 0 N N::fl (ty "code") [(s "is_whole_row" 314),(s "is_whole_row" 315),(s "/claim/cut.py" 316),(i 23 0),(i 5 0),(i 0 0),(i 0 0),(i 3 0),(r 111),(b true),(i 181 0),(r 112),N,N,N,(r 113),(i 317 0),(i 23 0),(s "/claim/cut.py" 318)]::fn (ty "function") "is_whole_row" "is_whole_row" (top 10) 3 (s "wearplan.signs" 289) (r 114)::tp []::fl N []::tp [(s "part" 325),(s "thing" 326)]::tp []::fn N "is_stand" "is_stand" (top 12) 0 N N::fl (ty "code") [(s "is_stand" 322),(s "is_stand" 323),(s "/claim/cut.py" 324),(i 28 0),(i 2 0),(i 0 0),(i 0 0),(i 3 0),(r 116),(b true),(i 181 0),(r 117),N,(r 118),(r 119),(r 120),(i 327 0),(i 28 0),(s "/claim/cut.py" 328)]::fn (ty "function") "is_stand" "is_stand" (top 12) 3 (s "wearplan.parts" 320) (r 121):: [])
noncomputable def t5(P:Params):BT:=insL (g5 P) 78 (setL [(3,o3_4 P),(12,o12_5 P),(24,y1s P)] (t4 P))
theorem pc5(w:World)(os:OsState):segRun treeTable PW w 11 (some (r 6)) 1 377 (SharedT.abs ⟨t4 w.params,78,life,⟨[]⟩,drawn,273,os⟩) (piecesOf sts5 env cE ⟨12,0,13,8⟩ BB)=some (.next,(SharedT.abs ⟨t5 w.params,123,life,⟨[]⟩,drawn,330,os⟩),cE,⟨28,0,29,48⟩):=segRun_of (d9 (by kernel_rfl))
noncomputable def sts6:List Stmt:=[top 13,top 14,top 15,top 16,top 17,top 18,top 19,top 20]
noncomputable def e3_5(P:Params):List DictEntry:=((e3_4 P).set 0 (en P "__name__" 165 (s "wearplan.looking" 410)))++[en P "check_stand" 337 (r 129),en P "Shared" 372 (r 146),en P "total_of" 379 (r 157),en P "cases_of" 389 (r 164),en P "weights_of" 395 (r 169),en P "lose_once" 409 (r 176)]
noncomputable def o3_5(P:Params):Obj:=di (e3_5 P) 25
noncomputable def e12_6(P:Params):List Value:=e12_5 P++[(i 30 0),(i 0 0),(r 128),(i 34 0),(i 0 0),(r 135),(i 46 0),(i 0 0),(r 156),(i 48 0),(i 0 0),(r 163),(i 53 0),(i 0 0),(r 168),(i 55 0),(i 0 0),(r 175)]
noncomputable def o12_6(P:Params):Obj:=fl N (e12_6 P)
noncomputable def g6(P:Params):List Obj:=(tp []::fl N []::tp [(s "part" 333),(s "stand" 334)]::tp []::fn N "check_stand" "check_stand" (top 13) 0 N N::fl (ty "code") [(s "check_stand" 330),(s "check_stand" 331),(s "/claim/cut.py" 332),(i 30 0),(i 2 0),(i 0 0),(i 0 0),(i 3 0),(r 123),(b true),(i 181 0),(r 124),N,(r 125),(r 126),(r 127),(i 335 0),(i 30 0),(s "/claim/cut.py" 336)]::fn (ty "function") "check_stand" "check_stand" (top 13) 3 (s "wearplan.parts" 320) (r 128)::tp []::fl (ty "builtin_function_or_method") [(bi "type.__prepare__"),(ty "type")]::di [en P "__module__" 347 (s "wearplan.shares" 338),en P "__qualname__" 349 (s "Shared" 348),en P "__firstlineno__" 351 (i 34 350),en P "__init__" 361 (r 143),en P "__static_attributes__" 365 (r 144)] 5::tp []::fl N [(i 36 0),(i 4 0),(r 142)]::fl (ty "code") [(s "Shared" 342),(s "Shared" 343),(s "/claim/cut.py" 344),(i 34 0),(i 0 0),(i 0 0),(i 0 0),(i 0 0),(r 133),(b false),(i 181 0),(r 134),N,N,N,N,(i 345 0),(i 34 0),(s "/claim/cut.py" 346)]::{cls:=(ty "frame"),slots:=⟨[some (r 135),some (r 3),some (r 132),none,some (s "wearplan.shares" 338),none,some (r 0)]⟩}::tp []::fl N []::tp [(s "self" 355),(s "full" 356),(s "mark" 357),(s "shares" 358)]::tp []::fn N "__init__" "Shared.__init__" (L2.inClass (top 15) 0) 0 N N::fl (ty "code") [(s "__init__" 352),(s "Shared.__init__" 353),(s "/claim/cut.py" 354),(i 36 0),(i 4 0),(i 0 0),(i 0 0),(i 3 0),(r 137),(b true),(i 181 0),(r 138),N,(r 139),(r 140),(r 141),(i 359 0),(i 36 0),(s "/claim/cut.py" 360)]::fn (ty "function") "__init__" "Shared.__init__" (L2.inClass (top 15) 0) 3 (s "wearplan.shares" 338) (r 142)::tp [(s "full" 362),(s "mark" 363),(s "shares" 364)]::di [en P "__module__" 347 (s "wearplan.shares" 338),en P "__firstlineno__" 351 (i 34 350),en P "__init__" 361 (r 143),en P "__static_attributes__" 365 (r 144),en P "__dict__" 367 (r 147),en P "__weakref__" 369 (r 148),en P "__doc__" 370 N] 4::co "Shared" [(ty "object")] [(r 146),(ty "object")] 145 "Shared" true false [] [none,none,some (s "Shared" 340),some (s "Shared" 348),some (bi "object.__new__"),some (b true)]::fl (ty "getset_descriptor") [(s "__dict__" 366),(r 146),(bi "function.__dict__"),(bi "function.__dict__#set")]::fl (ty "getset_descriptor") [(s "__weakref__" 368),(r 146),(bi "ExceptionGroup.__weakref__"),N]::fl (ty "super") [(r 146),(r 146),(r 146)]::fl (ty "builtin_function_or_method") [(bi "object.__init_subclass__"),(r 146)]::tp []::fl N []::tp [(s "part" 376)]::tp []::fn N "total_of" "total_of" (top 16) 0 N N::fl (ty "code") [(s "total_of" 373),(s "total_of" 374),(s "/claim/cut.py" 375),(i 46 0),(i 1 0),(i 0 0),(i 0 0),(i 3 0),(r 151),(b true),(i 181 0),(r 152),N,(r 153),(r 154),(r 155),(i 377 0),(i 46 0),(s "/claim/cut.py" 378)]::fn (ty "function") "total_of" "total_of" (top 16) 3 (s "wearplan.shares" 338) (r 156)::tp []::fl N []::tp [(s "part" 383),(s "rounds" 384),(s "cases" 385),(s "k" 386)]::tp []::fn N "cases_of" "cases_of" (top 17) 0 N N::fl (ty "code") [(s "cases_of" 380),(s "cases_of" 381),(s "/claim/cut.py" 382),(i 48 0),(i 2 0),(i 0 0),(i 0 0),(i 3 0),(r 158),(b true),(i 181 0),(r 159),N,(r 160),(r 161),(r 162),(i 387 0),(i 48 0),(s "/claim/cut.py" 388)]::fn (ty "function") "cases_of" "cases_of" (top 17) 3 (s "wearplan.shares" 338) (r 163)::tp []::fl N []::fn N "weights_of" "weights_of" (top 18) 0 N N::fl (ty "code") [(s "weights_of" 390),(s "weights_of" 391),(s "/claim/cut.py" 392),(i 53 0),(i 2 0),(i 0 0),(i 0 0),(i 3 0),(r 165),(b true),(i 181 0),(r 166),N,N,N,(r 167),(i 393 0),(i 53 0),(s "/claim/cut.py" 394)]::fn (ty "function") "weights_of" "weights_of" (top 18) 3 (s "wearplan.shares" 338) (r 168)::tp []::fl N []::tp [(s "part" 399),(s "weights" 400),(s "behind" 401),(s "fallen" 402),(s "at" 403),(s "weight" 404),(s "lost" 405),(s "share" 406)]::tp []::fn N "lose_once" "lose_once" (top 19) 0 N N::fl (ty "code") [(s "lose_once" 396),(s "lose_once" 397),(s "/claim/cut.py" 398),(i 55 0),(i 2 0),(i 0 0),(i 0 0),(i 3 0),(r 170),(b true),(i 181 0),(r 171),N,(r 172),(r 173),(r 174),(i 407 0),(i 55 0),(s "/claim/cut.py" 408)]::fn (ty "function") "lose_once" "lose_once" (top 19) 3 (s "wearplan.shares" 338) (r 175):: [])
noncomputable def t6(P:Params):BT:=insL (g6 P) 123 (setL [(3,o3_5 P),(12,o12_6 P)] (t5 P))
theorem pc6(w:World)(os:OsState):segRun treeTable PW w 11 (some (r 6)) 1 398 (SharedT.abs ⟨t5 w.params,123,life,⟨[]⟩,drawn,330,os⟩) (piecesOf sts6 env cE ⟨28,0,29,48⟩ BB)=some (.next,(SharedT.abs ⟨t6 w.params,177,life,⟨[]⟩,drawn,412,os⟩),cE,⟨65,0,65,8⟩):=segRun_of (d9 (by kernel_rfl))
noncomputable def sts7:List Stmt:=[top 21,top 22,top 23,top 24,top 25,top 26,top 27,top 28,top 29]
noncomputable def e3_6(P:Params):List DictEntry:=(e3_5 P)++[en P "GREATEST_PRICE" 413 (i 99 412),en P "GREATEST_WEIGHT" 415 (i 1000000 414),en P "MOST_ROUNDS_HERE" 417 (i 4 416),en P "MOVES" 421 (r 177),en P "LookPrices" 456 (r 194),en P "wait_cost" 469 (r 205),en P "move_costs" 475 (r 210),en P "least_cost" 485 (r 217),en P "known_waits" 491 (r 222)]
noncomputable def o3_6(P:Params):Obj:=di (e3_6 P) 34
noncomputable def e12_7(P:Params):List Value:=e12_6 P++[(i 70 0),(i 0 0),(r 183),(i 79 0),(i 0 0),(r 204),(i 84 0),(i 0 0),(r 209),(i 91 0),(i 0 0),(r 216),(i 95 0),(i 0 0),(r 221)]
noncomputable def o12_7(P:Params):Obj:=fl N (e12_7 P)
noncomputable def g7(P:Params):List Obj:=(tp [(s "wait" 418),(s "look" 419),(s "change" 420)]::tp []::fl (ty "builtin_function_or_method") [(bi "type.__prepare__"),(ty "type")]::di [en P "__module__" 429 (s "wearplan.looking" 410),en P "__qualname__" 431 (s "LookPrices" 430),en P "__firstlineno__" 433 (i 70 432),en P "__init__" 445 (r 191),en P "__static_attributes__" 449 (r 192)] 5::tp []::fl N [(i 72 0),(i 4 0),(r 190)]::fl (ty "code") [(s "LookPrices" 424),(s "LookPrices" 425),(s "/claim/cut.py" 426),(i 70 0),(i 0 0),(i 0 0),(i 0 0),(i 0 0),(r 181),(b false),(i 181 0),(r 182),N,N,N,N,(i 427 0),(i 70 0),(s "/claim/cut.py" 428)]::{cls:=(ty "frame"),slots:=⟨[some (r 183),some (r 3),some (r 180),none,some (s "wearplan.looking" 410),none,some (r 0)]⟩}::tp []::fl N []::tp [(s "self" 437),(s "look" 438),(s "change" 439),(s "fall" 440),(s "at" 441),(s "price" 442)]::tp []::fn N "__init__" "LookPrices.__init__" (L2.inClass (top 25) 0) 0 N N::fl (ty "code") [(s "__init__" 434),(s "LookPrices.__init__" 435),(s "/claim/cut.py" 436),(i 72 0),(i 4 0),(i 0 0),(i 0 0),(i 3 0),(r 185),(b true),(i 181 0),(r 186),N,(r 187),(r 188),(r 189),(i 443 0),(i 72 0),(s "/claim/cut.py" 444)]::fn (ty "function") "__init__" "LookPrices.__init__" (L2.inClass (top 25) 0) 3 (s "wearplan.looking" 410) (r 190)::tp [(s "change" 446),(s "fall" 447),(s "look" 448)]::di [en P "__module__" 429 (s "wearplan.looking" 410),en P "__firstlineno__" 433 (i 70 432),en P "__init__" 445 (r 191),en P "__static_attributes__" 449 (r 192),en P "__dict__" 451 (r 195),en P "__weakref__" 453 (r 196),en P "__doc__" 454 N] 4::co "LookPrices" [(ty "object")] [(r 194),(ty "object")] 193 "LookPrices" true false [] [none,none,some (s "LookPrices" 422),some (s "LookPrices" 430),some (bi "object.__new__"),some (b true)]::fl (ty "getset_descriptor") [(s "__dict__" 450),(r 194),(bi "function.__dict__"),(bi "function.__dict__#set")]::fl (ty "getset_descriptor") [(s "__weakref__" 452),(r 194),(bi "ExceptionGroup.__weakref__"),N]::fl (ty "super") [(r 194),(r 194),(r 194)]::fl (ty "builtin_function_or_method") [(bi "object.__init_subclass__"),(r 194)]::tp []::fl N []::tp [(s "part" 460),(s "weights" 461),(s "prices" 462),(s "known" 463),(s "behind" 464),(s "fallen" 465),(s "fall" 466)]::tp []::fn N "wait_cost" "wait_cost" (top 26) 0 N N::fl (ty "code") [(s "wait_cost" 457),(s "wait_cost" 458),(s "/claim/cut.py" 459),(i 79 0),(i 4 0),(i 0 0),(i 0 0),(i 3 0),(r 199),(b true),(i 181 0),(r 200),N,(r 201),(r 202),(r 203),(i 467 0),(i 79 0),(s "/claim/cut.py" 468)]::fn (ty "function") "wait_cost" "wait_cost" (top 26) 3 (s "wearplan.looking" 410) (r 204)::tp []::fl N []::fn N "move_costs" "move_costs" (top 27) 0 N N::fl (ty "code") [(s "move_costs" 470),(s "move_costs" 471),(s "/claim/cut.py" 472),(i 84 0),(i 4 0),(i 0 0),(i 0 0),(i 3 0),(r 206),(b true),(i 181 0),(r 207),N,N,N,(r 208),(i 473 0),(i 84 0),(s "/claim/cut.py" 474)]::fn (ty "function") "move_costs" "move_costs" (top 27) 3 (s "wearplan.looking" 410) (r 209)::tp []::fl N []::tp [(s "part" 479),(s "weights" 480),(s "prices" 481),(s "known" 482)]::tp []::fn N "least_cost" "least_cost" (top 28) 0 N N::fl (ty "code") [(s "least_cost" 476),(s "least_cost" 477),(s "/claim/cut.py" 478),(i 91 0),(i 4 0),(i 0 0),(i 0 0),(i 3 0),(r 211),(b true),(i 181 0),(r 212),N,(r 213),(r 214),(r 215),(i 483 0),(i 91 0),(s "/claim/cut.py" 484)]::fn (ty "function") "least_cost" "least_cost" (top 28) 3 (s "wearplan.looking" 410) (r 216)::tp []::fl N []::fn N "known_waits" "known_waits" (top 29) 0 N N::fl (ty "code") [(s "known_waits" 486),(s "known_waits" 487),(s "/claim/cut.py" 488),(i 95 0),(i 3 0),(i 0 0),(i 0 0),(i 3 0),(r 218),(b true),(i 181 0),(r 219),N,N,N,(r 220),(i 489 0),(i 95 0),(s "/claim/cut.py" 490)]::fn (ty "function") "known_waits" "known_waits" (top 29) 3 (s "wearplan.looking" 410) (r 221):: [])
noncomputable def t7(P:Params):BT:=insL (g7 P) 177 (setL [(3,o3_6 P),(12,o12_7 P)] (t6 P))
theorem pc7(w:World)(os:OsState):segRun treeTable PW w 11 (some (r 6)) 1 388 (SharedT.abs ⟨t6 w.params,177,life,⟨[]⟩,drawn,412,os⟩) (piecesOf sts7 env cE ⟨65,0,65,8⟩ BB)=some (.next,(SharedT.abs ⟨t7 w.params,223,life,⟨[]⟩,drawn,492,os⟩),cE,⟨95,0,100,16⟩):=segRun_of (d9 (by kernel_rfl))
noncomputable def sts8:List Stmt:=[top 30,top 31,top 32,top 33,top 34,top 35,top 36,top 37,top 38,top 39,top 40,top 41,top 42]
noncomputable def e3_7(P:Params):List DictEntry:=((e3_6 P).set 0 (en P "__name__" 165 (s "law_wearplan_k31_whole_looking_pays" 540)))++[en P "check_weights" 500 (r 229),en P "check_looks" 508 (r 236),en P "risk_of" 518 (r 243),en P "best_move" 529 (r 250),en P "least_risk" 539 (r 257),en P "_law_cell" 549 (r 264),en P "_law_draw" 559 (r 271),en P "_law_deck" 567 (r 278),en P "_law_take" 576 (r 285),en P "_law_short" 582 (r 290),en P "_law_weights" 588 (r 295),en P "_law_prices" 596 (r 302)]
noncomputable def o3_7(P:Params):Obj:=di (e3_7 P) 46
noncomputable def e12_8(P:Params):List Value:=e12_7 P++[(i 101 0),(i 0 0),(r 228),(i 105 0),(i 0 0),(r 235),(i 108 0),(i 0 0),(r 242),(i 112 0),(i 0 0),(r 249),(i 117 0),(i 0 0),(r 256),(i 121 0),(i 0 0),(r 263),(i 125 0),(i 0 0),(r 270),(i 129 0),(i 0 0),(r 277),(i 132 0),(i 0 0),(r 284),(i 139 0),(i 0 0),(r 289),(i 145 0),(i 0 0),(r 294),(i 149 0),(i 0 0),(r 301)]
noncomputable def o12_8(P:Params):Obj:=fl N (e12_8 P)
noncomputable def g8(P:Params):List Obj:=(tp []::fl N []::tp [(s "part" 495),(s "weights" 496),(s "many" 497)]::tp []::fn N "check_weights" "check_weights" (top 30) 0 N N::fl (ty "code") [(s "check_weights" 492),(s "check_weights" 493),(s "/claim/cut.py" 494),(i 101 0),(i 2 0),(i 0 0),(i 0 0),(i 3 0),(r 223),(b true),(i 181 0),(r 224),N,(r 225),(r 226),(r 227),(i 498 0),(i 101 0),(s "/claim/cut.py" 499)]::fn (ty "function") "check_weights" "check_weights" (top 30) 3 (s "wearplan.looking" 410) (r 228)::tp []::fl N []::tp [(s "rounds" 504),(s "fewest" 505)]::tp []::fn N "check_looks" "check_looks" (top 31) 0 N N::fl (ty "code") [(s "check_looks" 501),(s "check_looks" 502),(s "/claim/cut.py" 503),(i 105 0),(i 2 0),(i 0 0),(i 0 0),(i 3 0),(r 230),(b true),(i 181 0),(r 231),N,(r 232),(r 233),(r 234),(i 506 0),(i 105 0),(s "/claim/cut.py" 507)]::fn (ty "function") "check_looks" "check_looks" (top 31) 3 (s "wearplan.looking" 410) (r 235)::tp []::fl N []::tp [(s "part" 512),(s "weights" 513),(s "prices" 514),(s "rounds" 515)]::tp []::fn N "risk_of" "risk_of" (top 32) 0 N N::fl (ty "code") [(s "risk_of" 509),(s "risk_of" 510),(s "/claim/cut.py" 511),(i 108 0),(i 4 0),(i 0 0),(i 0 0),(i 3 0),(r 237),(b true),(i 181 0),(r 238),N,(r 239),(r 240),(r 241),(i 516 0),(i 108 0),(s "/claim/cut.py" 517)]::fn (ty "function") "risk_of" "risk_of" (top 32) 3 (s "wearplan.looking" 410) (r 242)::tp []::fl N []::tp [(s "part" 522),(s "weights" 523),(s "prices" 524),(s "rounds" 525),(s "costs" 526)]::tp []::fn N "best_move" "best_move" (top 33) 0 N N::fl (ty "code") [(s "best_move" 519),(s "best_move" 520),(s "/claim/cut.py" 521),(i 112 0),(i 4 0),(i 0 0),(i 0 0),(i 3 0),(r 244),(b true),(i 181 0),(r 245),N,(r 246),(r 247),(r 248),(i 527 0),(i 112 0),(s "/claim/cut.py" 528)]::fn (ty "function") "best_move" "best_move" (top 33) 3 (s "wearplan.looking" 410) (r 249)::tp []::fl N []::tp [(s "part" 533),(s "stand" 534),(s "prices" 535),(s "rounds" 536)]::tp []::fn N "least_risk" "least_risk" (top 34) 0 N N::fl (ty "code") [(s "least_risk" 530),(s "least_risk" 531),(s "/claim/cut.py" 532),(i 117 0),(i 4 0),(i 0 0),(i 0 0),(i 3 0),(r 251),(b true),(i 181 0),(r 252),N,(r 253),(r 254),(r 255),(i 537 0),(i 117 0),(s "/claim/cut.py" 538)]::fn (ty "function") "least_risk" "least_risk" (top 34) 3 (s "wearplan.looking" 410) (r 256)::tp []::fl N []::tp [(s "_law_script" 545),(s "_law_k" 546)]::tp []::fn N "_law_cell" "_law_cell" (top 36) 0 N N::fl (ty "code") [(s "_law_cell" 542),(s "_law_cell" 543),(s "/claim/cut.py" 544),(i 121 0),(i 2 0),(i 0 0),(i 0 0),(i 3 0),(r 258),(b true),(i 181 0),(r 259),N,(r 260),(r 261),(r 262),(i 547 0),(i 121 0),(s "/claim/cut.py" 548)]::fn (ty "function") "_law_cell" "_law_cell" (top 36) 3 (s "law_wearplan_k31_whole_looking_pays" 540) (r 263)::tp []::fl N []::tp [(s "_law_script" 553),(s "_law_k" 554),(s "_law_many" 555),(s "_law_a" 556)]::tp []::fn N "_law_draw" "_law_draw" (top 37) 0 N N::fl (ty "code") [(s "_law_draw" 550),(s "_law_draw" 551),(s "/claim/cut.py" 552),(i 125 0),(i 3 0),(i 0 0),(i 0 0),(i 3 0),(r 265),(b true),(i 181 0),(r 266),N,(r 267),(r 268),(r 269),(i 557 0),(i 125 0),(s "/claim/cut.py" 558)]::fn (ty "function") "_law_draw" "_law_draw" (top 37) 3 (s "law_wearplan_k31_whole_looking_pays" 540) (r 270)::tp []::fl N []::tp [(s "_law_script" 563),(s "_law_cell_here" 564)]::tp []::fn N "_law_deck" "_law_deck" (top 38) 0 N N::fl (ty "code") [(s "_law_deck" 560),(s "_law_deck" 561),(s "/claim/cut.py" 562),(i 129 0),(i 1 0),(i 0 0),(i 0 0),(i 3 0),(r 272),(b true),(i 181 0),(r 273),N,(r 274),(r 275),(r 276),(i 565 0),(i 129 0),(s "/claim/cut.py" 566)]::fn (ty "function") "_law_deck" "_law_deck" (top 38) 3 (s "law_wearplan_k31_whole_looking_pays" 540) (r 277)::tp []::fl N []::tp [(s "_law_deck_here" 571),(s "_law_many" 572),(s "_law_digit" 573)]::tp []::fn N "_law_take" "_law_take" (top 39) 0 N N::fl (ty "code") [(s "_law_take" 568),(s "_law_take" 569),(s "/claim/cut.py" 570),(i 132 0),(i 2 0),(i 0 0),(i 0 0),(i 3 0),(r 279),(b true),(i 181 0),(r 280),N,(r 281),(r 282),(r 283),(i 574 0),(i 132 0),(s "/claim/cut.py" 575)]::fn (ty "function") "_law_take" "_law_take" (top 39) 3 (s "law_wearplan_k31_whole_looking_pays" 540) (r 284)::tp []::fl N []::fn N "_law_short" "_law_short" (top 40) 0 N N::fl (ty "code") [(s "_law_short" 577),(s "_law_short" 578),(s "/claim/cut.py" 579),(i 139 0),(i 2 0),(i 0 0),(i 0 0),(i 3 0),(r 286),(b true),(i 181 0),(r 287),N,N,N,(r 288),(i 580 0),(i 139 0),(s "/claim/cut.py" 581)]::fn (ty "function") "_law_short" "_law_short" (top 40) 3 (s "law_wearplan_k31_whole_looking_pays" 540) (r 289)::tp []::fl N []::fn N "_law_weights" "_law_weights" (top 41) 0 N N::fl (ty "code") [(s "_law_weights" 583),(s "_law_weights" 584),(s "/claim/cut.py" 585),(i 145 0),(i 2 0),(i 0 0),(i 0 0),(i 3 0),(r 291),(b true),(i 181 0),(r 292),N,N,N,(r 293),(i 586 0),(i 145 0),(s "/claim/cut.py" 587)]::fn (ty "function") "_law_weights" "_law_weights" (top 41) 3 (s "law_wearplan_k31_whole_looking_pays" 540) (r 294)::tp []::fl N []::tp [(s "_law_deck_here" 592),(s "_law_found" 593)]::tp []::fn N "_law_prices" "_law_prices" (top 42) 0 N N::fl (ty "code") [(s "_law_prices" 589),(s "_law_prices" 590),(s "/claim/cut.py" 591),(i 149 0),(i 1 0),(i 0 0),(i 0 0),(i 3 0),(r 296),(b true),(i 181 0),(r 297),N,(r 298),(r 299),(r 300),(i 594 0),(i 149 0),(s "/claim/cut.py" 595)]::fn (ty "function") "_law_prices" "_law_prices" (top 42) 3 (s "law_wearplan_k31_whole_looking_pays" 540) (r 301):: [])
noncomputable def t8(P:Params):BT:=insL (g8 P) 223 (setL [(3,o3_7 P),(12,o12_8 P)] (t7 P))
theorem pc8(w:World)(os:OsState):segRun treeTable PW w 11 (some (r 6)) 1 373 (SharedT.abs ⟨t7 w.params,223,life,⟨[]⟩,drawn,492,os⟩) (piecesOf sts8 env cE ⟨95,0,100,16⟩ BB)=some (.next,(SharedT.abs ⟨t8 w.params,303,life,⟨[]⟩,drawn,597,os⟩),cE,⟨149,0,155,21⟩):=segRun_of (d9 (by kernel_rfl))
noncomputable def sts9:List Stmt:=[top 43,top 44,top 45,top 46,top 47,top 48,top 49,top 50,top 51]
noncomputable def e3_8(P:Params):List DictEntry:=(e3_7 P)++[en P "_law_all" 606 (r 309),en P "_law_rest" 617 (r 316),en P "_law_known" 623 (r 321),en P "_law_wait" 641 (r 328),en P "_law_change" 654 (r 335),en P "_law_look" 670 (r 342),en P "_law_steps" 683 (r 349),en P "_law_raised" 697 (r 356),en P "law" 703 (r 361)]
noncomputable def o3_8(P:Params):Obj:=di (e3_8 P) 55
noncomputable def e12_9(P:Params):List Value:=e12_8 P++[(i 156 0),(i 0 0),(r 308),(i 161 0),(i 0 0),(r 315),(i 165 0),(i 0 0),(r 320),(i 167 0),(i 0 0),(r 327),(i 178 0),(i 0 0),(r 334),(i 182 0),(i 0 0),(r 341),(i 190 0),(i 0 0),(r 348),(i 195 0),(i 0 0),(r 355),(i 201 0),(i 0 0),(r 360)]
noncomputable def o12_9(P:Params):Obj:=fl N (e12_9 P)
noncomputable def g9(P:Params):List Obj:=(tp []::fl N []::tp [(s "_law_spec" 600),(s "_law_rounds" 601),(s "_law_cases" 602),(s "_law_turn" 603)]::tp []::fn N "_law_all" "_law_all" (top 43) 0 N N::fl (ty "code") [(s "_law_all" 597),(s "_law_all" 598),(s "/claim/cut.py" 599),(i 156 0),(i 2 0),(i 0 0),(i 0 0),(i 3 0),(r 303),(b true),(i 181 0),(r 304),N,(r 305),(r 306),(r 307),(i 604 0),(i 156 0),(s "/claim/cut.py" 605)]::fn (ty "function") "_law_all" "_law_all" (top 43) 3 (s "law_wearplan_k31_whole_looking_pays" 540) (r 308)::tp []::fl N []::tp [(s "_law_spec" 610),(s "_law_part" 611),(s "_law_told" 612),(s "_law_weights_here" 613),(s "_law_rounds" 614)]::tp []::fn N "_law_rest" "_law_rest" (top 44) 0 N N::fl (ty "code") [(s "_law_rest" 607),(s "_law_rest" 608),(s "/claim/cut.py" 609),(i 161 0),(i 5 0),(i 0 0),(i 0 0),(i 3 0),(r 310),(b true),(i 181 0),(r 311),N,(r 312),(r 313),(r 314),(i 615 0),(i 161 0),(s "/claim/cut.py" 616)]::fn (ty "function") "_law_rest" "_law_rest" (top 44) 3 (s "law_wearplan_k31_whole_looking_pays" 540) (r 315)::tp []::fl N []::fn N "_law_known" "_law_known" (top 45) 0 N N::fl (ty "code") [(s "_law_known" 618),(s "_law_known" 619),(s "/claim/cut.py" 620),(i 165 0),(i 3 0),(i 0 0),(i 0 0),(i 3 0),(r 317),(b true),(i 181 0),(r 318),N,N,N,(r 319),(i 621 0),(i 165 0),(s "/claim/cut.py" 622)]::fn (ty "function") "_law_known" "_law_known" (top 45) 3 (s "law_wearplan_k31_whole_looking_pays" 540) (r 320)::tp []::fl N []::tp [(s "_law_spec" 627),(s "_law_part" 628),(s "_law_told" 629),(s "_law_weights_here" 630),(s "_law_rounds" 631),(s "_law_left" 632),(s "_law_fallen" 633),(s "_law_at" 634),(s "_law_weight" 635),(s "_law_less" 636),(s "_law_share" 637),(s "_law_found" 638)]::tp []::fn N "_law_wait" "_law_wait" (top 46) 0 N N::fl (ty "code") [(s "_law_wait" 624),(s "_law_wait" 625),(s "/claim/cut.py" 626),(i 167 0),(i 5 0),(i 0 0),(i 0 0),(i 3 0),(r 322),(b true),(i 181 0),(r 323),N,(r 324),(r 325),(r 326),(i 639 0),(i 167 0),(s "/claim/cut.py" 640)]::fn (ty "function") "_law_wait" "_law_wait" (top 46) 3 (s "law_wearplan_k31_whole_looking_pays" 540) (r 327)::tp []::fl N []::tp [(s "_law_spec" 645),(s "_law_part" 646),(s "_law_told" 647),(s "_law_weights_here" 648),(s "_law_rounds" 649),(s "_law_total" 650),(s "_law_found" 651)]::tp []::fn N "_law_change" "_law_change" (top 47) 0 N N::fl (ty "code") [(s "_law_change" 642),(s "_law_change" 643),(s "/claim/cut.py" 644),(i 178 0),(i 5 0),(i 0 0),(i 0 0),(i 3 0),(r 329),(b true),(i 181 0),(r 330),N,(r 331),(r 332),(r 333),(i 652 0),(i 178 0),(s "/claim/cut.py" 653)]::fn (ty "function") "_law_change" "_law_change" (top 47) 3 (s "law_wearplan_k31_whole_looking_pays" 540) (r 334)::tp []::fl N []::tp [(s "_law_spec" 658),(s "_law_part" 659),(s "_law_told" 660),(s "_law_weights_here" 661),(s "_law_rounds" 662),(s "_law_found" 663),(s "_law_at" 664),(s "_law_weight" 665),(s "_law_one" 666),(s "_law_waited" 667)]::tp []::fn N "_law_look" "_law_look" (top 48) 0 N N::fl (ty "code") [(s "_law_look" 655),(s "_law_look" 656),(s "/claim/cut.py" 657),(i 182 0),(i 5 0),(i 0 0),(i 0 0),(i 3 0),(r 336),(b true),(i 181 0),(r 337),N,(r 338),(r 339),(r 340),(i 668 0),(i 182 0),(s "/claim/cut.py" 669)]::fn (ty "function") "_law_look" "_law_look" (top 48) 3 (s "law_wearplan_k31_whole_looking_pays" 540) (r 341)::tp []::fl N []::tp [(s "_law_spec" 674),(s "_law_part" 675),(s "_law_told" 676),(s "_law_weights_here" 677),(s "_law_rounds" 678),(s "_law_costs" 679),(s "_law_due" 680)]::tp []::fn N "_law_steps" "_law_steps" (top 49) 0 N N::fl (ty "code") [(s "_law_steps" 671),(s "_law_steps" 672),(s "/claim/cut.py" 673),(i 190 0),(i 5 0),(i 0 0),(i 0 0),(i 3 0),(r 343),(b true),(i 181 0),(r 344),N,(r 345),(r 346),(r 347),(i 681 0),(i 190 0),(s "/claim/cut.py" 682)]::fn (ty "function") "_law_steps" "_law_steps" (top 49) 3 (s "law_wearplan_k31_whole_looking_pays" 540) (r 348)::tp []::fl N []::tp [(s "_law_deck_here" 687),(s "_law_part" 688),(s "_law_prices_here" 689),(s "_law_weights_here" 690),(s "_law_rounds" 691),(s "_law_before" 692),(s "_law_at" 693),(s "_law_more" 694)]::tp []::fn N "_law_raised" "_law_raised" (top 50) 0 N N::fl (ty "code") [(s "_law_raised" 684),(s "_law_raised" 685),(s "/claim/cut.py" 686),(i 195 0),(i 5 0),(i 0 0),(i 0 0),(i 3 0),(r 350),(b true),(i 181 0),(r 351),N,(r 352),(r 353),(r 354),(i 695 0),(i 195 0),(s "/claim/cut.py" 696)]::fn (ty "function") "_law_raised" "_law_raised" (top 50) 3 (s "law_wearplan_k31_whole_looking_pays" 540) (r 355)::tp []::fl N []::fn N "law" "law" (top 51) 0 N N::fl (ty "code") [(s "law" 698),(s "law" 699),(s "/claim/cut.py" 700),(i 201 0),(i 1 0),(i 0 0),(i 0 0),(i 3 0),(r 357),(b true),(i 181 0),(r 358),N,N,N,(r 359),(i 701 0),(i 201 0),(s "/claim/cut.py" 702)]::fn (ty "function") "law" "law" (top 51) 3 (s "law_wearplan_k31_whole_looking_pays" 540) (r 360):: [])
noncomputable def t9(P:Params):BT:=insL (g9 P) 303 (setL [(3,o3_8 P),(12,o12_9 P)] (t8 P))
theorem pc9(w:World)(os:OsState):segRun treeTable PW w 11 (some (r 6)) 1 302 (SharedT.abs ⟨t8 w.params,303,life,⟨[]⟩,drawn,597,os⟩) (piecesOf sts9 env cE ⟨149,0,155,21⟩ BB)=some (.next,(SharedT.abs ⟨t9 w.params,362,life,⟨[]⟩,drawn,704,os⟩),cE,⟨201,0,225,140⟩):=segRun_of (d9 (by kernel_rfl))
noncomputable def HF(P:Params):Heap:=⟨⟨[(boot_o_0 P),(boot_o_1 P),(boot_o_2 P),(o3_8 P),(boot_o_4 P),(boot_o_5 P),(boot_o_6 P),(boot_o_7 P),(boot_o_8 P),(boot_o_9 P),(boot_o_10 P),(o11_0 P),(o12_9 P),(o13_0 P),(o14_0 P)]++(((g1 P).set 9 (y1s P))++((g2 P)++((g3 P)++((g4 P)++((g5 P)++((g6 P)++((g7 P)++((g8 P)++((g9 P))))))))))⟩,life⟩
theorem fin(w:World)(os:OsState):topRun treeTable PW w 11 (some (r 6)) 2 (SharedT.abs ⟨t9 w.params,362,life,⟨[]⟩,drawn,704,os⟩) (restOf [] env cE ⟨201,0,225,140⟩ BB)=some ⟨HF w.params,⟨[]⟩,drawn,704,os⟩:=piece_nil (z1c (by kernel_rfl))
theorem y1r:behindTheImports PW=(sts1++(sts2++(sts3++(sts4++(sts5++(sts6++(sts7++(sts8++(sts9++[]))))))))):=by kernel_rfl
theorem run(w:World)(os:OsState):topRun treeTable PW w 11 (some (r 6)) (12+(1+(196+(246+(246+(214+(377+(398+(388+(373+(302+2))))))))))) ⟨boot_heap w.params,⟨[]⟩,boot_drawn,boot_toks,os⟩ (topStub PW)=some ⟨HF w.params,⟨[]⟩,drawn,704,os⟩:=
 go_top (pre w os) (n0s y1r (blk w os) (piece_app (pc1 w os) (piece_app (pc2 w os) (piece_app (pc3 w os) (piece_app (pc4 w os) (piece_app (pc5 w os) (piece_app (pc6 w os) (piece_app (pc7 w os) (piece_app (pc8 w os) (piece_app (pc9 w os) (fin w os)))))))))))
noncomputable def K(P:Params):Frag:=((nat_lit 2,boot_o_2 P)::(nat_lit 3,o3_8 P)::(nat_lit 15,x g1 0 P)::(nat_lit 22,x g1 7 P)::(nat_lit 23,x g1 8 P)::(nat_lit 24,y1s P)::(nat_lit 25,x g1 10 P)::(nat_lit 28,x g2 0 P)::(nat_lit 35,x g2 7 P)::(nat_lit 37,x g2 9 P)::(nat_lit 38,x g2 10 P)::(nat_lit 40,x g2 12 P)::(nat_lit 41,x g2 13 P)::(nat_lit 42,x g2 14 P)::(nat_lit 43,x g2 15 P)::(nat_lit 44,x g2 16 P)::(nat_lit 47,x g3 0 P)::(nat_lit 54,x g3 7 P)::(nat_lit 56,x g3 9 P)::(nat_lit 57,x g3 10 P)::(nat_lit 59,x g3 12 P)::(nat_lit 60,x g3 13 P)::(nat_lit 61,x g3 14 P)::(nat_lit 62,x g3 15 P)::(nat_lit 63,x g3 16 P)::(nat_lit 66,x g4 0 P)::(nat_lit 73,x g4 7 P)::(nat_lit 74,x g4 8 P)::(nat_lit 75,x g4 9 P)::(nat_lit 78,x g5 0 P)::(nat_lit 85,x g5 7 P)::(nat_lit 86,x g5 8 P)::(nat_lit 87,x g5 9 P)::(nat_lit 90,x g5 12 P)::(nat_lit 92,x g5 14 P)::(nat_lit 93,x g5 15 P)::(nat_lit 95,x g5 17 P)::(nat_lit 96,x g5 18 P)::(nat_lit 97,x g5 19 P)::(nat_lit 99,x g5 21 P)::(nat_lit 100,x g5 22 P)::(nat_lit 102,x g5 24 P)::(nat_lit 103,x g5 25 P)::(nat_lit 104,x g5 26 P)::(nat_lit 106,x g5 28 P)::(nat_lit 107,x g5 29 P)::(nat_lit 109,x g5 31 P)::(nat_lit 110,x g5 32 P)::(nat_lit 111,x g5 33 P)::(nat_lit 114,x g5 36 P)::(nat_lit 115,x g5 37 P)::(nat_lit 116,x g5 38 P)::(nat_lit 118,x g5 40 P)::(nat_lit 119,x g5 41 P)::(nat_lit 121,x g5 43 P)::(nat_lit 122,x g5 44 P)::(nat_lit 123,x g6 0 P)::(nat_lit 125,x g6 2 P)::(nat_lit 126,x g6 3 P)::(nat_lit 128,x g6 5 P)::(nat_lit 129,x g6 6 P)::(nat_lit 137,x g6 14 P)::(nat_lit 139,x g6 16 P)::(nat_lit 140,x g6 17 P)::(nat_lit 142,x g6 19 P)::(nat_lit 143,x g6 20 P)::(nat_lit 144,x g6 21 P)::(nat_lit 145,x g6 22 P)::(nat_lit 146,x g6 23 P)::(nat_lit 147,x g6 24 P)::(nat_lit 148,x g6 25 P)::(nat_lit 151,x g6 28 P)::(nat_lit 153,x g6 30 P)::(nat_lit 154,x g6 31 P)::(nat_lit 156,x g6 33 P)::(nat_lit 157,x g6 34 P)::(nat_lit 158,x g6 35 P)::(nat_lit 160,x g6 37 P)::(nat_lit 161,x g6 38 P)::(nat_lit 163,x g6 40 P)::(nat_lit 164,x g6 41 P)::(nat_lit 165,x g6 42 P)::(nat_lit 168,x g6 45 P)::(nat_lit 169,x g6 46 P)::(nat_lit 170,x g6 47 P)::(nat_lit 172,x g6 49 P)::(nat_lit 173,x g6 50 P)::(nat_lit 175,x g6 52 P)::(nat_lit 176,x g6 53 P)::(nat_lit 177,x g7 0 P)::(nat_lit 185,x g7 8 P)::(nat_lit 187,x g7 10 P)::(nat_lit 188,x g7 11 P)::(nat_lit 190,x g7 13 P)::(nat_lit 191,x g7 14 P)::(nat_lit 192,x g7 15 P)::(nat_lit 193,x g7 16 P)::(nat_lit 194,x g7 17 P)::(nat_lit 195,x g7 18 P)::(nat_lit 196,x g7 19 P)::(nat_lit 199,x g7 22 P)::(nat_lit 201,x g7 24 P)::(nat_lit 202,x g7 25 P)::(nat_lit 204,x g7 27 P)::(nat_lit 205,x g7 28 P)::(nat_lit 206,x g7 29 P)::(nat_lit 209,x g7 32 P)::(nat_lit 210,x g7 33 P)::(nat_lit 211,x g7 34 P)::(nat_lit 213,x g7 36 P)::(nat_lit 214,x g7 37 P)::(nat_lit 216,x g7 39 P)::(nat_lit 217,x g7 40 P)::(nat_lit 218,x g7 41 P)::(nat_lit 221,x g7 44 P)::(nat_lit 222,x g7 45 P)::(nat_lit 223,x g8 0 P)::(nat_lit 225,x g8 2 P)::(nat_lit 226,x g8 3 P)::(nat_lit 228,x g8 5 P)::(nat_lit 229,x g8 6 P)::(nat_lit 230,x g8 7 P)::(nat_lit 232,x g8 9 P)::(nat_lit 233,x g8 10 P)::(nat_lit 235,x g8 12 P)::(nat_lit 236,x g8 13 P)::(nat_lit 237,x g8 14 P)::(nat_lit 239,x g8 16 P)::(nat_lit 240,x g8 17 P)::(nat_lit 242,x g8 19 P)::(nat_lit 243,x g8 20 P)::(nat_lit 244,x g8 21 P)::(nat_lit 246,x g8 23 P)::(nat_lit 247,x g8 24 P)::(nat_lit 249,x g8 26 P)::(nat_lit 250,x g8 27 P)::(nat_lit 251,x g8 28 P)::(nat_lit 253,x g8 30 P)::(nat_lit 254,x g8 31 P)::(nat_lit 256,x g8 33 P)::(nat_lit 257,x g8 34 P)::(nat_lit 258,x g8 35 P)::(nat_lit 260,x g8 37 P)::(nat_lit 261,x g8 38 P)::(nat_lit 263,x g8 40 P)::(nat_lit 264,x g8 41 P)::(nat_lit 265,x g8 42 P)::(nat_lit 267,x g8 44 P)::(nat_lit 268,x g8 45 P)::(nat_lit 270,x g8 47 P)::(nat_lit 271,x g8 48 P)::(nat_lit 272,x g8 49 P)::(nat_lit 274,x g8 51 P)::(nat_lit 275,x g8 52 P)::(nat_lit 277,x g8 54 P)::(nat_lit 278,x g8 55 P)::(nat_lit 279,x g8 56 P)::(nat_lit 281,x g8 58 P)::(nat_lit 282,x g8 59 P)::(nat_lit 284,x g8 61 P)::(nat_lit 285,x g8 62 P)::(nat_lit 286,x g8 63 P)::(nat_lit 289,x g8 66 P)::(nat_lit 290,x g8 67 P)::(nat_lit 291,x g8 68 P)::(nat_lit 294,x g8 71 P)::(nat_lit 295,x g8 72 P)::(nat_lit 296,x g8 73 P)::(nat_lit 298,x g8 75 P)::(nat_lit 299,x g8 76 P)::(nat_lit 301,x g8 78 P)::(nat_lit 302,x g8 79 P)::(nat_lit 303,x g9 0 P)::(nat_lit 305,x g9 2 P)::(nat_lit 306,x g9 3 P)::(nat_lit 308,x g9 5 P)::(nat_lit 309,x g9 6 P)::(nat_lit 310,x g9 7 P)::(nat_lit 312,x g9 9 P)::(nat_lit 313,x g9 10 P)::(nat_lit 315,x g9 12 P)::(nat_lit 316,x g9 13 P)::(nat_lit 317,x g9 14 P)::(nat_lit 320,x g9 17 P)::(nat_lit 321,x g9 18 P)::(nat_lit 322,x g9 19 P)::(nat_lit 324,x g9 21 P)::(nat_lit 325,x g9 22 P)::(nat_lit 327,x g9 24 P)::(nat_lit 328,x g9 25 P)::(nat_lit 329,x g9 26 P)::(nat_lit 331,x g9 28 P)::(nat_lit 332,x g9 29 P)::(nat_lit 334,x g9 31 P)::(nat_lit 335,x g9 32 P)::(nat_lit 336,x g9 33 P)::(nat_lit 338,x g9 35 P)::(nat_lit 339,x g9 36 P)::(nat_lit 341,x g9 38 P)::(nat_lit 342,x g9 39 P)::(nat_lit 343,x g9 40 P)::(nat_lit 345,x g9 42 P)::(nat_lit 346,x g9 43 P)::(nat_lit 348,x g9 45 P)::(nat_lit 349,x g9 46 P)::(nat_lit 350,x g9 47 P)::(nat_lit 352,x g9 49 P)::(nat_lit 353,x g9 50 P)::(nat_lit 355,x g9 52 P)::(nat_lit 356,x g9 53 P)::(nat_lit 357,x g9 54 P)::(nat_lit 360,x g9 57 P)::(nat_lit 361,x g9 58 P):: [])
noncomputable def as:List Addr:=(nat_lit 2::nat_lit 3::nat_lit 15::nat_lit 22::nat_lit 23::nat_lit 24::nat_lit 25::nat_lit 28::nat_lit 35::nat_lit 37::nat_lit 38::nat_lit 40::nat_lit 41::nat_lit 42::nat_lit 43::nat_lit 44::nat_lit 47::nat_lit 54::nat_lit 56::nat_lit 57::nat_lit 59::nat_lit 60::nat_lit 61::nat_lit 62::nat_lit 63::nat_lit 66::nat_lit 73::nat_lit 74::nat_lit 75::nat_lit 78::nat_lit 85::nat_lit 86::nat_lit 87::nat_lit 90::nat_lit 92::nat_lit 93::nat_lit 95::nat_lit 96::nat_lit 97::nat_lit 99::nat_lit 100::nat_lit 102::nat_lit 103::nat_lit 104::nat_lit 106::nat_lit 107::nat_lit 109::nat_lit 110::nat_lit 111::nat_lit 114::nat_lit 115::nat_lit 116::nat_lit 118::nat_lit 119::nat_lit 121::nat_lit 122::nat_lit 123::nat_lit 125::nat_lit 126::nat_lit 128::nat_lit 129::nat_lit 137::nat_lit 139::nat_lit 140::nat_lit 142::nat_lit 143::nat_lit 144::nat_lit 145::nat_lit 146::nat_lit 147::nat_lit 148::nat_lit 151::nat_lit 153::nat_lit 154::nat_lit 156::nat_lit 157::nat_lit 158::nat_lit 160::nat_lit 161::nat_lit 163::nat_lit 164::nat_lit 165::nat_lit 168::nat_lit 169::nat_lit 170::nat_lit 172::nat_lit 173::nat_lit 175::nat_lit 176::nat_lit 177::nat_lit 185::nat_lit 187::nat_lit 188::nat_lit 190::nat_lit 191::nat_lit 192::nat_lit 193::nat_lit 194::nat_lit 195::nat_lit 196::nat_lit 199::nat_lit 201::nat_lit 202::nat_lit 204::nat_lit 205::nat_lit 206::nat_lit 209::nat_lit 210::nat_lit 211::nat_lit 213::nat_lit 214::nat_lit 216::nat_lit 217::nat_lit 218::nat_lit 221::nat_lit 222::nat_lit 223::nat_lit 225::nat_lit 226::nat_lit 228::nat_lit 229::nat_lit 230::nat_lit 232::nat_lit 233::nat_lit 235::nat_lit 236::nat_lit 237::nat_lit 239::nat_lit 240::nat_lit 242::nat_lit 243::nat_lit 244::nat_lit 246::nat_lit 247::nat_lit 249::nat_lit 250::nat_lit 251::nat_lit 253::nat_lit 254::nat_lit 256::nat_lit 257::nat_lit 258::nat_lit 260::nat_lit 261::nat_lit 263::nat_lit 264::nat_lit 265::nat_lit 267::nat_lit 268::nat_lit 270::nat_lit 271::nat_lit 272::nat_lit 274::nat_lit 275::nat_lit 277::nat_lit 278::nat_lit 279::nat_lit 281::nat_lit 282::nat_lit 284::nat_lit 285::nat_lit 286::nat_lit 289::nat_lit 290::nat_lit 291::nat_lit 294::nat_lit 295::nat_lit 296::nat_lit 298::nat_lit 299::nat_lit 301::nat_lit 302::nat_lit 303::nat_lit 305::nat_lit 306::nat_lit 308::nat_lit 309::nat_lit 310::nat_lit 312::nat_lit 313::nat_lit 315::nat_lit 316::nat_lit 317::nat_lit 320::nat_lit 321::nat_lit 322::nat_lit 324::nat_lit 325::nat_lit 327::nat_lit 328::nat_lit 329::nat_lit 331::nat_lit 332::nat_lit 334::nat_lit 335::nat_lit 336::nat_lit 338::nat_lit 339::nat_lit 341::nat_lit 342::nat_lit 343::nat_lit 345::nat_lit 346::nat_lit 348::nat_lit 349::nat_lit 350::nat_lit 352::nat_lit 353::nat_lit 355::nat_lit 356::nat_lit 357::nat_lit 360::nat_lit 361:: [])
noncomputable def Q:Program:={PW with main:={PW.main with body:=(top 1::top 2::top 3::top 4::top 5::top 7::top 8::top 9::top 10::top 12::top 13::top 15::top 16::top 17::top 18::top 19::top 21::top 22::top 23::top 24::top 25::top 26::top 27::top 28::top 29::top 30::top 31::top 32::top 33::top 34::top 36::top 37::top 38::top 39::top 40::top 41::top 42::top 43::top 44::top 45::top 46::top 47::top 48::top 49::top 50::top 51:: [])}}
noncomputable abbrev HK:Hook:=kHook K as (fun _=>by kernel_rfl)
noncomputable abbrev RR:RowW:=OpenRow.toRowW (OpenLaw.row PySem.Challenge.rw_wearplan_k31_whole_looking_pays)
noncomputable abbrev Xt(s:Shared):Bool:=xlAt Q [] s&&recOk (RowW.records RR) s
theorem y1q(w:World):((boot_heap w.params).isNs mainGlobals&&(Array.mk ([]:List GenState)).size==0,(boot_heap w.params).objs.size,(boot_heap w.params).nsMap mainGlobals "__annotations__")=(true,11,some (.ref 6)):=by kernel_rfl
theorem look1(w:World)(os:OsState):(staticsOk (importedModules PW.main.body) (boot_heap w.params) (HF w.params)&&namesBound PW (HF w.params)&&gensDone (⟨HF w.params,⟨[]⟩,drawn,704,os⟩:Shared)&&laidKept (boot_heap w.params) (HF w.params))=true:=by kernel_rfl
theorem look2(w:World)(os:OsState):openSeen Q [] (importedModules PW.main.body) Xt true (⟨HF w.params,⟨[]⟩,drawn,704,os⟩:Shared)=openGood Q []:=by
 rw[PySem.W.Fast.te4187177175401517315,PySem.W.Fast.te5923862056798008813];kernel_rfl
theorem look3(w:World)(os:OsState):HK.obs (⟨HF w.params,⟨[]⟩,drawn,704,os⟩:Shared)=HK.val w:=by kernel_rfl
theorem i0r:opening PW=plainProg PW.main.scope.names:=by kernel_rfl
theorem c0q(s:Shared):fenceModules? PW s=some s:=by kernel_rfl
theorem left:LeftO PW Q [] Xt HK.obs HK.val 5588:=
 LeftO.of_pieces (boot_open i0r (by decide) c0q) y1q run (by decide) fun w=>funext fun os=>Prod.ext (look1 w os) (Prod.ext (look2 w os) (look3 w os))
theorem ws:OpenLaw.wellSaid PySem.Challenge.rw_wearplan_k31_whole_looking_pays=true:=by
 rw[PySem.W.Fast.te9446332074065402090];kernel_rfl
end HD31
local macro_rules
 | `(tactic|walk_at "n0")=>`(tactic|exact PySem.W.mg_none_of (by assumption) (by assumption) (by k_is))
 | `(tactic|walk_at "n1")=>`(tactic|exact ⟨_,PySem.W.mg_of (by assumption) (by assumption) (by k_is)⟩)
 | `(tactic|walk_at "n2")=>`(tactic|exact PySem.W.mg_of (by assumption) (by assumption) (by k_is))
 | `(tactic|walk_at "tr")=>`(tactic|exact DL.topRow3 (PySem.W.mg_of (by assumption) (by assumption) (by k_is)) (by k_is))
 | `(tactic|walk_at "hd")=>`(tactic|exact ⟨by k_is,by kernel_rfl,by k_is⟩)
 | `(tactic|walk_at "ci")=>`(tactic|exact ⟨⟨by k_is,by k_is,by k_is,by k_is⟩,by k_is,by k_is,by k_is,by k_is⟩)
 | `(tactic|walk_at "kn")=>`(tactic|exact ⟨by kernel_rfl,by kernel_rfl,by kernel_rfl,by kernel_rfl,by kernel_rfl,by kernel_rfl,by kernel_rfl⟩)
 | `(tactic|walk_at "na")=>`(tactic|(unfold L2.NoAttr;k_is))
 | `(tactic|walk_at "kr")=>`(tactic|kernel_rfl)
 | `(tactic|walk_at "x0")=>`(tactic|exact ⟨by kernel_rfl,by k_is⟩)
 | `(tactic|walk_at "er")=>`(tactic|exact ⟨by kernel_rfl,by k_is,⟨by kernel_rfl,by k_is,by k_is,by k_is,by k_is,by k_is,by k_is,by k_is⟩⟩)
 | `(tactic|walk_at "ff")=>`(tactic|exact ⟨_,_,by k_is,⟨⟨_,_,_,_,_,_,_,_,_,rfl,by k_is,by k_is⟩,by k_is⟩⟩)
 | `(tactic|walk_at "xm")=>`(tactic|exact ⟨_,_,⟨by kernel_rfl,by k_is,by k_is,by k_is⟩,⟨⟨_,_,_,_,_,_,_,_,_,rfl,by k_is,by k_is⟩,by k_is⟩⟩)
 | `(tactic|walk_at "mk")=>`(tactic|exact ⟨_,_,⟨by k_is,by k_is,by k_is,by k_is⟩,⟨⟨_,_,_,_,_,_,_,_,_,rfl,by k_is,by k_is⟩,by k_is⟩⟩)
open PySem PySem.W PyProof.Rows
set_option maxRecDepth 100000 in
set_option maxHeartbeats 0 in
theorem PySem.Challenge.cw_wearplan_k31_whole_looking_pays_holds : PySem.Challenge.rw_wearplan_k31_whole_looking_pays.Holds := by
 w_on
 refine holds_law HD31.ws fun said=>?_
 refine holds_open (r:=OpenLaw.row PySem.Challenge.rw_wearplan_k31_whole_looking_pays) (q:=HD31.Q) (loose:=[]) (Xt:=HD31.Xt) (XP:=XL HD31.Q []) (Yf:=HD31.HK.obs) (Ya:=HD31.HK.val) (YP:=InK HD31.K) (N:=5588) HD31.left (Hook.of HD31.HK) (Hook.keeps HD31.HK) (fun s e=>xl_of s (Bool.and_eq_true_iff.mp e).1) XL.keeps (by rfl) (by rfl) (by rfl) (fun s e=>recFacts_of (Bool.and_eq_true_iff.mp e).2) (by rfl) said (by decide +kernel) ⟨rfl,rfl,rfl,rfl,rfl,by decide +kernel⟩ ?hw ?hc
 (case hw=>w_witness2)
 k_fill
 refine DL.walk2 (l:=PySem.Challenge.rw_wearplan_k31_whole_looking_pays) (k:=51) (x:="_law_script") rfl rfl ⟨rfl,by decide,by decide⟩ (fun w h Y=>(show (HD31.K w.params).In h from Y)) fun w mg fa h KX G hmg=>?_
 have T:K31.Txt (HD31.K w.params) mg ⟨24,146,194,44,63,75,87⟩:=⟨by walk_at "n0",by walk_at "n0",by walk_at "n0",by walk_at "n0",by walk_at "n0",by walk_at "n0",by walk_at "n0",by walk_at "n0",by walk_at "n0",by walk_at "n0",by walk_at "n0",by walk_at "n0",by walk_at "n0",by walk_at "n0",by walk_at "n0",by walk_at "n1",by walk_at "n1",by walk_at "n1",by walk_at "tr",by walk_at "n2",by walk_at "hd",by walk_at "n2",by walk_at "ci",by walk_at "kn",by walk_at "na",by walk_at "na",by walk_at "na",by walk_at "n2",by walk_at "ci",by walk_at "kn",by walk_at "na",by walk_at "na",by walk_at "na",List.forall_mem_cons.mpr ⟨by walk_at "er",List.forall_mem_cons.mpr ⟨by walk_at "er",List.forall_mem_cons.mpr ⟨by walk_at "er",List.forall_mem_cons.mpr ⟨by walk_at "er",List.forall_mem_nil _⟩⟩⟩⟩,by decide,by decide,by walk_at "n2",by walk_at "hd",by walk_at "kr",by walk_at "na",by walk_at "n2",by walk_at "hd",by walk_at "kr",by walk_at "na",by walk_at "n2",by walk_at "hd",by walk_at "kr",by walk_at "x0",by walk_at "n2",by walk_at "hd",by walk_at "kr",by walk_at "x0"⟩;exact K31.all_mk KX G hmg T (by walk_at "ff") (by walk_at "ff") (by walk_at "ff") (by walk_at "ff") (by walk_at "ff") (by walk_at "ff") (by walk_at "ff") (by walk_at "ff") (by walk_at "ff") (by walk_at "ff") (by walk_at "ff") (by walk_at "ff") (by walk_at "ff") (by walk_at "ff") (by walk_at "ff") (by walk_at "ff") (by walk_at "ff") (by walk_at "ff") (by walk_at "ff") (by walk_at "ff") (by walk_at "ff") (by walk_at "ff") (by walk_at "ff") (by walk_at "ff") (by walk_at "ff") (by walk_at "ff") (by walk_at "ff") (by walk_at "ff") (by walk_at "ff") (by walk_at "ff") (by walk_at "ff") (by walk_at "ff") (by walk_at "ff") (by walk_at "ff") (by walk_at "ff") (by walk_at "xm") (by walk_at "xm") (by walk_at "mk") (by walk_at "mk")
