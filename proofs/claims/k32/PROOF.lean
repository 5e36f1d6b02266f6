import PyProof.Rows.All
import Wide.All
import OpenK.AllK
import Wide.FinOn
import Lean
import PyProof.EqAt
import PyProof.EqKinds
import PyProof.TupleCall
import PyProof.CollectIter
import PyProof.TupleOfStr
import PyProof.TupleOfSeq
import KE.KDictOf
import KE.KDictSum
import PyProof.AttrMissHeap
import PySem.Challenge.RW_wearplan_k32_plans_as_texts
set_option compiler.extract_closed false
set_option bootstrap.genMatcherCode false
set_option genSizeOf false
set_option genSizeOfSpec false
set_option linter.all false
set_option linter.unusedVariables false
open PyProof.Rows in
local macro_rules | `(tactic|walk_at "v3")=>`(tactic|first |exact Or.inl rfl |exact Or.inr (Or.inl rfl)|exact Or.inr (Or.inr rfl))
open PyProof.Rows in
local macro_rules | `(tactic|walk_at "v2")=>`(tactic|first |exact Or.inl rfl |exact Or.inr rfl)
open PyProof.Rows in
local macro_rules | `(tactic|walk_at "v1")=>`(tactic|first |exact .inl rfl |exact .inr rfl)
set_option Elab.async false
set_option maxRecDepth 100000
namespace L2
open PySem PySem.Spec PyProof.Rows
noncomputable abbrev Key:=Sum Int Str
noncomputable def l0b:Key→Value→Bool
 | .inl k,v=>Value.isInt k v
 | .inr x,v=>Value.isStrOf x v
noncomputable def keyH(w:World):Key→Int
 | .inl k=>hashInt k
 | .inr x=>hashStr w x
theorem z5:∀{k:Key} {v:Value},l0b k v=true→(∃i t,k=Sum.inl i∧v=Value.int i t)∨(∃x t,k=Sum.inr x∧v=Value.str x t)
 | .inl i,v,h=>by
  obtain ⟨t,e⟩:=Value.isInt_shape (k:=i) (v:=v) h;exact .inl ⟨i,t,rfl,e⟩
 | .inr x,v,h=>by
  obtain ⟨t,e⟩:=Value.isStrOf_shape (x:=x) (v:=v) h;exact .inr ⟨x,t,rfl,e⟩
theorem k0a(i:Int)(t:Tok):l0b (.inl i) (.int i t)=true:=by simp[l0b,Value.isInt]
theorem j0z(x:Str)(t:Tok):l0b (.inr x) (.str x t)=true:=by simp[l0b,Value.isStrOf]
theorem key_ll(a b:Int):decide ((Sum.inl a:Key)=Sum.inl b)=(a==b):=by
 by_cases e:a=b
 ·subst e;simp
 ·have h:¬(Sum.inl a:Key)=Sum.inl b:=fun q=>e (Sum.inl.inj q)
  rw[decide_eq_false h];exact (beq_eq_false_iff_ne.mpr e).symm
theorem key_rr(a b:Str):decide ((Sum.inr a:Key)=Sum.inr b)=decide (a=b):=by
 by_cases e:a=b
 ·subst e;simp
 ·have h:¬(Sum.inr a:Key)=Sum.inr b:=fun q=>e (Sum.inr.inj q)
  rw[decide_eq_false h,decide_eq_false e]
theorem key_lr(a:Int)(b:Str):decide ((Sum.inl a:Key)=Sum.inr b)=false:=decide_eq_false (fun q=>nomatch q)
theorem key_rl(a:Str)(b:Int):decide ((Sum.inr a:Key)=Sum.inl b)=false:=decide_eq_false (fun q=>nomatch q)
noncomputable def k8(prog:Program)(w:World):PySem.KeyKind prog w Key where
 is:=l0b
 hash:=keyH w
 inj:=fun v a b ha hb=>by
  rcases z5 ha with ⟨i,t,rfl,rfl⟩|⟨x,t,rfl,rfl⟩
  ·rcases z5 hb with ⟨j,u,rfl,e⟩|⟨y,u,rfl,e⟩
   ·injection e with e1 _;rw[e1]
   ·exact nomatch e
  ·rcases z5 hb with ⟨j,u,rfl,e⟩|⟨y,u,rfl,e⟩
   ·exact nomatch e
   ·injection e with e1 _;rw[e1]
 byValue:=fun k v h=>by
  rcases z5 h with ⟨i,t,rfl,rfl⟩|⟨x,t,rfl,rfl⟩<;>rfl
 pyHash:=fun hv h=>by
  rcases z5 hv with ⟨i,t,rfl,rfl⟩|⟨x,t,rfl,rfl⟩
  ·exact wpAny_pyHash_int h
  ·exact wpAny_pyHash_str h
 eqBool:=fun hu hv h=>by
  rcases z5 hu with ⟨i,t,rfl,rfl⟩|⟨x,t,rfl,rfl⟩
  ·rcases z5 hv with ⟨j,u,rfl,rfl⟩|⟨y,u,rfl,rfl⟩
   ·rw[key_ll]at h;exact wpAny_eqBool_int h
   ·rw[key_lr]at h;exact SeqAt.EqAt.int_str i t y u _ _ _ _ h
  ·rcases z5 hv with ⟨j,u,rfl,rfl⟩|⟨y,u,rfl,rfl⟩
   ·rw[key_rl]at h;exact SeqAt.EqAt.str_int x t j u _ _ _ _ h
   ·rw[key_rr]at h;exact wpAny_eqBool_str h
 «strs»:=fun k x t v h=>by
  rcases z5 h with ⟨i,u,rfl,e⟩|⟨y,u,rfl,e⟩
  ·exact nomatch e
  ·injection e with e1 _
   subst e1;cases v<;>rfl
theorem o0w(prog:Program)(w:World)(i:Int)(t:Tok):(k8 prog w).is (.inl i) (.int i t)=true:=k0a i t
theorem o0v(prog:Program)(w:World)(x:Str)(t:Tok):(k8 prog w).is (.inr x) (.str x t)=true:=j0z x t
end L2
namespace L2
open PySem PySem.Spec PyProof.Rows
inductive V where
 |non |bl (b:Bool)|int (i:Int)|str (x:Str)|byt (b:Array UInt8)|flt (b:UInt64)|ref (a:Addr)|ty (n:String)
 deriving DecidableEq
noncomputable def RelV:V→Value→Prop
 | .non,u=>u=Value.none
 | .bl b,u=>u=Value.bool b
 | .int i,u=>∃t,u=Value.int i t
 | .str x,u=>∃t,u=Value.str x t
 | .byt b,u=>∃t,u=Value.bytes b t
 | .flt b,u=>∃t,u=Value.float b t
 | .ref a,u=>u=Value.ref a
 | .ty n,u=>u=Value.type n
noncomputable abbrev Vals:List V→List Value→Prop:=Paired RelV
theorem Vals.length{xs:List V}{us:List Value}(r:Vals xs us):xs.length=us.length:=Paired.length r
theorem Vals.get:∀{xs:List V} {us:List Value} {i:Nat} {x:V},Vals xs us→xs[i]?=some x→∃u,us[i]?=some u∧RelV x u
 |_,_,_,_,.nil,e=>by simp at e
 |_,_,0,_,.cons r _,e=>by simp at e;subst e;exact ⟨_,rfl,r⟩
 |_,_,i+1,x,.cons _ t,e=>by
  obtain ⟨u,h1,h2⟩:=Vals.get (i:=i) (x:=x) t (by simpa using e);exact ⟨u,by simpa using h1,h2⟩
theorem Vals.set{x:V}{u:Value}(r:RelV x u):∀{xs:List V} {us:List Value} (i:Nat),Vals xs us→Vals (xs.set i x) (us.set i u)
 |_,_,_,.nil=>.nil
 |_,_,0,.cons _ t=>.cons r t
 |_,_,i+1,.cons q t=>.cons q (Vals.set r i t)
theorem Vals.append:∀{xs ys:List V} {us ws:List Value},Vals xs us→Vals ys ws→Vals (xs++ys) (us++ws)
 |_,_,_,_,.nil,s=>s
 |_,_,_,_,.cons r t,s=>.cons r (Vals.append t s)
theorem Vals.take:∀{xs:List V} {us:List Value} (n:Nat),Vals xs us→Vals (xs.take n) (us.take n)
 |_,_,0,_=>.nil
 |_,_,_+1,.nil=>.nil
 |_,_,n+1,.cons r t=>.cons r (Vals.take n t)
theorem Vals.drop:∀{xs:List V} {us:List Value} (n:Nat),Vals xs us→Vals (xs.drop n) (us.drop n)
 |_,_,0,r=>r
 |_,_,_+1,.nil=>.nil
 |_,_,n+1,.cons _ t=>Vals.drop n t
noncomputable def RelO:Option V→Option Value→Prop
 |some v,some u=>RelV v u
 |none,none=>True
 |_,_=>False
noncomputable def KV{κ:Type}:List (κ×V)→List (κ×Value)→Prop:=Paired fun (p:κ×V) (q:κ×Value)=>p.1=q.1∧RelV p.2 q.2
noncomputable def kV:Key→V
 | .inl i=>.int i
 | .inr x=>.str x
inductive HO where
 |lst (xs:List V)
 |tup (xs:List V)
 |dK (kvs:List (Key×V))|dT (kvs:List (List Key×V))
 |set (S:Int→Bool) (n:Nat)
 |ins (C dx:Addr) (fs:List (Str×V))
 |own (x:Addr)
 |xd (fs:List (Str×V))
 |met (f x:Addr)
 |rng (lo hi:Int)
 |frz (o:Obj) (u:HO)
 |tbl (ps:Array Value)
 |ext (φ:Heap→Prop)
noncomputable abbrev Hp:=Addr→Option HO
noncomputable def upd(H:Hp)(a:Addr)(o:HO):Hp:=fun b=>if b=a then some o else H b
theorem g0{H:Hp}{a:Addr}{o:HO}:upd H a o a=some o:=by unfold upd;rw[if_pos rfl]
theorem u0{H:Hp}{a b:Addr}{o:HO}(h:b≠a):upd H a o b=H b:=by unfold upd;rw[if_neg h]
theorem c0m{H:Hp}{a:Addr}{o u:HO}:upd (upd H a o) a u=upd H a u:=by
 funext b;unfold upd;split<;>rfl
theorem v0{H:Hp}{a b:Addr}{o:HO}(h:H a=some o)(h':H b=none):a≠b:=by
 intro e;subst e;rw[h]at h';cases h'
noncomputable def TupD(h:Heap)(a:Addr)(items:Array Value):Prop:=∃o,h.get? a=some o∧o.cls=.type "tuple"∧(∃n,o.data=.seq items n)∧o.dict=none
theorem TupD.tup{h:Heap}{a:Addr}{items:Array Value}(x:TupD h a items):IsTup h a items:=let ⟨o,e,c,d,_⟩:=x;⟨o,e,c,d⟩
theorem TupD.new(h:Heap)(items:Array Value):TupD (h.push {cls:=.type "tuple",data:=.seq items}) h.objs.size items:=⟨_,Heap.get?_push_size _ rfl,rfl,⟨_,rfl⟩,rfl⟩
section
variable(P:Program)(w:World)
noncomputable def ObjOk(H:Hp)(h:Heap)(a:Addr):HO→Prop
 | .lst xs=>xs.length≤sizeLine∧∃(its:List Value) (n:Nat),Vals xs its∧h.get? a=some {cls:=.type "list",data:=.seq its.toArray n}
 | .tup xs=>xs.length≤sizeLine∧∃its:List Value,Vals xs its∧TupD h a its.toArray
 | .dK kvs=>kvs.length≤sizeLine∧(a==sysModules)=false∧∃vs,KV kvs vs∧h.DictOf (k8 P w) a vs
 | .dT kvs=>kvs.length≤sizeLine∧(a==sysModules)=false∧∃xs:List (List Key×Addr×Value),
  Paired (fun (p:List Key×V) (q:List Key×Addr×Value)=>p.1=q.1∧H q.2.1=some (.tup (p.1.map kV))∧RelV p.2 q.2.2) kvs xs∧
  ∃o es ep,h.get? a=some o∧o.ExactDict∧o.data=.dict es ep∧es.toList=xs.map (entryOfKey (tupleKind (k8 P w)))∧(xs.map (·.1)).Nodup
 | .set S n=>h.SetOf (intKind P w) a S n
 | .ins C dx fs=>H dx=some (.own a)∧fs.length≤1000∧dx≠a∧h.get? a=some (PySem.W.instObj C dx)∧
  ∃mA,h.Ns1 dx mA∧(∀f,RelO (fs.lookup f) (mA f))∧PySem.Within mA (fs.map (·.1))
 | .own _=>∃o,h.get? a=some o
 | .xd fs=>∃mA,h.Ns1 a mA∧∀f,RelO (fs.lookup f) (mA f)
 | .rng lo hi=>∃t u v,h.get? a=some {cls:=.type "range",data:=.fields #[.int lo t,.int hi u,.int 1 v]}
 | .frz o u=>h.get? a=some o∧ObjOk H h a u
 | .tbl ps=>h.get? a=some {cls:=.none,data:=.fields ps}
 | .met f x=>h.get? a=some (PySem.W.methodObj (.ref f) (.ref x))
 | .ext φ=>φ h∧(∃o,h.get? a=some o)∧∀h1 h2:Heap,φ h1→(∀o,h1.get? a=some o→h2.get? a=some o)→φ h2
noncomputable def HOk(H:Hp)(h:Heap):Prop:=∀a o,H a=some o→ObjOk P w H h a o
end
section
variable{P:Program}{w:World}{H H':Hp}{h h':Heap}{a:Addr}{o:HO}
theorem ObjOk.lt(x:ObjOk P w H h a o):a<h.objs.size:=by
 cases o with
 |lst xs=>obtain ⟨_,_,_,_,e⟩:=x;exact Heap.lt_size e
 |tup xs=>obtain ⟨_,_,_,p⟩:=x;exact p.tup.lt
 |dK kvs=>obtain ⟨_,_,_,_,o,_,_,e,_⟩:=x;exact Heap.lt_size e
 |dT kvs=>obtain ⟨_,_,_,_,o,_,_,e,_⟩:=x;exact Heap.lt_size e
 |set S n=>obtain ⟨o,_,_,_,e,_⟩:=x;exact Heap.lt_size e
 |ins C dx fs=>obtain ⟨_,_,_,e,_⟩:=x;exact Heap.lt_size e
 |own y=>obtain ⟨_,e⟩:=x;exact Heap.lt_size e
 |xd fs=>obtain ⟨_,⟨_,_,_,e,_⟩,_⟩:=x;exact Heap.lt_size e
 |rng lo hi=>obtain ⟨_,_,_,e⟩:=x;exact Heap.lt_size e
 |frz ob u=>obtain ⟨e,_⟩:=x;exact Heap.lt_size e
 |tbl ps=>exact Heap.lt_size (show h.get? a=some _ from x)
 |met f y=>exact Heap.lt_size (show h.get? a=some _ from x)
 |ext φ=>obtain ⟨_,⟨_,e⟩,_⟩:=x;exact Heap.lt_size e
theorem Paired.mapP{α β:Type}{F G:α→β→Prop}:∀{l₁:List α} {l₂:List β},Paired F l₁ l₂→(∀a b,F a b→G a b)→Paired G l₁ l₂
 |_,_,.nil,_=>.nil
 |_,_,.cons r t,f=>.cons (f _ _ r) (Paired.mapP t f)
theorem ObjOk.stay(x:ObjOk P w H h a o)(k:∀b u,(b=a∨H b=some (.own a))→h.get? b=some u→h'.get? b=some u)
 (ho:∀b,H b=some (.own a)→H' b=some (.own a)) (ht:∀b xs,H b=some (.tup xs)→H' b=some (.tup xs)):ObjOk P w H' h' a o:=by
 induction o with
 |lst xs=>obtain ⟨z,its,n,r,e⟩:=x;exact ⟨z,its,n,r,k _ _ (.inl rfl) e⟩
 |tup xs=>obtain ⟨z,its,r,ob,e,c⟩:=x;exact ⟨z,its,r,ob,k _ _ (.inl rfl) e,c⟩
 |dK kvs=>obtain ⟨z,y,vs,r,ob,es,ep,e,c⟩:=x;exact ⟨z,y,vs,r,ob,es,ep,k _ _ (.inl rfl) e,c⟩
 |dT kvs=>
  obtain ⟨z,y,xs,r,ob,es,ep,e,c⟩:=x;exact ⟨z,y,xs,Paired.mapP r fun p q z=>⟨z.1,ht _ _ z.2.1,z.2.2⟩,ob,es,ep,k _ _ (.inl rfl) e,c⟩
 |set S n=>obtain ⟨ob,es,ep,t,e,c⟩:=x;exact ⟨ob,es,ep,t,k _ _ (.inl rfl) e,c⟩
 |ins C dx fs=>
  obtain ⟨d,z,ne,e,mA,⟨od,es,ep,e2,c⟩,r⟩:=x;exact ⟨ho _ d,z,ne,k _ _ (.inl rfl) e,mA,⟨od,es,ep,k _ _ (.inr d) e2,c⟩,r⟩
 |own y=>obtain ⟨ob,e⟩:=x;exact ⟨ob,k _ _ (.inl rfl) e⟩
 |xd fs=>obtain ⟨mA,⟨od,es,ep,e,c⟩,r⟩:=x;exact ⟨mA,⟨od,es,ep,k _ _ (.inl rfl) e,c⟩,r⟩
 |rng lo hi=>obtain ⟨t,u,v,e⟩:=x;exact ⟨t,u,v,k _ _ (.inl rfl) e⟩
 |frz ob u ih=>obtain ⟨e,q⟩:=x;exact ⟨k _ _ (.inl rfl) e,ih q⟩
 |tbl ps=>
  have e:h.get? a=some {cls:=.none,data:=.fields ps}:=x;show h'.get? a=some {cls:=.none,data:=.fields ps};exact k a _ (.inl rfl) e
 |met f y=>
  have e:h.get? a=some (PySem.W.methodObj (.ref f) (.ref y)):=x;show h'.get? a=some (PySem.W.methodObj (.ref f) (.ref y));exact k a _ (.inl rfl) e
 |ext φ=>obtain ⟨p,⟨o,e⟩,st⟩:=x;exact ⟨st _ _ p fun o q=>k _ _ (.inl rfl) q,⟨o,k _ _ (.inl rfl) e⟩,st⟩
theorem HOk.lt(x:HOk P w H h)(e:H a=some o):a<h.objs.size:=(x a o e).lt
theorem HOk.fresh(x:HOk P w H h)(e:h.objs.size≤a):H a=none:=by
 cases q:H a with
 |none=>rfl
 |some u=>exact absurd (Nat.lt_of_lt_of_le (x.lt q) e) (Nat.lt_irrefl _)
theorem HOk.kept(x:HOk P w H h)(k:∀b u,h.get? b=some u→h'.get? b=some u):HOk P w H h':=fun a o e=>
 (x a o e).stay (fun b u _ q=>k b u q) (fun _ q=>q) fun _ _ q=>q
theorem HOk.laid(x:HOk P w H h)(k:∀b u,h.get? b=some u→h'.get? b=some u)(hp:h.objs.size≤a)(new:ObjOk P w (upd H a o) h' a o):HOk P w (upd H a o) h':=fun b u e=>by
 have hn:=x.fresh hp;by_cases hb:b=a
 ·subst hb;rw[g0]at e;cases e;exact new
 ·rw[u0 hb]at e;exact (x b u e).stay (fun c v _ q=>k c v q) (fun c q=>by rw[u0 (v0 q hn)];exact q) fun c xs q=>by rw[u0 (v0 q hn)];exact q
end
noncomputable def Rd(H:Hp)(a:Addr)(u:HO):Prop:=H a=some u∨∃o,H a=some (.frz o u)
theorem Rd.ok{P:Program}{w:World}{H:Hp}{h:Heap}{a:Addr}{u:HO}(r:Rd H a u)(x:HOk P w H h):ObjOk P w H h a u:=by
 rcases r with r |⟨o,r⟩
 ·exact x a u r
 ·obtain ⟨_,q⟩:=x a _ r;exact q
noncomputable def Mut:Option HO→Prop
 |some (.lst _)=>True
 |some (.dK _)=>True
 |some (.dT _)=>True
 |some (.set _ _)=>True
 |some (.ins _ _ _)=>True
 |some (.ext _)=>True
 |_=>False
section
variable{P:Program}{w:World}{H:Hp}{h h':Heap}{x e:Addr}{o':HO}
theorem HOk.write(ok:HOk P w H h)(mu:Mut (H x))(he:e=x∨H e=some (.own x))(k:∀b u,b≠e→h.get? b=some u→h'.get? b=some u)(heo:∃u,h'.get? e=some u)
 (new:ObjOk P w (upd H x o') h' x o'):HOk P w (upd H x o') h':=fun b u q=>by
 have nown:∀c y,H c=some (.own y)→c≠x:=fun c y r z=>by subst z;rw[r]at mu;exact mu
 have ntup:∀c xs,H c=some (.tup xs)→c≠x:=fun c xs r z=>by subst z;rw[r]at mu;exact mu
 by_cases hb:b=x
 ·subst hb;rw[g0]at q;cases q;exact new
 ·rw[u0 hb]at q;by_cases hbe:b=e
  ·have q':H b=some (.own x):=by
    rcases he with z |z
    ·exact absurd (hbe.trans z) hb
    ·rw[hbe];exact z
   rw[q]at q';cases q';obtain ⟨v,hv⟩:=heo;exact ⟨v,by rw[hbe];exact hv⟩
  ·refine (ok b u q).stay (fun c v hc r=>k c v ?_ r) (fun c r=>by rw[u0 (nown c b r)];exact r) fun c xs r=>by rw[u0 (ntup c xs r)];exact r
   rcases hc with rfl |hc
   ·exact hbe
   ·rintro rfl;rcases he with z |z
    ·exact nown c b hc z
    ·rw[hc]at z;cases z;exact hb rfl
end
structure Un(fs ex:List Addr)(H H':Hp)(h h':Heap):Prop where
 keep:∀b o,h.get? b=some o→H b=none→b∉fs→b∉ex→h'.get? b=some o
 slot:∀b o,h.get? b=some o→H b=none→b∈fs→b∉ex→∃sl,h'.get? b=some {o with slots:=sl}
 free:∀b o,h.get? b=some o→H b=none→b∉ex→H' b=none
 there:∀b o,h.get? b=some o→b∉ex→∃o',h'.get? b=some o'
 tups:∀b xs,H b=some (.tup xs)→H' b=some (.tup xs)
 frzs:∀b o u,H b=some (.frz o u)→H' b=some (.frz o u)
 tbls:∀b ps,H b=some (.tbl ps)→∃more,H' b=some (.tbl (ps++more))
section
variable{fs fs' ex ex':List Addr}{H H1 H2:Hp}{h h1 h2 h':Heap}{a x e:Addr}{o:HO}
theorem Un.any(u:Un fs ex H H1 h h1){b:Addr}{ob:Obj}(q:h.get? b=some ob)(n:H b=none)(hx:b∉ex):∃sl,h1.get? b=some {ob with slots:=sl}:=by
 by_cases hb:b∈fs
 ·exact u.slot b ob q n hb hx
 ·exact ⟨ob.slots,u.keep b ob q n hb hx⟩
theorem Un.kept(k:∀b u,h.get? b=some u→h'.get? b=some u):Un fs ex H H h h':=
 ⟨fun b ob q _ _ _=>k b ob q,fun b ob q _ _ _=>⟨ob.slots,k b ob q⟩,fun _ _ _ n _=>n,fun b ob q _=>⟨ob,k b ob q⟩,fun _ _ q=>q,fun _ _ _ q=>q,fun _ ps q=>⟨#[],by rw[q];simp⟩⟩
theorem Un.refl:Un fs ex H H h h:=Un.kept fun _ _ q=>q
theorem Un.laid(k:∀b u,h.get? b=some u→h'.get? b=some u)(hp:h.objs.size≤a)(hn:H a=none):Un fs ex H (upd H a o) h h' where
 keep:=fun b u q _ _ _=>k b u q
 slot:=fun b u q _ _ _=>⟨u.slots,k b u q⟩
 free:=fun b u q n _=>by rw[u0 (Nat.ne_of_lt (Nat.lt_of_lt_of_le (Heap.lt_size q) hp))];exact n
 there:=fun b u q _=>⟨u,k b u q⟩
 tups:=fun b xs q=>by rw[u0 (v0 q hn)];exact q
 frzs:=fun b u xs q=>by rw[u0 (v0 q hn)];exact q
 tbls:=fun b ps q=>⟨#[],by rw[u0 (v0 q hn),q];simp⟩
theorem Un.write(mu:Mut (H x))(he:e=x∨H e=some (.own x))(k:∀b u,b≠e→h.get? b=some u→h'.get? b=some u)(heo:∃u,h'.get? e=some u):Un fs ex H (upd H x o) h h':=by
 have hx:∀b,H b=none→b≠x:=fun b n z=>by subst z;rw[n]at mu;exact mu
 have hb:∀b,H b=none→b≠e:=fun b n z=>by
  subst z;rcases he with r |r
  ·exact hx b n r
  ·rw[n]at r;cases r
 have hm:∀b u,H b=some u→¬Mut (some u)→b≠x:=fun b u q nm z=>by subst z;rw[q]at mu;exact nm mu
 refine ⟨fun b u q n _ _=>k b u (hb b n) q,fun b u q n _ _=>⟨u.slots,k b u (hb b n) q⟩,fun b u q n _=>by rw[u0 (hx b n)];exact n,fun b u q _=>?_,
  fun b xs q=>by rw[u0 (hm b _ q fun z=>z)];exact q,fun b u xs q=>by rw[u0 (hm b _ q fun z=>z)];exact q,fun b ps q=>⟨#[],by rw[u0 (hm b _ q fun z=>z),q];simp⟩⟩
 by_cases hbe:b=e
 ·subst hbe;exact heo
 ·exact ⟨u,k b u hbe q⟩
end
noncomputable def trk(h:Heap)(H:Hp):List Addr:=(List.range h.objs.size).filter fun a=>(H a).isSome
noncomputable def hidT(h:Heap)(H:Hp):Heap:=PySem.W.hideAll h (trk h H)
theorem j0y(h:Heap)(H:Hp):(hidT h H).objs.size=h.objs.size:=PySem.W.hideAll_size _ _
theorem g0b{h:Heap}{H:Hp}{b:Addr}{o:Obj}(e:h.get? b=some o)(n:H b=none):(hidT h H).get? b=some o:=
 PySem.W.hideAll_get _ e fun hm=>by
  have q:(H b).isSome=true:=(List.mem_filter.mp hm).2;rw[n]at q;simp at q
theorem c0l{h:Heap}{H:Hp}{b:Addr}{o:Obj}(e:(hidT h H).get? b=some o):h.get? b=some o∧H b=none:=by
 have e':h.get? b=some o:=PySem.W.of_hideAll (trk h H) e;refine ⟨e',?_⟩;cases q:H b with
 |none=>rfl
 |some x=>
  have hm:b∈trk h H:=List.mem_filter.mpr ⟨List.mem_range.mpr (Heap.lt_size e'),by simp[q]⟩;have z:(hidT h H).get? b=none:=PySem.W.hideAll_none (trk h H) hm;rw[z]at e;cases e
noncomputable def c0k(g h:Heap)(L:Addr):List (Addr×Obj):=(List.range h.objs.size).filterMap fun a=>if a=L∨(g.get? a).isSome=true then none else (h.get? a).map fun o=>(a,o)
noncomputable def rest(g h:Heap)(L d:Addr):List (Addr×Obj):=(c0k g h L).filter fun p=>decide (p.1≠d)
end L2
namespace L2
open PySem PySem.Spec PyProof.Rows
structure Mod(K:PySem.W.Frag)(mg:Str→Option Value)(base:Heap):Prop where
 kin:K.In base
 glob:base.Ns mainGlobals mg
 blt:∃mb,base.Ns builtinsNs mb∧∀x:Str,x≠"__name__"→mb x=bootBuiltins x
 nolimit:base.NoLimit
structure Cx where
 prog:Program
 w:World
 K:PySem.W.Frag
 mg:Str→Option Value
 base:Heap
 A:Around
 N:List Str
 s₀:Shared
 H₀:Hp
 env:Env
 outer:List Env
 stack:List Env
 ex:List Addr
 fn:Str→Bool
 calm:Bool
 pn:List (Addr×Obj)
 xe:Value→Shared→Prop
 fl:Bool:=true
noncomputable def frs(l:List Env):List Addr:=l.filterMap (·.frame)
noncomputable abbrev Cx.fs(X:Cx):List Addr:=frs X.outer
noncomputable def Vis(sc:Scope)(x:Str):Prop:=sc.names.lookup x=some .local∨sc.names.lookup x=some .cell∨sc.names.lookup x=some .free
noncomputable def Loc(sc:Scope)(x:Str):Prop:=sc.names.lookup x=some .local∨sc.names.lookup x=some .cell
noncomputable def Look(env:Env)(h:Heap)(m:Str→Option Value)(x:Str)(u:Value):Prop:=
 (env.kindOf x=some .local∧m x=some u)∨((env.kindOf x=some .cell∨env.kindOf x=some .free)∧∃c,env.cells.lookup x=some c∧h.IsCell c (some u))
structure Cx.Ok(X:Cx):Prop where
 mod:Mod X.K X.mg X.base
 kind:X.env.scope.kind=.function
 glob:X.env.globals=mainGlobals
 blt:X.env.builtins=builtinsNs
 above:X.s₀.heap.objs.size≤X.env.locals
 inj:∀x y c,X.env.cells.lookup x=some c→X.env.cells.lookup y=some c→x=y
 has:∀x,(X.env.kindOf x=some .cell∨X.env.kindOf x=some .free)→∃c,X.env.cells.lookup x=some c
 cab:∀x c,X.fn x=true→X.env.cells.lookup x=some c→X.s₀.heap.objs.size≤c
 hd:X.calm=true→X.A.handled=none
 frames:X.A.frames=some X.stack
 stk:X.stack=X.outer∨(X.stack=X.env::X.outer∧X.env.frame=some X.env.locals)
 exf:∀b∈X.ex,b≠X.env.locals∧∀x c,X.env.cells.lookup x=some c→c≠b
 bs:∀b o,X.base.get? b=some o→X.s₀.heap.get? b=some o∧X.H₀ b=none
 bsz:X.base.objs.size≤X.s₀.heap.objs.size
 noex:∀b o,X.base.get? b=some o→b∉X.ex
 exfs:∀b∈X.ex,b∉X.fs
 funs:X.s₀.heap.FunFrames X.base X.outer
 frf:∀b∈X.fs,X.H₀ b=none
structure Inv(X:Cx)(pins:List (Addr×Obj))(σ:List (Option V))(H:Hp)(s:Shared):Prop where
 ok:X.Ok
 os:s.os=X.s₀.os
 bare:AllBare s.gens
 base:Un X.fs X.ex X.H₀ H X.s₀.heap s.heap
 loc:∃m,s.heap.Ns X.env.locals m∧∀(i:Nat) (x:Str) (v:V),X.N[i]?=some x→σ[i]?=some (some v)→Vis X.env.scope x→∃u,RelV v u∧Look X.env s.heap m x u
 cell:∀x c,X.env.cells.lookup x=some c→∃v,s.heap.IsCell c v
 free:H X.env.locals=none
 freeC:∀x c,X.env.cells.lookup x=some c→H c=none
 pin:∀p∈X.pn++pins,s.heap.get? p.1=some p.2∧H p.1=none∧p.1≠X.env.locals∧p.1∉X.fs∧∀v,p.2.data≠.cell v
 hok:HOk X.prog X.w H s.heap
 len:σ.length=X.N.length
section
variable{X:Cx}{pins:List (Addr×Obj)}{σ:List (Option V)}{H H':Hp}{s:Shared}{h':Heap}
theorem Cx.Ok.nofr(ok:X.Ok){b:Addr}{o:Obj}(e:X.base.get? b=some o):b∉X.fs:=fun hb=>by
 have:=(ok.funs.mem hb).1;rw[e]at this;cases this
theorem Inv.bs(I:Inv X pins σ H s):∀b o,X.base.get? b=some o→s.heap.get? b=some o∧H b=none:=fun b o e=>
 ⟨I.base.keep b o (I.ok.bs b o e).1 (I.ok.bs b o e).2 (I.ok.nofr e) (I.ok.noex b o e),I.base.free b o (I.ok.bs b o e).1 (I.ok.bs b o e).2 (I.ok.noex b o e)⟩
theorem Inv.bk(I:Inv X pins σ H s):∀b o,X.base.get? b=some o→s.heap.get? b=some o:=fun b o e=>(I.bs b o e).1
theorem Inv.mod(I:Inv X pins σ H s):Mod X.K X.mg X.base:=I.ok.mod
theorem Inv.kIn(I:Inv X pins σ H s):X.K.In s.heap:=I.ok.mod.kin.keeps I.bk
theorem Inv.fr(I:Inv X pins σ H s):∃m,Fr X.base X.env.locals s.heap m:=
 let ⟨m,hn,_⟩:=I.loc
 ⟨m,hn,I.bk,Nat.le_trans I.ok.bsz I.ok.above⟩
theorem Inv.lt(I:Inv X pins σ H s):X.env.locals<s.heap.objs.size:=let ⟨_,hn,_⟩:=I.loc;hn.lt
theorem Inv.sz(I:Inv X pins σ H s):X.s₀.heap.objs.size≤s.heap.objs.size:=Nat.le_trans I.ok.above (Nat.le_of_lt I.lt)
theorem Inv.nofs(I:Inv X pins σ H s){a:Addr}(h:s.heap.objs.size≤a):a∉X.fs:=fun hb=>by
 obtain ⟨_,o,ho,_⟩:=I.ok.funs.mem hb;exact absurd (Nat.lt_of_lt_of_le (Heap.lt_size ho) (Nat.le_trans I.sz h)) (Nat.lt_irrefl _)
theorem Inv.cne(I:Inv X pins σ H s):∀x c,X.env.cells.lookup x=some c→c≠X.env.locals:=fun x c e z=>by
 obtain ⟨v,o,ho,hd⟩:=I.cell x c e;obtain ⟨m,⟨o',es,ep,ho',hd',_⟩,_⟩:=I.loc;rw[z,ho']at ho;cases ho;rw[hd']at hd;cases hd
theorem Inv.funs(I:Inv X pins σ H s):s.heap.FunFrames X.base X.outer:=by
 have all:∀(l:List Env),(∀b∈frs l,b∈X.fs)→X.s₀.heap.FunFrames X.base l→s.heap.FunFrames X.base l:=by
  intro l
  induction l with
  |nil=>intro _ _;trivial
  |cons env r ih=>
   intro hs hl;obtain ⟨hk,⟨L,o,hf,hn,ho,hd⟩,hr⟩:=hl;have hL:L∈X.fs:=hs L (by unfold frs;rw[List.filterMap_cons,hf];exact List.mem_cons_self);obtain ⟨sl,e⟩:=I.base.slot L o ho (I.ok.frf L hL) hL fun z=>I.ok.exfs L z hL
   exact ⟨hk,⟨L,_,hf,hn,e,hd⟩,ih (fun b hb=>hs b (by unfold frs;rw[List.filterMap_cons,hf];exact List.mem_cons_of_mem _ hb)) hr⟩
 exact all X.outer (fun _ hb=>hb) I.ok.funs
theorem Inv.stack(I:Inv X pins σ H s):s.heap.FunFrames X.base X.stack:=by
 rcases I.ok.stk with e |⟨e,hf⟩
 ·rw[e];exact I.funs
 ·rw[e];obtain ⟨m,hn,_⟩:=I.loc;refine .cons (by rw[I.ok.kind];decide) hf hn ?_ I.funs;exact Heap.get?_none_of_le (Nat.le_trans I.ok.bsz I.ok.above)
theorem Inv.stkSub(I:Inv X pins σ H s):∀b∈frs X.stack,b∈X.env.locals::X.fs:=fun b hb=>by
 rcases I.ok.stk with e |⟨e,hf⟩
 ·rw[e]at hb;exact List.mem_cons_of_mem _ hb
 ·rw[e]at hb;unfold frs at hb;rw[List.filterMap_cons,hf]at hb;exact hb
theorem Inv.stkFree(I:Inv X pins σ H s):∀b∈frs X.stack,H b=none:=fun b hb=>by
 rcases List.mem_cons.mp (I.stkSub b hb)with e |hb
 ·rw[e];exact I.free
 ·obtain ⟨_,o,ho,_⟩:=I.ok.funs.mem hb;exact I.base.free b o ho (I.ok.frf b hb) fun z=>I.ok.exfs b z hb
theorem Inv.step{g':Array GenState}{t':Nat}{d':Drawn}{ch:List Addr}(I:Inv X pins σ H s)
 (hch:∀b∈ch,(b∈X.ex∨X.s₀.heap.objs.size≤b)∧b≠X.env.locals∧(∀x c,X.env.cells.lookup x=some c→c≠b)∧∀p∈X.pn++pins,p.1≠b)
 (keep:∀b o,b≠X.env.locals→b∉X.fs→b∉ch→s.heap.get? b=some o→H b=none→h'.get? b=some o)
 (slot:∀b o,b≠X.env.locals→b∈X.fs→b∉ch→s.heap.get? b=some o→H b=none→∃sl,h'.get? b=some {o with slots:=sl}) (free:∀b o,b∉ch→s.heap.get? b=some o→H b=none→H' b=none)
 (there:∀b o,b∉ch→s.heap.get? b=some o→∃o',h'.get? b=some o')
 (tups:∀b xs,H b=some (.tup xs)→H' b=some (.tup xs)) (frzs:∀b o u,H b=some (.frz o u)→H' b=some (.frz o u)) (tbls:∀b ps,H b=some (.tbl ps)→∃more,H' b=some (.tbl (ps++more)))
 (ns:∀m,s.heap.Ns X.env.locals m→h'.Ns X.env.locals m) (hok:HOk X.prog X.w H' h') (hg:AllBare g'):
 Inv X pins σ H' {s with heap:=h',gens:=g',drawn:=d',toks:=t'}:=by
 have neL:∀b o,X.s₀.heap.get? b=some o→b≠X.env.locals:=fun b o e=>Nat.ne_of_lt (Nat.lt_of_lt_of_le (Heap.lt_size e) I.ok.above)
 have neC:∀b o,X.s₀.heap.get? b=some o→b∉X.ex→b∉ch:=fun b o e hx hb=>by
  rcases (hch b hb).1 with z |z
  ·exact hx z
  ·exact absurd (Nat.lt_of_lt_of_le (Heap.lt_size e) z) (Nat.lt_irrefl _)
 have cellK:∀x c,X.env.cells.lookup x=some c→∀v,s.heap.IsCell c v→h'.IsCell c v:=fun x c e v ⟨o,ho,hd⟩=>by
  have nch:c∉ch:=fun z=>(hch c z).2.2.1 x c e rfl
  by_cases hc:c∈X.fs
  ·obtain ⟨sl,q⟩:=slot c o (I.cne x c e) hc nch ho (I.freeC x c e);exact ⟨_,q,hd⟩
  ·exact ⟨o,keep c o (I.cne x c e) hc nch ho (I.freeC x c e),hd⟩
 refine ⟨I.ok,I.os,hg,⟨fun b o e n hb hx=>?_,fun b o e n hb hx=>?_,fun b o e n hx=>?_,fun b o e hx=>?_,fun b xs e=>tups b xs (I.base.tups b xs e),fun b o xs e=>frzs b o xs (I.base.frzs b o xs e),fun b ps e=>?_⟩,?_,fun x c e=>?_,?_,fun x c e=>?_,fun p hp=>?_,hok,I.len⟩
 ·exact keep b o (neL b o e) hb (neC b o e hx) (I.base.keep b o e n hb hx) (I.base.free b o e n hx)
 ·obtain ⟨sl,e1⟩:=I.base.slot b o e n hb hx;obtain ⟨sl',e2⟩:=slot b _ (neL b o e) hb (neC b o e hx) e1 (I.base.free b o e n hx);exact ⟨sl',e2⟩
 ·obtain ⟨o',e1⟩:=I.base.there b o e hx;exact free b o' (neC b o e hx) e1 (I.base.free b o e n hx)
 ·obtain ⟨o',e1⟩:=I.base.there b o e hx;exact there b o' (neC b o e hx) e1
 ·obtain ⟨m1,e1⟩:=I.base.tbls b ps e;obtain ⟨m2,e2⟩:=tbls b _ e1;exact ⟨m1++m2,by rw[e2,Array.append_assoc]⟩
 ·obtain ⟨m,hn,hl⟩:=I.loc;refine ⟨m,ns m hn,fun i x v e1 e2 e3=>?_⟩;obtain ⟨u,r,l⟩:=hl i x v e1 e2 e3;refine ⟨u,r,?_⟩;rcases l with l |⟨k,c,e,z⟩
  ·exact .inl l
  ·exact .inr ⟨k,c,e,cellK x c e _ z⟩
 ·obtain ⟨v,z⟩:=I.cell x c e;exact ⟨v,cellK x c e v z⟩
 ·obtain ⟨m,⟨o,_,_,ho,_⟩,_⟩:=I.loc;exact free _ o (fun z=>(hch _ z).2.1 rfl) ho I.free
 ·obtain ⟨v,o,ho,hd⟩:=I.cell x c e;exact free c o (fun z=>(hch c z).2.2.1 x c e rfl) ho (I.freeC x c e)
 ·obtain ⟨e,n,ne,nf,d⟩:=I.pin p hp;have nch:p.1∉ch:=fun z=>(hch p.1 z).2.2.2 p hp rfl
  exact ⟨keep p.1 p.2 ne nf nch e n,free p.1 p.2 nch e n,ne,nf,d⟩
theorem Inv.un{t':Nat}(I:Inv X pins σ H s)(u:Un X.fs [] H H' s.heap h')(hok:HOk X.prog X.w H' h'):Inv X pins σ H' {s with heap:=h',toks:=t'}:=by
 obtain ⟨m,⟨o,es,ep,ho,r⟩,_⟩:=id I.loc;obtain ⟨sl,hL⟩:=u.any ho I.free (by simp);exact I.step (g':=s.gens) (d':=s.drawn) (ch:=[]) (fun _ z=>nomatch z) (fun b o _ hb _ e n=>u.keep b o e n hb (by simp)) (fun b o _ hb _ e n=>u.slot b o e n hb (by simp)) (fun b o _ e n=>u.free b o e n (by simp)) (fun b o _ e=>u.there b o e (by simp)) u.tups u.frzs u.tbls (fun m' hm=>by
  obtain ⟨o',es',ep',ho',r'⟩:=hm;rw[ho]at ho';cases ho';exact ⟨_,es',ep',hL,r'⟩) hok I.bare
theorem Inv.call{g':Array GenState}{t':Nat}{d':Drawn}{ch:List Addr}(I:Inv X pins σ H s)(u:Un (frs X.stack) ch H H' s.heap h')(hok:HOk X.prog X.w H' h')(hg:AllBare g')
 (hch:∀b∈ch,(b∈X.ex∨X.s₀.heap.objs.size≤b)∧b≠X.env.locals∧(∀x c,X.env.cells.lookup x=some c→c≠b)∧∀p∈X.pn++pins,p.1≠b):
 Inv X pins σ H' {s with heap:=h',gens:=g',drawn:=d',toks:=t'}:=by
 obtain ⟨m,⟨o,es,ep,ho,r⟩,_⟩:=id I.loc;obtain ⟨sl,hL⟩:=u.any ho I.free fun z=>(hch _ z).2.1 rfl
 exact I.step (ch:=ch) hch (fun b o hL hb hc e n=>u.keep b o e n (fun z=>(List.mem_cons.mp (I.stkSub b z)).elim hL hb) hc) (fun b o _ _ hc e n=>u.any e n hc) (fun b o hc e n=>u.free b o e n hc) (fun b o hc e=>u.there b o e hc) u.tups u.frzs u.tbls (fun m' hm=>by
  obtain ⟨o',es',ep',ho',r'⟩:=hm;rw[ho]at ho';cases ho';exact ⟨_,es',ep',hL,r'⟩) hok hg
theorem Inv.turned{t':Nat}{it:Addr}(I:Inv X pins σ H s)(k:∀b o,b≠it→s.heap.get? b=some o→h'.get? b=some o)(hn:H it=none)(hL:it≠X.env.locals)
 (h1:it∈X.ex∨X.s₀.heap.objs.size≤it) (h2:∀x c,X.env.cells.lookup x=some c→c≠it) (h3:∀p∈X.pn++pins,p.1≠it):Inv X pins σ H {s with heap:=h',toks:=t'}:=by
 have nit:∀b u,H b=some u→b≠it:=fun b u e z=>by rw[z,hn]at e;cases e
 refine I.step (g':=s.gens) (d':=s.drawn) (ch:=[it]) (fun b hb=>?_) (fun b o _ _ hc e _=>k b o (fun z=>hc (by simp[z])) e) (fun b o _ _ hc e _=>⟨o.slots,k b o (fun z=>hc (by simp[z])) e⟩) (fun _ _ _ _ n=>n)
  (fun b o hc e=>⟨o,k b o (fun z=>hc (by simp[z])) e⟩) (fun _ _ e=>e) (fun _ _ _ e=>e) (fun b ps e=>⟨#[],by rw[e];simp⟩) (fun m hm=>?_) (fun b u e=>?_) I.bare
 ·have e:b=it:=by simpa using hb
  subst e;exact ⟨h1,hL,h2,h3⟩
 ·obtain ⟨o,es,ep,ho,r⟩:=hm;exact ⟨o,es,ep,k _ o (Ne.symm hL) ho,r⟩
 ·refine (I.hok b u e).stay (fun c v hc q=>k c v ?_ q) (fun _ q=>q) fun _ _ q=>q
  rcases hc with z |z
  ·rw[z];exact nit b u e
  ·exact nit c _ z
theorem Inv.tok(I:Inv X pins σ H s)(t:Nat):Inv X pins σ H {s with toks:=t}:=I.un (h':=s.heap) (t':=t) Un.refl I.hok
theorem Inv.kept{t':Nat}(I:Inv X pins σ H s)(k:∀b u,s.heap.get? b=some u→h'.get? b=some u):Inv X pins σ H {s with heap:=h',toks:=t'}:=I.un (Un.kept k) (I.hok.kept k)
theorem Inv.laid{a:Addr}{o:HO}{t':Nat}(I:Inv X pins σ H s)(k:∀b u,s.heap.get? b=some u→h'.get? b=some u)(hp:s.heap.objs.size≤a)(new:ObjOk X.prog X.w (upd H a o) h' a o):
 Inv X pins σ (upd H a o) {s with heap:=h',toks:=t'}:=I.un (Un.laid k hp (I.hok.fresh hp)) (I.hok.laid k hp new)
theorem Inv.write{x e:Addr}{o:HO}{t':Nat}(I:Inv X pins σ H s)(mu:Mut (H x))(he:e=x∨H e=some (.own x))(k:∀b u,b≠e→s.heap.get? b=some u→h'.get? b=some u)(heo:∃u,h'.get? e=some u)
 (new:ObjOk X.prog X.w (upd H x o) h' x o):Inv X pins σ (upd H x o) {s with heap:=h',toks:=t'}:=I.un (Un.write mu he k heo) (I.hok.write mu he k heo new)
theorem Inv.weak{σ':List (Option V)}(I:Inv X pins σ H s)(hl:σ'.length=σ.length)(w:∀(i:Nat) v,σ'[i]?=some (some v)→σ[i]?=some (some v)):Inv X pins σ' H s:=
 ⟨I.ok,I.os,I.bare,I.base,let ⟨m,hn,hl'⟩:=I.loc;⟨m,hn,fun i x v e1 e2 e3=>hl' i x v e1 (w i v e2) e3⟩,I.cell,I.free,I.freeC,I.pin,I.hok,hl.trans I.len⟩
theorem Inv.pins_of{pins':List (Addr×Obj)}(I:Inv X pins σ H s)(h:∀p∈pins',s.heap.get? p.1=some p.2∧H p.1=none∧p.1≠X.env.locals∧p.1∉X.fs∧∀v,p.2.data≠.cell v):Inv X pins' σ H s:=
 ⟨I.ok,I.os,I.bare,I.base,I.loc,I.cell,I.free,I.freeC,fun p hp=>(List.mem_append.mp hp).elim (fun z=>I.pin p (List.mem_append_left _ z)) (h p),I.hok,I.len⟩
theorem s0i{N:List Str}(hN:N.Nodup){i j:Nat}{x:Str}(a:N[i]?=some x)(b:N[j]?=some x):i=j:=by
 obtain ⟨h1,e1⟩:=List.getElem?_eq_some_iff.mp a;obtain ⟨h2,e2⟩:=List.getElem?_eq_some_iff.mp b;exact (List.getElem_inj hN).mp (e1.trans e2.symm)
theorem r0e{M:Model}{A:Around}{E:Value→Shared→Prop}{i:Nat}{x:Str}{v:V}{u:Value}{Q:Unit→Shared→Prop}(I:Inv X pins σ H s)(hN:X.N.Nodup)(hi:X.N[i]?=some x)(hx:Loc X.env.scope x)(r:RelV v u)
 (h:∀s',Inv X pins (σ.set i (some v)) H s'→(∃a,Heap.SameBut a s.heap s'.heap∧(a=X.env.locals∨X.env.cells.lookup x=some a))→Q () s') (hf:X.fn x=true∨X.env.scope.names.lookup x=some .local:=by first |exact .inl rfl |exact .inr rfl |assumption):wpAny M A (storeName X.env x u) Q E s:=by
 obtain ⟨m,hn,hl⟩:=id I.loc;have hcls:(X.env.scope.kind== .class||(X.env.scope.kind== .module&&X.env.locals !=X.env.globals))=false:=by rw[I.ok.kind];rfl
 have hiσ:i<σ.length:=by rw[I.len];exact (List.getElem?_eq_some_iff.mp hi).1
 have cne:=I.cne;have tracked:∀{a:Addr} {h':Heap},(∃o,s.heap.get? a=some o∧H a=none)→Heap.SameBut a s.heap h'→HOk X.prog X.w H h':=fun {a h'} ha hs b ob e=>by
  obtain ⟨_,_,hfree⟩:=ha;refine (I.hok b ob e).stay (fun c w' hc q=>(hs.2 c ?_).trans q) (fun _ q=>q) fun _ _ q=>q
  rintro rfl;rcases hc with rfl |hc
  ·rw[hfree]at e;cases e
  ·rw[hfree]at hc;cases hc
 rcases hx with hk |hk
 ·refine wpAny_storeName_local hk hn (fun h' hn' hs=>?_) hcls;obtain ⟨oL,_,_,hoL,_⟩:=id hn;refine h _ ⟨I.ok,I.os,I.bare,⟨fun b o e n hb hx=>?_,fun b o e n hb hx=>?_,I.base.free,fun b o e hx=>?_,I.base.tups,I.base.frzs,I.base.tbls⟩,⟨_,hn',fun j y v' e1 e2 e3=>?_⟩,fun y c e=>?_,I.free,I.freeC,fun p hp=>?_,tracked ⟨oL,hoL,I.free⟩ hs,by simpa using I.len⟩ ⟨_,hs,.inl rfl⟩
  ·exact (hs.2 b (Nat.ne_of_lt (Nat.lt_of_lt_of_le (Heap.lt_size e) I.ok.above))).trans (I.base.keep b o e n hb hx)
  ·obtain ⟨sl,e1⟩:=I.base.slot b o e n hb hx;exact ⟨sl,(hs.2 b (Nat.ne_of_lt (Nat.lt_of_lt_of_le (Heap.lt_size e) I.ok.above))).trans e1⟩
  ·obtain ⟨o',e1⟩:=I.base.there b o e hx;exact ⟨o',(hs.2 b (Nat.ne_of_lt (Nat.lt_of_lt_of_le (Heap.lt_size e) I.ok.above))).trans e1⟩
  ·by_cases hj:j=i
   ·subst hj;rw[hi]at e1;cases e1;rw[List.getElem?_set_self hiσ]at e2;cases e2;exact ⟨u,r,.inl ⟨hk,by simp⟩⟩
   ·rw[List.getElem?_set_ne (Ne.symm hj)]at e2;obtain ⟨u',r',q⟩:=hl j y v' e1 e2 e3;refine ⟨u',r',?_⟩;rcases q with ⟨k,e⟩|⟨k,c,e,z⟩
    ·refine .inl ⟨k,?_⟩;have:y≠x:=fun e=>hj (s0i hN e1 (e▸hi))
     simp[this,e]
    ·exact .inr ⟨k,c,e,z.sameBut hs (cne y c e)⟩
  ·obtain ⟨w',z⟩:=I.cell y c e;exact ⟨w',z.sameBut hs (cne y c e)⟩
  ·obtain ⟨e,n,ne,nf,d⟩:=I.pin p hp;exact ⟨(hs.2 p.1 ne).trans e,n,ne,nf,d⟩
 ·have hfn:X.fn x=true:=by
   rcases hf with z |z
   ·exact z
   ·rw[z]at hk;cases hk
  obtain ⟨c,hc⟩:=I.ok.has x (.inl hk);obtain ⟨w',z⟩:=I.cell x c hc;refine wpAny_storeName_cell I.ok.kind hk hc z (fun h' hc' hs=>?_);obtain ⟨oc,hoc,hocd⟩:=id z;refine h {s with heap:=h'} ⟨I.ok,I.os,I.bare,⟨fun b o e n hb hx=>?_,fun b o e n hb hx=>?_,I.base.free,fun b o e hx=>?_,I.base.tups,I.base.frzs,I.base.tbls⟩,⟨m,hn.sameBut hs (Ne.symm (cne x c hc)),fun j y v' e1 e2 e3=>?_⟩,fun y c' e=>?_,I.free,I.freeC,fun p hp=>?_,tracked ⟨oc,hoc,I.freeC x c hc⟩ hs,by simpa using I.len⟩ ⟨c,hs,.inr hc⟩
  ·exact (hs.2 b (Nat.ne_of_lt (Nat.lt_of_lt_of_le (Heap.lt_size e) (I.ok.cab x c hfn hc)))).trans (I.base.keep b o e n hb hx)
  ·obtain ⟨sl,e1⟩:=I.base.slot b o e n hb hx;exact ⟨sl,(hs.2 b (Nat.ne_of_lt (Nat.lt_of_lt_of_le (Heap.lt_size e) (I.ok.cab x c hfn hc)))).trans e1⟩
  ·obtain ⟨o',e1⟩:=I.base.there b o e hx;exact ⟨o',(hs.2 b (Nat.ne_of_lt (Nat.lt_of_lt_of_le (Heap.lt_size e) (I.ok.cab x c hfn hc)))).trans e1⟩
  ·by_cases hj:j=i
   ·subst hj;rw[hi]at e1;cases e1;rw[List.getElem?_set_self hiσ]at e2;cases e2;exact ⟨u,r,.inr ⟨.inl hk,c,hc,hc'⟩⟩
   ·rw[List.getElem?_set_ne (Ne.symm hj)]at e2;obtain ⟨u',r',q⟩:=hl j y v' e1 e2 e3;refine ⟨u',r',?_⟩;rcases q with q |⟨k,c',e,z'⟩
    ·exact .inl q
    ·refine .inr ⟨k,c',e,z'.sameBut hs ?_⟩;rintro rfl;exact hj (s0i hN e1 (I.ok.inj _ _ _ e hc▸hi))
  ·by_cases hcc:c'=c
   ·subst hcc;exact ⟨_,hc'⟩
   ·obtain ⟨w2,z2⟩:=I.cell y c' e;exact ⟨w2,z2.sameBut hs hcc⟩
  ·obtain ⟨e,n,ne,nf,d⟩:=I.pin p hp;refine ⟨(hs.2 p.1 ?_).trans e,n,ne,nf,d⟩;intro q;rw[q,hoc]at e;have q':oc=p.2:=Option.some.inj e;exact d w' (by rw[←q'];exact hocd)
theorem v0g{M:Model}{A:Around}{E:Value→Shared→Prop}{i:Nat}{x:Str}{v:V}{u:Value}{Q:Unit→Shared→Prop}(I:Inv X pins σ H s)(hN:X.N.Nodup)(hi:X.N[i]?=some x)(hx:Loc X.env.scope x)(r:RelV v u)
 (h:∀s',Inv X pins (σ.set i (some v)) H s'→Q () s') (hf:X.fn x=true∨X.env.scope.names.lookup x=some .local:=by first |exact .inl rfl |exact .inr rfl |assumption):wpAny M A (storeName X.env x u) Q E s:=
 r0e I hN hi hx r (fun s' I' _=>h s' I') hf
theorem Inv.call'{s':Shared}{ch:List Addr}(I:Inv X pins σ H s)(ho:s'.os=s.os)(u:Un (frs X.stack) ch H H' s.heap s'.heap)(hok:HOk X.prog X.w H' s'.heap)(hg:AllBare s'.gens)
 (hch:∀b∈ch,(b∈X.ex∨X.s₀.heap.objs.size≤b)∧b≠X.env.locals∧(∀x c,X.env.cells.lookup x=some c→c≠b)∧∀p∈X.pn++pins,p.1≠b):Inv X pins σ H' s':=by
 obtain ⟨h',g',d',t',o'⟩:=s';have e:o'=s.os:=ho;subst e;exact I.call (g':=g') (t':=t') (d':=d') u hok hg hch
end
noncomputable abbrev XK:=Value→Option Addr→Hp→Prop
noncomputable abbrev St:=List (Option V)
noncomputable abbrev VK:=V→Hp→Prop
noncomputable abbrev TE:=St→Hp→VK→Prop
noncomputable abbrev TT:=St→Hp→(Bool→Hp→Prop)→Prop
noncomputable abbrev TA:=St→Hp→(List V→Hp→Prop)→Prop
structure Ends where
 nx:St→Hp→Prop
 rt:VK
 bk:St→Hp→Prop:=fun _ _=>False
 ct:St→Hp→Prop:=fun _ _=>False
noncomputable abbrev TS:=Ends→St→Hp→Prop
noncomputable def EP(X:Cx)(pins:List (Addr×Obj))(σ:St)(Q:VK)(u:Value)(s':Shared):Prop:=∃v H',Inv X pins σ H' s'∧RelV v u∧Q v H'
noncomputable def TP(X:Cx)(pins:List (Addr×Obj))(σ:St)(Q:Bool→Hp→Prop)(b:Bool)(s':Shared):Prop:=∃H',Inv X pins σ H' s'∧Q b H'
noncomputable def AP(X:Cx)(pins:List (Addr×Obj))(σ:St)(Q:List V→Hp→Prop)(us:List Value)(s':Shared):Prop:=∃vs H',Inv X pins σ H' s'∧Vals vs us∧Q vs H'
noncomputable def SP(X:Cx)(pins:List (Addr×Obj))(D:Ends)(f:Flow)(s':Shared):Prop:=
 match f with
 | .next=>∃ σ' H',Inv X pins σ' H' s'∧D.nx σ' H'
 | .brk=>∃ σ' H',Inv X pins σ' H' s'∧D.bk σ' H'
 | .cont=>∃ σ' H',Inv X pins σ' H' s'∧D.ct σ' H'
 | .ret u=>∃v σ' H',Inv X pins σ' H' s'∧RelV v u∧D.rt v H'
noncomputable def PE(X:Cx)(e:Expr)(t:TE):Prop:=
 ∀(pins:List (Addr×Obj)) (s:Shared) (σ:St) (H:Hp) (Q:VK),Inv X pins σ H s→t σ H Q→wpAny (model X.prog X.w) X.A (eval e X.env) (EP X pins σ Q) X.xe s
noncomputable def PT(X:Cx)(e:Expr)(t:TT):Prop:=
 ∀(pins:List (Addr×Obj)) (s:Shared) (σ:St) (H:Hp) (Q:Bool→Hp→Prop),Inv X pins σ H s→t σ H Q→wpAny (model X.prog X.w) X.A (isTrue e X.env (eval e X.env)) (TP X pins σ Q) X.xe s
noncomputable def PW(X:Cx)(e:Expr)(t:TT):Prop:=
 ∀(whole:Sem Value) (pins:List (Addr×Obj)) (s:Shared) (σ:St) (H:Hp) (Q:Bool→Hp→Prop),Inv X pins σ H s→t σ H Q→wpAny (model X.prog X.w) X.A (isTrue e X.env whole) (TP X pins σ Q) X.xe s
theorem PW.pt{X:Cx}{e:Expr}{t:TT}(h:PW X e t):PT X e t:=h _
noncomputable def PA(X:Cx)(es:List Expr)(t:TA):Prop:=
 ∀(pos:Pos) (pins:List (Addr×Obj)) (s:Shared) (σ:St) (H:Hp) (Q:List V→Hp→Prop),Inv X pins σ H s→t σ H Q→wpAny (model X.prog X.w) X.A (spliced (backTo pos (starEach es X.env))) (AP X pins σ Q) X.xe s
noncomputable def PS(X:Cx)(st:Stmt)(t:TS):Prop:=
 ∀(pins:List (Addr×Obj)) (s:Shared) (σ:St) (H:Hp) (D:Ends),Inv X pins σ H s→t D σ H→wpAny (model X.prog X.w) X.A (exec st X.env) (SP X pins D) X.xe s
noncomputable def PSs(X:Cx)(st:List Stmt)(t:TS):Prop:=
 ∀(pins:List (Addr×Obj)) (s:Shared) (σ:St) (H:Hp) (D:Ends),Inv X pins σ H s→t D σ H→wpAny (model X.prog X.w) X.A (execs st X.env) (SP X pins D) X.xe s
theorem thn{α:Type}{t:Sem α}{Q Q':α→Shared→Prop}{M:Model}{A:Around}{E:Value→Shared→Prop}{s:Shared}(h:wpAny M A t Q E s)(hQ:∀a s,Q a s→Q' a s):wpAny M A t Q' E s:=wpAny_mono h hQ fun _ _ x=>x
end L2
namespace L2
open PySem PySem.Spec PyProof.Rows
section
variable{X:Cx}
theorem bin{a b:Expr}{ta tb:TE}(ha:PE X a ta)(hb:PE X b tb){pins:List (Addr×Obj)}{s:Shared}{σ:St}{H:Hp}{R:V→V→Hp→Prop}(I:Inv X pins σ H s)(h:ta σ H fun x H1=>tb σ H1 fun y H2=>R x y H2)
 {α:Type} {Q:α→Shared→Prop} {f:Value→Value→Sem α}
 (hf:∀v u s2 x y H2,Inv X pins σ H2 s2→RelV x v→RelV y u→R x y H2→wpAny (model X.prog X.w) X.A (f v u) Q X.xe s2):
 wpAny (model X.prog X.w) X.A (eval a X.env) (fun v s₁=>wpAny (model X.prog X.w) X.A (eval b X.env) (fun u s₂=>wpAny (model X.prog X.w) X.A (f v u) Q X.xe s₂) X.xe s₁) X.xe s:=by
 refine thn (ha pins s σ H _ I h) fun v s1 ⟨x,H1,I1,r1,q1⟩=>?_
 refine thn (hb pins s1 σ H1 _ I1 q1) fun u s2 ⟨y,H2,I2,r2,q2⟩=>?_
 exact hf v u s2 x y H2 I2 r1 r2 q2
noncomputable def tVar(i:Nat):TE:=fun σ H Q=>∃v,σ[i]?=some (some v)∧Q v H
noncomputable def tC(v:V):TE:=fun _ H Q=>Q v H
theorem u0v{i:Nat}{x:Str}{pos:Pos}(hN:X.N[i]?=some x)(hv:Vis X.env.scope x)(hd:(x==("__debug__":Str))=false:=by decide)(hcd:(x==("__classdict__":Str))=false:=by decide):PE X (.Name x pos) (tVar i):=by
 intro pins s σ H Q I h;obtain ⟨v,e,h⟩:=h;obtain ⟨m,hn,hl⟩:=I.loc;obtain ⟨u,r,l⟩:=hl i x v hN e hv;have fin:EP X pins σ Q u s:=⟨v,H,I,r,h⟩;rcases l with ⟨hk,hm⟩|⟨hk,c,hc,hcell⟩
 ·exact wpAny_Name (wpAny_loadName_local I.ok.kind hk hn hm fin) hd
 ·rcases hk with hk |hk
  ·exact wpAny_Name (wpAny_loadName_cell I.ok.kind hk hc hcell fin) hd
  ·exact wpAny_Name (wpAny_loadName_free I.ok.kind hk hc hcell fin hcd) hd
theorem j0x{i j pos}:PE X (.Constant (.int i) j pos) (tC (.int i)):=fun _ _ _ H _ I h=>wpAny_Constant_int ⟨.int i,H,I.tok _,⟨_,rfl⟩,h⟩
theorem pe_bl{b j pos}:PE X (.Constant (.bool b) j pos) (tC (.bl b)):=fun _ _ _ H _ I h=>Constant_bool ⟨.bl b,H,I,rfl,h⟩
theorem pe_non{j pos}:PE X (.Constant .none j pos) (tC .non):=fun _ _ _ H _ I h=>Constant_none ⟨.non,H,I,rfl,h⟩
theorem pe_str{x j pos}:PE X (.Constant (.str x) j pos) (tC (.str x)):=fun _ _ _ H _ I h=>Calls.Constant_str ⟨.str x,H,I.tok _,⟨_,rfl⟩,h⟩
noncomputable def Gl(X:Cx)(x:Str):Prop:=X.env.kindOf x=some .globalImplicit
theorem w0x{E:Value→Shared→Prop}{pins:List (Addr×Obj)}{s:Shared}{σ:St}{H:Hp}{x:Str}{u:Value}{pos:Pos}{Q:Value→Shared→Prop}(I:Inv X pins σ H s)(hg:Gl X x)(hm:X.mg x=some u)(h:Q u s)
 (hd:(x==("__debug__":Str))=false:=by decide):wpAny (model X.prog X.w) X.A (eval (.Name x pos) X.env) Q E s:=
 Calls.Name_function_global I.ok.kind hg (Calls.loadGlobal_global (by rw[I.ok.glob];exact I.mod.glob.keeps I.bk) hm h) hd
theorem v0v{E:Value→Shared→Prop}{pins:List (Addr×Obj)}{s:Shared}{σ:St}{H:Hp}{x:Str}{u:Value}{pos:Pos}{Q:Value→Shared→Prop}(I:Inv X pins σ H s)(hg:Gl X x)(hm:X.mg x=none)(hv:bootBuiltins x=some u)(h:Q u s)
 (hn:x≠"__name__":=by decide) (hd:(x==("__debug__":Str))=false:=by decide):wpAny (model X.prog X.w) X.A (eval (.Name x pos) X.env) Q E s:=by
 obtain ⟨mb,h1,h2⟩:=I.mod.blt;exact Calls.Name_function_global I.ok.kind hg (Calls.loadGlobal_builtin (by rw[I.ok.glob];exact I.mod.glob.keeps I.bk) hm (by rw[I.ok.blt];exact h1.keeps I.bk) ((h2 x hn).trans hv) h) hd
theorem c0j{x:Str}{v:V}{u:Value}{pos:Pos}(hg:Gl X x)(hm:X.mg x=some u)(r:RelV v u)(hd:(x==("__debug__":Str))=false:=by decide):PE X (.Name x pos) (tC v):=
 fun _ _ _ H _ I h=>w0x I hg hm ⟨v,H,I,r,h⟩ hd
theorem c0i{x:Str}{v:V}{u:Value}{pos:Pos}(hg:Gl X x)(hm:X.mg x=none)(hv:bootBuiltins x=some u)(r:RelV v u)(hn:x≠"__name__":=by decide)(hd:(x==("__debug__":Str))=false:=by decide):PE X (.Name x pos) (tC v):=
 fun _ _ _ H _ I h=>v0v I hg hm hv ⟨v,H,I,r,h⟩ hn hd
variable{a b:Expr}{ta tb:TE}{pos:Pos}
noncomputable def PC(X:Cx)(op:CmpOp)(a b:Expr)(t:TE):Prop:=
 ∀(pins:List (Addr×Obj)) (s:Shared) (σ:St) (H:Hp) (Q:VK),Inv X pins σ H s→t σ H Q→
  wpAny (model X.prog X.w) X.A (eval a X.env) (fun v s₁=>wpAny (model X.prog X.w) X.A (eval b X.env) (fun u s₂=>wpAny (model X.prog X.w) X.A (compareOp op v u) (EP X pins σ Q) X.xe s₂) X.xe s₁) X.xe s
theorem g0a(b:Expr){op:CmpOp}(h:op≠.In)(h2:op≠.NotIn):behindInMarks op b=false:=by
 have e1:(op==CmpOp.In)=false:=by cases op<;>first |rfl |exact absurd rfl h
 have e2:(op==CmpOp.NotIn)=false:=by cases op<;>first |rfl |exact absurd rfl h2
 cases b<;>simp[behindInMarks,e1,e2]
noncomputable def tB(t:TE):TT:=fun σ H Q=>t σ H fun x H1=>∃c,x=.bl c∧Q c H1
theorem pt_cmp{op:CmpOp}{t:TE}(h:PC X op a b t)(h1:behindInMarks op b=false:=by first |exact g0a _ (by decide) (by decide)|rfl):PT X (.Compare a [op] [b] pos) (tB t):=by
 intro pins s σ H Q I hw;refine wpAny_isTrue_Compare1 (thn (h pins s σ H _ I hw) fun v s1 h1=>thn h1 fun u s2 h2=>thn h2 fun c s3 ⟨x,H1,I1,r1,q1⟩=>?_) h1;obtain ⟨d,rfl,q⟩:=q1;cases r1;exact wpAny_truthy_bool ⟨H1,I1,q⟩
theorem pt_val{e:Expr}{t:TE}(h:PE X e t)(he:∀whole,isTrue e X.env whole=(do let v←whole;standAt e.pos;holding [v] (truthy v)):=by intro _;rfl):PT X e (tB t):=by
 intro pins s σ H Q I hw;refine isTrue_plain (thn (h pins s σ H _ I hw) fun v s1 ⟨x,H1,I1,r1,q1⟩=>?_) (he _);obtain ⟨d,rfl,q⟩:=q1;cases r1;exact wpAny_truthy_bool ⟨H1,I1,q⟩
variable{tA tB':TT}{rest:List Expr}
noncomputable def tOr(t u:TT):TT:=fun σ H Q=>t σ H fun c H1=>if c=true then Q true H1 else u σ H1 Q
noncomputable def tNot(t:TT):TT:=fun σ H Q=>t σ H fun c H1=>Q (!c) H1
theorem pw_or1(ha:PT X a tA):PW X (.BoolOp .Or [a] pos) tA:=by
 intro wh pins s σ H Q I h;refine isTrue_or (thn (ha pins s σ H Q I h) fun c s1 e=>?_);cases c with
 |false=>exact isTrue_or_nil e
 |true=>exact e
theorem pw_or(ha:PT X a tA)(hb:PW X (.BoolOp .Or (b::rest) pos) tB'):PW X (.BoolOp .Or (a::b::rest) pos) (tOr tA tB'):=by
 intro wh pins s σ H Q I h;refine isTrue_or (thn (ha pins s σ H _ I h) fun c s1 ⟨H1,I1,q1⟩=>?_);cases c with
 |true=>exact ⟨H1,I1,q1⟩
 |false=>exact hb wh pins s1 σ H1 Q I1 q1
theorem pt_not(ha:PT X a tA):PT X (.UnaryOp .Not a pos) (tNot tA):=by
 intro pins s σ H Q I h;exact isTrue_not (ha pins s σ H (fun c H1=>Q (!c) H1) I h)
noncomputable def tAndV(ta tb:TE):TE:=fun σ H Q=>ta σ H fun x H1=>∃c,x=.bl c∧if c=true then tb σ H1 Q else Q (.bl false) H1
noncomputable def tNotV(ta:TE):TE:=fun σ H Q=>ta σ H fun x H1=>∃c,x=.bl c∧Q (.bl (!c)) H1
theorem pe_one{op}{t:TE}(h:PE X a t):PE X (.BoolOp op [a] pos) t:=fun pins s σ H Q I hw=>BoolOp_one (h pins s σ H Q I hw)
theorem pe_and(ha:PE X a ta)(hb:PE X (.BoolOp .And (b::rest) pos) tb):PE X (.BoolOp .And (a::b::rest) pos) (tAndV ta tb):=by
 intro pins s σ H Q I h;refine BoolOp_and (thn (ha pins s σ H _ I h) fun v s1 ⟨x,H1,I1,r1,q1⟩=>?_);obtain ⟨c,rfl,q1⟩:=q1;cases r1;refine wpAny_truthy_bool ?_;cases c with
 |true=>exact hb pins s1 σ H1 Q I1 q1
 |false=>exact ⟨.bl false,H1,I1,rfl,q1⟩
theorem pe_not(ha:PE X a ta):PE X (.UnaryOp .Not a pos) (tNotV ta):=by
 intro pins s σ H Q I h;refine UnaryOp_ (thn (ha pins s σ H _ I h) fun v s1 ⟨x,H1,I1,r1,q1⟩=>?_);obtain ⟨c,rfl,q1⟩:=q1;cases r1;exact not_of (wpAny_truthy_bool ⟨.bl (!c),H1,I1,rfl,q1⟩)
end
end L2
namespace L2
open PySem PySem.Spec PyProof.Rows
noncomputable def SqL(K:PySem.W.Frag)(H:Hp)(a:Addr)(xs:List V):Prop:=
 Rd H a (.lst xs)∨
  ∃(o:Obj) (its:Array Value) (n:Nat),K.lookup a=some o∧o.cls=.type "list"∧o.dict=none∧o.data=.seq its n∧its.size≤sizeLine∧Vals xs its.toList
noncomputable def SqT(K:PySem.W.Frag)(H:Hp)(a:Addr)(xs:List V):Prop:=
 Rd H a (.tup xs)∨
  ∃(o:Obj) (its:Array Value) (n:Nat),K.lookup a=some o∧o.cls=.type "tuple"∧o.data=.seq its n∧its.size≤sizeLine∧Vals xs its.toList
noncomputable def absV:Value→Option V
 | .none=>some .non
 | .bool b=>some (.bl b)
 | .int i _=>some (.int i)
 | .str x _=>some (.str x)
 | .bytes b _=>some (.byt b)
 | .float b _=>some (.flt b)
 | .ref a=>some (.ref a)
 | .type n=>some (.ty n)
 |_=>none
theorem RelV.abs{x:V}{u:Value}(r:RelV x u):absV u=some x:=by
 cases x with
 |non=>cases r;rfl
 |bl _=>cases r;rfl
 |int _=>obtain ⟨t,rfl⟩:=r;rfl
 |str _=>obtain ⟨t,rfl⟩:=r;rfl
 |byt _=>obtain ⟨t,rfl⟩:=r;rfl
 |flt _=>obtain ⟨t,rfl⟩:=r;rfl
 |ref _=>cases r;rfl
 |ty _=>cases r;rfl
theorem RelV.inj{x y:V}{u:Value}(r:RelV x u)(q:RelV y u):x=y:=Option.some.inj (r.abs.symm.trans q.abs)
theorem Vals.inj:∀{xs ys:List V} {us:List Value},Vals xs us→Vals ys us→xs=ys
 |_,_,_,.nil,.nil=>rfl
 |_,_,_,.cons r t,.cons r' t'=>by rw[r.inj r',Vals.inj t t']
section
variable{X:Cx}{pins:List (Addr×Obj)}{σ:St}{H:Hp}{s:Shared}{a:Addr}{xs ys:List V}
theorem SqL.of{K:PySem.W.Frag}(h:H a=some (.lst xs)):SqL K H a xs:=.inl (.inl h)
theorem SqT.of{K:PySem.W.Frag}(h:H a=some (.tup xs)):SqT K H a xs:=.inl (.inl h)
theorem Inv.list(I:Inv X pins σ H s)(h:SqL X.K H a xs):∃its:List Value,Vals xs its∧PlainL s.heap a its.toArray∧xs.length≤sizeLine:=by
 rcases h with h |⟨o,its,n,hk,hc,hd,hs,hz,r⟩
 ·obtain ⟨z,its,n,r,e⟩:=h.ok I.hok;exact ⟨its,r,⟨_,n,e,rfl,rfl,rfl⟩,z⟩
 ·refine ⟨its.toList,r,⟨o,n,I.kIn a o hk,hc,hd,by simpa using hs⟩,?_⟩;have e:=r.length;simp only[Array.length_toList]at e;omega
theorem Inv.tuple(I:Inv X pins σ H s)(h:SqT X.K H a xs):∃its:List Value,Vals xs its∧IsTup s.heap a its.toArray∧xs.length≤sizeLine:=by
 rcases h with h |⟨o,its,n,hk,hc,hs,hz,r⟩
 ·obtain ⟨z,its,r,p⟩:=h.ok I.hok;exact ⟨its,r,p.tup,z⟩
 ·refine ⟨its.toList,r,⟨o,I.kIn a o hk,hc,n,by simpa using hs⟩,?_⟩;have e:=r.length;simp only[Array.length_toList]at e;omega
theorem Inv.list_inj(I:Inv X pins σ H s)(h:SqL X.K H a xs)(h':SqL X.K H a ys):xs=ys:=by
 obtain ⟨its,r,⟨o,n,e,_,_,d⟩,_⟩:=I.list h;obtain ⟨its',r',⟨o',n',e',_,_,d'⟩,_⟩:=I.list h';rw[e]at e';cases e';rw[d]at d';injection d' with d1 _
 have:its=its':=by simpa using congrArg Array.toList d1
 subst this;exact r.inj r'
theorem Inv.tuple_inj(I:Inv X pins σ H s)(h:SqT X.K H a xs)(h':SqT X.K H a ys):xs=ys:=by
 obtain ⟨its,r,⟨o,e,_,n,d⟩,_⟩:=I.tuple h;obtain ⟨its',r',⟨o',e',_,n',d'⟩,_⟩:=I.tuple h';rw[e]at e';cases e';rw[d]at d';injection d' with d1 _
 have:its=its':=by simpa using congrArg Array.toList d1
 subst this;exact r.inj r'
end
noncomputable abbrev Cx.wish(X:Cx)(E:Value→Shared→Prop):Cx:={X with xe:=E}
noncomputable abbrev Cx.nox(X:Cx):Cx:=X.wish fun _ _=>False
theorem Cx.Ok.wish{X:Cx}(ok:X.Ok)(E:Value→Shared→Prop):(X.wish E).Ok:=
 ⟨ok.mod,ok.kind,ok.glob,ok.blt,ok.above,ok.inj,ok.has,ok.cab,ok.hd,ok.frames,ok.stk,ok.exf,ok.bs,ok.bsz,ok.noex,ok.exfs,ok.funs,ok.frf⟩
theorem Cx.Ok.unwish{X:Cx}{E:Value→Shared→Prop}(ok:(X.wish E).Ok):X.Ok:=
 ⟨ok.mod,ok.kind,ok.glob,ok.blt,ok.above,ok.inj,ok.has,ok.cab,ok.hd,ok.frames,ok.stk,ok.exf,ok.bs,ok.bsz,ok.noex,ok.exfs,ok.funs,ok.frf⟩
section
variable{X:Cx}{pins:List (Addr×Obj)}{σ:St}{H:Hp}{s:Shared}{E:Value→Shared→Prop}
theorem Inv.wish(I:Inv X pins σ H s)(E:Value→Shared→Prop):Inv (X.wish E) pins σ H s:=⟨I.ok.wish E,I.os,I.bare,I.base,I.loc,I.cell,I.free,I.freeC,I.pin,I.hok,I.len⟩
theorem Inv.unwish(I:Inv (X.wish E) pins σ H s):Inv X pins σ H s:=⟨I.ok.unwish,I.os,I.bare,I.base,I.loc,I.cell,I.free,I.freeC,I.pin,I.hok,I.len⟩
theorem SP.unwish{D:Ends}{f:Flow}{s':Shared}(h:SP (X.wish E) pins D f s'):SP X pins D f s':=by
 cases f with
 |next=>obtain ⟨σ',H',I,q⟩:=h;exact ⟨σ',H',I.unwish,q⟩
 |brk=>obtain ⟨σ',H',I,q⟩:=h;exact ⟨σ',H',I.unwish,q⟩
 |cont=>obtain ⟨σ',H',I,q⟩:=h;exact ⟨σ',H',I.unwish,q⟩
 |ret u=>obtain ⟨v,σ',H',I,r,q⟩:=h;exact ⟨v,σ',H',I.unwish,r,q⟩
theorem PSs.nox{st:List Stmt}{t:TS}(h:PSs X.nox st t):PSs X st t:=fun pins s σ H D I hw=>
 wpAny_mono (h pins s σ H D (I.wish _) hw) (fun _ _ q=>q.unwish) fun _ _ z=>False.elim z
end
section
variable{X:Cx}{st:Stmt}{rest:List Stmt}{t u:TS}{e:Expr}{te:TE}{pos:Pos}
noncomputable def tNext:TS:=fun D σ H=>D.nx σ H
noncomputable def tSeq(t u:TS):TS:=fun D σ H=>t {D with nx:=u D} σ H
theorem c0h:PSs X [] tNext:=fun _ _ σ H _ I h=>wpAny_execs_nil ⟨σ,H,I,h⟩
theorem f0z(h1:PS X st t)(h2:PSs X rest u):PSs X (st::rest) (tSeq t u):=by
 intro pins s σ H D I h;refine wpAny_execs_cons (thn (h1 pins s σ H {D with nx:=u D} I h) fun f s1 q=>?_);cases f with
 |next=>
  obtain ⟨σ',H',I',q⟩:=q;exact h2 pins s1 σ' H' D I' q
 |ret v=>exact q
 |brk=>exact q
 |cont=>exact q
theorem o0u(h1:PS X st t):PSs X [st] t:=by
 intro pins s σ H D I h;refine wpAny_execs_cons (thn (h1 pins s σ H D I h) fun f s1 q=>?_);cases f with
 |next=>exact wpAny_execs_nil q
 |ret v=>exact q
 |brk=>exact q
 |cont=>exact q
theorem Inv.quiet{pins:List (Addr×Obj)}{σ:St}{H:Hp}{s:Shared}(I:Inv X pins σ H s):interactive X.env=false:=by simp[interactive,I.ok.kind]
noncomputable def tDrop(te:TE):TS:=fun D σ H=>te σ H fun _ H1=>D.nx σ H1
theorem c0g(he:PE X e te)(hs:swapsWith e none pos.line X.env=pure false:=by rfl):PS X (.Expr e pos) (tDrop te):=by
 intro pins s σ H D I h;exact wpAny_Expr_any (thn (he pins s σ H _ I h) fun v s1 ⟨x,H1,I1,r1,q1⟩=>⟨σ,H1,I1,q1⟩) I.quiet hs
noncomputable def tRet(te:TE):TS:=fun D σ H=>te σ H D.rt
theorem d0p(he:PE X e te):PS X (.Return (some e) pos) (tRet te):=by
 intro pins s σ H D I h;exact wpAny_Return_some (thn (he pins s σ H _ I h) fun v s1 ⟨x,H1,I1,r1,q1⟩=>⟨x,σ,H1,I1,r1,q1⟩)
noncomputable def tIfS(c:TT)(t u:TS):TS:=fun D σ H=>c σ H fun b H1=>if b=true then t D σ H1 else u D σ H1
theorem ps_if{c:Expr}{a b:List Stmt}{tc:TT}(hc:PT X c tc)(ha:PSs X a t)(hb:PSs X b u):PS X (.If c a b pos) (tIfS tc t u):=by
 intro pins s σ H D I h;refine wpAny_If (thn (hc pins s σ H _ I h) fun d s1 ⟨H1,I1,q1⟩=>?_);cases d with
 |true=>exact ha pins s1 σ H1 D I1 q1
 |false=>exact hb pins s1 σ H1 D I1 q1
end
noncomputable abbrev TG:=V→St→Hp→(St→Hp→Prop)→Prop
noncomputable abbrev TGs:=List V→St→Hp→(St→Hp→Prop)→Prop
noncomputable def PG(X:Cx)(target:Expr)(t:TG):Prop:=
 ∀(pins:List (Addr×Obj)) (s:Shared) (σ:St) (H:Hp) (v:V) (u:Value) (Q:St→Hp→Prop),Inv X pins σ H s→RelV v u→t v σ H Q→
  wpAny (model X.prog X.w) X.A (assign target X.env u) (fun _ s'=>∃ σ' H',Inv X pins σ' H' s'∧Q σ' H') X.xe s
noncomputable def PGs(X:Cx)(ts:List Expr)(t:TGs):Prop:=
 ∀(pins:List (Addr×Obj)) (s:Shared) (σ:St) (H:Hp) (vs:List V) (us:List Value) (Q:St→Hp→Prop),Inv X pins σ H s→Vals vs us→t vs σ H Q→
  wpAny (model X.prog X.w) X.A (assignInOrder ((assignEach ts X.env).map (·.2)) us) (fun _ s'=>∃ σ' H',Inv X pins σ' H' s'∧Q σ' H') X.xe s
noncomputable abbrev TSet:=V→V→V→Hp→(Hp→Prop)→Prop
noncomputable def PSet(X:Cx)(t:TSet):Prop:=
 ∀(pins:List (Addr×Obj)) (s:Shared) (σ:St) (H:Hp) (o i v:V) (ov iv u:Value) (Q:Hp→Prop),Inv X pins σ H s→RelV o ov→RelV i iv→RelV v u→t o i v H Q→
  wpAny (model X.prog X.w) X.A (setItem ov iv u) (fun _ s'=>∃H',Inv X pins σ H' s'∧Q H') X.xe s
section
variable{X:Cx}{pos:Pos}
noncomputable def o0t(i:Nat):TG:=fun v σ H Q=>Q (σ.set i (some v)) H
theorem x3{i:Nat}{x:Str}(hN:X.N.Nodup)(hi:X.N[i]?=some x)(hx:Loc X.env.scope x)(hf:X.fn x=true∨X.env.scope.names.lookup x=some .local:=by first |exact .inl rfl |exact .inr rfl |assumption):PG X (.Name x pos) (o0t i):=by
 intro pins s σ H v u Q I r h;exact wpAny_assign_Name (v0g I hN hi hx r (fun s' I'=>⟨_,H,I',h⟩) hf)
noncomputable def gNil:TGs:=fun vs σ H Q=>vs=[]∧Q σ H
noncomputable def gCons(t:TG)(u:TGs):TGs:=fun vs σ H Q=>∃v r,vs=v::r∧t v σ H fun σ' H'=>u r σ' H' Q
theorem u9:PGs X [] gNil:=by
 intro pins s σ H vs us Q I r h;obtain ⟨e,h⟩:=h;subst e;cases r;exact assignInOrder_nil ⟨σ,H,I,h⟩
theorem n4{e:Expr}{es:List Expr}{t:TG}{u:TGs}(h1:PG X e t)(h2:PGs X es u)
 (hs:(assignEach (e::es) X.env).map (·.2)=assign e X.env::(assignEach es X.env).map (·.2):=by rfl):PGs X (e::es) (gCons t u):=by
 intro pins s σ H vs us Q I r h;obtain ⟨v,vr,e1,h⟩:=h;subst e1;cases r with
 |cons r rr=>
  rw[hs];refine assignInOrder_cons (thn (h1 pins s σ H _ _ _ I r h) fun _ s1 ⟨σ1,H1,I1,q1⟩=>?_);exact h2 pins s1 σ1 H1 _ _ Q I1 rr q1
noncomputable def gTup(K:PySem.W.Frag)(n:Nat)(t:TGs):TG:=fun v σ H Q=>∃a xs,v=.ref a∧SqT K H a xs∧xs.length=n∧t xs σ H Q
theorem x0n{es:List Expr}{k:Nat}{t:TGs}{n:Nat}(hc:X.calm=true)(h:PGs X es t)
 (hn:(assignEach es X.env).length=n:=by rfl) (hst:(assignEach es X.env).findIdx? (·.1)=none:=by rfl):PG X (.Tuple es k pos) (gTup X.K n t):=by
 intro pins s σ H v u Q I r hw;obtain ⟨a,xs,e1,hq,hl,hw⟩:=hw;subst e1;cases r;obtain ⟨its,rv,ht,hz⟩:=I.tuple hq;refine assign_Tuple_tuple (I.ok.hd hc) ht (by simp[hn,← hl,rv.length]) hst fun h' hx=>?_
 have I1:Inv X pins σ H {s with heap:=h'}:=I.kept (t':=s.toks) fun b o e=>hx b o (Nat.ne_of_lt (Heap.lt_size e)) e
 exact h pins _ σ H xs _ Q I1 (by simpa using rv) hw
noncomputable def gSub(to ti:TE)(t:TSet):TG:=fun v σ H Q=>to σ H fun o H1=>ti σ H1 fun i H2=>t o i v H2 fun H3=>Q σ H3
theorem pg_sub{o i:Expr}{to ti:TE}{t:TSet}(ho:PE X o to)(hi:PE X i ti)(hs:PSet X t)
 (ha:∀v,assign (.Subscript o i pos) X.env v=(do
  let ov←holding [v] (eval o X.env)
  let iv←holding [v,ov] (eval i X.env)
  standAt pos
  holding [v,ov,iv] (setItem ov iv v)
  release [v,ov,iv] []):=by intro _;rfl):PG X (.Subscript o i pos) (gSub to ti t):=by
 intro pins s σ H v u Q I r h;rw[ha];refine wpAny_bind (wpAny_holding (thn (ho pins s σ H _ I h) fun ov s1 ⟨x,H1,I1,r1,q1⟩=>?_));refine wpAny_bind (wpAny_holding (thn (hi pins s1 σ H1 _ I1 q1) fun iv s2 ⟨y,H2,I2,r2,q2⟩=>?_));refine wpAny_bind (wpAny_standAt (wpAny_bind (wpAny_holding (thn (hs pins s2 σ H2 x y v ov iv u _ I2 r1 r2 r q2) fun _ s3 ⟨H3,I3,q3⟩=>?_))));exact wpAny_release ⟨σ,H3,I3,q3⟩
noncomputable def tAsg(te:TE)(g:TG):TS:=fun D σ H=>te σ H fun x H1=>g x σ H1 D.nx
theorem d0o{tg e:Expr}{te:TE}{g:TG}(he:PE X e te)(hg:PG X tg g)(hs:swapsWithSole [tg] e pos.line X.env=pure false:=by rfl)(hw:swappedStores [tg] e X.env=pure none:=by rfl)
 (h1:(assignEach [tg] X.env).map (·.2)=[assign tg X.env]:=by rfl):PS X (.Assign [tg] e pos) (tAsg te g):=by
 intro pins s σ H D I h;refine wpAny_Assign_stores (thn (he pins s σ H _ I h) fun v s1 ⟨x,H1,I1,r1,q1⟩=>?_) hs hw;rw[h1];exact thn (hg pins s1 σ H1 x v _ I1 r1 q1) fun _ s2 q=>q
theorem r0d{i:Nat}{x:Str}{e:Expr}{te:TE}{pos':Pos}(hN:X.N.Nodup)(hi:X.N[i]?=some x)(hx:Loc X.env.scope x)(he:PE X e te)(hs:swapsWith e (some (.Name x pos')) pos.line X.env=pure false:=by rfl)(hf:X.fn x=true∨X.env.scope.names.lookup x=some .local:=by first |exact .inl rfl |exact .inr rfl |assumption):
 PS X (.Assign [.Name x pos'] e pos) (tAsg te (o0t i)):=by
 intro pins s σ H D I h;refine wpAny_Assign_Name (thn (he pins s σ H _ I h) fun v s1 ⟨y,H1,I1,r1,q1⟩=>?_) hs;exact v0g I1 hN hi hx r1 (fun s2 I2=>⟨_,H1,I2,q1⟩) hf
end
section
variable{X:Cx}{pos:Pos}
end
structure It where
 go:Nat→Hp→Prop
 yld:Nat→Hp→V→Hp→Prop
 stop:Nat→Hp→Prop
noncomputable def FpOk(X:Cx)(pins:List (Addr×Obj))(H:Hp)(b:Addr):Prop:=
 H b=none∧b≠X.env.locals∧b∉X.fs∧(b∈X.ex∨X.s₀.heap.objs.size≤b)∧(∀x c,X.env.cells.lookup x=some c→c≠b)∧∀p∈X.pn++pins,p.1≠b
theorem Inv.fpOk{X:Cx}{pins:List (Addr×Obj)}{σ:St}{H H':Hp}{s:Shared}{b:Addr}(I:Inv X pins σ H s)(hb:s.heap.objs.size≤b)(hn:H' b=none):FpOk X pins H' b:=by
 refine ⟨hn,Nat.ne_of_gt (Nat.lt_of_lt_of_le I.lt hb),I.nofs hb,.inr (Nat.le_trans I.sz hb),fun x c e z=>?_,fun p hp z=>?_⟩
 ·obtain ⟨v,q⟩:=I.cell x c e;exact absurd (Nat.lt_of_lt_of_le q.lt (by rw[z];exact hb)) (Nat.lt_irrefl _)
 ·exact absurd (Nat.lt_of_lt_of_le (Heap.lt_size (I.pin p hp).1) (by rw[z];exact hb)) (Nat.lt_irrefl _)
structure Turn(P:Program)(w:World)(K:PySem.W.Frag)(tg:Expr)(J:It)(fp:List Addr)(it:Addr)(tn:Nat→Heap→Prop):Prop where
 mem:it∈fp
 obj:∀i h,tn i h→∀b∈fp,∃o,h.get? b=some o∧∀v,o.data≠.cell v
 keep:∀i h h',tn i h→(∀b∈fp,∀o,h.get? b=some o→h'.get? b=some o)→tn i h'
 item:∀(X:Cx),X.prog=P→X.w=w→X.K=K→X.calm=true→∀(i:Nat) (pins:List (Addr×Obj)) (s:Shared) (σ:St) (H:Hp) (E:Value→Shared→Prop),Inv X pins σ H s→(∀b∈fp,FpOk X pins H b)→tn i s.heap→J.go i H→
  wpAny (model P w) X.A (pyNext (.ref it)) (fun r s1=>∃u,r=some u∧
   wpAny (model P w) X.A (letOwnedTupleGo tg (.ref it) u) (fun _ s2=>∃x H',Inv X pins σ H' s2∧RelV x u∧J.yld i H x H'∧tn (i+1) s2.heap∧∀b∈fp,H' b=none) E s1) E s
 done:∀(X:Cx),X.prog=P→X.w=w→X.K=K→X.calm=true→∀(i:Nat) (pins:List (Addr×Obj)) (s:Shared) (σ:St) (H:Hp) (E:Value→Shared→Prop),Inv X pins σ H s→(∀b∈fp,FpOk X pins H b)→tn i s.heap→J.stop i H→
  wpAny (model P w) X.A (pyNext (.ref it)) (fun r s1=>r=none∧Inv X pins σ H s1) E s
 self:∀(A:Around) (i:Nat) (s:Shared) (Q:Value→Shared→Prop) (E:Value→Shared→Prop),tn i s.heap→Q (.ref it) s→wpAny (model P w) A (pyIter (.ref it)) Q E s
noncomputable abbrev TI:=St→Hp→(It→Hp→Prop)→Prop
noncomputable def PIE(X:Cx)(pins:List (Addr×Obj))(σ:St)(tg:Expr)(R:It→Hp→Prop)(itv:Value)(s2:Shared):Prop:=
 ∃(it:Addr) (fp:List Addr) (tn:Nat→Heap→Prop) (J:It) (H':Hp),itv=.ref it∧Inv X pins σ H' s2∧Turn X.prog X.w X.K tg J fp it tn∧tn 0 s2.heap∧(∀b∈fp,FpOk X pins H' b)∧R J H'
noncomputable def PI(X:Cx)(tg iter:Expr)(wi:TI):Prop:=
 ∀(pins:List (Addr×Obj)) (s:Shared) (σ:St) (H:Hp) (R:It→Hp→Prop),Inv X pins σ H s→wi σ H R→
  wpAny (model X.prog X.w) X.A (eval iter X.env) (fun v s1=>wpAny (model X.prog X.w) X.A (pyIter v) (PIE X pins σ tg R) X.xe s1) X.xe s
theorem c0f{M:Model}{A:Around}{E:Value→Shared→Prop}{s:Shared}{tg:Expr}{it:Addr}{u:Value}{o:Obj}{n:String}{vs:Array Value}{Q:Unit→Shared→Prop}(ho:s.heap.get? it=some o)(hc:o.cls=.type n)(hd:o.data=.fields vs)
 (hn:["enumerate","zip","dict_itemiterator","dict_reverseitemiterator","odict_iterator","itertools.zip_longest","itertools.pairwise"].contains n=false) (hQ:Q () s):wpAny M A (letOwnedTupleGo tg (.ref it) u) Q E s:=by
 unfold letOwnedTupleGo;cases tg<;>first
  |exact wpAny_pure hQ
  |(cases u<;>first
     |exact wpAny_pure hQ
     |(refine wpAny_bind (wpAny_load ho ?_);rw[hc,hd];show wpAny M A (if (["enumerate","zip","dict_itemiterator","dict_reverseitemiterator","odict_iterator","itertools.zip_longest","itertools.pairwise"].contains n&&vs[0]? ==some (rawInt _))=true then _ else _) Q E s;rw[if_neg (by intro h;rw[hn,Bool.false_and]at h;cases h)];exact wpAny_pure hQ))
noncomputable def Itl(K:PySem.W.Frag)(a:Addr):It:=
 ⟨fun i H=>∃xs x,SqL K H a xs∧xs[i]?=some x,fun i H x H'=>H'=H∧∀xs,SqL K H a xs→xs[i]?=some x,fun i H=>∃xs,SqL K H a xs∧xs.length≤i⟩
noncomputable def Itt(K:PySem.W.Frag)(a:Addr):It:=
 ⟨fun i H=>∃xs x,SqT K H a xs∧xs[i]?=some x,fun i H x H'=>H'=H∧∀xs,SqT K H a xs→xs[i]?=some x,fun i H=>∃xs,SqT K H a xs∧xs.length≤i⟩
noncomputable def Itr(lo:Int)(n:Nat):It:=⟨fun i _=>i<n,fun i H x H'=>H'=H∧x=.int (lo+i),fun i _=>n≤i⟩
theorem j0w{P:Program}{w:World}{K:PySem.W.Frag}{tg:Expr}(a it:Addr):Turn P w K tg (Itl K a) [it] it (fun i h=>h.IsListIter it a i)where
 mem:=by simp
 obj:=fun i h st b hb=>by
  have e:b=it:=by simpa using hb
  subst e;obtain ⟨o,e,c,d⟩:=st;exact ⟨o,e,fun v z=>by rw[d]at z;cases z⟩
 keep:=fun i h h' st k=>st.at fun o e=>k it (by simp) o e
 item:=by
  intro X hP hw hK hc i pins s σ H E I hf st hg;subst hP hw hK;obtain ⟨xs,x,hq,hx⟩:=hg;obtain ⟨its,rv,p,hz⟩:=I.list hq;obtain ⟨u,hu,ru⟩:=rv.get hx;obtain ⟨f0,f1,f2,f3,f4,f5⟩:=hf it (by simp);refine wpAny_pyNext_list_item st p.isList (x:=u) (by simpa using hu) fun h' st' sb=>?_
  have I1:Inv X pins σ H {s with heap:=h'}:=I.turned (t':=s.toks) (fun b o hb e=>(sb.2 b hb).trans e) f0 f1 f3 f4 f5;obtain ⟨o,e,c,d⟩:=id st';exact ⟨u,rfl,c0f (s:={s with heap:=h'}) e c d (by decide) ⟨x,H,I1,ru,⟨rfl,fun ys hy=>by rw[I.list_inj hy hq];exact hx⟩,st',fun b hb=>(hf b hb).1⟩⟩
 done:=by
  intro X hP hw hK hc i pins s σ H E I hf st hg;subst hP hw hK;obtain ⟨xs,hq,hx⟩:=hg;obtain ⟨its,rv,p,hz⟩:=I.list hq;obtain ⟨f0,f1,f2,f3,f4,f5⟩:=hf it (by simp);have hl:=rv.length;exact wpAny_pyNext_list_end (I.ok.hd hc) st p.isList (by simp;omega) fun h' eb=>⟨rfl,I.turned (t':=s.toks) (fun b o hb e=>eb b o hb e) f0 f1 f3 f4 f5⟩
 self:=fun _ _ _ _ _ st h=>wpAny_pyIter_listiter st h
theorem l0a{P:Program}{w:World}{K:PySem.W.Frag}{tg:Expr}(a it:Addr):Turn P w K tg (Itt K a) [it] it (fun i h=>h.IsTupleIter it a i)where
 mem:=by simp
 obj:=fun i h st b hb=>by
  have e:b=it:=by simpa using hb
  subst e;obtain ⟨o,e,c,d⟩:=st;exact ⟨o,e,fun v z=>by rw[d]at z;cases z⟩
 keep:=fun i h h' st k=>st.at fun o e=>k it (by simp) o e
 item:=by
  intro X hP hw hK hc i pins s σ H E I hf st hg;subst hP hw hK;obtain ⟨xs,x,hq,hx⟩:=hg;obtain ⟨its,rv,p,hz⟩:=I.tuple hq;obtain ⟨u,hu,ru⟩:=rv.get hx;obtain ⟨f0,f1,f2,f3,f4,f5⟩:=hf it (by simp);refine wpAny_pyNext_tuple_item st (show s.heap.IsTuple a its.toArray from p) (x:=u) (by simpa using hu) fun h' st' sb=>?_
  have I1:Inv X pins σ H {s with heap:=h'}:=I.turned (t':=s.toks) (fun b o hb e=>(sb.2 b hb).trans e) f0 f1 f3 f4 f5;obtain ⟨o,e,c,d⟩:=id st';exact ⟨u,rfl,c0f (s:={s with heap:=h'}) e c d (by decide) ⟨x,H,I1,ru,⟨rfl,fun ys hy=>by rw[I.tuple_inj hy hq];exact hx⟩,st',fun b hb=>(hf b hb).1⟩⟩
 done:=by
  intro X hP hw hK hc i pins s σ H E I hf st hg;subst hP hw hK;obtain ⟨xs,hq,hx⟩:=hg;obtain ⟨its,rv,p,hz⟩:=I.tuple hq;obtain ⟨f0,f1,f2,f3,f4,f5⟩:=hf it (by simp);have hl:=rv.length;exact wpAny_pyNext_tuple_end (I.ok.hd hc) st (show s.heap.IsTuple a its.toArray from p) (by simp;omega) fun h' eb=>⟨rfl,I.turned (t':=s.toks) (fun b o hb e=>eb b o hb e) f0 f1 f3 f4 f5⟩
 self:=fun _ _ _ _ _ st h=>wpAny_pyIter_tupleiter st h
theorem k0z{P:Program}{w:World}{K:PySem.W.Frag}{tg:Expr}(it:Addr)(lo:Int)(n:Nat):Turn P w K tg (Itr lo n) [it] it (fun i h=>IsRangeIter h it (lo+(i:Nat)*1) ((n:Int)-(i:Nat)) 1)where
 mem:=by simp
 obj:=fun i h st b hb=>by
  have e:b=it:=by simpa using hb
  subst e;exact ⟨_,st,fun v z=>by
   have z':Data.fields _=Data.cell v:=z;cases z'⟩
 keep:=fun i h h' st k=>k it (by simp) _ st
 item:=by
  intro X hP hw hK hc i pins s σ H E I hf st hg;subst hP hw hK;obtain ⟨f0,f1,f2,f3,f4,f5⟩:=hf it (by simp);have W:=Walks.range (prog:=X.prog) (w:=X.w) (I.ok.hd hc) it lo 1 n;refine W.item i s _ _ hg st fun v h' tk hv st' kk=>?_
  obtain ⟨t,rfl⟩:=hv;have I1:Inv X pins σ H {s with heap:=h',toks:=tk}:=I.turned (fun b o hb e=>kk b o (by simpa using hb) e) f0 f1 f3 f4 f5;refine ⟨_,rfl,c0f (s:={s with heap:=h',toks:=tk}) (n:="range_iterator") st' rfl rfl (by decide) ⟨.int (lo+i),H,I1,⟨t,?_⟩,⟨rfl,rfl⟩,st',fun b hb=>(hf b hb).1⟩⟩;rw[Int.mul_one]
 done:=by
  intro X hP hw hK hc i pins s σ H E I hf st hg;subst hP hw hK;obtain ⟨f0,f1,f2,f3,f4,f5⟩:=hf it (by simp);exact wpAny_pyNext_range_end (I.ok.hd hc) st (by have:n≤i:=hg;omega) fun h' eb=>⟨rfl,I.turned (t':=s.toks) (fun b o hb e=>eb b o hb e) f0 f1 f3 f4 f5⟩
 self:=fun _ _ _ _ _ st h=>wpAny_pyIter_rangeiter st h
end L2
namespace L2
open PySem PySem.Spec PyProof.Rows
section
variable{X:Cx}{tg:Expr}
theorem m0z{pins:List (Addr×Obj)}{σ:St}{H:Hp}{s:Shared}{R:It→Hp→Prop}{E:Value→Shared→Prop}{lo hi:Int}{t u v:Tok}{tk:Nat}(I:Inv X pins σ H s)(h1:-(2^62)≤lo)(h2:lo<2^62)(h3:-(2^62)≤hi)(h4:hi<2^62)
 (q:R (Itr lo (hi-lo).toNat) H):wpAny (model X.prog X.w) X.A (pyIter (.ref s.heap.objs.size)) (PIE X pins σ tg R) E {s with heap:=s.heap.push {cls:=.type "range",data:=.fields #[.int lo t,.int hi u,.int 1 v]},toks:=tk}:=by
 refine wpAny_pyIter_range (IsRange.new ..) (small_one h1 h2 h3 h4) ?_;have I1:Inv X pins σ H {s with heap:=s.heap.push {cls:=.type "range",data:=.fields #[.int lo t,.int hi u,.int 1 v]},toks:=tk}:=I.kept fun b o e=>Heap.get?_push_of_some _ e
 refine ⟨(s.heap.push {cls:=.type "range",data:=.fields #[.int lo t,.int hi u,.int 1 v]}).objs.size,[(s.heap.push {cls:=.type "range",data:=.fields #[.int lo t,.int hi u,.int 1 v]}).objs.size],_,_,H,rfl,
  I1.kept (t':=tk) fun b o e=>Heap.get?_push_of_some _ e,k0z _ lo (hi-lo).toNat,?_,fun b hb=>?_,q⟩
 ·have e1:lo+((0:Nat):Int)*1=lo:=by simp
  have e2:(((hi-lo).toNat:Nat):Int)-((0:Nat):Int)=Builtin.Range.rangeSize lo hi 1:=by rw[rangeSize_one];split<;>omega
  show IsRangeIter _ _ (lo+((0:Nat):Int)*1) ((((hi-lo).toNat:Nat):Int)-((0:Nat):Int)) 1;rw[e1,e2];exact Heap.get?_push_size _ rfl
 ·have e:b=(s.heap.push {cls:=.type "range",data:=.fields #[.int lo t,.int hi u,.int 1 v]}).objs.size:=by simpa using hb
  subst e;exact I1.fpOk (Nat.le_refl _) (I1.hok.fresh (Nat.le_refl _))
noncomputable def iRng1(ta:TA):TI:=fun σ H R=>ta σ H fun vs H1=>∃j:Int,vs=[.int j]∧-(2^62)≤j∧j<2^62∧R (Itr 0 j.toNat) H1
noncomputable def iRng2(ta:TA):TI:=fun σ H R=>ta σ H fun vs H1=>∃i j:Int,vs=[.int i,.int j]∧(-(2^62)≤i∧i<2^62∧-(2^62)≤j∧j<2^62)∧R (Itr i (j-i).toNat) H1
theorem j0v{a:Expr}{ta:TA}{p pos:Pos}(hg:Gl X "range")(hm:X.mg "range"=none)(ha:PA X [a] ta)(hs:starEach [a] X.env=[(false,eval a X.env)]:=by rfl):PI X tg (.Call (.Name "range" p) [a] [] pos) (iRng1 ta):=by
 intro pins s σ H R I h;refine Call_ (v0v I hg hm boot_range (PyProof.Rows.callWith_type1 (thn (ha pos pins s σ H _ I h) fun us s1 ⟨vs,H1,I1,r1,q1⟩=>?_) hs rfl));obtain ⟨j,e,q1,q2,q⟩:=q1;subst e;cases r1 with
 |cons r rr=>
  cases rr;obtain ⟨t,rfl⟩:=r;exact call_range_1 (m0z I1 (by omega) (by omega) q1 q2 (by simpa using q))
theorem j0u{a b:Expr}{ta:TA}{p pos:Pos}(hg:Gl X "range")(hm:X.mg "range"=none)(ha:PA X [a,b] ta)(hs:starEach [a,b] X.env=[(false,eval a X.env),(false,eval b X.env)]:=by rfl)(hs2:starEach [b] X.env=[(false,eval b X.env)]:=by rfl):
 PI X tg (.Call (.Name "range" p) [a,b] [] pos) (iRng2 ta):=by
 intro pins s σ H R I h;refine Call_ (v0v I hg hm boot_range (PyProof.Rows.callWith_type1 (thn (ha pos pins s σ H _ I h) fun us s1 ⟨vs,H1,I1,r1,q1⟩=>?_) (by rw[hs,hs2]) (by rw[hs2];rfl)));obtain ⟨i,j,e,⟨q1,q2,q3,q4⟩,q⟩:=q1;subst e;cases r1 with
 |cons r rr=>
  cases rr with
  |cons r' rr=>
   cases rr;obtain ⟨t,rfl⟩:=r;obtain ⟨t',rfl⟩:=r';exact call_range_2 (m0z I1 q1 q2 q3 q4 q)
noncomputable def tFor(wi:TI)(g:TG)(tb:TS):TS:=fun D σ H=>wi σ H fun J H1=>∃W:Nat→Nat→St→Hp→Prop,(∃m,W 0 m σ H1)∧∀i m σ H,W i m σ H→
 (J.stop i H∧D.nx σ H)∨(J.go i H∧∃N:St→Hp→Prop,(∀ σ' H',N σ' H'→∃m',m'<m∧W (i+1) m' σ' H')∧∀x H',J.yld i H x H'→g x σ H' fun σ2 H2=>tb {D with nx:=N,ct:=N,bk:=D.nx} σ2 H2)
noncomputable def r0c(fp:List Addr)(h:Heap):List (Addr×Obj):=fp.filterMap fun b=>(h.get? b).map fun o=>(b,o)
theorem z0f{fp:List Addr}{h:Heap}{b:Addr}{o:Obj}(hb:b∈fp)(e:h.get? b=some o):(b,o)∈r0c fp h:=List.mem_filterMap.mpr ⟨b,hb,by rw[e];rfl⟩
theorem j0t{fp:List Addr}{h:Heap}{p:Addr×Obj}(hp:p∈r0c fp h):p.1∈fp∧h.get? p.1=some p.2:=by
 obtain ⟨b,hb,e⟩:=List.mem_filterMap.mp hp;cases q:h.get? b with
 |none=>rw[q]at e;cases e
 |some o=>
  rw[q]at e;have e':(b,o)=p:=Option.some.inj e;subst e';exact ⟨hb,q⟩
theorem Inv.pinned{pins:List (Addr×Obj)}{σ:St}{H:Hp}{s:Shared}{fp:List Addr}(I:Inv X pins σ H s)(hf:∀b∈fp,FpOk X pins H b)(ho:∀b∈fp,∃o,s.heap.get? b=some o∧∀v,o.data≠.cell v):Inv X (pins++r0c fp s.heap) σ H s:=
 I.pins_of fun p hp=>(List.mem_append.mp hp).elim (fun z=>I.pin p (List.mem_append_right _ z)) fun z=>by
  obtain ⟨hb,e⟩:=j0t z;obtain ⟨f0,f1,f2,_⟩:=hf p.1 hb;obtain ⟨o,e',d⟩:=ho p.1 hb;rw[e]at e';cases e';exact ⟨e,f0,f1,f2,d⟩
theorem Inv.unpinned{pins pl:List (Addr×Obj)}{σ:St}{H:Hp}{s:Shared}(I:Inv X (pins++pl) σ H s):Inv X pins σ H s:=I.pins_of fun p hp=>I.pin p (List.mem_append_right _ (List.mem_append_left _ hp))
theorem ps_for{iter:Expr}{body:List Stmt}{wi:TI}{g:TG}{tb:TS}{pos:Pos}(hp:PassesOwn (model X.prog X.w) X.A X.env X.xe)(hc:X.calm=true)(hi:PI X tg iter wi)(hg:PG X tg g)(hb:PSs X body tb)
 (hs:∀x,foldedSetIterable iter X.env x=pure x:=by intro _;rfl):PS X (.For tg iter body [] pos) (tFor wi g tb):=by
 intro pins s σ H D I h;refine wpAny_For (thn (hi pins s σ H _ I h) fun v s1 h1=>thn h1 fun itv s2 h2=>?_) hs;obtain ⟨it,fp,tn,J,H2,e,I2,T,st2,f2,W,⟨m0,w0⟩,turn⟩:=h2;subst e;have stat:∀{H':Hp},(∀b∈fp,H' b=none)→∀b∈fp,FpOk X pins H' b:=fun hn b hb=>⟨hn b hb,(f2 b hb).2⟩
 refine codeAny_forLoop_any (fun n s'=>∃i σ' H',Inv X pins σ' H' s'∧tn i s'.heap∧(∀b∈fp,H' b=none)∧W i n σ' H') ?_ m0 ⟨0,σ,H2,I2,st2,fun b hb=>(f2 b hb).1,w0⟩;rintro n s3 ⟨i,σ3,H3,I3,st3,fr3,w3⟩;rcases turn i n σ3 H3 w3 with ⟨stop,qn⟩|⟨go,N,hN,step⟩
 ·refine wpAny_passesOwn hp (thn (T.done X rfl rfl rfl hc i pins s3 σ3 H3 X.xe I3 (stat fr3) st3 stop) fun r s4 ⟨hr,I4⟩=>?_);subst hr;exact wpAny_execs_nil ⟨σ3,H3,I4,qn⟩
 ·refine wpAny_passesOwn hp (thn (T.item X rfl rfl rfl hc i pins s3 σ3 H3 X.xe I3 (stat fr3) st3 go) fun r s4 ⟨u,hr,h4⟩=>?_);subst hr;refine wpAny_passesOwn hp (thn h4 fun _ s5 ⟨x,H5,I5,r5,y5,st5,fr5⟩=>?_);have I5':=I5.pinned (stat fr5) (T.obj _ _ st5);refine wpAny_passesOwn hp (thn (hg _ s5 σ3 H5 x u _ I5' r5 (step x H5 y5)) fun _ s6 ⟨σ6,H6,I6,q6⟩=>?_);refine wpAny_passesOwn hp (thn (hb _ s6 σ6 H6 _ I6 q6) fun f s7 q7=>?_);have again:∀{σ7:St} {H7:Hp},Inv X (pins++r0c fp s5.heap) σ7 H7 s7→N σ7 H7→∃m,m<n∧∃i σ' H',Inv X pins σ' H' s7∧tn i s7.heap∧(∀b∈fp,H' b=none)∧W i m σ' H':=fun {σ7 H7} I7 n7=>by
   obtain ⟨m',hm,w7⟩:=hN σ7 H7 n7;refine ⟨m',hm,i+1,σ7,H7,I7.unpinned,T.keep _ _ _ st5 fun b hb o e=>(I7.pin (b,o) (List.mem_append_right _ (List.mem_append_right _ (z0f hb e)))).1,fun b hb=>?_,w7⟩;obtain ⟨o,e,d⟩:=T.obj _ _ st5 b hb;exact (I7.pin (b,o) (List.mem_append_right _ (List.mem_append_right _ (z0f hb e)))).2.1
  cases f with
  |next=>obtain ⟨σ7,H7,I7,n7⟩:=q7;exact again I7 n7
  |cont=>obtain ⟨σ7,H7,I7,n7⟩:=q7;exact again I7 n7
  |brk=>obtain ⟨σ7,H7,I7,q7⟩:=q7;exact ⟨σ7,H7,I7.unpinned,q7⟩
  |ret v=>obtain ⟨x7,σ7,H7,I7,r7,q7⟩:=q7;exact ⟨x7,σ7,H7,I7.unpinned,r7,q7⟩
end
end L2
namespace L2
open PySem PySem.Spec PyProof.Rows
noncomputable abbrev R2:=V→V→Hp→VK→Prop
noncomputable def OpR(X:Cx)(f:Value→Value→Sem Value)(r:R2):Prop:=
 ∀(pins:List (Addr×Obj)) (s:Shared) (σ:St) (H:Hp) (x y:V) (v u:Value) (Q:VK),Inv X pins σ H s→RelV x v→RelV y u→r x y H Q→
  wpAny (model X.prog X.w) X.A (f v u) (EP X pins σ Q) X.xe s
noncomputable def UnR(X:Cx)(f:Value→Sem Value)(r:V→Hp→VK→Prop):Prop:=
 ∀(pins:List (Addr×Obj)) (s:Shared) (σ:St) (H:Hp) (x:V) (v:Value) (Q:VK),Inv X pins σ H s→RelV x v→r x H Q→
  wpAny (model X.prog X.w) X.A (f v) (EP X pins σ Q) X.xe s
noncomputable def v0m(X:Cx)(f:Value)(r:List V→Hp→VK→Prop):Prop:=
 ∀(pins:List (Addr×Obj)) (s:Shared) (σ:St) (H:Hp) (xs:List V) (us:List Value) (Q:VK),Inv X pins σ H s→Vals xs us→r xs H Q→
  wpAny (model X.prog X.w) X.A (call f us) (EP X pins σ Q) X.xe s
noncomputable def tOp(r:R2)(ta tb:TE):TE:=fun σ H Q=>ta σ H fun x H1=>tb σ H1 fun y H2=>r x y H2 Q
noncomputable def tUn(r:V→Hp→VK→Prop)(ta:TE):TE:=fun σ H Q=>ta σ H fun x H1=>r x H1 Q
noncomputable def rI(C:Int→Int→Prop)(g:Int→Int→V):R2:=fun x y H Q=>∃i j,x=.int i∧y=.int j∧C i j∧Q (g i j) H
noncomputable def rI0(g:Int→Int→V):R2:=fun x y H Q=>∃i j,x=.int i∧y=.int j∧Q (g i j) H
noncomputable def rU(g:Int→V):V→Hp→VK→Prop:=fun x H Q=>∃i,x=.int i∧Q (g i) H
section
variable{X:Cx}{a b c:Expr}{ta tb tc:TE}{pos:Pos}
theorem binT(ha:PE X a ta)(hb:PE X b tb){pins:List (Addr×Obj)}{s:Shared}{σ:St}{H:Hp}{R:V→V→Hp→Prop}(I:Inv X pins σ H s)
 (h:ta σ H fun x H1=>tb σ H1 fun y H2=>R x y H2) {Q:Value→Shared→Prop} {f:Value→Value→Sem Value}
 (hf:∀v u s2 x y H2,Inv X pins σ H2 s2→RelV x v→RelV y u→R x y H2→wpAny (model X.prog X.w) X.A (f v u) Q X.xe s2):
 wpAny (model X.prog X.w) X.A (eval a X.env) (fun v s₁=>wpAny (model X.prog X.w) X.A (eval b X.env) (fun u s₂=>wpAny (model X.prog X.w) X.A (f v u) Q X.xe s₂) X.xe s₁) X.xe s:=by
 refine thn (ha pins s σ H _ I h) fun v s1 ⟨x,H1,I1,r1,q1⟩=>?_
 refine thn (hb pins s1 σ H1 _ I1 q1) fun u s2 ⟨y,H2,I2,r2,q2⟩=>?_
 exact hf v u s2 x y H2 I2 r1 r2 q2
theorem pe_op{op:Operator}{r:R2}(ho:OpR X (binaryOp op) r)(ha:PE X a ta)(hb:PE X b tb):PE X (.BinOp a op b pos) (tOp r ta tb):=by
 intro pins s σ H Q I h;exact wpAny_BinOp (binT ha hb I h fun v u s2 x y H2 I2 rx ry q=>ho pins s2 σ H2 x y v u Q I2 rx ry q)
theorem pe_un{op:UnaryOp}{r:V→Hp→VK→Prop}(ho:UnR X (unaryOp op) r)(ha:PE X a ta):PE X (.UnaryOp op a pos) (tUn r ta):=by
 intro pins s σ H Q I h;exact UnaryOp_ (thn (ha pins s σ H _ I h) fun v s1 ⟨x,H1,I1,r1,q1⟩=>ho pins s1 σ H1 x v Q I1 r1 q1)
theorem opI{f:Value→Value→Sem Value}{C:Int→Int→Prop}{g:Int→Int→Int}
 (rule:∀(i j:Int) (t u:Tok) (s:Shared) (Q:Value→Shared→Prop) (E:Value→Shared→Prop),C i j→Q (.int (g i j) s.toks) {s with toks:=s.toks+1}→wpAny (model X.prog X.w) X.A (f (.int i t) (.int j u)) Q E s):
 OpR X f (rI C fun i j=>.int (g i j)):=by
 intro pins s σ H x y v u Q I rx ry h;obtain ⟨i,j,rfl,rfl,hc,q⟩:=h;obtain ⟨t,rfl⟩:=rx;obtain ⟨t',rfl⟩:=ry;exact rule i j t t' s _ _ hc ⟨.int (g i j),H,I.tok _,⟨_,rfl⟩,q⟩
theorem opI0{f:Value→Value→Sem Value}{g:Int→Int→Int}
 (rule:∀(i j:Int) (t u:Tok) (s:Shared) (Q:Value→Shared→Prop) (E:Value→Shared→Prop),Q (.int (g i j) s.toks) {s with toks:=s.toks+1}→wpAny (model X.prog X.w) X.A (f (.int i t) (.int j u)) Q E s):
 OpR X f (rI0 fun i j=>.int (g i j)):=by
 intro pins s σ H x y v u Q I rx ry h;obtain ⟨i,j,rfl,rfl,q⟩:=h;obtain ⟨t,rfl⟩:=rx;obtain ⟨t',rfl⟩:=ry;exact rule i j t t' s _ _ ⟨.int (g i j),H,I.tok _,⟨_,rfl⟩,q⟩
theorem opB0{f:Value→Value→Sem Value}{g:Int→Int→Bool}
 (rule:∀(i j:Int) (t u:Tok) (s:Shared) (Q:Value→Shared→Prop) (E:Value→Shared→Prop),Q (.bool (g i j)) s→wpAny (model X.prog X.w) X.A (f (.int i t) (.int j u)) Q E s):
 OpR X f (rI0 fun i j=>.bl (g i j)):=by
 intro pins s σ H x y v u Q I rx ry h;obtain ⟨i,j,rfl,rfl,q⟩:=h;obtain ⟨t,rfl⟩:=rx;obtain ⟨t',rfl⟩:=ry;exact rule i j t t' s _ _ ⟨.bl (g i j),H,I,rfl,q⟩
noncomputable def CDiv(i j:Int):Prop:=0<j∧j<1073741824
noncomputable def CPow(i j:Int):Prop:=0≤j∧j≤1000000∧i.natAbs<2^64
noncomputable def CMul(i j:Int):Prop:=(-(2^64)<i∧i<2^64)∨(-(2^64)<j∧j<2^64)
theorem CMul.ok{i j:Int}(h:CMul i j):IntMulOk i j:=by
 rcases h with ⟨h1,h2⟩|⟨h1,h2⟩
 ·exact .of_left (intBits_le_64 h1 h2)
 ·exact .of_right (intBits_le_64 h1 h2)
theorem op_add:OpR X (binaryOp .Add) (rI0 fun i j=>.int (i+j)):=opI0 fun _ _ _ _ _ _ _ q=>add_int q
theorem t0b:OpR X (binaryOp .Sub) (rI0 fun i j=>.int (i-j)):=opI0 fun _ _ _ _ _ _ _ q=>sub_int q
theorem v0u:OpR X (binaryOp .Mult) (rI CMul fun i j=>.int (i*j)):=opI fun _ _ _ _ _ _ _ hc q=>mul_int q hc.ok
theorem j0s:OpR X (binaryOp .FloorDiv) (rI CDiv fun i j=>.int (i/j)):=opI fun i j _ _ _ _ _ hc q=>by
 have h1:(0:Int)<j:=hc.1;have h2:j<1073741824:=hc.2;exact floordiv_int (by omega) (by rw[Int.fdiv_eq_ediv_of_nonneg i (by omega)];exact q) (.inl (PyProof.noPylong_small (by omega)))
theorem t0a:OpR X (binaryOp .Mod) (rI (fun _ j=>0<j) fun i j=>.int (i%j)):=opI fun i j _ _ _ _ _ hc q=>by
 have h1:(0:Int)<j:=hc;exact mod_int' (by omega) (by rw[Int.fmod_eq_emod_of_nonneg i (by omega)];exact q)
theorem op_pow:OpR X (binaryOp .Pow) (rI CPow fun i j=>.int (i^j.toNat)):=opI fun _ _ _ _ _ _ _ hc q=>pow_int_small hc.1 hc.2.1 hc.2.2 q
theorem unI{f:Value→Sem Value}{g:Int→Int}
 (rule:∀(i:Int) (t:Tok) (s:Shared) (Q:Value→Shared→Prop) (E:Value→Shared→Prop),Q (.int (g i) s.toks) {s with toks:=s.toks+1}→wpAny (model X.prog X.w) X.A (f (.int i t)) Q E s):
 UnR X f (rU fun i=>.int (g i)):=by
 intro pins s σ H x v Q I rx h;obtain ⟨i,rfl,q⟩:=h;obtain ⟨t,rfl⟩:=rx;exact rule i t s _ _ ⟨.int (g i),H,I.tok _,⟨_,rfl⟩,q⟩
theorem un_neg:UnR X (unaryOp .USub) (rU fun i=>.int (-i)):=unI fun _ _ _ _ _ q=>neg_int q
end
noncomputable def scal:V→V→Bool
 | .non,.non=>true | .non,.int _=>true | .int _,.non=>true | .non,.bl _=>true | .bl _,.non=>true | .non,.str _=>true | .str _,.non=>true
 | .int _,.int _=>true | .bl _,.bl _=>true | .str _,.str _=>true | .byt _,.byt _=>true
 | .int _,.str _=>true | .str _,.int _=>true | .bl _,.str _=>true | .str _,.bl _=>true
 |_,_=>false
noncomputable def rEq:R2:=fun x y H Q=>scal x y=true∧Q (.bl (decide (x=y))) H
noncomputable def rNe:R2:=fun x y H Q=>scal x y=true∧Q (.bl (!decide (x=y))) H
theorem j0r{i j:Int}:decide (V.int i=V.int j)=(i==j):=by
 rw[Bool.eq_iff_iff];simp
theorem d0n{i j:Bool}:decide (V.bl i=V.bl j)=(i==j):=by
 rw[Bool.eq_iff_iff];simp
theorem j0q{i j:Str}:decide (V.str i=V.str j)=(i==j):=by
 rw[Bool.eq_iff_iff];simp
theorem j0p{i j:Array UInt8}:decide (V.byt i=V.byt j)=(i.toList==j.toList):=by
 rw[Bool.eq_iff_iff];cases i;cases j;simp
section
variable{X:Cx}{a b c:Expr}{ta tb tc:TE}{pos:Pos}
theorem p4{pins:List (Addr×Obj)}{σ:St}{H:Hp}{s:Shared}{Q:VK}{k k':Bool}(I:Inv X pins σ H s)(q:Q (.bl k) H)(e:k=k'):EP X pins σ Q (.bool k') s:=by
 subst e;exact ⟨.bl k,H,I,rfl,q⟩
theorem r0b:OpR X (compareOp .Eq) rEq:=by
 intro pins s σ H x y v u Q I rx ry h;obtain ⟨hs,q⟩:=h;cases x with
 |non=>
  cases rx;cases y with
  |non=>cases ry;exact PySem.EqNone.eq_none_none (p4 I q (by simp))
  |bl j=>cases ry;exact PySem.EqNone.eq_none_bool (p4 I q (by simp))
  |int j=>obtain ⟨t',rfl⟩:=ry;exact PySem.EqNone.eq_none_int (p4 I q (by simp))
  |str j=>obtain ⟨t',rfl⟩:=ry;exact PySem.EqNone.eq_none_str (p4 I q (by simp))
  |_=>exact absurd (show false=true from hs) Bool.false_ne_true
 |bl i=>
  cases rx;cases y with
  |non=>cases ry;exact PySem.EqNone.eq_bool_none (p4 I q (by simp))
  |bl j=>cases ry;exact eq_bool (p4 I q d0n)
  |str j=>obtain ⟨t',rfl⟩:=ry;exact PySem.EqMixed.eq_bool_str (p4 I q (by simp))
  |_=>exact absurd (show false=true from hs) Bool.false_ne_true
 |int i=>
  obtain ⟨t,rfl⟩:=rx;cases y with
  |non=>cases ry;exact PySem.EqNone.eq_int_none (p4 I q (by simp))
  |int j=>obtain ⟨t',rfl⟩:=ry;exact eq_int (p4 I q j0r)
  |str j=>obtain ⟨t',rfl⟩:=ry;exact PySem.EqMixed.eq_int_str (p4 I q (by simp))
  |_=>exact absurd (show false=true from hs) Bool.false_ne_true
 |str i=>
  obtain ⟨t,rfl⟩:=rx;cases y with
  |non=>cases ry;exact PySem.EqNone.eq_str_none (p4 I q (by simp))
  |bl j=>cases ry;exact PySem.EqMixed.eq_str_bool (p4 I q (by simp))
  |int j=>obtain ⟨t',rfl⟩:=ry;exact PySem.EqMixed.eq_str_int (p4 I q (by simp))
  |str j=>obtain ⟨t',rfl⟩:=ry;exact eq_str (p4 I q j0q)
  |_=>exact absurd (show false=true from hs) Bool.false_ne_true
 |byt i=>
  obtain ⟨t,rfl⟩:=rx;cases y with
  |byt j=>obtain ⟨t',rfl⟩:=ry;exact PySem.W.eq_bytes (p4 I q j0p)
  |_=>exact absurd (show false=true from hs) Bool.false_ne_true
 |_=>cases y<;>exact absurd (show false=true from hs) Bool.false_ne_true
theorem r0a:OpR X (compareOp .NotEq) rNe:=by
 intro pins s σ H x y v u Q I rx ry h;obtain ⟨hs,q⟩:=h;cases x with
 |non=>
  cases rx;cases y with
  |non=>cases ry;exact PySem.EqNone.ne_none_none (p4 I q (by simp))
  |bl j=>cases ry;exact PySem.EqNone.ne_none_bool (p4 I q (by simp))
  |int j=>obtain ⟨t',rfl⟩:=ry;exact PySem.EqNone.ne_none_int (p4 I q (by simp))
  |str j=>obtain ⟨t',rfl⟩:=ry;exact PySem.EqNone.ne_none_str (p4 I q (by simp))
  |_=>exact absurd (show false=true from hs) Bool.false_ne_true
 |bl i=>
  cases rx;cases y with
  |non=>cases ry;exact PySem.EqNone.ne_bool_none (p4 I q (by simp))
  |bl j=>cases ry;exact ne_bool (p4 I q (congrArg not d0n))
  |str j=>obtain ⟨t',rfl⟩:=ry;exact PySem.EqMixed.ne_bool_str (p4 I q (by simp))
  |_=>exact absurd (show false=true from hs) Bool.false_ne_true
 |int i=>
  obtain ⟨t,rfl⟩:=rx;cases y with
  |non=>cases ry;exact PySem.EqNone.ne_int_none (p4 I q (by simp))
  |int j=>obtain ⟨t',rfl⟩:=ry;exact ne_int (p4 I q (congrArg not j0r))
  |str j=>obtain ⟨t',rfl⟩:=ry;exact PySem.EqMixed.ne_int_str (p4 I q (by simp))
  |_=>exact absurd (show false=true from hs) Bool.false_ne_true
 |str i=>
  obtain ⟨t,rfl⟩:=rx;cases y with
  |non=>cases ry;exact PySem.EqNone.ne_str_none (p4 I q (by simp))
  |bl j=>cases ry;exact PySem.EqMixed.ne_str_bool (p4 I q (by simp))
  |int j=>obtain ⟨t',rfl⟩:=ry;exact PySem.EqMixed.ne_str_int (p4 I q (by simp))
  |str j=>obtain ⟨t',rfl⟩:=ry;exact ne_str (p4 I q (congrArg not j0q))
  |_=>exact absurd (show false=true from hs) Bool.false_ne_true
 |byt i=>
  obtain ⟨t,rfl⟩:=rx;cases y with
  |byt j=>obtain ⟨t',rfl⟩:=ry;exact PySem.W.ne_bytes (p4 I q (congrArg not j0p))
  |_=>exact absurd (show false=true from hs) Bool.false_ne_true
 |_=>cases y<;>exact absurd (show false=true from hs) Bool.false_ne_true
theorem op_lt:OpR X (compareOp .Lt) (rI0 fun i j=>.bl (decide (i<j))):=opB0 fun _ _ _ _ _ _ _ q=>lt_int q
theorem f0y:OpR X (compareOp .LtE) (rI0 fun i j=>.bl (decide (i≤j))):=opB0 fun _ _ _ _ _ _ _ q=>le_int q
theorem j0o:OpR X (compareOp .Gt) (rI0 fun i j=>.bl (decide (j<i))):=opB0 fun _ _ _ _ _ _ _ q=>gt_int q
theorem op_ge:OpR X (compareOp .GtE) (rI0 fun i j=>.bl (decide (j≤i))):=opB0 fun _ _ _ _ _ _ _ q=>ge_int q
theorem q0z:OpR X (compareOp .Is) (fun x y H Q=>y=.non∧Q (.bl (decide (x=.non))) H):=by
 intro pins s σ H x y v u Q I rx ry h;obtain ⟨rfl,q⟩:=h;cases ry;refine is_none_gen (p4 I q ?_);cases x<;>first
  |(cases rx;rfl)
  |(obtain ⟨t,rfl⟩:=rx;rfl)
theorem c0e:OpR X (compareOp .IsNot) (fun x y H Q=>y=.non∧Q (.bl (!decide (x=.non))) H):=by
 intro pins s σ H x y v u Q I rx ry h;obtain ⟨rfl,q⟩:=h;cases ry;refine isnot_none_gen (p4 I q ?_);cases x<;>first
  |(cases rx;rfl)
  |(obtain ⟨t,rfl⟩:=rx;rfl)
theorem n3(b:Expr){op:CmpOp}(h:op≠.In:=by decide)(h2:op≠.NotIn:=by decide):behindInMarks op b=false:=by
 have e1:(op==CmpOp.In)=false:=by cases op<;>first |rfl |exact absurd rfl h
 have e2:(op==CmpOp.NotIn)=false:=by cases op<;>first |rfl |exact absurd rfl h2
 cases b<;>simp[behindInMarks,e1,e2]
theorem c0d{op:CmpOp}{r:R2}(ho:OpR X (compareOp op) r)(ha:PE X a ta)(hb:PE X b tb)(hm:behindInMarks op b=false):PE X (.Compare a [op] [b] pos) (tOp r ta tb):=by
 intro pins s σ H Q I h;exact wpAny_Compare1 (binT ha hb I h fun v u s2 x y H2 I2 rx ry q=>ho pins s2 σ H2 x y v u Q I2 rx ry q) hm
noncomputable def tTest(t:TE):TT:=fun σ H Q=>t σ H fun x H'=>∃k,x=.bl k∧Q k H'
theorem c0c{op:CmpOp}{r:R2}(ho:OpR X (compareOp op) r)(ha:PE X a ta)(hb:PE X b tb)(hm:behindInMarks op b=false):PT X (.Compare a [op] [b] pos) (tTest (tOp r ta tb)):=by
 intro pins s σ H Q I h;refine wpAny_isTrue_Compare1 (thn (ha pins s σ H _ I h) fun v s1 ⟨x,H1,I1,r1,q1⟩=>thn (hb pins s1 σ H1 _ I1 q1) fun u s2 ⟨y,H2,I2,r2,q2⟩=>
  thn (ho pins s2 σ H2 x y v u _ I2 r1 r2 q2) fun c s3 ⟨z,H3,I3,r3,k,e,q3⟩=>?_) hm
 subst e;cases r3;exact wpAny_truthy_bool ⟨H3,I3,q3⟩
noncomputable def j0n(r r':R2)(ta tb tc:TE):TE:=fun σ H Q=>ta σ H fun x H1=>tb σ H1 fun y H2=>r x y H2 fun z H3=>∃k,z=.bl k∧
 (if k=true then tc σ H3 fun w' H4=>r' y w' H4 Q else Q (.bl false) H3)
theorem f0x{op op':CmpOp}{r r':R2}(ho:OpR X (compareOp op) r)(ho':OpR X (compareOp op') r')(ha:PE X a ta)(hb:PE X b tb)(hc:PE X c tc)
 (hm:lastMarks [op,op'] [b,c]=false:=by with_unfolding_all rfl):PE X (.Compare a [op,op'] [b,c] pos) (j0n r r' ta tb tc):=by
 intro pins s σ H Q I h;refine Compare_chain (thn (ha pins s σ H _ I h) fun v s1 ⟨x,H1,I1,r1,q1⟩=>chain_link (thn (hb pins s1 σ H1 _ I1 q1) fun u s2 ⟨y,H2,I2,r2,q2⟩=>
  thn (ho pins s2 σ H2 x y v u _ I2 r1 r2 q2) fun d s3 ⟨z,H3,I3,r3,k,e,q3⟩=>?_)) hm
 subst e;cases r3;refine wpAny_truthy_bool ?_;cases k with
 |false=>exact ite_ff ⟨.bl false,H3,I3,rfl,q3⟩
 |true=>exact ite_tt (chain_last (thn (hc pins s3 σ H3 _ I3 q3) fun w' s4 ⟨z',H4,I4,r4,q4⟩=>ho' pins s4 σ H4 y z' u w' Q I4 r2 r4 q4))
theorem f0w{op op':CmpOp}{r r':R2}(ho:OpR X (compareOp op) r)(ho':OpR X (compareOp op') r')(ha:PE X a ta)(hb:PE X b tb)(hc:PE X c tc)
 (hm:lastMarks [op,op'] [b,c]=false:=by with_unfolding_all rfl):PT X (.Compare a [op,op'] [b,c] pos) (tTest (j0n r r' ta tb tc)):=by
 intro pins s σ H Q I h;refine isTrue_chain (thn (ha pins s σ H _ I h) fun v s1 ⟨x,H1,I1,r1,q1⟩=>test_link (thn (hb pins s1 σ H1 _ I1 q1) fun u s2 ⟨y,H2,I2,r2,q2⟩=>
  thn (ho pins s2 σ H2 x y v u _ I2 r1 r2 q2) fun d s3 ⟨z,H3,I3,r3,k,e,q3⟩=>?_)) hm
 subst e;cases r3;refine wpAny_truthy_bool ?_;cases k with
 |false=>
  obtain ⟨k',e',q'⟩:=q3;cases e';exact ite_ff ⟨H3,I3,q'⟩
 |true=>
  refine ite_tt (test_last (thn (hc pins s3 σ H3 _ I3 q3) fun w' s4 ⟨z',H4,I4,r4,q4⟩=>thn (ho' pins s4 σ H4 y z' u w' _ I4 r2 r4 q4) fun d' s5 ⟨z2,H5,I5,r5,k2,e2,q5⟩=>?_));subst e2;cases r5;exact wpAny_truthy_bool ⟨H5,I5,q5⟩
theorem q0y:(sizeLine:Nat)<2^63:=by rw[sizeLine_eq];decide
theorem x5:OpR X (binaryOp .Add) (fun x y H Q=>∃i j,x=.str i∧y=.str j∧i.length+j.length≤sizeLine∧Q (.str (i++j)) H):=by
 intro pins s σ H x y v u Q I rx ry h;obtain ⟨i,j,rfl,rfl,hz,q⟩:=h;obtain ⟨t,rfl⟩:=rx;obtain ⟨t',rfl⟩:=ry;exact add_str (fun t' tk=>⟨.str (i++j),H,I.tok _,⟨_,rfl⟩,q⟩) hz
theorem o0s{x:V}{us:List Value}(r:Vals [x] us):∃u,us=[u]∧RelV x u:=by
 cases r with
 |cons r1 r2=>cases r2;exact ⟨_,rfl,r1⟩
theorem f0v:v0m X (.builtin "abs") (fun xs H Q=>∃i,xs=[.int i]∧Q (.int (if i<0 then -i else i)) H):=by
 intro pins s σ H xs us Q I r h;obtain ⟨i,rfl,q⟩:=h;obtain ⟨u,rfl,t,rfl⟩:=o0s r;exact call_abs_int fun u tk=>⟨.int (if i<0 then -i else i),H,I.tok _,⟨_,rfl⟩,q⟩
theorem j0m:v0m X (.type "int") (fun xs H Q=>(∃i,xs=[.int i]∧Q (.int i) H)∨∃k,xs=[.bl k]∧Q (.int (if k then 1 else 0)) H):=by
 intro pins s σ H xs us Q I r h;rcases h with ⟨i,rfl,q⟩|⟨k,rfl,q⟩
 ·obtain ⟨u,rfl,t,rfl⟩:=o0s r;exact call_int_int ⟨.int i,H,I,⟨_,rfl⟩,q⟩
 ·obtain ⟨u,rfl,r1⟩:=o0s r;cases r1;exact call_int_bool ⟨.int (if k then 1 else 0),H,I.tok _,⟨_,rfl⟩,q⟩
theorem a5:v0m X (.type "str") (fun xs H Q=>∃i,xs=[.int i]∧i.natAbs.log2<1920∧Q (.str (toString i)) H):=by
 intro pins s σ H xs us Q I r h;obtain ⟨i,rfl,hz,q⟩:=h;obtain ⟨u,rfl,t,rfl⟩:=o0s r;exact PySem.P.str_of_int hz ⟨.str _,H,I.tok _,⟨_,rfl⟩,q⟩
end
end L2
namespace L2
open PySem PySem.Spec PyProof.Rows
structure ObjM(h:Heap)(x dx C:Addr)(mA:Str→Option Value):Prop where
 obj:h.get? x=some (PySem.W.instObj C dx)
 ns:h.Ns1 dx mA
 ne:dx≠x
theorem u0u{h:Heap}{dx:Addr}{mA:Str→Option Value}(n:h.Ns1 dx mA):∃od,h.get? dx=some od∧∀name,PySem.W.lookIn name od=some (mA name):=by
 obtain ⟨o,es,ep,ho,hd,hk,_,hm⟩:=n;refine ⟨o,ho,fun name=>?_⟩;have e:=hm name;unfold nsFind findBy at e;rw[←Array.find?_toList]at e;unfold PySem.W.lookIn;rw[hd];dsimp only;split
 ·rename_i y q;rw[q]at e;exact congrArg some e
 ·rename_i q;rw[q]at e;have a:es.toList.any (·.refKey)=false:=by
   rw[List.any_eq_false];intro y hy;obtain ⟨z,t,hkey⟩:=hk y (Array.mem_toList_iff.mp hy);simp[DictEntry.refKey,hkey]
  have a':¬es.toList.any (·.refKey)=true:=by rw[a];exact Bool.false_ne_true
  rw[if_neg a'];exact congrArg some e
theorem ObjM.look{h:Heap}{x dx C:Addr}{mA:Str→Option Value}(I:ObjM h x dx C mA):∃od,PySem.W.InstAt h x (PySem.W.instObj C dx) C (some od)∧∀name,PySem.W.lookIn name od=some (mA name):=
 let ⟨od,ho,hl⟩:=u0u I.ns
 ⟨od,⟨I.obj,rfl,rfl,ho⟩,hl⟩
section
variable{prog:Program}{w:World}{A:Around}{E:Value→Shared→Prop}{s:Shared}{K:PySem.W.Frag}{x dx C f:Addr}{mA:Str→Option Value}{name:Str}{v:Value}
end
noncomputable def putF(f:Str)(v:V):List (Str×V)→List (Str×V)
 | []=>[(f,v)]
 |(g,x)::r=>if g=f then (g,v)::r else (g,x)::putF f v r
theorem u0t(f g:Str)(v:V):∀fs:List (Str×V),(putF f v fs).lookup g=if g=f then some v else fs.lookup g
 | []=>by
  show List.lookup g [(f,v)]=_;by_cases h:g=f
  ·have hb:(g==f)=true:=beq_iff_eq.mpr h;simp only[List.lookup,hb,if_pos h]
  ·have hb:(g==f)=false:=beq_eq_false_iff_ne.mpr h;simp only[List.lookup,hb,if_neg h]
 |(k,x)::r=>by
  have ih:=u0t f g v r;rw[show putF f v ((k,x)::r)=(if k=f then (k,v)::r else (k,x)::putF f v r)from rfl];by_cases hk:k=f
  ·rw[if_pos hk];by_cases h:g=k
   ·have hb:(g==k)=true:=beq_iff_eq.mpr h;simp only[List.lookup,hb,if_pos (h.trans hk)]
   ·have hb:(g==k)=false:=beq_eq_false_iff_ne.mpr h;simp only[List.lookup,hb,if_neg (fun e:g=f=>h (e.trans hk.symm))]
  ·rw[if_neg hk];by_cases h:g=k
   ·have hb:(g==k)=true:=beq_iff_eq.mpr h;simp only[List.lookup,hb,if_neg (fun e:g=f=>hk (h.symm.trans e))]
   ·have hb:(g==k)=false:=beq_eq_false_iff_ne.mpr h;simp only[List.lookup,hb];exact ih
theorem RelO.some_of{v:V}{o:Option Value}(r:RelO (some v) o):∃u,o=some u∧RelV v u:=by
 cases o with
 |none=>exact (show False from r).elim
 |some u=>exact ⟨u,rfl,r⟩
theorem j0l{v:V}{u:Value}(r:RelV v u):PySem.W.handedIn u=true:=by
 cases v with
 |non=>cases (show u=Value.none from r);rfl
 |bl b=>cases (show u=Value.bool b from r);rfl
 |int i=>obtain ⟨t,e⟩:=(show ∃t,u=Value.int i t from r);cases e;rfl
 |str x=>obtain ⟨t,e⟩:=(show ∃t,u=Value.str x t from r);cases e;rfl
 |byt b=>obtain ⟨t,e⟩:=(show ∃t,u=Value.bytes b t from r);cases e;rfl
 |flt b=>obtain ⟨t,e⟩:=(show ∃t,u=Value.float b t from r);cases e;rfl
 |ref a=>cases (show u=Value.ref a from r);rfl
 |ty n=>cases (show u=Value.type n from r);rfl
section
variable{P:Program}{w:World}{H H':Hp}{h h':Heap}{a C dx:Addr}{fs fs':List (Str×V)}
theorem c0b(hok:HOk P w H h)(e:H a=some (.ins C dx fs)):∃mA,ObjM h a dx C mA∧(∀f,RelO (fs.lookup f) (mA f))∧PySem.Within mA (fs.map (·.1))∧fs.length≤1000∧H dx=some (.own a):=by
 obtain ⟨d,z,ne,ob,mA,n,r,q⟩:=(show ObjOk P w H h a (.ins C dx fs)from hok a _ e);exact ⟨mA,⟨ob,n,ne⟩,r,q,z,d⟩
end
structure Cls(K:PySem.W.Frag)(C:Addr):Prop where
 pg:PySem.W.plainGet K C Str.empty=true
 hd:PySem.W.hasDictIn K C=true
 po:PySem.W.plainOver K C=true
 sa:PySem.W.findIn K (.ref C) "__setattr__"=some (some (.builtin "object.__setattr__"))
theorem Cls.get{K:PySem.W.Frag}{C:Addr}(c:Cls K C)(f:Str):PySem.W.plainGet K C f=true:=c.pg
noncomputable def NoAttr(K:PySem.W.Frag)(C:Addr)(f:Str):Prop:=PySem.W.findIn K (.ref C) f=some none
theorem NoAttr.taker{K:PySem.W.Frag}{C:Addr}{f:Str}(n:NoAttr K C f):PySem.W.takerIn K C f=some none:=by
 unfold PySem.W.takerIn;rw[show PySem.W.findIn K (.ref C) f=some none from n];rfl
structure Con(K:PySem.W.Frag)(C:Addr)(f:Str)(v:V)(u:Value):Prop where
 at_:PySem.W.findIn K (.ref C) f=some (some u)
 rel:RelV v u
 get:PySem.W.specialIn K u "__get__"=some none
 cp:PySem.W.copiedNames.contains f=false
structure Meth(K:PySem.W.Frag)(C:Addr)(m:Str)(f:Addr):Prop where
 at_:PySem.W.findIn K (.ref C) m=some (some (.ref f))
 fn:PySem.W.isFn K (.ref f)=true
 kp:PySem.W.keepIn K (.ref f)=true
section
variable{X:Cx}{pins:List (Addr×Obj)}{σ:St}{H:Hp}{s:Shared}{a C dx:Addr}{fs:List (Str×V)}{f:Str}{v:V}{A:Around}{E:Value→Shared→Prop}
theorem c0a{prog:Program}{w:World}{env:Env}{e:Expr}{f:Str}{pos:Pos}{s:Shared}{Q:Value→Shared→Prop}(hb:attributeBase e f env (eval e env)=eval e env)
 (h:wpAny (model prog w) A (eval e env) (fun o s₁=>wpAny (model prog w) A (getAttr o f true) Q E s₁) E s):wpAny (model prog w) A (eval (.Attribute e f pos) env) Q E s:=
 Attribute_any_ h (by rw[arm_eval_Attribute,hb])
end
section
variable{X:Cx}{o e value:Expr}{f:Str}{pos pos' tpos:Pos}{ta tv:TE}
end
section
variable{X:Cx}{pins:List (Addr×Obj)}{σ:St}{H:Hp}{s:Shared}{A:Around}{E:Value→Shared→Prop}{Q:Value→Shared→Prop}{c:Value}{b:Bool}
inductive TyOf(K:PySem.W.Frag)(H:Hp):V→Value→Prop where
 |non:TyOf K H .non (.type "NoneType")
 |bl (x:Bool):TyOf K H (.bl x) (.type "bool")
 |int (i:Int):TyOf K H (.int i) (.type "int")
 |str (x:Str):TyOf K H (.str x) (.type "str")
 |flt (x:UInt64):TyOf K H (.flt x) (.type "float")
 |lst {a:Addr} {xs:List V} (e:H a=some (.lst xs)):TyOf K H (.ref a) (.type "list")
 |frz {a:Addr} {o:Obj} {xs:List V} (e:H a=some (.frz o (.lst xs))):TyOf K H (.ref a) (.type "list")
 |tup {a:Addr} {xs:List V} (e:H a=some (.tup xs)):TyOf K H (.ref a) (.type "tuple")
 |dK {a:Addr} {kvs:List (Key×V)} (e:H a=some (.dK kvs)):TyOf K H (.ref a) (.type "dict")
 |dT {a:Addr} {kvs:List (List Key×V)} (e:H a=some (.dT kvs)):TyOf K H (.ref a) (.type "dict")
 |ins {a C dx:Addr} {fs:List (Str×V)} (e:H a=some (.ins C dx fs)) (cl:Cls K C) (ha:PySem.W.findIn K (.ref C) "__class__"=some (some (.builtin "object.__class__")))
  (hn:PySem.W.specialIn K (.builtin "object.__class__") "__get__"=some (some (.builtin "getset_descriptor.__get__"))) (htk:PySem.W.takesIn K (.builtin "object.__class__")=some true)
  (hm:PySem.W.mroIn K C (.type "object")=some true):TyOf K H (.ref a) (.ref C)
end
end L2
namespace L2
open PySem PySem.Spec PyProof.Rows
structure Room(k:Nat)(A:Around):Prop where
 hd:A.handled=none
 dp:A.depth+3*k+5<recursionLimit
 un:A.units+16*k+200<cLine
theorem Room.mono{j k:Nat}{A:Around}(r:Room k A)(h:j≤k):Room j A:=⟨r.hd,by have:=r.dp;omega,by have:=r.un;omega⟩
theorem Room.deeper{k:Nat}{A:Around}(r:Room (k+1) A)(env:Env):Room k (A.deeper env):=
 ⟨r.hd,by have:=r.dp;show A.depth+1+3*k+5<_;omega,by have:=r.un;show A.units+3+16*k+200<_;omega⟩
theorem k0y{A:Around}{C:Addr}{us:List Value}{kw:List (Str×Value)}:(A.under (.builtin "type.__call__" ⟨.ref C::us,kw⟩)).depth=A.depth+1:=by
 first |rfl |simp[Around.under,Code.weight,Code.isCreation,Code.isGuard,Code.isCaller,Code.frames,Code.isFrame,guardIds]
theorem k0x{A:Around}{C:Addr}{us:List Value}{kw:List (Str×Value)}:(A.under (.builtin "type.__call__" ⟨.ref C::us,kw⟩)).units=A.units+1:=by
 first |rfl |simp[Around.under,Code.cUnits,Code.frames,Code.isFrame]
theorem Room.make{k:Nat}{A:Around}(r:Room (k+1) A)(C:Addr)(us:List Value)(kw:List (Str×Value)):Room k (A.under (.builtin "type.__call__" ⟨.ref C::us,kw⟩)):=
 ⟨r.hd,by have:=r.dp;rw[k0y];omega,by have:=r.un;rw[k0x];omega⟩
theorem Room.depth{k:Nat}{A:Around}(r:Room k A):A.depth<recursionLimit:=by have:=r.dp;omega
theorem Room.units0{k:Nat}{A:Around}(r:Room k A):A.units<cLine:=by have:=r.un;omega
noncomputable def tNil:TA:=fun _ H Q=>Q [] H
noncomputable def tCons(ta:TE)(tr:TA):TA:=fun σ H Q=>ta σ H fun x H1=>tr σ H1 fun xs H2=>Q (x::xs) H2
section
variable{X:Cx}{e:Expr}{es:List Expr}{te:TE}{t:TA}{pos:Pos}
theorem d0m:PA X [] tNil:=fun _ _ _ _ H Q I h=>Calls.spliced_nil ⟨[],H,I,.nil,h⟩
theorem j0k(ha:PE X e te)(hr:PA X es t)(hs:starEach (e::es) X.env=(false,eval e X.env)::starEach es X.env:=by rfl):PA X (e::es) (tCons te t):=by
 intro pos pins s σ H Q I h;rw[hs];show wpAny _ _ (spliced ((false,eval e X.env)::backTo pos (starEach es X.env))) _ _ s;refine Calls.spliced_cons (thn (ha pins s σ H _ I h) fun u s1 ⟨x,H1,I1,r1,q1⟩=>?_);exact thn (hr pos pins s1 σ H1 _ I1 q1) fun us s2 ⟨xs,H2,I2,r2,q2⟩=>⟨x::xs,H2,I2,.cons r1 r2,q2⟩
noncomputable def tTup(t:TA):TE:=fun σ H Q=>t σ H fun xs H1=>xs.length≤sizeLine∧∀p,H1 p=none→Q (.ref p) (upd H1 p (.tup xs))
noncomputable def tLst(t:TA):TE:=fun σ H Q=>t σ H fun xs H1=>xs.length≤sizeLine∧∀p,H1 p=none→Q (.ref p) (upd H1 p (.lst xs))
theorem pe_tup{x1}(h:PA X es t):PE X (.Tuple es x1 pos) (tTup t):=by
 intro pins s σ H Q I hq;refine wpAny_Tuple_spliced (thn (h pos pins s σ H _ I hq) fun us s1 ⟨xs,H1,I1,r,z,q⟩=>⟨by rw[←r.length];exact z,?_⟩);have hf:H1 s1.heap.objs.size=none:=I1.hok.fresh (Nat.le_refl _);refine ⟨.ref s1.heap.objs.size,upd H1 s1.heap.objs.size (.tup xs),I1.laid (t':=s1.toks) (fun b u e=>Heap.get?_push_of_some _ e) (Nat.le_refl _) ?_,rfl,q _ hf⟩;exact ⟨z,us,r,⟨_,Heap.get?_push_size _ rfl,rfl,⟨_,rfl⟩,rfl⟩⟩
theorem j0j(h:PA X es t):PE X (.List es pos) (tLst t):=by
 intro pins s σ H Q I hq;refine wpAny_List_spliced (thn (h pos pins s σ H _ I hq) fun us s1 ⟨xs,H1,I1,r,z,q⟩=>⟨by rw[←r.length];exact z,?_⟩);have hf:H1 s1.heap.objs.size=none:=I1.hok.fresh (Nat.le_refl _);refine ⟨.ref s1.heap.objs.size,upd H1 s1.heap.objs.size (.lst xs),I1.laid (t':=s1.toks) (fun b u e=>Heap.get?_push_of_some _ e) (Nat.le_refl _) ?_,rfl,q _ hf⟩;exact ⟨z,us,0,r,Heap.get?_push_size _ rfl⟩
end
noncomputable abbrev Sp:=List V→Hp→VK→XK→Prop
noncomputable abbrev CXT:=List Env→Hp→Shared→XK→Value→Shared→Prop
structure Env0(P:Program)(w:World)(K:PySem.W.Frag)(mg:Str→Option Value)(base:Heap)(A:Around)(outer:List Env)(s:Shared)(H:Hp):Prop where
 frames:A.frames=some outer
 mod:Mod K mg base
 bs:∀b o,base.get? b=some o→s.heap.get? b=some o∧H b=none
 bsz:base.objs.size≤s.heap.objs.size
 funs:s.heap.FunFrames base outer
 frf:∀b∈frs outer,H b=none
 hok:HOk P w H s.heap
 bare:AllBare s.gens
noncomputable def CE(outer:List Env)(P:Program)(w:World)(H:Hp)(s:Shared)(Q:VK)(u:Value)(s':Shared):Prop:=
 ∃v H',s'.os=s.os∧AllBare s'.gens∧Un (frs outer) [] H H' s.heap s'.heap∧HOk P w H' s'.heap∧RelV v u∧Q v H'
noncomputable def CR(CX:CXT)(outer:List Env)(P:Program)(w:World)(H:Hp)(s:Shared)(Q:VK)(E:XK)(r:Result)(s':Shared):Prop:=
 match r with
 | .ok (.ret u)=>CE outer P w H s Q u s'
 | .ok _=>False
 | .error e=>CX outer H s E e s'
structure FnOk(P:Program)(w:World)(K:PySem.W.Frag)(mg:Str→Option Value)(base:Heap)(CX:CXT)(k:Nat)(f:Addr)(fd:FuncData)(ps:List Str)(sp:Sp):Prop where
 len:∀vs H Q E,sp vs H Q E→vs.length=ps.length
 run:∀(A:Around) (outer:List Env) (s:Shared) (H:Hp) (args:Args) (us:List Value) (vs:List V) (Q:VK) (E:XK),Room k A→Env0 P w K mg base A outer s H→BindsTo s fd args (ps.zip us)→Vals vs us→sp vs H Q E→
  codeAny (model P w) A (.call (.ref f) args) (CR CX outer P w H s Q E) s
theorem Env0.make{P:Program}{w:World}{K:PySem.W.Frag}{mg:Str→Option Value}{base:Heap}{A:Around}{outer:List Env}{s:Shared}{H:Hp}(e:Env0 P w K mg base A outer s H)(C:Addr)(us:List Value)(kw:List (Str×Value)):
 Env0 P w K mg base (A.under (.builtin "type.__call__" ⟨.ref C::us,kw⟩)) outer s H:=⟨by first |exact e.frames |(simpa[Around.under,Code.envs,Code.isFrame,pushEnvs]using e.frames),e.mod,e.bs,e.bsz,e.funs,e.frf,e.hok,e.bare⟩
section
variable{X:Cx}{pins:List (Addr×Obj)}{σ:St}{H:Hp}{s s':Shared}
theorem Inv.env0(I:Inv X pins σ H s):Env0 X.prog X.w X.K X.mg X.base X.A X.stack s H:=
 ⟨I.ok.frames,I.ok.mod,I.bs,Nat.le_trans I.ok.bsz I.sz,I.stack,I.stkFree,I.hok,I.bare⟩
theorem Inv.after{Q:VK}{u:Value}(I:Inv X pins σ H s)(h:CE X.stack X.prog X.w H s Q u s'):EP X pins σ Q u s':=by
 obtain ⟨v,H',os,bare,un,hok,r,q⟩:=h;obtain ⟨hh,g,d,t,os'⟩:=s';obtain rfl:os'=s.os:=os;exact ⟨v,H',I.call (h':=hh) (g':=g) (d':=d) (t':=t) (ch:=[]) un hok bare (fun b z=>absurd z (by simp)),r,q⟩
end
noncomputable def Binds(K:PySem.W.Frag)(fd:FuncData)(ps:List Str)(ds:List Value):Prop:=
 ∀(s:Shared) (us:List Value),K.In s.heap→(us++ds).length=ps.length→BindsTo s fd ⟨us,[]⟩ (ps.zip (us++ds))
theorem Binds.all{K:PySem.W.Frag}{fd:FuncData}{ps:List Str}(h:∀us:List Value,us.length=ps.length→bindArgs fd ⟨us,[]⟩=pure (ps.zip us)):Binds K fd ps []:=fun s us _ hl=>by
 rw[List.append_nil]at hl ⊢;exact .of_eq (h us hl)
noncomputable def d0l(CX:CXT)(X:Cx)(E:XK):Prop:=∀(pins:List (Addr×Obj)) (σ:St) (H:Hp) (s:Shared) (e:Value) (s':Shared),Inv X pins σ H s→CX X.stack H s E e s'→X.xe e s'
section
variable{X:Cx}{CX:CXT}{k:Nat}{f C:Addr}{fd:FuncData}{ps:List Str}{sp:Sp}{dvs:List V}{ds:List Value}{E:XK}{x m:Str}{p pos apos:Pos}{e o:Expr}{es:List Expr}{ta:TE}{t:TA}
structure Mk(K:PySem.W.Frag)(C f:Addr):Prop where
 makes:PySem.W.makesIn K C=true
 init:PySem.W.findIn K (.ref C) "__init__"=some (some (.ref f))
 fn:PySem.W.isFn K (.ref f)=true
 kp:PySem.W.keepIn K (.ref C)=true
end
section
variable{X:Cx}{CX:CXT}{k:Nat}{f C:Addr}{fd:FuncData}{ps ks:List Str}{sp:Sp}{E:XK}{x m:Str}{p pos apos kpos:Pos}{e o:Expr}{es:List Expr}{kws:List Keyword}{te ta:TE}{t tk:TA}{nm:Option Str}
structure KBinds(K:PySem.W.Frag)(fd:FuncData)(ps ks:List Str)(g:List Value→List Value→List Value)(gV:List V→List V→List V):Prop where
 to:∀(s:Shared) (us ws:List Value),K.In s.heap→(g us ws).length=ps.length→BindsTo s fd ⟨us,ks.zip ws⟩ (ps.zip (g us ws))
 rel:∀{vs:List V} {us:List Value} {zs:List V} {ws:List Value},Vals vs us→Vals zs ws→Vals (gV vs zs) (g us ws)
variable{g:List Value→List Value→List Value}{gV:List V→List V→List V}
end
structure FnScope(N P:List Str)(sc:Scope):Prop where
 kind:sc.kind=.function
 co:sc.isCoroutine=false
 gen:sc.isGenerator=false
 nd:N.Nodup
 pre:N.take P.length=P
 par:∀x∈P,sc.names.lookup x=some .local∨sc.names.lookup x=some .cell
 nofree:∀y∈sc.names,y.2≠.free
theorem q0x{kindOf:Str→Option NameKind}{x:Str}:∀{binds:List (Str×Value)} {m:Str→Option Value},(∀v,(x,v)∉binds)→bindL kindOf binds m x=m x
 | [],_,_=>rfl
 |(n,v)::r,m,h=>by
  unfold bindL;rw[q0x fun w hw=>h w (List.mem_cons_of_mem _ hw)];split
  ·have:x≠n:=by rintro rfl;exact h v List.mem_cons_self
   simp[this]
  ·rfl
theorem q0w{kindOf:Str→Option NameKind}{x:Str}:∀{binds:List (Str×Value)} {m:Str→Option Value},(∀v,(x,v)∉binds)→bindC kindOf binds m x=m x
 | [],_,_=>rfl
 |(n,v)::r,m,h=>by
  unfold bindC;rw[q0w fun w hw=>h w (List.mem_cons_of_mem _ hw)];split
  ·rfl
  ·have:x≠n:=by rintro rfl;exact h v List.mem_cons_self
   simp[this]
theorem q0v{kindOf:Str→Option NameKind}{x:Str}{v:Value}:∀{P:List Str} {vs:List Value} {i:Nat} {m:Str→Option Value},P.Nodup→P[i]?=some x→vs[i]?=some v→kindOf x=some .local→
 bindL kindOf (P.zip vs) m x=some v
 | [],_,_,_,_,h,_,_=>by simp at h
 |_::_,[],_,_,_,_,h,_=>by simp at h
 |p::P,w::vs,0,m,nd,h1,h2,hk=>by
  simp at h1 h2;subst h1;subst h2;show bindL kindOf ((p,w)::P.zip vs) m p=_;unfold bindL;rw[q0x fun v hv=>(List.nodup_cons.mp nd).1 (List.of_mem_zip hv).1,if_pos hk];simp
 |p::P,w::vs,i+1,m,nd,h1,h2,hk=>by
  show bindL kindOf ((p,w)::P.zip vs) m x=_;unfold bindL;exact q0v (i:=i) (List.nodup_cons.mp nd).2 (by simpa using h1) (by simpa using h2) hk
theorem q0u{kindOf:Str→Option NameKind}{x:Str}{v:Value}:∀{P:List Str} {vs:List Value} {i:Nat} {m:Str→Option Value},P.Nodup→P[i]?=some x→vs[i]?=some v→kindOf x≠some .local→
 bindC kindOf (P.zip vs) m x=some v
 | [],_,_,_,_,h,_,_=>by simp at h
 |_::_,[],_,_,_,_,h,_=>by simp at h
 |p::P,w::vs,0,m,nd,h1,h2,hk=>by
  simp at h1 h2;subst h1;subst h2;show bindC kindOf ((p,w)::P.zip vs) m p=_;unfold bindC;rw[q0w fun v hv=>(List.nodup_cons.mp nd).1 (List.of_mem_zip hv).1,if_neg hk];simp
 |p::P,w::vs,i+1,m,nd,h1,h2,hk=>by
  show bindC kindOf ((p,w)::P.zip vs) m x=_;unfold bindC;exact q0u (i:=i) (List.nodup_cons.mp nd).2 (by simpa using h1) (by simpa using h2) hk
noncomputable def start(N:List Str)(vs:List V):St:=vs.map some++List.replicate (N.length-vs.length) none
noncomputable def cxOf(CX:CXT)(P:Program)(w:World)(K:PySem.W.Frag)(mg:Str→Option Value)(base:Heap)(N:List Str)(qual:Str)(scope:Scope)(f:Addr)(cd:Value)(A:Around)(outer:List Env)(s:Shared)(H:Hp)(E:XK):Cx where
 prog:=P
 w:=w
 K:=K
 mg:=mg
 base:=base
 A:=A.deeper (envOfC qual scope s.heap.objs.size f cd)
 N:=N
 s₀:=s
 H₀:=H
 env:=envOfC qual scope s.heap.objs.size f cd
 outer:=outer
 stack:=envOfC qual scope s.heap.objs.size f cd::outer
 ex:=[]
 calm:=true
 fn:=fun _=>true
 pn:=[]
 xe:=fun e s'=>wpAny (model P w) (A.deeper (envOfC qual scope s.heap.objs.size f cd)) (leaving (envOfC qual scope s.heap.objs.size f cd) e) (fun _ s''=>CX outer H s E e s'') (fun e' s''=>CX outer H s E e' s'') s'
theorem m0y{sc:Scope}{n:Nat}{x:Str}(h:sc.names.lookup x=some .cell):∃c,(cellsFrom n sc.names []).lookup x=some c:=by
 have q:=PySem.W.cellsFrom_some sc.names n [] (.inl h);exact Option.isSome_iff_exists.mp q
theorem j0i{CX:CXT}{P:Program}{w:World}{K:PySem.W.Frag}{mg:Str→Option Value}{base:Heap}{N ps:List Str}{qual:Str}{scope:Scope}{f:Addr}{cd:Value}{A:Around}{outer:List Env}{s s1:Shared}{H:Hp}{E:XK}{us:List Value}{vs:List V}
 (S:FnScope N ps scope) (hd:A.handled=none) (e0:Env0 P w K mg base A outer s H) (hl:vs.length=ps.length) (r:Vals vs us)
 (x:InCallC s s.heap.objs.size (bindL (envOfC qual scope s.heap.objs.size f cd).kindOf (ps.zip us) fun _=>none) (cellsFrom (s.heap.objs.size+1) scope.names []) (bindC (envOfC qual scope s.heap.objs.size f cd).kindOf (ps.zip us) fun _=>none) s1):
 Inv (cxOf CX P w K mg base N qual scope f cd A outer s H E) [] (start N vs) H s1:=by
 have hpl:ps.length≤N.length:=by have:=congrArg List.length S.pre;rw[List.length_take]at this;omega
 obtain ⟨h1,tk,rfl,hk⟩:=x.done;have noA:∀b:Addr,b∉(cxOf CX P w K mg base N qual scope f cd A outer s H E).ex:=fun b z=>absurd (show b∈([]:List Addr)from z) (by simp)
 refine ⟨⟨e0.mod,S.kind,rfl,rfl,Nat.le_refl _,fun y z c h1 h2=>?_,fun y hy=>?_,fun y c _ h=>?_,fun _=>hd,Around.frames_deeper e0.frames,.inr ⟨rfl,rfl⟩,fun b z=>absurd z (noA b),e0.bs,e0.bsz,fun b _ _=>noA b,fun b z=>absurd z (noA b),e0.funs,e0.frf⟩,
  rfl,e0.bare,Un.kept hk,⟨_,x.toInCall.ns,fun i y v h1 h2 h3=>?_⟩,fun y c h=>⟨_,x.cell y c h⟩,e0.hok.fresh (Nat.le_refl _),fun y c h=>?_,fun p hp=>absurd (show p∈([]:List (Addr×Obj))from hp) (by simp),e0.hok.kept hk,?_⟩
 ·exact name_of_addr x.apart (PySem.mem_of_lookup h1) (PySem.mem_of_lookup h2)
 ·have hy:scope.names.lookup y=some .cell∨scope.names.lookup y=some .free:=hy;rcases hy with hy |hy
  ·exact m0y hy
  ·exact absurd rfl (S.nofree _ (PySem.mem_of_lookup hy))
 ·exact Nat.le_of_lt (x.above y c (PySem.mem_of_lookup h))
 ·have hi:i<vs.length:=by
   unfold start at h2;by_cases hi:i<vs.length
   ·exact hi
   ·rw[List.getElem?_append_right (by simpa using hi)]at h2;rw[List.getElem?_replicate]at h2;split at h2<;>cases h2
  have ha:vs[i]?=some v:=by
   unfold start at h2;rw[List.getElem?_append_left (by simpa using hi),List.getElem?_map]at h2;cases e:vs[i]? with
   |none=>rw[e]at h2;cases h2
   |some a=>rw[e]at h2;cases h2;rfl
  obtain ⟨u,hu,rv⟩:=r.get ha;have hp:ps[i]?=some y:=by
   rw[←S.pre,List.getElem?_take_of_lt (by omega)];exact h1
  have ndP:ps.Nodup:=by rw[←S.pre];exact S.nd.sublist (List.take_sublist _ _)
  refine ⟨u,rv,?_⟩;rcases S.par y (List.mem_of_getElem? hp)with k |k
  ·exact .inl ⟨k,q0v ndP hp hu k⟩
  ·obtain ⟨c,e⟩:=m0y (n:=s.heap.objs.size+1) k;refine .inr ⟨.inl k,c,e,?_⟩;have q:=x.cell y c e;rw[q0u ndP hp hu (by show scope.names.lookup y≠_;rw[k];decide)]at q;exact q
 ·exact e0.hok.fresh (Nat.le_of_lt (x.above y c (PySem.mem_of_lookup h)))
 ·unfold start;show _=N.length;rw[List.length_append,List.length_map,List.length_replicate];omega
theorem fn_of{CX:CXT}{P:Program}{w:World}{K:PySem.W.Frag}{mg:Str→Option Value}{base:Heap}{k:Nat}{f:Addr}{name qual:Str}{params:Arguments}{body:List Stmt}{scope:Scope}{dV kV doc pm cdv ct oc:Value}{an od:Option Addr}
 {osl:Array (Option Value)} {N ps:List Str} {sp:Sp} (lk:K.lookup f=some ⟨oc,od,.func (PySem.W.fnOf name qual params body scope dV kV doc pm an cdv ct),osl⟩) (hcd:PySem.W.codeIn K cdv qual=true) (S:FnScope N ps scope)
 (len:∀vs H Q E,sp vs H Q E→vs.length=ps.length)
 (hbody:∀(A:Around) (outer:List Env) (s:Shared) (H:Hp) (vs:List V) (Q:VK) (E:XK),Room k (A.deeper (envOfC qual scope s.heap.objs.size f cdv))→sp vs H Q E→
  ∃t,PSs (cxOf CX P w K mg base N qual scope f cdv A outer s H E) body t∧t {nx:=fun _ H'=>Q .non H',rt:=Q} (start N vs) H):
 FnOk P w K mg base CX (k+1) f (PySem.W.fnOf name qual params body scope dV kV doc pm an cdv ct) ps sp:=by
 refine ⟨len,fun A outer s H args us vs Q E hr e0 hb r hsp=>?_⟩;have hl:=len _ _ _ _ hsp;have KX:K.In s.heap:=e0.mod.kin.keeps fun b o e=>(e0.bs b o e).1
 have lim:s.heap.NoLimit:=e0.mod.nolimit.keeps fun b o e=>(e0.bs b o e).1
 have hkind:∀y∈ps.zip us,scope.names.lookup y.1=some .local∨(scope.names.lookup y.1=some .cell∧((cellsFrom (s.heap.objs.size+1) scope.names []).lookup y.1).isSome=true):=fun ⟨n,v⟩ hy=>by
  rcases S.par n (List.of_mem_zip hy).1 with q |q
  ·exact .inl q
  ·exact .inr ⟨q,PySem.W.cellsFrom_some _ _ _ (.inl q)⟩
 refine codeAny_call_function hr.depth (KX _ _ lk) rfl S.co S.gen rfl (PySem.W.codeRec_of KX hcd) (hb _ _ _ _ ?_);refine wpAny_newFunctionEnv_cells S.kind hkind fun env he s1 x=>?_
 subst he;refine ⟨lim.keeps x.toInCall.keep,codeAny_func ?_⟩;obtain ⟨t,ht,hq⟩:=hbody A outer s H vs Q E (hr.deeper _) hsp;have I:Inv (cxOf CX P w K mg base N qual scope f cdv A outer s H E) [] (start N vs) H s1:=j0i S hr.hd e0 hl r x;refine wpAny_mono (ht [] s1 (start N vs) H _ I hq) (fun fl s' hs=>?_) fun e s' hs=>hs
 have fin:∀{σ':St} {H':Hp} {v:V} {u:Value},Inv (cxOf CX P w K mg base N qual scope f cdv A outer s H E) [] σ' H' s'→RelV v u→Q v H'→CE outer P w H s Q u s':=
  fun {σ' H' v u} J rv q=>⟨v,H',J.os,J.bare,J.base,J.hok,rv,q⟩
 cases fl with
 |ret u=>
  obtain ⟨v,σ',H',J,rv,q⟩:=hs;exact fin J rv q
 |next=>
  obtain ⟨σ',H',J,q⟩:=hs;exact fin (v:=V.non) (u:=Value.none) J rfl q
 |brk=>
  obtain ⟨_,_,_,q⟩:=hs;exact False.elim q
 |cont=>
  obtain ⟨_,_,_,q⟩:=hs;exact False.elim q
end L2
namespace L2
open PySem PySem.Spec PyProof.Rows
section
variable{X:Cx}{x:Str}{p pos:Pos}{e:Expr}{es:List Expr}{t:TA}{id T:String}{r:List V→Hp→VK→Prop}
noncomputable def tCB(r:List V→Hp→VK→Prop)(t:TA):TE:=fun σ H Q=>t σ H fun vs H1=>r vs H1 Q
theorem m0x(hc:v0m X (.builtin id) r)(hg:Gl X x)(hm:X.mg x=none)(hv:bootBuiltins x=some (.builtin id))(ha:PA X (e::es) t)(hn:x≠"__name__":=by decide)(hdb:(x==("__debug__":Str))=false:=by decide)
 (he:starEach (e::es) X.env=(false,eval e X.env)::starEach es X.env:=by rfl) (hpl:(backTo pos (starEach es X.env)).any (·.1)=false:=by rfl):PE X (.Call (.Name x p) (e::es) [] pos) (tCB r t):=by
 intro pins s σ H Q I h;refine wpAny_Call_Name_kw (v0v I hg hm hv ?_ hn hdb);exact PyProof.Rows.callWith_builtin1 (thn (ha pos pins s σ H _ I h) fun us s1 ⟨vs,H1,I1,r1,q1⟩=>hc pins s1 σ H1 vs us Q I1 r1 q1) he hpl
theorem q0t(hc:v0m X (.type T) r)(hg:Gl X x)(hm:X.mg x=none)(hv:bootBuiltins x=some (.type T))(ha:PA X (e::es) t)(hn:x≠"__name__":=by decide)(hdb:(x==("__debug__":Str))=false:=by decide)
 (he:starEach (e::es) X.env=(false,eval e X.env)::starEach es X.env:=by rfl) (hpl:(backTo pos (starEach es X.env)).any (·.1)=false:=by rfl):PE X (.Call (.Name x p) (e::es) [] pos) (tCB r t):=by
 intro pins s σ H Q I h;refine wpAny_Call_Name_kw (v0v I hg hm hv ?_ hn hdb);exact PyProof.Rows.callWith_type1 (thn (ha pos pins s σ H _ I h) fun us s1 ⟨vs,H1,I1,r1,q1⟩=>hc pins s1 σ H1 vs us Q I1 r1 q1) he hpl
end
end L2
namespace HT
open PySem PyProof.Rows
section
open PySem.SeqAt
open PySem.AutoSeq1 (wpAny_loadPart')
open PySem.MeetsSeq PySem.MeetsSeq2 PySem.MeetsSeq3
end
section
variable{prog:Program}{w:World}{A:Around}{E:Value→Shared→Prop}{s:Shared}
theorem cat_tup{t b:Addr}{vs ws:List Value}{Q:Value→Shared→Prop}(ht:IsTup s.heap t vs.toArray)(hb:IsTup s.heap b ws.toArray)(hv:vs≠[])
 (h1:ws=[]→Q (.ref t) s) (h2:ws≠[]→Q (.ref s.heap.objs.size) {s with heap:=s.heap.push {cls:=.type "tuple",data:=.seq (vs++ws).toArray}})
 (hsz:vs.length+ws.length≤sizeLine):wpAny (model prog w) A (binaryOp .Add (.ref t) (.ref b)) Q E s:=by
 obtain ⟨⟨cls,dd,data,sl⟩,ho,hc,n,hd⟩:=id ht;obtain ⟨⟨cls2,dd2,data2,sl2⟩,ho2,hc2,n2,hd2⟩:=id hb;simp only at hc hd hc2 hd2;subst hc hd hc2 hd2;have e:vs.toArray++ws.toArray=(vs++ws).toArray:=by simp
 by_cases hw:ws=[]
 ·exact concat_meets ⟨_,ho,rfl⟩ ⟨_,ho2,rfl⟩ noFill_tuple_add seq_tuple_add PySem.F.slot_tuple_add PySem.F.entry_tuple_add (PySem.F.args_tuple_add_2 _ _)
   (tuple_addW1 t b vs.toArray ws.toArray n n2 dd dd2 sl sl2 (by simpa using hv) (by simp[hw])) ⟨ho,ho2,h1 hw⟩
 ·refine concat_meets ⟨_,ho,rfl⟩ ⟨_,ho2,rfl⟩ noFill_tuple_add seq_tuple_add PySem.F.slot_tuple_add PySem.F.entry_tuple_add (PySem.F.args_tuple_add_2 _ _)
   (tuple_addW2 t b vs.toArray ws.toArray n n2 dd dd2 sl sl2 (by simpa using hv) (by simpa using hw) (by rw[List.size_toArray,List.size_toArray];exact hsz)) ⟨ho,ho2,?_⟩
  rw[e];exact h2 hw
noncomputable def sIx(n d:Nat):Option Int→Nat
 |none=>d
 |some v=>if v<0 then (v+(n:Int)).toNat else min v.toNat n
theorem sIx_none(n d:Nat):sIx n d none=d:=rfl
theorem sIx_nat(n d k:Nat):sIx n d (some (k:Int))=min k n:=by
 show (if (k:Int)<0 then ((k:Int)+(n:Int)).toNat else min (k:Int).toNat n)=min k n;rw[if_neg (by omega),Int.toNat_natCast]
theorem sIx_le(n d:Nat)(hd:d≤n)(o:Option Int):sIx n d o≤n:=by
 cases o with
 |none=>exact hd
 |some v=>
  show (if v<0 then (v+(n:Int)).toNat else min v.toNat n)≤n;by_cases hv:v<0
  ·rw[if_pos hv];omega
  ·rw[if_neg hv];exact Nat.min_le_right _ _
theorem j0h(v:Int)(n d:Nat):(if v<0 then max (v+(n:Int)) 0 else min v (n:Int))=((sIx n d (some v):Nat):Int):=by
 show (if v<0 then max (v+(n:Int)) 0 else min v (n:Int))=(((if v<0 then (v+(n:Int)).toNat else min v.toNat n):Nat):Int);by_cases hv:v<0
 ·simp only[if_pos hv];omega
 ·simp only[if_neg hv];omega
theorem k0w(lo hi:Option Int)(n:Nat):Builtin.Slice.sliceAdjust lo hi 1 (n:Int)=(((sIx n 0 lo:Nat):Int),((sIx n n hi:Nat):Int)):=by
 have h1:¬((1:Int)<0):=by omega
 unfold Builtin.Slice.sliceAdjust;simp only[h1,if_false];refine Prod.ext ?_ ?_
 ·cases lo with
  |none=>rfl
  |some v=>exact j0h v n 0
 ·cases hi with
  |none=>rfl
  |some v=>exact j0h v n n
theorem k0v(i j:Nat):Builtin.Slice.slicePlaces (i:Int) (j:Int) 1=j-i:=by
 unfold Builtin.Slice.slicePlaces;have h1:(1:Int)>0:=by omega
 simp only[h1,if_true,Int.ediv_one];split<;>omega
theorem s0z{v:Value}{o:Option Int}{Q:Option Int→Shared→Prop}(p:IsPart v o)(h:Q o s):wpAny (model prog w) A (Builtin.Slice.slicePartIndex v) Q E s:=by
 cases p with
 |none=>exact slicePart_none h
 |int i t=>exact slicePart_int h
theorem v0l{sl:Addr}{vl vu:Value}{lo hi:Option Int}{n:Nat}{Q:Int×Int×Nat→Shared→Prop}(hs:s.heap.IsSliceOf sl vl vu .none)(pl:IsPart vl lo)(pu:IsPart vu hi)
 (h:Q (((sIx n 0 lo:Nat):Int),1,sIx n n hi-sIx n 0 lo) s):wpAny (model prog w) A (Builtin.Slice.sliceApplied (.ref sl) (pure (n:Int))) Q E s:=by
 obtain ⟨os,hos,hcs,hds⟩:=id hs;unfold Builtin.Slice.sliceApplied Builtin.Slice.sliceFields;refine wpAny_bind (wpAny_bind (wpAny_field hos hds (x:=vl) rfl (wpAny_bind (wpAny_field hos hds (x:=vu) rfl (wpAny_bind (wpAny_field hos hds (x:=.none) rfl (wpAny_pure ?_)))))));refine wpAny_bind (slicePart_none ?_);show wpAny _ _ (if ((1:Int)==0)=true then _ else _) _ _ s;rw[if_neg (by decide)];refine wpAny_bind (s0z pl (wpAny_bind (s0z pu (wpAny_bind (wpAny_pure ?_)))));show wpAny _ _ (match Builtin.Slice.sliceAdjust lo hi 1 (n:Int)with |(lo,hi)=>pure (lo,(1:Int),Builtin.Slice.slicePlaces lo hi 1)) _ _ s;rw[k0w lo hi n];show wpAny _ _ (pure (((sIx n 0 lo:Nat):Int),(1:Int),Builtin.Slice.slicePlaces ((sIx n 0 lo:Nat):Int) ((sIx n n hi:Nat):Int) 1)) _ _ s;rw[k0v];exact wpAny_pure h
theorem f0u(xs:Array Value)(i k:Nat):((List.range k).filterMap fun (m:Nat)=>xs[((i:Int)+(m:Int)*1).toNat]?).toArray=((xs.toList.drop i).take k).toArray:=by
 have e:(fun (m:Nat)=>xs[((i:Int)+(m:Int)*1).toNat]?)=fun m=>xs[i+m]?:=by
  funext m;have:((i:Int)+(m:Int)*1).toNat=i+m:=by omega
  rw[this]
 rw[e];have:=pick_run xs i k;rw[List.filterMap_map]at this;have e2:((fun x=>xs[x]?)∘fun x=>i+x)=fun m=>xs[i+m]?:=rfl
 rw[e2]at this;rw[this]
theorem getItem_tuple_cut{t sl:Addr}{items:Array Value}{vl vu:Value}{lo hi:Option Int}{Q:Value→Shared→Prop}(ht:IsTup s.heap t items)(hs:s.heap.IsSliceOf sl vl vu .none)(pl:IsPart vl lo)(pu:IsPart vu hi)
 (hw:¬(sIx items.size 0 lo=0∧sIx items.size items.size hi=items.size))
 (h:Q (.ref s.heap.objs.size) {s with heap:=s.heap.push {cls:=.type "tuple",data:=.seq ((items.toList.drop (sIx items.size 0 lo)).take (sIx items.size items.size hi-sIx items.size 0 lo)).toArray}})
 (hsz:items.size≤sizeLine):wpAny (model prog w) A (getItem (.ref t) (.ref sl)) Q E s:=by
 have htake:sizeOk (.seq ((items.toList.drop (sIx items.size 0 lo)).take (sIx items.size items.size hi-sIx items.size 0 lo)).toArray):=by
  show ((items.toList.drop (sIx items.size 0 lo)).take (sIx items.size items.size hi-sIx items.size 0 lo)).toArray.size≤sizeLine;rw[List.size_toArray,List.length_take,List.length_drop,Array.length_toList];omega
 have hj:sIx items.size items.size hi≤items.size:=sIx_le _ _ (Nat.le_refl _) hi;obtain ⟨os,hos,hcs,hds⟩:=id hs;have hTs:s.TypeIs (.ref sl) "slice":=⟨os,hos,hcs⟩;unfold getItem
 try with_reducible refine wpAny_holding ?_
 first |refine wpAny_bind (wpAny_pure ?_)|skip
 refine wpAny_bind (wpAny_sequenceKey ht.typeIs (by decide) ?_);refine wpAny_bind (wpAny_callSpecial?_slot (name:=Str.ofString "__getitem__") ht.typeIs PyProof.Rows.slot_tuple_getitem
  (wpAny_call_entry PyProof.Rows.slot_tuple_getitem ht.typeIs entry_tuple_getitem ?_ (args_tuple_getitem _ _)))
 show wpAny _ _ (Builtin.Tuple.tupleItemsOf (.ref t) >>= _) _ _ s;refine wpAny_bind (tupleItemsOf_ ht ?_);refine wpAny_bind (wpAny_typeOf hTs ?_);rw[if_pos (by decide)];refine wpAny_bind (v0l hs pl pu ?_);have hno:¬((((sIx items.size 0 lo:Nat):Int)==0&&(1:Int)==1&&(sIx items.size items.size hi-sIx items.size 0 lo)==items.size)=true):=by
  intro q;rw[Bool.and_eq_true,Bool.and_eq_true]at q;have q1:((sIx items.size 0 lo:Nat):Int)=0:=eq_of_beq q.1.1;have q2:sIx items.size items.size hi-sIx items.size 0 lo=items.size:=eq_of_beq q.2;exact hw ⟨by omega,by omega⟩
 show wpAny _ _ (if (((sIx items.size 0 lo:Nat):Int)==0&&(1:Int)==1&&(sIx items.size items.size hi-sIx items.size 0 lo)==items.size)=true then _ else _) _ _ s;rw[if_neg hno,f0u]
 first
  |exact wpAny_bind (m:=Builtin.Tuple.tupleExact _) (wpAny_newObj_type (wpAny_pure ⟨_,rfl,wpAny_pure h⟩) htake)
  |exact wpAny_bind (m:=Builtin.Tuple.tupleExact _) (wpAny_newObj_type (wpAny_bind (wpAny_pure (wpAny_pure ⟨_,rfl,wpAny_pure h⟩))) htake)
  |exact wpAny_bind (wpAny_bind (m:=Builtin.Tuple.tupleExact _) (wpAny_newObj_type (wpAny_pure (wpAny_pure ⟨_,rfl,wpAny_pure h⟩)) htake))
  |exact wpAny_bind (wpAny_bind (m:=Builtin.Tuple.tupleExact _) (wpAny_newObj_type (wpAny_pure ⟨_,rfl,wpAny_pure h⟩) htake))
end
end HT
namespace L2
open PySem PySem.Spec PyProof.Rows
noncomputable abbrev TO:=St→Hp→(Option Int→Hp→Prop)→Prop
noncomputable def PO(X:Cx)(e:Option Expr)(t:TO):Prop:=
 ∀(pins:List (Addr×Obj)) (s:Shared) (σ:St) (H:Hp) (Q:Option Int→Hp→Prop),Inv X pins σ H s→t σ H Q→
  wpAny (model X.prog X.w) X.A (evalPart e X.env) (fun u s'=>∃o H',Inv X pins σ H' s'∧IsPart u o∧Q o H') X.xe s
noncomputable def b0z:TO:=fun _ H Q=>Q none H
noncomputable def tPart(t:TE):TO:=fun σ H Q=>t σ H fun x H1=>∃i,x=.int i∧Q (some i) H1
section
variable{X:Cx}{e:Expr}{te:TE}{lo hi:Option Expr}{tl th:TO}{pos p2:Pos}
theorem b0y:PO X none b0z:=by
 intro pins s σ H Q I h;rw[evalPart_none];exact wpAny_pure ⟨none,H,I,.none,h⟩
theorem b0x(h:PE X e te):PO X (some e) (tPart te):=by
 intro pins s σ H Q I hw;rw[evalPart_some];refine thn (h pins s σ H _ I hw) fun u s1 ⟨x,H1,I1,r1,q1⟩=>?_
 obtain ⟨i,rfl,q⟩:=q1;obtain ⟨t,rfl⟩:=r1;exact ⟨some i,H1,I1,.int i t,q⟩
noncomputable def SlR(X:Cx)(r:V→Option Int→Option Int→Hp→VK→Prop):Prop:=
 ∀(pins:List (Addr×Obj)) (s:Shared) (σ:St) (H:Hp) (x:V) (v vl vu:Value) (lo hi:Option Int) (sl:Addr) (Q:VK),Inv X pins σ H s→RelV x v→s.heap.IsSliceOf sl vl vu .none→IsPart vl lo→IsPart vu hi→r x lo hi H Q→
  ∃T id,typeLookup (.type T) "__getitem__"=pure (some (.builtin id))∧s.TypeIs v T∧wpAny (model X.prog X.w) X.A (getItem v (.ref sl)) (EP X pins σ Q) X.xe s
theorem SlR.or{r r':V→Option Int→Option Int→Hp→VK→Prop}(h:SlR X r)(h':SlR X r'):SlR X (fun x lo hi H Q=>r x lo hi H Q∨r' x lo hi H Q):=by
 intro pins s σ H x v vl vu lo hi sl Q I rx hs pl pu q;rcases q with q |q
 ·exact h pins s σ H x v vl vu lo hi sl Q I rx hs pl pu q
 ·exact h' pins s σ H x v vl vu lo hi sl Q I rx hs pl pu q
noncomputable def tSl(r:V→Option Int→Option Int→Hp→VK→Prop)(te:TE)(tl th:TO):TE:=fun σ H Q=>te σ H fun x H1=>tl σ H1 fun l H2=>th σ H2 fun u H3=>r x l u H3 Q
theorem m0w{r:V→Option Int→Option Int→Hp→VK→Prop}(hr:SlR X r)(he:PE X e te)(hl:PO X lo tl)(hu:PO X hi th):PE X (.Subscript e (.Slice lo hi none p2) pos) (tSl r te tl th):=by
 intro pins s σ H Q I h;refine Subscript_ (thn (he pins s σ H _ I h) fun v s1 ⟨x,H1,I1,r1,q1⟩=>?_);refine wpAny_Slice (thn (hl pins s1 σ H1 _ I1 q1) fun vl s2 ⟨l,H2,I2,pl,q2⟩=>thn (hu pins s2 σ H2 _ I2 q2) fun vu s3 ⟨u,H3,I3,pu,q3⟩=>?_);rw[evalPart_none];refine wpAny_pure ?_;have I4:Inv X pins σ H3 {s3 with heap:=s3.heap.push {cls:=.type "slice",data:=.fields #[vl,vu,.none]}}:=I3.kept (t':=s3.toks) fun b ob q=>Heap.get?_push_of_some _ q
 obtain ⟨T,id,hT,ht,hg⟩:=hr pins {s3 with heap:=s3.heap.push {cls:=.type "slice",data:=.fields #[vl,vu,.none]}} σ H3 x v vl vu l u s3.heap.objs.size Q I4 r1 (Heap.IsSliceOf.new ..) pl pu q3;show wpAny (model X.prog X.w) X.A (subscriptTail e (.Slice lo hi none p2) v (.ref s3.heap.objs.size)) (EP X pins σ Q) X.xe {s3 with heap:=s3.heap.push {cls:=.type "slice",data:=.fields #[vl,vu,.none]}};exact tail_any (ops:=[.ref s3.heap.objs.size,v]) ht hT hg (by with_unfolding_all rfl)
noncomputable def cutV(xs:List V)(lo hi:Option Int):List V:=(xs.drop (HT.sIx xs.length 0 lo)).take (HT.sIx xs.length xs.length hi-HT.sIx xs.length 0 lo)
theorem u0s(xs:List V)(lo hi:Option Int):(cutV xs lo hi).length≤xs.length:=by
 unfold cutV;rw[List.length_take,List.length_drop];omega
noncomputable def rSlT(K:PySem.W.Frag):V→Option Int→Option Int→Hp→VK→Prop:=fun x lo hi H Q=>∃a xs,x=.ref a∧SqT K H a xs∧
 ¬(HT.sIx xs.length 0 lo=0∧HT.sIx xs.length xs.length hi=xs.length)∧∀p,H p=none→Q (.ref p) (upd H p (.tup (cutV xs lo hi)))
theorem sl_tup:SlR X (rSlT X.K):=by
 intro pins s σ H x v vl vu lo hi sl Q I rx hs pl pu h;obtain ⟨a,xs,rfl,hx,hw,q⟩:=h;cases rx;obtain ⟨its,r,ht,hz⟩:=I.tuple hx;have hlen:its.toArray.size=xs.length:=by rw[List.size_toArray];exact r.length.symm
 refine ⟨"tuple",_,PyProof.Rows.slot_tuple_getitem.lookup,ht.typeIs,?_⟩;refine HT.getItem_tuple_cut ht hs pl pu (by rw[hlen];exact hw) ?_ (by rw[hlen];exact hz);rw[hlen];refine ⟨.ref s.heap.objs.size,_,I.laid (t':=s.toks) (o:=.tup (cutV xs lo hi)) (fun b ob q=>Heap.get?_push_of_some _ q) (Nat.le_refl _) ?_,rfl,q _ (I.hok.fresh (Nat.le_refl _))⟩;exact ⟨Nat.le_trans (u0s xs lo hi) hz,_,(r.drop (HT.sIx xs.length 0 lo)).take (HT.sIx xs.length xs.length hi-HT.sIx xs.length 0 lo),TupD.new _ _⟩
noncomputable def rCatT(K:PySem.W.Frag):R2:=fun x y H Q=>∃a b xs ys,x=.ref a∧y=.ref b∧SqT K H a xs∧SqT K H b ys∧xs≠[]∧xs.length+ys.length≤sizeLine∧
 (ys=[]→Q (.ref a) H)∧(ys≠[]→∀p,H p=none→Q (.ref p) (upd H p (.tup (xs++ys))))
theorem Vals.nil_iff{xs:List V}{us:List Value}(r:Vals xs us):us=[]↔xs=[]:=by
 cases r with
 |nil=>simp
 |cons _ _=>simp
theorem b0w:OpR X (binaryOp .Add) (rCatT X.K):=by
 intro pins s σ H x y v u Q I rx ry h;obtain ⟨a,b,xs,ys,rfl,rfl,ha,hb,hx,hz,q1,q2⟩:=h;cases rx;cases ry;obtain ⟨its,r1,p1,_⟩:=I.tuple ha;obtain ⟨its2,r2,p2,_⟩:=I.tuple hb;refine HT.cat_tup p1 p2 (fun z=>hx (r1.nil_iff.mp z)) (fun z=>⟨.ref a,H,I,rfl,q1 (r2.nil_iff.mp z)⟩) (fun z=>?_) (by rw[←r1.length,← r2.length];exact hz);refine ⟨.ref s.heap.objs.size,_,I.laid (t':=s.toks) (o:=.tup (xs++ys)) (fun b ob q=>Heap.get?_push_of_some _ q) (Nat.le_refl _) ?_,rfl,q2 (fun w=>z (r2.nil_iff.mpr w)) _ (I.hok.fresh (Nat.le_refl _))⟩;exact ⟨by rw[List.length_append];exact hz,_,r1.append r2,TupD.new _ _⟩
end
end L2
namespace L2
open PySem PySem.Spec PyProof.Rows
noncomputable def ixN(n:Nat)(i:Int):Option Nat:=if 0≤i then (if i<n then some i.toNat else none)else if -(n:Int)≤i then some (i+n).toNat else none
noncomputable def atI{α:Type}(xs:List α)(i:Int):Option α:=(ixN xs.length i).bind fun j=>xs[j]?
theorem j0g{n:Nat}{i:Int}{j:Nat}(h:ixN n i=some j):seqIndex? i n=some j∧j<n∧-(n:Int)≤i∧i<n:=by
 unfold ixN at h;by_cases h0:0≤i
 ·rw[if_pos h0]at h;by_cases h1:i<n
  ·rw[if_pos h1]at h;have e:i.toNat=j:=Option.some.inj h;exact ⟨by rw[seqIndex_of h0 h1,e],by omega,by omega,h1⟩
  ·rw[if_neg h1]at h;cases h
 ·rw[if_neg h0]at h;by_cases h1:-(n:Int)≤i
  ·rw[if_pos h1]at h;have e:(i+n).toNat=j:=Option.some.inj h;exact ⟨by rw[seqIndex_neg (by omega) h1,e],by omega,h1,by omega⟩
  ·rw[if_neg h1]at h;cases h
theorem o0r{α:Type}{xs:List α}{i:Int}{v:α}(h:atI xs i=some v):∃j,seqIndex? i xs.length=some j∧xs[j]?=some v∧j<xs.length∧-(xs.length:Int)≤i∧i<xs.length:=by
 unfold atI at h;cases e:ixN xs.length i with
 |none=>rw[e]at h;cases h
 |some j=>
  rw[e]at h;obtain ⟨h1,h2,h3,h4⟩:=j0g e;exact ⟨j,h1,h,h2,h3,h4⟩
theorem o0q{α:Type}{xs:List α}{j:Nat}{v:α}(h:xs[j]?=some v):atI xs (j:Int)=some v:=by
 have hj:j<xs.length:=(List.getElem?_eq_some_iff.mp h).1;have e:ixN xs.length (j:Int)=some j:=by
  unfold ixN;rw[if_pos (by omega),if_pos (by omega)];simp
 unfold atI;rw[e];exact h
noncomputable def o0p(b:Expr):Prop:=∀o i,subscripted b false o i=operate [o,i] (getItem o i)
noncomputable def IxR(X:Cx)(r:R2):Prop:=
 ∀(value slice:Expr) (pins:List (Addr×Obj)) (s:Shared) (σ:St) (H:Hp) (x y:V) (v u:Value) (Q:VK),Inv X pins σ H s→RelV x v→RelV y u→r x y H Q→
  subscripted slice false v u=operate [v,u] (getItem v u)→wpAny (model X.prog X.w) X.A (subscriptTail value slice v u) (EP X pins σ Q) X.xe s
noncomputable def MtR(X:Cx)(id:String)(r:V→List V→Hp→VK→Prop):Prop:=
 ∀(pins:List (Addr×Obj)) (s:Shared) (σ:St) (H:Hp) (x:V) (xs:List V) (v:Value) (us:List Value) (Q:VK),Inv X pins σ H s→RelV x v→Vals xs us→r x xs H Q→
  wpAny (model X.prog X.w) X.A (call (.builtin id) (v::us)) (EP X pins σ Q) X.xe s
section
variable{X:Cx}{a b:Expr}{ta tb:TE}{pos:Pos}
theorem IxR.or{r r':R2}(h:IxR X r)(h':IxR X r'):IxR X (fun x y H Q=>r x y H Q∨r' x y H Q):=by
 intro value slice pins s σ H x y v u Q I rx ry q hs;rcases q with q |q
 ·exact h value slice pins s σ H x y v u Q I rx ry q hs
 ·exact h' value slice pins s σ H x y v u Q I rx ry q hs
theorem pe_ix{r:R2}(hr:IxR X r)(ha:PE X a ta)(hb:PE X b tb)(hs:o0p b):PE X (.Subscript a b pos) (tOp r ta tb):=by
 intro pins s σ H Q I h;exact Subscript_ (binT ha hb I h fun v u s2 x y H2 I2 rx ry q=>hr a b pins s2 σ H2 x y v u Q I2 rx ry q (hs _ _))
noncomputable def rIxL(K:PySem.W.Frag):R2:=fun x y H Q=>∃p xs i v,x=.ref p∧y=.int i∧SqL K H p xs∧atI xs i=some v∧Q v H
noncomputable def rIxT(K:PySem.W.Frag):R2:=fun x y H Q=>∃p xs i v,x=.ref p∧y=.int i∧SqT K H p xs∧atI xs i=some v∧Q v H
noncomputable def rIxS:R2:=fun x y H Q=>∃z i c,x=.str z∧y=.int i∧z.length≤sizeLine∧atI z.cps.toList i=some c∧Q (.str ⟨#[c]⟩) H
theorem ix_list:IxR X (rIxL X.K):=by
 intro value slice pins s σ H x y v u Q I rx ry h hs;obtain ⟨p,xs,i,z,rfl,rfl,hq,he,q⟩:=h;cases rx;obtain ⟨t,rfl⟩:=ry;obtain ⟨its,r,pl,hz⟩:=I.list hq;obtain ⟨j,h1,h2,h3,h4,h5⟩:=o0r he;obtain ⟨w,ew,rw'⟩:=r.get h2;have hl:=r.length;have hn:=q0y;have fin:EP X pins σ Q w s:=⟨z,H,I,rw',q⟩;by_cases h0:0≤i
 ·have hj:i.toNat=j:=by
   rw[seqIndex_of h0 h5]at h1;exact Option.some.inj h1
  exact item_listR pl.isList h0 (by omega) (by rw[hj];simpa using ew) fin hs
 ·have hj:(i+(its.toArray.size:Int)).toNat=j:=by
   rw[seqIndex_neg (by omega) h4]at h1;rw[List.size_toArray,← hl];exact Option.some.inj h1
  exact subscriptTail_builtinR (x:=w) pl.isList.typeIs slot_list_getitem.lookup
   (wpAny_getItem_list_neg (Q:=fun r s'=>r=w∧EP X pins σ Q r s') pl.isList (by omega) (by rw[List.size_toArray]<;>omega) (by omega) (by rw[hj];simpa using ew) ⟨rfl,fin⟩) hs
theorem ix_tup:IxR X (rIxT X.K):=by
 intro value slice pins s σ H x y v u Q I rx ry h hs;obtain ⟨p,xs,i,z,rfl,rfl,hq,he,q⟩:=h;cases rx;obtain ⟨t,rfl⟩:=ry;obtain ⟨its,r,pl,hz⟩:=I.tuple hq;obtain ⟨j,h1,h2,h3,h4,h5⟩:=o0r he;obtain ⟨w,ew,rw'⟩:=r.get h2;have hl:=r.length;have hn:=q0y;have fin:EP X pins σ Q w s:=⟨z,H,I,rw',q⟩;exact subscriptTail_builtinR (x:=w) pl.typeIs slot_tuple_getitem.lookup
  (getItem_tuple (j:=j) (Q:=fun r s'=>r=w∧EP X pins σ Q r s') pl (by omega) (by omega) (by rw[List.size_toArray,← hl];exact h1) (by simpa using ew) ⟨rfl,fin⟩) hs
theorem ix_str:IxR X rIxS:=by
 intro value slice pins s σ H x y v u Q I rx ry h hs;obtain ⟨z,i,c,rfl,rfl,hz,he,q⟩:=h;obtain ⟨t,rfl⟩:=rx;obtain ⟨t',rfl⟩:=ry;obtain ⟨j,h1,h2,h3,h4,h5⟩:=o0r he;have hl:z.cps.toList.length=z.length:=by simp[Str.length]
 rw[hl]at h1 h4 h5;have hn:=q0y;exact tail_any (typeIs_str s z t) slot_str_getitem.lookup (getItem_str (c:=c) (by
  have e1:decide (i< -(2^63:Int))=false:=decide_eq_false (by omega);have e2:decide (i≥2^63)=false:=decide_eq_false (by omega);rw[e1,e2,Bool.or_false]) (by rw[h1];simpa using h2) ⟨.str ⟨#[c]⟩,H,I.tok _,⟨_,rfl⟩,q⟩) hs
noncomputable def rIx(K:PySem.W.Frag):R2:=fun x y H Q=>rIxL K x y H Q∨rIxT K x y H Q∨rIxS x y H Q
theorem s0y:IxR X (rIx X.K):=ix_list.or (ix_tup.or ix_str)
theorem k0u(its:List Value)(n j:Nat)(u:Value):Obj.mapSeq (·.setIfInBounds j u) {cls:=.type "list",data:=.seq its.toArray n}={cls:=.type "list",data:=.seq (its.set j u).toArray n}:=by
 simp[Obj.mapSeq]
theorem Inv.lst{pins:List (Addr×Obj)}{σ:St}{H:Hp}{s:Shared}{p:Addr}{xs:List V}(I:Inv X pins σ H s)(h:H p=some (.lst xs)):
 ∃(its:List Value) (n:Nat),Vals xs its∧s.heap.get? p=some {cls:=.type "list",data:=.seq its.toArray n}∧xs.length≤sizeLine:=by
 obtain ⟨z,its,n,r,e⟩:=I.hok p _ h;exact ⟨its,n,r,e,z⟩
theorem Inv.lstUpd{pins:List (Addr×Obj)}{σ:St}{H:Hp}{s:Shared}{p:Addr}{xs ys:List V}{its its':List Value}{n n':Nat}{f:Obj→Obj}(I:Inv X pins σ H s)(h:H p=some (.lst xs))
 (ho:s.heap.get? p=some {cls:=.type "list",data:=.seq its.toArray n}) (hf:f {cls:=.type "list",data:=.seq its.toArray n}={cls:=.type "list",data:=.seq its'.toArray n'}) (r:Vals ys its') (hz:ys.length≤sizeLine) (t:Nat):
 Inv X pins σ (upd H p (.lst ys)) {s with heap:=s.heap.update p f,toks:=t}:=by
 have e:(s.heap.update p f).get? p=some {cls:=.type "list",data:=.seq its'.toArray n'}:=by
  rw[Heap.get?_update_self f ho (by rw[hf]<;>rfl),hf]
 refine I.write (x:=p) (e:=p) (by rw[h];trivial) (.inl rfl) (fun b u hb q=>(Heap.get?_update_other _ _ (Ne.symm hb)).trans q) ⟨_,e⟩ ?_;exact ⟨hz,its',n',r,e⟩
noncomputable def rSetL:V→V→V→Hp→(Hp→Prop)→Prop:=fun o i v H Q=>∃p xs k j,o=.ref p∧i=.int k∧H p=some (.lst xs)∧ixN xs.length k=some j∧Q (upd H p (.lst (xs.set j v)))
theorem f0t:PSet X rSetL:=by
 intro pins s σ H o i v ov iv u Q I ro ri rv h;obtain ⟨p,xs,k,j,rfl,rfl,hp,hj,q⟩:=h;cases ro;obtain ⟨t,rfl⟩:=ri;obtain ⟨its,n,r,ho,hz⟩:=I.lst hp;obtain ⟨h1,h2,h3,h4⟩:=j0g hj;have hl:=r.length;have hn:=q0y;have I':Inv X pins σ (upd H p (.lst (xs.set j v))) {s with heap:=s.heap.update p (Obj.mapSeq (·.setIfInBounds j u))}:=
  I.lstUpd hp ho (k0u its n j u) (r.set rv j) (by rw[List.length_set];exact hz) s.toks
 by_cases h0:0≤k
 ·have hk:k.toNat=j:=by
   rw[seqIndex_of h0 h4]at h1;exact Option.some.inj h1
  exact PySem.W.ki_setAt ho h0 (by omega) (by rw[List.size_toArray,← hl];exact h4) (by rw[hk];exact ⟨_,I',q⟩)
 ·have hk:(k+(its.toArray.size:Int)).toNat=j:=by
   rw[seqIndex_neg (by omega) h3]at h1;rw[List.size_toArray,← hl];exact Option.some.inj h1
  exact PySem.W.ki_setBack ho (by omega) (by rw[List.size_toArray,← hl];exact h3) (by omega) (by rw[hk];exact ⟨_,I',q⟩)
theorem v0t(lo hi:Option Int)(n:Nat):(sliceBounds lo hi none n).1=((HT.sIx n 0 lo:Nat):Int)∧(sliceBounds lo hi none n).2.1=((HT.sIx n n hi:Nat):Int)∧(sliceBounds lo hi none n).2.2=1:=by
 refine ⟨?_,?_,rfl⟩
 ·cases lo with
  |none=>simp[sliceBounds,HT.sIx]
  |some i=>
   simp only[sliceBounds,HT.sIx,Option.getD_none,show (1:Int)>0 by decide,if_true];by_cases h:i<0
   ·simp only[h,if_true]<;>omega
   ·simp only[h,if_false]<;>omega
 ·cases hi with
  |none=>simp[sliceBounds,HT.sIx]
  |some i=>
   simp only[sliceBounds,HT.sIx,Option.getD_none,show (1:Int)>0 by decide,if_true];by_cases h:i<0
   ·simp only[h,if_true]<;>omega
   ·simp only[h,if_false]<;>omega
theorem s0h(its:List Value)(lo hi:Option Int):slicePick its.toArray lo hi none=((its.drop (HT.sIx its.length 0 lo)).take (HT.sIx its.length its.length hi-HT.sIx its.length 0 lo)).toArray:=by
 obtain ⟨h1,h2,h3⟩:=v0t lo hi its.toArray.size;unfold slicePick;rw[h1,h2,h3];simp only[sliceRange_one,pick_run,List.size_toArray]<;>rfl
noncomputable def rSlL(K:PySem.W.Frag):V→Option Int→Option Int→Hp→VK→Prop:=fun x lo hi H Q=>∃a xs,x=.ref a∧SqL K H a xs∧∀p,H p=none→Q (.ref p) (upd H p (.lst (cutV xs lo hi)))
theorem b0v:SlR X (rSlL X.K):=by
 intro pins s σ H x v vl vu lo hi sl Q I rx hs pl pu h;obtain ⟨a,xs,rfl,hx,q⟩:=h;cases rx;obtain ⟨its,r,ht,hz⟩:=I.list hx;have hlen:=r.length;refine ⟨"list",_,slot_list_getitem.lookup,ht.isList.typeIs,?_⟩;refine wpAny_getItem_list_slice ht.isList hs pl pu .none (by simp) ?_ (by rw[List.size_toArray]<;>omega);rw[s0h,← hlen];refine ⟨.ref s.heap.objs.size,_,I.laid (t':=s.toks) (o:=.lst (cutV xs lo hi)) (fun b ob q=>Heap.get?_push_of_some _ q) (Nat.le_refl _) ?_,rfl,q _ (I.hok.fresh (Nat.le_refl _))⟩;exact ⟨Nat.le_trans (u0s xs lo hi) hz,_,0,(r.drop (HT.sIx xs.length 0 lo)).take (HT.sIx xs.length xs.length hi-HT.sIx xs.length 0 lo),Heap.get?_push_size _ rfl⟩
noncomputable def z0v:V→Bool
 | .non=>true
 | .bl _=>true
 | .int _=>true
 | .str _=>true
 |_=>false
noncomputable def eqV:V→V→Bool
 | .non,.non=>true
 | .bl a,.bl b=>a==b
 | .bl a,.int b=>(if a then 1 else 0)==b
 | .int a,.bl b=>a==(if b then 1 else 0)
 | .int a,.int b=>a==b
 | .str a,.str b=>a==b
 |_,_=>false
theorem d0k{A:Around}{s:Shared}{y x:V}{u v:Value}(ry:RelV y u)(rx:RelV x v)(fy:z0v y=true)(fx:z0v x=true):SeqAt.EqAt A s u v (eqV y x):=by
 cases y with
 |non=>
  cases ry;cases x with
  |non=>cases rx;exact SeqAt.EqAt.same _
  |bl b=>cases rx;exact SeqAt.EqAt.none_bool b
  |int b=>obtain ⟨t,rfl⟩:=rx;exact SeqAt.EqAt.none_int b t
  |str b=>obtain ⟨t,rfl⟩:=rx;exact SeqAt.EqAt.none_str b t
  |_=>exact absurd (show false=true from fx) Bool.false_ne_true
 |bl a=>
  cases ry;cases x with
  |non=>cases rx;exact SeqAt.EqAt.bool_none a
  |bl b=>cases rx;exact SeqAt.EqAt.bool_bool a b
  |int b=>obtain ⟨t,rfl⟩:=rx;exact SeqAt.EqAt.bool_int a b t
  |str b=>obtain ⟨t,rfl⟩:=rx;exact SeqAt.EqAt.bool_str a b t
  |_=>exact absurd (show false=true from fx) Bool.false_ne_true
 |int a=>
  obtain ⟨t',rfl⟩:=ry;cases x with
  |non=>cases rx;exact SeqAt.EqAt.int_none a t'
  |bl b=>cases rx;exact SeqAt.EqAt.int_bool a t' b
  |int b=>obtain ⟨t,rfl⟩:=rx;exact SeqAt.EqAt.int_int a t' b t
  |str b=>obtain ⟨t,rfl⟩:=rx;exact SeqAt.EqAt.int_str a t' b t
  |_=>exact absurd (show false=true from fx) Bool.false_ne_true
 |str a=>
  obtain ⟨t',rfl⟩:=ry;cases x with
  |non=>cases rx;exact SeqAt.EqAt.str_none a t'
  |bl b=>cases rx;exact SeqAt.EqAt.str_bool a t' b
  |int b=>obtain ⟨t,rfl⟩:=rx;exact SeqAt.EqAt.str_int a t' b t
  |str b=>obtain ⟨t,rfl⟩:=rx;exact SeqAt.EqAt.str_str a t' b t
  |_=>exact absurd (show false=true from fx) Bool.false_ne_true
 |_=>exact absurd (show false=true from fy) Bool.false_ne_true
theorem v0s:v0m X (.builtin "len") (fun xs H Q=>∃p ys,xs=[.ref p]∧(SqL X.K H p ys∨SqT X.K H p ys)∧Q (.int ys.length) H):=by
 intro pins s σ H xs us Q I r h;obtain ⟨p,ys,rfl,hq,q⟩:=h;obtain ⟨u,rfl,rx⟩:=o0s r;cases rx;have hn:=q0y;rcases hq with hq |hq
 ·obtain ⟨its,r',pl,hz⟩:=I.list hq;have hlen:=r'.length;exact Calls.call_len_list pl.isList (by simp only[List.size_toArray]<;>omega) ⟨.int ys.length,H,I.tok _,⟨s.toks+1,by rw[List.size_toArray,hlen]⟩,q⟩
 ·obtain ⟨its,r',pl,hz⟩:=I.tuple hq;have hlen:=r'.length;exact len_tuple pl (by simp only[List.size_toArray]<;>omega) ⟨.int ys.length,H,I.tok _,⟨s.toks+1,by rw[List.size_toArray,hlen]⟩,q⟩
theorem v0r:v0m X (.type "list") (fun xs H Q=>∃p ys,xs=[.ref p]∧(SqL X.K H p ys∨SqT X.K H p ys)∧∀l,H l=none→Q (.ref l) (upd H l (.lst ys))):=by
 intro pins s σ H xs us Q I r h;obtain ⟨p,ys,rfl,hq,q⟩:=h;obtain ⟨u,rfl,rx⟩:=o0s r;cases rx;have fin:∀(its:List Value),Vals ys its→ys.length≤sizeLine→∀(h':Heap) (c':Nat),(∀b o',s.heap.get? b=some o'→h'.get? b=some o')→
  h'.get? s.heap.objs.size=some {cls:=.type "list",dict:=none,data:=.seq its.toArray c',slots:=#[]}→EP X pins σ Q (.ref s.heap.objs.size) {s with heap:=h'}:=fun its r' hz h' c' kp e=>
  ⟨.ref s.heap.objs.size,_,I.laid (t':=s.toks) kp (Nat.le_refl _) (show ObjOk X.prog X.w _ h' _ (.lst ys)from ⟨hz,its,c',r',e⟩),rfl,q _ (I.hok.fresh (Nat.le_refl _))⟩
 rcases hq with hq |hq
 ·obtain ⟨its,r',pl,hz⟩:=I.list hq;have hlen:=r'.length;obtain ⟨o,ho,hc,n,hd⟩:=pl.isList;exact call_list_seq p (.inl rfl) ho hc hd (fun h' c' kp e=>fin its r' hz h' c' kp e) (by simp only[List.size_toArray]<;>omega)
 ·obtain ⟨its,r',pl,hz⟩:=I.tuple hq;have hlen:=r'.length;obtain ⟨o,ho,hc,n,hd⟩:=pl;exact call_list_seq p (.inr rfl) ho hc hd (fun h' c' kp e=>fin its r' hz h' c' kp e) (by simp only[List.size_toArray]<;>omega)
theorem p5:v0m X (.type "tuple") (fun xs H Q=>∃p ys,xs=[.ref p]∧((SqL X.K H p ys∧∀l,H l=none→Q (.ref l) (upd H l (.tup ys)))∨(SqT X.K H p ys∧Q (.ref p) H))):=by
 intro pins s σ H xs us Q I r h;obtain ⟨p,ys,rfl,h⟩:=h;obtain ⟨u,rfl,rx⟩:=o0s r;cases rx;rcases h with ⟨hq,q⟩|⟨hq,q⟩
 ·obtain ⟨its,r',pl,hz⟩:=I.list hq;have hlen:=r'.length;refine call_tuple_list pl.isList (fun h' kp=>?_) (by simp only[List.size_toArray]<;>omega);have I1:Inv X pins σ H {s with heap:=h'}:=I.kept (t':=s.toks) kp;have I2:Inv X pins σ (upd H h'.objs.size (.tup ys)) {s with heap:=h'.push {cls:=.type "tuple",data:=.seq its.toArray}}:=
   I1.laid (t':=s.toks) (fun b o e=>Heap.get?_push_of_some _ e) (Nat.le_refl _) (show ObjOk X.prog X.w _ _ _ (.tup ys)from ⟨hz,its,r',TupD.new _ _⟩)
  exact ⟨.ref h'.objs.size,_,I2,rfl,q _ (I1.hok.fresh (Nat.le_refl _))⟩
 ·obtain ⟨its,r',pl,hz⟩:=I.tuple hq;exact call_tuple_same pl ⟨.ref p,H,I,rfl,q⟩
noncomputable def tyV(K:PySem.W.Frag)(T:String)(x:V)(H:Hp):Prop:=match x with
 | .str _=>T="str"
 | .int _=>T="int"
 | .ref p=>(T="list"∧∃xs,SqL K H p xs)∨(T="tuple"∧∃o,K.lookup p=some o∧o.cls=.type "tuple"∧o.dict=none)∨
  (T="dict"∧((∃kvs,H p=some (.dK kvs))∨∃kvs,H p=some (.dT kvs)))∨(T="set"∧∃S n,H p=some (.set S n))∨(T="tuple"∧∃xs,H p=some (.tup xs))
 |_=>False
theorem d0j{pins:List (Addr×Obj)}{σ:St}{H:Hp}{s:Shared}{T:String}{x:V}{v:Value}(I:Inv X pins σ H s)(r:RelV x v)(ty:tyV X.K T x H):
 s.TypeIs v T∧∀a,v=.ref a→∃ob,s.heap.get? a=some ob∧ob.dict=none:=by
 cases x with
 |str z=>
  obtain ⟨t,rfl⟩:=r;cases (show T="str" from ty);exact ⟨typeIs_str s z t,fun _ e=>nomatch e⟩
 |int i=>
  obtain ⟨t,rfl⟩:=r;cases (show T="int" from ty);exact ⟨typeIs_int s i t,fun _ e=>nomatch e⟩
 |ref p=>
  cases r;rcases ty with ⟨rfl,xs,hq⟩|⟨rfl,o,hk,hc,hd⟩|⟨rfl,hk⟩|⟨rfl,S,n,hk⟩|⟨rfl,xs,hk⟩
  ·obtain ⟨its,_,pl,_⟩:=I.list hq;refine ⟨pl.isList.typeIs,fun a e=>?_⟩;cases e;obtain ⟨o,n,e,c,hd,_⟩:=pl;exact ⟨o,e,hd⟩
  ·refine ⟨⟨o,I.kIn p o hk,hc⟩,fun a e=>?_⟩;cases e;exact ⟨o,I.kIn _ o hk,hd⟩
  ·have z:∃o,s.heap.get? p=some o∧o.ExactDict:=by
    rcases hk with ⟨kvs,hk⟩|⟨kvs,hk⟩
    ·obtain ⟨_,_,_,_,o,_,_,e,ex,_⟩:=I.hok p _ hk;exact ⟨o,e,ex⟩
    ·obtain ⟨_,_,_,_,o,_,_,e,ex,_⟩:=I.hok p _ hk;exact ⟨o,e,ex⟩
   obtain ⟨o,e,ex⟩:=z;refine ⟨⟨o,e,ex.1⟩,fun a e2=>?_⟩;cases e2;exact ⟨o,e,ex.2.1⟩
  ·obtain ⟨o,_,_,_,e,ex,_⟩:=I.hok p _ hk;refine ⟨⟨o,e,ex.1⟩,fun a e2=>?_⟩;cases e2;exact ⟨o,e,ex.2.1⟩
  ·obtain ⟨_,its,_,o,e,c,_,hd⟩:=I.hok p _ hk;refine ⟨⟨o,e,c⟩,fun a e2=>?_⟩;cases e2;exact ⟨o,e,hd⟩
 |_=>exact False.elim ty
noncomputable def tBM0(K:PySem.W.Frag)(T:String)(r:V→List V→Hp→VK→Prop)(to:TE):TE:=fun σ H Q=>to σ H fun x H1=>tyV K T x H1∧r x [] H1 Q
noncomputable def tBM(K:PySem.W.Frag)(T:String)(r:V→List V→Hp→VK→Prop)(to:TE)(t:TA):TE:=fun σ H Q=>to σ H fun x H1=>tyV K T x H1∧t σ H1 fun xs H2=>r x xs H2 Q
variable{o e:Expr}{es:List Expr}{to:TE}{t:TA}{name:Str}{apos cpos:Pos}{T id:String}{r:V→List V→Hp→VK→Prop}
theorem pe_bm0(pa:PlainAttrs T)(slot:Slot T name id)(hty:typeOf (.builtin id)=pure (.type "method_descriptor"))(hm:MtR X id r)(ho:PE X o to)
 (hbase:attributeBase o name X.env (eval o X.env)=eval o X.env:=by rfl) (hline:(apos.endLine==cpos.line)=true:=by rfl):PE X (.Call (.Attribute o name apos) [] [] cpos) (tBM0 X.K T r to):=by
 intro pins s σ H Q I h;refine wpAny_Call_method0_late hbase hline (thn (ho pins s σ H _ I h) fun v s1 ⟨x,H1,I1,r1,ty,q1⟩=>?_);obtain ⟨h1,h2⟩:=d0j I1 r1 ty;exact ⟨T,id,pa,slot,hty,h1,h2,Calls.callWith_builtin rfl (PySem.evalArgs_none (hm pins s1 σ H1 x [] v [] Q I1 r1 .nil q1))⟩
theorem b0u(pa:PlainAttrs T)(slot:Slot T name id)(hty:typeOf (.builtin id)=pure (.type "method_descriptor"))(hm:MtR X id r)(ho:PE X o to)(ha:PA X (e::es) t)
 (hbase:attributeBase o name X.env (eval o X.env)=eval o X.env:=by rfl)
 (hfew:((backTo cpos (starEach (e::es) X.env)).all (fun x=>!x.1)&&(backToKw cpos (keywordEach [] X.env)).all (fun x=>x.1.isSome)
  &&decide ((e::es).length+([]:List Keyword).length+(if ([]:List Keyword).isEmpty then 0 else 1)<30))=true:=by rfl)
 (hline:(apos.endLine==cpos.line)=true:=by rfl) (hs:starEach (e::es) X.env=(false,eval e X.env)::starEach es X.env:=by rfl) (hplain:(backTo cpos (starEach es X.env)).any (·.1)=false:=by rfl):
 PE X (.Call (.Attribute o name apos) (e::es) [] cpos) (tBM X.K T r to t):=by
 intro pins s σ H Q I h;refine wpAny_Call_method_late hbase hfew hline rfl (thn (ho pins s σ H _ I h) fun v s1 ⟨x,H1,I1,r1,ty,q1⟩=>?_);obtain ⟨h1,h2⟩:=d0j I1 r1 ty;refine ⟨T,id,pa,slot,hty,h1,h2,?_⟩;have hA:=ha cpos pins s1 σ H1 _ I1 q1;rw[hs]at hA ⊢;refine Calls.callWith_builtin (by show (false||(backTo cpos (starEach es X.env)).any (·.1))=false;rw[hplain]<;>rfl) (Calls.evalArgs_plain ?_);exact thn hA fun us s2 ⟨vs,H2,I2,r2,q2⟩=>hm pins s2 σ H2 x vs v us Q I2 r1 r2 q2
end
end L2
namespace L2
open PySem PySem.Spec PyProof.Rows
noncomputable def MtM(X:Cx)(id:String)(r:V→List V→Hp→VK→Prop):Prop:=
 ∀(pins:List (Addr×Obj)) (s:Shared) (σ:St) (H:Hp) (x:V) (xs:List V) (v:Value) (us:List Value) (Q:VK),Inv X pins σ H s→RelV x v→Vals xs us→r x xs H Q→
  wpAny (model X.prog X.w) X.A (call (.builtin id) (v::us)) (EP X pins σ Q) X.xe s
theorem Vals.one:∀{x:V} {us:List Value},Vals [x] us→∃u,us=[u]∧RelV x u
 |_,_,.cons r .nil=>⟨_,rfl,r⟩
theorem Vals.two:∀{x y:V} {us:List Value},Vals [x,y] us→∃u v,us=[u,v]∧RelV x u∧RelV y v
 |_,_,_,.cons r (.cons q .nil)=>⟨_,_,rfl,r,q⟩
theorem Vals.zero:∀{us:List Value},Vals [] us→us=[]
 |_,.nil=>rfl
theorem Vals.dropLast{xs:List V}{us:List Value}(h:Vals xs us):Vals xs.dropLast us.dropLast:=by
 induction h with
 |nil=>exact .nil
 |cons r t ih=>
  cases t with
  |nil=>exact .nil
  |cons q t'=>exact .cons r ih
theorem Vals.rep{xs:List V}{us:List Value}(h:Vals xs us):∀k:Nat,Vals (List.replicate k xs).flatten (List.replicate k us).flatten
 | 0=>.nil
 |k+1=>by
  rw[List.replicate_succ,List.replicate_succ,List.flatten_cons,List.flatten_cons];exact Vals.append h (Vals.rep h k)
theorem k0t{α:Type}(l:List α):l.eraseIdx (l.length-1)=l.dropLast:=by
 induction l with
 |nil=>rfl
 |cons a r ih=>
  cases r with
  |nil=>rfl
  |cons b r=>
   have e:(a::b::r).length-1=((b::r).length-1)+1:=by
    have h1:(a::b::r).length=r.length+2:=rfl;have h2:(b::r).length=r.length+1:=rfl;omega
   rw[e,List.eraseIdx_cons_succ,ih]
   all_goals rfl
theorem x0m(its:List Value):∀(k:Nat) (acc:List Value),
 List.foldl (fun x1 x2=>x1++x2) acc.toArray (List.replicate k its.toArray)=(acc++(List.replicate k its).flatten).toArray
 | 0,acc=>by simp
 |k+1,acc=>by
  have e:acc.toArray++its.toArray=(acc++its).toArray:=by simp
  have e2:(acc++its)++(List.replicate k its).flatten=acc++(List.replicate (k+1) its).flatten:=by
   rw[List.replicate_succ,List.flatten_cons,List.append_assoc]
  rw[←e2,← x0m its k (acc++its),← e,List.replicate_succ,List.foldl_cons]
section
variable{X:Cx}{pins:List (Addr×Obj)}{σ:St}{H:Hp}{s:Shared}{l b:Addr}{xs ys zs:List V}
theorem Inv.lset{its its':List Value}{n:Nat}{f:Array Value→Array Value}{t':Nat}(I:Inv X pins σ H s)(hH:H l=some (.lst xs))
 (e:s.heap.get? l=some {cls:=.type "list",data:=.seq its.toArray n}) (hf:f its.toArray=its'.toArray) (hv:Vals ys its') (hz:ys.length≤sizeLine):
 Inv X pins σ (upd H l (.lst ys)) {s with heap:=s.heap.update l (Obj.mapSeq f),toks:=t'}:=by
 have q:=PySem.IsL.update e f;rw[hf]at q;refine I.write (x:=l) (e:=l) (by rw[hH];exact trivial) (.inl rfl) (fun b' u hb hu=>(Heap.get?_update_other s.heap (Obj.mapSeq f) (Ne.symm hb)).trans hu) ⟨_,q⟩ ?_;exact ⟨hz,its',_,hv,q⟩
theorem Inv.lnew{its:List Value}{t':Nat}(I:Inv X pins σ H s)(hv:Vals ys its)(hz:ys.length≤sizeLine):
 Inv X pins σ (upd H s.heap.objs.size (.lst ys)) {s with heap:=s.heap.push {cls:=.type "list",data:=.seq its.toArray},toks:=t'}:=
 I.laid (fun _ _ q=>Heap.get?_push_of_some _ q) (Nat.le_refl _) ⟨hz,its,0,hv,Heap.get?_push_size _ rfl⟩
theorem Inv.fresh(I:Inv X pins σ H s):H s.heap.objs.size=none:=I.hok.fresh (Nat.le_refl _)
theorem Inv.lstM(I:Inv X pins σ H s)(hH:H l=some (.lst xs)):xs.length≤sizeLine∧∃(its:List Value) (n:Nat),Vals xs its∧xs.length=its.length∧s.heap.get? l=some {cls:=.type "list",data:=.seq its.toArray n}:=by
 obtain ⟨z,its,n,r,e⟩:=I.hok l _ hH;exact ⟨z,its,n,r,r.length,e⟩
theorem f0s{n:Nat}(h:n≤sizeLine):Builtin.List.listTooLong n=false:=by
 unfold Builtin.List.listTooLong;exact decide_eq_false (by omega)
end
section
variable{X:Cx}
noncomputable def j0f:V→List V→Hp→VK→Prop:=fun x vs H Q=>∃l xs y,x=.ref l∧vs=[y]∧H l=some (.lst xs)∧xs.length<sizeLine∧Q .non (upd H l (.lst (xs++[y])))
theorem u0r:MtM X "list.append" j0f:=by
 intro pins s σ H x vs v us Q I rx rv h;obtain ⟨l,xs,y,rfl,rfl,hH,hz,q⟩:=h;cases rx;obtain ⟨u,rfl,ru⟩:=rv.one;obtain ⟨z,its,n,r,hl,e⟩:=I.lstM hH;refine call_meets F.slot_list_append ⟨_,e,rfl⟩ F.entry_list_append (F.args_list_append_2 _ _) (PySem.list_append l its.toArray n u (by rw[List.size_toArray];omega)) ⟨e,?_⟩;refine ⟨.non,_,I.lset (its':=its++[u]) hH e (by simp) (r.append (.cons ru .nil)) ?_,rfl,q⟩;rw[List.length_append,List.length_singleton];omega
noncomputable def rPop:V→List V→Hp→VK→Prop:=fun x vs H Q=>∃l xs y,x=.ref l∧vs=[]∧H l=some (.lst xs)∧xs[xs.length-1]?=some y∧Q y (upd H l (.lst xs.dropLast))
theorem mt_pop:MtM X "list.pop" rPop:=by
 intro pins s σ H x vs v us Q I rx rv h;obtain ⟨l,xs,y,rfl,rfl,hH,hy,q⟩:=h;cases rx;have hus:=rv.zero;subst hus;obtain ⟨z,its,n,r,hl,e⟩:=I.lstM hH;obtain ⟨u,hu,ru⟩:=r.get hy;have hy':its.toArray[its.toArray.size-1]?=some u:=by
  show its.toArray[its.length-1]?=some u;rw[←Array.getElem?_toList,← hl];exact hu
 refine call_meets F.slot_list_pop ⟨_,e,rfl⟩ F.entry_list_pop (F.args_list_pop_1 _) (MeetsSeq.list_pop_last l its.toArray n u hy' (by rw[List.size_toArray];omega)) ⟨e,?_⟩;refine ⟨y,_,I.lset (its':=its.dropLast) hH e ?_ r.dropLast ?_,ru,q⟩
 ·show its.toArray.eraseIdxIfInBounds (its.toArray.size-1)=its.dropLast.toArray;rw[List.size_toArray,List.eraseIdxIfInBounds_toArray,k0t]
 ·rw[List.length_dropLast];omega
noncomputable def rCat:R2:=fun x y H Q=>∃l b xs zs,x=.ref l∧y=.ref b∧H l=some (.lst xs)∧H b=some (.lst zs)∧xs.length+zs.length≤sizeLine∧∀p,H p=none→Q (.ref p) (upd H p (.lst (xs++zs)))
theorem op_cat:OpR X (binaryOp .Add) rCat:=by
 intro pins s σ H x y v u Q I rx ry h;obtain ⟨l,b,xs,zs,rfl,rfl,hH,hB,hz,q⟩:=h;cases rx;cases ry;obtain ⟨z,its,n,r,hl,e⟩:=I.lstM hH;obtain ⟨z2,its2,n2,r2,hl2,e2⟩:=I.lstM hB;refine PySem.P.add_list e e2 ?_ (by rw[List.size_toArray,List.size_toArray];omega);have ea:its.toArray++its2.toArray=(its++its2).toArray:=by simp
 rw[ea];exact ⟨.ref _,_,I.lnew (t':=s.toks) (r.append r2) (by rw[List.length_append];omega),rfl,q _ I.fresh⟩
noncomputable def rRep:R2:=fun x y H Q=>∃l k xs,x=.ref l∧y=.int k∧H l=some (.lst xs)∧-(2^63)≤k∧k<2^63∧xs.length*k.toNat≤sizeLine∧
 ∀p,H p=none→Q (.ref p) (upd H p (.lst (List.replicate k.toNat xs).flatten))
theorem o0o{α:Type}(xs:List α)(k:Nat):(List.replicate k xs).flatten.length=k*xs.length:=by
 induction k with
 |zero=>simp
 |succ k ih=>rw[List.replicate_succ,List.flatten_cons,List.length_append,ih,Nat.succ_mul,Nat.add_comm]
theorem m0v:OpR X (binaryOp .Mult) rRep:=by
 intro pins s σ H x y v u Q I rx ry h;obtain ⟨l,k,xs,rfl,rfl,hH,h1,h2,hz,q⟩:=h;cases rx;obtain ⟨t,rfl⟩:=ry;obtain ⟨z,its,n,r,hl,e⟩:=I.lstM hH;have hlen:its.toArray.size*k.toNat≤sizeLine:=by rw[List.size_toArray,← hl];exact hz
 have hcap:¬its.toArray.size*k.toNat>(2^63-1)/8:=by
  have:(sizeLine:Nat)≤(2^63-1)/8:=by decide
  omega
 have hfit:¬(!Builtin.List.listFitsIndex k)=true:=by
  rw[fitsIndex_both h1 h2];exact Bool.false_ne_true
 have hlong:¬Builtin.List.listTooLong (its.toArray.size*k.toNat)=true:=by
  rw[f0s hlen];exact Bool.false_ne_true
 have hnew:List.foldl (fun x1 x2=>x1++x2) #[] (List.replicate (if its.toArray.isEmpty=true then 0 else k.toNat) its.toArray)=(List.replicate k.toNat its).flatten.toArray:=by
  have f0:∀m:Nat,List.foldl (fun x1 x2=>x1++x2) #[] (List.replicate m its.toArray)=(List.replicate m its).flatten.toArray:=fun m=>by
   have:=x0m its m [];rw[List.nil_append]at this;exact this
  rw[f0];cases its with
  |nil=>simp
  |cons a r'=>rw[if_neg (by simp)]
 refine wpAny_binaryOp_repeat_ref (T:="list") (U:="int") (by decide) ⟨_,e,rfl⟩ (fun s'=>typeIs_int s' k t) noFill_list_mul F.fills_int_mul F.slot_int_rmul repeat_list F.slot_int_index.lookup
  (call_meets F.slot_int_rmul (typeIs_int s k t) F.entry_int_rmul (F.args_int_rmul_2 _ _) (int___rmul___int_list k t l its.toArray n)
   ⟨e,rfl,⟨_,e,rfl⟩,call_meets F.slot_list_mul ⟨_,e,rfl⟩ F.entry_list_mul (F.args_list_mul_2 _ _) (AutoListH.list___mul___list_int_3 l its.toArray n k t hfit hcap hlong) ⟨e,?_⟩⟩)
 rw[hnew];exact ⟨.ref _,_,I.lnew (t':=s.toks) (r.rep k.toNat) (by rw[o0o,Nat.mul_comm];exact hz),rfl,q _ I.fresh⟩
end
section
variable{prog:Program}{w:World}{A:Around}{E:Value→Shared→Prop}{s:Shared}
set_option maxRecDepth 100000 in
end
section
variable{X:Cx}
end
end L2
namespace Att
open PySem PySem.W PySem.Calls PyProof.Rows
theorem u0q{P:Params}{h:Heap}:∀(ns:List Int) (vs:List Value),WellAll P h vs (ns.map WData.int)→IntsAre vs ns:=by
 intro ns
 induction ns with
 |nil=>
  intro vs w;rw[List.map_nil]at w;cases w;exact .nil
 |cons n ns ih=>
  intro vs w;rw[List.map_cons]at w;cases w with
  |cons a b=>
   cases a;exact .cons _ _ (ih _ b)
theorem j0e{l:OpenLaw}{n:Nat}(hn:l.most=some n){P:Params}{h:Heap}{args:List WData}{vals:List Value}
 (hpre:l.row.toRowW.claim.pre args=true) (hwl:WellAll P h vals args):
 ∃a vs ns,vals=[Value.ref a]∧args=[WData.list (ns.map WData.int)]∧h.get? a=some {cls:=.type "list",data:=.seq vs.toArray}∧IntsAre vs ns∧ns.length≤n:=by
 have hsh:WShape.hasAll [] args [.list .int]=true:=(pre_splitW hpre).1;have hc:l.pre.holds [] {args:=args}=true:=(pre_splitW hpre).2;obtain ⟨d,r,rfl,h1,h2⟩:=hasAllW_cons hsh;obtain rfl:=hasAllW_nil h2;obtain ⟨xs,rfl,h3⟩:=hasW_list h1;obtain ⟨ns,rfl⟩:=items_int h3;have hlen:ns.length≤n:=by
  unfold OpenLaw.pre at hc;have h4:(WTm.not (.lt (.lit (.int (n:Int))) (.len (.arg 0)))).holds [] {args:=[.list (ns.map .int)]}=true:=by
   have h4:=(holds_andW hc).1;rw[hn]at h4;exact h4
  have h5:=condW_of h4 (w_not (w_lt w_lit (w_len_list (w_arg rfl))));rw[List.length_map]at h5;refine Nat.le_of_not_lt fun q=>?_
  have q':(n:Int)<((ns.length:Nat):Int):=by omega
  first
   |(rw[decide_eq_true q']at h5;exact absurd h5 (by decide))
   |(simp at h5;omega)
 cases hwl with
 |cons w1 w2=>
  cases w2;cases w1 with
  |list ho hall=>exact ⟨_,_,ns,rfl,rfl,ho,u0q ns _ hall,hlen⟩
theorem j0d(l:OpenLaw)(args:List WData):l.row.toRowW.claim.post args (.bool true) args=true:=
 postW_of (r:=l.row.toRowW) (X:=(true==true))
  (show WShape.has [] (.bool true) .bool=true by first |rfl |decide |simp[WShape.has,WShape.arms,WShape.armsAll])
  (show (WTm.eq .res (.lit (.bool true))).value [] {args:=args,res:=some (.bool true),after:=args}=some (.bool (true==true))from w_eq_bool (w_res rfl) w_lit) rfl
theorem attach_call{l:OpenLaw}{n:Nat}{q:Program}{loose:List Str}{XP:(Str→Option Value)→Heap→Prop}{YP:World→Heap→Prop}{d:DefRec}
 (hn:l.most=some n) (hdf:d.params.defaults=[])
 (call:∀(w:World) (s₀ s₁:Shared) (mg mb:Str→Option Value) (fa:Addr) (o:Obj) (pm cd doc:Value) (a:Addr) (vs:List Value) (ns:List Int),
  Ground q loose [] XP w s₀ mg mb s₁.heap→YP w s₁.heap→
  s₁.heap.get? fa=some o→o.data=.func (docDef d.name d.params d.body d.scope pm cd doc)→s₁.heap.CodeRec cd d.name→mg d.name=some (.ref fa)→
  s₁.heap.get? a=some {cls:=.type "list",data:=.seq vs.toArray}→IntsAre vs ns→ns.length≤n→s₁.gens=#[]→
  codeAny (model l.prog w) callerA (.call (.ref fa) ⟨[.ref a],[]⟩) (fun r s'=>r=.ok (.ret (.bool true))∧OldK s₁.heap s'.heap∧s'.os=s₁.os∧AllBare s'.gens) s₁):
 WalkO q loose XP YP l.row.toRowW d [] (fun f vs=>PySem.call f vs):=by
 intro w s₀ s₁ mg mb G Y fa o pm cd doc dV kV ho hd hcd hD hmg hg args vals as hpre hlay hrd hwl hlo;obtain rfl:dV=.none:=Dflts.none hD hdf;obtain rfl:kV=.none:=Dflts.noKw hD;obtain ⟨a,vs,ns,rfl,rfl,hobj,hints,hlen⟩:=j0e hn hpre hwl;refine enter_call (codeAny_mono (call w s₀ s₁ mg mb fa o pm cd doc a vs ns G Y ho (fd_plain hd) hcd hmg hobj hints hlen hg) fun r s' hq=>?_);obtain ⟨rfl,h2,h3,h4⟩:=hq;exact ⟨.inl ⟨.bool true,.bool true,[],rfl,fun _=>rfl,.bool true,j0d l _,fun _=>⟨List.Pairwise.nil,fun _ hm=>(nomatch hm)⟩⟩,h2,h3,h4⟩
section
variable{prog:Program}{w:World}{A:Around}{E:Value→Shared→Prop}{s:Shared}{K:Frag}
noncomputable def ledger(h:Heap)(L d:Addr):List (Addr×Obj):=(List.range h.objs.size).filterMap fun a=>if a=L∨a=d then none else (h.get? a).map fun o=>(a,o)
end
end Att
namespace L2
open PySem PySem.Spec PyProof.Rows
theorem q0s:∀{vs:List Value} {ns:List Int},IntsAre vs ns→Vals (ns.map V.int) vs
 |_,_,.nil=>.nil
 |_,_,.cons n t h=>.cons ⟨t,rfl⟩ (q0s h)
noncomputable def Only(H:Hp):Prop:=∀b,H b=none∨∃o xs,H b=some (.frz o (.lst xs))
theorem f0r{P:Program}{w:World}{K:PySem.W.Frag}{mg mb:Str→Option Value}{CX:CXT}{k:Nat}{fa a:Addr}{fd:FuncData}{x:Str}{sp:Sp}{s₁:Shared}{vs:List Value}{ns:List Int}
 (KX:K.In s₁.heap) (hns:s₁.heap.Ns mainGlobals mg) (hb:s₁.heap.Ns builtinsNs mb) (hbb:∀x:Str,x≠"__name__"→mb x=bootBuiltins x) (hlim:s₁.heap.NoLimit) (hg:s₁.gens=#[])
 (ha:s₁.heap.get? a=some {cls:=.type "list",data:=.seq vs.toArray}) (hi:IntsAre vs ns) (hl:ns.length≤sizeLine) (hr:Room k callerA)
 (F:∀base:Heap,K.In base→base.Ns mainGlobals mg→FnOk P w K mg base CX k fa fd [x] sp) (hbind:∀(s:Shared) (u:Value),BindsTo s fd ⟨[u],[]⟩ [(x,u)])
 (hsp:∀H:Hp,Only H→SqL K H a (ns.map V.int)→sp [.ref a] H (fun v _=>v=.bl true) fun _ _ _=>False)
 (hCX:∀H e s',CX [] H s₁ (fun _ _ _=>False) e s'→False):
 codeAny (model P w) callerA (.call (.ref fa) ⟨[.ref a],[]⟩) (fun r s'=>r=.ok (.ret (.bool true))∧OldK s₁.heap s'.heap∧s'.os=s₁.os∧AllBare s'.gens) s₁:=by
 have rv:=q0s hi;have lenV:=hi.length;have core:∀H:Hp,Only H→SqL K H a (ns.map V.int)→HOk P w H s₁.heap→(∀b,H b≠none→b=a)→(H a≠none→K.lookup a=none)→
  codeAny (model P w) callerA (.call (.ref fa) ⟨[.ref a],[]⟩) (fun r s'=>r=.ok (.ret (.bool true))∧OldK s₁.heap s'.heap∧s'.os=s₁.os∧AllBare s'.gens) s₁:=by
  intro H hO hS hok hA hK;have base_of:∀{b:Addr} {o:Obj},s₁.heap.get? b=some o→H b=none→(hidT s₁.heap H).get? b=some o:=fun e n=>g0b e n
  have noA:∀{b:Addr} {o:Obj} {es:Array DictEntry} {ep:Nat},s₁.heap.get? b=some o→o.data=.dict es ep→H b=none:=fun {b o es ep} e d=>by
   cases q:H b with
   |none=>rfl
   |some u=>
    have e':b=a:=hA b (by rw[q];simp);subst e';rw[ha]at e;cases e;have d':Data.seq vs.toArray _=Data.dict es ep:=d;cases d'
  have nsK:∀{b:Addr} {m:Str→Option Value},s₁.heap.Ns b m→(hidT s₁.heap H).Ns b m:=fun {b m} ⟨o,es,ep,e,d,r⟩=>⟨o,es,ep,base_of e (noA e d),d,r⟩
  have hKb:K.In (hidT s₁.heap H):=fun b o e=>base_of (KX b o e) (by
   cases q:H b with
   |none=>rfl
   |some u=>
    have e':b=a:=hA b (by rw[q];simp);subst e';rw[hK (by rw[q];simp)]at e;cases e)
  have hM:Mod K mg (hidT s₁.heap H):=⟨hKb,nsK hns,⟨mb,nsK hb,hbb⟩,let ⟨mc,h1,h2⟩:=hlim;⟨mc,nsK h1,h2⟩⟩;have e0:Env0 P w K mg (hidT s₁.heap H) callerA [] s₁ H:=⟨rfl,hM,fun b o e=>c0l e,Nat.le_of_eq (j0y _ _),trivial,fun b hb=>absurd (show b∈([]:List Addr)from hb) (by simp),hok,.of_eq hg⟩;refine codeAny_mono ((F _ hKb (nsK hns)).run callerA [] s₁ H ⟨[.ref a],[]⟩ [.ref a] [.ref a] _ _ hr e0 (hbind s₁ (.ref a)) (.cons rfl .nil) (hsp H hO hS)) fun r s' h=>?_
  cases r with
  |error e=>exact (hCX H e s' h).elim
  |ok fl=>
   cases fl with
   |next=>exact False.elim h
   |brk=>exact False.elim h
   |cont=>exact False.elim h
   |ret u=>
    obtain ⟨v,H',os,bare,un,hok',r',q⟩:=h;have q':v=.bl true:=q;subst q';obtain rfl:u=Value.bool true:=r';refine ⟨rfl,OldK.of_keep fun b o e=>?_,os,bare⟩;cases q:H b with
    |none=>exact un.keep b o e q (by intro z;exact absurd (show b∈([]:List Addr)from z) (by simp)) (by simp)
    |some u=>
     rcases hO b with z |⟨ob,xs,z⟩
     ·rw[q]at z;cases z
     ·have z2:=un.frzs b ob _ z;obtain ⟨e1,_⟩:=hok b _ z;obtain ⟨e2,_⟩:=hok' b _ z2;rw[e]at e1;cases e1;exact e2
 cases hk:K.lookup a with
 |some o=>
  have e:=KX a o hk;rw[ha]at e;cases e;refine core (fun _=>none) (fun _=>.inl rfl) (.inr ⟨_,vs.toArray,_,hk,rfl,rfl,rfl,by rw[List.size_toArray,lenV];exact hl,by simpa using rv⟩) (fun b u z=>by have z':(none:Option HO)=some u:=z;cases z') (fun b z=>absurd rfl z) fun z=>absurd rfl z
 |none=>
  refine core (fun b=>if b=a then some (.frz {cls:=.type "list",data:=.seq vs.toArray} (.lst (ns.map V.int)))else none) (fun b=>?_) (.inl (.inr ⟨{cls:=.type "list",data:=.seq vs.toArray},if_pos rfl⟩)) (fun b u z=>?_) (fun b z=>?_) fun _=>hk
  ·by_cases hb:b=a
   ·exact .inr ⟨_,_,if_pos hb⟩
   ·exact .inl (if_neg hb)
  ·by_cases hb:b=a
   ·have z':=(if_pos hb).symm.trans z;cases z';subst hb;exact ⟨ha,by rw[List.length_map];exact hl,vs,_,rv,ha⟩
   ·have z':=(if_neg hb).symm.trans z;cases z'
  ·by_cases hb:b=a
   ·exact hb
   ·exact absurd (if_neg hb) z
end L2
namespace L2
open PySem PySem.Spec PyProof.Rows
noncomputable abbrev KOf{K:PySem.W.Frag}{h:Heap}(_:K.In h):PySem.W.Frag:=K
theorem walk_of{l:PySem.W.OpenLaw}{n k:Nat}{q:Program}{loose:List Str}{XP:(Str→Option Value)→Heap→Prop}{YP:World→Heap→Prop}{d:DefRec}{K:Params→PySem.W.Frag}{CX:World→CXT}{sp:World→Sp}{x:Str}
 (hn:l.most=some n) (hn2:n≤sizeLine) (hdf:d.params.defaults=[]) (hr:Room k callerA)
 (hY:∀(w:World) (h:Heap),YP w h→(K w.params).In h)
 (F:∀(w:World) (mg:Str→Option Value) (fa:Addr) (h:Heap),(K w.params).In h→h.Ns mainGlobals mg→mg d.name=some (.ref fa)→
  ∃fd:FuncData,(∀(s:Shared) (u:Value),BindsTo s fd ⟨[u],[]⟩ [(x,u)])∧
   ∀base:Heap,(K w.params).In base→base.Ns mainGlobals mg→FnOk l.prog w (K w.params) mg base (CX w) k fa fd [x] (sp w))
 (hsp:∀(w:World) (H:Hp) (a:Addr) (ns:List Int),ns.length≤n→Only H→SqL (K w.params) H a (ns.map V.int)→sp w [.ref a] H (fun v _=>v=.bl true) fun _ _ _=>False)
 (hCX:∀(w:World) (H:Hp) (s:Shared) (e:Value) (s':Shared),CX w [] H s (fun _ _ _=>False) e s'→False):
 PySem.W.WalkO q loose XP YP l.row.toRowW d [] (fun f vs=>PySem.call f vs):=by
 refine Att.attach_call hn hdf fun w s₀ s₁ mg mb fa o pm cd doc a vs ns G Y ho hd hcd hmg hobj hints hlen hg=>?_
 have KX:=hY w _ Y;obtain ⟨fd,hb,hF⟩:=F w mg fa _ KX G.T.g hmg;exact f0r KX G.T.g G.T.b G.T.builtins G.T.nolimit hg hobj hints (Nat.le_trans hlen hn2) hr hF hb (fun H hO hS=>hsp w H a ns hlen hO hS) fun H e s'=>hCX w H s₁ e s'
end L2
namespace L2
open PySem PySem.Spec PyProof.Rows
noncomputable def inClass(s:Stmt)(j:Nat):Stmt:=match s with
 | .ClassDef _ _ _ body _ _ _ _ _ _ _=>body.getD j (.Pass ⟨0,0,0,0⟩)
 |_=>.Pass ⟨0,0,0,0⟩
noncomputable def defArgs(s:Stmt):Arguments:=match s with
 | .FunctionDef _ a _ _ _ _ _ _ _ _=>a
 |_=>{posonlyargs:=[],args:=[],vararg:=none,kwonlyargs:=[],kw_defaults:=[],kwarg:=none,defaults:=[]}
noncomputable def defBody(s:Stmt):List Stmt:=match s with
 | .FunctionDef _ _ b _ _ _ _ _ _ _=>b
 |_=>[]
noncomputable def defScope(s:Stmt):Scope:=match s with
 | .FunctionDef _ _ _ _ _ _ sc _ _ _=>sc
 |_=>{kind:=.function,names:=[],isGenerator:=false,isCoroutine:=false}
noncomputable abbrev CX0:CXT:=fun _ _ _ _ _ _=>False
noncomputable abbrev E0:XK:=fun _ _ _=>False
theorem pass0{X:Cx}:d0l CX0 X E0:=fun _ _ _ _ _ _ _ h=>h.elim
structure Fun(K:PySem.W.Frag)(x qual:Str)(st:Stmt)(f:Addr)(fd:FuncData):Prop where
 ex:∃(oc:Value) (od:Option Addr) (kV doc pm:Value) (an:Option Addr) (cdv ct:Value) (osl:Array (Option Value)),
  fd=PySem.W.fnOf x qual (defArgs st) (defBody st) (defScope st) .none kV doc pm an cdv ct∧K.lookup f=some ⟨oc,od,.func fd,osl⟩∧PySem.W.codeIn K cdv qual=true
 kp:PySem.W.keepIn K (.ref f)=true
section
variable{P:Program}{w:World}{K:PySem.W.Frag}{mg:Str→Option Value}{base:Heap}
theorem Fun.ok{x qual:Str}{st:Stmt}{f:Addr}{fd:FuncData}{N ps:List Str}{k:Nat}{sp:Sp}(F:Fun K x qual st f fd)(S:FnScope N ps (defScope st))(len:∀vs H Q E,sp vs H Q E→vs.length=ps.length)
 (hbody:∀(cdv:Value) (A:Around) (outer:List Env) (s:Shared) (H:Hp) (vs:List V) (Q:VK) (E:XK),Room k (A.deeper (envOfC qual (defScope st) s.heap.objs.size f cdv))→sp vs H Q E→
  ∃t,PSs (cxOf CX0 P w K mg base N qual (defScope st) f cdv A outer s H E).nox (defBody st) t∧t {nx:=fun _ H'=>Q .non H',rt:=Q} (start N vs) H):FnOk P w K mg base CX0 (k+1) f fd ps sp:=by
 obtain ⟨oc,od,kV,doc,pm,an,cdv,ct,osl,rfl,lk,hcd⟩:=F.ex;refine fn_of lk hcd S len fun A outer s H vs Q E hr hsp=>?_
 obtain ⟨t,h,q⟩:=hbody cdv A outer s H vs Q E hr hsp;exact ⟨t,h.nox,q⟩
theorem Fun.binds{x qual:Str}{st:Stmt}{f:Addr}{fd:FuncData}{ps:List Str}(F:Fun K x qual st f fd)
 (h:∀(kV doc pm:Value) (an:Option Addr) (cdv ct:Value) (us:List Value),us.length=ps.length→bindArgs (PySem.W.fnOf x qual (defArgs st) (defBody st) (defScope st) .none kV doc pm an cdv ct) ⟨us,[]⟩=pure (ps.zip us)):Binds K fd ps []:=by
 obtain ⟨oc,od,kV,doc,pm,an,cdv,ct,osl,rfl,lk,hcd⟩:=F.ex;exact .all (h kV doc pm an cdv ct)
end
section
variable{X:Cx}
theorem pv(i:Nat){x:Str}{pos:Pos}(hN:X.N[i]?=some x:=by rfl)(hv:Vis X.env.scope x:=by walk_at "v3")(hd:(x==("__debug__":Str))=false:=by decide)
 (hcd:(x==("__classdict__":Str))=false:=by decide):PE X (.Name x pos) (tVar i):=u0v hN hv hd hcd
end
noncomputable def Same(H H':Hp):Prop:=∀b o,H b=some o→H' b=some o
theorem Same.refl(H:Hp):Same H H:=fun _ _ h=>h
theorem Same.trans{H H1 H2:Hp}(a:Same H H1)(b:Same H1 H2):Same H H2:=fun c o h=>b c o (a c o h)
theorem Same.free{H H':Hp}(e:Same H H'){l:Addr}(h:H' l=Option.none):H l=Option.none:=by
 cases q:H l with
 |none=>rfl
 |some o=>
  rw[e l o q]at h;cases h
end L2
set_option maxRecDepth 20000
namespace L2
open PySem PySem.Spec PyProof.Rows
section
variable{κ:Type}[DecidableEq κ]
noncomputable def putK(kvs:List (κ×V))(k:κ)(v:V):List (κ×V):=
 if (kvs.any fun kv=>decide (kv.1=k))=true then kvs.map (fun kv=>if kv.1=k then (kv.1,v)else kv)else kvs++[(k,v)]
theorem o0n(kvs:List (κ×V))(k:κ)(v:V):(putK kvs k v).length≤kvs.length+1:=by
 unfold putK;split
 ·rw[List.length_map];omega
 ·rw[List.length_append,List.length_cons,List.length_nil];omega
theorem KV.any{kvs:List (κ×V)}{vs:List (κ×Value)}(r:KV kvs vs)(k:κ):(kvs.any fun kv=>decide (kv.1=k))=vs.any fun kv=>decide (kv.1=k):=by
 unfold KV at r
 induction r with
 |nil=>rfl
 |cons h t ih=>rw[List.any_cons,List.any_cons,ih,h.1]
theorem KV.repl{kvs:List (κ×V)}{vs:List (κ×Value)}(r:KV kvs vs)(k:κ){y:V}{u:Value}(ry:RelV y u):
 KV (kvs.map fun kv=>if kv.1=k then (kv.1,y)else kv) (vs.map fun kv=>if kv.1=k then (kv.1,u)else kv):=by
 unfold KV at r ⊢
 induction r with
 |nil=>exact .nil
 | @cons p q ps qs h t ih=>
  rw[List.map_cons,List.map_cons];refine .cons ?_ ih;obtain ⟨h1,h2⟩:=h;by_cases e:p.1=k
  ·rw[if_pos e,if_pos (h1.symm.trans e)];exact ⟨h1,ry⟩
  ·rw[if_neg e,if_neg (fun z=>e (h1.trans z))];exact ⟨h1,h2⟩
theorem KV.put{kvs:List (κ×V)}{vs:List (κ×Value)}(r:KV kvs vs)(k:κ){y:V}{u:Value}(ry:RelV y u):KV (putK kvs k y) (stored vs k u):=by
 unfold putK stored;rw[r.any k];by_cases e:(vs.any fun kv=>decide (kv.1=k))=true
 ·rw[if_pos e,if_pos e];exact r.repl k ry
 ·rw[if_neg e,if_neg e];exact Paired.snoc r ⟨rfl,ry⟩
end
theorem kV_is{P:Program}{w:World}{k:Key}{u:Value}(r:RelV (kV k) u):(k8 P w).is k u=true:=by
 cases k with
 |inl i=>obtain ⟨t,e⟩:=(show ∃t,u=Value.int i t from r);subst e;exact o0w P w i t
 |inr x=>obtain ⟨t,e⟩:=(show ∃t,u=Value.str x t from r);subst e;exact o0v P w x t
section
variable{P:Program}{w:World}{H:Hp}{h:Heap}{a:Addr}
theorem rd_of{u:HO}(ok:HOk P w H h)(e:Rd H a u):ObjOk P w H h a u:=e.ok ok
theorem dk_rd{kvs:List (Key×V)}(ok:HOk P w H h)(e:Rd H a (.dK kvs)):kvs.length≤sizeLine∧(a==sysModules)=false∧∃vs,KV kvs vs∧h.DictOf (k8 P w) a vs:=
 show ObjOk P w H h a (.dK kvs)from rd_of ok e
theorem dk_of{kvs:List (Key×V)}(ok:HOk P w H h)(e:H a=some (.dK kvs)):kvs.length≤sizeLine∧(a==sysModules)=false∧∃vs,KV kvs vs∧h.DictOf (k8 P w) a vs:=dk_rd ok (.inl e)
end
section
variable{X:Cx}{pins:List (Addr×Obj)}{σ:St}{H:Hp}{s:Shared}{a:Addr}{y v:V}{u r:Value}{o:Option V}{A:Around}{E:Value→Shared→Prop}
theorem Inv.big(I:Inv X pins σ H s):sysModules<s.heap.objs.size:=by
 have h:mainGlobals<s.heap.objs.size:=(I.mod.glob.keeps I.bk).lt;exact Nat.lt_trans (by decide) h
theorem b0t{h':Heap}{t':Nat}{ob:HO}(I:Inv X pins σ H s)(mu:Mut (H a))(hs:Heap.SameBut a s.heap h')(he:∃q,h'.get? a=some q)(new:ObjOk X.prog X.w (upd H a ob) h' a ob):
 Inv X pins σ (upd H a ob) {s with heap:=h',toks:=t'}:=
 I.write (x:=a) (e:=a) mu (.inl rfl) (fun b q hb z=>(hs.2 b hb).trans z) he new
theorem dk_new{P:Program}{w:World}{H':Hp}{h':Heap}{kvs:List (Key×V)}{vs:List (Key×Value)}(z:kvs.length≤sizeLine)(hd:(a==sysModules)=false)(rel:KV kvs vs)(dd:h'.DictOf (k8 P w) a vs):
 ObjOk P w H' h' a (.dK kvs):=⟨z,hd,vs,rel,dd⟩
end
section
variable{X:Cx}{pins:List (Addr×Obj)}{σ:St}{H:Hp}{s:Shared}{a:Addr}{kvs:List (Key×V)}{k:Key}{u:Value}{A:Around}{E:Value→Shared→Prop}
end
section
variable{X:Cx}{o i e value:Expr}{pos pos' tpos:Pos}{td ty tv:TE}
end
theorem m0u{P:Program}{w:World}{H:Hp}(h:Heap)(hb:sysModules<h.objs.size):ObjOk P w H (h.push {cls:=.type "dict",data:=.dict #[]}) h.objs.size (.dK []):=
 ⟨Nat.zero_le _,beq_eq_false_iff_ne.mpr (Ne.symm (Nat.ne_of_lt hb)),[],.nil,Heap.DictOf.new h⟩
noncomputable def tDNewK:TE:=fun _ H Q=>∀p,H p=none→Q (.ref p) (upd H p (.dK []))
section
variable{X:Cx}{pos:Pos}
theorem f0q:PE X (.Dict [] [] pos) tDNewK:=fun pins s σ H Q I h=>
 wpAny_Dict_empty ⟨.ref s.heap.objs.size,_,I.laid (a:=s.heap.objs.size) (o:=.dK []) (t':=s.toks) (fun _ _ q=>Heap.get?_push_of_some _ q) (Nat.le_refl _) (m0u s.heap I.big),rfl,h _ (I.hok.fresh (Nat.le_refl _))⟩
end
noncomputable def j0c:List (TE×TE)→St→Hp→(List (V×V)→Hp→Prop)→Prop
 | [],_,H,Q=>Q [] H
 |(tk,tv)::r,σ,H,Q=>tk σ H fun x H1=>tv σ H1 fun y H2=>j0c r σ H2 fun ps H3=>Q ((x,y)::ps) H3
noncomputable abbrev VV:List (V×V)→List (Value×Value)→Prop:=Paired fun p q=>RelV p.1 q.1∧RelV p.2 q.2
noncomputable def PPs(X:Cx)(pos:Pos)(keys:List (Option Expr))(values:List Expr)(trs:List (TE×TE)):Prop:=
 ∀(pins:List (Addr×Obj)) (s:Shared) (σ:St) (H:Hp) (Q:List (V×V)→Hp→Prop),Inv X pins σ H s→j0c trs σ H Q→
  wpAny (model X.prog X.w) X.A (evalPairs (pairTrees keys values X.env pos)) (fun vs s'=>∃ps H',Inv X pins σ H' s'∧VV ps vs∧Q ps H') X.xe s
theorem b0s{X:Cx}{pos:Pos}:PPs X pos [] [] []:=fun pins s σ H Q I h=>pairTrees_nil_walk ⟨[],H,I,.nil,h⟩
theorem f0p{X:Cx}{pos:Pos}{k v:Expr}{ks:List (Option Expr)}{vs:List Expr}{tk tv:TE}{trs:List (TE×TE)}(hk:PE X k tk)(hv:PE X v tv)(hr:PPs X pos ks vs trs):
 PPs X pos (some k::ks) (v::vs) ((tk,tv)::trs):=fun pins s σ H Q I h=>
 pairTrees_cons_walk (thn (hk pins s σ H _ I h) fun u s1 ⟨x,H1,I1,rx,q1⟩=>thn (hv pins s1 σ H1 _ I1 q1) fun w2 s2 ⟨y,H2,I2,ry,q2⟩=>
  thn (hr pins s2 σ H2 _ I2 q2) fun ws s3 ⟨ps,H3,I3,rel,q3⟩=>⟨(x,y)::ps,H3,I3,.cons ⟨rx,ry⟩ rel,q3⟩)
noncomputable def q0r(kvs more:List (Key×V)):List (Key×V):=more.foldl (fun acc kv=>putK acc kv.1 kv.2) kvs
theorem KV.merge:∀{more:List (Key×V)} {rs:List (Key×Value)} {kvs:List (Key×V)} {vs:List (Key×Value)},KV more rs→KV kvs vs→KV (q0r kvs more) (merged vs rs):=by
 intro more rs kvs vs r;unfold KV at r
 induction r generalizing kvs vs with
 |nil=>intro q;exact q
 | @cons p q ps qs h t ih=>
  intro r0;have e:KV (putK kvs p.1 p.2) (stored vs q.1 q.2):=by
   have:=r0.put p.1 h.2;rw[←h.1];exact this
  exact ih e
theorem x0l:∀(more kvs:List (Key×V)),(q0r kvs more).length≤kvs.length+more.length
 | [],kvs=>by show kvs.length≤kvs.length+0;omega
 |p::r,kvs=>by
  have h1:=x0l r (putK kvs p.1 p.2);have h2:=o0n kvs p.1 p.2;show (q0r (putK kvs p.1 p.2) r).length≤_;rw[List.length_cons];omega
theorem s0x{P:Program}{w:World}:∀{kvs:List (Key×V)} {ws:List (Value×Value)},VV (kvs.map fun kv=>(kV kv.1,kv.2)) ws→∃rs,Carries (k8 P w) ws rs∧KV kvs rs
 | [],_,r=>by rw[List.map_nil]at r;cases r;exact ⟨[],True.intro,.nil⟩
 |p::kvs,_,r=>by
  rw[List.map_cons]at r;cases r with
  | @cons a b as bs h t=>
   obtain ⟨rs,c,q⟩:=s0x (P:=P) (w:=w) t;obtain ⟨b1,b2⟩:=b;exact ⟨(p.1,b2)::rs,⟨kV_is h.1,rfl,c⟩,.cons ⟨rfl,h.2⟩ q⟩
noncomputable def tDisp(trs:List (TE×TE)):TE:=fun σ H Q=>∀p,H p=none→j0c trs σ (upd H p (.dK [])) fun ps H2=>H2 p=some (.dK [])∧∃kvs:List (Key×V),ps=kvs.map (fun kv=>(kV kv.1,kv.2))∧kvs.length≤15∧Q (.ref p) (upd H2 p (.dK (q0r [] kvs)))
theorem b0r{X:Cx}{pos:Pos}{keys:List (Option Expr)}{values:List Expr}{trs:List (TE×TE)}(h:PPs X pos keys values trs)(hall:keys.all (·.isSome)=true)(hl:keys.length=values.length)(h0:keys≠[])
 (h15:keys.length≤15):PE X (.Dict keys values pos) (tDisp trs):=by
 intro pins s σ H Q I q;have hn:=I.hok.fresh (Nat.le_refl s.heap.objs.size);have I1:=I.laid (a:=s.heap.objs.size) (o:=.dK []) (h':=s.heap.push {cls:=.type "dict",data:=.dict #[]}) (t':=s.toks) (fun _ _ q=>Heap.get?_push_of_some _ q) (Nat.le_refl _) (m0u s.heap I.big);refine wpAny_Dict_walk (knd:=k8 X.prog X.w) hall hl h0 h15 (thn (h pins _ σ _ _ I1 (q _ hn)) fun ws s2 ⟨ps,H2,I2,rel,e,kvs,ep,lk,q2⟩=>?_);subst ep;obtain ⟨rs,c,rk⟩:=s0x (P:=X.prog) (w:=X.w) rel;obtain ⟨z,hd,vs0,r0,dd⟩:=dk_of I2.hok e;cases r0;refine ⟨rs,c,dd,fun h' dd' hs=>⟨.ref s.heap.objs.size,_,?_,rfl,q2⟩⟩;have hz:(q0r [] kvs).length≤sizeLine:=by
  have h1:=x0l kvs [];rw[List.length_nil]at h1;rw[sizeLine_eq];omega
 have he:∃q,h'.get? s.heap.objs.size=some q:=let ⟨q,_,_,hq,_⟩:=dd';⟨q,hq⟩
 exact b0t I2 (by rw[e];exact True.intro) hs he (dk_new hz hd (rk.merge .nil) dd')
structure M1(X:Cx)(o:Expr)(m:Str)(apos:Pos)(e:Expr)(cpos:Pos):Prop where
 base:attributeBase o m X.env (eval o X.env)=eval o X.env
 few:((backTo cpos (starEach [e] X.env)).all (fun x=>!x.1)&&(backToKw cpos (keywordEach [] X.env)).all (fun x=>x.1.isSome)
  &&decide (([e]:List Expr).length+([]:List Keyword).length+(if ([]:List Keyword).isEmpty then 0 else 1)<30))=true
 line:(apos.endLine==cpos.line)=true
 trees:backTo cpos (starEach [e] X.env)=[(false,eval e X.env)]
structure M2(X:Cx)(o:Expr)(m:Str)(apos:Pos)(e f:Expr)(cpos:Pos):Prop where
 base:attributeBase o m X.env (eval o X.env)=eval o X.env
 few:((backTo cpos (starEach [e,f] X.env)).all (fun x=>!x.1)&&(backToKw cpos (keywordEach [] X.env)).all (fun x=>x.1.isSome)
  &&decide (([e,f]:List Expr).length+([]:List Keyword).length+(if ([]:List Keyword).isEmpty then 0 else 1)<30))=true
 line:(apos.endLine==cpos.line)=true
 trees:backTo cpos (starEach [e,f] X.env)=[(false,eval e X.env),(false,eval f X.env)]
section
variable{X:Cx}{pins:List (Addr×Obj)}{σ:St}{H:Hp}{s:Shared}{a:Addr}{y d:V}{u r:Value}{o:Option V}{A:Around}{E:Value→Shared→Prop}
end
section
variable{X:Cx}{o e f:Expr}{apos cpos:Pos}{td ty tx:TE}
end
section
variable{X:Cx}{pins:List (Addr×Obj)}{σ:St}{H:Hp}{s:Shared}{a:Addr}{kvs:List (Key×V)}{A:Around}{E:Value→Shared→Prop}
end
section
variable{X:Cx}{pins:List (Addr×Obj)}{σ:St}{H:Hp}{s:Shared}{a:Addr}{y:V}{u:Value}{A:Around}{E:Value→Shared→Prop}
end
end L2
set_option maxHeartbeats 4000000
namespace PySem.W
open PySem PySem.Calls PyProof.Rows Builtin Builtin.ObjectAttr Builtin.Getset_descriptor
section
variable{prog:Program}{w:World}{A:Around}{E:Value→Shared→Prop}{R:Result→Shared→Prop}{h:Heap}{g:Array GenState}{d:Drawn}{t:Nat}{os:OsState}
variable{nm q:Str}{C N:Addr}{bs bm bmB:List Value}{hdct:Bool}{sn:List Str}{sub:List Value}{ab:Bool}{col:Option Bool}{dd:Option Addr}{k0 k1 k2 k3 k5:Option Value}{B newId initId:String}
noncomputable abbrev xObj(C t:Addr):Obj:={cls:=.ref C,data:=.fields #[.ref t,.none,.none,.none,.bool false,.none]}
noncomputable abbrev xTup(rest:List Value):Obj:={cls:=.type "tuple",data:=.seq rest.toArray}
theorem type_call_x(F:ExcBaseFacts B newId initId bmB)(T:OwnTail h bmB bm){rest:List Value}{f:Addr}
 (hC:h.get? C=some (excClassObj nm q C N bs bm hdct sn sub ab col dd k0 k1 k2 k3 k5 newId))
 (hi:Looks (model prog w) h (typeLookup (.ref C) "__init__") (some (.ref f))) (hb:∀self,Looks (model prog w) h (bindSpecial (.ref f) self) (.ref f,[self]))
 (hq:codeAny (model prog w) (A.under (.builtin "type.__call__" ⟨.ref C::rest,[]⟩)) (.call (.ref f) ⟨.ref (h.objs.size+1)::rest,[]⟩) (InitBack (h.objs.size+1) R) ⟨(h.push (xTup rest)).push (xObj C h.objs.size),g,d,t,os⟩)
 (hrest:rest.length≤sizeLine):
 codeAny (model prog w) A (.call (.ref C) ⟨rest,[]⟩) R ⟨h,g,d,t,os⟩:=by
 have f1:=tc_lookup;have f2:=tc_bind (.ref C);have hT:(⟨h,g,d,t,os⟩:Shared).TypeIs (.ref C) "type":=⟨_,hC,rfl⟩;refine codeAny_of_tree ?_;show wpAny _ _ (callAny (.ref C) _) _ _ _
 repeat (any_goals (first |assumption |with_reducible refine wpAny_loadPart_at hC ?_ |wp_step))
 refine ⟨rfl,?_⟩;refine codeAny_call_builtin_at (Code.quiet_builtin _ (by decide +kernel)) entry_typeCall (wpAny_check_type_call_sub hC ?_)
 repeat (first |with_reducible refine wpAny_loadPart_at hC ?_ |with_reducible refine wpAny_madeBy_exc hC ?_ |wp_step)
 refine codeAny_call_builtin_code (Code.quiet_builtin _ F.quiet) (wpAny_check_new_subT F T hC ?_);refine codeAny_exc_new_subT F T hC ?_ hrest;show wpAny _ _ _ _ _ _;have k:∀b o,h.get? b=some o→((h.push (xTup rest)).push (xObj C h.objs.size)).get? b=some o:=fun b o e=>Heap.get?_push_of_some _ (Heap.get?_push_of_some _ e)
 have hC₁:=k _ _ hC;have hget:((h.push (xTup rest)).push (xObj C h.objs.size)).get? (h.objs.size+1)=some (xObj C h.objs.size):=by heap_get
 have hcC:(Value.ref C::bm).contains (.ref C)=true:=by simp
 have i1:=hi.keeps k;have b1:=(hb (.ref (h.objs.size+1))).keeps k;unfold isInstance
 repeat (first |with_reducible refine wpAny_loadPart_at hget ?_ |(with_reducible refine wpAny_isSubtype_exc hC₁ ?_;rw[hcC])|wp_step)
 refine wpAny_isSubtype_exc hC₁ ?_;rw[hcC];have t1:Looks (model prog w) ((h.push (xTup rest)).push (xObj C h.objs.size)) (typeOf (.ref (h.objs.size+1))) (.ref C):=(Looks.ld hget).andThen .now;unfold callSpecial? specialOf;simp only[Bool.not_true,Bool.false_eq_true,if_false];refine wpAny_bind (wpAny_holding (wpAny_bind (wpAny_bind (t1.at (i1.at ?_)))));dsimp only;refine wpAny_holding (wpAny_bind (b1.at (wpAny_bind (wpAny_call (codeAny_mono hq fun r s' z=>?_)))));rcases r with e |(v |_ |_ |_)<;>first |exact z |exact z.elim |skip
 obtain ⟨rfl,z⟩:=z;exact wpAny_pure (wpAny_pure z)
theorem type_call_x0(F:ExcBaseFacts B newId initId bmB)(T:OwnTail h bmB bm){mN:Str→Option Value}{Q:Value→Shared→Prop}
 (hC:h.get? C=some (excClassObj nm q C N bs bm hdct sn sub ab col dd k0 k1 k2 k3 k5 newId)) (hn:h.Ns N mN) (hni:mN "__init__"=none)
 (hq:∀h' t2,(∀b o,h.get? b=some o→h'.get? b=some o)→h'.get? (h.objs.size+1)=some (xObj C t2)→Q (.ref (h.objs.size+1)) ⟨h',g,d,t,os⟩):
 wpAny (model prog w) A (call (.ref C) []) Q E ⟨h,g,d,t,os⟩:=by
 have f1:=tc_lookup;have f2:=tc_bind (.ref C);have hT:(⟨h,g,d,t,os⟩:Shared).TypeIs (.ref C) "type":=⟨_,hC,rfl⟩;refine wpAny_call (codeAny_of_tree ?_);show wpAny _ _ (callAny (.ref C) _) _ _ _
 repeat (any_goals (first |assumption |with_reducible refine wpAny_loadPart_at hC ?_ |wp_step))
 refine ⟨rfl,?_⟩;refine codeAny_call_builtin_at (Code.quiet_builtin _ (by decide +kernel)) entry_typeCall (wpAny_check_type_call_sub hC ?_)
 repeat (first |with_reducible refine wpAny_loadPart_at hC ?_ |with_reducible refine wpAny_madeBy_exc hC ?_ |wp_step)
 refine codeAny_call_builtin_code (Code.quiet_builtin _ F.quiet) (wpAny_check_new_subT F T hC ?_);refine codeAny_exc_new_subT F T hC ?_ (by decide);show wpAny _ _ _ _ _ _;have k:∀b o,h.get? b=some o→((h.push (xTup [])).push (xObj C h.objs.size)).get? b=some o:=fun b o e=>Heap.get?_push_of_some _ (Heap.get?_push_of_some _ e)
 have hC₁:=k _ _ hC;have hn₁:((h.push (xTup [])).push (xObj C h.objs.size)).Ns N mN:=let ⟨o,es,ep,e,r⟩:=hn;⟨o,es,ep,k _ _ e,r⟩
 have hget:((h.push (xTup [])).push (xObj C h.objs.size)).get? (h.objs.size+1)=some (xObj C h.objs.size):=by heap_get
 have hcC:(Value.ref C::bm).contains (.ref C)=true:=by simp
 have T₁:=T.keeps k;unfold isInstance
 repeat (first |with_reducible refine wpAny_loadPart_at hget ?_ |(with_reducible refine wpAny_isSubtype_exc hC₁ ?_;rw[hcC])|wp_step)
 refine wpAny_isSubtype_exc hC₁ ?_;rw[hcC];have t1:Looks (model prog w) ((h.push (xTup [])).push (xObj C h.objs.size)) (typeOf (.ref (h.objs.size+1))) (.ref C):=(Looks.ld hget).andThen .now;unfold callSpecial? specialOf;simp only[Bool.not_true,Bool.false_eq_true,if_false];refine wpAny_bind (wpAny_holding (wpAny_bind (wpAny_bind (t1.at (wpAny_typeLookup_tail hC₁ hn₁ T₁ F.mroIs F.init.lookup ?_)))));rw[hni];dsimp only;refine wpAny_holding (wpAny_bind (wpAny_of_eq (F.init.bind _) ?_));refine wpAny_bind (wpAny_call (codeAny_call_builtin F.init.plain F.initEntry (wpAny_check_init_subT F T₁ hC₁ hget rfl ?_)))
 wp_walk
 refine hq _ (h.objs.size+2) (fun b o hb=>?_) ?_
 ·rw[Heap.get?_update_other _ _ (Nat.ne_of_gt (Nat.lt_succ_of_lt (Heap.lt_size hb)))];exact Heap.get?_push_of_some _ (k b o hb)
 ·rw[Heap.get?_update_self _ (Heap.get?_push_of_some _ hget) rfl];simp only[Heap.size_push];rfl
end
end PySem.W
namespace PySem.W
open PySem PySem.Calls PyProof.Rows Builtin Builtin.ObjectAttr Builtin.Getset_descriptor
noncomputable abbrev veMro:List Value:=[.type "ValueError",.type "Exception",.type "BaseException",.type "object"]
noncomputable def m0t:List Value→Bool
 | .ref _::r=>m0t r
 |l=>l==veMro
theorem q0q(self:Value):∀{l:List Value},m0t l=true→refuseLoop self "__setattr__" l=pure ()
 | .ref c::r,e=>by rw[refuseLoop_ref];exact q0q self (l:=r) e
 | [],e=>by cases e
 | .type n::r,e=>by
  have e':(Value.type n::r)=veMro:=beq_iff_eq.mp e;rw[e'];exact PySem.F.store_ValueError.passes self
 | .none::r,e=>by cases (beq_iff_eq.mp e:(Value.none::r)=veMro)
 | .bool _::r,e=>by cases (beq_iff_eq.mp e:(Value.bool _::r)=veMro)
 | .int _ _::r,e=>by cases (beq_iff_eq.mp e:(Value.int _ _::r)=veMro)
 | .str _ _::r,e=>by cases (beq_iff_eq.mp e:(Value.str _ _::r)=veMro)
 | .bytes _ _::r,e=>by cases (beq_iff_eq.mp e:(Value.bytes _ _::r)=veMro)
 | .float _ _::r,e=>by cases (beq_iff_eq.mp e:(Value.float _ _::r)=veMro)
 | .builtin _::r,e=>by cases (beq_iff_eq.mp e:(Value.builtin _::r)=veMro)
 | .notImplemented::r,e=>by cases (beq_iff_eq.mp e:(Value.notImplemented::r)=veMro)
 | .ellipsis::r,e=>by cases (beq_iff_eq.mp e:(Value.ellipsis::r)=veMro)
theorem d0i:∀{l:List Value} {b:Value},m0t l=true→veMro.contains b=true→l.contains b=true
 | .ref c::r,b,e,q=>by rw[List.contains_cons,d0i (l:=r) e q,Bool.or_true]
 | [],b,e,q=>by cases e
 | .type n::r,b,e,q=>by rw[(beq_iff_eq.mp e:(Value.type n::r)=veMro)];exact q
 | .none::r,_,e,_=>by cases (beq_iff_eq.mp e:(Value.none::r)=veMro)
 | .bool _::r,_,e,_=>by cases (beq_iff_eq.mp e:(Value.bool _::r)=veMro)
 | .int _ _::r,_,e,_=>by cases (beq_iff_eq.mp e:(Value.int _ _::r)=veMro)
 | .str _ _::r,_,e,_=>by cases (beq_iff_eq.mp e:(Value.str _ _::r)=veMro)
 | .bytes _ _::r,_,e,_=>by cases (beq_iff_eq.mp e:(Value.bytes _ _::r)=veMro)
 | .float _ _::r,_,e,_=>by cases (beq_iff_eq.mp e:(Value.float _ _::r)=veMro)
 | .builtin _::r,_,e,_=>by cases (beq_iff_eq.mp e:(Value.builtin _::r)=veMro)
 | .notImplemented::r,_,e,_=>by cases (beq_iff_eq.mp e:(Value.notImplemented::r)=veMro)
 | .ellipsis::r,_,e,_=>by cases (beq_iff_eq.mp e:(Value.ellipsis::r)=veMro)
structure XC(K:Frag)(C:Addr):Prop where
 over:(clsIn K C).any (fun cd=>m0t cd.mro)=true
 sa:findIn K (.ref C) "__setattr__"=some (some (.builtin "object.__setattr__"))
 ga:findIn K (.ref C) "__getattribute__"=some (some (.builtin "BaseException.__getattribute__"))
 gh:findIn K (.ref C) "__getattr__"=some none
 hd:hasDictIn K C=true
 ca:findIn K (.ref C) "__class__"=some (some (.builtin "object.__class__"))
 cg:specialIn K (.builtin "object.__class__") "__get__"=some (some (.builtin "getset_descriptor.__get__"))
 ct:takesIn K (.builtin "object.__class__")=some true
section
variable{prog:Program}{w:World}{A:Around}{E:Value→Shared→Prop}{K:Frag}{C x:Addr}{s:Shared}{R:Result→Shared→Prop}
theorem XC.mro(c:XC K C){b:Value}(hb:veMro.contains b=true):mroIn K C b=some true:=by
 obtain ⟨cd,hc,ho⟩:=any_some c.over;have ne:cd.mro.isEmpty=false:=by cases q:cd.mro with |nil=>rw[q]at ho;cases ho |cons _ _=>rfl
 unfold mroIn;rw[hc,Option.bind_some,if_neg (by rw[ne];decide),d0i ho hb]
theorem osa_x{ox:Obj}{od:Option Obj}{name:Str}{tk:Tok}{v:Value}{r:Option Value}(X:K.In s.heap)(I:InstAt s.heap x ox C od)(c:XC K C)(ht:takerIn K C name=some r)
 (h:∀b,wpAny (model prog w) A.in1 (match r with |some a=>setByDescriptor a (.ref x) v |none=>storeInOwnDict (.ref x) (.ref C) (.str name tk) name v b)
  (fun fin s'=>match fin with | .done f=>R (.ok f) s' | .again c'=>c'.quiet=true∧codeAny (model prog w) A c' R s') (fun e s'=>R (.error e) s') s):
 codeAny (model prog w) A (.call (.builtin "object.__setattr__") ⟨[.ref x,.str name tk,v],[]⟩) R s:=by
 have SF:=PySem.F.store_object;obtain ⟨cd,hc,ho⟩:=any_some c.over;have sub:Looks (model prog w) s.heap (isInstance (.ref x) (.type "object")) true:=I.type.andThen (looks_mroIn X (c.mro (by decide)));refine codeAny_call_builtin SF.slot.plain SF.entry (@check_slot (model prog w) _ _ s "object.__setattr__" "object" "__setattr__" (.ref x) [.str name tk,v] [] _ SF.kind SF.split sub (SF.args (.ref x) (.str name tk) v) ?_);obtain ⟨attr,ha,hr⟩:=Option.bind_eq_some_iff.mp ht;have hm:Looks (model prog w) s.heap (mroOf (.ref C)) cd.mro:=(looks_clsIn X hc).andThen .now;have L3:Looks (model prog w) s.heap (storeTaker? attr) r:=by
  cases attr with
  |none=>cases hr;exact .now
  |some a=>
   obtain ⟨b,hb,rfl⟩:=Option.map_eq_some_iff.mp hr;refine (looks_takesIn X hb).andThen ?_;cases b<;>exact .now
 rw[osa_eq,refuse_eq];refine wpAny_bind (wpAny_bind (I.type.here (wpAny_bind (hm.here ?_))));rw[q0q _ ho];refine wpAny_pure (wpAny_bind (I.type.here (wpAny_bind ((looks_findIn X ha).here (wpAny_bind (L3.here ?_))))));exact h _
theorem set_x0{name:Str}{v:Value}{Q:Unit→Shared→Prop}{vs:Array Value}(X:K.In s.heap)(c:XC K C)(hx:s.heap.get? x=some ⟨.ref C,none,.fields vs,#[]⟩)(ht:takerIn K C name=some none)
 (h:∀h',h'.get? x=some ⟨.ref C,some s.heap.objs.size,.fields vs,#[]⟩→h'.Ns1 s.heap.objs.size (fun y=>if y=name then some v else none)→
  (∀b o,b≠x→s.heap.get? b=some o→h'.get? b=some o)→Q () {s with heap:=h',toks:=s.toks+2}):
 wpAny (model prog w) A (setAttr (.ref x) name v) Q E s:=by
 have J:InstAt s.heap x ⟨.ref C,none,.fields vs,#[]⟩ C none:=⟨hx,rfl,rfl,trivial⟩;refine set_plain X J c.sa (osa_x (s:={s with toks:=s.toks+1}) (r:=none) X J c ht fun b=>?_);obtain ⟨cd,hc,hd'⟩:=any_some c.hd;obtain ⟨hp,g,d,t,os⟩:=s;refine wpAny_bind (wpAny_pure (wpAny_bind (wpAny_bind (wpAny_loadPart hx (wpAny_bind (Looks.here (s:=⟨hp,g,d,t+1,os⟩) (looks_clsIn X hc) ?_))))));rw[hd'];have hx₁:(hp.push {cls:=.type "dict",data:=.dict #[]}).get? x=some ⟨.ref C,none,.fields vs,#[]⟩:=Heap.get?_push_of_some _ hx;have hxs:x≠hp.objs.size:=Nat.ne_of_lt (Heap.lt_size hx);show wpAny _ _ (alloc {cls:=.type "dict",data:=.dict #[]} >>= fun d=>update x (fun o=>{cls:=o.cls,dict:=some d,data:=o.data,slots:=o.slots}) >>= fun _=>dictMade (.ref C) x d) _ _ _;refine wpAny_bind (wpAny_alloc' ?_);refine wpAny_bind (wpAny_update' hx₁ ?_);refine wpAny_pure ?_;have hgd:((hp.push {cls:=.type "dict",data:=.dict #[]}).update x fun o=>{cls:=o.cls,dict:=some hp.objs.size,data:=o.data,slots:=o.slots}).get? hp.objs.size
  =some {cls:=.type "dict",data:=.dict #[]}:=
  (Heap.get?_update_ne _ _ _ _ hxs.symm).trans (Heap.get?_push_at rfl rfl)
 have hnd:((hp.push {cls:=.type "dict",data:=.dict #[]}).update x fun o=>{cls:=o.cls,dict:=some hp.objs.size,data:=o.data,slots:=o.slots}).Ns hp.objs.size (fun _=>none):=
  ⟨_,#[],_,hgd,rfl,fun e he=>absurd he (by simp),fun _=>rfl⟩
 show wpAny _ _ (storeInDict hp.objs.size (.str name t) name v) _ _ _;unfold storeInDict newKeyGuard;refine wpAny_bind (wpAny_pure (wpAny_bind (wpAny_nsSet1 (Heap.Ns1.of_empty hnd) fun h' hn' hs=>?_)));obtain ⟨oD,esD,epD,hoD,hdD,hcD⟩:=hn'.count (Within.cons name v Within.nil);refine wpAny_bind (wpAny_lookBehind hoD (by rw[hdD];exact pastItsLine_dict (Nat.le_trans hcD (by rw[List.length_cons,List.length_nil,sizeLine_eq];omega))) ?_);refine wpAny_pure (h h' ?_ hn' fun b o hb e=>?_)
 ·refine (hs.2 x hxs).trans (Heap.get?_update_self _ hx₁ rfl)
 ·exact (hs.2 b (Nat.ne_of_lt (Heap.lt_size e))).trans ((Heap.get?_update_ne _ _ _ _ hb).trans (Heap.get?_push_of_some _ e))
theorem f0o:builtinKind "BaseException.__getattribute__"=some .slot:=by decide +kernel
theorem j0b:splitId "BaseException.__getattribute__"=some ("BaseException","__getattribute__"):=by decide +kernel
theorem bga_slot:Slot "ValueError" "__getattribute__" "BaseException.__getattribute__":=
 .of (owner:="BaseException") (n:="__getattribute__") (by rw[typeLookup_type,builtinLookup_eq_fast];kernel_rfl) (by decide +kernel) (by decide +kernel) (by decide +kernel)
  (by first |exact .inl (by decide +kernel)|exact .inr (by decide +kernel)) (by rw[isSubtype_type];kernel_rfl)
theorem j0a{ox:Obj}{od:Option Obj}{name:Str}{fill expr:Bool}{r:Found}{t:Tok}{Q:Value→Shared→Prop}(X:K.In s.heap)(I:InstAt s.heap x ox C od)(c:XC K C)
 (hf:findObj K C od name=some r)
 (h:wpAny (model prog w) A.in1 (match r with | .value v=>ret v | .bind g a=>bindTo g a (.ref x) (.ref C)| .missing=>unsupported "") (fun fin s'=>∃v,fin=.done (.ret v)∧wpAny (model prog w) A (handedOut v) Q E s') (fun _ _=>False) s)
 (hr:r≠.missing):wpAny (model prog w) A (getAttrBy (.ref x) (.str name t) fill expr) Q E s:=by
 obtain ⟨hp,g,d,tk,os⟩:=s;have L0:=I.type (M:=model prog w);have L1:=looks_findIn (M:=model prog w) X c.ga;have LG:=looks_findIn (M:=model prog w) X c.gh;have L2:=looks_find (M:=model prog w) X I hf;have hx0:(expr&&onTheHeap (Value.builtin "BaseException.__getattribute__"))=false:=by cases expr<;>rfl
 have hx2:(Value.builtin "BaseException.__getattribute__"==Value.builtin "object.__getattribute__")=false:=by decide +kernel
 have hx1:(onTheHeap (Value.ref C)&&Value.builtin "BaseException.__getattribute__"==Value.builtin "object.__getattribute__")=false:=by rw[hx2];rfl
 have sub:Looks (model prog w) hp (isInstance (.ref x) (.type "BaseException")) true:=I.type.andThen (looks_mroIn X (c.mro (by decide)));have hbnd:=bga_slot.bind (.ref x);unfold getAttrBy;refine wpAny_holding (wpAny_bind (L0.at (wpAny_bind (L1.at ?_))));dsimp only;rw[if_neg (by rw[hx1];decide)];unfold getAttrByItsOwn hookBefore;rw[if_pos (show onTheHeap (Value.ref C)=true from rfl)];refine wpAny_bind (LG.at (wpAny_bind (wpAny_attempt (wpAny_holding ?_))));unfold callGetattribute;rw[if_neg (by rw[hx0];decide)];unfold boundAndCalled;rw[hbnd];refine wpAny_bind (wpAny_pure ?_);refine wpAny_call (codeAny_call_builtin bga_slot.plain F.entry_bexc_ga (@check_slot (model prog w) _ _ ⟨hp,g,d,tk,os⟩ "BaseException.__getattribute__" "BaseException" "__getattribute__" (.ref x) [.str name t] [] _ f0o j0b sub (F.args_bexc_ga (.ref x) (.str name t)) ?_));refine wpAny_bind (wpAny_pure (wpAny_bind (wpAny_pure (wpAny_bind (L0.at (wpAny_bind (L2.at ?_)))))));cases r with
 |value v=>
  refine wpAny_mono h (fun fin s' z=>?_) fun _ _ z=>z.elim
  obtain ⟨v,rfl,z⟩:=z;exact z
 |bind g a=>
  refine wpAny_mono h (fun fin s' z=>?_) fun _ _ z=>z.elim
  obtain ⟨v,rfl,z⟩:=z;exact z
 |missing=>exact absurd rfl hr
theorem get_x{ox:Obj}{od:Option Obj}{name:Str}{expr:Bool}{v:Value}{Q:Value→Shared→Prop}(X:K.In s.heap)(I:InstAt s.heap x ox C od)(c:XC K C)
 (hf:findObj K C od name=some (.value v)) (hh:handedIn v=true) (h:Q v {s with toks:=s.toks+1}):wpAny (model prog w) A (getAttr (.ref x) name expr) Q E s:=by
 unfold getAttr;refine wpAny_bind (wpAny_mkText (j0a (s:={s with toks:=s.toks+1}) X I c hf (wpAny_pure ⟨v,rfl,?_⟩) (fun q=>by cases q)));rw[handedOut_of hh];exact wpAny_pure h
theorem cls_x{ox:Obj}{od:Option Obj}{Q:Option Value→Shared→Prop}(X:K.In s.heap)(I:InstAt s.heap x ox C od)(c:XC K C)(h:Q (some (.ref C)) {s with toks:=s.toks+1}):
 wpAny (model prog w) A (getAttr? (.ref x) "__class__") Q E s:=by
 have hf:findObj K C od "__class__"=some (.bind (.builtin "getset_descriptor.__get__") (.builtin "object.__class__")):=by
  obtain ⟨cd,hc,_⟩:=any_some c.hd;unfold findObj;rw[hc,Option.bind_some,c.ca,Option.bind_some];show ((specialIn K (.builtin "object.__class__") "__get__").bind _)=_;rw[c.cg,Option.bind_some];show ((takesIn K (.builtin "object.__class__")).bind _)=_;rw[c.ct];rfl
 unfold getAttr? getAttrBy?;refine wpAny_bind (wpAny_mkText (wpAny_bind (wpAny_attempt (j0a (s:={s with toks:=s.toks+1}) X I c hf ?_ (fun q=>by cases q)))));show wpAny _ _ (holding [_] (call (.builtin "getset_descriptor.__get__") [.builtin "object.__class__",.ref x,.ref C]) >>= ret) _ _ _;refine wpAny_bind (wpAny_holding (wpAny_call (class_get (s:={s with toks:=s.toks+1}) X I (c.mro (by decide)) (wpAny_pure ⟨_,rfl,?_⟩))));exact handed_on rfl (wpAny_pure h)
theorem kitx_x{ox:Obj}{od:Option Obj}(c:XC K C):KitX K (.ref x) (.ref C) (fun h=>InstAt h x ox C od)where
 ty:=fun _ _ _ I=>I.type
 it:=fun _ _ X _=>by
  obtain ⟨cdD,hcD,_⟩:=any_some c.hd;unfold clsIn at hcD;split at hcD
  ·rename_i c' d' cd' sl' ho;intro A' Q' E' s' k q;unfold isType loadHead;exact wpAny_bind (wpAny_loadPart (k _ _ (X _ _ ho)) (wpAny_pure q))
  ·cases hcD
 ne:=fun h tp dd its n sl X htp=>by
  obtain ⟨cdD,hcD,_⟩:=any_some c.hd;refine Bool.eq_false_iff.mpr fun q=>?_
  have e:C=tp:=Value.ref.inj (beq_iff_eq.mp q);subst e;unfold clsIn at hcD;split at hcD
  ·rename_i c' d' cd' sl' ho;have z:=(X _ _ ho).symm.trans htp;cases z
  ·cases hcD
 ca:=fun X I k=>cls_x X I c k
end
end PySem.W
namespace L2
open PySem PySem.Spec PyProof.Rows
open PySem.W (XC)
noncomputable def XO(fr:Nat)(x C:Addr)(od:Option Addr):HO:=.ext fun h=>∃o vs,h.get? x=some o∧o.cls=.ref C∧o.dict=od∧o.data=.fields vs∧((fr=1→o.slots=#[]∧vs[1]?=some .none∧4<vs.size)∧(fr≠0→vs[2]?=some .none))
noncomputable def XD(dx:Addr)(fs:List (Str×V)):HO:=.ext fun h=>∃mA,h.Ns1 dx mA∧(∀f,RelO (fs.lookup f) (mA f))∧PySem.Within mA (fs.map (·.1))
theorem XO.ok{P:Program}{w:World}{H:Hp}{h:Heap}{fr:Nat}{x C:Addr}{od:Option Addr}(hx:∃o vs,h.get? x=some o∧o.cls=.ref C∧o.dict=od∧o.data=.fields vs∧((fr=1→o.slots=#[]∧vs[1]?=some .none∧4<vs.size)∧(fr≠0→vs[2]?=some .none))):ObjOk P w H h x (XO fr x C od):=by
 refine ⟨hx,?_,fun h1 h2 q k=>?_⟩
 ·obtain ⟨o,_,e,_⟩:=hx;exact ⟨o,e⟩
 ·obtain ⟨o,vs,e,r⟩:=q;exact ⟨o,vs,k o e,r⟩
theorem XD.ok{P:Program}{w:World}{H:Hp}{h:Heap}{dx:Addr}{fs:List (Str×V)}(hx:∃mA,h.Ns1 dx mA∧(∀f,RelO (fs.lookup f) (mA f))∧PySem.Within mA (fs.map (·.1))):ObjOk P w H h dx (XD dx fs):=by
 refine ⟨hx,?_,fun h1 h2 q k=>?_⟩
 ·obtain ⟨mA,⟨o,es,ep,e,_⟩,_⟩:=hx;exact ⟨o,e⟩
 ·obtain ⟨mA,⟨o,es,ep,e,r⟩,z⟩:=q;exact ⟨mA,⟨o,es,ep,k o e,r⟩,z⟩
theorem ObjOk.there{P:Program}{w:World}{H:Hp}{h:Heap}{a:Addr}{o:HO}(x:ObjOk P w H h a o):∃u,h.get? a=some u:=by
 cases o with
 |lst xs=>obtain ⟨_,_,_,_,e⟩:=x;exact ⟨_,e⟩
 |tup xs=>obtain ⟨_,_,_,o,e,_⟩:=x;exact ⟨_,e⟩
 |dK kvs=>obtain ⟨_,_,_,_,o,_,_,e,_⟩:=x;exact ⟨_,e⟩
 |dT kvs=>obtain ⟨_,_,_,_,o,_,_,e,_⟩:=x;exact ⟨_,e⟩
 |set S n=>obtain ⟨o,_,_,_,e,_⟩:=x;exact ⟨_,e⟩
 |ins C dx fs=>obtain ⟨_,_,_,e,_⟩:=x;exact ⟨_,e⟩
 |own y=>obtain ⟨_,e⟩:=x;exact ⟨_,e⟩
 |xd fs=>obtain ⟨_,⟨_,_,_,e,_⟩,_⟩:=x;exact ⟨_,e⟩
 |rng lo hi=>obtain ⟨_,_,_,e⟩:=x;exact ⟨_,e⟩
 |frz ob u=>obtain ⟨e,_⟩:=x;exact ⟨_,e⟩
 |tbl ps=>exact ⟨_,(show h.get? a=some _ from x)⟩
 |met f y=>exact ⟨_,(show h.get? a=some _ from x)⟩
 |ext φ=>obtain ⟨_,⟨_,e⟩,_⟩:=x;exact ⟨_,e⟩
theorem HOk.free{P:Program}{w:World}{H:Hp}{h:Heap}{a:Addr}(x:HOk P w H h)(e:h.get? a=none):H a=none:=by
 cases q:H a with
 |none=>rfl
 |some u=>
  obtain ⟨o,z⟩:=(x a u q).there;rw[e]at z;cases z
theorem Inv.laidN{X:Cx}{pins:List (Addr×Obj)}{σ:St}{H:Hp}{s:Shared}{h':Heap}{a:Addr}{o:HO}{t':Nat}(I:Inv X pins σ H s)(k:∀b u,s.heap.get? b=some u→h'.get? b=some u)(hp:s.heap.get? a=none)(new:ObjOk X.prog X.w (upd H a o) h' a o):
 Inv X pins σ (upd H a o) {s with heap:=h',toks:=t'}:=by
 have hn:=I.hok.free hp;have nb:∀b u,s.heap.get? b=some u→b≠a:=fun b u q z=>by rw[z,hp]at q;cases q
 refine I.un (t':=t') ⟨fun b u q _ _ _=>k b u q,fun b u q _ _ _=>⟨u.slots,k b u q⟩,fun b u q n _=>by rw[u0 (nb b u q)];exact n,fun b u q _=>⟨u,k b u q⟩,fun b xs q=>by rw[u0 (v0 q hn)];exact q,
  fun b u xs q=>by rw[u0 (v0 q hn)];exact q,fun b ps q=>⟨#[],by rw[u0 (v0 q hn),q];simp⟩⟩ fun b u e=>?_
 by_cases hb:b=a
 ·subst hb;rw[g0]at e;cases e;exact new
 ·rw[u0 hb]at e;exact (I.hok b u e).stay (fun c v _ q=>k c v q) (fun c q=>by rw[u0 (v0 q hn)];exact q) fun c xs q=>by rw[u0 (v0 q hn)];exact q
theorem XO.get{P:Program}{w:World}{H:Hp}{h:Heap}{fr:Nat}{x C:Addr}{od:Option Addr}(hok:HOk P w H h)(e:H x=some (XO fr x C od)):
 ∃o vs,h.get? x=some o∧o.cls=.ref C∧o.dict=od∧o.data=.fields vs∧((fr=1→o.slots=#[]∧vs[1]?=some .none∧4<vs.size)∧(fr≠0→vs[2]?=some .none)):=(show ObjOk P w H h x (XO fr x C od)from hok x _ e).1
theorem XD.get{P:Program}{w:World}{H:Hp}{h:Heap}{dx:Addr}{fs:List (Str×V)}(hok:HOk P w H h)(e:H dx=some (XD dx fs)):
 ∃mA,h.Ns1 dx mA∧(∀f,RelO (fs.lookup f) (mA f))∧PySem.Within mA (fs.map (·.1)):=(show ObjOk P w H h dx (XD dx fs)from hok dx _ e).1
section
variable{X:Cx}{pins:List (Addr×Obj)}{σ:St}{H:Hp}{s:Shared}{x C dx:Addr}{fs:List (Str×V)}{f:Str}{v:V}{A:Around}{E:Value→Shared→Prop}
theorem xset0{y:V}{u:Value}{Q:Unit→Shared→Prop}(I:Inv X pins σ H s)(e:H x=some (XO 1 x C none))(c:XC X.K C)(n:NoAttr X.K C f)(ry:RelV y u)
 (h:∀d s',H d=none→d≠x→Inv X pins σ (upd (upd H d (XD d [(f,y)])) x (XO 1 x C (some d))) s'→Q () s'):wpAny (model X.prog X.w) A (setAttr (.ref x) f u) Q E s:=by
 obtain ⟨o,vs,hx,h1,h2,h3,h40⟩:=XO.get I.hok e;obtain ⟨h4,h5,h7⟩:=h40.1 rfl;have h6:=h40.2;clear h40;obtain ⟨oc,od,odt,osl⟩:=o;dsimp only at h1 h2 h3 h4;subst h1 h2 h3 h4;have hxs:x≠s.heap.objs.size:=Nat.ne_of_lt (Heap.lt_size hx);refine PySem.W.set_x0 I.kIn c hx n.taker fun h' e1 e2 e3=>h s.heap.objs.size _ (I.hok.fresh (Nat.le_refl _)) hxs.symm ?_
 have mu:Mut (H x):=by rw[e];exact True.intro
 have keep:∀b o,b≠x→s.heap.get? b=some o→h'.get? b=some o:=e3;have hx':∃o vs,h'.get? x=some o∧o.cls=.ref C∧o.dict=some s.heap.objs.size∧o.data=.fields vs∧((1=1→o.slots=#[]∧vs[1]?=some .none∧4<vs.size)∧(1≠0→vs[2]?=some .none)):=⟨_,vs,e1,rfl,rfl,rfl,fun _=>⟨rfl,h5,h7⟩,h6⟩;have hfree:H s.heap.objs.size=none:=I.hok.fresh (Nat.le_refl _);have neF:∀b o,s.heap.get? b=some o→b≠s.heap.objs.size:=fun b o q=>Nat.ne_of_lt (Heap.lt_size q)
 have neT:∀b u,H b=some u→b≠s.heap.objs.size:=fun b u q z=>by rw[z,hfree]at q;cases q
 have nx:∀b,H b=none→b≠x:=fun b q z=>by rw[z,e]at q;cases q
 have tr:∀b u,H b=some u→b≠x→(upd (upd H s.heap.objs.size (XD s.heap.objs.size [(f,y)])) x (XO 1 x C (some s.heap.objs.size))) b=some u:=fun b u q z=>by rw[u0 z,u0 (neT b u q)];exact q
 refine I.un (t':=s.toks+2) ⟨fun b o q q2 _ _=>keep b o (nx b q2) q,fun b o q q2 _ _=>⟨o.slots,keep b o (nx b q2) q⟩,fun b o q q2 _=>?_,fun b o q _=>?_,fun b xs q=>?_,fun b o u q=>?_,fun b ps q=>⟨#[],?_⟩⟩ ?_
 ·rw[u0 (nx b q2),u0 (neF b o q)];exact q2
 ·by_cases z:b=x
  ·subst z;exact ⟨_,e1⟩
  ·exact ⟨o,keep b o z q⟩
 ·exact tr b _ q (fun z=>by rw[z,e]at q;cases q)
 ·exact tr b _ q (fun z=>by rw[z,e]at q;cases q)
 ·rw[tr b _ q (fun z=>by rw[z,e]at q;cases q)];simp
 ·intro b u q;by_cases z:b=x
  ·subst z;rw[g0]at q;cases q;exact XO.ok hx'
  ·rw[u0 z]at q;by_cases z2:b=s.heap.objs.size
   ·subst z2;rw[g0]at q;cases q;refine XD.ok ⟨_,e2,fun g=>?_,fun g hg=>?_⟩
    ·have l:=u0t f g y [];rw[show putF f y []=[(f,y)]from rfl]at l;rw[l];by_cases w:g=f
     ·rw[if_pos w,if_pos w];exact ry
     ·rw[if_neg w,if_neg w];exact True.intro
    ·by_cases w:g=f
     ·rw[w];simp
     ·exact absurd (if_neg w) hg
   ·rw[u0 z2]at q;refine (I.hok b u q).stay (fun c' v' hc q'=>keep c' v' ?_ q') (fun b' q'=>tr b' _ q' (fun z=>by rw[z,e]at q';cases q')) (fun b' xs q'=>tr b' _ q' (fun z=>by rw[z,e]at q';cases q'));rcases hc with hc |hc
    ·rw[hc];exact z
    ·exact fun z=>by rw[z,e]at hc;cases hc
theorem XO.inst{fr:Nat}{od:Option Addr}(I:Inv X pins σ H s)(e:H x=some (XO fr x C od))(he:∀d,od=some d→∃o,s.heap.get? d=some o):∃ox odo,PySem.W.InstAt s.heap x ox C odo∧∀d,od=some d→∃o,odo=some o∧s.heap.get? d=some o:=by
 obtain ⟨o,vs,hx,h1,h2,h3,_⟩:=XO.get I.hok e;cases od with
 |none=>exact ⟨o,none,⟨hx,h1,by unfold PySem.W.notCls;rw[h3],by rw[h2];trivial⟩,fun d z=>by cases z⟩
 |some d=>
  obtain ⟨od,hd⟩:=he d rfl;exact ⟨o,some od,⟨hx,h1,by unfold PySem.W.notCls;rw[h3],by rw[h2];exact hd⟩,fun d' z=>by cases z;exact ⟨od,rfl,hd⟩⟩
theorem xget{fr:Nat}{b:Bool}{Q:Value→Shared→Prop}(I:Inv X pins σ H s)(e:H x=some (XO fr x C (some dx)))(ed:H dx=some (XD dx fs))(c:XC X.K C)(n:NoAttr X.K C f)(l:fs.lookup f=some v)
 (h:∀u s',Inv X pins σ H s'→RelV v u→Q u s'):wpAny (model X.prog X.w) A (getAttr (.ref x) f b) Q E s:=by
 obtain ⟨mA,hn,r,wi⟩:=XD.get I.hok ed;obtain ⟨u,hu,ru⟩:=RelO.some_of (v:=v) (o:=mA f) (by rw[←l];exact r f);obtain ⟨od,hod,hl⟩:=u0u hn;obtain ⟨ox,odo,J,k⟩:=XO.inst I e fun d z=>by cases z;exact ⟨od,hod⟩
 obtain ⟨o',rfl,ho'⟩:=k dx rfl;rw[hod]at ho';cases ho';exact PySem.W.get_x I.kIn J c (PySem.W.findObj_own c.hd n rfl (by rw[hl,hu])) (j0l ru) (h u _ (I.tok _) ru)
end
noncomputable def sX0(K:PySem.W.Frag)(ta tv:TE)(f:Str):TS:=fun D σ H=>tv σ H fun y H1=>ta σ H1 fun x H2=>∃a C,x=.ref a∧H2 a=some (XO 1 a C none)∧XC K C∧NoAttr K C f∧
 ∀d,H2 d=none→d≠a→D.nx σ (upd (upd H2 d (XD d [(f,y)])) a (XO 1 a C (some d)))
noncomputable def tXFld(K:PySem.W.Frag)(ta:TE)(f:Str):TE:=fun σ H Q=>ta σ H fun x H1=>∃fr a C d fs v,x=.ref a∧H1 a=some (XO fr a C (some d))∧H1 d=some (XD d fs)∧XC K C∧NoAttr K C f∧fs.lookup f=some v∧Q v H1
section
variable{X:Cx}{o e value:Expr}{f:Str}{pos pos' tpos:Pos}{ta tv:TE}
theorem ps_x0(ha:PE X o ta)(hv:PE X value tv)(hs:swapsWith value (some (.Attribute o f pos')) pos.line X.env=pure false):PS X (.Assign [.Attribute o f pos'] value pos) (sX0 X.K ta tv f):=by
 intro pins s σ H D I h;refine plainObj_wpAny_Assign_Attribute (thn (hv pins s σ H _ I h) fun u s1 ⟨y,H1,I1,ry,q⟩=>thn (ha pins s1 σ H1 _ I1 q) fun ov s2 ⟨x,H2,I2,rx,a,C,ex,ea,c,n,q2⟩=>?_) hs;subst ex;obtain rfl:ov=Value.ref a:=rx;exact xset0 I2 ea c n ry fun d s3 hd hne I3=>⟨σ,_,I3,q2 d hd hne⟩
theorem b0q(he:PE X e ta)(hb:attributeBase e f X.env (eval e X.env)=eval e X.env):PE X (.Attribute e f pos) (tXFld X.K ta f):=by
 intro pins s σ H Q I h;refine c0a hb (thn (he pins s σ H _ I h) fun u s1 ⟨x,H1,I1,rx,fr,a,C,dx,fs,v,ex,ea,ed,c,n,l,q⟩=>?_);subst ex;obtain rfl:u=Value.ref a:=rx;exact xget I1 ea ed c n l fun u' s2 I2 ru=>⟨v,H1,I2,ru,q⟩
end
noncomputable def xcIn(K:PySem.W.Frag)(C:Addr):Bool:=match K.lookup C with
 |some ⟨.type "type",_,.cls cd,sl⟩=>(match cd.mro,sl.toList with
  | .ref C'::bm,[_,_,_,_,some (.builtin n),_]=>C'==C&&n=="ValueError.__new__"&&!cd.hasDel&&PySem.W.tailIn K PySem.W.veMro bm
  |_,_=>false)
 |_=>false
theorem d0h{K:PySem.W.Frag}{h:Heap}{C:Addr}(X:K.In h)(q:xcIn K C=true):∃nm qn N bs bm hdct sn sub ab col dd k0 k1 k2 k3 k5,
 h.get? C=some (excClassObj nm qn C N bs bm hdct sn sub ab col dd k0 k1 k2 k3 k5 "ValueError.__new__")∧OwnTail h PySem.W.veMro bm:=by
 unfold xcIn at q;split at q
 ·rename_i dd cd sl ho;split at q
  ·rename_i C' bm k0 k1 k2 k3 n k5 hm hs;simp only[Bool.and_eq_true,beq_iff_eq,Bool.not_eq_true']at q;obtain ⟨⟨⟨rfl,rfl⟩,hdel⟩,ht⟩:=q;obtain ⟨nm,bs,mro,ns,qn,hd,sn,sub,ab,col,del⟩:=cd;dsimp only at hm hdel;subst hm hdel;have hsl:sl=#[k0,k1,k2,k3,some (.builtin "ValueError.__new__"),k5]:=by
    obtain ⟨l⟩:=sl;simp only at hs;rw[hs]
   subst hsl;exact ⟨nm,qn,ns,bs,bm,hd,sn,sub,ab,col,dd,k0,k1,k2,k3,k5,X _ _ ho,PySem.W.tail_of_in X ht⟩
  ·cases q
 ·cases q
structure XMk(K:PySem.W.Frag)(C f:Addr):Prop where
 sh:xcIn K C=true
 init:PySem.W.findIn K (.ref C) "__init__"=some (some (.ref f))
 fn:PySem.W.isFn K (.ref f)=true
 kp:PySem.W.keepIn K (.ref C)=true
section
variable{X:Cx}{CX:CXT}{k:Nat}{f C:Addr}{fd:FuncData}{ps:List Str}{sp:Sp}{E:XK}{x m:Str}{p pos apos:Pos}{e o:Expr}{es:List Expr}{ta:TE}{t:TA}
theorem Inv.madeX{pins:List (Addr×Obj)}{σ:St}{H:Hp}{s:Shared}{us:List Value}(I:Inv X pins σ H s):
 Inv X pins σ (upd H (s.heap.objs.size+1) (XO 1 (s.heap.objs.size+1) C none)) {s with heap:=(s.heap.push (PySem.W.xTup us)).push (PySem.W.xObj C s.heap.objs.size)}:=by
 have I1:=I.kept (h':=s.heap.push (PySem.W.xTup us)) (t':=s.toks) fun b o e=>Heap.get?_push_of_some _ e
 have e2:((s.heap.push (PySem.W.xTup us)).push (PySem.W.xObj C s.heap.objs.size)).get? (s.heap.objs.size+1)=some (PySem.W.xObj C s.heap.objs.size):=by
  have:=Heap.get?_push_size (s.heap.push (PySem.W.xTup us)) (o:=PySem.W.xObj C s.heap.objs.size) rfl
  rwa[Heap.size_push]at this
 exact I1.laid (a:=s.heap.objs.size+1) (o:=XO 1 (s.heap.objs.size+1) C none) (t':=s.toks) (fun b u q=>Heap.get?_push_of_some _ q) (Nat.le_of_eq (Heap.size_push _ _)) (XO.ok ⟨_,_,e2,rfl,rfl,rfl,⟨fun _=>⟨rfl,rfl,by simp⟩,fun _=>rfl⟩⟩)
theorem q0p{pins:List (Addr×Obj)}{σ:St}{H:Hp}{s:Shared}{Q:VK}{us:List Value}{vs:List V}(M:XMk X.K C f)(F:FnOk X.prog X.w X.K X.mg X.base CX k f fd ps sp)(hr:Room (k+1) X.A)(hb:Binds X.K fd ps [])
 (hx:d0l CX X E) (I:Inv X pins σ H s) (r:Vals vs us) (hz:vs.length≤sizeLine)
 (hq:sp (.ref (s.heap.objs.size+1)::vs) (upd H (s.heap.objs.size+1) (XO 1 (s.heap.objs.size+1) C none)) (fun v H2=>v=.non∧Q (.ref (s.heap.objs.size+1)) H2) E):
 wpAny (model X.prog X.w) X.A (call (.ref C) us) (fun u s'=>u=.ref (s.heap.objs.size+1)∧EP X pins σ Q u s') X.xe s:=by
 have I2:=Inv.madeX (C:=C) (us:=us) I;have r2:Vals (V.ref (s.heap.objs.size+1)::vs) (Value.ref (s.heap.objs.size+1)::us):=.cons rfl r;have hl:(Value.ref (s.heap.objs.size+1)::us++[]).length=ps.length:=by
  have e:=r2.length;rw[F.len _ _ _ _ hq]at e;rw[List.append_nil];exact e.symm
 obtain ⟨nm,qn,N,bs,bm,hdct,sn,sub,ab,col,dd,k0,k1,k2,k3,k5,hC,hT⟩:=d0h I.kIn M.sh;have hbd:=hb _ (Value.ref (s.heap.objs.size+1)::us) I2.kIn hl;rw[List.append_nil]at hbd;have hrun:=F.run _ X.stack _ _ ⟨Value.ref (s.heap.objs.size+1)::us,[]⟩ (Value.ref (s.heap.objs.size+1)::us) _ _ E (hr.make C us []) (I2.env0.make C us []) hbd r2 hq;obtain ⟨hh,g,d,tk,os⟩:=s;refine wpAny_call (PySem.W.type_call_x PySem.F.excBase_ValueError hT hC (PySem.W.looks_findIn I.kIn M.init) (fun self=>PySem.W.bind_fn I.kIn self (beq_iff_eq.mp M.fn)) (codeAny_mono hrun fun r s' hq'=>?_) (by rw[←r.length];exact hz));cases r with
 |error e=>exact hx pins σ _ _ e s' I2 hq'
 |ok fl=>
  cases fl with
  |ret u=>
   obtain ⟨v,H',I3,rv,ev,q3⟩:=I2.after hq';subst ev;exact ⟨rv,rfl,⟨V.ref (hh.objs.size+1),H',I3,rfl,q3⟩⟩
  |next=>exact False.elim hq'
  |brk=>exact False.elim hq'
  |cont=>exact False.elim hq'
structure XMk0(K:PySem.W.Frag)(C:Addr):Prop where
 ex:PySem.W.excIn K C PySem.W.veMro "ValueError.__new__"=true
 kp:PySem.W.keepIn K (.ref C)=true
theorem f0n{pins:List (Addr×Obj)}{σ:St}{H:Hp}{s:Shared}{Q:VK}{A:Around}{E:Value→Shared→Prop}(M:XMk0 X.K C)(I:Inv X pins σ H s)(h:Q (.ref (s.heap.objs.size+1)) (upd H (s.heap.objs.size+1) (XO 1 (s.heap.objs.size+1) C none))):
 wpAny (model X.prog X.w) A (call (.ref C) []) (EP X pins σ Q) E s:=by
 have q:=M.ex;unfold PySem.W.excIn at q;split at q
 ·rename_i dd cd sl ho;split at q
  ·rename_i C' bm k0 k1 k2 k3 n k5 hm hs;simp only[Bool.and_eq_true,beq_iff_eq,Bool.not_eq_true']at q;obtain ⟨⟨⟨⟨⟨rfl,rfl⟩,hdel⟩,ht⟩,hok⟩,hni⟩:=q;obtain ⟨nm,bs,mro,ns,qn,hd,sn,sub,ab,col,del⟩:=cd;dsimp only at hm hdel hok hni;subst hm hdel;have hsl:sl=#[k0,k1,k2,k3,some (.builtin "ValueError.__new__"),k5]:=by
    obtain ⟨l⟩:=sl;simp only at hs;rw[hs]
   subst hsl;obtain ⟨hh,g,d,tk,os⟩:=s;refine PySem.W.type_call_x0 PySem.F.excBase_ValueError (PySem.W.tail_of_in I.kIn ht) (I.kIn _ _ ho) (Heap.Ns.of_isNs (PySem.W.isNs_of_in I.kIn hok)) (PySem.W.nsMap_none_of_in I.kIn hok hni) (fun h' t2 kp hx=>?_);exact ⟨.ref (hh.objs.size+1),_,I.laidN (a:=hh.objs.size+1) (o:=XO 1 (hh.objs.size+1) C' none) (t':=tk) kp (Heap.get?_none_of_le (Nat.le_succ _)) (XO.ok ⟨_,_,hx,rfl,rfl,rfl,⟨fun _=>⟨rfl,rfl,by simp⟩,fun _=>rfl⟩⟩),rfl,h⟩
  ·cases q
 ·cases q
end
end L2
namespace L2
open PySem PySem.Spec PyProof.Rows
open PySem.W (XC)
inductive TyX(K:PySem.W.Frag)(H:Hp):V→Value→Prop where
 |of {x:V} {t:Value} (h:TyOf K H x t):TyX K H x t
 |exc {fr:Nat} {a C d:Addr} {fs:List (Str×V)} (e:H a=some (XO fr a C (some d))) (ed:H d=some (XD d fs)) (c:XC K C):TyX K H (.ref a) (.ref C)
 |exc0 {fr:Nat} {a C:Addr} (e:H a=some (XO fr a C none)) (c:XC K C):TyX K H (.ref a) (.ref C)
section
variable{X:Cx}
noncomputable def InstB(K:PySem.W.Frag)(H:Hp)(t:Value)(c:V)(b:Bool):Prop:=
 (∃n,c=.ty n∧PySem.W.kitOne K t (.type n)=some b)∨(∃C,c=.ref C∧PySem.W.kitOne K t (.ref C)=some b)∨∃(a:Addr) (cs:List String),c=.ref a∧H a=some (.tup (cs.map V.ty))∧PySem.W.kitAny K t (cs.map Value.type)=some b
noncomputable def rInst(K:PySem.W.Frag):List V→Hp→VK→Prop:=fun vs H Q=>∃x c t b,vs=[x,c]∧TyX K H x t∧InstB K H t c b∧Q (.bl b) H
theorem d0g:∀{cs:List String} {us:List Value},Vals (cs.map V.ty) us→us=cs.map Value.type
 | [],_,.nil=>rfl
 |c::cs,_,.cons r t=>by
  have e:_=Value.type c:=r;rw[e,d0g t];rfl
theorem m4{pins:List (Addr×Obj)}{s:Shared}{σ:St}{H:Hp}{Q:VK}{c:V}{u cv t:Value}{b:Bool}{HH:Heap→Prop}(I:Inv X pins σ H s)(Z:PySem.W.KitX X.K u t HH)(p:HH s.heap)(rc:RelV c cv)(e:InstB X.K H t c b)
 (hx:u≠.builtin "__main__.__loader__#opaque") (q:Q (.bl b) H):wpAny (model X.prog X.w) X.A (call (.builtin "isinstance") [u,cv]) (EP X pins σ Q) X.xe s:=by
 have fin:∀tk,EP X pins σ Q (.bool b) {s with toks:=tk}:=fun tk=>⟨.bl b,H,I.tok tk,rfl,q⟩
 rcases e with ⟨n,rfl,e⟩|⟨C,rfl,e⟩|⟨a,cs,rfl,ha,e⟩
 ·cases rc;exact PySem.W.kia_one Z I.kIn p e hx fin
 ·cases rc;exact PySem.W.kia_one Z I.kIn p e hx fin
 ·cases rc;obtain ⟨z,its,r,o,ho,hc,⟨n,hd⟩,_⟩:=(show ObjOk X.prog X.w H s.heap a (.tup (cs.map V.ty))from I.hok a _ ha);obtain rfl:=d0g r;obtain ⟨oc,od,odt,osl⟩:=o;dsimp only at hc hd;subst hc hd;exact PySem.W.kia_tup Z I.kIn p ho e hx fin
theorem m5:v0m X (.builtin "isinstance") (rInst X.K):=by
 intro pins s σ H xs us Q I rv h;obtain ⟨x,c,t,b,rfl,ty,e,q⟩:=h;obtain ⟨u,cv,rfl,rx,rc⟩:=Vals.two rv;cases ty with
 |exc ea ed c=>
  rename_i fr a C d fs;cases (show u=Value.ref a from rx);obtain ⟨mA,hn,_,_⟩:=XD.get I.hok ed;obtain ⟨od,hod,_⟩:=u0u hn;obtain ⟨ox,odo,J,k⟩:=XO.inst I ea fun d z=>by cases z;exact ⟨od,hod⟩
  exact m4 I (PySem.W.kitx_x c) J rc e (fun z=>nomatch z) q
 |exc0 ea c=>
  rename_i fr a C;cases (show u=Value.ref a from rx);obtain ⟨ox,odo,J,k⟩:=XO.inst I ea fun d z=>by cases z
  exact m4 I (PySem.W.kitx_x c) J rc e (fun z=>nomatch z) q
 |of ty=>
  cases ty with
  |non=>cases (show u=Value.none from rx);exact m4 I PySem.W.kitx_none True.intro rc e (fun z=>nomatch z) q
  |bl y=>cases (show u=Value.bool y from rx);exact m4 I PySem.W.kitx_bool True.intro rc e (fun z=>nomatch z) q
  |int i=>obtain ⟨t,z⟩:=(show ∃t,u=Value.int i t from rx);cases z;exact m4 I PySem.W.kitx_int True.intro rc e (fun z=>nomatch z) q
  |str y=>obtain ⟨t,z⟩:=(show ∃t,u=Value.str y t from rx);cases z;exact m4 I PySem.W.kitx_str True.intro rc e (fun z=>nomatch z) q
  |flt y=>obtain ⟨t,z⟩:=(show ∃t,u=Value.float y t from rx);cases z;exact m4 I PySem.W.kitx_float True.intro rc e (fun z=>nomatch z) q
  | @lst a xs ea=>
   cases (show u=Value.ref a from rx);obtain ⟨_,_,n,_,h1⟩:=(show ObjOk X.prog X.w H s.heap a (.lst xs)from I.hok a _ ea);exact m4 I PySem.W.kitx_list ⟨_,h1,rfl⟩ rc e (fun z=>nomatch z) q
  | @frz a ob xs ea=>
   cases (show u=Value.ref a from rx);obtain ⟨_,_,_,n,_,h1⟩:=(show ObjOk X.prog X.w H s.heap a (.frz ob (.lst xs))from I.hok a _ ea);exact m4 I PySem.W.kitx_list ⟨_,h1,rfl⟩ rc e (fun z=>nomatch z) q
  | @tup a xs ea=>
   cases (show u=Value.ref a from rx);obtain ⟨_,_,_,p⟩:=(show ObjOk X.prog X.w H s.heap a (.tup xs)from I.hok a _ ea);obtain ⟨o,h1,h2,_⟩:=p;exact m4 I PySem.W.kitx_tuple ⟨o,h1,h2⟩ rc e (fun z=>nomatch z) q
  | @dK a kvs ea=>
   cases (show u=Value.ref a from rx);obtain ⟨_,_,vs,_,p⟩:=(show ObjOk X.prog X.w H s.heap a (.dK kvs)from I.hok a _ ea);obtain ⟨o,es,ep,h1,h2,_⟩:=p;exact m4 I PySem.W.kitx_dict ⟨o,h1,h2.1⟩ rc e (fun z=>nomatch z) q
  | @dT a kvs ea=>
   cases (show u=Value.ref a from rx);obtain ⟨_,_,xs,_,o,es,ep,h1,h2,_⟩:=(show ObjOk X.prog X.w H s.heap a (.dT kvs)from I.hok a _ ea);exact m4 I PySem.W.kitx_dict ⟨o,h1,h2.1⟩ rc e (fun z=>nomatch z) q
  | @ins a C dx fs ea cl ha hn htk hm=>
   cases (show u=Value.ref a from rx);obtain ⟨mA,O,_⟩:=c0b I.hok ea;obtain ⟨od,J,_⟩:=O.look;exact m4 I (PySem.W.kitx_own (cl.get _) cl.hd ha hn htk hm) J rc e (fun z=>nomatch z) q
noncomputable def rAll(K:PySem.W.Frag):List V→Hp→VK→Prop:=fun vs H Q=>∃(a:Addr) (bs:List Bool),vs=[.ref a]∧SqL K H a (bs.map V.bl)∧Q (.bl (bs.all id)) H
theorem m0s:∀{bs:List Bool} {us:List Value},Vals (bs.map V.bl) us→PyProof.Rows.LSm.BoolsAre us bs
 | [],_,.nil=>.nil
 |b::bs,_,.cons r t=>by
  have e:_=Value.bool b:=r;subst e;exact .cons b (m0s t)
theorem s0g(hc:X.calm=true):v0m X (.builtin "all") (rAll X.K):=by
 intro pins s σ H xs us Q I rv h;obtain ⟨a,bs,rfl,hq,q⟩:=h;obtain ⟨u,rfl,ru⟩:=rv.one;cases (show u=Value.ref a from ru);obtain ⟨its,r,p,hz⟩:=I.list hq;have hl:=p.isList;have hb:=m0s r;have hlt:a<s.heap.objs.size:=by obtain ⟨_,e,_⟩:=hl;exact Heap.lt_size e
 refine call_all_walk (wpAny_pyIter_list hl ?_);refine ⟨s.heap.objs.size,[s.heap.objs.size,a],[s.heap.objs.size],its.toArray.size,_,_,fun i=>(bs[i]?).getD true,rfl,Walks.list (A:=X.A.in1) (I.ok.hd hc) _ a (Nat.ne_of_lt hlt) its.toArray,
  ⟨⟨_,Heap.get?_push_size _ rfl,rfl,rfl⟩,hl.push _⟩,fun i v s' Q' E' hP hQ=>?_,fun h' tk hk=>?_⟩
 ·obtain ⟨b,e,rfl⟩:=hb.get i v (by simpa using hP);simp only[e,Option.getD_some]at hQ;exact wpAny_truthy_bool hQ
 ·have e:((List.range its.toArray.size).all fun i=>(bs[i]?).getD true)=bs.all id:=by
   rw[List.size_toArray,hb.length];exact PyProof.Rows.LSm.range_all bs
  rw[e];exact ⟨.bl _,H,I.kept (PyProof.Rows.LSm.kept_iter hk),rfl,q⟩
end
end L2
namespace L2
open PySem PySem.Spec PyProof.Rows
theorem s0w{scope:Scope}{env:Env}(h:∀p∈scope.names,p.2=.free→∃c,env.cells.lookup p.1=some c):
 ∃cl,closureFor scope env=pure cl∧(∀y c,cl.lookup y=some c→env.cells.lookup y=some c)∧∀y,(y,NameKind.free)∈scope.names→∃c,cl.lookup y=some c:=by
 have key:∀(names:List (Str×NameKind)) (cs:List (Str×Addr)),(∀p∈names,p.2=.free→∃c,env.cells.lookup p.1=some c)→(∀y c,cs.lookup y=some c→env.cells.lookup y=some c)→
  ∃cl,(forIn names cs (fun (p:Str×NameKind) (r:List (Str×Addr))=>match p with |(name,kind)=>if (kind==NameKind.free)=true then cellOf env name >>= fun c=>pure (ForInStep.yield ((name,c)::r))else pure (ForInStep.yield r)):Sem (List (Str×Addr)))=pure cl∧
   (∀y c,cl.lookup y=some c→env.cells.lookup y=some c)∧(∀y,(y,NameKind.free)∈names→∃c,cl.lookup y=some c)∧∀y c,cs.lookup y=some c→∃c',cl.lookup y=some c':=by
  intro names
  induction names with
  |nil=>intro cs _ hc;exact ⟨cs,rfl,hc,(fun y hy=>by cases hy),fun y c e=>⟨c,e⟩⟩
  |cons p r ih=>
   intro cs hp hc;obtain ⟨pn,pk⟩:=p;rw[List.forIn_cons];dsimp only;by_cases hk:pk=.free
   ·obtain ⟨c,e⟩:=hp (pn,pk) List.mem_cons_self hk;have hco:cellOf env pn=pure c:=by
     unfold cellOf;dsimp only at e;rw[e]
    have hb:(pk==NameKind.free)=true:=by rw[hk];rfl
    obtain ⟨cl,h1,h2,h3,h4⟩:=ih ((pn,c)::cs) (fun q hq=>hp q (List.mem_cons_of_mem _ hq)) (fun y c' e'=>by
     rw[List.lookup_cons]at e';split at e'
     ·rename_i z;have:y=pn:=beq_iff_eq.mp z;subst this;cases e';exact e
     ·exact hc y c' e')
    refine ⟨cl,?_,h2,fun y hy=>?_,fun y c' e'=>?_⟩
    ·rw[if_pos hb,hco,pure_bind,pure_bind];exact h1
    ·rcases List.mem_cons.mp hy with z |z
     ·have:y=pn:=congrArg Prod.fst z;subst this;exact h4 _ c (by rw[List.lookup_cons];simp)
     ·exact h3 y z
    ·by_cases z:y=pn
     ·subst z;exact h4 _ c (by rw[List.lookup_cons];simp)
     ·exact h4 y c' (by rw[List.lookup_cons,beq_eq_false_iff_ne.mpr z];exact e')
   ·have hb:¬(pk==NameKind.free)=true:=by simpa using hk
    obtain ⟨cl,h1,h2,h3,h4⟩:=ih cs (fun q hq=>hp q (List.mem_cons_of_mem _ hq)) hc;refine ⟨cl,?_,h2,fun y hy=>?_,h4⟩
    ·rw[if_neg hb,pure_bind];exact h1
    ·rcases List.mem_cons.mp hy with z |z
     ·exact absurd (congrArg Prod.snd z).symm hk
     ·exact h3 y z
 obtain ⟨cl,h1,h2,h3,_⟩:=key scope.names [] h (fun y c e=>by cases e);refine ⟨cl,?_,h2,h3⟩;unfold closureFor;exact (bind_pure _).trans h1
theorem z0u{env:Env}:∀{names:List (Str×NameKind)} {x:Str} {k:NameKind},(names.map fun (n,k)=>if (k==NameKind.free&&env.scope.kind== .function&&env.kindOf n==some .cell)then (n,NameKind.cell)else (n,k)).lookup x=some k→
 k=.cell∨k=.free→(∀y∈names,y.2≠.cell)→(x,NameKind.free)∈names
 | [],_,_,h,_,_=>by simp at h
 |(n,k0)::r,x,k,h,hk,hc=>by
  have h:List.lookup x ((if (k0==NameKind.free&&env.scope.kind== .function&&env.kindOf n==some .cell)=true then (n,NameKind.cell)else (n,k0))::(r.map fun (n,k)=>if (k==NameKind.free&&env.scope.kind== .function&&env.kindOf n==some .cell)then (n,NameKind.cell)else (n,k)))=some k:=h;by_cases hx:x=n
  ·subst hx;by_cases hcnd:(k0==NameKind.free&&env.scope.kind== .function&&env.kindOf x==some .cell)=true
   ·have:k0=.free:=by
     rw[Bool.and_eq_true,Bool.and_eq_true]at hcnd;exact beq_iff_eq.mp hcnd.1.1
    rw[this];exact List.mem_cons_self
   ·rw[if_neg hcnd,List.lookup_cons,beq_self_eq_true]at h;have e:k0=k:=Option.some.inj h;subst e;rcases hk with e |e
    ·exact absurd e (hc (x,k0) List.mem_cons_self)
    ·rw[e];exact List.mem_cons_self
  ·refine List.mem_cons_of_mem _ (z0u (env:=env) (k:=k) ?_ hk fun y hy=>hc y (List.mem_cons_of_mem _ hy));have hb:(x==n)=false:=beq_eq_false_iff_ne.mpr hx;by_cases hcnd:(k0==NameKind.free&&env.scope.kind== .function&&env.kindOf n==some .cell)=true
   ·rw[if_pos hcnd,List.lookup_cons,hb]at h;exact h
   ·rw[if_neg hcnd,List.lookup_cons,hb]at h;exact h
structure CompOk(X:Cx)(x:Str)(js:List Nat)(scope:Scope):Prop where
 kind:scope.kind=.function
 cell:∀y∈scope.names,y.2≠.cell
 loc:∀y∈scope.names,y.2=.local→scope.names.lookup y.1=some .local
 xl:scope.names.lookup x=some .local
 free:∀y∈scope.names,y.2=.free→X.env.kindOf y.1=some .cell∨X.env.kindOf y.1=some .free
 caps:∀j∈js,scope.names.lookup (X.N.getD j x)=some .free
 nd:(x::js.map (fun j=>X.N.getD j x)).Nodup
section
variable{X:Cx}{pins:List (Addr×Obj)}{σ:St}{H:Hp}{s:Shared}
theorem q0o{scope:Scope}{env:Env}{y:Str}(h:scope.names.lookup y=some .free):(relabel scope env).names.lookup y=some .cell∨(relabel scope env).names.lookup y=some .free:=by
 unfold relabel;generalize scope.names=names at h;dsimp only
 induction names with
 |nil=>cases h
 |cons p r ih=>
  obtain ⟨n,k⟩:=p;rw[List.map_cons];dsimp only;by_cases hx:y=n
  ·subst hx;rw[List.lookup_cons,beq_self_eq_true]at h;have e:k=.free:=Option.some.inj h;subst e;by_cases hc:(NameKind.free==NameKind.free&&env.scope.kind== .function&&env.kindOf y==some .cell)=true
   ·rw[if_pos hc,List.lookup_cons,beq_self_eq_true];exact .inl rfl
   ·rw[if_neg hc,List.lookup_cons,beq_self_eq_true];exact .inr rfl
  ·have hb:(y==n)=false:=beq_eq_false_iff_ne.mpr hx;rw[List.lookup_cons,hb]at h;by_cases hc:(k==NameKind.free&&env.scope.kind== .function&&env.kindOf n==some .cell)=true
   ·rw[if_pos hc,List.lookup_cons,hb];exact ih h
   ·rw[if_neg hc,List.lookup_cons,hb];exact ih h
end
end L2
namespace L2
open PySem PySem.Spec PyProof.Rows
structure Loose(X:Cx)(pins:List (Addr×Obj))(H:Hp)(C:Addr):Prop where
 free:H C=none
 ne:C≠X.env.locals
 yng:X.s₀.heap.objs.size≤C
 cell:∀x c,X.env.cells.lookup x=some c→c≠C
 pin:∀p∈X.pn++pins,p.1≠C
section
variable{X:Cx}
end
end L2
namespace L2
open PySem PySem.Spec PyProof.Rows
open PySem.W (XC)
noncomputable def Fly(c:Bool)(h:Heap)(x C:Addr)(od T:Option Addr):Prop:=∃o vs,h.get? x=some o∧o.cls=.ref C∧o.dict=od∧o.data=.fields vs∧(1<vs.size∧(c=true→vs[2]?=some .none))∧
 match T with
 |none=>vs[1]?=some .none
 |some t=>vs[1]?=some (.ref t)∧t≠x∧∃ot ts,h.get? t=some ot∧ot.data=.fields ts∧3<ts.size
theorem t0p(o:Obj)(f):(o.mapFields f).dict=o.dict:=by
 obtain ⟨c,d,dt,sl⟩:=o;cases dt<;>rfl
section
variable{M:Model}{A:Around}{E:Value→Shared→Prop}{s:Shared}
theorem f0m{base:Heap}{env:Env}{outer:List Env}{L x:Addr}{oe:Obj}{vs:Array Value}{head:Value}{hadNext:Bool}{Q:Unit→Shared→Prop}
 (hfr:A.frames=some (env::outer)) (hl:s.heap.FunFrames base (env::outer)) (hf:env.frame=some L) (he:s.heap.get? x=some oe) (hd:oe.data=.fields vs) (hsz:1<vs.size)
 (h:∀h' T,(∀b o,b≠x→b∉frs (env::outer)→s.heap.get? b=some o→h'.get? b=some o)→(∀b o,s.heap.get? b=some o→b≠x→∃sl,h'.get? b=some {o with slots:=sl})→
  h'.get? x=some (oe.mapFields (·.setIfInBounds 1 (.ref T)))→s.heap.objs.size≤T→(∃ot ts,h'.get? T=some ot∧ot.data=.fields ts∧3<ts.size)→Q () {s with heap:=h'}):
 wpAny M A (do let a←frameOf env;let pl←entryPlaceOf L hadNext;let b←EntryCells.newEntry head a .none (rawInt L) .none pl;setField (.ref x) 1 b) Q E s:=by
 have hene:x∉(env::outer).filterMap (·.frame):=fun hm=>by
  obtain ⟨_,o,ho,hnf⟩:=hl.mem hm;rw[he]at ho;injection ho with ho
  subst ho;exact hnf vs hd
 refine wpAny_bind (wpAny_frameOf_fun hfr hl hf fun h₁ hs₁=>?_);refine wpAny_bind (wpAny_entryPlaceOf fun pl hpl=>?_);unfold EntryCells.newEntry newFields;refine wpAny_bind (wpAny_newObj_type ?_ (hpl.sizeOk5 _ _ _ _ _));have he₁:h₁.get? x=some oe:=(hs₁.2.1 x hene).trans he;generalize hO:({cls:=.type "traceback",dict:=none,data:=.fields ([head,.ref L,.none,rawInt L,.none]++(if pl.isEmpty then List.replicate 6 Value.none else pl)).toArray}:Obj)=ot;have hod:ot.data=.fields ([head,.ref L,.none,rawInt L,.none]++(if pl.isEmpty then List.replicate 6 Value.none else pl)).toArray:=by rw[←hO]
 have he₂:=Heap.get?_push_of_some (h:=h₁) ot he₁;refine wpAny_setField he₂ hd hsz ?_;have hTe:h₁.objs.size≠x:=Nat.ne_of_gt (Heap.lt_size he₁);have hd₃:=Obj.data_mapFields hd (·.setIfInBounds 1 (Value.ref h₁.objs.size));have hfree:ot.isFreed=false:=Obj.isFreed_of_fields hod;refine h _ h₁.objs.size (fun b o hbe hbf hb=>?_) (fun b o hb hbe=>?_) (Heap.get?_update_self _ he₂ (Obj.isFreed_of_fields hd₃)) (by rw[hs₁.1];exact Nat.le_refl _) ⟨ot,_,?_,hod,?_⟩
 ·rw[Heap.get?_update_other _ _ (Ne.symm hbe)];exact Heap.get?_push_of_some _ ((hs₁.2.1 b hbf).trans hb)
 ·obtain ⟨sl,e⟩:=hs₁.2.2 b o hb;exact ⟨sl,by rw[Heap.get?_update_other _ _ (Ne.symm hbe)];exact Heap.get?_push_of_some _ e⟩
 ·rw[Heap.get?_update_other _ _ (Ne.symm hTe)];exact Heap.get?_push_size h₁ hfree
 ·simp only[List.size_toArray,List.length_append,List.length_cons,List.length_nil];omega
end
noncomputable def Top(X:Cx):Prop:=X.stack=X.env::X.outer∧X.env.frame=some X.env.locals
section
variable{X:Cx}{pins:List (Addr×Obj)}{σ:St}{H:Hp}{s:Shared}{A:Around}{E:Value→Shared→Prop}{x C:Addr}{od T:Option Addr}{c:Bool}
theorem Inv.stir{h':Heap}{ch:List Addr}(I:Inv X pins σ H s)(hch:∀b∈ch,Loose X pins H b)(tp:Top X)
 (keep:∀b o,b∉ch→b∉frs X.stack→s.heap.get? b=some o→h'.get? b=some o) (slot:∀b o,b∉ch→s.heap.get? b=some o→∃sl,h'.get? b=some {o with slots:=sl})
 (nx:∀b∈ch,∃o,h'.get? b=some o):Inv X pins σ H {s with heap:=h'}:=by
 have mem:∀b,b≠X.env.locals→b∉X.fs→b∉frs X.stack:=fun b h1 h2 h3=>by
  rcases List.mem_cons.mp (I.stkSub b h3)with z |z
  ·exact h1 z
  ·exact h2 z
 refine I.step (g':=s.gens) (d':=s.drawn) (t':=s.toks) (ch:=ch) (fun b hb=>⟨.inr (hch b hb).yng,(hch b hb).ne,(hch b hb).cell,(hch b hb).pin⟩) (fun b o h1 h2 h3 e _=>keep b o h3 (mem b h1 h2) e) (fun b o _ _ h3 e _=>slot b o h3 e) (fun b o _ _ n=>n)
  (fun b o h3 e=>by obtain ⟨sl,q⟩:=slot b o h3 e;exact ⟨_,q⟩) (fun _ _ e=>e) (fun _ _ _ e=>e) (fun b ps e=>⟨#[],by rw[e];simp⟩) (fun m hm=>?_) (fun b u e=>?_) I.bare
 ·obtain ⟨o,es,ep,ho,r⟩:=hm;obtain ⟨sl,q⟩:=slot _ o (fun z=>(hch _ z).ne rfl) ho;exact ⟨_,es,ep,q,r⟩
 ·have nch:∀c v,H c=some v→c∉ch:=fun c v q z=>by rw[(hch c z).free]at q;cases q
  have nfr:∀c v,H c=some v→c∉frs X.stack:=fun c v q z=>by rw[I.stkFree c z]at q;cases q
  refine (I.hok b u e).stay (fun c v hc q=>?_) (fun _ q=>q) fun _ _ q=>q
  rcases hc with z |z
  ·subst z;exact keep c v (nch c _ e) (nfr c _ e) q
  ·exact keep c v (nch c _ z) (nfr c _ z) q
theorem Inv.loose_new(I:Inv X pins σ H s){t:Addr}(h:s.heap.objs.size≤t):Loose X pins H t:=
 ⟨I.hok.fresh h,Nat.ne_of_gt (Nat.lt_of_lt_of_le I.lt h),Nat.le_trans I.sz h,fun y c e=>by obtain ⟨v,z⟩:=I.cell y c e;exact Nat.ne_of_lt (Nat.lt_of_lt_of_le z.lt h),fun p hp=>Nat.ne_of_lt (Nat.lt_of_lt_of_le (Heap.lt_size (I.pin p hp).1) h)⟩
theorem m0r{M:Model}{Q:Unit→Shared→Prop}{head:Value}{hadNext:Bool}(I:Inv X pins σ H s)(tp:Top X)(hA:A.frames=some X.stack)(f:Fly c s.heap x C od T)(lx:Loose X pins H x)
 (h:∀s' t,Inv X pins σ H s'→Fly c s'.heap x C od (some t)→Loose X pins H t→Q () s'):
 wpAny M A (do let a←frameOf X.env;let pl←entryPlaceOf X.env.locals hadNext;let b←EntryCells.newEntry head a .none (rawInt X.env.locals) .none pl;setField (.ref x) 1 b) Q E s:=by
 obtain ⟨t1,tf⟩:=id tp;rw[t1]at hA;have hlF:s.heap.FunFrames X.base (X.env::X.outer):=t1▸I.stack;obtain ⟨o,vs,hx,hc,hd,hdat,hsz,_⟩:=f;refine f0m hA hlF tf hx hdat hsz.1 fun h' t k1 k2 k3 k4 ⟨ot,ts,k5,k6,k7⟩=>h _ t ?_ ?_ (I.loose_new k4)
 ·refine I.stir (ch:=[x]) (fun b hb=>by rw[List.mem_singleton.mp hb];exact lx) tp (fun b o hb hf e=>k1 b o (fun z=>hb (by simp[z])) (by rw[←t1];exact hf) e) (fun b o hb e=>k2 b o e fun z=>hb (by simp[z])) (fun b hb=>by rw[List.mem_singleton.mp hb];exact ⟨_,k3⟩)
 ·have hne:t≠x:=Nat.ne_of_gt (Nat.lt_of_lt_of_le (Heap.lt_size hx) k4);refine ⟨_,_,k3,(Obj.cls_mapFields _ _).trans hc,(t0p _ _).trans hd,Obj.data_mapFields hdat _,⟨by simpa using hsz.1,fun z=>by simpa using hsz.2 z⟩,by simp[hsz.1],hne,ot,ts,k5,k6,k7⟩
theorem i0z{M:Model}{Q:Unit→Shared→Prop}(I:Inv X pins σ H s)(tp:Top X)(hA:A.frames=some X.stack)(f:Fly c s.heap x C od T)(lx:Loose X pins H x)(lt:∀t,T=some t→Loose X pins H t)
 (h:∀s' t,Inv X pins σ H s'→Fly c s'.heap x C od (some t)→Loose X pins H t→Q () s'):wpAny M A (noteFrame (.ref x) X.env) Q E s:=by
 obtain ⟨o,vs,hx,hc,hd,hdat,hsz,hT⟩:=id f;unfold noteFrame;simp only[tp.2];cases T with
 |none=>
  refine wpAny_bind (wpAny_field hx hdat hT ?_);rw[if_neg (by decide)];exact m0r I tp hA f lx h
 |some t=>
  obtain ⟨h1,hne,ot,ts,ht,htd,hts⟩:=hT;have lt:=lt t rfl;refine wpAny_bind (wpAny_field hx hdat h1 ?_);rw[if_pos (show (Value.ref t !=Value.none)=true from by simp)];have h3:ts[3]?=some ts[3]:=by simp[hts]
  refine wpAny_bind (wpAny_field ht htd h3 ?_);by_cases q:(ts[3]==rawInt X.env.locals)=true
  ·rw[if_pos q];exact wpAny_pure (h s t I f lt)
  ·rw[if_neg q];refine wpAny_bind (wpAny_setField ht htd hts ?_);have other:∀b,b≠t→(s.heap.update t (Obj.mapFields (·.setIfInBounds 3 Value.none))).get? b=s.heap.get? b:=fun b hb=>Heap.get?_update_other _ _ (Ne.symm hb)
   have ht':=Heap.get?_update_self (Obj.mapFields (·.setIfInBounds 3 Value.none)) ht (Obj.isFreed_of_fields (Obj.data_mapFields htd _));have I1:Inv X pins σ H {s with heap:=s.heap.update t (Obj.mapFields (·.setIfInBounds 3 Value.none))}:=
    I.stir (ch:=[t]) (fun b hb=>by rw[List.mem_singleton.mp hb];exact lt) tp (fun b o hb hf e=>(other b fun z=>hb (by simp[z])).trans e) (fun b o hb e=>⟨o.slots,(other b fun z=>hb (by simp[z])).trans e⟩) (fun b hb=>by rw[List.mem_singleton.mp hb];exact ⟨_,ht'⟩)
   exact m0r (T:=some t) I1 tp hA ⟨o,vs,(other x (Ne.symm hne)).trans hx,hc,hd,hdat,hsz,h1,hne,_,_,ht',Obj.data_mapFields htd _,by simpa using hts⟩ lx h
theorem x0k{M:Model}{fr:Option Addr}{Q:Unit→Shared→Prop}(I:Inv X pins σ H s)(tp:Top X)(f:Fly c s.heap x C od T)(lt:∀t,T=some t→Loose X pins H t)
 (h:∀s',Inv X pins σ H s'→Fly c s'.heap x C od T→Q () s'):wpAny M A (setFlight (.ref x) fr) Q E s:=by
 obtain ⟨o,vs,hx,hc,hd,hdat,hsz,hT⟩:=id f;unfold setFlight;cases T with
 |none=>
  refine wpAny_bind (wpAny_field hx hdat hT ?_);rw[if_neg (by decide)];exact wpAny_pure (h s I f)
 |some t=>
  obtain ⟨h1,hne,ot,ts,ht,htd,hts⟩:=hT;have lt:=lt t rfl;refine wpAny_bind (wpAny_field hx hdat h1 ?_);rw[if_pos (show (Value.ref t !=Value.none)=true from by simp)];refine wpAny_setField ht htd hts (h _ ?_ ?_)
  ·have other:∀b,b≠t→(s.heap.update t (Obj.mapFields (·.setIfInBounds 3 (fr.elim Value.none fun f=>rawInt f)))).get? b=s.heap.get? b:=fun b hb=>Heap.get?_update_other _ _ (Ne.symm hb)
   have ht':=Heap.get?_update_self (Obj.mapFields (·.setIfInBounds 3 (fr.elim Value.none fun f=>rawInt f))) ht (Obj.isFreed_of_fields (Obj.data_mapFields htd _));exact I.stir (ch:=[t]) (fun b hb=>by rw[List.mem_singleton.mp hb];exact lt) tp (fun b o hb hf e=>(other b fun z=>hb (by simp[z])).trans e) (fun b o hb e=>⟨o.slots,(other b fun z=>hb (by simp[z])).trans e⟩) (fun b hb=>by rw[List.mem_singleton.mp hb];exact ⟨_,ht'⟩)
  ·have ht':=Heap.get?_update_self (Obj.mapFields (·.setIfInBounds 3 (fr.elim Value.none fun f=>rawInt f))) ht (Obj.isFreed_of_fields (Obj.data_mapFields htd _));exact ⟨o,vs,(Heap.get?_update_other _ _ hne).trans hx,hc,hd,hdat,hsz,h1,hne,_,_,ht',Obj.data_mapFields htd _,by simpa using hts⟩
end
end L2
namespace L2
open PySem PySem.Spec PyProof.Rows
open PySem.W (XC)
noncomputable abbrev XW:=Addr→Option Addr→St→Hp→Prop
noncomputable def b0p(X:Cx)(pins:List (Addr×Obj))(W:XW)(e:Value)(s:Shared):Prop:=
 ∃x C od T σ H,e=.ref x∧Inv X pins σ H s∧Fly X.fl s.heap x C od T∧Loose X pins H x∧(∀t,T=some t→Loose X pins H t)∧W C od σ H
noncomputable def w0w(X:Cx)(W:XW):Prop:=∀pins e s,b0p X pins W e s→X.xe e s
noncomputable def CXc(c:Bool)(P:Program)(w:World):CXT:=fun outer H s E e s'=>
 ∃x C od T H',e=.ref x∧s'.os=s.os∧AllBare s'.gens∧Un (frs outer) [] H H' s.heap s'.heap∧HOk P w H' s'.heap∧Fly c s'.heap x C od T∧H' x=none∧s.heap.objs.size≤x∧(∀t,T=some t→H' t=none∧s.heap.objs.size≤t)∧E (.ref C) od H'
noncomputable abbrev CX1(P:Program)(w:World):CXT:=CXc true P w
theorem Fly.weak{h:Heap}{x C:Addr}{od T:Option Addr}{c:Bool}(f:Fly true h x C od T):Fly c h x C od T:=by
 obtain ⟨o,vs,hx,hc,hd,hdat,hsz,hT⟩:=f;exact ⟨o,vs,hx,hc,hd,hdat,⟨hsz.1,fun _=>hsz.2 rfl⟩,hT⟩
section
variable{X:Cx}{pins:List (Addr×Obj)}{σ:St}{H:Hp}{s:Shared}{A:Around}{E:Value→Shared→Prop}
theorem f0l{W:XW}{e:Value}{s':Shared}(I:Inv X pins σ H s)(h:CX1 X.prog X.w X.stack H s (fun Cv od H'=>∃C,Cv=.ref C∧W C od σ H') e s'):b0p X pins W e s':=by
 obtain ⟨x,C,od,T,H',rfl,os,bare,un,hok,f,hx,hy,ht,C',ec,q⟩:=h;cases ec;have I':Inv X pins σ H' s':=I.call' (ch:=[]) os un hok bare fun b z=>by cases z
 have ls:∀t,H' t=none→s.heap.objs.size≤t→Loose X pins H' t:=fun t h0 hz=>by
  have l:=I.loose_new hz;exact ⟨h0,l.ne,l.yng,l.cell,l.pin⟩
 exact ⟨x,C,od,T,σ,H',rfl,I',f.weak,ls x hx hy,fun t e=>ls t (ht t e).1 (ht t e).2,q⟩
noncomputable def i0y(sp:Sp)(W:XW)(t:TA):TE:=fun σ H Q=>t σ H fun vs H1=>sp vs H1 Q fun Cv od H'=>∃C,Cv=.ref C∧W C od σ H'
theorem b0o{k:Nat}{f:Addr}{fd:FuncData}{ps:List Str}{sp:Sp}{W:XW}{Q:VK}{us:List Value}{vs:List V}(F:FnOk X.prog X.w X.K X.mg X.base (CX1 X.prog X.w) k f fd ps sp)(hr:Room k X.A)(hb:Binds X.K fd ps [])(hf:w0w X W)
 (I:Inv X pins σ H s) (r:Vals vs us) (h:sp vs H Q fun Cv od H'=>∃C,Cv=.ref C∧W C od σ H'):wpAny (model X.prog X.w) X.A (call (.ref f) us) (EP X pins σ Q) X.xe s:=by
 have hl:(us++[]).length=ps.length:=by rw[List.append_nil,← r.length];exact F.len _ _ _ _ h
 have hbd:=hb s us I.kIn hl;rw[List.append_nil]at hbd;refine wpAny_call (codeAny_mono (F.run X.A X.stack s H ⟨us,[]⟩ us vs Q _ hr I.env0 hbd r h) fun r s' hq=>?_);cases r with
 |error e=>exact hf pins e s' (f0l I hq)
 |ok fl=>
  cases fl with
  |ret u=>exact I.after hq
  |next=>exact False.elim hq
  |brk=>exact False.elim hq
  |cont=>exact False.elim hq
theorem f0k{k:Nat}{f:Addr}{fd:FuncData}{ps:List Str}{sp:Sp}{W:XW}{x:Str}{p pos:Pos}{e:Expr}{es:List Expr}{t:TA}(F:FnOk X.prog X.w X.K X.mg X.base (CX1 X.prog X.w) k f fd ps sp)(hr:Room k X.A)(hg:Gl X x)(hm:X.mg x=some (.ref f))
 (hk:PySem.W.keepIn X.K (.ref f)=true) (hb:Binds X.K fd ps []) (hf:w0w X W)
 (ha:PA X (e::es) t) (hdb:(x==("__debug__":Str))=false:=by decide) (he:starEach (e::es) X.env=(false,eval e X.env)::starEach es X.env:=by rfl) (hpl:(backTo pos (starEach es X.env)).any (·.1)=false:=by rfl):
 PE X (.Call (.Name x p) (e::es) [] pos) (i0y sp W t):=by
 intro pins s σ H Q I h;refine wpAny_Call_Name_kw (w0x I hg hm ?_ hdb);refine PySem.W.callWith_K (h₀:=X.base) I.ok.mod.kin hk (thn (ha pos pins s σ H _ I h) fun us s1 ⟨vs,H1,I1,r,q⟩=>⟨I1.kIn,?_⟩) he hpl;exact b0o F hr hb hf I1 r q
end
section
variable{P:Program}{w:World}{K:PySem.W.Frag}{mg:Str→Option Value}{base:Heap}
noncomputable abbrev cxX(P:Program)(w:World)(K:PySem.W.Frag)(mg:Str→Option Value)(base:Heap)(N:List Str)(qual:Str)(scope:Scope)(f:Addr)(cd:Value)(A:Around)(outer:List Env)(s:Shared)(H:Hp)(E:XK):Cx:=
 cxOf (CX1 P w) P w K mg base N qual scope f cd A outer s H E
theorem o0{N:List Str}{qual:Str}{scope:Scope}{f:Addr}{cd:Value}{A:Around}{outer:List Env}{s:Shared}{H:Hp}{E:XK}:w0w (cxX P w K mg base N qual scope f cd A outer s H E) fun C od _ H'=>E (.ref C) od H':=by
 intro pins e s' h;obtain ⟨x,C,od,T,σ,H',rfl,I,ff,lx,lt,q⟩:=h;have tp:Top (cxX P w K mg base N qual scope f cd A outer s H E):=⟨rfl,rfl⟩;show wpAny _ _ (leaving _ (.ref x)) _ _ _;unfold leaving;refine wpAny_bind (i0z I tp I.ok.frames ff lx lt fun s1 t I1 f1 l1=>x0k I1 tp f1 (fun t' e=>by cases e;exact l1) fun s2 I2 f2=>?_);exact ⟨x,C,od,some t,H',rfl,I2.os,I2.bare,I2.base,I2.hok,f2,lx.free,lx.yng,fun t' e=>by cases e;exact ⟨l1.free,l1.yng⟩,q⟩
theorem Fun.okX{x qual:Str}{st:Stmt}{f:Addr}{fd:FuncData}{N ps:List Str}{k:Nat}{sp:Sp}(F:Fun K x qual st f fd)(S:FnScope N ps (defScope st))(len:∀vs H Q E,sp vs H Q E→vs.length=ps.length)
 (hbody:∀(cdv:Value) (A:Around) (outer:List Env) (s:Shared) (H:Hp) (vs:List V) (Q:VK) (E:XK),Room k (A.deeper (envOfC qual (defScope st) s.heap.objs.size f cdv))→sp vs H Q E→
  ∃t,PSs (cxX P w K mg base N qual (defScope st) f cdv A outer s H E) (defBody st) t∧t {nx:=fun _ H'=>Q .non H',rt:=Q} (start N vs) H):FnOk P w K mg base (CX1 P w) (k+1) f fd ps sp:=by
 obtain ⟨oc,od,kV,doc,pm,an,cdv,ct,osl,rfl,lk,hcd⟩:=F.ex;exact fn_of lk hcd S len fun A outer s H vs Q E hr hsp=>hbody cdv A outer s H vs Q E hr hsp
end
section
variable{X:Cx}{pins:List (Addr×Obj)}{σ:St}{H:Hp}{s:Shared}
noncomputable def drop(H:Hp)(x:Addr):Hp:=fun b=>if b=x then none else H b
theorem z0t{H:Hp}{x b:Addr}(h:b≠x):drop H x b=H b:=if_neg h
theorem z0s{H:Hp}{x:Addr}:drop H x x=none:=if_pos rfl
theorem Inv.drop{φ:Heap→Prop}{x:Addr}(I:Inv X pins σ H s)(e:H x=some (.ext φ)):Inv X pins σ (drop H x) s:=by
 have ne:∀b u,H b=some u→(∀ ψ,u≠.ext ψ)→b≠x:=fun b u q n z=>by rw[z,e]at q;exact n φ (Option.some.inj q).symm
 have nn:∀b,H b=none→L2.drop H x b=none:=fun b q=>by
  by_cases z:b=x
  ·rw[z];exact z0s
  ·rw[z0t z];exact q
 have hown:∀b a,H b=some (.own a)→L2.drop H x b=some (.own a):=fun b a q=>by rw[z0t (ne b _ q fun ψ z=>by cases z)];exact q
 have htup:∀b xs,H b=some (.tup xs)→L2.drop H x b=some (.tup xs):=fun b xs q=>by rw[z0t (ne b _ q fun ψ z=>by cases z)];exact q
 refine ⟨I.ok,I.os,I.bare,⟨I.base.keep,I.base.slot,fun b o q n hx=>nn b (I.base.free b o q n hx),I.base.there,fun b xs q=>htup b xs (I.base.tups b xs q),fun b o u q=>?_,fun b ps q=>?_⟩,I.loc,I.cell,nn _ I.free,fun y c q=>nn c (I.freeC y c q),fun p hp=>?_,fun b u q=>?_,I.len⟩
 ·have z:=I.base.frzs b o u q;rw[z0t (ne b _ z fun ψ z=>by cases z)];exact z
 ·obtain ⟨m,z⟩:=I.base.tbls b ps q;exact ⟨m,by rw[z0t (ne b _ z fun ψ z=>by cases z)];exact z⟩
 ·obtain ⟨a,b,c⟩:=I.pin p hp;exact ⟨a,nn _ b,c⟩
 ·have hb:b≠x:=fun z=>by rw[z,z0s]at q;cases q
  rw[z0t hb]at q;exact (I.hok b u q).stay (fun _ _ _ z=>z) (fun c z=>hown c _ z) fun c xs z=>htup c xs z
theorem q0n{M:Model}{A:Around}{E:Value→Shared→Prop}{env:Env}{xt:Sem Value}{Q:Flow→Shared→Prop}{C:Addr}{s:Shared}(hh:A.handled=none)
 (h:wpAny M A xt (fun v s1=>∃e od vs nm qn N bs bm hdct sn sub ab col dd k0 k1 k2 k3 k5 nid,v=.ref e∧s1.heap.get? C=some (excClassObj nm qn C N bs bm hdct sn sub ab col dd k0 k1 k2 k3 k5 nid)∧bm.contains (.type "BaseException")=true∧
  s1.heap.get? e=some ⟨.ref C,od,.fields vs,#[]⟩∧vs[1]?=some .none∧E (.ref e) s1) E s):
 wpAny M A (raiseStmt env (some xt) none) Q E s:=by
 unfold raiseStmt;refine wpAny_bind (wpAny_mono h (fun v s1 h1=>?_) fun _ _ x=>x);obtain ⟨e,od,vs,nm,qn,N,bs,bm,hdct,sn,sub,ab,col,dd,k0,k1,k2,k3,k5,nid,rfl,hC,hb,he,hv,hE⟩:=h1;have hcB:(Value.ref C::bm).contains (.type "BaseException")=true:=by rw[List.contains_cons,hb,Bool.or_true]
 obtain ⟨hp,g,d,tk,os⟩:=s1
 repeat (first |with_reducible refine wpAny_loadPart_at he ?_ |with_reducible refine wpAny_loadPart_at hC ?_ |(with_reducible refine wpAny_isSubtype_exc hC ?_;rw[hcB])|wp_step)
 rw[hv];refine wpAny_pure ?_;rw[if_neg (by decide)];exact wpAny_pure (wpAny_raiseNew_none hh hE)
theorem m0q{M:Model}{C x:Addr}{od:Option Addr}{W:XW}(hf:w0w X W)(I:Inv X pins σ H s)(e:H x=some (XO 1 x C od))(hK:xcIn X.K C=true)(hy:X.s₀.heap.objs.size≤x)(q:W C od σ (L2.drop H x)):
 ∃e' od' vs nm qn N bs bm hdct sn sub ab col dd k0 k1 k2 k3 k5 nid,Value.ref x=.ref e'∧s.heap.get? C=some (excClassObj nm qn C N bs bm hdct sn sub ab col dd k0 k1 k2 k3 k5 nid)∧bm.contains (.type "BaseException")=true∧
  s.heap.get? e'=some ⟨.ref C,od',.fields vs,#[]⟩∧vs[1]?=some .none∧X.xe (.ref e') s:=by
 obtain ⟨o,vs,hx,h1,h2,h3,h40⟩:=XO.get I.hok e;obtain ⟨h4,h5,h7⟩:=h40.1 rfl;have h6:=h40.2;clear h40;obtain ⟨nm,qn,N,bs,bm,hdct,sn,sub,ab,col,dd,k0,k1,k2,k3,k5,hC,hT⟩:=d0h I.kIn hK;have I':=Inv.drop I e;obtain ⟨oc,odd,odt,osl⟩:=o;dsimp only at h1 h2 h3 h4;subst h1 h2 h3 h4;refine ⟨x,odd,vs,nm,qn,N,bs,bm,hdct,sn,sub,ab,col,dd,k0,k1,k2,k3,k5,_,rfl,hC,hT.hasType rfl,hx,h5,?_⟩;refine hf pins _ _ ⟨x,C,odd,none,σ,_,rfl,I',⟨_,vs,hx,rfl,rfl,rfl,⟨(Array.getElem?_eq_some_iff.mp h5).1,fun _=>h6 (by decide)⟩,h5⟩,⟨z0s,fun z=>?_,hy,fun y c q z=>?_,fun p hp z=>?_⟩,(fun t z=>by cases z),q⟩
 ·have:=I.free;rw[←z,e]at this;cases this
 ·have:=I.freeC y c q;rw[z,e]at this;cases this
 ·have:=(I.pin p hp).2.1;rw[z,e]at this;cases this
noncomputable def i0x(C:Addr)(sp:Sp)(W:XW)(t:TA):TS:=fun _ σ H=>t σ H fun vs H1=>vs.length≤sizeLine∧∀x,H1 x=none→
 sp (.ref x::vs) (upd H1 x (XO 1 x C none)) (fun v H2=>v=.non∧∃od,H2 x=some (XO 1 x C od)∧W C od σ (L2.drop H2 x)) E0
noncomputable def b0n(C:Addr)(W:XW):TS:=fun _ σ H=>∀x,H x=none→W C none σ (L2.drop (upd H x (XO 1 x C none)) x)
theorem i0w{k:Nat}{f C:Addr}{fd:FuncData}{ps:List Str}{sp:Sp}{W:XW}{x:Str}{p cpos pos:Pos}{e:Expr}{es:List Expr}{t:TA}(hc:X.calm=true)(hf:w0w X W)(M:XMk X.K C f)(F:FnOk X.prog X.w X.K X.mg X.base CX0 k f fd ps sp)(hr:Room (k+1) X.A)
 (hg:Gl X x) (hm:X.mg x=some (.ref C)) (hb:Binds X.K fd ps [])
 (ha:PA X (e::es) t) (hdb:(x==("__debug__":Str))=false:=by decide) (he:starEach (e::es) X.env=(false,eval e X.env)::starEach es X.env:=by rfl) (hpl:(backTo cpos (starEach es X.env)).any (·.1)=false:=by rfl):
 PS X (.Raise (some (.Call (.Name x p) (e::es) [] cpos)) none pos) (i0x C sp W t):=by
 intro pins s σ H D I h;show wpAny _ _ (do standAt pos;raiseStmt X.env (some (do let v←eval (.Call (.Name x p) (e::es) [] cpos) X.env;standAt pos;pure v)) none) _ _ _;refine wpAny_bind (wpAny_standAt (q0n (C:=C) (I.ok.hd hc) (wpAny_bind (thn (Q:=fun v s1=>∃x H2 od,v=.ref x∧X.s₀.heap.objs.size≤x∧Inv X pins σ H2 s1∧H2 x=some (XO 1 x C od)∧W C od σ (L2.drop H2 x)) ?_ fun v s1 ⟨x,H2,od,ev,hy,I2,e2,q2⟩=>wpAny_bind (wpAny_standAt (wpAny_pure ?_))))))
 ·refine wpAny_Call_Name_kw (w0x I hg hm ?_ hdb);refine PySem.W.callWith_K (h₀:=X.base) I.ok.mod.kin M.kp (thn (ha cpos pins s σ H _ I h) fun us s1 ⟨vs,H1,I1,r,hz,q⟩=>⟨I1.kIn,?_⟩) he hpl;refine thn (q0p (Q:=fun v H2=>∃od,H2 (s1.heap.objs.size+1)=some (XO 1 (s1.heap.objs.size+1) C od)∧W C od σ (L2.drop H2 (s1.heap.objs.size+1))) M F hr hb (pass0 (X:=X)) I1 r hz (q _ (I1.hok.fresh (Nat.le_succ _)))) fun v s2 ⟨ev,y,H2,I2,ry,od,q1,q2⟩=>?_
  exact ⟨_,H2,od,ev,Nat.le_trans I1.sz (Nat.le_succ _),I2,q1,q2⟩
 ·subst ev;exact m0q (M:=model X.prog X.w) hf I2 e2 M.sh hy q2
theorem i0v{C:Addr}{W:XW}{x:Str}{p cpos pos:Pos}(hc:X.calm=true)(hf:w0w X W)(M:XMk0 X.K C)(hK:xcIn X.K C=true)(hg:Gl X x)(hm:X.mg x=some (.ref C))(hdb:(x==("__debug__":Str))=false:=by decide):
 PS X (.Raise (some (.Call (.Name x p) [] [] cpos)) none pos) (b0n C W):=by
 intro pins s σ H D I h;show wpAny _ _ (do standAt pos;raiseStmt X.env (some (do let v←eval (.Call (.Name x p) [] [] cpos) X.env;standAt pos;pure v)) none) _ _ _;refine wpAny_bind (wpAny_standAt (q0n (C:=C) (I.ok.hd hc) (wpAny_bind (thn (Q:=fun v s1=>∃x H2,v=.ref x∧X.s₀.heap.objs.size≤x∧Inv X pins σ H2 s1∧H2 x=some (XO 1 x C none)∧W C none σ (L2.drop H2 x)) ?_ fun v s1 ⟨x,H2,ev,hy,I2,e2,q2⟩=>wpAny_bind (wpAny_standAt (wpAny_pure ?_))))))
 ·refine wpAny_Call_Name_kw (w0x I hg hm ?_ hdb);refine PySem.W.callWith_K0 I.kIn M.kp (thn (f0n (Q:=fun v H2=>v=.ref (s.heap.objs.size+1)∧H2 (s.heap.objs.size+1)=some (XO 1 (s.heap.objs.size+1) C none)∧W C none σ (L2.drop H2 (s.heap.objs.size+1))) M I ⟨rfl,g0,h _ (I.hok.fresh (Nat.le_succ _))⟩) fun v s2 ⟨y,H2,I2,ry,ey,q1,q2⟩=>?_);subst ey;exact ⟨_,H2,ry,Nat.le_trans I.sz (Nat.le_succ _),I2,q1,q2⟩
 ·subst ev;exact m0q (M:=model X.prog X.w) hf I2 e2 hK hy q2
end
end L2
namespace L2
open PySem PySem.Spec PyProof.Rows
open PySem.W (XC)
section
variable{X:Cx}{pins:List (Addr×Obj)}{σ:St}{H:Hp}{s:Shared}
theorem s0f{M:Model}{A:Around}{E:Value→Shared→Prop}{i:Nat}{n:Str}{pos:Pos}{Q:Unit→Shared→Prop}(I:Inv X pins σ H s)(hN:X.N.Nodup)(hi:X.N[i]?=some n)(hk:X.env.scope.names.lookup n=some .local)
 (h:∀s',Inv X pins (σ.set i none) H s'→Q () s'):wpAny M A (do bindName X.env n .none;unbindBehindTheSuite X.env n pos) Q E s:=by
 have hcls:(X.env.scope.kind== .class||(X.env.scope.kind== .module&&X.env.locals !=X.env.globals))=false:=by rw[I.ok.kind];rfl
 refine wpAny_bind (wpAny_bindName (v0g (v:=.non) I hN hi (.inl hk) rfl (fun s1 I1=>?_) (.inr hk)));unfold unbindBehindTheSuite;refine wpAny_onRaise ?_;obtain ⟨m,hn,hl⟩:=id I1.loc;have hiσ:i<σ.length:=by rw[I.len];exact (List.getElem?_eq_some_iff.mp hi).1
 obtain ⟨u,ru,l⟩:=hl i n .non hi (List.getElem?_set_self hiσ) (.inl hk);have hm:m n=some u:=by
  rcases l with ⟨_,z⟩|⟨z,_⟩
  ·exact z
  ·have z':X.env.scope.names.lookup n=some .cell∨X.env.scope.names.lookup n=some .free:=z;rw[hk]at z';rcases z' with z' |z'<;>cases z'
 refine wpAny_unbindName_local hk hn hm hcls fun h' w hn' hs=>h _ ?_
 have cne:=I1.cne;obtain ⟨oL,_,_,hoL,_⟩:=id hn;have up:∀b,X.s₀.heap.objs.size≤X.env.locals→∀o,X.s₀.heap.get? b=some o→b≠X.env.locals:=fun b hz o e=>Nat.ne_of_lt (Nat.lt_of_lt_of_le (Heap.lt_size e) hz)
 refine ⟨I1.ok,I1.os,I1.bare,⟨fun b o e n hb hx=>?_,fun b o e n hb hx=>?_,I1.base.free,fun b o e hx=>?_,I1.base.tups,I1.base.frzs,I1.base.tbls⟩,⟨_,hn',fun j y v' e1 e2 e3=>?_⟩,fun y c e=>?_,I1.free,I1.freeC,fun p hp=>?_,fun b ob e=>?_,?_⟩
 ·exact (hs.2 b (up b I1.ok.above o e)).trans (I1.base.keep b o e n hb hx)
 ·obtain ⟨sl,q⟩:=I1.base.slot b o e n hb hx;exact ⟨sl,(hs.2 b (up b I1.ok.above o e)).trans q⟩
 ·obtain ⟨o',q⟩:=I1.base.there b o e hx;exact ⟨o',(hs.2 b (up b I1.ok.above o e)).trans q⟩
 ·by_cases hj:j=i
  ·subst hj;rw[List.getElem?_set_self hiσ]at e2;cases e2
  ·rw[List.getElem?_set_ne (Ne.symm hj)]at e2;obtain ⟨u',r',q⟩:=hl j y v' e1 (by rw[List.getElem?_set_ne (Ne.symm hj)];exact e2) e3;refine ⟨u',r',?_⟩;rcases q with ⟨k,e⟩|⟨k,c,e,z⟩
   ·refine .inl ⟨k,?_⟩;have:y≠n:=fun e=>hj (s0i hN e1 (e▸hi))
    simp[this,e]
   ·exact .inr ⟨k,c,e,z.sameBut hs (cne y c e)⟩
 ·obtain ⟨w',z⟩:=I1.cell y c e;exact ⟨w',z.sameBut hs (cne y c e)⟩
 ·obtain ⟨e,n,ne,nf,d⟩:=I1.pin p hp;exact ⟨(hs.2 p.1 ne).trans e,n,ne,nf,d⟩
 ·refine (I1.hok b ob e).stay (fun c w' hc q=>(hs.2 c ?_).trans q) (fun _ q=>q) fun _ _ q=>q
  intro z;have fr:=I1.free;rw[←z]at fr;rcases hc with hc |hc
  ·rw[hc,e]at fr;cases fr
  ·rw[hc]at fr;cases fr
 ·rw[List.length_set];exact I.len
noncomputable abbrev Cx.more(X:Cx)(pins:List (Addr×Obj)):Cx:={X with pn:=X.pn++pins}
noncomputable abbrev Cx.tr(X:Cx)(pins:List (Addr×Obj))(W:XW):Cx:={X with pn:=X.pn++pins,xe:=fun e s'=>b0p (X.more pins) [] W e s'}
noncomputable abbrev Cx.hdl(X:Cx)(x:Addr):Cx:={X with A:=X.A.mark (some (.ref x)),calm:=false,fl:=false,xe:=fun _ _=>False}
theorem okMore(ok:X.Ok):(X.more pins).Ok:=⟨ok.mod,ok.kind,ok.glob,ok.blt,ok.above,ok.inj,ok.has,ok.cab,ok.hd,ok.frames,ok.stk,ok.exf,ok.bs,ok.bsz,ok.noex,ok.exfs,ok.funs,ok.frf⟩
theorem Inv.tr{W:XW}(I:Inv X pins σ H s):Inv (X.tr pins W) [] σ H s:=
 ⟨⟨I.ok.mod,I.ok.kind,I.ok.glob,I.ok.blt,I.ok.above,I.ok.inj,I.ok.has,I.ok.cab,I.ok.hd,I.ok.frames,I.ok.stk,I.ok.exf,I.ok.bs,I.ok.bsz,I.ok.noex,I.ok.exfs,I.ok.funs,I.ok.frf⟩,I.os,I.bare,I.base,I.loc,I.cell,I.free,I.freeC,fun p hp=>I.pin p (by simpa using hp),I.hok,I.len⟩
theorem Inv.untr{pins':List (Addr×Obj)}{Y:Cx}{W:XW}(hY:Y=X.tr pins W∨Y=X.more pins)(I:Inv Y pins' σ H s):Inv X pins σ H s:=by
 rcases hY with rfl |rfl
 ·exact ⟨⟨I.ok.mod,I.ok.kind,I.ok.glob,I.ok.blt,I.ok.above,I.ok.inj,I.ok.has,I.ok.cab,I.ok.hd,I.ok.frames,I.ok.stk,I.ok.exf,I.ok.bs,I.ok.bsz,I.ok.noex,I.ok.exfs,I.ok.funs,I.ok.frf⟩,I.os,I.bare,I.base,I.loc,I.cell,I.free,I.freeC,fun p hp=>I.pin p (List.mem_append_left _ hp),I.hok,I.len⟩
 ·exact ⟨⟨I.ok.mod,I.ok.kind,I.ok.glob,I.ok.blt,I.ok.above,I.ok.inj,I.ok.has,I.ok.cab,I.ok.hd,I.ok.frames,I.ok.stk,I.ok.exf,I.ok.bs,I.ok.bsz,I.ok.noex,I.ok.exfs,I.ok.funs,I.ok.frf⟩,I.os,I.bare,I.base,I.loc,I.cell,I.free,I.freeC,fun p hp=>I.pin p (List.mem_append_left _ hp),I.hok,I.len⟩
theorem Inv.hdl{x:Addr}(I:Inv X pins σ H s):Inv (X.hdl x) pins σ H s:=
 ⟨⟨I.ok.mod,I.ok.kind,I.ok.glob,I.ok.blt,I.ok.above,I.ok.inj,I.ok.has,I.ok.cab,(fun z=>by cases z),I.ok.frames,I.ok.stk,I.ok.exf,I.ok.bs,I.ok.bsz,I.ok.noex,I.ok.exfs,I.ok.funs,I.ok.frf⟩,I.os,I.bare,I.base,I.loc,I.cell,I.free,I.freeC,I.pin,I.hok,I.len⟩
theorem Inv.unhdl{x:Addr}(ok:X.Ok)(I:Inv (X.hdl x) pins σ H s):Inv X pins σ H s:=⟨ok,I.os,I.bare,I.base,I.loc,I.cell,I.free,I.freeC,I.pin,I.hok,I.len⟩
theorem f0j{W:XW}:w0w (X.tr pins W) W:=by
 intro pins' e s' h;obtain ⟨x,C,od,T,σ,H',rfl,I,f,lx,lt,q⟩:=h;have ls:∀t,Loose (X.tr pins W) pins' H' t→Loose (X.more pins) [] H' t:=fun t l=>⟨l.free,l.ne,l.yng,l.cell,fun p hp=>l.pin p (List.mem_append_left _ (by simpa using hp))⟩
 have I0:Inv X pins σ H' s':=I.untr (W:=W) (.inl rfl);exact ⟨x,C,od,T,σ,H',rfl,⟨okMore I0.ok,I.os,I.bare,I.base,I.loc,I.cell,I.free,I.freeC,fun p hp=>I0.pin p (by simpa using hp),I.hok,I.len⟩,f,ls x lx,fun t e=>ls t (lt t e),q⟩
theorem SP.untr{W:XW}{D:Ends}{f:Flow}{s':Shared}(h:SP (X.tr pins W) [] D f s'):SP X pins D f s':=by
 cases f with
 |next=>obtain ⟨σ',H',I,q⟩:=h;exact ⟨σ',H',I.untr (W:=W) (.inl rfl),q⟩
 |brk=>obtain ⟨σ',H',I,q⟩:=h;exact ⟨σ',H',I.untr (W:=W) (.inl rfl),q⟩
 |cont=>obtain ⟨σ',H',I,q⟩:=h;exact ⟨σ',H',I.untr (W:=W) (.inl rfl),q⟩
 |ret u=>obtain ⟨v,σ',H',I,r,q⟩:=h;exact ⟨v,σ',H',I.untr (W:=W) (.inl rfl),r,q⟩
theorem SP.unhdl{x:Addr}{D:Ends}{f:Flow}{s':Shared}(ok:X.Ok)(h:SP (X.hdl x) pins D f s'):SP X pins D f s':=by
 cases f with
 |next=>obtain ⟨σ',H',I,q⟩:=h;exact ⟨σ',H',I.unhdl ok,q⟩
 |brk=>obtain ⟨σ',H',I,q⟩:=h;exact ⟨σ',H',I.unhdl ok,q⟩
 |cont=>obtain ⟨σ',H',I,q⟩:=h;exact ⟨σ',H',I.unhdl ok,q⟩
 |ret u=>obtain ⟨v,σ',H',I,r,q⟩:=h;exact ⟨v,σ',H',I.unhdl ok,r,q⟩
noncomputable abbrev XTS:=Addr→Option Addr→TS
noncomputable def PH(X:Cx)(hs:List ExceptHandler)(t:XTS):Prop:=∀(pins:List (Addr×Obj)) (x C:Addr) (od T:Option Addr) (s:Shared) (σ:St) (H:Hp) (D:Ends),Inv X pins σ H s→Fly X.fl s.heap x C od T→Loose X pins H x→(∀t,T=some t→Loose X pins H t)→t C od D σ H→
 wpAny (model X.prog X.w) X.A (handleBy (.ref x) X.env hs) (SP X pins D) X.xe s
theorem ph_nil:PH X [] fun _ _ _ _ _=>False:=fun _ _ _ _ _ _ _ _ _ _ _ _ _ h=>h.elim
structure XHd(K:PySem.W.Frag)(D:Addr):Prop where
 ty:PySem.W.typeIn K (.ref D)=some (.type "type")
 cl:(PySem.W.clsIn K D).isSome=true
 sub:PySem.W.mroIn K D (.type "BaseException")=some true
theorem q0m{A:Around}{E:Value→Shared→Prop}{x C D:Addr}{od T:Option Addr}{b:Bool}{Q:Bool→Shared→Prop}(I:Inv X pins σ H s)(f:Fly X.fl s.heap x C od T)(d:XHd X.K D)(hb:PySem.W.mroIn X.K C (.ref D)=some b)(q:Q b s):
 wpAny (model X.prog X.w) A (excMatches (.ref x) (.ref D)) Q E s:=by
 obtain ⟨o,vs,hx,hc,_⟩:=f;have L1:=PySem.W.looks_typeIn (M:=model X.prog X.w) I.kIn d.ty;have L2:=PySem.W.looks_mroIn (M:=model X.prog X.w) I.kIn d.sub;have L3:=PySem.W.looks_mroIn (M:=model X.prog X.w) I.kIn hb;have L0:PySem.W.Looks (model X.prog X.w) s.heap (typeOf (.ref x)) (.ref C):=hc▸(PySem.W.Looks.ld hx).andThen .now;have L4:PySem.W.Looks (model X.prog X.w) s.heap (isType (.ref D)) true:=by
  have z:=d.cl;unfold PySem.W.clsIn at z;split at z
  ·rename_i ho;intro A' Q' E' s' k q;unfold isType loadHead;exact wpAny_bind (wpAny_loadPart (k _ _ (I.kIn _ _ ho)) (wpAny_pure q))
  ·cases z
 have LT:PySem.W.Looks (model X.prog X.w) s.heap (isInstance (.ref D) (.type "tuple")) false:=L1.andThen (PySem.W.Looks.of_pure tc_notTuple);have LE:PySem.W.Looks (model X.prog X.w) s.heap (isExcClass (.ref D)) true:=L4.andThen L2;unfold excMatches;refine wpAny_bind (LT.here ?_);dsimp only;rw[if_neg Bool.false_ne_true];refine wpAny_bind (wpAny_pure ?_);simp only[List.forIn_cons,List.forIn_nil];refine wpAny_bind (wpAny_bind (wpAny_bind (LE.here ?_)));rw[if_neg (by decide)];refine wpAny_pure (wpAny_pure (wpAny_bind (L0.here (wpAny_bind (wpAny_bind (wpAny_bind (L3.here ?_)))))));cases b with
 |true=>
  rw[if_pos rfl];exact wpAny_pure (wpAny_pure (wpAny_pure q))
 |false=>
  rw[if_neg Bool.false_ne_true];exact wpAny_pure (wpAny_pure (wpAny_pure q))
theorem b0m{D:Addr}{y:Str}{np pos:Pos}{b₀:Stmt}{suite:List Stmt}{rest:List ExceptHandler}{ts:TS}{tr:XTS}(tp:Top X)(d:XHd X.K D)(hg:Gl X y)(hm:X.mg y=some (.ref D))(hs:∀x,PSs (X.hdl x) (b₀::suite) ts)(hr:PH X rest tr)
 (hdb:(y==("__debug__":Str))=false:=by decide):
 PH X (.ExceptHandler (some (.Name y np)) none (b₀::suite) pos::rest) (fun C od E σ H=>∃b,PySem.W.mroIn X.K C (.ref D)=some b∧if b=true then ts E σ H else tr C od E σ H):=by
 intro pins x C od T s σ H E I f lx lt ⟨b,hb,q⟩;refine wpAny_handleBy_cons (codeAny_handlers_test (w0x (X:=X.hdl x) I.hdl hg hm ?_ hdb)) (by intro z;cases z);refine q0m I f d hb ?_;cases b with
 |true=>
  rw[if_pos rfl]at q;refine codeAny_handlers_suite (x0k I tp f lt fun s1 I1 f1=>?_);exact wpAny_mono (hs x pins s1 σ H E I1.hdl q) (fun fl s2 z=>z.unhdl I.ok) fun _ _ z=>z.elim
 |false=>
  rw[if_neg Bool.false_ne_true]at q;exact hr pins x C od T s σ H E I f lx lt q
theorem Inv.track{x C:Addr}{od T:Option Addr}(I:Inv X pins σ H s)(l:Loose X pins H x)(f:Fly X.fl s.heap x C od T):Inv X pins σ (upd H x (XO (bif X.fl then 2 else 0) x C od)) s:=by
 obtain ⟨o,vs,hx,h1,h2,h3,h4,_⟩:=f;have nx:∀b u,H b=some u→b≠x:=fun b u q z=>by rw[z,l.free]at q;cases q
 refine ⟨I.ok,I.os,I.bare,⟨I.base.keep,I.base.slot,fun b ob q n hx=>?_,I.base.there,fun b xs q=>?_,fun b ob u q=>?_,fun b ps q=>?_⟩,I.loc,I.cell,?_,fun y c q=>?_,fun p hp=>?_,fun b u q=>?_,I.len⟩
 ·rw[u0 (Nat.ne_of_lt (Nat.lt_of_lt_of_le (Heap.lt_size q) l.yng))];exact I.base.free b ob q n hx
 ·have z:=I.base.tups b xs q;rw[u0 (nx b _ z)];exact z
 ·have z:=I.base.frzs b ob u q;rw[u0 (nx b _ z)];exact z
 ·obtain ⟨m,z⟩:=I.base.tbls b ps q;exact ⟨m,by rw[u0 (nx b _ z)];exact z⟩
 ·rw[u0 l.ne.symm];exact I.free
 ·rw[u0 (l.cell y c q)];exact I.freeC y c q
 ·obtain ⟨a,b,c⟩:=I.pin p hp;exact ⟨a,by rw[u0 (l.pin p hp)];exact b,c⟩
 ·by_cases z:b=x
  ·subst z;rw[g0]at q;cases q;exact XO.ok ⟨o,vs,hx,h1,h2,h3,(fun z=>by cases hc:X.fl<;>rw[hc]at z<;>cases z),fun z=>h4.2 (by cases hc:X.fl with |true=>rfl |false=>rw[hc]at z;exact absurd rfl z)⟩
  ·rw[u0 z]at q;exact (I.hok b u q).stay (fun _ _ _ w=>w) (fun c w=>by rw[u0 (nx c _ w)];exact w) fun c xs w=>by rw[u0 (nx c _ w)];exact w
theorem ph_as{D:Addr}{y n:Str}{i:Nat}{np pos:Pos}{b₀:Stmt}{suite:List Stmt}{rest:List ExceptHandler}{ts:Addr→TS}{tr:XTS}(tp:Top X)(d:XHd X.K D)(hg:Gl X y)(hm:X.mg y=some (.ref D))(hN:X.N.Nodup)(hi:X.N[i]?=some n)(hk:X.env.scope.names.lookup n=some .local)
 (hs:∀x,PSs (X.hdl x) (b₀::suite) (ts x)) (hr:PH X rest tr) (hdb:(y==("__debug__":Str))=false:=by decide):
 PH X (.ExceptHandler (some (.Name y np)) (some n) (b₀::suite) pos::rest) (fun C od E σ H=>∃b,PySem.W.mroIn X.K C (.ref D)=some b∧if b=true then
  (∀x,H x=none→ts x {nx:=fun σ' H'=>E.nx (σ'.set i none) H',rt:=E.rt,bk:=fun σ' H'=>E.bk (σ'.set i none) H',ct:=fun σ' H'=>E.ct (σ'.set i none) H'} (σ.set i (some (.ref x))) (upd H x (XO (bif X.fl then 2 else 0) x C od)))else tr C od E σ H):=by
 intro pins x C od T s σ H E I f lx lt ⟨b,hb,q⟩;refine wpAny_handleBy_cons (codeAny_handlers_test (w0x (X:=X.hdl x) I.hdl hg hm ?_ hdb)) (by intro z;cases z);refine q0m I f d hb ?_;cases b with
 |true=>
  rw[if_pos rfl]at q;refine codeAny_handlers_suite_as (x0k I tp f lt fun s1 I1 f1=>?_);have I2:Inv X pins σ (upd H x (XO (bif X.fl then 2 else 0) x C od)) s1:=I1.track lx f1;refine v0g (v:=.ref x) I2 hN hi (.inl hk) rfl (fun s2 I3=>?_) (.inr hk);refine wpAny_mono (hs x pins s2 _ _ _ I3.hdl (q x lx.free)) (fun fl s3 z=>?_) fun _ _ z=>z.elim
  have z:=z.unhdl I.ok;cases fl with
  |next=>obtain ⟨σ',H',I4,q4⟩:=z;exact s0f I4 hN hi hk fun s4 I5=>⟨_,H',I5,q4⟩
  |brk=>obtain ⟨σ',H',I4,q4⟩:=z;exact s0f I4 hN hi hk fun s4 I5=>⟨_,H',I5,q4⟩
  |cont=>obtain ⟨σ',H',I4,q4⟩:=z;exact s0f I4 hN hi hk fun s4 I5=>⟨_,H',I5,q4⟩
  |ret u=>obtain ⟨v,σ',H',I4,r4,q4⟩:=z;exact s0f I4 hN hi hk fun s4 I5=>⟨v,_,H',I5,r4,q4⟩
 |false=>
  rw[if_neg Bool.false_ne_true]at q;exact hr pins x C od T s σ H E I f lx lt q
noncomputable def tTry(tb:XW→TS)(th:XTS):TS:=fun D σ H=>∃W:XW,tb W D σ H∧∀C od σ' H',W C od σ' H'→th C od D σ' H'
theorem ps_try{body:List Stmt}{h₀:ExceptHandler}{hs:List ExceptHandler}{pos:Pos}{tb:XW→TS}{th:XTS}(tp:Top X)(hb:∀pins W,PSs (X.tr pins W) body (tb W))(hh:PH X (h₀::hs) th):PS X (.Try body (h₀::hs) [] [] pos) (tTry tb th):=by
 intro pins s σ H D I ⟨W,q,hW⟩;refine wpAny_Try_except (wpAny_mono (hb pins W [] s σ H D I.tr q) (fun f s1 z=>?_) fun e s1 z=>?_)
 ·have z:=z.untr;cases f with
  |next=>exact wpAny_execs_nil z
  |brk=>exact z
  |cont=>exact z
  |ret u=>exact z
 ·obtain ⟨x,C,od,T,σ',H',rfl,I1,f,lx,lt,q1⟩:=z;have I0:Inv X pins σ' H' s1:=I1.untr (W:=W) (.inr rfl);have ls:∀t,Loose (X.more pins) [] H' t→Loose X pins H' t:=fun t l=>⟨l.free,l.ne,l.yng,l.cell,fun p hp=>l.pin p (List.mem_append_left _ hp)⟩
  refine i0z I0 tp I0.ok.frames f (ls x lx) (fun t e=>ls t (lt t e)) fun s2 t I2 f2 l2=>?_
  refine x0k I2 tp f2 (fun t' e=>by cases e;exact l2) fun s3 I3 f3=>?_
  exact hh pins x C od (some t) s3 σ' H' D I3 f3 (ls x lx) (fun t' e=>by cases e;exact l2) (hW C od σ' H' q1)
end
end L2
namespace L2
open PySem PySem.Spec PyProof.Rows
open PySem.W (XC)
structure DefAt(K:PySem.W.Frag)(mg:Str→Option Value)(x:Str)(st:Stmt)(ps:List Str)(f:Addr)(fd:FuncData):Prop where
 F:Fun K x x st f fd
 m:mg x=some (.ref f)
 b:Binds K fd ps []
structure FnAt(P:Program)(w:World)(K:PySem.W.Frag)(mg:Str→Option Value)(base:Heap)(CX:CXT)(x:Str)(k:Nat)(ps:List Str)(sp:Sp):Prop where
 ex:∃f fd,FnOk P w K mg base CX k f fd ps sp∧mg x=some (.ref f)∧PySem.W.keepIn K (.ref f)=true∧Binds K fd ps []
theorem DefAt.at{P:Program}{w:World}{K:PySem.W.Frag}{mg:Str→Option Value}{base:Heap}{CX:CXT}{x:Str}{st:Stmt}{ps:List Str}{f:Addr}{fd:FuncData}{k:Nat}{sp:Sp}(D:DefAt K mg x st ps f fd)(F:FnOk P w K mg base CX k f fd ps sp):FnAt P w K mg base CX x k ps sp:=
 ⟨f,fd,F,D.m,D.F.kp,D.b⟩
section
variable{X:Cx}{x:Str}{p pos:Pos}{e:Expr}{es:List Expr}{t:TA}{k:Nat}{ps:List Str}{sp:Sp}
theorem pe_cX{W:XW}(G:FnAt X.prog X.w X.K X.mg X.base (CX1 X.prog X.w) x k ps sp)(hr:Room k X.A)(hf:w0w X W)(ha:PA X (e::es) t)(hg:Gl X x:=by rfl)(hdb:(x==("__debug__":Str))=false:=by decide)
 (he:starEach (e::es) X.env=(false,eval e X.env)::starEach es X.env:=by rfl) (hpl:(backTo pos (starEach es X.env)).any (·.1)=false:=by rfl):PE X (.Call (.Name x p) (e::es) [] pos) (i0y sp W t):=by
 obtain ⟨f,fd,F,m,kp,b⟩:=G.ex;exact f0k F hr hg m kp b hf ha hdb he hpl
theorem pty(n:String){y:Str}(hm:X.mg y=none)(hv:bootBuiltins y=some (.type n))(hg:Gl X y:=by rfl)(hn:y≠"__name__":=by decide)(hd:(y==("__debug__":Str))=false:=by decide):PE X (.Name y pos) (tC (.ty n)):=c0i hg hm hv rfl hn hd
end
theorem d0f:bootBuiltins "len"=some (.builtin "len"):=by kernel_rfl
theorem bt_abs:bootBuiltins "abs"=some (.builtin "abs"):=by kernel_rfl
theorem i0u:bootBuiltins "all"=some (.builtin "all"):=by kernel_rfl
theorem y4:bootBuiltins "isinstance"=some (.builtin "isinstance"):=by kernel_rfl
theorem i0t:bootBuiltins "int"=some (.type "int"):=by kernel_rfl
theorem i0s:bootBuiltins "bool"=some (.type "bool"):=by kernel_rfl
theorem o0m:bootBuiltins "list"=some (.type "list"):=by kernel_rfl
theorem b6:bootBuiltins "tuple"=some (.type "tuple"):=by kernel_rfl
structure Deck(H:Hp)(D S:Addr)(n:Nat):Prop where
 ex:∃c k:Int,H D=some (.lst [.ref S,.int c,.int k])∧0≤c∧0≤k∧k≤n
end L2
namespace L2
open PySem PySem.Spec PyProof.Rows
end L2
namespace L2
theorem b0l{α:Type}{xs:List α}{k:Int}(h:0<xs.length):∃v,atI xs (k%(xs.length:Nat))=some v∧v∈xs:=by
 have h1:=Int.emod_nonneg k (b:=(xs.length:Int)) (by omega);have h2:=Int.emod_lt_of_pos k (b:=(xs.length:Int)) (by omega);have hj:(k%(xs.length:Nat)).toNat<xs.length:=by omega
 refine ⟨xs[(k%(xs.length:Nat)).toNat],?_,List.getElem_mem hj⟩;have e:k%(xs.length:Nat)=(((k%(xs.length:Nat)).toNat:Nat):Int):=by omega
 have q:∀z:Int,z=k%(xs.length:Nat)→z=((z.toNat:Nat):Int)→∀hz:z.toNat<xs.length,atI xs z=some xs[z.toNat]:=by
  intro z _ hz2 hz3;generalize z.toNat=j at hz2 hz3;subst hz2;exact o0q (List.getElem?_eq_getElem hz3)
 exact q _ rfl e hj
end L2
set_option maxHeartbeats 8000000
namespace L2
open PySem PySem.Spec PyProof.Rows
noncomputable def BT:List String:=["NoneType","bool","int","str","list","tuple","dict"]
theorem kt_all(K:PySem.W.Frag){n:String}(h:n∈BT):PySem.W.kitOne K (.type n) (.type "bool")=some (n=="bool")∧PySem.W.kitOne K (.type n) (.type "int")=some (n=="int"||n=="bool")∧
 PySem.W.kitOne K (.type n) (.type "list")=some (n=="list")∧PySem.W.kitOne K (.type n) (.type "tuple")=some (n=="tuple")∧PySem.W.kitAny K (.type n) [.type "list",.type "tuple"]=some (n=="list"||n=="tuple"):=by
 simp only[BT,List.mem_cons,List.not_mem_nil,or_false]at h;rcases h with rfl |rfl |rfl |rfl |rfl |rfl |rfl
 ·exact ⟨by kernel_rfl,by kernel_rfl,by kernel_rfl,by kernel_rfl,by kernel_rfl⟩
 ·exact ⟨by kernel_rfl,by kernel_rfl,by kernel_rfl,by kernel_rfl,by kernel_rfl⟩
 ·exact ⟨by kernel_rfl,by kernel_rfl,by kernel_rfl,by kernel_rfl,by kernel_rfl⟩
 ·exact ⟨by kernel_rfl,by kernel_rfl,by kernel_rfl,by kernel_rfl,by kernel_rfl⟩
 ·exact ⟨by kernel_rfl,by kernel_rfl,by kernel_rfl,by kernel_rfl,by kernel_rfl⟩
 ·exact ⟨by kernel_rfl,by kernel_rfl,by kernel_rfl,by kernel_rfl,by kernel_rfl⟩
 ·exact ⟨by kernel_rfl,by kernel_rfl,by kernel_rfl,by kernel_rfl,by kernel_rfl⟩
structure Thing(K:PySem.W.Frag)(H:Hp)(x:V)(n:String):Prop where
 ty:TyOf K H x (.type n)
 mem:n∈BT
end L2
set_option maxHeartbeats 8000000
namespace L2
open PySem PySem.Spec PyProof.Rows
open PySem.W (XC veMro)
structure ErrC(K:PySem.W.Frag)(W C:Addr):Prop where
 mro:(PySem.W.clsIn K C).map (·.mro)=some (.ref C:: .ref W::veMro)
 ty:PySem.W.typeIn K (.ref C)=some (.type "type")
 xc:XC K C
theorem ErrC.mroIn{K:PySem.W.Frag}{W C:Addr}(c:ErrC K W C)(b:Value):PySem.W.mroIn K C b=some ((Value.ref C:: .ref W::veMro).contains b):=by
 obtain ⟨cd,h1,h2⟩:=Option.map_eq_some_iff.mp c.mro;unfold PySem.W.mroIn;rw[h1,Option.bind_some,h2];rfl
theorem Same.new{H:Hp}{p:Addr}{o:HO}(h:H p=none):Same H (upd H p o):=fun b u e=>by rw[u0 (v0 e h)];exact e
noncomputable def spXI(C:Addr)(a:Str):Sp:=fun vs H Q _=>∃(x:Addr) (v:V),vs=[.ref x,v]∧H x=some (XO 1 x C none)∧∀d,H d=none→d≠x→Q .non (upd (upd H d (XD d [(a,v)])) x (XO 1 x C (some d)))
end L2
namespace L2
open PySem PySem.Spec PyProof.Rows
open PySem.W (XC veMro)
structure MkE(P:Program)(w:World)(K:PySem.W.Frag)(mg:Str→Option Value)(base:Heap)(x:Str)(C:Addr)(k:Nat)(ps:List Str)(sp:Sp):Prop where
 ex:∃f fd,XMk K C f∧FnOk P w K mg base CX0 k f fd ps sp∧Binds K fd ps []
 m:mg x=some (.ref C)
theorem i0r{X:Cx}{W:XW}{x:Str}{C:Addr}{k:Nat}{ps:List Str}{sp:Sp}{p cpos pos:Pos}{e:Expr}{es:List Expr}{t:TA}(hc:X.calm=true)(hf:w0w X W)(M:MkE X.prog X.w X.K X.mg X.base x C k ps sp)(hr:Room (k+1) X.A)(ha:PA X (e::es) t)(hg:Gl X x:=by rfl)
 (hdb:(x==("__debug__":Str))=false:=by decide) (he:starEach (e::es) X.env=(false,eval e X.env)::starEach es X.env:=by rfl) (hpl:(backTo cpos (starEach es X.env)).any (·.1)=false:=by rfl):
 PS X (.Raise (some (.Call (.Name x p) (e::es) [] cpos)) none pos) (i0x C sp W t):=by
 obtain ⟨f,fd,h1,h2,h3⟩:=M.ex;exact i0w hc hf h1 h2 hr hg M.m h3 ha hdb he hpl
theorem sz1{a:V}:[a].length≤PySem.sizeLine:=by show 1≤PySem.sizeLine;decide
end L2
namespace DL
open PySem PySem.Spec L2
open PySem.W (XC)
inductive D where
 |non |bl (b:Bool)|int (i:Int)|str (x:Str)
 |lst (xs:List D)|tup (xs:List D)|scr (xs:List D)|dic (kvs:List (Key×D))|dwk (kvs:List (Key×D))
 |ins (C:Addr) (fs:List (Str×D))|exc (C:Addr) (fs:List (Str×D))
 |ref (a:Addr)|ty (n:String)
noncomputable abbrev Frag:=PySem.W.Frag
mutual
noncomputable def Rep(K:Frag)(F:Hp):D→V→Prop
 | .non,v=>v=.non
 | .bl b,v=>v=.bl b
 | .int i,v=>v=.int i
 | .str x,v=>v=.str x
 | .lst ds,v=>∃a vs,v=.ref a∧F a=some (.lst vs)∧Reps K F ds vs
 | .tup ds,v=>∃a vs,v=.ref a∧F a=some (.tup vs)∧Reps K F ds vs
 | .scr ds,v=>∃a vs,v=.ref a∧SqL K F a vs∧Reps K F ds vs
 | .dic kvs,v=>∃a us,v=.ref a∧F a=some (.dK us)∧RepK K F kvs us
 | .dwk kvs,v=>∃a o us,v=.ref a∧F a=some (.frz o (.dK us))∧RepK K F kvs us
 | .ins C fs,v=>∃a dx us,v=.ref a∧F a=some (.ins C dx us)∧F dx=some (.own a)∧RepF K F fs us
 | .exc C fs,v=>∃a fr,v=.ref a∧((fs=[]∧F a=some (XO fr a C none))∨∃d us,F a=some (XO fr a C (some d))∧F d=some (XD d us)∧RepF K F fs us)
 | .ref a,v=>v=.ref a
 | .ty n,v=>v=.ty n
noncomputable def Reps(K:Frag)(F:Hp):List D→List V→Prop
 | [],vs=>vs=[]
 |d::ds,vs=>∃v r,vs=v::r∧Rep K F d v∧Reps K F ds r
noncomputable def RepF(K:Frag)(F:Hp):List (Str×D)→List (Str×V)→Prop
 | [],vs=>vs=[]
 |(x,d)::ds,vs=>∃v r,vs=(x,v)::r∧Rep K F d v∧RepF K F ds r
noncomputable def RepK(K:Frag)(F:Hp):List (Key×D)→List (Key×V)→Prop
 | [],vs=>vs=[]
 |(x,d)::ds,vs=>∃v r,vs=(x,v)::r∧Rep K F d v∧RepK K F ds r
end
theorem _root_.L2.Same.rd{F F':Hp}{a:Addr}{u:HO}(s:Same F F')(h:Rd F a u):Rd F' a u:=by
 rcases h with h |⟨o,h⟩
 ·exact .inl (s _ _ h)
 ·exact .inr ⟨o,s _ _ h⟩
theorem _root_.L2.Same.sqL{K:Frag}{F F':Hp}{a:Addr}{xs:List V}(s:Same F F')(h:SqL K F a xs):SqL K F' a xs:=h.imp s.rd id
theorem _root_.L2.Same.sqT{K:Frag}{F F':Hp}{a:Addr}{xs:List V}(s:Same F F')(h:SqT K F a xs):SqT K F' a xs:=h.imp s.rd id
mutual
theorem Rep.mono{K:Frag}{F F':Hp}(s:Same F F'):∀{d:D} {v:V},Rep K F d v→Rep K F' d v
 | .non,v,h=>by unfold Rep at h ⊢; exact h
 | .bl b,v,h=>by unfold Rep at h ⊢; exact h
 | .int i,v,h=>by unfold Rep at h ⊢; exact h
 | .str x,v,h=>by unfold Rep at h ⊢; exact h
 | .lst ds,v,h=>by unfold Rep at h ⊢; obtain ⟨a,vs,e,q,r⟩:=h;exact ⟨a,vs,e,s _ _ q,Reps.mono s r⟩
 | .tup ds,v,h=>by unfold Rep at h ⊢; obtain ⟨a,vs,e,q,r⟩:=h;exact ⟨a,vs,e,s _ _ q,Reps.mono s r⟩
 | .scr ds,v,h=>by unfold Rep at h ⊢; obtain ⟨a,vs,e,q,r⟩:=h;exact ⟨a,vs,e,s.sqL q,Reps.mono s r⟩
 | .dic ds,v,h=>by unfold Rep at h ⊢; obtain ⟨a,vs,e,q,r⟩:=h;exact ⟨a,vs,e,s _ _ q,RepK.mono s r⟩
 | .dwk ds,v,h=>by unfold Rep at h ⊢; obtain ⟨a,o,vs,e,q,r⟩:=h;exact ⟨a,o,vs,e,s _ _ q,RepK.mono s r⟩
 | .ins C fs,v,h=>by unfold Rep at h ⊢; obtain ⟨a,dx,vs,e,q,q2,r⟩:=h;exact ⟨a,dx,vs,e,s _ _ q,s _ _ q2,RepF.mono s r⟩
 | .exc C fs,v,h=>by
  unfold Rep at h ⊢;obtain ⟨a,fr,e,h⟩:=h;refine ⟨a,fr,e,?_⟩;rcases h with ⟨e1,q⟩|⟨d,us,q,q2,r⟩
  ·exact .inl ⟨e1,s _ _ q⟩
  ·exact .inr ⟨d,us,s _ _ q,s _ _ q2,RepF.mono s r⟩
 | .ref a,v,h=>by unfold Rep at h ⊢; exact h
 | .ty n,v,h=>by unfold Rep at h ⊢; exact h
theorem Reps.mono{K:Frag}{F F':Hp}(s:Same F F'):∀{ds:List D} {vs:List V},Reps K F ds vs→Reps K F' ds vs
 | [],vs,h=>by unfold Reps at h ⊢; exact h
 |d::ds,vs,h=>by unfold Reps at h ⊢; obtain ⟨v,r,e,q,z⟩:=h;exact ⟨v,r,e,Rep.mono s q,Reps.mono s z⟩
theorem RepF.mono{K:Frag}{F F':Hp}(s:Same F F'):∀{ds:List (Str×D)} {vs:List (Str×V)},RepF K F ds vs→RepF K F' ds vs
 | [],vs,h=>by unfold RepF at h ⊢; exact h
 |(x,d)::ds,vs,h=>by unfold RepF at h ⊢; obtain ⟨v,r,e,q,z⟩:=h;exact ⟨v,r,e,Rep.mono s q,RepF.mono s z⟩
theorem RepK.mono{K:Frag}{F F':Hp}(s:Same F F'):∀{ds:List (Key×D)} {vs:List (Key×V)},RepK K F ds vs→RepK K F' ds vs
 | [],vs,h=>by unfold RepK at h ⊢; exact h
 |(x,d)::ds,vs,h=>by unfold RepK at h ⊢; obtain ⟨v,r,e,q,z⟩:=h;exact ⟨v,r,e,Rep.mono s q,RepK.mono s z⟩
end
section
variable{K:Frag}{F H:Hp}
theorem rep_non{v:V}:Rep K F .non v↔v=.non:=by unfold Rep;exact Iff.rfl
theorem rep_bl{b:Bool}{v:V}:Rep K F (.bl b) v↔v=.bl b:=by unfold Rep;exact Iff.rfl
theorem rep_int{i:Int}{v:V}:Rep K F (.int i) v↔v=.int i:=by unfold Rep;exact Iff.rfl
theorem rep_str{x:Str}{v:V}:Rep K F (.str x) v↔v=.str x:=by unfold Rep;exact Iff.rfl
theorem rep_ref{a:Addr}{v:V}:Rep K F (.ref a) v↔v=.ref a:=by unfold Rep;exact Iff.rfl
theorem rep_ty{n:String}{v:V}:Rep K F (.ty n) v↔v=.ty n:=by unfold Rep;exact Iff.rfl
theorem rep_lst{ds:List D}{v:V}:Rep K F (.lst ds) v↔∃a vs,v=.ref a∧F a=some (.lst vs)∧Reps K F ds vs:=by rw[Rep]
theorem rep_tup{ds:List D}{v:V}:Rep K F (.tup ds) v↔∃a vs,v=.ref a∧F a=some (.tup vs)∧Reps K F ds vs:=by rw[Rep]
theorem rep_scr{ds:List D}{v:V}:Rep K F (.scr ds) v↔∃a vs,v=.ref a∧SqL K F a vs∧Reps K F ds vs:=by rw[Rep]
theorem rep_dwk{ds:List (Key×D)}{v:V}:Rep K F (.dwk ds) v↔∃a o us,v=.ref a∧F a=some (.frz o (.dK us))∧RepK K F ds us:=by rw[Rep]
theorem rep_dic{ds:List (Key×D)}{v:V}:Rep K F (.dic ds) v↔∃a us,v=.ref a∧F a=some (.dK us)∧RepK K F ds us:=by rw[Rep]
theorem rep_ins{C:Addr}{fs:List (Str×D)}{v:V}:Rep K F (.ins C fs) v↔∃a dx us,v=.ref a∧F a=some (.ins C dx us)∧F dx=some (.own a)∧RepF K F fs us:=by rw[Rep]
theorem rep_exc{C:Addr}{fs:List (Str×D)}{v:V}:Rep K F (.exc C fs) v↔∃a fr,v=.ref a∧((fs=[]∧F a=some (XO fr a C none))∨∃d us,F a=some (XO fr a C (some d))∧F d=some (XD d us)∧RepF K F fs us):=by rw[Rep]
theorem reps_nil{vs:List V}:Reps K F [] vs↔vs=[]:=by rw[Reps]
theorem reps_cons{d:D}{ds:List D}{vs:List V}:Reps K F (d::ds) vs↔∃v r,vs=v::r∧Rep K F d v∧Reps K F ds r:=by rw[Reps]
theorem Reps.cons{d:D}{ds:List D}{v:V}{vs:List V}(h:Rep K F d v)(t:Reps K F ds vs):Reps K F (d::ds) (v::vs):=reps_cons.mpr ⟨v,vs,rfl,h,t⟩
theorem Reps.nil:Reps K F [] []:=reps_nil.mpr rfl
theorem Reps.length:∀{ds:List D} {vs:List V},Reps K F ds vs→vs.length=ds.length
 | [],vs,h=>by rw[reps_nil.mp h];rfl
 |d::ds,vs,h=>by obtain ⟨v,r,rfl,_,z⟩:=reps_cons.mp h;rw[List.length_cons,List.length_cons,Reps.length z]
theorem Reps.append:∀{ds es:List D} {vs us:List V},Reps K F ds vs→Reps K F es us→Reps K F (ds++es) (vs++us)
 | [],es,vs,us,h,h'=>by rw[reps_nil.mp h];exact h'
 |d::ds,es,vs,us,h,h'=>by obtain ⟨v,r,rfl,q,z⟩:=reps_cons.mp h;exact Reps.cons q (Reps.append z h')
theorem Reps.get:∀{ds:List D} {vs:List V} {i:Nat} {d:D},Reps K F ds vs→ds[i]?=some d→∃v,vs[i]?=some v∧Rep K F d v
 | [],vs,i,d,h,e=>by simp at e
 |d::ds,vs,0,d',h,e=>by obtain ⟨v,r,rfl,q,z⟩:=reps_cons.mp h;simp at e;subst e;exact ⟨v,rfl,q⟩
 |d::ds,vs,i+1,d',h,e=>by obtain ⟨v,r,rfl,q,z⟩:=reps_cons.mp h;simp at e;obtain ⟨u,a,b⟩:=Reps.get z e;exact ⟨u,by simpa using a,b⟩
theorem Reps.set{d:D}{v:V}(q:Rep K F d v):∀{ds:List D} {vs:List V} (i:Nat),Reps K F ds vs→Reps K F (ds.set i d) (vs.set i v)
 | [],vs,i,h=>by rw[reps_nil.mp h];exact Reps.nil
 |e::ds,vs,0,h=>by obtain ⟨u,r,rfl,_,z⟩:=reps_cons.mp h;exact Reps.cons q z
 |e::ds,vs,i+1,h=>by obtain ⟨u,r,rfl,p,z⟩:=reps_cons.mp h;exact Reps.cons p (Reps.set q i z)
theorem Reps.take:∀{ds:List D} {vs:List V} (n:Nat),Reps K F ds vs→Reps K F (ds.take n) (vs.take n)
 | [],vs,n,h=>by rw[reps_nil.mp h];simp;exact Reps.nil
 |d::ds,vs,0,h=>by simp;exact Reps.nil
 |d::ds,vs,n+1,h=>by obtain ⟨u,r,rfl,p,z⟩:=reps_cons.mp h;simp;exact Reps.cons p (Reps.take n z)
theorem Reps.drop:∀{ds:List D} {vs:List V} (n:Nat),Reps K F ds vs→Reps K F (ds.drop n) (vs.drop n)
 | [],vs,n,h=>by rw[reps_nil.mp h];simp;exact Reps.nil
 |d::ds,vs,0,h=>by simpa using h
 |d::ds,vs,n+1,h=>by obtain ⟨u,r,rfl,p,z⟩:=reps_cons.mp h;simp;exact Reps.drop n z
theorem Reps.dropLast{ds:List D}{vs:List V}(h:Reps K F ds vs):Reps K F ds.dropLast vs.dropLast:=by
 rw[List.dropLast_eq_take,List.dropLast_eq_take,h.length];exact h.take _
theorem Reps.atI{ds:List D}{vs:List V}{i:Int}{d:D}(h:Reps K F ds vs)(e:L2.atI ds i=some d):∃v,L2.atI vs i=some v∧Rep K F d v:=by
 unfold L2.atI at e ⊢;rw[h.length];cases hj:ixN ds.length i with
 |none=>rw[hj]at e;cases e
 |some j=>
  rw[hj]at e;obtain ⟨v,a,b⟩:=h.get e;exact ⟨v,a,b⟩
end
end DL
namespace DL
open PySem PySem.Spec L2
open PySem.W (XC)
noncomputable abbrev Dk:=Option (Addr×List D)
inductive Cell where
 |no |val (d:D)|own (ds:List D)|obj (C:Addr) (fs:List (Str×D))|ownD (kvs:List (Key×D))
noncomputable abbrev En:=List Cell
noncomputable def CellOk(K:Frag)(F H H₀:Hp)(sf:Option Addr):Cell→Option V→Prop
 | .no,_=>True
 | .val d,v=>∃u,v=some u∧Rep K F d u
 | .own ds,v=>∃a vs,v=some (.ref a)∧H a=some (.lst vs)∧F a=none∧H₀ a=none∧Reps K F ds vs
 | .obj C fs,v=>∃a dx us,v=some (.ref a)∧sf=some a∧H a=some (.ins C dx us)∧H dx=some (.own a)∧F a=none∧F dx=none∧H₀ a=none∧H₀ dx=none∧RepF K F fs us
 | .ownD kvs,v=>∃a us,v=some (.ref a)∧H a=some (.dK us)∧F a=none∧H₀ a=none∧RepK K F kvs us
noncomputable def Off(δ:Dk)(b:Addr):Prop:=∀a ds,δ=some (a,ds)→b≠a
noncomputable def DkOk(K:Frag)(F H:Hp)(δ:Dk):Prop:=∀a ds,δ=some (a,ds)→F a=none∧∃vs,H a=some (.lst vs)∧Reps K F ds vs
noncomputable def DkTo(H₀:Hp)(δ₀ δ:Dk):Prop:=(∀a ds,δ₀=some (a,ds)→∃es,δ=some (a,es))∧∀a ds,δ=some (a,ds)→δ₀=none→H₀ a=none
structure Ran(K:Frag)(F₀ H₀:Hp)(δ₀:Dk)(F H:Hp)(δ:Dk):Prop where
 sub:Same F H
 dk:DkOk K F H δ
 keep:∀b o,H₀ b=some o→Off δ₀ b→H b=some o
 f0:Same F₀ F
 fnew:∀b o,F b=some o→F₀ b=some o∨H₀ b=none
 dto:DkTo H₀ δ₀ δ
structure Y2 where
 F₀:Hp
 H₀:Hp
 δ₀:Dk
 sf:Option Addr:=none
noncomputable def o7(ρ:En)(σ:St)(i:Nat)(a:Addr):Prop:=((∃ds,ρ[i]?=some (.own ds))∨(∃C fs,ρ[i]?=some (.obj C fs))∨∃kvs,ρ[i]?=some (.ownD kvs))∧σ[i]?=some (some (.ref a))
structure I2(K:Frag)(Y:Y2)(F H:Hp)(σ:St)(ρ:En)(δ:Dk):Prop where
 ran:Ran K Y.F₀ Y.H₀ Y.δ₀ F H δ
 env:∀(i:Nat) (c:Cell),ρ[i]?=some c→CellOk K F H Y.H₀ Y.sf c (σ[i]?).join
 len:ρ.length=σ.length
 apart:∀(i j:Nat) (a:Addr),i≠j→o7 ρ σ i a→o7 ρ σ j a→False
 off:∀(i:Nat) (a:Addr),o7 ρ σ i a→Off δ a
section
variable{K:Frag}{Y:Y2}{F H F' H':Hp}{σ:St}{ρ:En}{δ:Dk}
theorem I2.sub(I:I2 K Y F H σ ρ δ):Same F H:=I.ran.sub
theorem d0{σ:St}{i:Nat}{v:V}(h:(σ[i]?).join=some v):σ[i]?=some (some v):=by
 cases e:σ[i]? with
 |none=>rw[e]at h;cases h
 |some o=>rw[e]at h;exact congrArg some h
theorem Ran.fresh(R:Ran K Y.F₀ Y.H₀ Y.δ₀ F H δ){p:Addr}(h:H p=none):Y.H₀ p=none:=by
 cases q:Y.H₀ p with
 |none=>rfl
 |some o=>
  by_cases z:∃ds,Y.δ₀=some (p,ds)
  ·obtain ⟨ds,z⟩:=z;obtain ⟨es,z2⟩:=R.dto.1 p ds z;obtain ⟨_,vs,z3,_⟩:=R.dk p es z2;rw[h]at z3;cases z3
  ·have:=R.keep p o q (fun a ds e w=>z ⟨ds,by rw[e,w]⟩);rw[h]at this;cases this
theorem Ran.alloc{o:HO}{p:Addr}(R:Ran K Y.F₀ Y.H₀ Y.δ₀ F H δ)(h:H p=none):Ran K Y.F₀ Y.H₀ Y.δ₀ (upd F p o) (upd H p o) δ:=by
 have hF:F p=none:=R.sub.free h;have h0:=R.fresh h;refine ⟨fun b u e=>?_,fun a ds e=>?_,fun b u e f=>?_,fun b u e=>?_,fun b u e=>?_,R.dto⟩
 ·by_cases z:b=p
  ·subst z;rw[g0]at e ⊢; exact e
  ·rw[u0 z]at e ⊢; exact R.sub _ _ e
 ·obtain ⟨q,vs,q2,r⟩:=R.dk a ds e;have z:a≠p:=v0 q2 h;exact ⟨by rw[u0 z];exact q,vs,by rw[u0 z];exact q2,r.mono (Same.new hF)⟩
 ·rw[u0 (v0 (R.keep b u e f) h)];exact R.keep b u e f
 ·rw[u0 (v0 (R.f0 b u e) hF)];exact R.f0 b u e
 ·by_cases z:b=p
  ·subst z;exact .inr h0
  ·rw[u0 z]at e;exact R.fnew b u e
theorem CellOk.alloc{o:HO}{p:Addr}{c:Cell}{v:Option V}{H₀:Hp}{sf:Option Addr}(s:Same F H)(h:H p=none)(x:CellOk K F H H₀ sf c v):CellOk K (upd F p o) (upd H p o) H₀ sf c v:=by
 have hF:F p=none:=s.free h;cases c with
 |no=>trivial
 |val d=>obtain ⟨u,e,r⟩:=x;exact ⟨u,e,r.mono (Same.new hF)⟩
 |own ds=>
  obtain ⟨a,vs,e,q,f,g,r⟩:=x;have z:=v0 q h;exact ⟨a,vs,e,by rw[u0 z];exact q,by rw[u0 z];exact f,g,r.mono (Same.new hF)⟩
 |obj C fs=>
  obtain ⟨a,dx,us,e,es,q,q2,f,f2,g,g2,r⟩:=x;have z:=v0 q h;have z2:=v0 q2 h;exact ⟨a,dx,us,e,es,by rw[u0 z];exact q,by rw[u0 z2];exact q2,by rw[u0 z];exact f,by rw[u0 z2];exact f2,g,g2,r.mono (Same.new hF)⟩
 |ownD kvs=>
  obtain ⟨a,us,e,q,f,g,r⟩:=x;have z:=v0 q h;exact ⟨a,us,e,by rw[u0 z];exact q,by rw[u0 z];exact f,g,r.mono (Same.new hF)⟩
theorem I2.alloc{o:HO}{p:Addr}(I:I2 K Y F H σ ρ δ)(h:H p=none):I2 K Y (upd F p o) (upd H p o) σ ρ δ:=
 ⟨I.ran.alloc h,fun i c e=>(I.env i c e).alloc I.sub h,I.len,I.apart,I.off⟩
theorem I2.lst{ds:List D}{vs:List V}{p:Addr}(I:I2 K Y F H σ ρ δ)(h:H p=none)(r:Reps K F ds vs):Rep K (upd F p (.lst vs)) (.lst ds) (.ref p):=
 rep_lst.mpr ⟨p,vs,rfl,g0,r.mono (Same.new (I.sub.free h))⟩
theorem I2.tup{ds:List D}{vs:List V}{p:Addr}(I:I2 K Y F H σ ρ δ)(h:H p=none)(r:Reps K F ds vs):Rep K (upd F p (.tup vs)) (.tup ds) (.ref p):=
 rep_tup.mpr ⟨p,vs,rfl,g0,r.mono (Same.new (I.sub.free h))⟩
theorem I2.grow{o:HO}{p:Addr}(I:I2 K Y F H σ ρ δ)(h:H p=none):Same F (upd F p o):=Same.new (I.sub.free h)
theorem I2.put{i:Nat}{v:V}{d:D}(I:I2 K Y F H σ ρ δ)(r:Rep K F d v):I2 K Y F H (σ.set i (some v)) (ρ.set i (.val d)) δ:=by
 have key:∀j a,o7 (ρ.set i (.val d)) (σ.set i (some v)) j a→j≠i∧o7 ρ σ j a:=fun j a o=>by
  by_cases z:j=i
  ·subst z;rcases o.1 with ⟨ds,q⟩|⟨C,fs,q⟩|⟨kvs,q⟩<;>
   ·rw[List.getElem?_set]at q;simp at q
  ·refine ⟨z,?_⟩;obtain ⟨o1,o2⟩:=o;simp only[List.getElem?_set_ne (Ne.symm z)]at o1 o2;exact ⟨o1,o2⟩
 refine ⟨I.ran,fun j c e=>?_,by simp[I.len],fun a b c n o1 o2=>I.apart a b c n (key a c o1).2 (key b c o2).2,fun j a o=>I.off j a (key j a o).2⟩;by_cases z:j=i
 ·subst z;rw[List.getElem?_set]at e;by_cases hl:j<ρ.length
  ·simp[hl]at e;subst e;refine ⟨v,?_,r⟩;rw[List.getElem?_set];simp[I.len▸hl]
  ·simp[hl]at e
 ·rw[List.getElem?_set_ne (Ne.symm z)]at e ⊢;exact I.env j c e
theorem I2.gone{i:Nat}(I:I2 K Y F H σ ρ δ):I2 K Y F H (σ.set i none) (ρ.set i .no) δ:=by
 have key:∀j a,o7 (ρ.set i .no) (σ.set i none) j a→j≠i∧o7 ρ σ j a:=fun j a o=>by
  by_cases z:j=i
  ·subst z;rcases o.1 with ⟨ds,q⟩|⟨C,fs,q⟩|⟨kvs,q⟩<;>
   ·rw[List.getElem?_set]at q;simp at q
  ·refine ⟨z,?_⟩;obtain ⟨o1,o2⟩:=o;simp only[List.getElem?_set_ne (Ne.symm z)]at o1 o2;exact ⟨o1,o2⟩
 refine ⟨I.ran,fun j c e=>?_,by simp[I.len],fun a b c n o1 o2=>I.apart a b c n (key a c o1).2 (key b c o2).2,fun j a o=>I.off j a (key j a o).2⟩;by_cases z:j=i
 ·subst z;rw[List.getElem?_set]at e;by_cases hl:j<ρ.length
  ·simp[hl]at e;subst e;trivial
  ·simp[hl]at e
 ·rw[List.getElem?_set_ne (Ne.symm z)]at e ⊢;exact I.env j c e
theorem I2.freeze{i:Nat}{ds:List D}(I:I2 K Y F H σ ρ δ)(e:ρ[i]?=some (.own ds)):
 ∃a vs,σ[i]?=some (some (.ref a))∧F a=none∧I2 K Y (upd F a (.lst vs)) H σ (ρ.set i (.val (.lst ds))) δ∧Rep K (upd F a (.lst vs)) (.lst ds) (.ref a):=by
 obtain ⟨a,vs,q,h,f,g,r⟩:=I.env i _ e;have hs:=d0 q;have ho:o7 ρ σ i a:=⟨.inl ⟨ds,e⟩,hs⟩;have rr:Rep K (upd F a (.lst vs)) (.lst ds) (.ref a):=rep_lst.mpr ⟨a,vs,rfl,g0,r.mono (Same.new f)⟩;refine ⟨a,vs,hs,f,?_,rr⟩;have key:∀j b,o7 (ρ.set i (.val (.lst ds))) σ j b→j≠i∧o7 ρ σ j b:=fun j b o=>by
  by_cases z:j=i
  ·subst z;rcases o.1 with ⟨ds,q⟩|⟨C,fs,q⟩|⟨kvs,q⟩<;>
   ·rw[List.getElem?_set]at q;simp at q
  ·refine ⟨z,?_⟩;obtain ⟨o1,o2⟩:=o;simp only[List.getElem?_set_ne (Ne.symm z)]at o1;exact ⟨o1,o2⟩
 refine ⟨⟨fun b u e=>?_,fun b es e=>?_,I.ran.keep,fun b u e=>?_,fun b u e=>?_,I.ran.dto⟩,fun j c e'=>?_,by simp[I.len],fun x y b n o1 o2=>I.apart x y b n (key x b o1).2 (key y b o2).2,fun j b o=>I.off j b (key j b o).2⟩
 ·by_cases z:b=a
  ·subst z;rw[g0]at e;cases e;exact h
  ·rw[u0 z]at e;exact I.sub _ _ e
 ·obtain ⟨q1,us,q2,q3⟩:=I.ran.dk b es e;exact ⟨by rw[u0 (Ne.symm (I.off i a ho b es e))];exact q1,us,q2,q3.mono (Same.new f)⟩
 ·rw[u0 (v0 (I.ran.f0 b u e) f)];exact I.ran.f0 b u e
 ·by_cases z:b=a
  ·subst z;exact .inr g
  ·rw[u0 z]at e;exact I.ran.fnew b u e
 ·by_cases z:j=i
  ·subst z;rw[List.getElem?_set]at e';by_cases hl:j<ρ.length
   ·simp[hl]at e';subst e';exact ⟨_,q,rr⟩
   ·simp[hl]at e'
  ·rw[List.getElem?_set_ne (Ne.symm z)]at e';have w:=I.env j c e';cases c with
   |no=>trivial
   |val d=>obtain ⟨u,e1,r1⟩:=w;exact ⟨u,e1,r1.mono (Same.new f)⟩
   |own es=>
    obtain ⟨b,us,e1,h1,f1,g1,r1⟩:=w;have nb:b≠a:=fun w=>I.apart j i a z ⟨.inl ⟨es,e'⟩,by rw[←w];exact d0 e1⟩ ho
    exact ⟨b,us,e1,h1,by rw[u0 nb];exact f1,g1,r1.mono (Same.new f)⟩
   |obj C fs=>
    obtain ⟨b,dx,us,e1,es1,h1,h2,f1,f2,g1,g2,r1⟩:=w;have nb:b≠a:=fun w=>by rw[w,h]at h1;cases h1
    have nd:dx≠a:=fun w=>by rw[w,h]at h2;cases h2
    exact ⟨b,dx,us,e1,es1,h1,h2,by rw[u0 nb];exact f1,by rw[u0 nd];exact f2,g1,g2,r1.mono (Same.new f)⟩
   |ownD kvs=>
    obtain ⟨b,us,e1,h1,f1,g1,r1⟩:=w;have nb:b≠a:=fun w=>by rw[w,h]at h1;cases h1
    exact ⟨b,us,e1,h1,by rw[u0 nb];exact f1,g1,r1.mono (Same.new f)⟩
end
end DL
namespace DL
open PySem PySem.Spec L2
open PySem.W (XC)
noncomputable abbrev XK2:=Addr→List (Str×D)→En→Dk→Prop
noncomputable abbrev K2:=D→En→Dk→Prop
noncomputable abbrev TE2:=XK2→En→Dk→K2→Prop
noncomputable abbrev TT2:=XK2→En→Dk→(Bool→En→Dk→Prop)→Prop
noncomputable abbrev TA2:=XK2→En→Dk→(List D→En→Dk→Prop)→Prop
noncomputable def XRep(K:Frag)(F:Hp)(od:Option Addr)(fs:List (Str×D)):Prop:=match od with
 |none=>fs=[]
 |some d=>∃us,F d=some (XD d us)∧RepF K F fs us
noncomputable def XR(K:Frag)(Y:Y2)(W:XW)(F:Hp)(x:XK2):Prop:=∀C od fs σ' F' H' ρ' δ',I2 K Y F' H' σ' ρ' δ'→Same F F'→XRep K F' od fs→x C fs ρ' δ'→W C od σ' H'
theorem XR.mono{K:Frag}{Y:Y2}{W:XW}{F F1:Hp}{x:XK2}(h:XR K Y W F x)(s:Same F F1):XR K Y W F1 x:=fun C od fs σ' F' H' ρ' δ' I s'=>h C od fs σ' F' H' ρ' δ' I (s.trans s')
noncomputable def upE(K:Frag)(Y:Y2)(W:XW)(t:TE2):TE:=fun σ H Q=>∃F ρ δ x q,I2 K Y F H σ ρ δ∧t x ρ δ q∧(∀d v F' H' ρ' δ',I2 K Y F' H' σ ρ' δ'→Same F F'→Rep K F' d v→q d ρ' δ'→Q v H')∧XR K Y W F x
noncomputable def upT(K:Frag)(Y:Y2)(W:XW)(t:TT2):TT:=fun σ H Q=>∃F ρ δ x q,I2 K Y F H σ ρ δ∧t x ρ δ q∧(∀b F' H' ρ' δ',I2 K Y F' H' σ ρ' δ'→Same F F'→q b ρ' δ'→Q b H')∧XR K Y W F x
noncomputable def upA(K:Frag)(Y:Y2)(W:XW)(t:TA2):TA:=fun σ H Q=>∃F ρ δ x q,I2 K Y F H σ ρ δ∧t x ρ δ q∧(∀ds vs F' H' ρ' δ',I2 K Y F' H' σ ρ' δ'→Same F F'→Reps K F' ds vs→q ds ρ' δ'→Q vs H')∧XR K Y W F x
structure PE2(X:Cx)(Y:Y2)(W:XW)(e:Expr)(t:TE2):Prop where
 go:PE X e (upE X.K Y W t)
structure PT2(X:Cx)(Y:Y2)(W:XW)(e:Expr)(t:TT2):Prop where
 go:PT X e (upT X.K Y W t)
structure PW2(X:Cx)(Y:Y2)(W:XW)(e:Expr)(t:TT2):Prop where
 go:PW X e (upT X.K Y W t)
structure PA2(X:Cx)(Y:Y2)(W:XW)(es:List Expr)(t:TA2):Prop where
 go:PA X es (upA X.K Y W t)
theorem i0q{X:Cx}{e:Expr}{t t':TE}(h:PE X e t)(k:∀ σ H Q,t' σ H Q→t σ H Q):PE X e t':=fun pins s σ H Q I q=>h pins s σ H Q I (k σ H Q q)
theorem b0k{X:Cx}{e:Expr}{t t':TT}(h:PT X e t)(k:∀ σ H Q,t' σ H Q→t σ H Q):PT X e t':=fun pins s σ H Q I q=>h pins s σ H Q I (k σ H Q q)
theorem b0j{X:Cx}{e:Expr}{t t':TT}(h:PW X e t)(k:∀ σ H Q,t' σ H Q→t σ H Q):PW X e t':=fun w pins s σ H Q I q=>h w pins s σ H Q I (k σ H Q q)
theorem b0i{X:Cx}{es:List Expr}{t t':TA}(h:PA X es t)(k:∀ σ H Q,t' σ H Q→t σ H Q):PA X es t':=fun p pins s σ H Q I q=>h p pins s σ H Q I (k σ H Q q)
noncomputable def d0e:Expr→Bool | .Starred _ _=>false |_=>true
theorem z6{e:Expr}{es:List Expr}{env:Env}(h:d0e e=true):starEach (e::es) env=(false,eval e env)::starEach es env:=by
 cases e<;>first |rfl |cases h
theorem a6{pos:Pos}{env:Env}:∀{es:List Expr},es.all d0e=true→(backTo pos (starEach es env)).any (·.1)=false
 | [],_=>rfl
 |e::es,h=>by
  rw[List.all_cons,Bool.and_eq_true]at h;rw[z6 h.1];show (false||(backTo pos (starEach es env)).any (·.1))=false;rw[a6 h.2];rfl
theorem pe2{X:Cx}{Y:Y2}{W:XW}{e:Expr}{t:TE}{u:TE2}(h:PE X e t)(k:∀ σ H Q,upE X.K Y W u σ H Q→t σ H Q):PE2 X Y W e u:=⟨i0q h k⟩
theorem pt2{X:Cx}{Y:Y2}{W:XW}{e:Expr}{t:TT}{u:TT2}(h:PT X e t)(k:∀ σ H Q,upT X.K Y W u σ H Q→t σ H Q):PT2 X Y W e u:=⟨b0k h k⟩
theorem pw2{X:Cx}{Y:Y2}{W:XW}{e:Expr}{t:TT}{u:TT2}(h:PW X e t)(k:∀ σ H Q,upT X.K Y W u σ H Q→t σ H Q):PW2 X Y W e u:=⟨b0j h k⟩
theorem pa2{X:Cx}{Y:Y2}{W:XW}{es:List Expr}{t:TA}{u:TA2}(h:PA X es t)(k:∀ σ H Q,upA X.K Y W u σ H Q→t σ H Q):PA2 X Y W es u:=⟨b0i h k⟩
section
variable{X:Cx}{Y:Y2}{W:XW}{a b c:Expr}{ta tb tc:TE2}{pos:Pos}
noncomputable def t2C(d:D):TE2:=fun _ ρ δ q=>q d ρ δ
theorem e2_c{e:Expr}{v:V}{d:D}(h:PE X e (tC v))(r:∀F,Rep X.K F d v):PE2 X Y W e (t2C d):=pe2 h fun σ H Q ⟨F,ρ,δ,x,q,I,h,k,kx⟩=>k d v F H ρ δ I (Same.refl F) (r F) h
theorem s0{i j pos}:PE2 X Y W (.Constant (.int i) j pos) (t2C (.int i)):=e2_c j0x fun F=>rep_int.mpr rfl
theorem x0j{i j pos}:PE2 X Y W (.Constant (.bool i) j pos) (t2C (.bl i)):=e2_c pe_bl fun F=>rep_bl.mpr rfl
theorem o6{j pos}:PE2 X Y W (.Constant .none j pos) (t2C .non):=e2_c pe_non fun F=>rep_non.mpr rfl
theorem m3{i j pos}:PE2 X Y W (.Constant (.str i) j pos) (t2C (.str i)):=e2_c pe_str fun F=>rep_str.mpr rfl
noncomputable def rdV(ρ:En)(i:Nat)(k:D→En→Prop):Prop:=match ρ[i]? with
 |some (.val d)=>k d ρ
 |some (.own ds)=>k (.lst ds) (ρ.set i (.val (.lst ds)))
 |_=>False
noncomputable def t2V(i:Nat):TE2:=fun _ ρ δ q=>rdV ρ i fun d ρ'=>q d ρ' δ
theorem rd_use{K:Frag}{F H:Hp}{σ:St}{ρ:En}{δ:Dk}{i:Nat}{k:D→En→Prop}(I:I2 K Y F H σ ρ δ)(h:rdV ρ i k):
 ∃d v F' ρ',σ[i]?=some (some v)∧I2 K Y F' H σ ρ' δ∧Same F F'∧Rep K F' d v∧k d ρ':=by
 unfold rdV at h;split at h
 ·rename_i d e;obtain ⟨v,q,r⟩:=I.env i _ e;exact ⟨d,v,F,ρ,d0 q,I,Same.refl F,r,h⟩
 ·rename_i ds e;obtain ⟨a,vs,q,f,I',r⟩:=I.freeze e;exact ⟨_,_,_,_,q,I',Same.new f,r,h⟩
 ·exact h.elim
theorem e2_v(i:Nat){x:Str}{pos:Pos}(hN:X.N[i]?=some x:=by rfl)(hv:Vis X.env.scope x:=by walk_at "v3")(hd:(x==("__debug__":Str))=false:=by decide)
 (hcd:(x==("__classdict__":Str))=false:=by decide):PE2 X Y W (.Name x pos) (t2V i):=pe2 (u0v hN hv hd hcd) fun σ H Q ⟨F,ρ,δ,x,q,I,h,k,kx⟩=>by
 obtain ⟨d,v,F',ρ',e,I',s,r,h'⟩:=rd_use I h;exact ⟨v,e,k d v F' H ρ' δ I' s r h'⟩
theorem e2_gi{x:Str}{n:Int}{u:Value}(hm:X.mg x=some u)(r:∃t,u=.int n t)(hg:Gl X x:=by rfl)(hd:(x==("__debug__":Str))=false:=by decide):PE2 X Y W (.Name x pos) (t2C (.int n)):=e2_c (c0j (v:=.int n) hg hm r hd) fun F=>rep_int.mpr rfl
theorem u0p(n:String){y:Str}(hm:X.mg y=none)(hv:bootBuiltins y=some (.type n))(hg:Gl X y:=by rfl)(hn:y≠"__name__":=by decide)(hd:(y==("__debug__":Str))=false:=by decide):PE2 X Y W (.Name y pos) (t2C (.ty n)):=
 e2_c (pty n hm hv hg hn hd) fun F=>rep_ty.mpr rfl
noncomputable def t0o:TA2:=fun _ ρ δ q=>q [] ρ δ
noncomputable def b8(te:TE2)(tr:TA2):TA2:=fun x ρ δ q=>te x ρ δ fun d ρ1 δ1=>tr x ρ1 δ1 fun ds ρ2 δ2=>q (d::ds) ρ2 δ2
theorem y0:PA2 X Y W [] t0o:=pa2 d0m fun σ H Q ⟨F,ρ,δ,x,q,I,h,k,kx⟩=>k [] [] F H ρ δ I (Same.refl F) Reps.nil h
theorem z0{e:Expr}{es:List Expr}{te:TE2}{t:TA2}(ha:PE2 X Y W e te)(hr:PA2 X Y W es t)(hs:starEach (e::es) X.env=(false,eval e X.env)::starEach es X.env:=by exact z6 rfl):PA2 X Y W (e::es) (b8 te t):=
 pa2 (j0k ha.go hr.go hs) fun σ H Q ⟨F,ρ,δ,x,q,I,h,k,kx⟩=>⟨F,ρ,δ,x,_,I,h,fun d1 v1 F1 H1 ρ1 δ1 I1 s1 r1 h1=>⟨F1,ρ1,δ1,x,_,I1,h1,fun ds vs F2 H2 ρ2 δ2 I' s2 r2 h2=>
  k (d1::ds) (v1::vs) F2 H2 ρ2 δ2 I' (s1.trans s2) (Reps.cons (r1.mono s2) r2) h2,kx.mono s1⟩,kx⟩
theorem q0l{n:Nat}(h:n≤1000):n≤PySem.sizeLine:=Nat.le_trans h (by decide)
noncomputable def f0i(t:TA2):TE2:=fun x ρ δ q=>t x ρ δ fun ds ρ1 δ1=>ds.length≤1000∧q (.lst ds) ρ1 δ1
noncomputable def f0h(t:TA2):TE2:=fun x ρ δ q=>t x ρ δ fun ds ρ1 δ1=>ds.length≤1000∧q (.tup ds) ρ1 δ1
theorem w5{es:List Expr}{t:TA2}(h:PA2 X Y W es t):PE2 X Y W (.List es pos) (f0i t):=pe2 (j0j h.go) fun σ H Q ⟨F,ρ,δ,x,q,I,h,k,kx⟩=>
 ⟨F,ρ,δ,x,_,I,h,fun ds vs F1 H1 ρ1 δ1 I1 s1 r1 h1=>⟨q0l (by rw[r1.length];exact h1.1),fun p hp=>k _ _ _ _ ρ1 δ1 (I1.alloc hp) (s1.trans (I1.grow hp)) (I1.lst hp r1) h1.2⟩,kx⟩
theorem n6{x1}{es:List Expr}{t:TA2}(h:PA2 X Y W es t):PE2 X Y W (.Tuple es x1 pos) (f0h t):=pe2 (pe_tup h.go) fun σ H Q ⟨F,ρ,δ,x,q,I,h,k,kx⟩=>
 ⟨F,ρ,δ,x,_,I,h,fun ds vs F1 H1 ρ1 δ1 I1 s1 r1 h1=>⟨q0l (by rw[r1.length];exact h1.1),fun p hp=>k _ _ _ _ ρ1 δ1 (I1.alloc hp) (s1.trans (I1.grow hp)) (I1.tup hp r1) h1.2⟩,kx⟩
noncomputable abbrev F2:=D→D→(D→Prop)→Prop
noncomputable def OpD(K:Frag)(r:R2)(f:F2):Prop:=∀(Y:Y2) (F H:Hp) (σ:St) (ρ:En) (δ:Dk) (x y:V) (d1 d2:D) (Q1:VK) (q:D→Prop),I2 K Y F H σ ρ δ→Rep K F d1 x→Rep K F d2 y→f d1 d2 q→
 (∀d v F' H',I2 K Y F' H' σ ρ δ→Same F F'→Rep K F' d v→q d→Q1 v H')→r x y H Q1
noncomputable def t2Op(f:F2)(ta tb:TE2):TE2:=fun x ρ δ q=>ta x ρ δ fun d1 ρ1 δ1=>tb x ρ1 δ1 fun d2 ρ2 δ2=>f d1 d2 fun d=>q d ρ2 δ2
theorem f0g{r:R2}{f:F2}(hf:OpD X.K r f){σ:St}{H:Hp}{Q:VK}(h:upE X.K Y W (t2Op f ta tb) σ H Q):tOp r (upE X.K Y W ta) (upE X.K Y W tb) σ H Q:=by
 obtain ⟨F,ρ,δ,x,q,I,h,k,kx⟩:=h;exact ⟨F,ρ,δ,x,_,I,h,fun d1 v1 F1 H1 ρ1 δ1 I1 s1 r1 h1=>⟨F1,ρ1,δ1,x,_,I1,h1,fun d2 v2 F2 H2 ρ2 δ2 I' s2 r2 h2=>
  hf Y F2 H2 σ ρ2 δ2 v1 v2 d1 d2 _ _ I' (r1.mono s2) r2 h2 fun d v F' H' I' s' r' q'=>k d v F' H' ρ2 δ2 I' ((s1.trans s2).trans s') r' q',kx.mono s1⟩,kx⟩
theorem b3{op:Operator}{r:R2}{f:F2}(ho:OpR X (binaryOp op) r)(hf:OpD X.K r f)(ha:PE2 X Y W a ta)(hb:PE2 X Y W b tb):PE2 X Y W (.BinOp a op b pos) (t2Op f ta tb):=pe2 (pe_op ho ha.go hb.go) fun σ H Q h=>f0g hf h
theorem q0k{op:CmpOp}{r:R2}{f:F2}(ho:OpR X (compareOp op) r)(hf:OpD X.K r f)(ha:PE2 X Y W a ta)(hb:PE2 X Y W b tb)(hm:behindInMarks op b=false):PE2 X Y W (.Compare a [op] [b] pos) (t2Op f ta tb):=pe2 (c0d ho ha.go hb.go hm) fun σ H Q h=>f0g hf h
theorem i0p{r:R2}{f:F2}(hr:IxR X r)(hf:OpD X.K r f)(ha:PE2 X Y W a ta)(hb:PE2 X Y W b tb)(hs:o0p b:=by exact fun _ _=>rfl):PE2 X Y W (.Subscript a b pos) (t2Op f ta tb):=pe2 (pe_ix hr ha.go hb.go hs) fun σ H Q h=>f0g hf h
noncomputable def t2B(t:TE2):TT2:=fun x ρ δ q=>t x ρ δ fun d ρ1 δ1=>match d with | .bl k=>q k ρ1 δ1 |_=>False
theorem o0l{t:TE2}{σ:St}{H:Hp}{Q:Bool→Hp→Prop}(h:upT X.K Y W (t2B t) σ H Q):upE X.K Y W t σ H fun x H1=>∃c,x=.bl c∧Q c H1:=by
 obtain ⟨F,ρ,δ,x,q,I,h,k,kx⟩:=h;refine ⟨F,ρ,δ,x,_,I,h,fun d v F' H' ρ' δ' I' s' r' h'=>?_,kx⟩;cases d with
 |bl b=>exact ⟨b,rep_bl.mp r',k b F' H' ρ' δ' I' s' h'⟩
 |_=>exact h'.elim
theorem m6{e:Expr}{t:TE2}(h:PE2 X Y W e t)(he:∀whole,isTrue e X.env whole=(do let v←whole;standAt e.pos;holding [v] (truthy v)):=by intro _;rfl):PT2 X Y W e (t2B t):=pt2 (pt_val h.go he) fun σ H Q h=>o0l h
theorem v4{op:CmpOp}{r:R2}{f:F2}(ho:OpR X (compareOp op) r)(hf:OpD X.K r f)(ha:PE2 X Y W a ta)(hb:PE2 X Y W b tb)(hm:behindInMarks op b=false):PT2 X Y W (.Compare a [op] [b] pos) (t2B (t2Op f ta tb)):=
 pt2 (c0c ho ha.go hb.go hm) fun σ H Q h=>f0g hf (o0l h)
noncomputable def i0o(t:TT2):TT2:=fun x ρ δ q=>t x ρ δ fun k ρ1 δ1=>q (!k) ρ1 δ1
theorem y6{t:TT2}(h:PT2 X Y W a t):PT2 X Y W (.UnaryOp .Not a pos) (i0o t):=pt2 (pt_not h.go) fun σ H Q ⟨F,ρ,δ,x,q,I,h,k,kx⟩=>⟨F,ρ,δ,x,_,I,h,fun b F' H' ρ' δ' I' s' h'=>k _ F' H' ρ' δ' I' s' h',kx⟩
noncomputable def t2And(t u:TT2):TT2:=fun x ρ δ q=>t x ρ δ fun k ρ1 δ1=>if k=true then u x ρ1 δ1 q else q false ρ1 δ1
noncomputable def t2Or(t u:TT2):TT2:=fun x ρ δ q=>t x ρ δ fun k ρ1 δ1=>if k=true then q true ρ1 δ1 else u x ρ1 δ1 q
variable{tA tB':TT2}{rest:List Expr}
theorem a7(ha:PT2 X Y W a tA):PW2 X Y W (.BoolOp .Or [a] pos) tA:=⟨pw_or1 ha.go⟩
theorem z0x(ha:PT2 X Y W a tA)(hb:PW2 X Y W (.BoolOp .Or (b::rest) pos) tB'):PW2 X Y W (.BoolOp .Or (a::b::rest) pos) (t2Or tA tB'):=pw2 (pw_or ha.go hb.go) fun σ H Q ⟨F,ρ,δ,x,q,I,h,k,kx⟩=>by
 refine ⟨F,ρ,δ,x,_,I,h,fun b F' H' ρ' δ' I' s' h'=>?_,kx⟩;cases b with
 |true=>rw[if_pos rfl]at h' ⊢; exact k true F' H' ρ' δ' I' s' h'
 |false=>rw[if_neg Bool.false_ne_true]at h' ⊢; exact ⟨F',ρ',δ',x,q,I',h',fun b F2 H2 ρ2 δ2 I2 s2 h2=>k b F2 H2 ρ2 δ2 I2 (s'.trans s2) h2,kx.mono s'⟩
theorem PW2.pt(h:PW2 X Y W a tA):PT2 X Y W a tA:=⟨PW.pt h.go⟩
noncomputable def m0p(ta tb:TE2):TE2:=fun x ρ δ q=>ta x ρ δ fun d ρ1 δ1=>match d with | .bl k=>if k=true then tb x ρ1 δ1 q else q (.bl false) ρ1 δ1 |_=>False
noncomputable def t2OrV(ta tb:TE2):TE2:=fun x ρ δ q=>ta x ρ δ fun d ρ1 δ1=>match d with | .bl k=>if k=true then q (.bl true) ρ1 δ1 else tb x ρ1 δ1 q |_=>False
noncomputable def m0o(ta:TE2):TE2:=fun x ρ δ q=>ta x ρ δ fun d ρ1 δ1=>match d with | .bl k=>q (.bl (!k)) ρ1 δ1 |_=>False
theorem i0n{op}(h:PE2 X Y W a ta):PE2 X Y W (.BoolOp op [a] pos) ta:=⟨pe_one h.go⟩
theorem m0n(ha:PE2 X Y W a ta)(hb:PE2 X Y W (.BoolOp .And (b::rest) pos) tb):PE2 X Y W (.BoolOp .And (a::b::rest) pos) (m0p ta tb):=pe2 (pe_and ha.go hb.go) fun σ H Q ⟨F,ρ,δ,x,q,I,h,k,kx⟩=>by
 refine ⟨F,ρ,δ,x,_,I,h,fun d v F' H' ρ' δ' I' s' r' h'=>?_,kx⟩;cases d with
 |bl b=>
  refine ⟨b,rep_bl.mp r',?_⟩;cases b with
  |true=>dsimp only at h';rw[if_pos rfl]at h' ⊢; exact ⟨F',ρ',δ',x,q,I',h',fun d v F2 H2 ρ2 δ2 I2 s2 r2 h2=>k d v F2 H2 ρ2 δ2 I2 (s'.trans s2) r2 h2,kx.mono s'⟩
  |false=>dsimp only at h';rw[if_neg Bool.false_ne_true]at h' ⊢; exact k _ _ F' H' ρ' δ' I' s' (rep_bl.mpr rfl) h'
 |_=>exact h'.elim
theorem d0d(ha:PE2 X Y W a ta):PE2 X Y W (.UnaryOp .Not a pos) (m0o ta):=pe2 (pe_not ha.go) fun σ H Q ⟨F,ρ,δ,x,q,I,h,k,kx⟩=>by
 refine ⟨F,ρ,δ,x,_,I,h,fun d v F' H' ρ' δ' I' s' r' h'=>?_,kx⟩;cases d with
 |bl b=>exact ⟨b,rep_bl.mp r',k _ _ F' H' ρ' δ' I' s' (rep_bl.mpr rfl) h'⟩
 |_=>exact h'.elim
noncomputable def t2If(t:TT2)(ta tb:TE2):TE2:=fun x ρ δ q=>t x ρ δ fun k ρ1 δ1=>if k=true then ta x ρ1 δ1 q else tb x ρ1 δ1 q
noncomputable def w0v(f f':F2)(ta tb tc:TE2):TE2:=fun x ρ δ q=>ta x ρ δ fun d1 ρ1 δ1=>tb x ρ1 δ1 fun d2 ρ2 δ2=>f d1 d2 fun d=>match d with
 | .bl k=>if k=true then tc x ρ2 δ2 fun d3 ρ3 δ3=>f' d2 d3 fun d=>q d ρ3 δ3 else q (.bl false) ρ2 δ2
 |_=>False
theorem m0m{r r':R2}{f f':F2}(hf:OpD X.K r f)(hf':OpD X.K r' f'){σ:St}{H:Hp}{Q:VK}(h:upE X.K Y W (w0v f f' ta tb tc) σ H Q):j0n r r' (upE X.K Y W ta) (upE X.K Y W tb) (upE X.K Y W tc) σ H Q:=by
 obtain ⟨F,ρ,δ,x,q,I,h,k,kx⟩:=h;refine ⟨F,ρ,δ,x,_,I,h,fun d1 v1 F1 H1 ρ1 δ1 I1 s1 r1 h1=>⟨F1,ρ1,δ1,x,_,I1,h1,fun d2 v2 F2 H2 ρ2 δ2 I2 s2 r2 h2=>?_,kx.mono s1⟩,kx⟩;refine hf Y F2 H2 σ ρ2 δ2 v1 v2 d1 d2 _ _ I2 (r1.mono s2) r2 h2 fun d v F' H' I' s' r' q'=>?_
 cases d with
 |bl b=>
  refine ⟨b,rep_bl.mp r',?_⟩;have s3:=(s1.trans s2).trans s';cases b with
  |true=>
   dsimp only at q';rw[if_pos rfl]at q' ⊢;exact ⟨F',ρ2,δ2,x,_,I',q',fun d3 v3 F3 H3 ρ3 δ3 I3 s4 r3 h3=>hf' Y F3 H3 σ ρ3 δ3 v2 v3 d2 d3 _ _ I3 (r2.mono (s'.trans s4)) r3 h3 fun d v F4 H4 I4 s5 r4 q4=>k d v F4 H4 ρ3 δ3 I4 ((s3.trans s4).trans s5) r4 q4,kx.mono s3⟩
  |false=>
   dsimp only at q';rw[if_neg Bool.false_ne_true]at q' ⊢;exact k _ _ F' H' ρ2 δ2 I' s3 (rep_bl.mpr rfl) q'
 |_=>exact q'.elim
theorem f0f{op op':CmpOp}{r r':R2}{f f':F2}(ho:OpR X (compareOp op) r)(ho':OpR X (compareOp op') r')(hf:OpD X.K r f)(hf':OpD X.K r' f')(ha:PE2 X Y W a ta)(hb:PE2 X Y W b tb)(hc:PE2 X Y W c tc)
 (hm:lastMarks [op,op'] [b,c]=false:=by with_unfolding_all rfl):PE2 X Y W (.Compare a [op,op'] [b,c] pos) (w0v f f' ta tb tc):=pe2 (f0x ho ho' ha.go hb.go hc.go hm) fun σ H Q h=>m0m hf hf' h
theorem f0e{op op':CmpOp}{r r':R2}{f f':F2}(ho:OpR X (compareOp op) r)(ho':OpR X (compareOp op') r')(hf:OpD X.K r f)(hf':OpD X.K r' f')(ha:PE2 X Y W a ta)(hb:PE2 X Y W b tb)(hc:PE2 X Y W c tc)
 (hm:lastMarks [op,op'] [b,c]=false:=by with_unfolding_all rfl):PT2 X Y W (.Compare a [op,op'] [b,c] pos) (t2B (w0v f f' ta tb tc)):=pt2 (f0w ho ho' ha.go hb.go hc.go hm) fun σ H Q h=>m0m hf hf' (o0l h)
noncomputable abbrev F1:=List D→(D→Prop)→Prop
noncomputable def u0o(K:Frag)(r:List V→Hp→VK→Prop)(f:F1):Prop:=∀(Y:Y2) (F H:Hp) (σ:St) (ρ:En) (δ:Dk) (vs:List V) (ds:List D) (Q1:VK) (q:D→Prop),I2 K Y F H σ ρ δ→Reps K F ds vs→f ds q→
 (∀d v F' H',I2 K Y F' H' σ ρ δ→Same F F'→Rep K F' d v→q d→Q1 v H')→r vs H Q1
noncomputable def t2Bi(f:F1)(t:TA2):TE2:=fun x ρ δ q=>t x ρ δ fun ds ρ1 δ1=>f ds fun d=>q d ρ1 δ1
theorem up_bi{r:List V→Hp→VK→Prop}{f:F1}{t:TA2}(hf:u0o X.K r f){σ:St}{H:Hp}{Q:VK}(h:upE X.K Y W (t2Bi f t) σ H Q):tCB r (upA X.K Y W t) σ H Q:=by
 obtain ⟨F,ρ,δ,x,q,I,h,k,kx⟩:=h;exact ⟨F,ρ,δ,x,_,I,h,fun ds vs F1 H1 ρ1 δ1 I1 s1 r1 h1=>hf Y F1 H1 σ ρ1 δ1 vs ds _ _ I1 r1 h1 fun d v F' H' I' s' r' q'=>k d v F' H' ρ1 δ1 I' (s1.trans s') r' q',kx⟩
variable{x:Str}{e:Expr}{es:List Expr}{t:TA2}{p:Pos}
theorem e2_b{id:String}{r:List V→Hp→VK→Prop}{f:F1}(hc:v0m X (.builtin id) r)(hf:u0o X.K r f)(hm:X.mg x=none)(hv:bootBuiltins x=some (.builtin id))(ha:PA2 X Y W (e::es) t)(hg:Gl X x:=by rfl)(hn:x≠"__name__":=by decide)(hdb:(x==("__debug__":Str))=false:=by decide)
 (he:starEach (e::es) X.env=(false,eval e X.env)::starEach es X.env:=by exact z6 rfl) (hpl:(backTo pos (starEach es X.env)).any (·.1)=false:=by exact a6 rfl):PE2 X Y W (.Call (.Name x p) (e::es) [] pos) (t2Bi f t):=pe2 (m0x hc hg hm hv ha.go hn hdb he hpl) fun σ H Q h=>up_bi hf h
theorem x0i{T:String}{r:List V→Hp→VK→Prop}{f:F1}(hc:v0m X (.type T) r)(hf:u0o X.K r f)(hm:X.mg x=none)(hv:bootBuiltins x=some (.type T))(ha:PA2 X Y W (e::es) t)(hg:Gl X x:=by rfl)(hn:x≠"__name__":=by decide)(hdb:(x==("__debug__":Str))=false:=by decide)
 (he:starEach (e::es) X.env=(false,eval e X.env)::starEach es X.env:=by exact z6 rfl) (hpl:(backTo pos (starEach es X.env)).any (·.1)=false:=by exact a6 rfl):PE2 X Y W (.Call (.Name x p) (e::es) [] pos) (t2Bi f t):=pe2 (q0t hc hg hm hv ha.go hn hdb he hpl) fun σ H Q h=>up_bi hf h
noncomputable def t2Un(f:D→(D→Prop)→Prop)(ta:TE2):TE2:=fun x ρ δ q=>ta x ρ δ fun d ρ1 δ1=>f d fun d=>q d ρ1 δ1
theorem u0n(ha:PE2 X Y W a ta):PE2 X Y W (.UnaryOp .USub a pos) (t2Un (fun d q=>match d with | .int i=>q (.int (-i))|_=>False) ta):=pe2 (pe_un un_neg ha.go) fun σ H Q ⟨F,ρ,δ,x,q,I,h,k,kx⟩=>by
 refine ⟨F,ρ,δ,x,_,I,h,fun d v F' H' ρ' δ' I' s' r' h'=>?_,kx⟩;cases d with
 |int i=>exact ⟨i,rep_int.mp r',k _ _ F' H' ρ' δ' I' s' (rep_int.mpr rfl) h'⟩
 |_=>exact h'.elim
end
end DL
namespace DL
open PySem PySem.Spec L2
open PySem.W (XC)
section
variable{X:Cx}{K:Frag}
theorem m0l{f:Value→Value→Sem Value}{r r':R2}(h:OpR X f r)(h':OpR X f r'):OpR X f (fun x y H Q=>r x y H Q∨r' x y H Q):=by
 intro pins s σ H x y v u Q I rx ry q;rcases q with q |q
 ·exact h pins s σ H x y v u Q I rx ry q
 ·exact h' pins s σ H x y v u Q I rx ry q
noncomputable def fI(C:Int→Int→Prop)(g:Int→Int→D):F2:=fun d1 d2 q=>match d1,d2 with
 | .int i,.int j=>C i j∧q (g i j)
 |_,_=>False
theorem dI{C:Int→Int→Prop}{g:Int→Int→V}{g':Int→Int→D}(h:∀F i j,Rep K F (g' i j) (g i j)):OpD K (rI C g) (fI C g'):=by
 intro Y F H σ ρ δ x y d1 d2 Q1 q I r1 r2 h' k;unfold fI at h';split at h'
 ·rename_i i j;exact ⟨i,j,rep_int.mp r1,rep_int.mp r2,h'.1,k _ _ F H I (Same.refl F) (h F i j) h'.2⟩
 ·exact h'.elim
noncomputable def fI0(g:Int→Int→D):F2:=fun d1 d2 q=>match d1,d2 with
 | .int i,.int j=>q (g i j)
 |_,_=>False
theorem dI0{g:Int→Int→V}{g':Int→Int→D}(h:∀F i j,Rep K F (g' i j) (g i j)):OpD K (rI0 g) (fI0 g'):=by
 intro Y F H σ ρ δ x y d1 d2 Q1 q I r1 r2 h' k;unfold fI0 at h';split at h'
 ·rename_i i j;exact ⟨i,j,rep_int.mp r1,rep_int.mp r2,k _ _ F H I (Same.refl F) (h F i j) h'⟩
 ·exact h'.elim
noncomputable def b0h(K:Frag):R2:=fun x y H Q=>rI0 (fun i j=>.int (i+j)) x y H Q∨rCat x y H Q
noncomputable def addF:F2:=fun d1 d2 q=>match d1,d2 with
 | .int i,.int j=>q (.int (i+j))
 | .lst xs,.lst ys=>xs.length+ys.length≤1000∧q (.lst (xs++ys))
 |_,_=>False
theorem b0g:OpR X (binaryOp .Add) (b0h X.K):=m0l op_add op_cat
theorem d_add:OpD K (b0h K) addF:=by
 intro Y F H σ ρ δ x y d1 d2 Q1 q I r1 r2 h' k;unfold addF at h';split at h'
 ·rename_i i j;exact .inl ⟨i,j,rep_int.mp r1,rep_int.mp r2,k _ _ F H I (Same.refl F) (rep_int.mpr rfl) h'⟩
 ·rename_i xs ys;obtain ⟨a,vs,rfl,e1,z1⟩:=rep_lst.mp r1;obtain ⟨b,us,rfl,e2,z2⟩:=rep_lst.mp r2;refine .inr ⟨a,b,vs,us,rfl,rfl,I.sub _ _ e1,I.sub _ _ e2,q0l (by rw[z1.length,z2.length];exact h'.1),fun p hp=>k _ _ _ _ (I.alloc hp) (I.grow hp) (I.lst hp (z1.append z2)) h'.2⟩
 ·exact h'.elim
noncomputable abbrev subF:F2:=fI0 fun i j=>.int (i-j)
noncomputable abbrev mulF:F2:=fI CMul fun i j=>.int (i*j)
noncomputable abbrev f0d:F2:=fI CDiv fun i j=>.int (i/j)
noncomputable abbrev modF:F2:=fI (fun _ j=>0<j) fun i j=>.int (i%j)
noncomputable abbrev powF:F2:=fI CPow fun i j=>.int (i^j.toNat)
noncomputable abbrev ltF:F2:=fI0 fun i j=>.bl (decide (i<j))
noncomputable abbrev leF:F2:=fI0 fun i j=>.bl (decide (i≤j))
noncomputable abbrev gtF:F2:=fI0 fun i j=>.bl (decide (j<i))
noncomputable abbrev geF:F2:=fI0 fun i j=>.bl (decide (j≤i))
theorem k0s:OpD K (rI0 fun i j=>.int (i-j)) subF:=dI0 fun _ _ _=>rep_int.mpr rfl
theorem q0j:OpD K (rI CMul fun i j=>.int (i*j)) mulF:=dI fun _ _ _=>rep_int.mpr rfl
theorem d0c:OpD K (rI CDiv fun i j=>.int (i/j)) f0d:=dI fun _ _ _=>rep_int.mpr rfl
theorem k0r:OpD K (rI (fun _ j=>0<j) fun i j=>.int (i%j)) modF:=dI fun _ _ _=>rep_int.mpr rfl
theorem d_pow:OpD K (rI CPow fun i j=>.int (i^j.toNat)) powF:=dI fun _ _ _=>rep_int.mpr rfl
theorem d_lt:OpD K (rI0 fun i j=>.bl (decide (i<j))) ltF:=dI0 fun _ _ _=>rep_bl.mpr rfl
theorem d_le:OpD K (rI0 fun i j=>.bl (decide (i≤j))) leF:=dI0 fun _ _ _=>rep_bl.mpr rfl
theorem d_gt:OpD K (rI0 fun i j=>.bl (decide (j<i))) gtF:=dI0 fun _ _ _=>rep_bl.mpr rfl
theorem d_ge:OpD K (rI0 fun i j=>.bl (decide (j≤i))) geF:=dI0 fun _ _ _=>rep_bl.mpr rfl
noncomputable def repF:F2:=fun d1 d2 q=>match d1,d2 with
 | .lst xs,.int k=>xs.length*k.toNat≤1000∧0≤k∧k≤1000∧q (.lst (List.replicate k.toNat xs).flatten)
 |_,_=>False
theorem Reps.rep{F:Hp}{ds:List D}{vs:List V}(h:Reps K F ds vs):∀n:Nat,Reps K F (List.replicate n ds).flatten (List.replicate n vs).flatten
 | 0=>by simp;exact Reps.nil
 |n+1=>by rw[List.replicate_succ,List.replicate_succ,List.flatten_cons,List.flatten_cons];exact h.append (Reps.rep h n)
theorem b0f:OpD K rRep repF:=by
 intro Y F H σ ρ δ x y d1 d2 Q1 q I r1 r2 h' k;unfold repF at h';split at h'
 ·rename_i xs n;obtain ⟨a,vs,rfl,e1,z1⟩:=rep_lst.mp r1;obtain ⟨h1,h2,h3,h4⟩:=h';refine ⟨a,n,vs,rfl,rep_int.mp r2,I.sub _ _ e1,by omega,by omega,q0l (by rw[z1.length];exact h1),fun p hp=>k _ _ _ _ (I.alloc hp) (I.grow hp) (I.lst hp (z1.rep _)) h4⟩
 ·exact h'.elim
noncomputable def eqD:D→D→Option Bool
 | .int i,.int j=>some (decide (i=j))
 | .bl i,.bl j=>some (decide (i=j))
 | .str i,.str j=>some (decide (i=j))
 | .non,.non=>some true
 | .non,.int _=>some false | .non,.bl _=>some false | .non,.str _=>some false
 | .int _,.non=>some false | .bl _,.non=>some false | .str _,.non=>some false
 | .int _,.str _=>some false | .bl _,.str _=>some false
 | .str _,.int _=>some false | .str _,.bl _=>some false
 |_,_=>none
noncomputable def eqF:F2:=fun d1 d2 q=>match eqD d1 d2 with |some b=>q (.bl b)|none=>False
noncomputable def neF:F2:=fun d1 d2 q=>match eqD d1 d2 with |some b=>q (.bl (!b))|none=>False
theorem eqD_v{F:Hp}{d1 d2:D}{x y:V}{b:Bool}(h:eqD d1 d2=some b)(r1:Rep K F d1 x)(r2:Rep K F d2 y):scal x y=true∧decide (x=y)=b:=by
 unfold eqD at h;split at h<;>first |cases h |skip
 all_goals
  first
   |(rw[rep_int.mp r1,rep_int.mp r2];exact ⟨rfl,by simp⟩)
   |(rw[rep_bl.mp r1,rep_bl.mp r2];exact ⟨rfl,by simp⟩)
   |(rw[rep_str.mp r1,rep_str.mp r2];exact ⟨rfl,by simp⟩)
   |(rw[rep_non.mp r1,rep_non.mp r2];exact ⟨rfl,by simp⟩)
   |(rw[rep_non.mp r1,rep_int.mp r2];exact ⟨rfl,by simp⟩)
   |(rw[rep_non.mp r1,rep_bl.mp r2];exact ⟨rfl,by simp⟩)
   |(rw[rep_non.mp r1,rep_str.mp r2];exact ⟨rfl,by simp⟩)
   |(rw[rep_int.mp r1,rep_non.mp r2];exact ⟨rfl,by simp⟩)
   |(rw[rep_bl.mp r1,rep_non.mp r2];exact ⟨rfl,by simp⟩)
   |(rw[rep_str.mp r1,rep_non.mp r2];exact ⟨rfl,by simp⟩)
   |(rw[rep_int.mp r1,rep_str.mp r2];exact ⟨rfl,by simp⟩)
   |(rw[rep_bl.mp r1,rep_str.mp r2];exact ⟨rfl,by simp⟩)
   |(rw[rep_str.mp r1,rep_int.mp r2];exact ⟨rfl,by simp⟩)
   |(rw[rep_str.mp r1,rep_bl.mp r2];exact ⟨rfl,by simp⟩)
theorem d_eq:OpD K rEq eqF:=by
 intro Y F H σ ρ δ x y d1 d2 Q1 q I r1 r2 h' k;unfold eqF at h';split at h'
 ·rename_i b e;obtain ⟨s,e2⟩:=eqD_v e r1 r2;exact ⟨s,by rw[e2];exact k _ _ F H I (Same.refl F) (rep_bl.mpr rfl) h'⟩
 ·exact h'.elim
theorem d_ne:OpD K rNe neF:=by
 intro Y F H σ ρ δ x y d1 d2 Q1 q I r1 r2 h' k;unfold neF at h';split at h'
 ·rename_i b e;obtain ⟨s,e2⟩:=eqD_v e r1 r2;exact ⟨s,by rw[e2];exact k _ _ F H I (Same.refl F) (rep_bl.mpr rfl) h'⟩
 ·exact h'.elim
noncomputable def s0v:D→Bool | .non=>true |_=>false
noncomputable def isNF:F2:=fun d1 d2 q=>match d2 with | .non=>q (.bl (s0v d1))|_=>False
noncomputable def f0c:F2:=fun d1 d2 q=>match d2 with | .non=>q (.bl (!s0v d1))|_=>False
theorem i0m{F:Hp}{d:D}{x:V}(r:Rep K F d x):decide (x=.non)=s0v d:=by
 cases d with
 |non=>rw[rep_non.mp r];rfl
 |bl b=>rw[rep_bl.mp r];rfl
 |int b=>rw[rep_int.mp r];rfl
 |str b=>rw[rep_str.mp r];rfl
 |lst b=>obtain ⟨a,vs,rfl,_⟩:=rep_lst.mp r;rfl
 |tup b=>obtain ⟨a,vs,rfl,_⟩:=rep_tup.mp r;rfl
 |scr b=>obtain ⟨a,vs,rfl,_⟩:=rep_scr.mp r;rfl
 |dic b=>obtain ⟨a,vs,rfl,_⟩:=rep_dic.mp r;rfl
 |dwk b=>obtain ⟨a,o,vs,rfl,_⟩:=rep_dwk.mp r;rfl
 |ins C b=>obtain ⟨a,dx,vs,rfl,_⟩:=rep_ins.mp r;rfl
 |exc C b=>obtain ⟨a,fr,rfl,_⟩:=rep_exc.mp r;rfl
 |ref a=>rw[rep_ref.mp r];rfl
 |ty a=>rw[rep_ty.mp r];rfl
theorem i0l:OpD K (fun x y H Q=>y=.non∧Q (.bl (decide (x=.non))) H) isNF:=by
 intro Y F H σ ρ δ x y d1 d2 Q1 q I r1 r2 h' k;cases d2 with
 |non=>exact ⟨rep_non.mp r2,by rw[i0m r1];exact k _ _ F H I (Same.refl F) (rep_bl.mpr rfl) h'⟩
 |_=>exact h'.elim
theorem d_notN:OpD K (fun x y H Q=>y=.non∧Q (.bl (!decide (x=.non))) H) f0c:=by
 intro Y F H σ ρ δ x y d1 d2 Q1 q I r1 r2 h' k;cases d2 with
 |non=>exact ⟨rep_non.mp r2,by rw[i0m r1];exact k _ _ F H I (Same.refl F) (rep_bl.mpr rfl) h'⟩
 |_=>exact h'.elim
noncomputable def isBF:F2:=fun d1 d2 q=>match d1,d2 with | .bl i,.bl j=>q (.bl (i==j))|_,_=>False
noncomputable def notBF:F2:=fun d1 d2 q=>match d1,d2 with | .bl i,.bl j=>q (.bl (!(i==j)))|_,_=>False
noncomputable def seqD:D→Option (List D)
 | .lst xs=>some xs | .tup xs=>some xs | .scr xs=>some xs |_=>none
noncomputable def ixF:F2:=fun d1 d2 q=>match seqD d1,d2 with
 |some xs,.int i=>match atI xs i with |some d=>q d |none=>False
 |_,_=>False
theorem s0u{F H:Hp}{d:D}{xs:List D}{x:V}(s:Same F H)(h:seqD d=some xs)(r:Rep K F d x):∃a vs,x=.ref a∧(SqL K H a vs∨SqT K H a vs)∧Reps K F xs vs:=by
 cases d with
 |lst ys=>cases h;obtain ⟨a,vs,rfl,e,z⟩:=rep_lst.mp r;exact ⟨a,vs,rfl,.inl (SqL.of (s _ _ e)),z⟩
 |tup ys=>cases h;obtain ⟨a,vs,rfl,e,z⟩:=rep_tup.mp r;exact ⟨a,vs,rfl,.inr (SqT.of (s _ _ e)),z⟩
 |scr ys=>cases h;obtain ⟨a,vs,rfl,e,z⟩:=rep_scr.mp r;exact ⟨a,vs,rfl,.inl (s.sqL e),z⟩
 |_=>cases h
theorem d_ix:OpD K (rIx K) ixF:=by
 intro Y F H σ ρ δ x y d1 d2 Q1 q I r1 r2 h' k;unfold ixF at h';split at h'
 ·rename_i xs i e;split at h'
  ·rename_i d ed;obtain ⟨a,vs,rfl,sq,z⟩:=s0u I.sub e r1;obtain ⟨v,ev,rv⟩:=z.atI ed;have fin:=k d v F H I (Same.refl F) rv h';rcases sq with sq |sq
   ·exact .inl ⟨a,vs,i,v,rfl,rep_int.mp r2,sq,ev,fin⟩
   ·exact .inr (.inl ⟨a,vs,i,v,rfl,rep_int.mp r2,sq,ev,fin⟩)
  ·exact h'.elim
 ·exact h'.elim
noncomputable def i6:D→Bool | .non=>true | .bl _=>true | .int _=>true | .str _=>true |_=>false
noncomputable def toV:D→V | .bl b=>.bl b | .int i=>.int i | .str x=>.str x |_=>.non
theorem flat_v{F:Hp}{d:D}{x:V}(h:i6 d=true)(r:Rep K F d x):x=toV d∧z0v x=true:=by
 cases d with
 |non=>rw[rep_non.mp r];exact ⟨rfl,rfl⟩
 |bl b=>rw[rep_bl.mp r];exact ⟨rfl,rfl⟩
 |int b=>rw[rep_int.mp r];exact ⟨rfl,rfl⟩
 |str b=>rw[rep_str.mp r];exact ⟨rfl,rfl⟩
 |_=>cases h
theorem f6{F:Hp}:∀{ds:List D} {xs:List V},ds.all i6=true→Reps K F ds xs→xs=ds.map toV∧xs.all z0v=true
 | [],xs,_,r=>by rw[reps_nil.mp r];exact ⟨rfl,rfl⟩
 |d::ds,xs,h,r=>by
  obtain ⟨v,vs,rfl,r1,r2⟩:=reps_cons.mp r;rw[List.all_cons,Bool.and_eq_true]at h;obtain ⟨e1,e2⟩:=flat_v h.1 r1;obtain ⟨e3,e4⟩:=f6 h.2 r2;rw[List.all_cons,e2,e4,List.map_cons,← e1,← e3];exact ⟨rfl,rfl⟩
noncomputable def inD(d:D)(xs:List D):Bool:=xs.any fun e=>eqV (toV e) (toV d)
noncomputable def inF:F2:=fun d1 d2 q=>match seqD d2 with |some xs=>(i6 d1&&xs.all i6)=true∧q (.bl (inD d1 xs))|none=>False
noncomputable def notInF:F2:=fun d1 d2 q=>match seqD d2 with |some xs=>(i6 d1&&xs.all i6)=true∧q (.bl (!inD d1 xs))|none=>False
noncomputable def lenF:F1:=fun ds q=>match ds with | [d]=>(match seqD d with |some xs=>q (.int (xs.length:Nat))|none=>False)|_=>False
theorem q8{F:Hp}{d:D}{vs:List V}(r:Reps K F [d] vs):∃v,vs=[v]∧Rep K F d v:=by
 obtain ⟨v,l,rfl,r1,r2⟩:=reps_cons.mp r;rw[reps_nil.mp r2];exact ⟨v,rfl,r1⟩
theorem b0e{F:Hp}{d e:D}{vs:List V}(r:Reps K F [d,e] vs):∃v u,vs=[v,u]∧Rep K F d v∧Rep K F e u:=by
 obtain ⟨v,l,rfl,r1,r2⟩:=reps_cons.mp r;obtain ⟨u,rfl,r3⟩:=q8 r2;exact ⟨v,u,rfl,r1,r3⟩
theorem d_len:u0o K (fun xs H Q=>∃p ys,xs=[.ref p]∧(SqL K H p ys∨SqT K H p ys)∧Q (.int ys.length) H) lenF:=by
 intro Y F H σ ρ δ vs ds Q1 q I r h' k;unfold lenF at h';split at h'
 ·split at h'
  ·rename_i xs e;obtain ⟨v,rfl,r1⟩:=q8 r;obtain ⟨a,us,rfl,sq,z⟩:=s0u I.sub e r1;exact ⟨a,us,rfl,sq,by rw[z.length];exact k _ _ F H I (Same.refl F) (rep_int.mpr rfl) h'⟩
  ·exact h'.elim
 ·exact h'.elim
noncomputable def absF:F1:=fun ds q=>match ds with | [.int i]=>q (.int (if i<0 then -i else i))|_=>False
theorem d_abs:u0o K (fun xs H Q=>∃i,xs=[.int i]∧Q (.int (if i<0 then -i else i)) H) absF:=by
 intro Y F H σ ρ δ vs ds Q1 q I r h' k;unfold absF at h';split at h'
 ·obtain ⟨v,rfl,r1⟩:=q8 r;rw[rep_int.mp r1];exact ⟨_,rfl,k _ _ F H I (Same.refl F) (rep_int.mpr rfl) h'⟩
 ·exact h'.elim
noncomputable def minF:F1:=fun ds q=>match ds with | [.int i,.int j]=>q (.int (if j<i then j else i))|_=>False
noncomputable def maxF:F1:=fun ds q=>match ds with | [.int i,.int j]=>q (.int (if j>i then j else i))|_=>False
noncomputable def intF:F1:=fun ds q=>match ds with | [.int i]=>q (.int i)| [.bl k]=>q (.int (if k then 1 else 0))|_=>False
theorem d_int:u0o K (fun xs H Q=>(∃i,xs=[.int i]∧Q (.int i) H)∨∃k,xs=[.bl k]∧Q (.int (if k then 1 else 0)) H) intF:=by
 intro Y F H σ ρ δ vs ds Q1 q I r h' k;unfold intF at h';split at h'
 ·obtain ⟨v,rfl,r1⟩:=q8 r;rw[rep_int.mp r1];exact .inl ⟨_,rfl,k _ _ F H I (Same.refl F) (rep_int.mpr rfl) h'⟩
 ·obtain ⟨v,rfl,r1⟩:=q8 r;rw[rep_bl.mp r1];exact .inr ⟨_,rfl,k _ _ F H I (Same.refl F) (rep_int.mpr rfl) h'⟩
 ·exact h'.elim
noncomputable def i0k:F1:=fun ds q=>match ds with | [d]=>(match seqD d with |some xs=>q (.lst xs)|none=>False)|_=>False
theorem d_list:u0o K (fun xs H Q=>∃p ys,xs=[.ref p]∧(SqL K H p ys∨SqT K H p ys)∧∀l,H l=none→Q (.ref l) (upd H l (.lst ys))) i0k:=by
 intro Y F H σ ρ δ vs ds Q1 q I r h' k;unfold i0k at h';split at h'
 ·split at h'
  ·rename_i xs e;obtain ⟨v,rfl,r1⟩:=q8 r;obtain ⟨a,us,rfl,sq,z⟩:=s0u I.sub e r1;exact ⟨a,us,rfl,sq,fun l hl=>k _ _ _ _ (I.alloc hl) (I.grow hl) (I.lst hl z) h'⟩
  ·exact h'.elim
 ·exact h'.elim
noncomputable def q0i:F1:=fun ds q=>match ds with | [.lst xs]=>q (.tup xs)| [.scr xs]=>q (.tup xs)| [.tup xs]=>q (.tup xs)|_=>False
theorem w0u:u0o K (fun xs H Q=>∃p ys,xs=[.ref p]∧((SqL K H p ys∧∀l,H l=none→Q (.ref l) (upd H l (.tup ys)))∨(SqT K H p ys∧Q (.ref p) H))) q0i:=by
 intro Y F H σ ρ δ vs ds Q1 q I r h' k;unfold q0i at h';split at h'
 ·obtain ⟨v,rfl,r1⟩:=q8 r;obtain ⟨a,us,rfl,e,z⟩:=rep_lst.mp r1;exact ⟨a,us,rfl,.inl ⟨SqL.of (I.sub _ _ e),fun l hl=>k _ _ _ _ (I.alloc hl) (I.grow hl) (I.tup hl z) h'⟩⟩
 ·obtain ⟨v,rfl,r1⟩:=q8 r;obtain ⟨a,us,rfl,e,z⟩:=rep_scr.mp r1;exact ⟨a,us,rfl,.inl ⟨I.sub.sqL e,fun l hl=>k _ _ _ _ (I.alloc hl) (I.grow hl) (I.tup hl z) h'⟩⟩
 ·obtain ⟨v,rfl,r1⟩:=q8 r;obtain ⟨a,us,rfl,e,z⟩:=rep_tup.mp r1;exact ⟨a,us,rfl,.inr ⟨SqT.of (I.sub _ _ e),k _ _ F H I (Same.refl F) (rep_tup.mpr ⟨a,us,rfl,e,z⟩) h'⟩⟩
 ·exact h'.elim
noncomputable def blsD:List D→Option (List Bool)
 | []=>some []
 | .bl b::r=>(blsD r).map (b::·)
 |_=>none
theorem bls_v{F:Hp}:∀{ds:List D} {bs:List Bool} {vs:List V},blsD ds=some bs→Reps K F ds vs→vs=bs.map V.bl
 | [],bs,vs,h,r=>by cases h;rw[reps_nil.mp r];rfl
 |d::ds,bs,vs,h,r=>by
  obtain ⟨v,l,rfl,r1,r2⟩:=reps_cons.mp r;cases d with
  |bl b=>
   unfold blsD at h;obtain ⟨cs,e1,rfl⟩:=Option.map_eq_some_iff.mp h;rw[rep_bl.mp r1,bls_v e1 r2];rfl
  |_=>cases h
noncomputable def allF:F1:=fun ds q=>match ds with | [.lst xs]=>(match blsD xs with |some bs=>q (.bl (bs.all id))|none=>False)|_=>False
theorem b0d:u0o K (rAll K) allF:=by
 intro Y F H σ ρ δ vs ds Q1 q I r h' k;unfold allF at h';split at h'
 ·split at h'
  ·rename_i xs _ bs e;obtain ⟨v,rfl,r1⟩:=q8 r;obtain ⟨a,us,rfl,e2,z⟩:=rep_lst.mp r1;exact ⟨a,bs,rfl,SqL.of (by rw[←bls_v e z];exact I.sub _ _ e2),k _ _ F H I (Same.refl F) (rep_bl.mpr rfl) h'⟩
  ·exact h'.elim
 ·exact h'.elim
structure ClsI(K:Frag)(C:Addr):Prop where
 cl:Cls K C
 ha:PySem.W.findIn K (.ref C) "__class__"=some (some (.builtin "object.__class__"))
 hn:PySem.W.specialIn K (.builtin "object.__class__") "__get__"=some (some (.builtin "getset_descriptor.__get__"))
 htk:PySem.W.takesIn K (.builtin "object.__class__")=some true
 hm:PySem.W.mroIn K C (.type "object")=some true
noncomputable def tyD:D→Value
 | .non=>.type "NoneType" | .bl _=>.type "bool" | .int _=>.type "int" | .str _=>.type "str" | .lst _=>.type "list" | .scr _=>.type "list" | .tup _=>.type "tuple" | .dic _=>.type "dict"
 | .ins C _=>.ref C | .exc C _=>.ref C |_=>.none
noncomputable def TyD(K:Frag):D→Prop
 | .ins C _=>ClsI K C | .exc C _=>XC K C | .ref _=>False | .ty _=>False | .scr _=>False | .dwk _=>False |_=>True
theorem tyD_v{F H:Hp}{d:D}{x:V}(s:Same F H)(t:TyD K d)(r:Rep K F d x):TyX K H x (tyD d):=by
 cases d with
 |non=>rw[rep_non.mp r];exact .of .non
 |bl b=>rw[rep_bl.mp r];exact .of (.bl b)
 |int b=>rw[rep_int.mp r];exact .of (.int b)
 |str b=>rw[rep_str.mp r];exact .of (.str b)
 |lst b=>obtain ⟨a,vs,rfl,e,_⟩:=rep_lst.mp r;exact .of (.lst (s _ _ e))
 |tup b=>obtain ⟨a,vs,rfl,e,_⟩:=rep_tup.mp r;exact .of (.tup (s _ _ e))
 |scr b=>exact t.elim
 |dic b=>obtain ⟨a,vs,rfl,e,_⟩:=rep_dic.mp r;exact .of (.dK (s _ _ e))
 |dwk b=>exact t.elim
 |ins C b=>obtain ⟨a,dx,vs,rfl,e,_⟩:=rep_ins.mp r;exact .of (.ins (s _ _ e) t.cl t.ha t.hn t.htk t.hm)
 |exc C b=>
  obtain ⟨a,fr,rfl,h⟩:=rep_exc.mp r;rcases h with ⟨_,e⟩|⟨d,us,e,e2,_⟩
  ·exact .exc0 (s _ _ e) t
  ·exact .exc (s _ _ e) (s _ _ e2) t
 |ref a=>exact t.elim
 |ty a=>exact t.elim
noncomputable def tysD:List D→Option (List String)
 | []=>some []
 | .ty n::r=>(tysD r).map (n::·)
 |_=>none
theorem tys_v{F:Hp}:∀{ds:List D} {ns:List String} {vs:List V},tysD ds=some ns→Reps K F ds vs→vs=ns.map V.ty
 | [],bs,vs,h,r=>by cases h;rw[reps_nil.mp r];rfl
 |d::ds,bs,vs,h,r=>by
  obtain ⟨v,l,rfl,r1,r2⟩:=reps_cons.mp r;cases d with
  |ty b=>
   unfold tysD at h;obtain ⟨cs,e1,rfl⟩:=Option.map_eq_some_iff.mp h;rw[rep_ty.mp r1,tys_v e1 r2];rfl
  |_=>cases h
noncomputable def t0n(K:Frag)(d c:D):Option Bool:=match c with
 | .ty n=>PySem.W.kitOne K (tyD d) (.type n)
 | .ref C=>PySem.W.kitOne K (tyD d) (.ref C)
 | .tup cs=>match tysD cs with |some ns=>PySem.W.kitAny K (tyD d) (ns.map Value.type)|none=>none
 |_=>none
noncomputable def i0j(K:Frag):F1:=fun ds q=>match ds with | [d,c]=>TyD K d∧(match t0n K d c with |some b=>q (.bl b)|none=>False)|_=>False
theorem y0i:u0o K (rInst K) (i0j K):=by
 intro Y F H σ ρ δ vs ds Q1 q I r h' k;unfold i0j at h';split at h'
 ·rename_i d c;obtain ⟨ht,h'⟩:=h';obtain ⟨v,u,rfl,r1,r2⟩:=b0e r;split at h'
  ·rename_i b e;refine ⟨v,u,_,b,rfl,tyD_v I.sub ht r1,?_,k _ _ F H I (Same.refl F) (rep_bl.mpr rfl) h'⟩;unfold t0n at e;split at e
   ·exact .inl ⟨_,rep_ty.mp r2,e⟩
   ·exact .inr (.inl ⟨_,rep_ref.mp r2,e⟩)
   ·split at e
    ·rename_i ns en;obtain ⟨a,us,rfl,e2,z⟩:=rep_tup.mp r2;exact .inr (.inr ⟨a,ns,rfl,by rw[←tys_v en z];exact I.sub _ _ e2,e⟩)
    ·cases e
   ·cases e
  ·exact h'.elim
 ·exact h'.elim
end
end DL
namespace DL
open PySem PySem.Spec L2
open PySem.W (XC)
structure End2 where
 nx:En→Dk→Prop
 rt:D→Dk→Prop
 xc:XK2
 bk:En→Dk→Prop:=fun _ _=>False
 ct:En→Dk→Prop:=fun _ _=>False
noncomputable abbrev TS2:=End2→En→Dk→Prop
structure ER(K:Frag)(Y:Y2)(W:XW)(F:Hp)(E2:End2)(E1:Ends):Prop where
 nx:∀ σ' F' H' ρ' δ',I2 K Y F' H' σ' ρ' δ'→Same F F'→E2.nx ρ' δ'→E1.nx σ' H'
 rt:∀d v σ' F' H' ρ' δ',I2 K Y F' H' σ' ρ' δ'→Same F F'→Rep K F' d v→E2.rt d δ'→E1.rt v H'
 xc:XR K Y W F E2.xc
 bk:∀ σ' F' H' ρ' δ',I2 K Y F' H' σ' ρ' δ'→Same F F'→E2.bk ρ' δ'→E1.bk σ' H'
 ct:∀ σ' F' H' ρ' δ',I2 K Y F' H' σ' ρ' δ'→Same F F'→E2.ct ρ' δ'→E1.ct σ' H'
theorem ER.mono{K:Frag}{Y:Y2}{W:XW}{F F1:Hp}{E2:End2}{E1:Ends}(h:ER K Y W F E2 E1)(s:Same F F1):ER K Y W F1 E2 E1:=
 ⟨fun σ' F' H' ρ' δ' I s'=>h.nx σ' F' H' ρ' δ' I (s.trans s'),fun d v σ' F' H' ρ' δ' I s'=>h.rt d v σ' F' H' ρ' δ' I (s.trans s'),h.xc.mono s,fun σ' F' H' ρ' δ' I s'=>h.bk σ' F' H' ρ' δ' I (s.trans s'),fun σ' F' H' ρ' δ' I s'=>h.ct σ' F' H' ρ' δ' I (s.trans s')⟩
noncomputable def upS(K:Frag)(Y:Y2)(W:XW)(t:TS2):TS:=fun E1 σ H=>∃F ρ δ E2,I2 K Y F H σ ρ δ∧t E2 ρ δ∧ER K Y W F E2 E1
structure PS2(X:Cx)(Y:Y2)(W:XW)(st:Stmt)(t:TS2):Prop where
 go:PS X st (upS X.K Y W t)
structure PSs2(X:Cx)(Y:Y2)(W:XW)(st:List Stmt)(t:TS2):Prop where
 go:PSs X st (upS X.K Y W t)
theorem b0c{X:Cx}{st:Stmt}{t t':TS}(h:PS X st t)(k:∀D σ H,t' D σ H→t D σ H):PS X st t':=fun pins s σ H D I q=>h pins s σ H D I (k D σ H q)
theorem m0k{X:Cx}{st:List Stmt}{t t':TS}(h:PSs X st t)(k:∀D σ H,t' D σ H→t D σ H):PSs X st t':=fun pins s σ H D I q=>h pins s σ H D I (k D σ H q)
theorem ps2{X:Cx}{Y:Y2}{W:XW}{st:Stmt}{t:TS}{u:TS2}(h:PS X st t)(k:∀D σ H,upS X.K Y W u D σ H→t D σ H):PS2 X Y W st u:=⟨b0c h k⟩
theorem pss2{X:Cx}{Y:Y2}{W:XW}{st:List Stmt}{t:TS}{u:TS2}(h:PSs X st t)(k:∀D σ H,upS X.K Y W u D σ H→t D σ H):PSs2 X Y W st u:=⟨m0k h k⟩
section
variable{X:Cx}{Y:Y2}{W:XW}{st:Stmt}{rest:List Stmt}{t u:TS2}{e:Expr}{te:TE2}{pos:Pos}
noncomputable def s0t:TS2:=fun E ρ δ=>E.nx ρ δ
noncomputable def f0b(t u:TS2):TS2:=fun E ρ δ=>t {E with nx:=u E} ρ δ
theorem o4:PSs2 X Y W [] s0t:=pss2 c0h fun E1 σ H ⟨F,ρ,δ,E2,I,h,er⟩=>er.nx σ F H ρ δ I (Same.refl F) h
theorem l0(h1:PS2 X Y W st t)(h2:PSs2 X Y W rest u):PSs2 X Y W (st::rest) (f0b t u):=pss2 (f0z h1.go h2.go) fun E1 σ H ⟨F,ρ,δ,E2,I,h,er⟩=>
 ⟨F,ρ,δ,{E2 with nx:=u E2},I,h,⟨fun σ' F' H' ρ' δ' I' s' h'=>⟨F',ρ',δ',E2,I',h',er.mono s'⟩,er.rt,er.xc,er.bk,er.ct⟩⟩
theorem i0(h1:PS2 X Y W st t):PSs2 X Y W [st] t:=⟨o0u h1.go⟩
noncomputable def b0b:TS2:=fun E ρ δ=>E.bk ρ δ
noncomputable def t2Cont:TS2:=fun E ρ δ=>E.ct ρ δ
noncomputable def q0h(te:TE2):TS2:=fun E ρ δ=>te E.xc ρ δ fun _ ρ1 δ1=>E.nx ρ1 δ1
theorem y0f(he:PE2 X Y W e te)(hs:swapsWith e none pos.line X.env=pure false:=by rfl):PS2 X Y W (.Expr e pos) (q0h te):=ps2 (c0g he.go hs) fun E1 σ H ⟨F,ρ,δ,E2,I,h,er⟩=>
 ⟨F,ρ,δ,E2.xc,_,I,h,fun d v F' H' ρ' δ' I' s' r' h'=>er.nx σ F' H' ρ' δ' I' s' h',er.xc⟩
noncomputable def k0q(te:TE2):TS2:=fun E ρ δ=>te E.xc ρ δ fun d _ δ1=>E.rt d δ1
theorem y3(he:PE2 X Y W e te):PS2 X Y W (.Return (some e) pos) (k0q te):=ps2 (d0p he.go) fun E1 σ H ⟨F,ρ,δ,E2,I,h,er⟩=>
 ⟨F,ρ,δ,E2.xc,_,I,h,fun d v F' H' ρ' δ' I' s' r' h'=>er.rt d v σ F' H' ρ' δ' I' s' r' h',er.xc⟩
noncomputable def t2RetN:TS2:=fun E _ δ=>E.rt .non δ
noncomputable def k0p(c:TT2)(t u:TS2):TS2:=fun E ρ δ=>c E.xc ρ δ fun b ρ1 δ1=>if b=true then t E ρ1 δ1 else u E ρ1 δ1
theorem l5{c:Expr}{a b:List Stmt}{tc:TT2}(hc:PT2 X Y W c tc)(ha:PSs2 X Y W a t)(hb:PSs2 X Y W b u):PS2 X Y W (.If c a b pos) (k0p tc t u):=ps2 (ps_if hc.go ha.go hb.go) fun E1 σ H ⟨F,ρ,δ,E2,I,h,er⟩=>by
 refine ⟨F,ρ,δ,E2.xc,_,I,h,fun b F' H' ρ' δ' I' s' h'=>?_,er.xc⟩;cases b with
 |true=>rw[if_pos rfl]at h' ⊢; exact ⟨F',ρ',δ',E2,I',h',er.mono s'⟩
 |false=>rw[if_neg Bool.false_ne_true]at h' ⊢; exact ⟨F',ρ',δ',E2,I',h',er.mono s'⟩
variable{i:Nat}{x:Str}{pos' p:Pos}
noncomputable def i0i(i:Nat)(te:TE2):TS2:=fun E ρ δ=>te E.xc ρ δ fun d ρ1 δ1=>E.nx (ρ1.set i (.val d)) δ1
theorem u4(i:Nat)(hN:X.N.Nodup)(he:PE2 X Y W e te)(hi:X.N[i]?=some x:=by rfl)(hx:Loc X.env.scope x:=by walk_at "v2")(hs:swapsWith e (some (.Name x pos')) pos.line X.env=pure false:=by rfl)
 (hf:X.fn x=true∨X.env.scope.names.lookup x=some .local:=by walk_at "v1"):PS2 X Y W (.Assign [.Name x pos'] e pos) (i0i i te):=ps2 (r0d (i:=i) hN hi hx he.go hs hf) fun E1 σ H ⟨F,ρ,δ,E2,I,h,er⟩=>
 ⟨F,ρ,δ,E2.xc,_,I,h,fun d v F' H' ρ' δ' I' s' r' h'=>er.nx _ F' H' _ δ' (I'.put r') s' h',er.xc⟩
theorem I2.own{K:Frag}{F H:Hp}{σ:St}{ρ:En}{δ:Dk}{i:Nat}{p:Addr}{ds:List D}{vs:List V}(I:I2 K Y F H σ ρ δ)(h:H p=none)(r:Reps K F ds vs):I2 K Y F (upd H p (.lst vs)) (σ.set i (some (.ref p))) (ρ.set i (.own ds)) δ:=by
 have hF:F p=none:=I.sub.free h;have h0:=I.ran.fresh h;have key:∀j a,o7 (ρ.set i (.own ds)) (σ.set i (some (.ref p))) j a→(j=i∧a=p)∨(j≠i∧o7 ρ σ j a):=fun j a o=>by
  by_cases z:j=i
  ·subst z;have:=o.2;rw[List.getElem?_set]at this;by_cases hl:j<σ.length
   ·simp[hl]at this;exact .inl ⟨rfl,this.symm⟩
   ·simp[hl]at this
  ·obtain ⟨o1,o2⟩:=o;simp only[List.getElem?_set_ne (Ne.symm z)]at o1 o2;exact .inr ⟨z,o1,o2⟩
 have addr:∀j a,o7 ρ σ j a→a≠p:=fun j a o=>by
  rcases o.1 with ⟨ds,q⟩|⟨C,fs,q⟩|⟨kvs,q⟩
  ·obtain ⟨b,us,e,hb,_⟩:=I.env j _ q;rw[o.2]at e;cases e;exact v0 hb h
  ·obtain ⟨b,dx,us,e,es0,hb,_⟩:=I.env j _ q;rw[o.2]at e;cases e;exact v0 hb h
  ·obtain ⟨b,us,e,hb,_⟩:=I.env j _ q;rw[o.2]at e;cases e;exact v0 hb h
 refine ⟨⟨fun b u e=>?_,fun a es e=>?_,fun b u e f=>?_,I.ran.f0,I.ran.fnew,I.ran.dto⟩,fun j c e=>?_,by simp[I.len],fun a b c n o1 o2=>?_,fun j a o=>?_⟩
 ·rw[u0 (v0 e hF)];exact I.sub _ _ e
 ·obtain ⟨q,us,q2,r2⟩:=I.ran.dk a es e;exact ⟨q,us,by rw[u0 (v0 q2 h)];exact q2,r2⟩
 ·rw[u0 (v0 (I.ran.keep b u e f) h)];exact I.ran.keep b u e f
 ·by_cases z:j=i
  ·subst z;rw[List.getElem?_set]at e;by_cases hl:j<ρ.length
   ·simp[hl]at e;subst e;refine ⟨p,vs,?_,g0,hF,h0,r⟩;rw[List.getElem?_set];simp[I.len▸hl]
   ·simp[hl]at e
  ·rw[List.getElem?_set_ne (Ne.symm z)]at e ⊢;have w:=I.env j c e;cases c with
   |no=>trivial
   |val d=>exact w
   |own es=>
    obtain ⟨b,us,e1,h1,f1,g1,r1⟩:=w;exact ⟨b,us,e1,by rw[u0 (v0 h1 h)];exact h1,f1,g1,r1⟩
   |obj C fs=>
    obtain ⟨b,dx,us,e1,es1,h1,h2,f1,f2,g1,g2,r1⟩:=w;exact ⟨b,dx,us,e1,es1,by rw[u0 (v0 h1 h)];exact h1,by rw[u0 (v0 h2 h)];exact h2,f1,f2,g1,g2,r1⟩
   |ownD kvs=>
    obtain ⟨b,us,e1,h1,f1,g1,r1⟩:=w;exact ⟨b,us,e1,by rw[u0 (v0 h1 h)];exact h1,f1,g1,r1⟩
 ·rcases key a c o1 with ⟨z1,z2⟩|⟨z1,z2⟩
  ·rcases key b c o2 with ⟨y1,y2⟩|⟨y1,y2⟩
   ·exact n (z1.trans y1.symm)
   ·exact addr b c y2 z2
  ·rcases key b c o2 with ⟨y1,y2⟩|⟨y1,y2⟩
   ·exact addr a c z2 y2
   ·exact I.apart a b c n z2 y2
 ·rcases key j a o with ⟨z1,z2⟩|⟨z1,z2⟩
  ·intro b es eb w;obtain ⟨_,us,q2,_⟩:=I.ran.dk b es eb;rw[←w,z2,h]at q2;cases q2
  ·exact I.off j a z2
noncomputable def f0a(i:Nat)(ta:TA2):TS2:=fun E ρ δ=>ta E.xc ρ δ fun ds ρ1 δ1=>ds.length≤1000∧E.nx (ρ1.set i (.own ds)) δ1
theorem i0h(i:Nat){es:List Expr}{ta:TA2}{lpos:Pos}(hN:X.N.Nodup)(ha:PA2 X Y W es ta)(hi:X.N[i]?=some x:=by rfl)(hx:Loc X.env.scope x:=by walk_at "v2")(hs:swapsWith (.List es lpos) (some (.Name x pos')) pos.line X.env=pure false:=by rfl)
 (hf:X.fn x=true∨X.env.scope.names.lookup x=some .local:=by walk_at "v1"):PS2 X Y W (.Assign [.Name x pos'] (.List es lpos) pos) (f0a i ta):=ps2 (r0d (i:=i) hN hi hx (j0j ha.go) hs hf) fun E1 σ H ⟨F,ρ,δ,E2,I,h,er⟩=>
 ⟨F,ρ,δ,E2.xc,_,I,h,fun ds vs F1 H1 ρ1 δ1 I1 s1 r1 h1=>⟨q0l (by rw[r1.length];exact h1.1),fun p hp=>er.nx _ F1 _ _ δ1 (I1.own hp r1) s1 h1.2⟩,er.xc⟩
noncomputable def m0j(i:Nat)(ta:TA2):TS2:=fun E ρ δ=>ta E.xc ρ δ fun ds ρ1 δ1=>match ds with | [d]=>(match seqD d with |some xs=>E.nx (ρ1.set i (.own xs)) δ1 |none=>False)|_=>False
theorem b0a(i:Nat){a:Expr}{ta:TA2}{cpos np:Pos}(hN:X.N.Nodup)(hm:X.mg "list"=none)(ha:PA2 X Y W [a] ta)(hg:Gl X "list":=by rfl)(hst:starEach [a] X.env=[(false,eval a X.env)]:=by rfl)(hi:X.N[i]?=some x:=by rfl)(hx:Loc X.env.scope x:=by walk_at "v2")
 (hs:swapsWith (.Call (.Name "list" np) [a] [] cpos) (some (.Name x pos')) pos.line X.env=pure false:=by rfl) (hf:X.fn x=true∨X.env.scope.names.lookup x=some .local:=by walk_at "v1") (hpl:(backTo cpos (starEach [] X.env)).any (·.1)=false:=by exact a6 rfl):
 PS2 X Y W (.Assign [.Name x pos'] (.Call (.Name "list" np) [a] [] cpos) pos) (m0j i ta):=ps2 (r0d (i:=i) hN hi hx (q0t v0r hg hm o0m ha.go (by decide) (by decide) hst hpl) hs hf) fun E1 σ H ⟨F,ρ,δ,E2,I,h,er⟩=>by
 refine ⟨F,ρ,δ,E2.xc,_,I,h,fun ds vs F1 H1 ρ1 δ1 I1 s1 r1 h1=>?_,er.xc⟩;split at h1
 ·split at h1
  ·rename_i xs e;obtain ⟨v,rfl,r2⟩:=q8 r1;obtain ⟨a,us,rfl,sq,z⟩:=s0u I1.sub e r2;exact ⟨a,us,rfl,sq,fun l hl=>er.nx _ F1 _ _ δ1 (I1.own hl z) s1 h1⟩
  ·exact h1.elim
 ·exact h1.elim
noncomputable def hasV(ρ:En)(i:Nat):Bool:=match ρ[i]? with |some .no=>false |none=>false |_=>true
theorem has_v{K:Frag}{F H:Hp}{σ:St}{ρ:En}{δ:Dk}(I:I2 K Y F H σ ρ δ)(h:hasV ρ i=true):∃v,σ[i]?=some (some v):=by
 unfold hasV at h;split at h
 ·cases h
 ·cases h
 ·rename_i o n1 n2;cases e:ρ[i]? with
  |none=>exact absurd e n2
  |some c=>
   have w:=I.env i c e;cases c with
   |no=>exact absurd e n1
   |val d=>obtain ⟨v,q,_⟩:=w;exact ⟨v,d0 q⟩
   |own ds=>obtain ⟨a,vs,q,_⟩:=w;exact ⟨_,d0 q⟩
   |obj C fs=>obtain ⟨a,dx,vs,q,_⟩:=w;exact ⟨_,d0 q⟩
   |ownD kvs=>obtain ⟨a,vs,q,_⟩:=w;exact ⟨_,d0 q⟩
noncomputable def seqV(ρ:En)(δ:Dk)(i:Nat):Option (List D):=match ρ[i]? with
 |some (.own ds)=>some ds
 |some (.val (.ref a))=>(match δ with |some (b,ds)=>if a=b then some ds else none |none=>none)
 |some (.val d)=>seqD d
 |_=>none
theorem seq_v{K:Frag}{F H:Hp}{σ:St}{ρ:En}{δ:Dk}{ds:List D}(I:I2 K Y F H σ ρ δ)(h:seqV ρ δ i=some ds):∃a vs,σ[i]?=some (some (.ref a))∧(SqL K H a vs∨SqT K H a vs)∧Reps K F ds vs:=by
 unfold seqV at h;split at h
 ·rename_i es e;cases h;obtain ⟨a,vs,q,hh,_,_,r⟩:=I.env i _ e;exact ⟨a,vs,d0 q,.inl (SqL.of hh),r⟩
 ·rename_i a e;split at h
  ·rename_i b es;by_cases z:a=b
   ·subst z;simp at h;subst h;obtain ⟨u,q,r⟩:=I.env i _ e;rw[rep_ref.mp r]at q;obtain ⟨_,vs,hh,rr⟩:=I.ran.dk a es rfl;exact ⟨a,vs,d0 q,.inl (SqL.of hh),rr⟩
   ·simp[z]at h
  ·cases h
 ·rename_i d _ e;obtain ⟨u,q,r⟩:=I.env i _ e;obtain ⟨a,vs,rfl,sq,z⟩:=s0u I.sub h r;exact ⟨a,vs,d0 q,sq,z⟩
 ·cases h
variable{a b:Expr}{ta tb:TE2}
noncomputable def ixQ(o:Option (List D))(d:D):Option D:=match o,d with |some xs,.int j=>atI xs j |_,_=>none
noncomputable def o0k(i:Nat)(tb:TE2):TE2:=fun x ρ δ q=>hasV ρ i=true∧tb x ρ δ fun d ρ1 δ1=>match ixQ (seqV ρ1 δ1 i) d with |some e=>q e ρ1 δ1 |none=>False
theorem j4(i:Nat)(hb:PE2 X Y W b tb)(hN:X.N[i]?=some x:=by rfl)(hv:Vis X.env.scope x:=by walk_at "v3")(hd:(x==("__debug__":Str))=false:=by decide)
 (hcd:(x==("__classdict__":Str))=false:=by decide) (hs:o0p b:=by exact fun _ _=>rfl):PE2 X Y W (.Subscript (.Name x p) b pos) (o0k i tb):=pe2 (pe_ix s0y (u0v hN hv hd hcd) hb.go hs) fun σ H Q ⟨F,ρ,δ,x,q,I,h,k,kx⟩=>by
 obtain ⟨v,ev⟩:=has_v I h.1;refine ⟨v,ev,F,ρ,δ,x,_,I,h.2,fun d w F' H' ρ' δ' I' s' r' h'=>?_,kx⟩;split at h'
 ·rename_i e ee;unfold ixQ at ee;split at ee
  ·rename_i xs j es;obtain ⟨a,vs,ea,sq,z⟩:=seq_v I' es;rw[ev]at ea;cases ea;obtain ⟨v2,e2,r2⟩:=z.atI ee;have fin:=k e v2 F' H' ρ' δ' I' s' r2 h';rcases sq with sq |sq
   ·exact .inl ⟨a,vs,j,v2,rfl,rep_int.mp r',sq,e2,fin⟩
   ·exact .inr (.inl ⟨a,vs,j,v2,rfl,rep_int.mp r',sq,e2,fin⟩)
  ·cases ee
 ·exact h'.elim
noncomputable def s0s(i:Nat):TE2:=fun x ρ δ q=>match seqV ρ δ i with |some xs=>q (.int (xs.length:Nat)) ρ δ |none=>False
theorem i4(i:Nat){np:Pos}(hm:X.mg "len"=none)(hg:Gl X "len":=by rfl)(hN:X.N[i]?=some x:=by rfl)(hv:Vis X.env.scope x:=by walk_at "v3")(hd:(x==("__debug__":Str))=false:=by decide)
 (hcd:(x==("__classdict__":Str))=false:=by decide) (hst:starEach [.Name x p] X.env=[(false,eval (.Name x p) X.env)]:=by rfl) (hpl:(backTo pos (starEach [] X.env)).any (·.1)=false:=by exact a6 rfl):
 PE2 X Y W (.Call (.Name "len" np) [.Name x p] [] pos) (s0s i):=pe2 (m0x v0s hg hm d0f (j0k (u0v hN hv hd hcd) d0m hst) (by decide) (by decide) hst hpl) fun σ H Q ⟨F,ρ,δ,x,q,I,h,k,kx⟩=>by
 unfold s0s at h;split at h
 ·rename_i xs e;obtain ⟨a,vs,ea,sq,z⟩:=seq_v I e;exact ⟨_,ea,a,vs,rfl,sq,by rw[z.length];exact k _ _ F H ρ δ I (Same.refl F) (rep_int.mpr rfl) h⟩
 ·exact h.elim
noncomputable def mutV(ρ:En)(δ:Dk)(i:Nat):Option (List D×(List D→En×Dk)):=match ρ[i]? with
 |some (.own ds)=>some (ds,fun es=>(ρ.set i (.own es),δ))
 |some (.val (.ref a))=>(match δ with |some (b,ds)=>if a=b then some (ds,fun es=>(ρ,some (b,es)))else none |none=>none)
 |_=>none
theorem e0z{K:Frag}{F H:Hp}{σ:St}{ρ:En}{δ:Dk}{ds:List D}{put:List D→En×Dk}(I:I2 K Y F H σ ρ δ)(h:mutV ρ δ i=some (ds,put)):
 ∃a vs,σ[i]?=some (some (.ref a))∧H a=some (.lst vs)∧Reps K F ds vs∧∀es us,Reps K F es us→I2 K Y F (upd H a (.lst us)) σ (put es).1 (put es).2:=by
 unfold mutV at h;split at h
 ·rename_i es e;cases h;obtain ⟨a,vs,q,hh,hF,h0,r⟩:=I.env i _ e;have hs:=d0 q;have ho:o7 ρ σ i a:=⟨.inl ⟨_,e⟩,hs⟩;refine ⟨a,vs,hs,hh,r,fun es us r2=>?_⟩;have key:∀j b,o7 (ρ.set i (.own es)) σ j b→o7 ρ σ j b:=fun j b o=>by
   by_cases z:j=i
   ·subst z;exact ⟨ho.1,o.2⟩
   ·obtain ⟨o1,o2⟩:=o;simp only[List.getElem?_set_ne (Ne.symm z)]at o1;exact ⟨o1,o2⟩
  refine ⟨⟨fun b u e=>?_,fun b fs e=>?_,fun b u e f=>?_,I.ran.f0,I.ran.fnew,I.ran.dto⟩,fun j c e'=>?_,by simp[I.len],fun x y b n o1 o2=>I.apart x y b n (key x b o1) (key y b o2),fun j b o=>I.off j b (key j b o)⟩
  ·rw[u0 (v0 e hF)];exact I.sub _ _ e
  ·obtain ⟨q1,ws,q2,q3⟩:=I.ran.dk b fs e;exact ⟨q1,ws,by rw[u0 (Ne.symm (I.off i a ho b fs e))];exact q2,q3⟩
  ·rw[u0 (v0 e h0)];exact I.ran.keep b u e f
  ·by_cases z:j=i
   ·subst z;rw[List.getElem?_set]at e';by_cases hl:j<ρ.length
    ·simp[hl]at e';subst e';exact ⟨a,us,q,g0,hF,h0,r2⟩
    ·simp[hl]at e'
   ·rw[List.getElem?_set_ne (Ne.symm z)]at e';have w:=I.env j c e';cases c with
    |no=>trivial
    |val d=>exact w
    |own fs=>
     obtain ⟨b,ws,e1,h1,f1,g1,r1⟩:=w;have nb:b≠a:=fun w=>I.apart j i a z ⟨.inl ⟨fs,e'⟩,by rw[←w];exact d0 e1⟩ ho
     exact ⟨b,ws,e1,by rw[u0 nb];exact h1,f1,g1,r1⟩
    |obj C fs=>
     obtain ⟨b,dx,ws,e1,es1,h1,h2,f1,f2,g1,g2,r1⟩:=w;have nb:b≠a:=fun w=>by rw[w,hh]at h1;cases h1
     have nd:dx≠a:=fun w=>by rw[w,hh]at h2;cases h2
     exact ⟨b,dx,ws,e1,es1,by rw[u0 nb];exact h1,by rw[u0 nd];exact h2,f1,f2,g1,g2,r1⟩
    |ownD kvs=>
     obtain ⟨b,ws,e1,h1,f1,g1,r1⟩:=w;have nb:b≠a:=fun w=>by rw[w,hh]at h1;cases h1
     exact ⟨b,ws,e1,by rw[u0 nb];exact h1,f1,g1,r1⟩
 ·rename_i a e;split at h
  ·rename_i b es;by_cases z:a=b
   ·subst z;simp at h;obtain ⟨rfl,rfl⟩:=h;obtain ⟨u,q,r⟩:=I.env i _ e;rw[rep_ref.mp r]at q;obtain ⟨hF,vs,hh,rr⟩:=I.ran.dk a es rfl;refine ⟨a,vs,d0 q,hh,rr,fun fs us r2=>?_⟩;refine ⟨⟨fun b u e=>?_,fun b gs e=>?_,fun b u eb fb=>?_,I.ran.f0,I.ran.fnew,⟨fun b gs e=>?_,fun b gs e n=>?_⟩⟩,fun j c e'=>?_,I.len,I.apart,fun j b o c gs e=>?_⟩
    ·rw[u0 (v0 e hF)];exact I.sub _ _ e
    ·cases e;exact ⟨hF,us,g0,r2⟩
    ·have nb:b≠a:=by
      intro w;subst w;cases hd:Y.δ₀ with
      |none=>
       have:=I.ran.dto.2 b es rfl hd;rw[eb]at this;cases this
      |some p0=>
       obtain ⟨c,gs⟩:=p0;obtain ⟨es',w2⟩:=I.ran.dto.1 c gs hd;cases w2;exact fb b gs hd rfl
     rw[u0 nb];exact I.ran.keep b u eb fb
    ·obtain ⟨es',w⟩:=I.ran.dto.1 b gs e;cases w;exact ⟨_,rfl⟩
    ·cases e;exact I.ran.dto.2 a es rfl n
    ·have w:=I.env j c e';cases c with
     |no=>trivial
     |val d=>exact w
     |own fs=>
      obtain ⟨b,ws,e1,h1,f1,g1,r1⟩:=w;have nb:b≠a:=I.off j b ⟨.inl ⟨fs,e'⟩,d0 e1⟩ a es rfl;exact ⟨b,ws,e1,by rw[u0 nb];exact h1,f1,g1,r1⟩
     |obj C fs=>
      obtain ⟨b,dx,ws,e1,es1,h1,h2,f1,f2,g1,g2,r1⟩:=w;have nb:b≠a:=fun w=>by rw[w,hh]at h1;cases h1
      have nd:dx≠a:=fun w=>by rw[w,hh]at h2;cases h2
      exact ⟨b,dx,ws,e1,es1,by rw[u0 nb];exact h1,by rw[u0 nd];exact h2,f1,f2,g1,g2,r1⟩
     |ownD kvs=>
      obtain ⟨b,ws,e1,h1,f1,g1,r1⟩:=w;have nb:b≠a:=fun w=>by rw[w,hh]at h1;cases h1
      exact ⟨b,ws,e1,by rw[u0 nb];exact h1,f1,g1,r1⟩
    ·cases e;exact I.off j b o a es rfl
   ·simp[z]at h
  ·cases h
 ·cases h
noncomputable def m0i(i:Nat)(tj te:TE2):TS2:=fun E ρ δ=>te E.xc ρ δ fun d ρ1 δ1=>hasV ρ1 i=true∧tj E.xc ρ1 δ1 fun dj ρ2 δ2=>match mutV ρ2 δ2 i,dj with
 |some (ds,put),.int j=>(match ixN ds.length j with |some m=>E.nx (put (ds.set m d)).1 (put (ds.set m d)).2 |none=>False)
 |_,_=>False
theorem s0e(i:Nat){j:Expr}{tj:TE2}{spos:Pos}(hj:PE2 X Y W j tj)(he:PE2 X Y W e te)(hN:X.N[i]?=some x:=by rfl)(hv:Vis X.env.scope x:=by walk_at "v3")(hd:(x==("__debug__":Str))=false:=by decide)
 (hcd:(x==("__classdict__":Str))=false:=by decide)
 (ha:∀v,assign (.Subscript (.Name x p) j spos) X.env v=(do
  let ov←holding [v] (eval (.Name x p) X.env)
  let iv←holding [v,ov] (eval j X.env)
  standAt spos
  holding [v,ov,iv] (setItem ov iv v)
  release [v,ov,iv] []):=by intro _;rfl)
 (hs:swapsWithSole [.Subscript (.Name x p) j spos] e pos.line X.env=pure false:=by rfl) (hw:swappedStores [.Subscript (.Name x p) j spos] e X.env=pure none:=by rfl)
 (h1:(assignEach [.Subscript (.Name x p) j spos] X.env).map (·.2)=[assign (.Subscript (.Name x p) j spos) X.env]:=by rfl):
 PS2 X Y W (.Assign [.Subscript (.Name x p) j spos] e pos) (m0i i tj te):=ps2 (d0o he.go (pg_sub (u0v hN hv hd hcd) hj.go f0t ha) hs hw h1) fun E1 σ H ⟨F,ρ,δ,E2,I,h,er⟩=>by
 refine ⟨F,ρ,δ,E2.xc,_,I,h,fun d v F1 H1 ρ1 δ1 I1 s1 r1 h1=>?_,er.xc⟩;obtain ⟨o,eo⟩:=has_v I1 h1.1;refine ⟨o,eo,F1,ρ1,δ1,E2.xc,_,I1,h1.2,fun dj w F2 H2 ρ2 δ2 I2' s2 r2 h2=>?_,er.xc.mono s1⟩;split at h2
 ·rename_i ds put j em;split at h2
  ·rename_i m hm;obtain ⟨a,vs,ea,hh,z,up⟩:=e0z I2' em;rw[eo]at ea;cases ea;refine ⟨a,vs,j,m,rfl,rep_int.mp r2,hh,by rw[z.length];exact hm,er.nx σ F2 _ _ _ (up _ _ (z.set (r1.mono s2) m)) (s1.trans s2) h2⟩
  ·exact h2.elim
 ·exact h2.elim
noncomputable abbrev FM:=List D→List D→(D→List D→Prop)→Prop
noncomputable def MtD(K:Frag)(r:V→List V→Hp→VK→Prop)(m:FM):Prop:=∀(F H:Hp) (a:Addr) (vs us:List V) (ds es:List D) (Q:VK) (q:D→List D→Prop),H a=some (.lst vs)→Reps K F ds vs→Reps K F es us→m ds es q→
 (∀d v ds' vs',Rep K F d v→Reps K F ds' vs'→q d ds'→Q v (upd H a (.lst vs')))→r (.ref a) us H Q
noncomputable def t2MV(i:Nat)(m:FM)(ta:TA2):TE2:=fun x ρ δ q=>(mutV ρ δ i).isSome=true∧ta x ρ δ fun es ρ1 δ1=>match mutV ρ1 δ1 i with
 |some (ds,put)=>m ds es fun d ds'=>q d (put ds').1 (put ds').2
 |none=>False
theorem a0z(i:Nat){name:Str}{id:String}{r:V→List V→Hp→VK→Prop}{m:FM}{es:List Expr}{t:TA2}{apos cpos:Pos}(slot:Slot "list" name id)(hty:typeOf (.builtin id)=pure (.type "method_descriptor"))(hm:MtM X id r)(hd2:MtD X.K r m)(hta:PA2 X Y W (e::es) t)
 (hN:X.N[i]?=some x:=by rfl) (hv:Vis X.env.scope x:=by walk_at "v3") (hd:(x==("__debug__":Str))=false:=by decide) (hcd:(x==("__classdict__":Str))=false:=by decide)
 (hbase:attributeBase (.Name x p) name X.env (eval (.Name x p) X.env)=eval (.Name x p) X.env:=by rfl)
 (hfew:((backTo cpos (starEach (e::es) X.env)).all (fun x=>!x.1)&&(backToKw cpos (keywordEach [] X.env)).all (fun x=>x.1.isSome)
  &&decide ((e::es).length+([]:List Keyword).length+(if ([]:List Keyword).isEmpty then 0 else 1)<30))=true:=by rfl)
 (hline:(apos.endLine==cpos.line)=true:=by rfl) (hs:starEach (e::es) X.env=(false,eval e X.env)::starEach es X.env:=by exact z6 rfl) (hplain:(backTo cpos (starEach es X.env)).any (·.1)=false:=by exact a6 rfl):
 PE2 X Y W (.Call (.Attribute (.Name x p) name apos) (e::es) [] cpos) (t2MV i m t):=pe2 (b0u PySem.F.plainAttrs_list slot hty hm (u0v hN hv hd hcd) hta.go hbase hfew hline hs hplain) fun σ H Q ⟨F,ρ,δ,x,q,I,h,k,kx⟩=>by
 obtain ⟨h0,h⟩:=h;obtain ⟨⟨ds0,put0⟩,e0⟩:=Option.isSome_iff_exists.mp h0;obtain ⟨a,vs,ea,hh,z,up⟩:=e0z I e0;refine ⟨_,ea,.inl ⟨rfl,vs,SqL.of hh⟩,F,ρ,δ,x,_,I,h,fun es us F1 H1 ρ1 δ1 I1 s1 r1 h1=>?_,kx⟩;split at h1
 ·rename_i ds put em;obtain ⟨a',vs',ea',hh',z',up'⟩:=e0z I1 em;rw[ea]at ea';cases ea';exact hd2 F1 H1 a vs' us ds es _ _ hh' z' r1 h1 fun d v ds' ws r2 r3 q'=>k d v F1 _ _ _ (up' _ _ r3) s1 r2 q'
 ·exact h1.elim
noncomputable def i0g(i:Nat)(m:FM):TE2:=fun x ρ δ q=>match mutV ρ δ i with
 |some (ds,put)=>m ds [] fun d ds'=>q d (put ds').1 (put ds').2
 |none=>False
theorem e2_mv0(i:Nat){name:Str}{id:String}{r:V→List V→Hp→VK→Prop}{m:FM}{apos cpos:Pos}(slot:Slot "list" name id)(hty:typeOf (.builtin id)=pure (.type "method_descriptor"))(hm:MtM X id r)(hd2:MtD X.K r m)
 (hN:X.N[i]?=some x:=by rfl) (hv:Vis X.env.scope x:=by walk_at "v3") (hd:(x==("__debug__":Str))=false:=by decide) (hcd:(x==("__classdict__":Str))=false:=by decide)
 (hbase:attributeBase (.Name x p) name X.env (eval (.Name x p) X.env)=eval (.Name x p) X.env:=by rfl) (hline:(apos.endLine==cpos.line)=true:=by rfl):
 PE2 X Y W (.Call (.Attribute (.Name x p) name apos) [] [] cpos) (i0g i m):=pe2 (pe_bm0 PySem.F.plainAttrs_list slot hty hm (u0v hN hv hd hcd) hbase hline) fun σ H Q ⟨F,ρ,δ,x,q,I,h,k,kx⟩=>by
 unfold i0g at h;split at h
 ·rename_i ds put em;obtain ⟨a,vs,ea,hh,z,up⟩:=e0z I em;exact ⟨_,ea,.inl ⟨rfl,vs,SqL.of hh⟩,hd2 F H a vs [] ds [] _ _ hh z Reps.nil h fun d v ds' ws r2 r3 q'=>k d v F _ _ _ (up _ _ r3) (Same.refl F) r2 q'⟩
 ·exact h.elim
noncomputable def w0t:FM:=fun ds es q=>match es with | [e]=>ds.length<1000∧q .non (ds++[e])|_=>False
theorem s0d{K:Frag}:MtD K j0f w0t:=by
 intro F H a vs us ds es Q q hh z r h k;unfold w0t at h;split at h
 ·obtain ⟨v,rfl,r1⟩:=q8 r;exact ⟨a,vs,v,rfl,rfl,hh,Nat.lt_of_lt_of_le (by rw[z.length];exact h.1) (show 1000≤PySem.sizeLine by decide),k _ _ _ _ (rep_non.mpr rfl) (z.append (Reps.cons r1 Reps.nil)) h.2⟩
 ·exact h.elim
noncomputable def popM:FM:=fun ds es q=>match es,ds.getLast? with | [],some d=>q d ds.dropLast |_,_=>False
theorem m_pop{K:Frag}:MtD K rPop popM:=by
 intro F H a vs us ds es Q q hh z r h k;unfold popM at h;split at h
 ·rename_i d e;rw[reps_nil.mp r];rw[List.getLast?_eq_getElem?]at e;obtain ⟨v,ev,rv⟩:=z.get e;exact ⟨a,vs,v,rfl,rfl,hh,by rw[z.length];exact ev,k _ _ _ _ rv z.dropLast h⟩
 ·exact h.elim
noncomputable def t2Aug(i:Nat)(f:F2)(te:TE2):TS2:=fun E ρ δ=>rdV ρ i fun d1 ρ0=>te E.xc ρ0 δ fun d2 ρ1 δ1=>f d1 d2 fun d=>E.nx (ρ1.set i (.val d)) δ1
noncomputable def t2Fld(K:Frag)(f:Str)(ta:TE2):TE2:=fun x ρ δ q=>ta x ρ δ fun d ρ1 δ1=>match d with
 | .ins C fs=>(Cls K C∧NoAttr K C f)∧(match fs.lookup f with |some e=>q e ρ1 δ1 |none=>False)
 |_=>False
theorem RepF.look{K:Frag}{F:Hp}{f:Str}:∀{fs:List (Str×D)} {us:List (Str×V)} {d:D},RepF K F fs us→fs.lookup f=some d→∃v,us.lookup f=some v∧Rep K F d v
 | [],us,d,r,e=>by cases e
 |(g,c)::fs,us,d,r,e=>by
  unfold RepF at r;obtain ⟨v,l,rfl,r1,r2⟩:=r;rw[List.lookup_cons]at e ⊢;split at e
  ·cases e;exact ⟨v,rfl,r1⟩
  ·exact RepF.look r2 e
noncomputable def q0g(K:Frag)(f:Str)(ta:TE2):TE2:=fun x ρ δ q=>ta x ρ δ fun d ρ1 δ1=>match d with
 | .exc C fs=>(XC K C∧NoAttr K C f)∧(match fs.lookup f with |some e=>q e ρ1 δ1 |none=>False)
 |_=>False
theorem a0y{f:Str}(ha:PE2 X Y W a ta)(hb:attributeBase a f X.env (eval a X.env)=eval a X.env:=by rfl):PE2 X Y W (.Attribute a f pos) (q0g X.K f ta):=pe2 (b0q ha.go hb) fun σ H Q ⟨F,ρ,δ,x,q,I,h,k,kx⟩=>by
 refine ⟨F,ρ,δ,x,_,I,h,fun d v F' H' ρ' δ' I' s' r' h'=>?_,kx⟩;cases d with
 |exc C fs=>
  obtain ⟨⟨c,n⟩,h'⟩:=h';obtain ⟨a,fr,rfl,rr⟩:=rep_exc.mp r';split at h'
  ·rename_i e ee;rcases rr with ⟨hnil,_⟩|⟨d,us,e1,e2,rf⟩
   ·rw[hnil]at ee;cases ee
   ·obtain ⟨v,ev,rv⟩:=rf.look ee;exact ⟨fr,a,C,d,us,v,rfl,I'.sub _ _ e1,I'.sub _ _ e2,c,n,ev,k e v F' H' ρ' δ' I' s' rv h'⟩
  ·exact h'.elim
 |_=>exact h'.elim
noncomputable def e0y(f:Str)(v:D):List (Str×D)→List (Str×D)
 | []=>[(f,v)]
 |(g,u)::r=>if g=f then (g,v)::r else (g,u)::e0y f v r
noncomputable def t2Self(K:Frag)(i:Nat)(f:Str)(te:TE2):TS2:=fun E ρ δ=>te E.xc ρ δ fun d ρ1 δ1=>match ρ1[i]? with
 |some (.obj C fs)=>(Cls K C∧NoAttr K C f)∧fs.length<1000∧E.nx (ρ1.set i (.obj C (e0y f d fs))) δ1
 |_=>False
end
end DL
namespace DL
open PySem PySem.Spec L2
open PySem.W (XC)
open PyProof.Rows (envOfC)
noncomputable abbrev Sp2:=List D→Dk→(D→Dk→Prop)→(Addr→List (Str×D)→Dk→Prop)→Prop
noncomputable def upF(K:Frag)(sp:Sp2):Sp:=fun vs H Q E=>∃F ds δ q x,Same F H∧DkOk K F H δ∧Reps K F ds vs∧sp ds δ q x∧
 (∀d v F' H' δ',Ran K F H δ F' H' δ'→Rep K F' d v→q d δ'→Q v H')∧∀C od fs F' H' δ',Ran K F H δ F' H' δ'→XRep K F' od fs→x C fs δ'→E (.ref C) od H'
noncomputable abbrev Fun2(P:Program)(w:World)(K:Frag)(mg:Str→Option Value)(base:Heap)(x:Str)(k:Nat)(ps:List Str)(sp:Sp2):Prop:=FnAt P w K mg base (CX1 P w) x k ps (upF K sp)
section
variable{K:Frag}{Y:Y2}{F H F' H':Hp}{σ:St}{ρ:En}{δ δ':Dk}
theorem Ran.trans{F₀ H₀:Hp}{δ₀:Dk}(R:Ran K F₀ H₀ δ₀ F H δ)(S:Ran K F H δ F' H' δ'):Ran K F₀ H₀ δ₀ F' H' δ':=by
 have offs:∀b o,H₀ b=some o→Off δ₀ b→Off δ b:=fun b o e f a ds q w=>by
  subst w;cases hd:δ₀ with
  |none=>have:=R.dto.2 b ds q hd;rw[e]at this;cases this
  |some p=>
   obtain ⟨c,gs⟩:=p;obtain ⟨es,z⟩:=R.dto.1 c gs hd;rw[q]at z;cases z;exact f b gs hd rfl
 have fr:∀p,H p=none→H₀ p=none:=fun p h=>(Ran.fresh (Y:=⟨F₀,H₀,δ₀,none⟩) R h)
 refine ⟨S.sub,S.dk,fun b o e f=>S.keep b o (R.keep b o e f) (offs b o e f),R.f0.trans S.f0,fun b o e=>?_,⟨fun a ds e=>?_,fun a ds e n=>?_⟩⟩
 ·rcases S.fnew b o e with z |z
  ·exact R.fnew b o z
  ·exact .inr (fr b z)
 ·obtain ⟨es,z⟩:=R.dto.1 a ds e;exact S.dto.1 a es z
 ·cases hd:δ with
  |none=>exact fr a (S.dto.2 a ds e hd)
  |some p=>
   obtain ⟨c,gs⟩:=p;obtain ⟨es,z⟩:=S.dto.1 c gs hd;rw[e]at z;cases z;exact R.dto.2 a gs hd n
theorem I2.call(I:I2 K Y F H σ ρ δ)(S:Ran K F H δ F' H' δ'):I2 K Y F' H' σ ρ δ':=by
 have fno:∀a o,H a=some o→F a=none→F' a=none:=fun a o h f=>by
  cases q:F' a with
  |none=>rfl
  |some u=>
   rcases S.fnew a u q with z |z
   ·rw[f]at z;cases z
   ·rw[h]at z;cases z
 have addr:∀j a,o7 ρ σ j a→∃o,H a=some o:=fun j a o=>by
  rcases o.1 with ⟨ds,q⟩|⟨C,fs,q⟩|⟨kvs,q⟩
  ·obtain ⟨b,us,e,hb,_⟩:=I.env j _ q;rw[o.2]at e;cases e;exact ⟨_,hb⟩
  ·obtain ⟨b,dx,us,e,es0,hb,_⟩:=I.env j _ q;rw[o.2]at e;cases e;exact ⟨_,hb⟩
  ·obtain ⟨b,us,e,hb,_⟩:=I.env j _ q;rw[o.2]at e;cases e;exact ⟨_,hb⟩
 refine ⟨I.ran.trans S,fun i c e=>?_,I.len,I.apart,fun j a o b ds e w=>?_⟩
 ·have w:=I.env i c e;cases c with
  |no=>trivial
  |val d=>obtain ⟨u,e1,r⟩:=w;exact ⟨u,e1,r.mono S.f0⟩
  |own ds=>
   obtain ⟨a,vs,e1,h1,f1,g1,r1⟩:=w;have of:=I.off i a ⟨.inl ⟨ds,e⟩,d0 e1⟩;exact ⟨a,vs,e1,S.keep a _ h1 of,fno a _ h1 f1,g1,r1.mono S.f0⟩
  |obj C fs=>
   obtain ⟨a,dx,us,e1,es1,h1,h2,f1,f2,g1,g2,r1⟩:=w;have of:=I.off i a ⟨.inr (.inl ⟨C,fs,e⟩),d0 e1⟩;have od:Off δ dx:=fun b ds q w=>by
    obtain ⟨_,vs,q2,_⟩:=I.ran.dk b ds q;rw[←w,h2]at q2;cases q2
   exact ⟨a,dx,us,e1,es1,S.keep a _ h1 of,S.keep dx _ h2 od,fno a _ h1 f1,fno dx _ h2 f2,g1,g2,r1.mono S.f0⟩
  |ownD ds=>
   obtain ⟨a,vs,e1,h1,f1,g1,r1⟩:=w;have of:=I.off i a ⟨.inr (.inr ⟨ds,e⟩),d0 e1⟩;exact ⟨a,vs,e1,S.keep a _ h1 of,fno a _ h1 f1,g1,r1.mono S.f0⟩
 ·subst w;obtain ⟨u,hu⟩:=addr j a o;cases hd:δ with
  |none=>have:=S.dto.2 a ds e hd;rw[hu]at this;cases this
  |some p=>
   obtain ⟨c,gs⟩:=p;obtain ⟨es,z⟩:=S.dto.1 c gs hd;rw[e]at z;cases z;exact I.off j a o a gs hd rfl
theorem Ran.refl(s:Same F H)(d:DkOk K F H δ):Ran K F H δ F H δ:=⟨s,d,fun _ _ e _=>e,Same.refl F,fun _ _ e=>.inl e,fun a ds e=>⟨ds,e⟩,fun a ds e n=>by rw[n]at e;cases e⟩
end
section
variable{X:Cx}{Y:Y2}{W:XW}{x:Str}{p pos:Pos}{e:Expr}{es:List Expr}{t:TA2}{k:Nat}{ps:List Str}{sp:Sp2}
noncomputable def v0q(sp:Sp2)(t:TA2):TE2:=fun x ρ δ q=>t x ρ δ fun ds ρ1 δ1=>sp ds δ1 (fun d δ2=>q d ρ1 δ2) fun C fs δ2=>x C fs ρ1 δ2
theorem a0x{σ:St}{H:Hp}{Q:VK}(h:upE X.K Y W (v0q sp t) σ H Q):i0y (upF X.K sp) W (upA X.K Y W t) σ H Q:=by
 obtain ⟨F,ρ,δ,x,q,I,h,k,kx⟩:=h;refine ⟨F,ρ,δ,x,_,I,h,fun ds vs F1 H1 ρ1 δ1 I1 s1 r1 h1=>⟨F1,ds,δ1,_,_,I1.sub,I1.ran.dk,r1,h1,fun d v F' H' δ' R r' q'=>?_,fun C od fs F' H' δ' R r' q'=>?_⟩,kx⟩
 ·exact k d v F' H' ρ1 δ' (I1.call R) (s1.trans R.f0) r' q'
 ·exact ⟨C,rfl,kx C od fs σ F' H' ρ1 δ' (I1.call R) (s1.trans R.f0) r' q'⟩
theorem j0(G:Fun2 X.prog X.w X.K X.mg X.base x k ps sp)(hr:Room k X.A)(hf:w0w X W)(ha:PA2 X Y W (e::es) t)(hg:Gl X x:=by rfl)(hdb:(x==("__debug__":Str))=false:=by decide)
 (he:starEach (e::es) X.env=(false,eval e X.env)::starEach es X.env:=by exact z6 rfl) (hpl:(backTo pos (starEach es X.env)).any (·.1)=false:=by exact a6 rfl):PE2 X Y W (.Call (.Name x p) (e::es) [] pos) (v0q sp t):=pe2 (pe_cX G hr hf ha.go hg hdb he hpl) fun σ H Q h=>a0x h
theorem q0f:w0w X (fun _ _ _ _=>False):=fun pins e s ⟨_,_,_,_,_,_,_,_,_,_,_,q⟩=>q.elim
end
noncomputable def a3(N:List Str)(ds:List D):En:=ds.map .val++List.replicate (N.length-ds.length) .no
theorem u0m{K:Frag}{F H H₀:Hp}{sf:Option Addr}:∀{ds:List D} {vs:List V},Reps K F ds vs→∀(n i:Nat) (c:Cell),(ds.map Cell.val++List.replicate n Cell.no)[i]?=some c→CellOk K F H H₀ sf c ((vs.map some++List.replicate n none:St)[i]?).join
 | [],vs,r,n,i,c,e=>by
  rw[List.map_nil,List.nil_append,List.getElem?_replicate]at e;split at e
  ·cases e;trivial
  ·cases e
 |d::ds,vs,r,n,0,c,e=>by
  obtain ⟨v,l,rfl,r1,r2⟩:=reps_cons.mp r;cases e;exact ⟨v,rfl,r1⟩
 |d::ds,vs,r,n,i+1,c,e=>by
  obtain ⟨v,l,rfl,r1,r2⟩:=reps_cons.mp r;exact u0m r2 n i c e
theorem u0l{ds:List D}{n i:Nat}{c:Cell}(e:(ds.map Cell.val++List.replicate n Cell.no)[i]?=some c):(∃d,c=.val d)∨c=.no:=by
 have m:=List.mem_of_getElem? e;rcases List.mem_append.mp m with m |m
 ·obtain ⟨d,_,rfl⟩:=List.mem_map.mp m;exact .inl ⟨d,rfl⟩
 ·exact .inr (List.mem_replicate.mp m).2
theorem I2.start{K:Frag}{F H:Hp}{δ:Dk}{ds:List D}{vs:List V}{N:List Str}(s:Same F H)(dk:DkOk K F H δ)(r:Reps K F ds vs):I2 K ⟨F,H,δ,none⟩ F H (L2.start N vs) (a3 N ds) δ:=by
 have no:∀i a,¬o7 (a3 N ds) (L2.start N vs) i a:=fun i a o=>by
  rcases o.1 with ⟨es,q⟩|⟨C,fs,q⟩|⟨kvs,q⟩
  ·rcases u0l q with ⟨d,z⟩|z<;>cases z
  ·rcases u0l q with ⟨d,z⟩|z<;>cases z
  ·rcases u0l q with ⟨d,z⟩|z<;>cases z
 refine ⟨Ran.refl s dk,fun i c e=>?_,?_,fun i j a _ o _=>no i a o,fun i a o=>absurd o (no i a)⟩
 ·unfold L2.start;rw[r.length];exact u0m r _ i c e
 ·unfold L2.start a3;simp[r.length]
section
variable{P:Program}{w:World}{K:Frag}{mg:Str→Option Value}{base:Heap}
theorem def2F{x:Str}{st:Stmt}{f:Addr}{fd:FuncData}{N ps:List Str}{k:Nat}{sp:Sp2}(D:DefAt K mg x st ps f fd)(S:FnScope N ps (defScope st))(len:∀ds δ q x,sp ds δ q x→ds.length=ps.length)
 (hbody:∀(cdv:Value) (A:Around) (outer:List Env) (s:Shared) (H:Hp) (E:XK) (Y:Y2),Room k (A.deeper (envOfC x (defScope st) s.heap.objs.size f cdv))→
  ∃t,PSs2 (cxX P w K mg base N x (defScope st) f cdv A outer s H E) Y (fun C od _ H'=>E (.ref C) od H') (defBody st) t∧
   ∀ds δ q x,sp ds δ q x→t {nx:=fun _ δ=>q .non δ,rt:=q,xc:=fun C fs _ δ=>x C fs δ} (a3 N ds) δ):FnOk P w K mg base (CX1 P w) (k+1) f fd ps (upF K sp):=by
 refine D.F.okX S (fun vs H Q E h=>?_) fun cdv A outer s H vs Q E hr h=>?_
 ·obtain ⟨F,ds,δ,q,x,_,_,r,h,_⟩:=h;rw[r.length];exact len ds δ q x h
 ·obtain ⟨F,ds,δ,q,x,s1,dk,r,h,kq,kx⟩:=h;obtain ⟨t,ht,rd⟩:=hbody cdv A outer s H E ⟨F,H,δ,none⟩ hr;refine ⟨_,ht.go,F,a3 N ds,δ,_,I2.start s1 dk r,rd ds δ q x h,⟨fun σ' F' H' ρ' δ' I' s' h'=>?_,fun d v σ' F' H' ρ' δ' I' s' r' h'=>?_,fun C od fs σ' F' H' ρ' δ' I' s' r' h'=>?_,fun _ _ _ _ _ _ _ z=>z.elim,fun _ _ _ _ _ _ _ z=>z.elim⟩⟩
  ·exact kq .non .non F' H' δ' I'.ran (rep_non.mpr rfl) h'
  ·exact kq d v F' H' δ' I'.ran r' h'
  ·exact kx C od fs F' H' δ' I'.ran r' h'
theorem def2{x:Str}{st:Stmt}{f:Addr}{fd:FuncData}{N ps:List Str}{k:Nat}{sp:Sp2}(D:DefAt K mg x st ps f fd)(S:FnScope N ps (defScope st))(len:∀ds δ q x,sp ds δ q x→ds.length=ps.length)
 (hbody:∀(cdv:Value) (A:Around) (outer:List Env) (s:Shared) (H:Hp) (E:XK) (Y:Y2),Room k (A.deeper (envOfC x (defScope st) s.heap.objs.size f cdv))→
  ∃t,PSs2 (cxX P w K mg base N x (defScope st) f cdv A outer s H E) Y (fun C od _ H'=>E (.ref C) od H') (defBody st) t∧
   ∀ds δ q x,sp ds δ q x→t {nx:=fun _ δ=>q .non δ,rt:=q,xc:=fun C fs _ δ=>x C fs δ} (a3 N ds) δ):Fun2 P w K mg base x (k+1) ps sp:=D.at (def2F D S len hbody)
noncomputable def upI(K:Frag)(C:Addr)(sp:Sp2):Sp:=fun vs H Q E=>∃p dx us H1 F ds δ q x,vs=.ref p::us∧H=upd (upd H1 dx (.own p)) p (.ins C dx [])∧H1 p=none∧H1 dx=none∧dx≠p∧Same F H1∧DkOk K F H1 δ∧Reps K F ds us∧sp ds δ q x∧
 (∀fs F' H' δ',Ran K F H1 δ F' H' δ'→Rep K F' (.ins C fs) (.ref p)→q (.ins C fs) δ'→Q .non H')∧∀C od fs F' H' δ',Ran K F H1 δ F' H' δ'→XRep K F' od fs→x C fs δ'→E (.ref C) od H'
structure Make2(P:Program)(w:World)(K:Frag)(mg:Str→Option Value)(base:Heap)(x:Str)(k:Nat)(sp:Sp2):Prop where
 ex:∃C f fd ps,Mk K C f∧FnOk P w K mg base (CX1 P w) k f fd ps (upI K C sp)∧mg x=some (.ref C)∧Binds K fd ps []
end
section
variable{X:Cx}{Y:Y2}{W:XW}{x:Str}{p pos:Pos}{e:Expr}{es:List Expr}{t:TA2}{k:Nat}{sp:Sp2}
end
section
variable{P:Program}{w:World}{K:Frag}{mg:Str→Option Value}{base:Heap}
end
section
variable{X:Cx}{Y:Y2}{W:XW}{x:Str}{p pos cpos:Pos}{e:Expr}{es:List Expr}{t:TA2}{k:Nat}{ps:List Str}{C:Addr}{f g:Str}
theorem e0x{H:Hp}{x d:Addr}{o o1 o2:HO}(hx:H x=none)(ne:d≠x):L2.drop (upd (upd (upd H x o1) d o) x o2) x=upd H d o:=by
 funext b;by_cases z:b=x
 ·subst z;rw[z0s,u0 (Ne.symm ne)];exact hx.symm
 ·rw[z0t z,u0 z];by_cases z2:b=d
  ·subst z2;rw[g0,g0]
  ·rw[u0 z2,u0 z2,u0 z]
theorem i0f{H:Hp}{x:Addr}{o:HO}(hx:H x=none):L2.drop (upd H x o) x=H:=by
 funext b;by_cases z:b=x
 ·subst z;rw[z0s];exact hx.symm
 ·rw[z0t z,u0 z]
theorem repF1{K:Frag}{F:Hp}{f:Str}{d:D}{v:V}(r:Rep K F d v):RepF K F [(f,d)] [(f,v)]:=by
 unfold RepF;exact ⟨v,[],rfl,r,by unfold RepF;rfl⟩
noncomputable def v0f(C:Addr)(f:Str)(t:TA2):TS2:=fun E ρ δ=>t E.xc ρ δ fun ds ρ1 δ1=>match ds with | [d]=>E.xc C [(f,d)] ρ1 δ1 |_=>False
theorem z0r(hc:X.calm=true)(hf:w0w X W)(M:MkE X.prog X.w X.K X.mg X.base x C k ps (spXI C f))(hr:Room (k+1) X.A)(ha:PA2 X Y W (e::es) t)(hg:Gl X x:=by rfl)(hdb:(x==("__debug__":Str))=false:=by decide)
 (he:starEach (e::es) X.env=(false,eval e X.env)::starEach es X.env:=by exact z6 rfl) (hpl:(backTo cpos (starEach es X.env)).any (·.1)=false:=by exact a6 rfl):
 PS2 X Y W (.Raise (some (.Call (.Name x p) (e::es) [] cpos)) none pos) (v0f C f t):=ps2 (i0r hc hf M hr ha.go hg hdb he hpl) fun E1 σ H ⟨F,ρ,δ,E2,I,h,er⟩=>by
 refine ⟨F,ρ,δ,E2.xc,_,I,h,fun ds vs F1 H1 ρ1 δ1 I1 s1 r1 h1=>?_,er.xc⟩;split at h1
 ·rename_i d;obtain ⟨v,rfl,r2⟩:=q8 r1;refine ⟨sz1,fun y hy=>⟨y,v,rfl,g0,fun dx hdx ne=>⟨rfl,some dx,g0,?_⟩⟩⟩;rw[e0x hy ne];have hd:H1 dx=none:=by rw[u0 ne]at hdx;exact hdx
  exact er.xc C (some dx) _ σ _ _ ρ1 δ1 (I1.alloc hd) (s1.trans (I1.grow hd)) ⟨_,g0,(repF1 r2).mono (I1.grow hd)⟩ h1
 ·exact h1.elim
noncomputable def e0w(C:Addr)(f g:Str)(t:TA2):TS2:=fun E ρ δ=>t E.xc ρ δ fun ds ρ1 δ1=>match ds with | [d,d']=>E.xc C (e0y g d' [(f,d)]) ρ1 δ1 |_=>False
noncomputable def v0e(C:Addr):TS2:=fun E ρ δ=>E.xc C [] ρ δ
theorem i0e(hc:X.calm=true)(hf:w0w X W)(M:XMk0 X.K C)(hK:xcIn X.K C=true)(hm:X.mg x=some (.ref C))(hg:Gl X x:=by rfl)(hdb:(x==("__debug__":Str))=false:=by decide):
 PS2 X Y W (.Raise (some (.Call (.Name x p) [] [] cpos)) none pos) (v0e C):=ps2 (i0v hc hf M hK hg hm hdb) fun E1 σ H ⟨F,ρ,δ,E2,I,h,er⟩=>by
 intro y hy;rw[i0f hy];exact er.xc C none [] σ F H ρ δ I (Same.refl F) rfl h
noncomputable def t2Exc1(C:Addr)(f:Str)(t:TA2):TE2:=fun x ρ δ q=>t x ρ δ fun ds ρ1 δ1=>match ds with | [d]=>q (.exc C [(f,d)]) ρ1 δ1 |_=>False
noncomputable def t2Exc2(C:Addr)(f g:Str)(t:TA2):TE2:=fun x ρ δ q=>t x ρ δ fun ds ρ1 δ1=>match ds with | [d,d']=>q (.exc C (e0y g d' [(f,d)])) ρ1 δ1 |_=>False
noncomputable abbrev XTS2:=Addr→List (Str×D)→TS2
noncomputable def upH(K:Frag)(Y:Y2)(W:XW)(t:XTS2):XTS:=fun C od E1 σ H=>∃F ρ δ E2 fs,I2 K Y F H σ ρ δ∧XRep K F od fs∧t C fs E2 ρ δ∧ER K Y W F E2 E1
structure PH2(X:Cx)(Y:Y2)(W:XW)(hs:List ExceptHandler)(t:XTS2):Prop where
 go:PH X hs (upH X.K Y W t)
theorem i0d{hs:List ExceptHandler}{t t':XTS}(h:PH X hs t)(k:∀C od D σ H,t' C od D σ H→t C od D σ H):PH X hs t':=fun pins x C od T s σ H D I f l lt q=>h pins x C od T s σ H D I f l lt (k C od D σ H q)
noncomputable def t2H0:XTS2:=fun _ _ _ _ _=>False
theorem h2_nil:PH2 X Y W [] t2H0:=⟨i0d ph_nil fun C od D σ H ⟨F,ρ,δ,E2,fs,I,r,h,er⟩=>h.elim⟩
theorem ph2{hs:List ExceptHandler}{t:XTS}{u:XTS2}(h:PH X hs t)(k:∀C od D σ H,upH X.K Y W u C od D σ H→t C od D σ H):PH2 X Y W hs u:=⟨i0d h k⟩
noncomputable abbrev W0:XW:=fun _ _ _ _=>False
noncomputable def noX(E:End2):End2:={E with xc:=fun _ _ _ _=>False}
noncomputable def t2H(K:Frag)(D:Addr)(ts:TS2)(tr:XTS2):XTS2:=fun C fs E ρ δ=>match PySem.W.mroIn K C (.ref D)with |some b=>if b=true then ts (noX E) ρ δ else tr C fs E ρ δ |none=>False
theorem ER.noX{K:Frag}{F:Hp}{E2:End2}{E1:Ends}(h:ER K Y W F E2 E1):ER K Y W0 F (noX E2) E1:=⟨h.nx,h.rt,fun _ _ _ _ _ _ _ _ _ _ _ z=>z,h.bk,h.ct⟩
variable{D:Addr}{y n:Str}{np:Pos}{b₀:Stmt}{suite:List Stmt}{rest:List ExceptHandler}{ts:TS2}{tr:XTS2}
theorem a0w(tp:Top X)(d:XHd X.K D)(hm:X.mg y=some (.ref D))(hs:∀x,PSs2 (X.hdl x) Y W0 (b₀::suite) ts)(hr:PH2 X Y W rest tr)(hg:Gl X y:=by rfl)(hdb:(y==("__debug__":Str))=false:=by decide):
 PH2 X Y W (.ExceptHandler (some (.Name y np)) none (b₀::suite) pos::rest) (t2H X.K D ts tr):=ph2 (b0m (ts:=upS X.K Y W0 ts) tp d hg hm (fun x=>(hs x).go) hr.go hdb) fun C od E1 σ H ⟨F,ρ,δ,E2,fs,I,r,h,er⟩=>by
 unfold t2H at h;split at h
 ·rename_i b e;refine ⟨b,e,?_⟩;cases b with
  |true=>rw[if_pos rfl]at h ⊢; exact ⟨F,ρ,δ,noX E2,I,h,er.noX⟩
  |false=>rw[if_neg Bool.false_ne_true]at h ⊢; exact ⟨F,ρ,δ,E2,fs,I,r,h,er⟩
 ·exact h.elim
noncomputable def asE(i:Nat)(E:End2):End2:={nx:=fun ρ δ=>E.nx (ρ.set i .no) δ,rt:=E.rt,xc:=fun _ _ _ _=>False,bk:=fun ρ δ=>E.bk (ρ.set i .no) δ,ct:=fun ρ δ=>E.ct (ρ.set i .no) δ}
noncomputable def k0o(K:Frag)(i:Nat)(D:Addr)(ts:TS2)(tr:XTS2):XTS2:=fun C fs E ρ δ=>match PySem.W.mroIn K C (.ref D)with |some b=>if b=true then ts (asE i E) (ρ.set i (.val (.exc C fs))) δ else tr C fs E ρ δ |none=>False
theorem h2_as(i:Nat)(tp:Top X)(d:XHd X.K D)(hm:X.mg y=some (.ref D))(hN:X.N.Nodup)(hs:∀x,PSs2 (X.hdl x) Y W0 (b₀::suite) ts)(hr:PH2 X Y W rest tr)(hi:X.N[i]?=some n:=by rfl)(hk:X.env.scope.names.lookup n=some .local:=by rfl)(hg:Gl X y:=by rfl)(hdb:(y==("__debug__":Str))=false:=by decide):
 PH2 X Y W (.ExceptHandler (some (.Name y np)) (some n) (b₀::suite) pos::rest) (k0o X.K i D ts tr):=ph2 (ph_as (ts:=fun _=>upS X.K Y W0 ts) tp d hg hm hN hi hk (fun x=>(hs x).go) hr.go hdb) fun C od E1 σ H ⟨F,ρ,δ,E2,fs,I,r,h,er⟩=>by
 unfold k0o at h;split at h
 ·rename_i b e;refine ⟨b,e,?_⟩;cases b with
  |true=>
   rw[if_pos rfl]at h ⊢;intro y hy;have s1:=I.grow (o:=XO (bif X.fl then 2 else 0) y C od) hy;have rr:Rep X.K (upd F y (XO (bif X.fl then 2 else 0) y C od)) (.exc C fs) (.ref y):=by
    refine rep_exc.mpr ⟨y,(bif X.fl then 2 else 0),rfl,?_⟩;cases od with
    |none=>exact .inl ⟨r,g0⟩
    |some dx=>
     obtain ⟨us,e1,rf⟩:=r;refine .inr ⟨dx,us,g0,?_,rf.mono s1⟩;rw[u0 (v0 (I.sub _ _ e1) hy)];exact e1
   refine ⟨_,_,δ,asE i E2,(I.alloc hy).put rr,h,⟨fun σ' F' H' ρ' δ' I' s' h'=>?_,fun d v σ' F' H' ρ' δ' I' s'=>er.rt d v σ' F' H' ρ' δ' I' (s1.trans s'),fun _ _ _ _ _ _ _ _ _ _ _ z=>z,fun σ' F' H' ρ' δ' I' s' h'=>?_,fun σ' F' H' ρ' δ' I' s' h'=>?_⟩⟩
   ·exact er.nx _ F' H' _ δ' I'.gone (s1.trans s') h'
   ·exact er.bk _ F' H' _ δ' I'.gone (s1.trans s') h'
   ·exact er.ct _ F' H' _ δ' I'.gone (s1.trans s') h'
  |false=>rw[if_neg Bool.false_ne_true]at h ⊢; exact ⟨F,ρ,δ,E2,fs,I,r,h,er⟩
 ·exact h.elim
noncomputable def e0v(tb:TS2)(th:XTS2):TS2:=fun E ρ δ=>tb {E with xc:=fun C fs ρ' δ'=>th C fs E ρ' δ'} ρ δ
theorem s2_try{body:List Stmt}{h₀:ExceptHandler}{hs:List ExceptHandler}{tb:TS2}{th:XTS2}(tp:Top X)(hb:∀pins W',PSs2 (X.tr pins W') Y W' body tb)(hh:PH2 X Y W (h₀::hs) th):PS2 X Y W (.Try body (h₀::hs) [] [] pos) (e0v tb th):=
 ps2 (ps_try (tb:=fun W'=>upS X.K Y W' tb) tp (fun p W'=>(hb p W').go) hh.go) fun E1 σ H ⟨F,ρ,δ,E2,I,h,er⟩=>
  ⟨fun C od σ' H'=>∃F' ρ' δ' fs,I2 X.K Y F' H' σ' ρ' δ'∧Same F F'∧XRep X.K F' od fs∧th C fs E2 ρ' δ',
   ⟨F,ρ,δ,_,I,h,⟨er.nx,er.rt,fun C od fs σ' F' H' ρ' δ' I' s' r' h'=>⟨F',ρ',δ',fs,I',s',r',h'⟩,er.bk,er.ct⟩⟩,
   fun C od σ' H' ⟨F',ρ',δ',fs,I',s',r',h'⟩=>⟨F',ρ',δ',E2,fs,I',r',h',er.mono s'⟩⟩
end
end DL
namespace DL
open PySem PySem.Spec L2
open PySem.W (XC)
noncomputable def d0b(K:Frag)(F H:Hp)(d:D)(v:V)(H':Hp):Prop:=(H'=H∧Rep K F d v)∨∃p vs es,H p=none∧H'=upd H p (.tup vs)∧v=.ref p∧d=.tup es∧Reps K F es vs
structure SrcOk(K:Frag)(J:It)(F:Hp)(ds:List D):Prop where
 item:∀(i:Nat) (d:D) (F' H:Hp),ds[i]?=some d→Same F F'→Same F' H→J.go i H∧∀v H',J.yld i H v H'→d0b K F' H d v H'
 stop:∀(F' H:Hp),Same F F'→Same F' H→J.stop ds.length H
theorem I2.yld{K:Frag}{Y:Y2}{F H H':Hp}{σ:St}{ρ:En}{δ:Dk}{d:D}{v:V}(I:I2 K Y F H σ ρ δ)(y:d0b K F H d v H'):∃F',I2 K Y F' H' σ ρ δ∧Same F F'∧Rep K F' d v∧∀D u,H D=some u→F D=none→F' D=none:=by
 rcases y with ⟨rfl,r⟩|⟨p,vs,es,hp,rfl,rfl,rfl,r⟩
 ·exact ⟨F,I,Same.refl F,r,fun _ _ _ z=>z⟩
 ·exact ⟨_,I.alloc hp,I.grow hp,I.tup hp r,fun D u h z=>by rw[u0 (v0 h hp)];exact z⟩
noncomputable abbrev TI2:=XK2→En→Dk→(List D→En→Dk→Prop)→Prop
noncomputable def upI2(K:Frag)(Y:Y2)(W:XW)(t:TI2):TI:=fun σ H R=>∃F ρ δ x q,I2 K Y F H σ ρ δ∧t x ρ δ q∧(∀ds J F' H' ρ' δ',I2 K Y F' H' σ ρ' δ'→Same F F'→SrcOk K J F' ds→q ds ρ' δ'→R J H')∧XR K Y W F x
structure PI2(X:Cx)(Y:Y2)(W:XW)(tg iter:Expr)(t:TI2):Prop where
 go:PI X tg iter (upI2 X.K Y W t)
theorem a0v{X:Cx}{tg iter:Expr}{t t':TI}(h:PI X tg iter t)(k:∀ σ H R,t' σ H R→t σ H R):PI X tg iter t':=fun pins s σ H R I q=>h pins s σ H R I (k σ H R q)
theorem pi2{X:Cx}{Y:Y2}{W:XW}{tg iter:Expr}{t:TI}{u:TI2}(h:PI X tg iter t)(k:∀ σ H R,upI2 X.K Y W u σ H R→t σ H R):PI2 X Y W tg iter u:=⟨a0v h k⟩
section
variable{X:Cx}{Y:Y2}{W:XW}{tg:Expr}{K:Frag}
theorem a0u{F:Hp}{a:Addr}{xs:List V}{ds:List D}(h:SqT K F a xs)(r:Reps K F ds xs):SrcOk K (Itt K a) F ds:=by
 refine ⟨fun i d F' H e s1 s2=>?_,fun F' H s1 s2=>?_⟩
 ·obtain ⟨v,ev,rv⟩:=r.get e;have hs:=(s1.trans s2).sqT h;refine ⟨⟨xs,v,hs,ev⟩,fun u H' y=>?_⟩;obtain ⟨rfl,y⟩:=y;have:=y xs hs;rw[ev]at this;cases this;exact .inl ⟨rfl,rv.mono s1⟩
 ·exact ⟨xs,(s1.trans s2).sqT h,by rw[r.length];exact Nat.le_refl _⟩
theorem i0c{F:Hp}{a:Addr}{xs:List V}{ds:List D}(h:SqL K F a xs)(r:Reps K F ds xs):SrcOk K (Itl K a) F ds:=by
 refine ⟨fun i d F' H e s1 s2=>?_,fun F' H s1 s2=>?_⟩
 ·obtain ⟨v,ev,rv⟩:=r.get e;have hs:=(s1.trans s2).sqL h;refine ⟨⟨xs,v,hs,ev⟩,fun u H' y=>?_⟩;obtain ⟨rfl,y⟩:=y;have:=y xs hs;rw[ev]at this;cases this;exact .inl ⟨rfl,rv.mono s1⟩
 ·exact ⟨xs,(s1.trans s2).sqL h,by rw[r.length];exact Nat.le_refl _⟩
noncomputable def rngD(lo:Int)(n:Nat):List D:=(List.range n).map fun (k:Nat)=>D.int (lo+(k:Int))
theorem z0e{lo:Int}{n i:Nat}{d:D}(e:(rngD lo n)[i]?=some d):i<n∧d=.int (lo+(i:Int)):=by
 unfold rngD at e;rw[List.getElem?_map,Option.map_eq_some_iff]at e;obtain ⟨k,ek,rfl⟩:=e;obtain ⟨h1,h2⟩:=List.getElem?_eq_some_iff.mp ek;rw[List.length_range]at h1;rw[List.getElem_range]at h2;subst h2;exact ⟨h1,rfl⟩
theorem z0d{lo:Int}{n:Nat}:(rngD lo n).length=n:=by unfold rngD;simp
theorem i0b{F:Hp}{lo:Int}{n:Nat}:SrcOk K (Itr lo n) F (rngD lo n):=by
 refine ⟨fun i d F' H e s1 s2=>?_,fun F' H s1 s2=>?_⟩
 ·obtain ⟨hi,rfl⟩:=z0e e;refine ⟨hi,fun v H' y=>?_⟩;obtain ⟨rfl,rfl⟩:=y;exact .inl ⟨rfl,rep_int.mpr rfl⟩
 ·show n≤_;rw[z0d];exact Nat.le_refl _
noncomputable def iSeq(K:Frag)(tl:TE):TI:=fun σ H R=>tl σ H fun x H1=>∃a,x=.ref a∧(((∃xs,SqL K H1 a xs)∧R (Itl K a) H1)∨((∃xs,SqT K H1 a xs)∧R (Itt K a) H1))
theorem pi_seq{l:Expr}{tl:TE}(hl:PE X l tl):PI X tg l (iSeq X.K tl):=by
 intro pins s σ H R I h;refine thn (hl pins s σ H _ I h) fun v s1 ⟨x,H1,I1,r1,q1⟩=>?_
 obtain ⟨a,e,q⟩:=q1;subst e;cases r1;rcases q with ⟨⟨xs,hq⟩,q⟩|⟨⟨xs,hq⟩,q⟩
 ·obtain ⟨its,rv,p,hz⟩:=I1.list hq;refine wpAny_pyIter_list p.isList ?_;refine ⟨s1.heap.objs.size,[s1.heap.objs.size],_,_,H1,rfl,I1.kept (t':=s1.toks) fun b o e=>Heap.get?_push_of_some _ e,j0w a _,⟨_,Heap.get?_push_size _ rfl,rfl,rfl⟩,fun b hb=>?_,q⟩;have e:b=s1.heap.objs.size:=by simpa using hb
  subst e;exact I1.fpOk (Nat.le_refl _) (I1.hok.fresh (Nat.le_refl _))
 ·obtain ⟨its,rv,p,hz⟩:=I1.tuple hq;refine wpAny_pyIter_tuple (show s1.heap.IsTuple a its.toArray from p) ?_;refine ⟨s1.heap.objs.size,[s1.heap.objs.size],_,_,H1,rfl,I1.kept (t':=s1.toks) fun b o e=>Heap.get?_push_of_some _ e,l0a a _,⟨_,Heap.get?_push_size _ rfl,rfl,rfl⟩,fun b hb=>?_,q⟩;have e:b=s1.heap.objs.size:=by simpa using hb
  subst e;exact I1.fpOk (Nat.le_refl _) (I1.hok.fresh (Nat.le_refl _))
noncomputable def t2Is(te:TE2):TI2:=fun x ρ δ q=>te x ρ δ fun d ρ1 δ1=>match seqD d with |some ds=>q ds ρ1 δ1 |none=>False
theorem d0a{F:Hp}{d:D}{xs:List D}{x:V}(h:seqD d=some xs)(r:Rep K F d x):∃a vs,x=.ref a∧(SqL K F a vs∨SqT K F a vs)∧Reps K F xs vs:=s0u (Same.refl F) h r
theorem a8{l:Expr}{te:TE2}(hl:PE2 X Y W l te):PI2 X Y W tg l (t2Is te):=pi2 (pi_seq hl.go) fun σ H R ⟨F,ρ,δ,x,q,I,h,k,kx⟩=>by
 refine ⟨F,ρ,δ,x,_,I,h,fun d v F' H' ρ' δ' I' s' r' h'=>?_,kx⟩;split at h'
 ·rename_i ds e;obtain ⟨a,vs,rfl,sq,z⟩:=d0a e r';refine ⟨a,rfl,?_⟩;rcases sq with sq |sq
  ·exact .inl ⟨⟨vs,I'.sub.sqL sq⟩,k ds _ F' H' ρ' δ' I' s' (i0c sq z) h'⟩
  ·exact .inr ⟨⟨vs,I'.sub.sqT sq⟩,k ds _ F' H' ρ' δ' I' s' (a0u sq z) h'⟩
 ·exact h'.elim
variable{a b:Expr}{ta:TA2}{p pos:Pos}
noncomputable def t2R1(ta:TA2):TI2:=fun x ρ δ q=>ta x ρ δ fun ds ρ1 δ1=>match ds with | [.int j]=>(-(2^62)≤j∧j<2^62)∧q (rngD 0 j.toNat) ρ1 δ1 |_=>False
theorem q0e(hm:X.mg "range"=none)(ha:PA2 X Y W [a] ta)(hg:Gl X "range":=by rfl)(hs:starEach [a] X.env=[(false,eval a X.env)]:=by rfl):PI2 X Y W tg (.Call (.Name "range" p) [a] [] pos) (t2R1 ta):=pi2 (j0v hg hm ha.go hs) fun σ H R ⟨F,ρ,δ,x,q,I,h,k,kx⟩=>by
 refine ⟨F,ρ,δ,x,_,I,h,fun ds vs F' H' ρ' δ' I' s' r' h'=>?_,kx⟩;split at h'
 ·rename_i j;obtain ⟨v,rfl,r1⟩:=q8 r';rw[rep_int.mp r1];exact ⟨j,rfl,h'.1.1,h'.1.2,k _ _ F' H' ρ' δ' I' s' i0b h'.2⟩
 ·exact h'.elim
noncomputable def t2R2(ta:TA2):TI2:=fun x ρ δ q=>ta x ρ δ fun ds ρ1 δ1=>match ds with | [.int i,.int j]=>(-(2^62)≤i∧i<2^62∧-(2^62)≤j∧j<2^62)∧q (rngD i (j-i).toNat) ρ1 δ1 |_=>False
theorem u0k(hm:X.mg "range"=none)(ha:PA2 X Y W [a,b] ta)(hg:Gl X "range":=by rfl)(hs:starEach [a,b] X.env=[(false,eval a X.env),(false,eval b X.env)]:=by rfl)(hs2:starEach [b] X.env=[(false,eval b X.env)]:=by rfl):
 PI2 X Y W tg (.Call (.Name "range" p) [a,b] [] pos) (t2R2 ta):=pi2 (j0u hg hm ha.go hs hs2) fun σ H R ⟨F,ρ,δ,x,q,I,h,k,kx⟩=>by
 refine ⟨F,ρ,δ,x,_,I,h,fun ds vs F' H' ρ' δ' I' s' r' h'=>?_,kx⟩;split at h'
 ·rename_i i j;obtain ⟨v,u,rfl,r1,r2⟩:=b0e r';rw[rep_int.mp r1,rep_int.mp r2];exact ⟨i,j,rfl,h'.1,k _ _ F' H' ρ' δ' I' s' i0b h'.2⟩
 ·exact h'.elim
end
noncomputable abbrev G2:=D→En→Option En
noncomputable def TgD(K:Frag)(g:TG)(g2:G2):Prop:=∀(Y:Y2) (F H:Hp) (σ:St) (ρ ρ':En) (δ:Dk) (d:D) (v:V) (Q:St→Hp→Prop),I2 K Y F H σ ρ δ→Rep K F d v→g2 d ρ=some ρ'→(∀ σ',I2 K Y F H σ' ρ' δ→Q σ' H)→g v σ H Q
noncomputable def g2N(i:Nat):G2:=fun d ρ=>some (ρ.set i (.val d))
theorem u0j{K:Frag}{i:Nat}:TgD K (o0t i) (g2N i):=fun Y F H σ ρ ρ' δ d v Q I r e k=>by cases e;exact k _ (I.put r)
noncomputable def u0i:List Nat→List D→En→Option En
 | [],[],ρ=>some ρ
 |i::is,d::ds,ρ=>u0i is ds (ρ.set i (.val d))
 |_,_,_=>none
noncomputable def g2T(is:List Nat):G2:=fun d ρ=>match d with | .tup ds=>u0i is ds ρ |_=>none
noncomputable def gAll:List Nat→TGs
 | []=>gNil
 |i::is=>gCons (o0t i) (gAll is)
theorem c0z{K:Frag}:∀{is:List Nat} {ds:List D} {vs:List V} {Y:Y2} {F H:Hp} {σ:St} {ρ ρ':En} {δ:Dk} {Q:St→Hp→Prop},I2 K Y F H σ ρ δ→Reps K F ds vs→u0i is ds ρ=some ρ'→(∀ σ',I2 K Y F H σ' ρ' δ→Q σ' H)→gAll is vs σ H Q∧vs.length=is.length
 | [],[],vs,Y,F,H,σ,ρ,ρ',δ,Q,I,r,e,k=>by cases e;rw[reps_nil.mp r];exact ⟨⟨rfl,k σ I⟩,rfl⟩
 |i::is,d::ds,vs,Y,F,H,σ,ρ,ρ',δ,Q,I,r,e,k=>by
  obtain ⟨v,l,rfl,r1,r2⟩:=reps_cons.mp r;obtain ⟨h1,h2⟩:=c0z (I.put (i:=i) r1) r2 e k;exact ⟨⟨v,l,rfl,h1⟩,by rw[List.length_cons,List.length_cons,h2]⟩
 | [],d::ds,vs,Y,F,H,σ,ρ,ρ',δ,Q,I,r,e,k=>by cases e
 |i::is,[],vs,Y,F,H,σ,ρ,ρ',δ,Q,I,r,e,k=>by cases e
theorem s0r{K:Frag}{is:List Nat}{n:Nat}(hn:is.length=n):TgD K (gTup K n (gAll is)) (g2T is):=fun Y F H σ ρ ρ' δ d v Q I r e k=>by
 unfold g2T at e;split at e
 ·rename_i ds;obtain ⟨a,vs,rfl,ea,z⟩:=rep_tup.mp r;obtain ⟨h1,h2⟩:=c0z I z e k;exact ⟨a,vs,rfl,SqT.of (I.sub _ _ ea),by rw[h2,hn],h1⟩
 ·cases e
noncomputable def forL(g:G2)(body:TS2)(E:End2):List D→En→Dk→Prop
 | [],ρ,δ=>E.nx ρ δ
 |d::ds,ρ,δ=>match g d ρ with
  |some ρ'=>body {E with nx:=forL g body E ds,ct:=forL g body E ds,bk:=E.nx} ρ' δ
  |none=>False
noncomputable def e0u(ti:TI2)(g:G2)(body:TS2):TS2:=fun E ρ δ=>ti E.xc ρ δ fun ds ρ1 δ1=>forL g body E ds ρ1 δ1
section
variable{X:Cx}{Y:Y2}{W:XW}{tg iter:Expr}{pos:Pos}
theorem y0h{body:List Stmt}{ti:TI2}{g:TG}{g2:G2}{tb:TS2}(hp:PassesOwn (model X.prog X.w) X.A X.env X.xe)(hc:X.calm=true)(hi:PI2 X Y W tg iter ti)(hg:PG X tg g)(hd:TgD X.K g g2)(hb:PSs2 X Y W body tb)
 (hs:∀x,foldedSetIterable iter X.env x=pure x:=by intro _;rfl):PS2 X Y W (.For tg iter body [] pos) (e0u ti g2 tb):=ps2 (ps_for hp hc hi.go hg hb.go hs) fun E1 σ H ⟨F,ρ,δ,E2,I,h,er⟩=>by
 refine ⟨F,ρ,δ,E2.xc,_,I,h,fun ds J F1 H1 ρ1 δ1 I1 s1 src h1=>?_,er.xc⟩;refine ⟨fun i m σ H=>∃F' ρ' δ',I2 X.K Y F' H σ ρ' δ'∧Same F1 F'∧forL g2 tb E2 (ds.drop i) ρ' δ'∧i≤ds.length∧m=ds.length-i,⟨ds.length,F1,ρ1,δ1,I1,Same.refl F1,by simpa using h1,Nat.zero_le _,by simp⟩,?_⟩;rintro i m σ' H' ⟨F',ρ',δ',I',s',h',hi,rfl⟩;cases e:ds[i]? with
 |none=>
  have hl:ds.length≤i:=List.getElem?_eq_none_iff.mp e;have ei:i=ds.length:=by omega
  subst ei;rw[List.drop_length]at h';exact .inl ⟨src.stop F' H' s' I'.sub,er.nx σ' F' H' ρ' δ' I' (s1.trans s') h'⟩
 |some d=>
  have hl:i<ds.length:=(List.getElem?_eq_some_iff.mp e).1;obtain ⟨go,yl⟩:=src.item i d F' H' e s' I'.sub;refine .inr ⟨go,fun σ2 H2=>∃F2 ρ2 δ2,I2 X.K Y F2 H2 σ2 ρ2 δ2∧Same F1 F2∧forL g2 tb E2 (ds.drop (i+1)) ρ2 δ2,fun σ2 H2 ⟨F2,ρ2,δ2,I2',s2,h2⟩=>⟨ds.length-(i+1),by omega,F2,ρ2,δ2,I2',s2,h2,hl,rfl⟩,fun x H2 y=>?_⟩;obtain ⟨F2,I2',s2,r2,_⟩:=I'.yld (yl x H2 y);have ed:ds.drop i=d::ds.drop (i+1):=by rw[List.drop_eq_getElem_cons hl];congr 1;exact (List.getElem?_eq_some_iff.mp e).2
  rw[ed]at h';unfold forL at h';split at h'
  ·rename_i ρ3 e3;refine hd Y F2 H2 σ' ρ' ρ3 δ' d x _ I2' r2 e3 fun σ3 I3=>?_
   have sa:Same F1 F2:=s'.trans s2;refine ⟨F2,ρ3,δ',_,I3,h',⟨fun σ4 F4 H4 ρ4 δ4 I4 s4 h4=>⟨F4,ρ4,δ4,I4,sa.trans s4,h4⟩,fun d v σ4 F4 H4 ρ4 δ4 I4 s4=>er.rt d v σ4 F4 H4 ρ4 δ4 I4 ((s1.trans sa).trans s4),er.xc.mono (s1.trans sa),fun σ4 F4 H4 ρ4 δ4 I4 s4 h4=>er.nx σ4 F4 H4 ρ4 δ4 I4 ((s1.trans sa).trans s4) h4,fun σ4 F4 H4 ρ4 δ4 I4 s4 h4=>⟨F4,ρ4,δ4,I4,sa.trans s4,h4⟩⟩⟩
  ·exact h'.elim
end
section
variable{K:Frag}{Y:Y2}{F H:Hp}{σ:St}{ρ:En}{δ:Dk}
theorem I2.side{D:Addr}{o:HO}(I:I2 K Y F H σ ρ δ)(hF:F D=none)(h0:Y.H₀ D=none)(hd:Off δ D)(hD:∃vs,H D=some (.lst vs))(no:∀j a,o7 ρ σ j a→a≠D):I2 K Y F (upd H D o) σ ρ δ:=by
 obtain ⟨vs,hD⟩:=hD;refine ⟨⟨fun b u e=>?_,fun b fs e=>?_,fun b u e f=>?_,I.ran.f0,I.ran.fnew,I.ran.dto⟩,fun j c e=>?_,I.len,I.apart,I.off⟩
 ·rw[u0 (v0 e hF)];exact I.sub _ _ e
 ·obtain ⟨q1,ws,q2,q3⟩:=I.ran.dk b fs e;exact ⟨q1,ws,by rw[u0 (Ne.symm (hd b fs e))];exact q2,q3⟩
 ·rw[u0 (v0 e h0)];exact I.ran.keep b u e f
 ·have w:=I.env j c e;cases c with
  |no=>trivial
  |val d=>exact w
  |own fs=>
   obtain ⟨b,ws,e1,h1,f1,g1,r1⟩:=w;exact ⟨b,ws,e1,by rw[u0 (no j b ⟨.inl ⟨fs,e⟩,d0 e1⟩)];exact h1,f1,g1,r1⟩
  |obj C fs=>
   obtain ⟨b,dx,ws,e1,es1,h1,h2,f1,f2,g1,g2,r1⟩:=w;have nd:dx≠D:=fun w=>by rw[w,hD]at h2;cases h2
   exact ⟨b,dx,ws,e1,es1,by rw[u0 (no j b ⟨.inr (.inl ⟨C,fs,e⟩),d0 e1⟩)];exact h1,by rw[u0 nd];exact h2,f1,f2,g1,g2,r1⟩
  |ownD fs=>
   obtain ⟨b,ws,e1,h1,f1,g1,r1⟩:=w;exact ⟨b,ws,e1,by rw[u0 (no j b ⟨.inr (.inr ⟨fs,e⟩),d0 e1⟩)];exact h1,f1,g1,r1⟩
theorem I2.ice{D:Addr}{vs:List V}(I:I2 K Y F H σ ρ δ)(hF:F D=none)(h0:Y.H₀ D=none)(hd:Off δ D)(hD:H D=some (.lst vs))(no:∀j a,o7 ρ σ j a→a≠D):I2 K Y (upd F D (.lst vs)) H σ ρ δ:=by
 refine ⟨⟨fun b u e=>?_,fun b fs e=>?_,I.ran.keep,fun b u e=>?_,fun b u e=>?_,I.ran.dto⟩,fun j c e=>?_,I.len,I.apart,I.off⟩
 ·by_cases z:b=D
  ·subst z;rw[g0]at e;cases e;exact hD
  ·rw[u0 z]at e;exact I.sub _ _ e
 ·obtain ⟨q1,ws,q2,q3⟩:=I.ran.dk b fs e;exact ⟨by rw[u0 (Ne.symm (hd b fs e))];exact q1,ws,q2,q3.mono (Same.new hF)⟩
 ·rw[u0 (v0 (I.ran.f0 b u e) hF)];exact I.ran.f0 b u e
 ·by_cases z:b=D
  ·subst z;exact .inr h0
  ·rw[u0 z]at e;exact I.ran.fnew b u e
 ·have w:=I.env j c e;cases c with
  |no=>trivial
  |val d=>obtain ⟨u,e1,r1⟩:=w;exact ⟨u,e1,r1.mono (Same.new hF)⟩
  |own fs=>
   obtain ⟨b,ws,e1,h1,f1,g1,r1⟩:=w;exact ⟨b,ws,e1,h1,by rw[u0 (no j b ⟨.inl ⟨fs,e⟩,d0 e1⟩)];exact f1,g1,r1.mono (Same.new hF)⟩
  |obj C fs=>
   obtain ⟨b,dx,ws,e1,es1,h1,h2,f1,f2,g1,g2,r1⟩:=w;have nd:dx≠D:=fun w=>by rw[w,hD]at h2;cases h2
   exact ⟨b,dx,ws,e1,es1,h1,h2,by rw[u0 (no j b ⟨.inr (.inl ⟨C,fs,e⟩),d0 e1⟩)];exact f1,by rw[u0 nd];exact f2,g1,g2,r1.mono (Same.new hF)⟩
  |ownD fs=>
   obtain ⟨b,ws,e1,h1,f1,g1,r1⟩:=w;exact ⟨b,ws,e1,h1,by rw[u0 (no j b ⟨.inr (.inr ⟨fs,e⟩),d0 e1⟩)];exact f1,g1,r1.mono (Same.new hF)⟩
theorem I2.ownAddr{j:Nat}{a:Addr}(I:I2 K Y F H σ ρ δ)(o:o7 ρ σ j a):∃u,H a=some u:=by
 rcases o.1 with ⟨ds,q⟩|⟨C,fs,q⟩|⟨kvs,q⟩
 rotate_left 2
 ·obtain ⟨b,us,e,hb,_⟩:=I.env j _ q;rw[o.2]at e;cases e;exact ⟨_,hb⟩
 ·obtain ⟨b,us,e,hb,_⟩:=I.env j _ q;rw[o.2]at e;cases e;exact ⟨_,hb⟩
 ·obtain ⟨b,dx,us,e,es0,hb,_⟩:=I.env j _ q;rw[o.2]at e;cases e;exact ⟨_,hb⟩
noncomputable def t9:Option Cell→Cell |some (.val d)=>.val d |_=>.no
noncomputable def capt(ρ:En)(js:List Nat):En:=js.map fun j=>t9 ρ[j]?
noncomputable def j8(te:TE2)(js:List Nat)(ρ:En)(q:List D→Dk→Prop):List D→List D→Dk→Prop
 | [],acc,δ=>q acc δ
 |d::ds,acc,δ=>te (fun _ _ _ _=>False) (.val d::capt ρ js) δ fun e _ δ1=>acc.length<1000∧j8 te js ρ q ds (acc++[e]) δ1
end
section
variable{X:Cx}{Y:Y2}{W:XW}{x:Str}{px pos:Pos}{elt iter:Expr}{js:List Nat}{scope:Scope}{te:TE2}{ti:TI2}
noncomputable def teY(K:Frag)(te:TE2):TE:=fun σ H Q=>∃Y',upE K Y' W0 te σ H Q
variable{i:Nat}{y:Str}{py spos:Pos}
noncomputable def t2Comp(ti:TI2)(js:List Nat)(te:TE2):TE2:=fun x ρ δ q=>ti x ρ δ fun ds ρ1 δ1=>j8 te js ρ1 (fun acc δ2=>q (.lst acc) ρ1 δ2) ds [] δ1
noncomputable def t2OwnC(i:Nat)(ti:TI2)(js:List Nat)(te:TE2):TS2:=fun E ρ δ=>ti E.xc ρ δ fun ds ρ1 δ1=>j8 te js ρ1 (fun acc δ2=>E.nx (ρ1.set i (.own acc)) δ2) ds [] δ1
end
section
variable{X:Cx}{Y:Y2}{W:XW}{pos:Pos}
theorem I2.deck{K:Frag}{F H:Hp}{σ:St}{ρ:En}{p:Addr}{ds:List D}{vs:List V}(I:I2 K Y F H σ ρ none)(h:H p=none)(r:Reps K F ds vs):I2 K Y F (upd H p (.lst vs)) σ ρ (some (p,ds)):=by
 have hF:F p=none:=I.sub.free h;have h0:=I.ran.fresh h;have n0:Y.δ₀=none:=by
  cases hd:Y.δ₀ with
  |none=>rfl
  |some q=>
   obtain ⟨a,gs⟩:=q;obtain ⟨es,z⟩:=I.ran.dto.1 a gs hd;cases z
 refine ⟨⟨fun b u e=>by rw[u0 (v0 e hF)];exact I.sub _ _ e,fun a es e=>(by cases e;exact ⟨hF,vs,g0,r⟩),fun b u e f=>by rw[u0 (v0 e h0)];exact I.ran.keep b u e f,I.ran.f0,I.ran.fnew,⟨fun a gs e=>(by rw[n0]at e;cases e),fun a gs e _=>(by cases e;exact h0)⟩⟩,fun j c e=>?_,I.len,I.apart,fun j a o b es e=>?_⟩
 ·have w:=I.env j c e;cases c with
  |no=>trivial
  |val d=>exact w
  |own fs=>
   obtain ⟨b,ws,e1,h1,f1,g1,r1⟩:=w;exact ⟨b,ws,e1,by rw[u0 (v0 h1 h)];exact h1,f1,g1,r1⟩
  |obj C fs=>
   obtain ⟨b,dx,ws,e1,es1,h1,h2,f1,f2,g1,g2,r1⟩:=w;exact ⟨b,dx,ws,e1,es1,by rw[u0 (v0 h1 h)];exact h1,by rw[u0 (v0 h2 h)];exact h2,f1,f2,g1,g2,r1⟩
  |ownD fs=>
   obtain ⟨b,ws,e1,h1,f1,g1,r1⟩:=w;exact ⟨b,ws,e1,by rw[u0 (v0 h1 h)];exact h1,f1,g1,r1⟩
 ·cases e;obtain ⟨u,hu⟩:=I.ownAddr o;exact v0 hu h
noncomputable def s0c(ta:TA2):TS2:=fun E ρ δ=>ta E.xc ρ δ fun ds ρ1 δ1=>δ1=none∧ds.length≤1000∧∀p,E.rt (.ref p) (some (p,ds))
theorem e0t{es:List Expr}{ta:TA2}{lpos:Pos}(ha:PA2 X Y W es ta):PS2 X Y W (.Return (some (.List es lpos)) pos) (s0c ta):=ps2 (d0p (j0j ha.go)) fun E1 σ H ⟨F,ρ,δ,E2,I,h,er⟩=>
 ⟨F,ρ,δ,E2.xc,_,I,h,fun ds vs F1 H1 ρ1 δ1 I1 s1 r1 h1=>⟨q0l (by rw[r1.length];exact h1.2.1),fun p hp=>by
  obtain ⟨rfl,_,h2⟩:=h1;exact er.rt _ _ σ F1 _ ρ1 _ (I1.deck hp r1) s1 (rep_ref.mpr rfl) (h2 p)⟩,er.xc⟩
theorem c0y{e:Expr}{o:HO}{d:D}(h:PE X e (fun σ H Q=>∀p,H p=none→Q (.ref p) (upd H p o)))(r:∀F p,Rep X.K (upd F p o) d (.ref p)):PE2 X Y W e (t2C d):=pe2 h fun σ H Q ⟨F,ρ,δ,x,q,I,h,k,kx⟩=>fun p hp=>
 k _ _ _ _ ρ δ (I.alloc hp) (I.grow hp) (r F p) h
noncomputable def countQ(xs:List D)(y:D):Nat:=xs.countP fun z=>eqV (toV z) (toV y)
noncomputable def a0t(ta:TE2)(t:TA2):TE2:=fun x ρ δ q=>ta x ρ δ fun d ρ1 δ1=>match d with
 | .lst xs=>t x ρ1 δ1 fun es ρ2 δ2=>(match es with | [y]=>(i6 y&&xs.all i6)=true∧q (.int (countQ xs y:Nat)) ρ2 δ2 |_=>False)
 |_=>False
end
end DL
namespace DL
open PySem PySem.Spec L2
open PySem.W (XC)
section
variable{X:Cx}{Y:Y2}{W:XW}{pos:Pos}
theorem a0s:PE2 X Y W (.Dict [] [] pos) (t2C (.dic [])):=c0y f0q fun F p=>rep_dic.mpr ⟨p,[],rfl,g0,by unfold RepK;rfl⟩
theorem a0r{i i' p p'}{k v:Int}(hall:([some (Expr.Constant (.int k) i p)]:List (Option Expr)).all (·.isSome)=true:=by rfl):PE2 X Y W (.Dict [some (.Constant (.int k) i p)] [.Constant (.int v) i' p'] pos) (t2C (.dic [(.inl k,.int v)])):=
 c0y (o:=.dK [(.inl k,.int v)]) (i0q (b0r (f0p j0x j0x b0s) hall rfl (by simp) (by show 1≤15;decide)) fun σ H Q h p hp=>⟨g0,[(.inl k,.int v)],rfl,by show 1≤15;decide,by rw[c0m];exact h p hp⟩)
  fun F p=>rep_dic.mpr ⟨p,_,rfl,g0,by unfold RepK;exact ⟨_,[],rfl,rep_int.mpr rfl,by unfold RepK;rfl⟩⟩
end
section
variable(K:Frag)
open PySem.W (kitOne kitAny)
theorem ko{n:String}(h:n∈BT):kitOne K (.type n) (.type "bool")=some (n=="bool")∧kitOne K (.type n) (.type "int")=some (n=="int"||n=="bool")∧
 kitOne K (.type n) (.type "list")=some (n=="list")∧kitOne K (.type n) (.type "tuple")=some (n=="tuple")∧kitAny K (.type n) [.type "list",.type "tuple"]=some (n=="list"||n=="tuple"):=kt_all K h
theorem i0a{d:D}(h:TyD K d)(hp:∀C fs,d≠.ins C fs∧d≠.exc C fs):t0n K d (.ty "bool")=some (match d with | .bl _=>true |_=>false):=by
 cases d with
 |non=>exact (ko K (n:="NoneType") (by decide)).1
 |bl b=>exact (ko K (n:="bool") (by decide)).1
 |int b=>exact (ko K (n:="int") (by decide)).1
 |str b=>exact (ko K (n:="str") (by decide)).1
 |lst b=>exact (ko K (n:="list") (by decide)).1
 |tup b=>exact (ko K (n:="tuple") (by decide)).1
 |scr b=>exact h.elim
 |dic b=>exact (ko K (n:="dict") (by decide)).1
 |dwk b=>exact h.elim
 |ins C b=>exact absurd rfl (hp C b).1
 |exc C b=>exact absurd rfl (hp C b).2
 |ref a=>exact h.elim
 |ty a=>exact h.elim
theorem c0x{d:D}(h:TyD K d)(hp:∀C fs,d≠.ins C fs∧d≠.exc C fs):t0n K d (.ty "int")=some (match d with | .bl _=>true | .int _=>true |_=>false):=by
 cases d with
 |non=>exact (ko K (n:="NoneType") (by decide)).2.1
 |bl b=>exact (ko K (n:="bool") (by decide)).2.1
 |int b=>exact (ko K (n:="int") (by decide)).2.1
 |str b=>exact (ko K (n:="str") (by decide)).2.1
 |lst b=>exact (ko K (n:="list") (by decide)).2.1
 |tup b=>exact (ko K (n:="tuple") (by decide)).2.1
 |scr b=>exact h.elim
 |dic b=>exact (ko K (n:="dict") (by decide)).2.1
 |dwk b=>exact h.elim
 |ins C b=>exact absurd rfl (hp C b).1
 |exc C b=>exact absurd rfl (hp C b).2
 |ref a=>exact h.elim
 |ty a=>exact h.elim
theorem e0s{d:D}(h:TyD K d)(hp:∀C fs,d≠.ins C fs∧d≠.exc C fs):t0n K d (.ty "tuple")=some (match d with | .tup _=>true |_=>false):=by
 cases d with
 |non=>exact (ko K (n:="NoneType") (by decide)).2.2.2.1
 |bl b=>exact (ko K (n:="bool") (by decide)).2.2.2.1
 |int b=>exact (ko K (n:="int") (by decide)).2.2.2.1
 |str b=>exact (ko K (n:="str") (by decide)).2.2.2.1
 |lst b=>exact (ko K (n:="list") (by decide)).2.2.2.1
 |tup b=>exact (ko K (n:="tuple") (by decide)).2.2.2.1
 |scr b=>exact h.elim
 |dic b=>exact (ko K (n:="dict") (by decide)).2.2.2.1
 |dwk b=>exact h.elim
 |ins C b=>exact absurd rfl (hp C b).1
 |exc C b=>exact absurd rfl (hp C b).2
 |ref a=>exact h.elim
 |ty a=>exact h.elim
theorem ko_row{d:D}(h:TyD K d)(hp:∀C fs,d≠.ins C fs∧d≠.exc C fs):t0n K d (.tup [.ty "list",.ty "tuple"])=some (match d with | .lst _=>true | .tup _=>true |_=>false):=by
 cases d with
 |non=>exact (ko K (n:="NoneType") (by decide)).2.2.2.2
 |bl b=>exact (ko K (n:="bool") (by decide)).2.2.2.2
 |int b=>exact (ko K (n:="int") (by decide)).2.2.2.2
 |str b=>exact (ko K (n:="str") (by decide)).2.2.2.2
 |lst b=>exact (ko K (n:="list") (by decide)).2.2.2.2
 |tup b=>exact (ko K (n:="tuple") (by decide)).2.2.2.2
 |scr b=>exact h.elim
 |dic b=>exact (ko K (n:="dict") (by decide)).2.2.2.2
 |dwk b=>exact h.elim
 |ins C b=>exact absurd rfl (hp C b).1
 |exc C b=>exact absurd rfl (hp C b).2
 |ref a=>exact h.elim
 |ty a=>exact h.elim
end
noncomputable def v7:D→Bool
 | .non=>true | .bl _=>true | .int _=>true | .str _=>true | .lst _=>true | .tup _=>true | .dic _=>true |_=>false
theorem s0b{K:Frag}{d:D}(h:v7 d=true):TyD K d∧∀C fs,d≠.ins C fs∧d≠.exc C fs:=by
 cases d with
 |scr b=>cases h
 |dwk b=>cases h
 |ins C b=>cases h
 |exc C b=>cases h
 |ref a=>cases h
 |ty a=>cases h
 |_=>exact ⟨trivial,fun C fs=>⟨(by intro z;cases z),(by intro z;cases z)⟩⟩
noncomputable def i5:D→Int→Int→Bool
 | .int i,lo,hi=>decide (lo≤i)&&decide (i≤hi)
 |_,_,_=>false
end DL
namespace DL
open PySem PySem.Spec L2
section
variable{X:Cx}{Y:Y2}{W:XW}{pos:Pos}{a:Expr}{ta:TE2}
theorem o0j{x:Str}{n:Int}(hm:∃t,X.mg x=some (.int n t))(hg:Gl X x:=by rfl)(hd:(x==("__debug__":Str))=false:=by decide):PE2 X Y W (.Name x pos) (t2C (.int n)):=by
 obtain ⟨t,hm⟩:=hm;exact e2_gi hm ⟨t,rfl⟩ hg hd
theorem e0r(K:Frag){f:Str}(ha:PE2 X Y W a ta)(hK:X.K=K:=by rfl)(hb:attributeBase a f X.env (eval a X.env)=eval a X.env:=by rfl):PE2 X Y W (.Attribute a f pos) (q0g K f ta):=hK▸a0y ha hb
variable{x:Str}{p:Pos}{e:Expr}{te:TE2}
variable{D:Addr}{y n:Str}{np:Pos}{b₀:Stmt}{suite:List Stmt}{rest:List ExceptHandler}{ts:TS2}{tr:XTS2}
theorem m0h(K:Frag)(tp:Top X)(d:XHd K D)(hm:X.mg y=some (.ref D))(hs:∀x,PSs2 (X.hdl x) Y W0 (b₀::suite) ts)(hr:PH2 X Y W rest tr)(hK:X.K=K:=by rfl)(hg:Gl X y:=by rfl)(hdb:(y==("__debug__":Str))=false:=by decide):
 PH2 X Y W (.ExceptHandler (some (.Name y np)) none (b₀::suite) pos::rest) (t2H K D ts tr):=by subst hK;exact a0w tp d hm hs hr hg hdb
theorem h2_asK(K:Frag)(i:Nat)(tp:Top X)(d:XHd K D)(hm:X.mg y=some (.ref D))(hN:X.N.Nodup)(hs:∀x,PSs2 (X.hdl x) Y W0 (b₀::suite) ts)(hr:PH2 X Y W rest tr)(hK:X.K=K:=by rfl)(hi:X.N[i]?=some n:=by rfl)(hk:X.env.scope.names.lookup n=some .local:=by rfl)(hg:Gl X y:=by rfl)(hdb:(y==("__debug__":Str))=false:=by decide):
 PH2 X Y W (.ExceptHandler (some (.Name y np)) (some n) (b₀::suite) pos::rest) (k0o K i D ts tr):=by subst hK;exact h2_as i tp d hm hN hs hr hi hk hg hdb
end
end DL
namespace DL
open L2
theorem o0i{α:Type}(l:List α)(k:Nat):atI l (no_index (OfNat.ofNat k))=l[k]?:=by
 have e:(OfNat.ofNat k:Int)=((k:Nat):Int):=rfl;rw[e];unfold atI ixN;rw[if_pos (by omega)];by_cases h:k<l.length
 ·rw[if_pos (by omega)];show l[((k:Nat):Int).toNat]?=_;rw[Int.toNat_natCast]
 ·rw[if_neg (by omega),List.getElem?_eq_none (by omega)];rfl
theorem o0h(n k:Nat):ixN n (no_index (OfNat.ofNat k))=if k<n then some k else none:=by
 have e:(OfNat.ofNat k:Int)=((k:Nat):Int):=rfl;rw[e];unfold ixN;rw[if_pos (by omega)];by_cases h:k<n
 ·rw[if_pos (by omega),if_pos h,Int.toNat_natCast]
 ·rw[if_neg (by omega),if_neg h]
end DL
namespace DL
open PySem PySem.Spec L2
noncomputable def x0h(g:G2)(body:TS2)(E:End2)(rest:En→Dk→Prop)(d:D)(ρ:En)(δ:Dk):Prop:=match g d ρ with
 |some ρ'=>body {E with nx:=rest,ct:=rest,bk:=E.nx} ρ' δ
 |none=>False
theorem z0q{g:G2}{body:TS2}{E:End2}{ρ:En}{δ:Dk}{ds:List D}(P:Nat→En→Dk→Prop)(h0:P 0 ρ δ)
 (step:∀(i:Nat) (d:D) (ρ:En) (δ:Dk) (rest:En→Dk→Prop),ds[i]?=some d→P i ρ δ→(∀ ρ' δ',P (i+1) ρ' δ'→rest ρ' δ')→x0h g body E rest d ρ δ) (fin:∀ ρ δ,P ds.length ρ δ→E.nx ρ δ):forL g body E ds ρ δ:=by
 have key:∀(k i:Nat) (ρ:En) (δ:Dk),i+k=ds.length→P i ρ δ→forL g body E (ds.drop i) ρ δ:=by
  intro k
  induction k with
  |zero=>
   intro i ρ δ hi p;rw[List.drop_eq_nil_of_le (by omega)];have:i=ds.length:=by omega
   subst this;exact fin ρ δ p
  |succ k ih=>
   intro i ρ δ hi p;have hl:i<ds.length:=by omega
   rw[List.drop_eq_getElem_cons hl];have:=step i ds[i] ρ δ (forL g body E (ds.drop (i+1))) (by simp[hl]) p fun ρ' δ' p'=>ih (i+1) ρ' δ' (by omega) p'
   unfold x0h at this;unfold forL;exact this
 have:=key ds.length 0 ρ δ (by omega) h0
 rwa[List.drop_zero]at this
theorem s0a{te:TE2}{js:List Nat}{ρ:En}{q:List D→Dk→Prop}{ds:List D}{acc:List D}{δ:Dk}(P:Nat→List D→Dk→Prop)(h0:P 0 acc δ)
 (step:∀(i:Nat) (d:D) (acc:List D) (δ:Dk) (rest:List D→Dk→Prop),ds[i]?=some d→P i acc δ→(∀acc' δ',P (i+1) acc' δ'→rest acc' δ')→te (fun _ _ _ _=>False) (.val d::capt ρ js) δ fun e _ δ1=>acc.length<1000∧rest (acc++[e]) δ1)
 (fin:∀acc δ,P ds.length acc δ→q acc δ):j8 te js ρ q ds acc δ:=by
 have key:∀(k i:Nat) (acc:List D) (δ:Dk),i+k=ds.length→P i acc δ→j8 te js ρ q (ds.drop i) acc δ:=by
  intro k
  induction k with
  |zero=>
   intro i acc δ hi p;rw[List.drop_eq_nil_of_le (by omega)];have:i=ds.length:=by omega
   subst this;exact fin acc δ p
  |succ k ih=>
   intro i acc δ hi p;have hl:i<ds.length:=by omega
   rw[List.drop_eq_getElem_cons hl];unfold j8;exact step i ds[i] acc δ (fun acc' δ'=>j8 te js ρ q (ds.drop (i+1)) acc' δ') (by simp[hl]) p fun acc' δ' p'=>ih (i+1) acc' δ' (by omega) p'
 have:=key ds.length 0 acc δ (by omega) h0
 rwa[List.drop_zero]at this
theorem q0d{K:Frag}{F:Hp}:∀ns:List Int,Reps K F (ns.map D.int) (ns.map V.int)
 | []=>Reps.nil
 |n::ns=>Reps.cons (rep_int.mpr rfl) (q0d ns)
noncomputable def k0n:Sp2:=fun ds δ q _=>∃ns:List Int,ds=[.scr (ns.map D.int)]∧ns.length≤63∧δ=none∧∀ δ',q (.bl true) δ'
theorem walk2{l:PySem.W.OpenLaw}{k:Nat}{q:Program}{loose:List Str}{XP:(Str→Option Value)→Heap→Prop}{YP:World→Heap→Prop}{d:DefRec}{K:Params→PySem.W.Frag}{x:Str}(hn:l.most=some 63)(hdf:d.params.defaults=[])(hr:Room k callerA)
 (hY:∀(w:World) (h:Heap),YP w h→(K w.params).In h)
 (F:∀(w:World) (mg:Str→Option Value) (fa:Addr) (h:Heap),(K w.params).In h→h.Ns mainGlobals mg→mg d.name=some (.ref fa)→
  ∃fd:FuncData,(∀(s:Shared) (u:Value),BindsTo s fd ⟨[u],[]⟩ [(x,u)])∧∀base:Heap,(K w.params).In base→base.Ns mainGlobals mg→FnOk l.prog w (K w.params) mg base (CX1 l.prog w) k fa fd [x] (upF (K w.params) k0n)):
 PySem.W.WalkO q loose XP YP l.row.toRowW d [] (fun f vs=>PySem.call f vs):=
 L2.walk_of (n:=63) (k:=k) (x:=x) (CX:=fun w=>CX1 l.prog w) (sp:=fun w=>upF (K w.params) k0n) hn (by decide) hdf hr hY F
  (fun w H a ns hl _ hS=>⟨H,[.scr (ns.map D.int)],none,fun d _=>d=.bl true,fun _ _ _=>False,Same.refl H,fun a ds e=>(by cases e),Reps.cons (rep_scr.mpr ⟨a,_,rfl,hS,q0d ns⟩) Reps.nil,⟨ns,rfl,hl,rfl,fun _=>rfl⟩,
   fun d v F' H' δ' R r e=>(by subst e;exact rep_bl.mp r),fun _ _ _ _ _ _ _ _ z=>z⟩)
  fun w H s e s' ⟨_,_,_,_,_,_,_,_,_,_,_,_,_,_,z⟩=>z
end DL
namespace L2
open PySem PySem.Spec PyProof.Rows
section
variable{prog:Program}{w:World}{A:Around}{E:Value→Shared→Prop}{s:Shared}
theorem nx_tup{j t:Addr}{i:Nat}{xs:Array Value}{x:Value}{Q:Value→Shared→Prop}(hj:s.heap.IsTupleIter j t i)(ht:s.heap.IsTuple t xs)(hx:xs[i]?=some x)
 (hQ:∀h',h'.IsTupleIter j t (i+1)→Heap.SameBut j s.heap h'→Q x {s with heap:=h'}):wpAny (model prog w) A (Builtin.SmallTypes.nextOf (.ref j)) Q E s:=by
 obtain ⟨o,ho,hc,hd⟩:=id hj;obtain ⟨ot,hot,_,nt,hdt⟩:=ht;unfold Builtin.SmallTypes.nextOf;refine wpAny_bind (wpAny_callSpecial?_slot (name:=Str.ofString "__next__") hj.typeIs F.slot_tuple_iterator_next (wpAny_call_entry F.slot_tuple_iterator_next hj.typeIs F.entry_tuple_iterator_next ?_ (F.args_tuple_iterator_next_1 _)));show wpAny _ _ (field (.ref j) 0 >>= _) _ _ s;refine wpAny_bind (wpAny_field ho hd (x:=.ref t) rfl ?_);show wpAny _ _ (if ((Value.ref t)==Value.none)=true then _ else _) _ _ s;rw[if_neg (show ¬(((Value.ref t)==Value.none)=true)from Bool.false_ne_true)];show wpAny _ _ (field (.ref j) 1 >>= _) _ _ s;refine wpAny_bind (wpAny_field ho hd (x:=(.int i 0)) rfl ?_);refine wpAny_bind (m:=seqItems? (.ref t)) (wpAny_seqItems hot hdt ?_);simp only[Int.toNat_natCast,hx];refine wpAny_bind (wpAny_setField ho hd (by simp) (wpAny_pure ⟨x,rfl,wpAny_pure (hQ _ ⟨_,Heap.get?_update_self _ ho (Obj.isFreed_of_fields (Obj.data_mapFields hd _)),(Obj.cls_mapFields ..).trans hc,?_⟩ (Heap.SameBut.update ..))⟩));rw[Obj.data_mapFields hd];simp[rawInt]
theorem k0m{j t:Addr}{i:Nat}{xs:Array Value}{Q:Value→Shared→Prop}(hh:A.handled=none)(hj:s.heap.IsTupleIter j t i)(ht:s.heap.IsTuple t xs)(hx:xs[i]?=none)
 (hE:∀h' e,Heap.ExtBut j s.heap h'→(∃o,h'.get? e=some o∧o.cls=.type "StopIteration")→E (.ref e) {s with heap:=h'}):wpAny (model prog w) A (Builtin.SmallTypes.nextOf (.ref j)) Q E s:=by
 obtain ⟨o,ho,hc,hd⟩:=id hj;obtain ⟨ot,hot,_,nt,hdt⟩:=ht;unfold Builtin.SmallTypes.nextOf;refine wpAny_bind (wpAny_callSpecial?_slot (name:=Str.ofString "__next__") hj.typeIs F.slot_tuple_iterator_next (wpAny_call_entry F.slot_tuple_iterator_next hj.typeIs F.entry_tuple_iterator_next ?_ (F.args_tuple_iterator_next_1 _)));show wpAny _ _ (field (.ref j) 0 >>= _) _ _ s;refine wpAny_bind (wpAny_field ho hd (x:=.ref t) rfl ?_);show wpAny _ _ (if ((Value.ref t)==Value.none)=true then _ else _) _ _ s;rw[if_neg (show ¬(((Value.ref t)==Value.none)=true)from Bool.false_ne_true)];show wpAny _ _ (field (.ref j) 1 >>= _) _ _ s;refine wpAny_bind (wpAny_field ho hd (x:=(.int i 0)) rfl ?_);refine wpAny_bind (m:=seqItems? (.ref t)) (wpAny_seqItems hot hdt ?_);simp only[Int.toNat_natCast,hx];refine wpAny_bind (wpAny_rule (wpAny_bind (wpAny_setField ho hd (by simp) (wpAny_bind ?_))));simp only[newExc,newTuple];refine wpAny_bind (wpAny_newObj_type (wpAny_bind (m:=firstArgMember _ _) (wpAny_of_eq (a:=Value.none) (by first |rfl |(simp only[firstArgMember];rfl)) (wpAny_newObj_type ?_ (by size_fits)))) (by size_fits));simp only[raiseNew];refine wpAny_bind (wpAny_handled ?_)
 first |rw[show A.in1.handled=none from hh]|rw[hh]
 exact wpAny_bind (wpAny_pure (wpAny_throw (hE _ _ (((Heap.SameBut.update ..).extBut.push _).push _) ⟨_,Heap.get?_push_size _ rfl,rfl⟩)))
end
theorem h0z{prog:Program}{w:World}{A:Around}(hh:A.handled=none)(j t:Addr)(ne:t≠j)(xs:Array Value):
 Draws prog w A j [j,t] xs.size (fun i v=>xs[i]?=some v) (fun i h=>h.IsTupleIter j t i∧h.IsTuple t xs)where
 live:=fun _ _ st=>let ⟨o,ho,_⟩:=st.1;⟨o,ho⟩
 frame:=fun _ _ _ st k=>⟨st.1.at fun o e=>k j (by simp) o e,let ⟨o,e,r⟩:=st.2;⟨o,k t (by simp) o e,r⟩⟩
 item:=fun i s Q E hi st hQ=>nx_tup st.1 st.2 (x:=xs[i]) (by simp[hi]) fun h' st' sb=>hQ _ h' s.toks (by simp[hi]) ⟨st',let ⟨o,e,r⟩:=st.2;⟨o,sb.extBut _ _ ne e,r⟩⟩ sb
 done:=fun s Q E st hE=>k0m hh st.1 st.2 (by simp) hE
noncomputable def SqAt(b:Bool)(h:Heap)(l:Addr)(xs:Array Value):Prop:=match b with |true=>h.IsTuple l xs |false=>h.IsList l xs
noncomputable def ItAt(b:Bool)(h:Heap)(j l:Addr)(i:Nat):Prop:=match b with |true=>h.IsTupleIter j l i |false=>h.IsListIter j l i
noncomputable def itN(b:Bool):String:=match b with |true=>"tuple_iterator" |false=>"list_iterator"
theorem o8(b:Bool){prog:Program}{w:World}{A:Around}(hh:A.handled=none)(j l:Addr)(ne:l≠j)(xs:Array Value):
 Draws prog w A j [j,l] xs.size (fun i v=>xs[i]?=some v) (fun i h=>ItAt b h j l i∧SqAt b h l xs):=by
 cases b
 ·exact Draws.list hh j l ne xs
 ·exact h0z hh j l ne xs
theorem ItAt.obj{b:Bool}{h:Heap}{j l:Addr}{i:Nat}(q:ItAt b h j l i):∃o,h.get? j=some o∧o.cls=.type (itN b)∧o.data=.fields #[.ref l,.int i 0]:=by
 cases b
 ·obtain ⟨o,e,c,d⟩:=q;exact ⟨o,e,c,d⟩
 ·obtain ⟨o,e,c,d⟩:=q;exact ⟨o,e,c,d⟩
theorem ItAt.of{b:Bool}{h:Heap}{j l:Addr}{i:Nat}{o:Obj}(e:h.get? j=some o)(c:o.cls=.type (itN b))(d:o.data=.fields #[.ref l,.int i 0]):ItAt b h j l i:=by
 cases b
 ·exact ⟨o,e,c,d⟩
 ·exact ⟨o,e,c,d⟩
theorem ItAt.stay{b:Bool}{h h':Heap}{j l:Addr}{i:Nat}(q:ItAt b h j l i)(k:∀o,h.get? j=some o→h'.get? j=some o):ItAt b h' j l i:=by
 obtain ⟨o,e,c,d⟩:=q.obj;exact .of (k o e) c d
theorem SqAt.obj{b:Bool}{h:Heap}{l:Addr}{xs:Array Value}(q:SqAt b h l xs):∃o,h.get? l=some o∧o.cls=.type (if b=true then "tuple" else "list")∧∃n,o.data=.seq xs n:=by
 cases b
 ·obtain ⟨o,e,c,n,d⟩:=q;exact ⟨o,e,c,n,d⟩
 ·obtain ⟨o,e,c,n,d⟩:=q;exact ⟨o,e,c,n,d⟩
theorem SqAt.stay{b:Bool}{h h':Heap}{l:Addr}{xs:Array Value}(q:SqAt b h l xs)(k:∀o,h.get? l=some o→h'.get? l=some o):SqAt b h' l xs:=by
 cases b
 ·obtain ⟨o,e,c,n,d⟩:=q;exact ⟨o,k o e,c,n,d⟩
 ·obtain ⟨o,e,c,n,d⟩:=q;exact ⟨o,k o e,c,n,d⟩
theorem u0h{b:Bool}{prog:Program}{w:World}{A:Around}{E:Value→Shared→Prop}{s:Shared}{l:Addr}{xs:Array Value}{Q:Value→Shared→Prop}(hl:SqAt b s.heap l xs)
 (h:Q (.ref s.heap.objs.size) {s with heap:=s.heap.push {cls:=.type (itN b),data:=.fields #[.ref l,.int 0 0]}}):wpAny (model prog w) A (pyIter (.ref l)) Q E s:=by
 cases b
 ·exact wpAny_pyIter_list hl h
 ·exact wpAny_pyIter_tuple hl h
end L2
namespace L2
open PySem PySem.Spec PyProof.Rows
open AutoSeq1 (wpAny_loadPart')
noncomputable abbrev enH(b:Bool)(h:Heap)(l:Addr):Heap:=h.push {cls:=.type (itN b),data:=.fields #[.ref l,.int 0 0]}
theorem h0y(l:Addr)(xs:Array Value)(n:Nat)(dct:Option Addr)(sl:Array (Option Value)):
 Meets (Builtin.«enumerate.__new__» ⟨[.type "enumerate",.ref l],[]⟩) (fun _ R s=>s.heap.get? l=some {cls:=.type "tuple",dict:=dct,data:=.seq xs n,slots:=sl}∧
  R (.ok (.ret (.ref (enH true s.heap l).objs.size))) {s with heap:=(enH true s.heap l).push {cls:=.type "enumerate",data:=.fields #[.none,.bool false,.ref s.heap.objs.size,rawInt 0,.none,.none]}}):=
 .of_wp fun prog w A R s h=>by
  obtain ⟨hp,g,d,tk,os⟩:=s;obtain ⟨hl,h⟩:=h;have hsub:=sub_enumerate;have hT:Heap.IsTuple (Shared.heap ⟨hp,g,d,tk,os⟩) l xs:=⟨_,hl,rfl,n,rfl⟩
  wp_walk using wpAny_loadPart' hl
  refine wpAny_stack_any fun st=>wpAny_pure ?_
  split
  ·rename_i c _ _ _ _ _;cases (c==Value.type "enumerate")<;>(wp_walk using wpAny_loadPart' hl,wpAny_pyIter_tuple hT;exact ⟨_,rfl,h⟩)
  ·wp_walk using wpAny_loadPart' hl,wpAny_pyIter_tuple hT
   exact ⟨_,rfl,h⟩
section
variable{prog:Program}{w:World}{A:Around}{E:Value→Shared→Prop}{s:Shared}
theorem e0q{l:Addr}{xs:Array Value}{Q:Value→Shared→Prop}(hT:s.heap.IsTuple l xs)
 (h:∀h',IsEnum h' (s.heap.objs.size+1) s.heap.objs.size 0 .none→h'.IsTupleIter s.heap.objs.size l 0→(∀b o,s.heap.get? b=some o→h'.get? b=some o)→Q (.ref (s.heap.objs.size+1)) {s with heap:=h'}):
 wpAny (model prog w) A (call (.type "enumerate") [.ref l]) Q E s:=by
 obtain ⟨⟨c,dct,dt,sl⟩,hl,hc,n,hd⟩:=hT;cases (show c=.type "tuple" from hc);cases (show dt=.seq xs n from hd);refine callType_new F.called_enumerate (by decide) (F.typeCall_enumerate_1 _) (F.newCall_enumerate_1 _) (fun obj=>F.args_object_init_2 obj _) F.entry_enumerate_new (h0y l xs n dct sl) ⟨hl,?_⟩;have hz:(enH true s.heap l).objs.size=s.heap.objs.size+1:=Heap.size_push ..;have he:=Heap.get?_push_size (enH true s.heap l) (o:={cls:=.type "enumerate",data:=.fields #[.none,.bool false,.ref s.heap.objs.size,rawInt 0,.none,.none]}) rfl;show _∧_;rw[hz]at he ⊢;exact ⟨⟨_,he,rfl⟩,h _ he ⟨_,Heap.get?_push_of_some _ (Heap.get?_push_size _ rfl),rfl,rfl⟩ fun b o x=>Heap.get?_push_of_some _ (Heap.get?_push_of_some _ x)⟩
theorem a0q{b:Bool}{l:Addr}{xs:Array Value}{Q:Value→Shared→Prop}(hq:SqAt b s.heap l xs)
 (h:∀h',IsEnum h' (s.heap.objs.size+1) s.heap.objs.size 0 .none→ItAt b h' s.heap.objs.size l 0→(∀b o,s.heap.get? b=some o→h'.get? b=some o)→Q (.ref (s.heap.objs.size+1)) {s with heap:=h'}):
 wpAny (model prog w) A (call (.type "enumerate") [.ref l]) Q E s:=by
 cases b
 ·exact call_enumerate_list hq fun h' a1 a2 _ a4=>h h' a1 a2 a4
 ·exact e0q hq fun h' a1 a2 a4=>h h' a1 a2 a4
end
noncomputable abbrev zp1(b:Bool)(h:Heap)(l:Addr):Heap:=h.push {cls:=.type (itN b),data:=.fields #[.ref l,.int 0 0]}
noncomputable abbrev zp2(b b':Bool)(h:Heap)(l l':Addr):Heap:=(zp1 b h l).push {cls:=.type (itN b'),data:=.fields #[.ref l',.int 0 0]}
noncomputable abbrev zp3(b b':Bool)(h:Heap)(l l':Addr):Heap:=(zp2 b b' h l l').push {cls:=.type "tuple",data:=.seq #[.ref h.objs.size,.ref (zp1 b h l).objs.size]}
noncomputable abbrev zp4(b b':Bool)(h:Heap)(l l':Addr):Heap:=(zp3 b b' h l l').push {cls:=.type "tuple",data:=.seq #[.none,.none]}
noncomputable abbrev zp5(b b':Bool)(h:Heap)(l l':Addr):Heap:=(zp4 b b' h l l').push {cls:=.type "zip",data:=.fields #[.none,.bool false,.bool false,.ref (zp2 b b' h l l').objs.size,.ref (zp3 b b' h l l').objs.size]}
theorem e0p(b b':Bool)(l l':Addr)(xs ys:Array Value):
 Meets (Builtin.«zip.__new__» ⟨[.type "zip",.ref l,.ref l'],[]⟩) (fun _ R s=>SqAt b s.heap l xs∧SqAt b' s.heap l' ys∧R (.ok (.ret (.ref (zp4 b b' s.heap l l').objs.size))) {s with heap:=zp5 b b' s.heap l l'}):=
 .of_wp fun prog w A R s h=>by
  obtain ⟨hp,g,d,tk,os⟩:=s;obtain ⟨h1,h2,h⟩:=h;have hsub:=sub_zip;have q1:SqAt b (Shared.heap ⟨hp,g,d,tk,os⟩) l xs:=h1;have q2:SqAt b' (Shared.heap ⟨zp1 b hp l,g,d,tk,os⟩) l' ys:=h2.stay fun o e=>Heap.get?_push_of_some _ e
  wp_walk using u0h q1,u0h q2
  exact ⟨_,rfl,h⟩
section
variable{prog:Program}{w:World}{A:Around}{E:Value→Shared→Prop}{s:Shared}
theorem a0p{b b':Bool}{l l':Addr}{xs ys:Array Value}{Q:Value→Shared→Prop}(h1:SqAt b s.heap l xs)(h2:SqAt b' s.heap l' ys)
 (h:∀h',IsZip h' (s.heap.objs.size+4) (s.heap.objs.size+2) (s.heap.objs.size+3) .none→IsPair h' (s.heap.objs.size+2) (.ref s.heap.objs.size) (.ref (s.heap.objs.size+1))→IsPair h' (s.heap.objs.size+3) .none .none→
  ItAt b h' s.heap.objs.size l 0→ItAt b' h' (s.heap.objs.size+1) l' 0→(∀c o,s.heap.get? c=some o→h'.get? c=some o)→Q (.ref (s.heap.objs.size+4)) {s with heap:=h'}):
 wpAny (model prog w) A (call (.type "zip") [.ref l,.ref l']) Q E s:=by
 refine callType_new F.called_zip (by decide) (F.typeCall_zip_2 _ _) (F.newCall_zip_2 _ _) (fun obj=>F.args_object_init_3 obj _ _) F.entry_zip_new (e0p b b' l l' xs ys) ⟨h1,h2,?_⟩;have z1:(zp1 b s.heap l).objs.size=s.heap.objs.size+1:=Heap.size_push ..;have z2:(zp2 b b' s.heap l l').objs.size=s.heap.objs.size+2:=by rw[Heap.size_push,z1]
 have z3:(zp3 b b' s.heap l l').objs.size=s.heap.objs.size+3:=by rw[Heap.size_push,z2]
 have z4:(zp4 b b' s.heap l l').objs.size=s.heap.objs.size+4:=by rw[Heap.size_push,z3]
 have u:∀{h:Heap} {o} {c u},h.get? c=some u→(h.push o).get? c=some u:=fun e=>Heap.get?_push_of_some _ e
 have g5:(zp5 b b' s.heap l l').get? (zp4 b b' s.heap l l').objs.size=some _:=Heap.get?_push_size _ rfl;have g4:(zp5 b b' s.heap l l').get? (zp3 b b' s.heap l l').objs.size=some _:=u (Heap.get?_push_size _ rfl);have g3:(zp5 b b' s.heap l l').get? (zp2 b b' s.heap l l').objs.size=some _:=u (u (Heap.get?_push_size _ rfl));have g2:(zp5 b b' s.heap l l').get? (zp1 b s.heap l).objs.size=some _:=u (u (u (Heap.get?_push_size _ rfl)));have g1:(zp5 b b' s.heap l l').get? s.heap.objs.size=some _:=u (u (u (u (Heap.get?_push_size _ rfl))));show _∧_;rw[z2,z3,z4]at g5;rw[z1,z2]at g3;rw[z3]at g4;rw[z1]at g2;rw[z4];exact ⟨⟨_,g5,rfl⟩,h _ g5 g3 g4 (.of g1 rfl rfl) (.of g2 rfl rfl) fun c o x=>u (u (u (u (u x))))⟩
structure ZA(z TI TO j1 j2:Addr):Prop where
 a:TI≠z
 b:TO≠z
 c:j1≠z
 d:j2≠z
 e:TI≠TO
 f:TI≠j1
 g:TI≠j2
 h:TO≠j1
 i:TO≠j2
 j:j1≠j2
theorem a0o{z TI TO j1 j2:Addr}{f1 f2:List Addr}{n1 n2 k:Nat}{P1 P2:Nat→Value→Prop}{S1 S2:Nat→Heap→Prop}{a0 b0:Value}{Q:Value→Shared→Prop}(D1:Draws prog w A j1 f1 n1 P1 S1)(D2:Draws prog w A j2 f2 n2 P2 S2)
 (Z:ZA z TI TO j1 j2) (o1:∀c∈f1,c≠z∧c≠TO∧c≠j2) (o2:∀c∈f2,c≠z∧c≠TO∧c≠j1)
 (hz:IsZip s.heap z TI TO .none) (hTI:IsPair s.heap TI (.ref j1) (.ref j2)) (hTO:IsPair s.heap TO a0 b0) (s1:S1 k s.heap) (s2:S2 k s.heap) (l1:k<n1) (l2:k<n2)
 (hQ:∀x y h' tk,P1 k x→P2 k y→IsZip h' z TI TO (rawInt s.heap.objs.size)→IsPair h' TO x y→S1 (k+1) h'→S2 (k+1) h'→IsPair h' s.heap.objs.size x y→
  (∀c o,c≠z→c≠TO→c≠j1→c≠j2→s.heap.get? c=some o→h'.get? c=some o)→Q (.ref s.heap.objs.size) {s with heap:=h',toks:=tk}):
 wpAny (model prog w) A (Builtin.«zip.__next__» ⟨[.ref z],[]⟩) (fun fin s'=>∃v,fin=.done (.ret v)∧Q v s') E s:=by
 obtain ⟨hp,ge,dr,tk0,os⟩:=s;show wpAny _ _ (field (.ref z) 2 >>= _) _ _ _;refine wpAny_bind (wpAny_field hz rfl (x:=.bool false) rfl ?_);show wpAny _ _ (field (.ref z) 3 >>= _) _ _ _;refine wpAny_bind (wpAny_field hz rfl (x:=.ref TI) rfl (wpAny_bind (wpAny_seqItems hTI rfl ?_)));show wpAny _ _ (Builtin.SmallTypes.ownedTupleIsFree (.ref z) >>= _) _ _ _;refine wpAny_bind ?_;unfold Builtin.SmallTypes.ownedTupleIsFree;refine wpAny_bind (wpAny_field hz rfl (x:=.none) rfl (wpAny_pure ?_));simp only[if_true];refine wpAny_bind (wpAny_rule (wpAny_bind (wpAny_field hz rfl (x:=.ref TO) rfl (wpAny_bind (wpAny_setField_rec hz (by simp) fun h₁ hz₁ hs₁=>?_)))));replace hz₁:IsZip h₁ z TI TO .ellipsis:=hz₁;replace hs₁:Heap.SameBut z hp h₁:=hs₁;refine wpAny_bind ?_;simp only[List.zipIdx_cons,List.zipIdx_nil,List.forIn_cons,List.forIn_nil];refine wpAny_bind (wpAny_bind (wpAny_onRaise ?_));show wpAny _ _ (Builtin.SmallTypes.nextOf (.ref j1) >>= _) _ _ _;have s1₁:S1 k h₁:=D1.frame _ _ _ s1 fun c hc o e=>hs₁.extBut c o (o1 c hc).1 e
 refine wpAny_bind (D1.item k ⟨h₁,ge,dr,tk0,os⟩ _ _ l1 s1₁ fun x h₂ t₂ px s1₂ hs₂=>wpAny_pure ?_);replace hs₂:Heap.SameBut j1 h₁ h₂:=hs₂;have hTO₂:IsPair h₂ TO a0 b0:=hs₂.extBut _ _ Z.h (hs₁.extBut _ _ Z.b hTO);refine wpAny_bind (wpAny_seqItems hTO₂ rfl (wpAny_bind (wpAny_updateSeq_pair hTO₂ fun h₃ hTO₃ hs₃=>?_)));replace hTO₃:IsPair h₃ TO x b0:=hTO₃;replace hs₃:Heap.SameBut TO h₂ h₃:=hs₃;refine wpAny_bind (wpAny_letGo (wpAny_pure (wpAny_bind (wpAny_bind (wpAny_onRaise ?_)))));show wpAny _ _ (Builtin.SmallTypes.nextOf (.ref j2) >>= _) _ _ _;have s2₃:S2 k h₃:=D2.frame _ _ _ s2 fun c hc o e=>hs₃.extBut c o (o2 c hc).2.1 (hs₂.extBut c o (o2 c hc).2.2 (hs₁.extBut c o (o2 c hc).1 e))
 refine wpAny_bind (D2.item k ⟨h₃,ge,dr,t₂,os⟩ _ _ l2 s2₃ fun y h₄ t₄ py s2₄ hs₄=>wpAny_pure ?_);replace hs₄:Heap.SameBut j2 h₃ h₄:=hs₄;have hTO₄:IsPair h₄ TO x b0:=hs₄.extBut _ _ Z.i hTO₃;refine wpAny_bind (wpAny_seqItems hTO₄ rfl (wpAny_bind (wpAny_updateSeq_pair hTO₄ fun h₅ hTO₅ hs₅=>?_)));replace hTO₅:IsPair h₅ TO x y:=hTO₅;replace hs₅:Heap.SameBut TO h₄ h₅:=hs₅;refine wpAny_bind (wpAny_letGo (wpAny_pure (wpAny_pure (wpAny_bind (wpAny_seqItems hTO₅ rfl (wpAny_bind (wpAny_newTuple ?_)))))));have hsz:h₅.objs.size=hp.objs.size:=by rw[hs₅.1,hs₄.1,hs₃.1,hs₂.1,hs₁.1]
 have hz₅:IsZip h₅ z TI TO .ellipsis:=hs₅.extBut _ _ Z.b.symm (hs₄.extBut _ _ Z.d.symm (hs₃.extBut _ _ Z.b.symm (hs₂.extBut _ _ Z.c.symm hz₁)));have hk₅:∀c o,c≠z→c≠TO→c≠j1→c≠j2→hp.get? c=some o→h₅.get? c=some o:=fun c o c1 c2 c3 c4 e=>
  hs₅.extBut _ _ c2 (hs₄.extBut _ _ c4 (hs₃.extBut _ _ c2 (hs₂.extBut _ _ c3 (hs₁.extBut _ _ c1 e))))
 have hzlt:z<h₅.objs.size:=Heap.lt_size hz₅;have s1₅:S1 (k+1) h₅:=D1.frame _ _ _ s1₂ fun c hc o e=>hs₅.extBut c o (o1 c hc).2.1 (hs₄.extBut c o (o1 c hc).2.2 (hs₃.extBut c o (o1 c hc).2.1 e))
 have s2₅:S2 (k+1) h₅:=D2.frame _ _ _ s2₄ fun c hc o e=>hs₅.extBut c o (o2 c hc).2.1 e
 show wpAny _ _ (Builtin.SmallTypes.ownedTupleHandOut (.ref z) (.ref h₅.objs.size) >>= _) _ _ _;refine wpAny_bind ?_;unfold Builtin.SmallTypes.ownedTupleHandOut;have hz₆:IsZip (h₅.push {cls:=.type "tuple",data:=.seq #[x,y]}) z TI TO .ellipsis:=Heap.get?_push_of_some _ hz₅;refine wpAny_bind (wpAny_setField_rec hz₆ (by simp) fun h₇ hz₇ hs₇=>?_);replace hz₇:IsZip h₇ z TI TO (rawInt h₅.objs.size):=hz₇;refine wpAny_setField_rec hz₇ (by simp) fun h₈ hz₈ hs₈=>?_
 replace hz₈:IsZip h₈ z TI TO (rawInt h₅.objs.size):=hz₈;have up:∀c o,c≠z→h₅.get? c=some o→h₈.get? c=some o:=fun c o c1 e=>hs₈.extBut _ _ c1 (hs₇.extBut _ _ c1 (Heap.get?_push_of_some _ e))
 have hT₈:IsPair h₈ h₅.objs.size x y:=hs₈.extBut _ _ (Nat.ne_of_gt hzlt) (hs₇.extBut _ _ (Nat.ne_of_gt hzlt) (Heap.get?_push_size _ rfl));rw[hsz]at hz₈ hT₈;refine wpAny_pure ⟨_,rfl,?_⟩;show Q (.ref h₅.objs.size) _;rw[hsz];exact hQ x y h₈ t₄ px py hz₈ (up _ _ Z.b hTO₅) (D1.frame _ _ _ s1₅ fun c hc o e=>up c o (o1 c hc).1 e) (D2.frame _ _ _ s2₅ fun c hc o e=>up c o (o2 c hc).1 e) hT₈ fun c o c1 c2 c3 c4 e=>up c o c1 (hk₅ c o c1 c2 c3 c4 e)
end
end L2
namespace L2
open PySem PySem.Spec PyProof.Rows
section
variable{prog:Program}{w:World}{A:Around}{E:Value→Shared→Prop}{s:Shared}
theorem zp_end{z TI TO j1 j2:Addr}{f1 f2:List Addr}{n1 n2 k:Nat}{P1 P2:Nat→Value→Prop}{S1 S2:Nat→Heap→Prop}{a0 b0:Value}{Q:Fin→Shared→Prop}(D1:Draws prog w A j1 f1 n1 P1 S1)(D2:Draws prog w A j2 f2 n2 P2 S2)
 (Z:ZA z TI TO j1 j2) (o1:∀c∈f1,c≠z∧c≠TO∧c≠j2) (o2:∀c∈f2,c≠z∧c≠TO∧c≠j1)
 (hz:IsZip s.heap z TI TO .none) (hTI:IsPair s.heap TI (.ref j1) (.ref j2)) (hTO:IsPair s.heap TO a0 b0) (s1:S1 k s.heap) (s2:S2 k s.heap) (le:k=n1∨(k<n1∧k=n2))
 (hE:∀h' e tk,(∀c o,c≠z→c≠TO→c≠j1→c≠j2→s.heap.get? c=some o→h'.get? c=some o)→(∃o,h'.get? e=some o∧o.cls=.type "StopIteration")→E (.ref e) {s with heap:=h',toks:=tk}):
 wpAny (model prog w) A (Builtin.«zip.__next__» ⟨[.ref z],[]⟩) Q E s:=by
 obtain ⟨hp,ge,dr,tk0,os⟩:=s;show wpAny _ _ (field (.ref z) 2 >>= _) _ _ _;refine wpAny_bind (wpAny_field hz rfl (x:=.bool false) rfl ?_);show wpAny _ _ (field (.ref z) 3 >>= _) _ _ _;refine wpAny_bind (wpAny_field hz rfl (x:=.ref TI) rfl (wpAny_bind (wpAny_seqItems hTI rfl ?_)));show wpAny _ _ (Builtin.SmallTypes.ownedTupleIsFree (.ref z) >>= _) _ _ _;refine wpAny_bind ?_;unfold Builtin.SmallTypes.ownedTupleIsFree;refine wpAny_bind (wpAny_field hz rfl (x:=.none) rfl (wpAny_pure ?_));simp only[if_true];refine wpAny_bind (wpAny_rule (wpAny_bind (wpAny_field hz rfl (x:=.ref TO) rfl (wpAny_bind (wpAny_setField_rec hz (by simp) fun h₁ hz₁ hs₁=>?_)))));replace hz₁:IsZip h₁ z TI TO .ellipsis:=hz₁;replace hs₁:Heap.SameBut z hp h₁:=hs₁;refine wpAny_bind ?_;simp only[List.zipIdx_cons,List.zipIdx_nil,List.forIn_cons,List.forIn_nil];refine wpAny_bind (wpAny_bind (wpAny_onRaise ?_));show wpAny _ _ (Builtin.SmallTypes.nextOf (.ref j1) >>= _) _ _ _;have s1₁:S1 k h₁:=D1.frame _ _ _ s1 fun c hc o e=>hs₁.extBut c o (o1 c hc).1 e
 rcases le with rfl |⟨l1,rfl⟩
 ·refine wpAny_bind (D1.done ⟨h₁,ge,dr,tk0,os⟩ _ _ s1₁ fun h₂ e hs₂ ⟨oe,hoe,hce⟩=>?_);replace hs₂:Heap.ExtBut j1 h₁ h₂:=hs₂;have hz₂:IsZip h₂ z TI TO .ellipsis:=hs₂ _ _ Z.c.symm hz₁;have hez:e≠z:=fun q=>by subst q;rw[hz₂]at hoe;cases hoe;simp at hce
  refine wpAny_setField_rec hz₂ (by simp) fun h₃ _ hs₃=>hE h₃ e tk0 (fun c o c1 _ c3 _ q=>hs₃.extBut _ _ c1 (hs₂ _ _ c3 (hs₁.extBut _ _ c1 q))) ⟨oe,hs₃.extBut _ _ hez hoe,hce⟩
 ·refine wpAny_bind (D1.item k ⟨h₁,ge,dr,tk0,os⟩ _ _ l1 s1₁ fun x h₂ t₂ px s1₂ hs₂=>wpAny_pure ?_);replace hs₂:Heap.SameBut j1 h₁ h₂:=hs₂;have hTO₂:IsPair h₂ TO a0 b0:=hs₂.extBut _ _ Z.h (hs₁.extBut _ _ Z.b hTO);refine wpAny_bind (wpAny_seqItems hTO₂ rfl (wpAny_bind (wpAny_updateSeq_pair hTO₂ fun h₃ hTO₃ hs₃=>?_)));replace hs₃:Heap.SameBut TO h₂ h₃:=hs₃;refine wpAny_bind (wpAny_letGo (wpAny_pure (wpAny_bind (wpAny_bind (wpAny_onRaise ?_)))));show wpAny _ _ (Builtin.SmallTypes.nextOf (.ref j2) >>= _) _ _ _;have s2₃:S2 k h₃:=D2.frame _ _ _ s2 fun c hc o e=>hs₃.extBut c o (o2 c hc).2.1 (hs₂.extBut c o (o2 c hc).2.2 (hs₁.extBut c o (o2 c hc).1 e))
  refine wpAny_bind (D2.done ⟨h₃,ge,dr,t₂,os⟩ _ _ s2₃ fun h₄ e hs₄ ⟨oe,hoe,hce⟩=>?_);replace hs₄:Heap.ExtBut j2 h₃ h₄:=hs₄;have hz₄:IsZip h₄ z TI TO .ellipsis:=hs₄ _ _ Z.d.symm (hs₃.extBut _ _ Z.b.symm (hs₂.extBut _ _ Z.c.symm hz₁));have hez:e≠z:=fun q=>by subst q;rw[hz₄]at hoe;cases hoe;simp at hce
  refine wpAny_setField_rec hz₄ (by simp) fun h₅ _ hs₅=>hE h₅ e t₂ (fun c o c1 c2 c3 c4 q=>hs₅.extBut _ _ c1 (hs₄ _ _ c4 (hs₃.extBut _ _ c2 (hs₂.extBut _ _ c3 (hs₁.extBut _ _ c1 q))))) ⟨oe,hs₅.extBut _ _ hez hoe,hce⟩
end
theorem Inv.turnedL{X:Cx}{pins:List (Addr×Obj)}{σ:List (Option V)}{H:Hp}{s:Shared}{h':Heap}{t':Nat}{ch:List Addr}(I:Inv X pins σ H s)(k:∀b o,b∉ch→s.heap.get? b=some o→h'.get? b=some o)(hf:∀b∈ch,FpOk X pins H b):
 Inv X pins σ H {s with heap:=h',toks:=t'}:=by
 have nit:∀b u,H b=some u→b∉ch:=fun b u e z=>by rw[(hf b z).1]at e;cases e
 refine I.step (g':=s.gens) (d':=s.drawn) (ch:=ch) (fun b hb=>?_) (fun b o _ _ hc e _=>k b o hc e) (fun b o _ _ hc e _=>⟨o.slots,k b o hc e⟩) (fun _ _ _ _ n=>n)
  (fun b o hc e=>⟨o,k b o hc e⟩) (fun _ _ e=>e) (fun _ _ _ e=>e) (fun b ps e=>⟨#[],by rw[e];simp⟩) (fun m hm=>?_) (fun b u e=>?_) I.bare
 ·obtain ⟨_,f1,_,f3,f4,f5⟩:=hf b hb;exact ⟨f3,f1,f4,f5⟩
 ·obtain ⟨o,es,ep,ho,r⟩:=hm;exact ⟨o,es,ep,k _ o (fun z=>(hf _ z).2.1 rfl) ho,r⟩
 ·refine (I.hok b u e).stay (fun c v hc q=>k c v ?_ q) (fun _ q=>q) fun _ _ q=>q
  rcases hc with z |z
  ·rw[z];exact nit b u e
  ·exact nit c _ z
noncomputable def Sq(K:PySem.W.Frag)(b:Bool)(H:Hp)(a:Addr)(xs:List V):Prop:=match b with |true=>SqT K H a xs |false=>SqL K H a xs
theorem Inv.sq{b:Bool}{X:Cx}{pins:List (Addr×Obj)}{σ:List (Option V)}{H:Hp}{s:Shared}{a:Addr}{xs:List V}(I:Inv X pins σ H s)(h:Sq X.K b H a xs):∃its:List Value,Vals xs its∧SqAt b s.heap a its.toArray∧xs.length≤sizeLine:=by
 cases b
 ·obtain ⟨its,r,p,z⟩:=I.list h;exact ⟨its,r,p.isList,z⟩
 ·obtain ⟨its,r,p,z⟩:=I.tuple h;exact ⟨its,r,p,z⟩
theorem Inv.sq_inj{b:Bool}{X:Cx}{pins:List (Addr×Obj)}{σ:List (Option V)}{H:Hp}{s:Shared}{a:Addr}{xs ys:List V}(I:Inv X pins σ H s)(h:Sq X.K b H a xs)(h':Sq X.K b H a ys):xs=ys:=by
 cases b
 ·exact I.list_inj h h'
 ·exact I.tuple_inj h h'
noncomputable def Itz(K:PySem.W.Frag)(b b':Bool)(a a':Addr):It:=
 ⟨fun i H=>∃xs ys x y,Sq K b H a xs∧xs[i]?=some x∧Sq K b' H a' ys∧ys[i]?=some y,
  fun i H v H'=>∃p x y,H p=none∧v=.ref p∧H'=upd H p (.tup [x,y])∧(∀xs,Sq K b H a xs→xs[i]?=some x)∧∀ys,Sq K b' H a' ys→ys[i]?=some y,
  fun i H=>∃xs ys,Sq K b H a xs∧Sq K b' H a' ys∧(xs.length=i∨(i<xs.length∧ys.length=i))⟩
noncomputable def zipT(b b':Bool)(a a' z TI TO j1 j2:Addr)(i:Nat)(h:Heap):Prop:=IsZip h z TI TO .none∧IsPair h TI (.ref j1) (.ref j2)∧(∃u v,IsPair h TO u v)∧ItAt b h j1 a i∧ItAt b' h j2 a' i
theorem e0o{P:Program}{w:World}{K:PySem.W.Frag}{elts:List Expr}{x1}{pos:Pos}(b b':Bool)(a a' z TI TO j1 j2:Addr)(Z:ZA z TI TO j1 j2)(na:a≠z∧a≠TO∧a≠j1∧a≠j2)(na':a'≠z∧a'≠TO∧a'≠j1∧a'≠j2):
 Turn P w K (.Tuple elts x1 pos) (Itz K b b' a a') [z,TI,TO,j1,j2] z (zipT b b' a a' z TI TO j1 j2)where
 mem:=by simp
 obj:=fun i h st c hc=>by
  obtain ⟨hz,hTI,⟨u,v,hTO⟩,h1,h2⟩:=st;have hc':c=z∨c=TI∨c=TO∨c=j1∨c=j2:=by simpa using hc
  rcases hc' with rfl |rfl |rfl |rfl |rfl
  ·exact ⟨_,hz,fun v q=>by simp at q⟩
  ·exact ⟨_,hTI,fun v q=>by simp at q⟩
  ·exact ⟨_,hTO,fun v q=>by simp at q⟩
  ·obtain ⟨o,e,_,d⟩:=h1.obj;exact ⟨o,e,fun v q=>by rw[d]at q;cases q⟩
  ·obtain ⟨o,e,_,d⟩:=h2.obj;exact ⟨o,e,fun v q=>by rw[d]at q;cases q⟩
 keep:=fun i h h' st k=>by
  obtain ⟨hz,hTI,⟨u,v,hTO⟩,h1,h2⟩:=st;exact ⟨k z (by simp) _ hz,k TI (by simp) _ hTI,⟨u,v,k TO (by simp) _ hTO⟩,h1.stay fun o e=>k j1 (by simp) o e,h2.stay fun o e=>k j2 (by simp) o e⟩
 item:=by
  intro X hP hw hK hc i pins s σ H E I hf st hg;subst hP hw hK;obtain ⟨xs,ys,x,y,q1,e1,q2,e2⟩:=hg;obtain ⟨its1,r1,p1,z1⟩:=I.sq q1;obtain ⟨its2,r2,p2,z2⟩:=I.sq q2;obtain ⟨u1,g1,v1⟩:=r1.get e1;obtain ⟨u2,g2,v2⟩:=r2.get e2;obtain ⟨hz,hTI,⟨u,v,hTO⟩,h1,h2⟩:=st;have l1:=(List.getElem?_eq_some_iff.mp g1).1;have l2:=(List.getElem?_eq_some_iff.mp g2).1;have hh:X.A.in1.handled=none:=I.ok.hd hc;have D1:=o8 b (prog:=X.prog) (w:=X.w) hh j1 a na.2.2.1 its1.toArray;have D2:=o8 b' (prog:=X.prog) (w:=X.w) hh j2 a' na'.2.2.2 its2.toArray;have hT:s.TypeIs (.ref z) "zip":=⟨_,hz,rfl⟩;unfold pyNext;refine wpAny_bind (wpAny_attempt (wpAny_callSpecial?_slot (name:=Str.ofString "__next__") hT F.slot_zip_next (wpAny_call_entry F.slot_zip_next hT F.entry_zip_next
   (a0o D1 D2 Z (fun c hc=>?_) (fun c hc=>?_) hz hTI hTO ⟨h1,p1⟩ ⟨h2,p2⟩ (by simpa using l1) (by simpa using l2) fun x' y' h' tk px py hz' hTO' st1 st2 hT' kk=>wpAny_pure ⟨_,rfl,?_⟩) (F.args_zip_next_1 _))))
  ·have:c=j1∨c=a:=by simpa using hc
   rcases this with rfl |rfl
   ·exact ⟨Z.c,Z.h.symm,Z.j⟩
   ·exact ⟨na.1,na.2.1,na.2.2.2⟩
  ·have:c=j2∨c=a':=by simpa using hc
   rcases this with rfl |rfl
   ·exact ⟨Z.d,Z.i.symm,Z.j.symm⟩
   ·exact ⟨na'.1,na'.2.1,na'.2.2.1⟩
  have ex:x'=u1:=by
   have px':its1.toArray[i]?=some x':=px;rw[List.getElem?_toArray,g1]at px';exact (Option.some.inj px').symm
  have ey:y'=u2:=by
   have py':its2.toArray[i]?=some y':=py;rw[List.getElem?_toArray,g2]at py';exact (Option.some.inj py').symm
  subst ex ey;refine wpAny_letOwnedTupleGo_zip (s:={s with heap:=h',toks:=tk}) hz' fun h₂ hz₂ hs₂=>?_
  replace hs₂:Heap.SameBut z h' h₂:=hs₂;have hfr:H s.heap.objs.size=none:=I.hok.fresh (Nat.le_refl _);have Il:Inv X pins σ (upd H s.heap.objs.size (.tup [x,y])) {s with heap:=s.heap.push {cls:=.type "tuple",data:=.seq #[x',y']}}:=I.laid (t':=s.toks) (fun b u e=>Heap.get?_push_of_some _ e) (Nat.le_refl _)
   ⟨by show 2≤sizeLine;decide,[x',y'],.cons v1 (.cons v2 .nil),⟨_,Heap.get?_push_size _ rfl,rfl,⟨_,rfl⟩,rfl⟩⟩
  have lt:∀{c o},s.heap.get? c=some o→c≠s.heap.objs.size:=fun e=>Nat.ne_of_lt (Heap.lt_size e)
  have nT:∀c∈[z,TI,TO,j1,j2],c≠s.heap.objs.size:=fun c hc=>by
   have hc':c=z∨c=TI∨c=TO∨c=j1∨c=j2:=by simpa using hc
   rcases hc' with rfl |rfl |rfl |rfl |rfl
   ·exact lt hz
   ·exact lt hTI
   ·exact lt hTO
   ·obtain ⟨o,e,_⟩:=h1.obj;exact lt e
   ·obtain ⟨o,e,_⟩:=h2.obj;exact lt e
  have hn2:∀c∈[z,TI,TO,j1,j2],upd H s.heap.objs.size (.tup [x,y]) c=none:=fun c hc=>by rw[u0 (nT c hc)];exact (hf c hc).1
  have If:Inv X pins σ (upd H s.heap.objs.size (.tup [x,y])) {s with heap:=h₂,toks:=tk}:=Inv.turnedL (s:={s with heap:=s.heap.push {cls:=.type "tuple",data:=.seq #[x',y']}}) (ch:=[z,TI,TO,j1,j2]) (h':=h₂) (t':=tk) Il (fun c o hc e=>by
   have hc':c≠z∧c≠TI∧c≠TO∧c≠j1∧c≠j2:=by simpa using hc
   rcases Heap.get?_push_cases e with ⟨rfl,rfl⟩|e
   ·exact hs₂.extBut _ _ hc'.1 hT'
   ·exact hs₂.extBut _ _ hc'.1 (kk c o hc'.1 hc'.2.2.1 hc'.2.2.2.1 hc'.2.2.2.2 e)) fun c hc=>⟨hn2 c hc,(hf c hc).2⟩
  refine ⟨.ref s.heap.objs.size,_,If,rfl,⟨s.heap.objs.size,x,y,hfr,rfl,rfl,fun zs hq=>by rw[I.sq_inj hq q1];exact e1,fun zs hq=>by rw[I.sq_inj hq q2];exact e2⟩,?_,hn2⟩;exact ⟨hz₂,hs₂.extBut _ _ Z.a (kk _ _ Z.a Z.e Z.f Z.g hTI),⟨_,_,hs₂.extBut _ _ Z.b hTO'⟩,st1.1.stay fun o e=>hs₂.extBut _ _ Z.c e,st2.1.stay fun o e=>hs₂.extBut _ _ Z.d e⟩
 done:=by
  intro X hP hw hK hc i pins s σ H E I hf st hg;subst hP hw hK;obtain ⟨xs,ys,q1,q2,le⟩:=hg;obtain ⟨its1,r1,p1,z1⟩:=I.sq q1;obtain ⟨its2,r2,p2,z2⟩:=I.sq q2;obtain ⟨hz,hTI,⟨u,v,hTO⟩,h1,h2⟩:=st;have hh:X.A.in1.handled=none:=I.ok.hd hc;have D1:=o8 b (prog:=X.prog) (w:=X.w) hh j1 a na.2.2.1 its1.toArray;have D2:=o8 b' (prog:=X.prog) (w:=X.w) hh j2 a' na'.2.2.2 its2.toArray;have hT:s.TypeIs (.ref z) "zip":=⟨_,hz,rfl⟩;have len1:=r1.length;have len2:=r2.length;unfold pyNext;refine wpAny_bind (wpAny_attempt (wpAny_callSpecial?_slot (name:=Str.ofString "__next__") hT F.slot_zip_next (wpAny_call_entry F.slot_zip_next hT F.entry_zip_next
   (zp_end D1 D2 Z (fun c hc=>?_) (fun c hc=>?_) hz hTI hTO ⟨h1,p1⟩ ⟨h2,p2⟩ ?_ fun h' e tk kk ⟨o,ho,hco⟩=>?_) (F.args_zip_next_1 _))))
  ·have:c=j1∨c=a:=by simpa using hc
   rcases this with rfl |rfl
   ·exact ⟨Z.c,Z.h.symm,Z.j⟩
   ·exact ⟨na.1,na.2.1,na.2.2.2⟩
  ·have:c=j2∨c=a':=by simpa using hc
   rcases this with rfl |rfl
   ·exact ⟨Z.d,Z.i.symm,Z.j.symm⟩
   ·exact ⟨na'.1,na'.2.1,na'.2.2.1⟩
  ·simp only[List.size_toArray];omega
  ·refine wpAny_bind (wpAny_isInstance (T:="StopIteration") (b:=true) ⟨o,ho,hco⟩ isSubtype_stop (wpAny_pure ⟨rfl,?_⟩));exact I.turnedL (ch:=[z,TI,TO,j1,j2]) (h':=h') (t':=tk) (fun c o hc e=>by
    have hc':c≠z∧c≠TI∧c≠TO∧c≠j1∧c≠j2:=by simpa using hc
    exact kk c o hc'.1 hc'.2.2.1 hc'.2.2.2.1 hc'.2.2.2.2 e) hf
 self:=fun A i s Q E st h=>wpAny_pyIter_zip st.1 h
end L2
namespace L2
open PySem PySem.Spec PyProof.Rows
noncomputable def Ite(K:PySem.W.Frag)(b:Bool)(a:Addr):It:=
 ⟨fun i H=>∃xs x,Sq K b H a xs∧xs[i]?=some x,
  fun i H v H'=>∃p x,H p=none∧v=.ref p∧H'=upd H p (.tup [.int i,x])∧∀xs,Sq K b H a xs→xs[i]?=some x,
  fun i H=>∃xs,Sq K b H a xs∧xs.length=i⟩
noncomputable def enumT(b:Bool)(a e j:Addr)(i:Nat)(h:Heap):Prop:=(∃old,IsEnum h e j (i:Int) old)∧ItAt b h j a i
theorem h0x{P:Program}{w:World}{K:PySem.W.Frag}{elts:List Expr}{x1}{pos:Pos}(b:Bool)(a e j:Addr)(hej:e≠j)(na:a≠e∧a≠j):
 Turn P w K (.Tuple elts x1 pos) (Ite K b a) [e,j] e (enumT b a e j)where
 mem:=by simp
 obj:=fun i h st c hc=>by
  obtain ⟨⟨old,he⟩,h1⟩:=st;have hc':c=e∨c=j:=by simpa using hc
  rcases hc' with rfl |rfl
  ·exact ⟨_,he,fun v q=>by simp at q⟩
  ·obtain ⟨o,e,_,d⟩:=h1.obj;exact ⟨o,e,fun v q=>by rw[d]at q;cases q⟩
 keep:=fun i h h' st k=>by
  obtain ⟨⟨old,he⟩,h1⟩:=st;exact ⟨⟨old,k e (by simp) _ he⟩,h1.stay fun o e=>k j (by simp) o e⟩
 item:=by
  intro X hP hw hK hc i pins s σ H E I hf st hg;subst hP hw hK;obtain ⟨xs,x,q1,e1⟩:=hg;obtain ⟨its1,r1,p1,z1⟩:=I.sq q1;obtain ⟨u1,g1,v1⟩:=r1.get e1;obtain ⟨⟨old,he⟩,h1⟩:=st;have l1:=(List.getElem?_eq_some_iff.mp g1).1;have hh:X.A.in1.handled=none:=I.ok.hd hc;have D1:=o8 b (prog:=X.prog) (w:=X.w) hh j a na.2 its1.toArray;refine wpAny_pyNext_enum_itemD D1 he ⟨h1,p1⟩ (by simpa using l1) hej (by simp[hej,na.1.symm]) fun x' h' tk px ho st1 hT' hsz kk=>⟨_,rfl,?_⟩
  have ex:x'=u1:=by
   have px':its1.toArray[i]?=some x':=px;rw[List.getElem?_toArray,g1]at px';exact (Option.some.inj px').symm
  subst ex;refine wpAny_letOwnedTupleGo_enum (s:={s with heap:=h',toks:=tk+1}) ho fun h₂ he₂ hs₂=>?_
  replace hs₂:Heap.SameBut e h' h₂:=hs₂;have hfr:H s.heap.objs.size=none:=I.hok.fresh (Nat.le_refl _);have Il:Inv X pins σ (upd H s.heap.objs.size (.tup [.int i,x])) {s with heap:=s.heap.push {cls:=.type "tuple",data:=.seq #[.int i tk,x']}}:=I.laid (t':=s.toks) (fun b u e=>Heap.get?_push_of_some _ e) (Nat.le_refl _)
   ⟨by show 2≤sizeLine;decide,[.int i tk,x'],.cons ⟨tk,rfl⟩ (.cons v1 .nil),⟨_,Heap.get?_push_size _ rfl,rfl,⟨_,rfl⟩,rfl⟩⟩
  have lt:∀{c o},s.heap.get? c=some o→c≠s.heap.objs.size:=fun e=>Nat.ne_of_lt (Heap.lt_size e)
  have nT:∀c∈[e,j],c≠s.heap.objs.size:=fun c hc=>by
   have hc':c=e∨c=j:=by simpa using hc
   rcases hc' with rfl |rfl
   ·exact lt he
   ·obtain ⟨o,e,_⟩:=h1.obj;exact lt e
  have hn2:∀c∈[e,j],upd H s.heap.objs.size (.tup [.int i,x]) c=none:=fun c hc=>by rw[u0 (nT c hc)];exact (hf c hc).1
  have If:Inv X pins σ (upd H s.heap.objs.size (.tup [.int i,x])) {s with heap:=h₂,toks:=tk+1}:=Inv.turnedL (s:={s with heap:=s.heap.push {cls:=.type "tuple",data:=.seq #[.int i tk,x']}}) (ch:=[e,j]) (h':=h₂) (t':=tk+1) Il (fun c o hc q=>by
   have hc':c≠e∧c≠j:=by simpa using hc
   rcases Heap.get?_push_cases q with ⟨rfl,rfl⟩|q
   ·exact hs₂.extBut _ _ hc'.1 hT'
   ·exact hs₂.extBut _ _ hc'.1 (kk c o hc'.1 hc'.2 q)) fun c hc=>⟨hn2 c hc,(hf c hc).2⟩
  refine ⟨.ref s.heap.objs.size,_,If,rfl,⟨s.heap.objs.size,x,hfr,rfl,rfl,fun zs hq=>by rw[I.sq_inj hq q1];exact e1⟩,?_,hn2⟩;exact ⟨⟨_,by simpa using he₂⟩,st1.1.stay fun o q=>hs₂.extBut _ _ hej.symm q⟩
 done:=by
  intro X hP hw hK hc i pins s σ H E I hf st hg;subst hP hw hK;obtain ⟨xs,q1,le⟩:=hg;obtain ⟨its1,r1,p1,z1⟩:=I.sq q1;obtain ⟨⟨old,he⟩,h1⟩:=st;have hh:X.A.in1.handled=none:=I.ok.hd hc;have D1:=o8 b (prog:=X.prog) (w:=X.w) hh j a na.2 its1.toArray;have len1:=r1.length;have en:its1.toArray.size=i:=by simp only[List.size_toArray];omega
  refine wpAny_pyNext_enum_endD D1 he ⟨by rw[en];exact h1,p1⟩ fun h' sb=>⟨rfl,?_⟩
  exact I.turnedL (ch:=[e,j]) (h':=h') (t':=s.toks) (fun c o hc q=>by
   have hc':c≠e∧c≠j:=by simpa using hc
   exact sb c o hc'.2 q) hf
 self:=fun A i s Q E st h=>let ⟨⟨_,he⟩,_⟩:=st;wpAny_pyIter_enum he h
theorem bt_zip:bootBuiltins "zip"=some (.type "zip"):=by decide +kernel
theorem v0p:bootBuiltins "enumerate"=some (.type "enumerate"):=by decide +kernel
end L2
namespace L2
open PySem PySem.Spec PyProof.Rows
theorem q0c{prog:Program}{w:World}{A:Around}{R:Result→Shared→Prop}{s:Shared}{elt target iter:Expr}{ifs:List Expr}{scope:Scope}{pos:Pos}{it acc:Value}{env:Env}(I:Nat→Shared→Prop)
 (turn:∀n s,I n s→wpAny (model prog w) A (pyNext it) (fun r s₁=>match r with
  |none=>R (.ok .next) s₁
  |some v=>wpAny (model prog w) A (letOwnedTupleGo target it v) (fun _ s₁'=>wpAny (model prog w) A (assign target env v) (fun _ s₂=>
   wpAny (model prog w) A (forIn ifs true fun c r=>if r=true then do let ok←isTrue c env (eval c env);pure (ForInStep.yield ok)else pure (ForInStep.yield r)) (fun ok s₃=>
    if ok=true then wpAny (model prog w) A (eval elt env) (fun x s₄=>wpAny (model prog w) A (call (.builtin "list.append") [acc,x]) (fun _ s₅=>∃m,m<n∧I m s₅) (fun _ _=>False) s₄) (fun _ _=>False) s₃
    else ∃m,m<n∧I m s₃) (fun _ _=>False) s₂) (fun _ _=>False) s₁') (fun _ _=>False) s₁) (fun _ _=>False) s)
 (n:Nat) (h:I n s):codeAny (model prog w) A (.compLoop (.ListComp elt [⟨target,iter,ifs,0⟩] scope pos) 0 it acc env) R s:=by
 refine codeAny_loop rfl I (fun n s hI=>?_) n h;show wpAny _ _ ((compTurn (.ListComp elt [⟨target,iter,ifs,0⟩] scope pos) 0 it acc env).onRaise (fun y=>do noteFrame y env;theTreesLotGoes y)) _ _ s;refine wpAny_noted ?_;rw[compTurn_list];refine wpAny_bind (wpAny_standAt (wpAny_bind (wpAny_mono (turn n s hI) (fun r s₁ h₁=>?_) fun _ _ z=>z.elim)));cases r with
 |none=>exact wpAny_pure h₁
 |some v=>
  refine wpAny_bind (wpAny_mono h₁ (fun _ s₁' h₁'=>?_) fun _ _ z=>z.elim);refine wpAny_bind (wpAny_mono h₁' (fun _ s₂ h₂=>wpAny_bind (wpAny_mono h₂ (fun ok s₃ h₃=>?_) fun _ _ z=>z.elim)) fun _ _ z=>z.elim);cases ok with
  |false=>exact wpAny_pure ⟨rfl,h₃⟩
  |true=>exact wpAny_bind (wpAny_bind (wpAny_mono h₃ (fun x s₄ h₄=>wpAny_bind (wpAny_mono h₄ (fun _ s₅ h₅=>wpAny_pure (wpAny_pure ⟨rfl,h₅⟩)) fun _ _ z=>z.elim)) fun _ _ z=>z.elim))
noncomputable def Cx.compM(X:Cx)(xs:List Str)(js:List Nat)(scope:Scope)(cl:List (Str×Addr))(C:Addr)(s₀:Shared)(H₀:Hp)(fp:List Addr):Cx:=
 {X with N:=xs++js.map (fun j=>X.N.getD j ""),s₀:=s₀,H₀:=H₀,env:=compEnvC scope cl C X.env,outer:=X.stack,ex:=fp,fn:=fun _=>false,pn:=[],xe:=fun _ _=>False}
noncomputable def i8(σ:St)(js:List Nat):St:=js.map fun j=>(σ[j]?).join
structure CompOkM(X:Cx)(xs:List Str)(js:List Nat)(scope:Scope):Prop where
 kind:scope.kind=.function
 cell:∀y∈scope.names,y.2≠.cell
 loc:∀y∈scope.names,y.2=.local→scope.names.lookup y.1=some .local
 free:∀y∈scope.names,y.2=.free→X.env.kindOf y.1=some .cell∨X.env.kindOf y.1=some .free
 caps:∀j∈js,scope.names.lookup (X.N.getD j "")=some .free
 nd:(xs++js.map (fun j=>X.N.getD j "")).Nodup
noncomputable def m0g(names:List (Str×NameKind))(N xs:List Str)(js:List Nat)(scope:Scope):Bool:=
 (scope.kind== .function)&&(scope.names.all fun y=>(y.2 !=.cell)&&((y.2 !=.local)||scope.names.lookup y.1==some .local)&&((y.2 !=.free)||(names.lookup y.1==some .cell||names.lookup y.1==some .free)))&&
  (js.all fun j=>scope.names.lookup (N.getD j "")==some .free)&&decide ((xs++js.map (fun j=>N.getD j "")).Nodup)
theorem CompOkM.of{X:Cx}{scope:Scope}(xs:List Str)(js:List Nat)(h:m0g X.env.scope.names X.N xs js scope=true):CompOkM X xs js scope:=by
 unfold m0g at h;simp only[Bool.and_eq_true,List.all_eq_true,beq_iff_eq,bne_iff_ne,Bool.or_eq_true,decide_eq_true_eq]at h;obtain ⟨⟨⟨h1,h2⟩,h4⟩,h5⟩:=h;refine ⟨h1,fun y hy=>(h2 y hy).1.1,fun y hy e=>?_,fun y hy e=>?_,h4,h5⟩
 ·rcases (h2 y hy).1.2 with z |z
  ·exact absurd e z
  ·exact z
 ·rcases (h2 y hy).2 with z |z
  ·exact absurd e z
  ·exact z
section
variable{X:Cx}{pins:List (Addr×Obj)}{σ:St}{H:Hp}{s:Shared}
theorem h0w{xs:List Str}{js:List Nat}{scope:Scope}{cl:List (Str×Addr)}{fp:List Addr}{h':Heap}{tk:Nat}(I:Inv X pins σ H s)(S:CompOkM X xs js scope)
 (h1:∀y c,cl.lookup y=some c→X.env.cells.lookup y=some c) (h2:∀y,(y,NameKind.free)∈scope.names→∃c,cl.lookup y=some c)
 (hf:∀b∈fp,FpOk X pins H b) (hfl:∀b∈fp,b<s.heap.objs.size)
 (hn:h'.Ns s.heap.objs.size (fun _=>none)) (hk:∀b o,s.heap.get? b=some o→h'.get? b=some o):
 Inv (X.compM xs js scope cl s.heap.objs.size s H fp) [] (List.replicate xs.length none++i8 σ js) H {s with heap:=h',toks:=tk}:=by
 have e0:=I.env0;have hfree:H s.heap.objs.size=none:=I.hok.fresh (Nat.le_refl _);refine ⟨⟨I.ok.mod,S.kind,I.ok.glob,I.ok.blt,Nat.le_refl _,fun y z c a b=>I.ok.inj y z c (h1 y c a) (h1 z c b),fun y hy=>?_,(fun y c z=>by cases z),I.ok.hd,I.ok.frames,.inl rfl,fun b hb=>⟨Nat.ne_of_lt (hfl b hb),fun y c e=>(hf b hb).2.2.2.2.1 y c (h1 y c e)⟩,
  I.bs,Nat.le_trans I.ok.bsz I.sz,fun b o e hb=>?_,fun b hb z=>?_,I.stack,I.stkFree⟩,rfl,I.bare,Un.kept hk,⟨_,hn,fun i y v e1 e2 e3=>?_⟩,fun y c e=>?_,hfree,fun y c e=>I.freeC y c (h1 y c e),(fun p hp=>by cases hp),I.hok.kept hk,?_⟩
 ·have hy:(relabel scope X.env).names.lookup y=some .cell∨(relabel scope X.env).names.lookup y=some .free:=hy;rcases hy with hy |hy
  ·exact h2 y (z0u hy (.inl rfl) S.cell)
  ·exact h2 y (z0u hy (.inr rfl) S.cell)
 ·rcases (hf b hb).2.2.2.1 with z |z
  ·exact I.ok.noex b o e z
  ·exact absurd (Nat.lt_of_lt_of_le (Heap.lt_size e) (Nat.le_trans I.ok.bsz z)) (Nat.lt_irrefl _)
 ·have z:b∈frs X.stack:=z;rcases List.mem_cons.mp (I.stkSub b z)with q |q
  ·exact (hf b hb).2.1 q
  ·exact (hf b hb).2.2.1 q
 ·have e1:(xs++js.map (fun j=>X.N.getD j ""))[i]?=some y:=e1;by_cases hi:i<xs.length
  ·rw[List.getElem?_append_left (by simpa using hi),List.getElem?_replicate,if_pos hi]at e2;cases e2
  ·rw[List.getElem?_append_right (by omega)]at e1;rw[List.getElem?_append_right (by simp;omega)]at e2;simp only[List.length_replicate]at e2;generalize i-xs.length=i at e1 e2;unfold i8 at e2;rw[List.getElem?_map]at e1 e2;cases ej:js[i]? with
   |none=>rw[ej]at e1;cases e1
   |some j=>
    rw[ej]at e1 e2;have e1:X.N.getD j ""=y:=Option.some.inj e1;have e2:(σ[j]?).join=some v:=Option.some.inj e2;have hjm:j∈js:=List.mem_of_getElem? ej;have e2':σ[j]?=some (some v):=by
     cases q:σ[j]? with
     |none=>rw[q]at e2;cases e2
     |some o=>rw[q]at e2;cases o with
      |none=>cases e2
      |some v'=>cases e2;rfl
    have hjl:j<X.N.length:=by rw[←I.len];exact (List.getElem?_eq_some_iff.mp e2').1
    have eN:X.N[j]?=some y:=by
     rw[←e1,List.getD_eq_getElem?_getD,List.getElem?_eq_getElem hjl];rfl
    have hfr:scope.names.lookup y=some .free:=by rw[←e1];exact S.caps j hjm
    have hmem:(y,NameKind.free)∈scope.names:=PySem.mem_of_lookup hfr;obtain ⟨c,hc⟩:=h2 y hmem;have hXc:=h1 y c hc;have hkd:=S.free (y,.free) hmem rfl;obtain ⟨m,hm,hl⟩:=I.loc;have hvis:Vis X.env.scope y:=by rcases hkd with q |q;exact .inr (.inl q);exact .inr (.inr q)
    obtain ⟨u,r,l⟩:=hl j y v eN e2' hvis;refine ⟨u,r,.inr ⟨q0o hfr,c,hc,?_⟩⟩;rcases l with ⟨q,_⟩|⟨q,c',q1,q2⟩
    ·rcases hkd with z |z
     ·rw[z]at q;cases q
     ·rw[z]at q;cases q
    ·rw[hXc]at q1;cases q1;obtain ⟨o,ho,hd⟩:=q2;exact ⟨o,hk _ _ ho,hd⟩
 ·obtain ⟨v,o,ho,hd⟩:=I.cell y c (h1 y c e);exact ⟨v,o,hk _ _ ho,hd⟩
 ·show (List.replicate xs.length none++i8 σ js).length=(xs++js.map (fun j=>X.N.getD j "")).length;unfold i8;simp
end
noncomputable def tgV(K:PySem.W.Frag)(tup:Bool)(n:Nat)(v:V)(H:Hp)(k:List V→Prop):Prop:=match tup with
 |false=>k [v]
 |true=>∃a ws,v=.ref a∧SqT K H a ws∧ws.length=n∧k ws
structure TgM(K:PySem.W.Frag)(tup:Bool)(n:Nat)(g:TG):Prop where
 go:∀(caps:St) (v:V) (H:Hp) (Q:St→Hp→Prop),tgV K tup n v H (fun ws=>Q (ws.map some++caps) H)→g v (List.replicate n none++caps) H Q
theorem x6{K:PySem.W.Frag}:TgM K false 1 (o0t 0):=⟨fun caps v H Q h=>h⟩
theorem q0b:∀(ws:List V) (pre post:St) (H:Hp) (Q:St→Hp→Prop),Q (pre++ws.map some++post) H→DL.gAll (List.range' pre.length ws.length) ws (pre++List.replicate ws.length none++post) H Q
 | [],pre,post,H,Q,h=>⟨rfl,by simpa using h⟩
 |w::ws,pre,post,H,Q,h=>by
  refine ⟨w,ws,rfl,?_⟩;show DL.gAll (List.range' (pre.length+1) ws.length) ws ((pre++List.replicate (w::ws).length none++post).set pre.length (some w)) H Q;have e:(pre++List.replicate (w::ws).length (none:Option V)++post).set pre.length (some w)=(pre++[some w])++List.replicate ws.length none++post:=by
   rw[List.length_cons,List.replicate_succ,List.append_assoc,List.cons_append,List.set_append_right _ _ (Nat.le_refl _)];simp
  rw[e];have:=q0b ws (pre++[some w]) post H Q (by simpa using h);simpa using this
theorem o0g{K:PySem.W.Frag}{n:Nat}{is:List Nat}(hi:is=List.range' 0 n):TgM K true n (gTup K n (DL.gAll is)):=⟨fun caps v H Q h=>by
 subst hi;obtain ⟨a,ws,rfl,q,hl,h⟩:=h;subst hl;exact ⟨a,ws,rfl,q,rfl,q0b ws [] caps H Q h⟩⟩
noncomputable def PIfs(X:Cx)(ifs:List Expr)(t:TT):Prop:=∀(pins:List (Addr×Obj)) (s:Shared) (σ:St) (H:Hp) (Q:Bool→Hp→Prop),Inv X pins σ H s→t σ H Q→
 wpAny (model X.prog X.w) X.A (forIn ifs true fun c r=>if r=true then do let ok←isTrue c X.env (eval c X.env);pure (ForInStep.yield ok)else pure (ForInStep.yield r)) (TP X pins σ Q) X.xe s
theorem e0n{X:Cx}:PIfs X [] (fun _ H Q=>Q true H):=fun pins s σ H Q I h=>wpAny_tests_nil ⟨H,I,h⟩
theorem e0m{X:Cx}{c:Expr}{t:TT}(h:PT X c t):PIfs X [c] t:=fun pins s σ H Q I q=>wpAny_tests_one (h pins s σ H Q I q)
noncomputable def h0v(K:PySem.W.Frag)(J:It)(tup:Bool)(n:Nat)(caps:St)(D:Addr)(tc:TT)(te:TE)(H1:Hp)(Q:Hp→Prop):Prop:=∃P:Nat→Nat→List V→Hp→Prop,(∃m,P 0 m [] (upd H1 D (.lst [])))∧∀i m ys H2,P i m ys H2→H2 D=some (.lst ys)∧
 ((J.stop i H2∧Q H2)∨(J.go i H2∧∀v H3,J.yld i H2 v H3→tgV K tup n v H3 fun ws=>tc (ws.map some++caps) H3 fun ok H4=>
  if ok=true then te (ws.map some++caps) H4 fun y H5=>H5 D=some (.lst ys)∧ys.length<sizeLine∧∃m',m'<m∧P (i+1) m' (ys++[y]) (upd H5 D (.lst (ys++[y])))
  else ∃m',m'<m∧P (i+1) m' ys H4))
noncomputable def h0u(K:PySem.W.Frag)(wi:TI)(tup:Bool)(n:Nat)(js:List Nat)(tc:TT)(te:TE):TE:=fun σ H Q=>wi σ H fun J H1=>∀D,H1 D=none→h0v K J tup n (i8 σ js) D tc te H1 fun H2=>Q (.ref D) H2
section
variable{X:Cx}
theorem u0g{xs:List Str}{target elt iter:Expr}{ifs:List Expr}{js:List Nat}{scope:Scope}{cl:List (Str×Addr)}{pos:Pos}{tup:Bool}{g:TG}{tc:TT}{te:TE}{J:It}{fp:List Addr}{it:Addr}{tn:Nat→Heap→Prop}{pins:List (Addr×Obj)}{σ:St}{H1:Hp}{s1:Shared}
 {Q:V→Hp→Prop} {RR:Value→Addr→Result→Shared→Prop} {E:Value→Shared→Prop} (hc:X.calm=true) (S:CompOkM X xs js scope)
 (hg:∀C s₀ H₀ fp cl,PG (X.compM xs js scope cl C s₀ H₀ fp) target g) (gm:TgM X.K tup xs.length g) (ht:∀C s₀ H₀ fp cl,PIfs (X.compM xs js scope cl C s₀ H₀ fp) ifs tc)
 (he:∀C s₀ H₀ fp cl,PE (X.compM xs js scope cl C s₀ H₀ fp) elt te)
 (h1:∀y c,cl.lookup y=some c→X.env.cells.lookup y=some c) (h2:∀y,(y,NameKind.free)∈scope.names→∃c,cl.lookup y=some c)
 (I:Inv X pins σ H1 s1) (T:Turn X.prog X.w X.K target J fp it tn) (st:tn 0 s1.heap) (hf:∀b∈fp,FpOk X pins H1 b)
 (q:∀D,H1 D=none→h0v X.K J tup xs.length (i8 σ js) D tc te H1 fun H2=>Q (.ref D) H2)
 (hRR:∀D C H' s',Inv X pins σ H' s'→Loose X pins H' C→(∃m,s'.heap.Ns C m)→Q (.ref D) H'→RR (.ref D) C (.ok .next) s'):
 wpAny (model X.prog X.w) X.A (newList []) (fun acc s₃=>wpAny (model X.prog X.w) X.A (newFunctionEnv scope X.env.globals cl [] X.env.qual none .none (some X.env)) (fun cenv s₄=>
  codeAny (model X.prog X.w) X.A (.compStart (.ListComp elt [⟨target,iter,ifs,0⟩] scope pos) 0 (.ref it) acc {cenv with scope:=relabel scope X.env}) (RR acc cenv.locals) s₄) E s₃) E s1:=by
 have hfr:H1 s1.heap.objs.size=none:=I.hok.fresh (Nat.le_refl _);refine wpAny_newObj_type (wpAny_newFunctionEnv S.cell (by intro y hy;simp at hy) (fun h₁ hns₁ hsb₁=>?_) S.kind);dsimp only at hns₁ hsb₁ ⊢;have I3:=I.laid (a:=s1.heap.objs.size) (o:=.lst []) (h':=s1.heap.push {cls:=.type "list",dict:=none,data:=.seq ([]:List Value).toArray}) (t':=s1.toks) (fun b u e=>Heap.get?_push_of_some _ e) (Nat.le_refl _)
  ⟨by simp,[],0,.nil,Heap.get?_push_size _ rfl⟩
 generalize hD:s1.heap.objs.size=D at*
 generalize hH2:s1.heap.push {cls:=.type "list",dict:=none,data:=.seq ([]:List Value).toArray}=G at*
 have hGD:G.objs.size=D+1:=by rw[←hH2,Heap.size_push,hD]
 have hkG:∀b o,G.get? b=some o→h₁.get? b=some o:=fun b o e=>hsb₁.extBut b o (Nat.ne_of_lt (Heap.lt_size e)) (Heap.get?_push_of_some _ e)
 have hold:∀b o,s1.heap.get? b=some o→h₁.get? b=some o:=fun b o e=>hkG b o (by rw[←hH2];exact Heap.get?_push_of_some _ e)
 have hfpl:∀b∈fp,b<s1.heap.objs.size:=fun b hb=>by obtain ⟨o,e,_⟩:=T.obj _ _ st b hb;exact Heap.lt_size e
 have hf3:∀b∈fp,FpOk X pins (upd H1 D (.lst [])) b:=fun b hb=>⟨by rw[u0 (by rw[←hD];exact Nat.ne_of_lt (hfpl b hb))];exact (hf b hb).1,(hf b hb).2⟩
 have IC:=h0w (xs:=xs) (js:=js) (scope:=scope) (cl:=cl) (fp:=fp) (h':=h₁) (tk:=s1.toks+([]:List (Str×Value)).length) I3 S h1 h2 hf3 (fun b hb=>Nat.lt_of_lt_of_le (hfpl b hb) (by show s1.heap.objs.size≤G.objs.size;rw[hGD,hD];exact Nat.le_succ _)) hns₁ hkG;obtain ⟨P,⟨m0,p0⟩,turn⟩:=q D hfr;have loop:∀s':Shared,s'={s1 with heap:=h₁,toks:=s1.toks+([]:List (Str×Value)).length}→
  codeAny (model X.prog X.w) X.A (.compLoop (.ListComp elt [⟨target,iter,ifs,0⟩] scope pos) 0 (.ref it) (.ref D) (compEnvC scope cl G.objs.size X.env)) (RR (.ref D) G.objs.size) s':=by
  rintro s' rfl;refine q0c (fun n s'=>∃i ys H',Inv (X.compM xs js scope cl G.objs.size {s1 with heap:=G} (upd H1 D (.lst [])) fp) [] (List.replicate xs.length none++i8 σ js) H' s'∧tn i s'.heap∧(∀b∈fp,H' b=none)∧P i n ys H') ?_ m0 ⟨0,[],_,IC,T.keep _ _ _ st fun b hb o e=>hold b o e,fun b hb=>(hf3 b hb).1,p0⟩;rintro n s3 ⟨i,ys,H3,J3,st3,fr3,p3⟩;obtain ⟨hD3,tr⟩:=turn i n ys H3 p3;have stat:∀{H':Hp} {s':Shared} {σ':St},Inv (X.compM xs js scope cl G.objs.size {s1 with heap:=G} (upd H1 D (.lst [])) fp) [] σ' H' s'→(∀b∈fp,H' b=none)→∀b∈fp,FpOk (X.compM xs js scope cl G.objs.size {s1 with heap:=G} (upd H1 D (.lst [])) fp) [] H' b:=
   fun {H' s' σ'} JJ hn b hb=>⟨hn b hb,(JJ.ok.exf b hb).1,JJ.ok.exfs b hb,.inl hb,(JJ.ok.exf b hb).2,fun p hp=>by cases hp⟩
  rcases tr with ⟨stop,qn⟩|⟨go,step⟩
  ·refine wpAny_mono (T.done (X.compM xs js scope cl G.objs.size {s1 with heap:=G} (upd H1 D (.lst [])) fp) rfl rfl rfl hc i [] s3 _ H3 (fun _ _=>False) J3 (stat J3 fr3) st3 stop) (fun r s4 ⟨hr,J4⟩=>?_) fun _ _ z=>z
   subst hr;have I4:Inv X pins σ H3 s4:=by
    refine I3.call' (ch:=fp) (s':=s4) J4.os J4.base J4.hok J4.bare fun b hb=>?_
    obtain ⟨_,f1,f2,f3,f4,f5⟩:=hf3 b hb;exact ⟨f3,f1,f4,f5⟩
   refine hRR D G.objs.size H3 s4 I4 ⟨J4.free,?_,?_,?_,?_⟩ (let ⟨m,hm,_⟩:=J4.loc;⟨m,hm⟩) qn
   ·exact Nat.ne_of_gt I3.lt
   ·exact I3.sz
   ·exact fun y c e=>by obtain ⟨v,z⟩:=I3.cell y c e;exact Nat.ne_of_lt z.lt
   ·exact fun p hp=>Nat.ne_of_lt (Heap.lt_size (I3.pin p hp).1)
  ·refine wpAny_mono (T.item (X.compM xs js scope cl G.objs.size {s1 with heap:=G} (upd H1 D (.lst [])) fp) rfl rfl rfl hc i [] s3 _ H3 (fun _ _=>False) J3 (stat J3 fr3) st3 go) (fun r s4 ⟨u,hr,h4⟩=>?_) fun _ _ z=>z
   subst hr;refine wpAny_mono h4 (fun _ s5 ⟨v,H5,J5,r5,y5,st5,fr5⟩=>?_) fun _ _ z=>z
   have J5':=J5.pinned (stat J5 fr5) (T.obj _ _ st5);have back:∀{ws:List V} {H':Hp} {s':Shared} {pp},Inv (X.compM xs js scope cl G.objs.size {s1 with heap:=G} (upd H1 D (.lst [])) fp) pp (ws.map some++i8 σ js) H' s'→Inv (X.compM xs js scope cl G.objs.size {s1 with heap:=G} (upd H1 D (.lst [])) fp) pp (List.replicate xs.length none++i8 σ js) H' s':=
    fun {ws H' s' pp} JJ=>by
     have hl:(ws.map some++i8 σ js).length=(List.replicate xs.length none++i8 σ js).length:=by rw[JJ.len,← J3.len]
     have hw:ws.length=xs.length:=by simpa using hl
     refine JJ.weak hl.symm fun k v e=>?_
     by_cases hk:k<xs.length
     ·rw[List.getElem?_append_left (by simpa using hk),List.getElem?_replicate,if_pos hk]at e;cases e
     ·rw[List.getElem?_append_right (by simp;omega)]at e ⊢;simpa[hw]using e
   have seen:∀{H':Hp} {s':Shared} {σ':St},Inv (X.compM xs js scope cl G.objs.size {s1 with heap:=G} (upd H1 D (.lst [])) fp) ([]++r0c fp s5.heap) σ' H' s'→tn (i+1) s'.heap∧∀b∈fp,H' b=none:=fun {H' s' σ'} JJ=>by
    refine ⟨T.keep _ _ _ st5 fun b hb o e=>(JJ.pin (b,o) (List.mem_append_right _ (List.mem_append_right _ (z0f hb e)))).1,fun b hb=>?_⟩;obtain ⟨o,e,d⟩:=T.obj _ _ st5 b hb;exact (JJ.pin (b,o) (List.mem_append_right _ (List.mem_append_right _ (z0f hb e)))).2.1
   have st5':=step v H5 y5;refine wpAny_mono (hg G.objs.size {s1 with heap:=G} (upd H1 D (.lst [])) fp cl _ s5 _ H5 v u (fun σ' H'=>∃ws:List V,σ'=ws.map some++i8 σ js∧H'=H5∧tc (ws.map some++i8 σ js) H5 fun ok H4=>
    if ok=true then te (ws.map some++i8 σ js) H4 fun y H5=>H5 D=some (.lst ys)∧ys.length<sizeLine∧∃m',m'<n∧P (i+1) m' (ys++[y]) (upd H5 D (.lst (ys++[y])))else ∃m',m'<n∧P (i+1) m' ys H4) J5' r5 (gm.go _ _ _ _ ?_)) (fun _ s6 ⟨σ6,H6,J6,ws,e1,e2,h6⟩=>?_) fun _ _ z=>z
   ·unfold tgV at st5' ⊢;cases tup
    ·exact ⟨_,rfl,rfl,st5'⟩
    ·obtain ⟨a,ws,z1,z2,z3,z4⟩:=st5';exact ⟨a,ws,z1,z2,z3,ws,rfl,rfl,z4⟩
   subst e1 e2;refine wpAny_mono (ht G.objs.size {s1 with heap:=G} (upd H1 D (.lst [])) fp cl _ s6 _ _ _ J6 h6) (fun ok s7 ⟨H7,J7,q7⟩=>?_) fun _ _ z=>z
   cases ok with
   |false=>
    rw[if_neg Bool.false_ne_true]at q7 ⊢;obtain ⟨m',hm',p7⟩:=q7;obtain ⟨w1,w2⟩:=seen J7;exact ⟨m',hm',i+1,ys,H7,back J7.unpinned,w1,w2,p7⟩
   |true=>
    rw[if_pos rfl]at q7 ⊢;refine wpAny_mono (he G.objs.size {s1 with heap:=G} (upd H1 D (.lst [])) fp cl _ s7 _ H7 _ J7 q7) (fun y s8 ⟨yv,H8,J8,ry,hD8,hz8,m',hm',p8⟩=>?_) fun _ _ z=>z
    obtain ⟨z,its,nn,r,hl,e⟩:=J8.lstM hD8;refine call_meets F.slot_list_append ⟨_,e,rfl⟩ F.entry_list_append (F.args_list_append_2 _ _) (PySem.list_append D its.toArray nn y (by rw[List.size_toArray];omega)) ⟨e,?_⟩;have J9:=J8.lset (its':=its++[y]) (t':=s8.toks) hD8 e (f:=fun xs=>xs.push y) (by simp) (r.append (.cons ry .nil)) (by rw[List.length_append,List.length_singleton];omega);obtain ⟨w1,w2⟩:=seen J9;exact ⟨m',hm',i+1,ys++[yv],_,back J9.unpinned,w1,w2,p8⟩
 exact codeAny_compStart_list (loop _ rfl) (T.self X.A 0 _ _ _ (T.keep _ _ _ st fun b hb o e=>hold b o e) (loop _ rfl))
theorem e0l{xs:List Str}{target elt iter:Expr}{ifs:List Expr}{js:List Nat}{scope:Scope}{pos:Pos}{tup:Bool}{g:TG}{tc:TT}{te:TE}{wi:TI}(hc:X.calm=true)(S:CompOkM X xs js scope)(hi:PI X target iter wi)
 (hg:∀C s₀ H₀ fp cl,PG (X.compM xs js scope cl C s₀ H₀ fp) target g) (gm:TgM X.K tup xs.length g) (ht:∀C s₀ H₀ fp cl,PIfs (X.compM xs js scope cl C s₀ H₀ fp) ifs tc)
 (he:∀C s₀ H₀ fp cl,PE (X.compM xs js scope cl C s₀ H₀ fp) elt te) (hs:∀v,foldedSetIterable iter X.env v=pure v:=by intro _;rfl):
 PE X (.ListComp elt [⟨target,iter,ifs,0⟩] scope pos) (h0u X.K wi tup xs.length js tc te):=by
 intro pins s σ H Q I h;obtain ⟨cl,c0,c1,c2⟩:=s0w (scope:=scope) (env:=X.env) fun p hp hk=>I.ok.has p.1 (S.free p hp hk)
 rw[eval_ListComp];refine wpAny_comprehension_free (use:=none) rfl hs c0 S.kind S.loc (thn (hi pins s σ H _ I h) fun xv s₁ h₁=>thn h₁ fun itv s₂ h₂=>?_);obtain ⟨it,fp,tn,J,H',rfl,I2,T,st,hf,q⟩:=h₂;refine u0g (RR:=fun acc C=>compPost (model X.prog X.w) X.A X.xe none (EP X pins σ Q) acc C) hc S hg gm ht he c1 c2 I2 T st hf q ?_;rintro D C H' s' I' L ⟨m,hm⟩ qq;refine ⟨m,hm,fun h' hs'=>⟨.ref D,H',?_,rfl,qq⟩⟩;exact I'.turned (t':=s'.toks) (it:=C) (fun b o hb e=>hs'.extBut b o hb e) L.free L.ne (.inr L.yng) L.cell L.pin
theorem e0k{i:Nat}{y:Str}{py:Pos}{xs:List Str}{target elt iter:Expr}{ifs:List Expr}{js:List Nat}{scope:Scope}{pos spos:Pos}{tup:Bool}{g:TG}{tc:TT}{te:TE}{wi:TI}(hc:X.calm=true)(S:CompOkM X xs js scope)(hi:PI X target iter wi)
 (hg:∀C s₀ H₀ fp cl,PG (X.compM xs js scope cl C s₀ H₀ fp) target g) (gm:TgM X.K tup xs.length g) (ht:∀C s₀ H₀ fp cl,PIfs (X.compM xs js scope cl C s₀ H₀ fp) ifs tc)
 (he:∀C s₀ H₀ fp cl,PE (X.compM xs js scope cl C s₀ H₀ fp) elt te) (hN:X.N.Nodup) (hy:X.N[i]?=some y) (hl:Loc X.env.scope y)
 (hsw:swapsWith (.ListComp elt [⟨target,iter,ifs,0⟩] scope pos) (some (.Name y py)) spos.line X.env=pure true)
 (hs:∀v,foldedSetIterable iter X.env v=pure v:=by intro _;rfl) (hfn:X.fn y=true∨X.env.scope.names.lookup y=some .local:=by first |exact .inl rfl |exact .inr rfl |assumption):
 PS X (.Assign [.Name y py] (.ListComp elt [⟨target,iter,ifs,0⟩] scope pos) spos) (tAsg (h0u X.K wi tup xs.length js tc te) (o0t i)):=by
 intro pins s σ H D I h;obtain ⟨cl,c0,c1,c2⟩:=s0w (scope:=scope) (env:=X.env) fun p hp hk=>I.ok.has p.1 (S.free p hp hk)
 rw[exec_Assign_Name_used _ _ _ _ hsw];refine wpAny_bind (wpAny_standAt (wpAny_bind ?_));show wpAny _ _ (do let _←comprehension (.ListComp elt [⟨target,iter,ifs,0⟩] scope pos) scope X.env _ (newList []) false (eval iter X.env) (some (assign (.Name y py) X.env))) _ _ s;refine wpAny_bind (wpAny_mono (wpAny_comprehension_free (use:=some (assign (.Name y py) X.env)) (Q:=fun _ s'=>SP X pins D .next s') rfl hs c0 S.kind S.loc
  (thn (hi pins s σ H _ I h) fun xv s₁ h₁=>thn h₁ fun itv s₂ h₂=>?_)) (fun _ s' hq=>wpAny_pure (wpAny_pure hq)) fun _ _ e=>e)
 obtain ⟨it,fp,tn,J,H',rfl,I2,T,st,hf,q⟩:=h₂;refine u0g (Q:=fun v H1=>o0t i v σ H1 D.nx) (RR:=fun acc C=>compPost (model X.prog X.w) X.A X.xe (some (assign (.Name y py) X.env)) (fun _ s'=>SP X pins D .next s') acc C) hc S hg gm ht he c1 c2 I2 T st hf q ?_;rintro E C H' s' I' L ⟨m,hm⟩ qq;show wpAny _ _ (assign (.Name y py) X.env (.ref E)) _ _ _;refine wpAny_assign_Name (r0e (v:=.ref E) I' hN hy hl rfl (fun s2 I2 ⟨a,sb,ha⟩=>?_) hfn);have nca:C≠a:=by
  rcases ha with z |z
  ·rw[z];exact L.ne
  ·exact (L.cell y a z).symm
 refine ⟨m,hm.sameBut sb nca,fun h' hs'=>⟨_,H',?_,qq⟩⟩;exact I2.turned (t':=s2.toks) (it:=C) (fun b o hb e=>hs'.extBut b o hb e) L.free L.ne (.inr L.yng) L.cell L.pin
end
section
variable{X:Cx}{elts:List Expr}{x1:Nat}{tpos:Pos}
noncomputable def iZip(K:PySem.W.Frag)(ta:TA):TI:=fun σ H R=>ta σ H fun vs H1=>∃a a' b b',vs=[.ref a,.ref a']∧(∃xs,Sq K b H1 a xs)∧(∃ys,Sq K b' H1 a' ys)∧R (Itz K b b' a a') H1
theorem pi_zip{a b:Expr}{ta:TA}{p pos:Pos}(hg:Gl X "zip")(hm:X.mg "zip"=none)(ha:PA X [a,b] ta)(hs:starEach [a,b] X.env=[(false,eval a X.env),(false,eval b X.env)]:=by rfl)(hs2:starEach [b] X.env=[(false,eval b X.env)]:=by rfl):
 PI X (.Tuple elts x1 tpos) (.Call (.Name "zip" p) [a,b] [] pos) (iZip X.K ta):=by
 intro pins s σ H R I h;refine Call_ (v0v I hg hm bt_zip (PyProof.Rows.callWith_type1 (thn (ha pos pins s σ H _ I h) fun us s1 ⟨vs,H1,I1,r1,q1⟩=>?_) (by rw[hs,hs2]) (by rw[hs2];rfl)));obtain ⟨a1,a2,b1,b2,e,⟨xs,k1⟩,⟨ys,k2⟩,q⟩:=q1;subst e;cases r1 with
 |cons r rr=>
  cases rr with
  |cons r' rr=>
   cases rr;cases r;cases r';obtain ⟨its1,v1,p1,z1⟩:=I1.sq k1;obtain ⟨its2,v2,p2,z2⟩:=I1.sq k2;have l1:a1<s1.heap.objs.size:=by obtain ⟨o,e,_⟩:=p1.obj;exact Heap.lt_size e
   have l2:a2<s1.heap.objs.size:=by obtain ⟨o,e,_⟩:=p2.obj;exact Heap.lt_size e
   refine a0p p1 p2 fun h' hz hTI hTO i1 i2 kk=>wpAny_pyIter_zip (s:={s1 with heap:=h'}) hz ?_
   have ne:∀{c k:Nat},c<s1.heap.objs.size→c≠s1.heap.objs.size+k:=fun h z=>by omega
   have ap:∀{k l:Nat},k≠l→s1.heap.objs.size+k≠s1.heap.objs.size+l:=fun h z=>h (by omega)
   have ap0:∀{l:Nat},l≠0→s1.heap.objs.size≠s1.heap.objs.size+l:=fun h z=>h (by omega)
   refine ⟨_,[s1.heap.objs.size+4,s1.heap.objs.size+2,s1.heap.objs.size+3,s1.heap.objs.size,s1.heap.objs.size+1],_,_,H1,rfl,I1.kept (t':=s1.toks) kk,e0o b1 b2 a1 a2 _ _ _ _ _ ⟨ap (by decide),ap (by decide),ap0 (by decide),ap (by decide),ap (by decide),(ap0 (by decide)).symm,ap (by decide),(ap0 (by decide)).symm,ap (by decide),ap0 (by decide)⟩
    ⟨ne l1,ne l1,Nat.ne_of_lt l1,ne l1⟩ ⟨ne l2,ne l2,Nat.ne_of_lt l2,ne l2⟩,⟨hz,hTI,⟨_,_,hTO⟩,i1,i2⟩,fun c hc=>?_,q⟩
   have hle:s1.heap.objs.size≤c:=by
    have hc':c=s1.heap.objs.size+4∨c=s1.heap.objs.size+2∨c=s1.heap.objs.size+3∨c=s1.heap.objs.size∨c=s1.heap.objs.size+1:=by simpa using hc
    rcases hc' with e |e |e |e |e<;>(rw[e];omega)
   exact I1.fpOk hle (I1.hok.fresh hle)
noncomputable def iEnu(K:PySem.W.Frag)(ta:TA):TI:=fun σ H R=>ta σ H fun vs H1=>∃a b,vs=[.ref a]∧(∃xs,Sq K b H1 a xs)∧R (Ite K b a) H1
theorem a0n{a:Expr}{ta:TA}{p pos:Pos}(hg:Gl X "enumerate")(hm:X.mg "enumerate"=none)(ha:PA X [a] ta)(hs:starEach [a] X.env=[(false,eval a X.env)]:=by rfl):
 PI X (.Tuple elts x1 tpos) (.Call (.Name "enumerate" p) [a] [] pos) (iEnu X.K ta):=by
 intro pins s σ H R I h;refine Call_ (v0v I hg hm v0p (PyProof.Rows.callWith_type1 (thn (ha pos pins s σ H _ I h) fun us s1 ⟨vs,H1,I1,r1,q1⟩=>?_) hs rfl));obtain ⟨a1,b1,e,⟨xs,k1⟩,q⟩:=q1;subst e;cases r1 with
 |cons r rr=>
  cases rr;cases r;obtain ⟨its1,v1,p1,z1⟩:=I1.sq k1;have l1:a1<s1.heap.objs.size:=by obtain ⟨o,e,_⟩:=p1.obj;exact Heap.lt_size e
  refine a0q p1 fun h' he i1 kk=>wpAny_pyIter_enum (s:={s1 with heap:=h'}) he ?_
  refine ⟨_,[s1.heap.objs.size+1,s1.heap.objs.size],_,_,H1,rfl,I1.kept (t':=s1.toks) kk,h0x b1 a1 _ _ (Nat.succ_ne_self _) ⟨Nat.ne_of_lt (Nat.lt_succ_of_lt l1),Nat.ne_of_lt l1⟩,⟨⟨_,he⟩,i1⟩,fun c hc=>?_,q⟩;have hle:s1.heap.objs.size≤c:=by
   have hc':c=s1.heap.objs.size+1∨c=s1.heap.objs.size:=by simpa using hc
   rcases hc' with e |e<;>(rw[e];omega)
  exact I1.fpOk hle (I1.hok.fresh hle)
end
end L2
namespace L2
open PySem PySem.Spec PyProof.Rows
section
variable{X:Cx}
noncomputable def rCatA(K:PySem.W.Frag):R2:=fun x y H Q=>∃a b xs ys,x=.ref a∧y=.ref b∧SqT K H a xs∧SqT K H b ys∧xs.length+ys.length≤sizeLine∧
 (xs=[]→Q (.ref b) H)∧(xs≠[]→ys=[]→Q (.ref a) H)∧(xs≠[]→ys≠[]→∀p,H p=none→Q (.ref p) (upd H p (.tup (xs++ys))))
theorem a0m:OpR X (binaryOp .Add) (rCatA X.K):=by
 intro pins s σ H x y v u Q I rx ry h;obtain ⟨a,b,xs,ys,rfl,rfl,ha,hb,hz,q0,q1,q2⟩:=h;by_cases hx:xs=[]
 ·cases rx;cases ry;obtain ⟨its,r1,p1,_⟩:=I.tuple ha;obtain ⟨its2,r2,p2,_⟩:=I.tuple hb;have hv:its=[]:=r1.nil_iff.mpr hx;obtain ⟨⟨cls,dd,data,sl⟩,ho,hc,n,hd⟩:=id p1;obtain ⟨⟨cls2,dd2,data2,sl2⟩,ho2,hc2,n2,hd2⟩:=id p2;simp only at hc hd hc2 hd2;subst hc hd hc2 hd2;exact concat_meets ⟨_,ho,rfl⟩ ⟨_,ho2,rfl⟩ noFill_tuple_add seq_tuple_add PySem.F.slot_tuple_add PySem.F.entry_tuple_add (PySem.F.args_tuple_add_2 _ _) (tuple_addW0 a b its.toArray its2.toArray n n2 dd dd2 sl sl2 (by simp[hv])) ⟨ho,ho2,.ref b,H,I,rfl,q0 hx⟩
 ·exact b0w pins s σ H _ _ v u Q I rx ry ⟨a,b,xs,ys,rfl,rfl,ha,hb,hx,hz,q1 hx,q2 hx⟩
end
end L2
namespace DL
open PySem PySem.Spec L2
open PySem.W (XC)
section
variable{X:Cx}{Y:Y2}{W:XW}{tg:Expr}{K:Frag}
noncomputable def sqb:D→Bool | .tup _=>true |_=>false
theorem m0f{F:Hp}{d:D}{xs:List D}{x:V}(h:seqD d=some xs)(r:Rep K F d x):∃a vs b,x=.ref a∧Sq K b F a vs∧Reps K F xs vs:=by
 obtain ⟨a,vs,e,sq,z⟩:=d0a h r;rcases sq with sq |sq
 ·exact ⟨a,vs,false,e,sq,z⟩
 ·exact ⟨a,vs,true,e,sq,z⟩
theorem _root_.L2.Same.sq{F F':Hp}{b:Bool}{a:Addr}{xs:List V}(s:Same F F')(h:Sq K b F a xs):Sq K b F' a xs:=by
 cases b
 ·exact s.sqL h
 ·exact s.sqT h
noncomputable def zipD(ds es:List D):List D:=List.zipWith (fun d e=>D.tup [d,e]) ds es
theorem m0e{ds es:List D}{i:Nat}{c:D}(h:(zipD ds es)[i]?=some c):∃d e,ds[i]?=some d∧es[i]?=some e∧c=.tup [d,e]:=by
 unfold zipD at h;rw[List.getElem?_zipWith]at h;cases h1:ds[i]? with
 |none=>rw[h1]at h;cases h
 |some d=>
  cases h2:es[i]? with
  |none=>rw[h1,h2]at h;cases h
  |some e=>rw[h1,h2]at h;exact ⟨d,e,rfl,rfl,(Option.some.inj h).symm⟩
theorem e0j{ds es:List D}:(zipD ds es).length=min ds.length es.length:=by unfold zipD;simp
theorem a0l{F:Hp}{b b':Bool}{a a':Addr}{xs ys:List V}{ds es:List D}(h:Sq K b F a xs)(h':Sq K b' F a' ys)(r:Reps K F ds xs)(r':Reps K F es ys):SrcOk K (Itz K b b' a a') F (zipD ds es):=by
 refine ⟨fun i c F' H e s1 s2=>?_,fun F' H s1 s2=>?_⟩
 ·obtain ⟨d,e',e1,e2,rfl⟩:=m0e e;obtain ⟨v,ev,rv⟩:=r.get e1;obtain ⟨v',ev',rv'⟩:=r'.get e2;have q1:=(s1.trans s2).sq h;have q2:=(s1.trans s2).sq h';refine ⟨⟨xs,ys,v,v',q1,ev,q2,ev'⟩,fun u H' y=>?_⟩;obtain ⟨p,x,y,hp,rfl,rfl,k1,k2⟩:=y;have e3:=k1 xs q1;have e4:=k2 ys q2;rw[ev]at e3;rw[ev']at e4;cases e3;cases e4;exact .inr ⟨p,_,_,hp,rfl,rfl,rfl,Reps.cons (rv.mono s1) (Reps.cons (rv'.mono s1) Reps.nil)⟩
 ·rw[e0j];refine ⟨xs,ys,(s1.trans s2).sq h,(s1.trans s2).sq h',?_⟩;rw[r.length,r'.length];omega
noncomputable def y0j(k:Nat)(ds:List D):List D:=match ds with | []=>[]|d::r=>.tup [.int (k:Int),d]::y0j (k+1) r
theorem z9:∀(ds:List D) (k:Nat),(y0j k ds).length=ds.length
 | [],k=>rfl
 |d::r,k=>by unfold y0j;rw[List.length_cons,List.length_cons,z9 r]
theorem y9:∀{ds:List D} {k i:Nat} {c:D},(y0j k ds)[i]?=some c→∃d,ds[i]?=some d∧c=.tup [.int ((k+i:Nat):Int),d]
 | [],k,i,c,h=>by unfold y0j at h;simp at h
 |d::r,k,0,c,h=>by unfold y0j at h;simp at h;exact ⟨d,rfl,h.symm⟩
 |d::r,k,i+1,c,h=>by
  unfold y0j at h;rw[List.getElem?_cons_succ]at h;obtain ⟨e,h1,h2⟩:=y9 h;exact ⟨e,by simpa using h1,by rw[h2,show k+1+i=k+(i+1)by omega]⟩
theorem e0i{F:Hp}{b:Bool}{a:Addr}{xs:List V}{ds:List D}(h:Sq K b F a xs)(r:Reps K F ds xs):SrcOk K (Ite K b a) F (y0j 0 ds):=by
 refine ⟨fun i c F' H e s1 s2=>?_,fun F' H s1 s2=>?_⟩
 ·obtain ⟨d,e1,rfl⟩:=y9 e;obtain ⟨v,ev,rv⟩:=r.get e1;have q1:=(s1.trans s2).sq h;refine ⟨⟨xs,v,q1,ev⟩,fun u H' y=>?_⟩;obtain ⟨p,x,hp,rfl,rfl,k1⟩:=y;have e3:=k1 xs q1;rw[ev]at e3;cases e3;rw[Nat.zero_add];exact .inr ⟨p,_,_,hp,rfl,rfl,rfl,Reps.cons (rep_int.mpr rfl) (Reps.cons (rv.mono s1) Reps.nil)⟩
 ·rw[z9];exact ⟨xs,(s1.trans s2).sq h,r.length⟩
variable{a b:Expr}{ta:TA2}{p pos tpos:Pos}{elts:List Expr}{x1:Nat}
noncomputable def e0h(ta:TA2):TI2:=fun x ρ δ q=>ta x ρ δ fun ds ρ1 δ1=>match ds with | [d,e]=>(match seqD d,seqD e with |some xs,some ys=>q (zipD xs ys) ρ1 δ1 |_,_=>False)|_=>False
theorem c0w(hm:X.mg "zip"=none)(ha:PA2 X Y W [a,b] ta)(hg:Gl X "zip":=by rfl)(hs:starEach [a,b] X.env=[(false,eval a X.env),(false,eval b X.env)]:=by rfl)(hs2:starEach [b] X.env=[(false,eval b X.env)]:=by rfl):
 PI2 X Y W (.Tuple elts x1 tpos) (.Call (.Name "zip" p) [a,b] [] pos) (e0h ta):=pi2 (pi_zip hg hm ha.go hs hs2) fun σ H R ⟨F,ρ,δ,x,q,I,h,k,kx⟩=>by
 refine ⟨F,ρ,δ,x,_,I,h,fun ds vs F' H' ρ' δ' I' s' r' h'=>?_,kx⟩;split at h'
 ·rename_i d e;split at h'
  ·rename_i xs ys e1 e2;obtain ⟨v,u,rfl,r1,r2⟩:=b0e r';obtain ⟨a1,vs1,b1,rfl,q1,z1⟩:=m0f e1 r1;obtain ⟨a2,vs2,b2,rfl,q2,z2⟩:=m0f e2 r2;exact ⟨a1,a2,b1,b2,rfl,⟨_,I'.sub.sq q1⟩,⟨_,I'.sub.sq q2⟩,k _ _ F' H' ρ' δ' I' s' (a0l q1 q2 z1 z2) h'⟩
  ·exact h'.elim
 ·exact h'.elim
noncomputable def e0g(ta:TA2):TI2:=fun x ρ δ q=>ta x ρ δ fun ds ρ1 δ1=>match ds with | [d]=>(match seqD d with |some xs=>q (y0j 0 xs) ρ1 δ1 |none=>False)|_=>False
theorem h0t(hm:X.mg "enumerate"=none)(ha:PA2 X Y W [a] ta)(hg:Gl X "enumerate":=by rfl)(hs:starEach [a] X.env=[(false,eval a X.env)]:=by rfl):
 PI2 X Y W (.Tuple elts x1 tpos) (.Call (.Name "enumerate" p) [a] [] pos) (e0g ta):=pi2 (a0n hg hm ha.go hs) fun σ H R ⟨F,ρ,δ,x,q,I,h,k,kx⟩=>by
 refine ⟨F,ρ,δ,x,_,I,h,fun ds vs F' H' ρ' δ' I' s' r' h'=>?_,kx⟩;split at h'
 ·split at h'
  ·rename_i xs e1;obtain ⟨v,rfl,r1⟩:=q8 r';obtain ⟨a1,vs1,b1,rfl,q1,z1⟩:=m0f e1 r1;exact ⟨a1,b1,rfl,⟨_,I'.sub.sq q1⟩,k _ _ F' H' ρ' δ' I' s' (e0i q1 z1) h'⟩
  ·exact h'.elim
 ·exact h'.elim
end
noncomputable def tgD(tup:Bool)(n:Nat)(d:D):Option (List D):=match tup,d with
 |false,d=>some [d]
 |true,.tup ds=>if ds.length=n then some ds else none
 |true,_=>none
noncomputable def compM(tup:Bool)(n:Nat)(tc:TT2)(te:TE2)(js:List Nat)(ρ:En)(q:List D→Dk→Prop):List D→List D→Dk→Prop
 | [],acc,δ=>q acc δ
 |d::ds,acc,δ=>match tgD tup n d with
  |some es=>tc (fun _ _ _ _=>False) (es.map .val++capt ρ js) δ fun b ρ1 δ1=>if b=true then te (fun _ _ _ _=>False) ρ1 δ1 fun e _ δ2=>acc.length<1000∧compM tup n tc te js ρ q ds (acc++[e]) δ2 else compM tup n tc te js ρ q ds acc δ1
  |none=>False
section
variable{K:Frag}{Y:Y2}{F H:Hp}{σ:St}{ρ:En}{δ:Dk}
theorem q0a{H₀:Hp}{sf:Option Addr}{cs:En}{ss:St}(hc:∀(i:Nat) (c:Cell),cs[i]?=some c→CellOk K F H H₀ sf c (ss[i]?).join):∀{es:List D} {ws:List V},Reps K F es ws→∀(i:Nat) (c:Cell),(es.map Cell.val++cs)[i]?=some c→CellOk K F H H₀ sf c ((ws.map some++ss:St)[i]?).join
 | [],ws,r,i,c,e=>by rw[reps_nil.mp r];exact hc i c e
 |d::es,ws,r,0,c,e=>by
  obtain ⟨v,l,rfl,r1,r2⟩:=reps_cons.mp r;cases e;exact ⟨v,rfl,r1⟩
 |d::es,ws,r,i+1,c,e=>by
  obtain ⟨v,l,rfl,r1,r2⟩:=reps_cons.mp r;exact q0a hc r2 i c e
theorem I2.blockM{es:List D}{ws:List V}{js:List Nat}(I:I2 K Y F H σ ρ δ)(r:Reps K F es ws):I2 K ⟨F,H,δ,none⟩ F H (ws.map some++i8 σ js) (es.map .val++capt ρ js) δ:=by
 have vals:∀(i:Nat) c,(es.map Cell.val++capt ρ js)[i]?=some c→(∃e,c=.val e)∨c=.no:=fun i c e=>by
  have m:=List.mem_of_getElem? e;rcases List.mem_append.mp m with m |m
  ·obtain ⟨d,_,rfl⟩:=List.mem_map.mp m;exact .inl ⟨d,rfl⟩
  ·unfold capt at m;obtain ⟨j,_,rfl⟩:=List.mem_map.mp m;unfold t9;split
   ·exact .inl ⟨_,rfl⟩
   ·exact .inr rfl
 have no:∀i a,¬o7 (es.map .val++capt ρ js) (ws.map some++i8 σ js) i a:=fun i a o=>by
  rcases o.1 with ⟨es,q⟩|⟨C,fs,q⟩|⟨kvs,q⟩
  ·rcases vals i _ q with ⟨d,z⟩|z<;>cases z
  ·rcases vals i _ q with ⟨d,z⟩|z<;>cases z
  ·rcases vals i _ q with ⟨d,z⟩|z<;>cases z
 refine ⟨Ran.refl I.sub I.ran.dk,q0a (fun i c e=>?_) r,by simp[i8,capt,r.length],fun i j a _ o _=>absurd o (no i a),fun i a o=>absurd o (no i a)⟩;unfold capt at e;rw[List.getElem?_map,Option.map_eq_some_iff]at e;obtain ⟨j,ej,rfl⟩:=e;unfold i8;rw[List.getElem?_map,ej];show CellOk K F H H none _ (σ[j]?).join;cases ec:ρ[j]? with
 |none=>trivial
 |some c=>
  have w:=I.env j c ec;cases c with
  |val e=>exact w
  |_=>trivial
end
section
variable{X:Cx}{Y:Y2}{W:XW}{px pos:Pos}{target elt iter:Expr}{ifs:List Expr}{xs:List Str}{js:List Nat}{scope:Scope}{tc:TT2}{te:TE2}{ti:TI2}{tup:Bool}{g:TG}
noncomputable def tcY(K:Frag)(tc:TT2):TT:=fun σ H Q=>∃Y',upT K Y' W0 tc σ H Q
theorem h0s{σ:St}{ρ1:En}{δ1:Dk}{F1 H1:Hp}{J:It}{n:Nat}{ds:List D}{q:List D→Dk→Prop}{Q:Addr→Hp→Prop}(I1:I2 X.K Y F1 H1 σ ρ1 δ1)(src:SrcOk X.K J F1 ds)(h1:compM tup n tc te js ρ1 q ds [] δ1)
 (k:∀D F' H' δ' acc vs,I2 X.K Y F' H' σ ρ1 δ'→Same F1 F'→H' D=some (.lst vs)→F' D=none→Y.H₀ D=none→Off δ' D→(∀j a,o7 ρ1 σ j a→a≠D)→Reps X.K F' acc vs→q acc δ'→Q D H'):
 ∀D,H1 D=none→h0v X.K J tup n (i8 σ js) D (tcY X.K tc) (teY X.K te) H1 fun H2=>Q D H2:=by
 intro D hD;have hF:F1 D=none:=I1.sub.free hD;have h0:=I1.ran.fresh hD;have no:∀j a,o7 ρ1 σ j a→a≠D:=fun j a o=>by
  obtain ⟨u,hu⟩:=I1.ownAddr o;exact v0 hu hD
 have off:Off δ1 D:=fun b es e w=>by
  obtain ⟨_,vs,q2,_⟩:=I1.ran.dk b es e;rw[←w,hD]at q2;cases q2
 have I0:I2 X.K Y F1 (upd H1 D (.lst [])) σ ρ1 δ1:=by
  refine ⟨⟨fun b u e=>by rw[u0 (v0 e hF)];exact I1.sub _ _ e,fun b fs e=>?_,fun b u e f=>by rw[u0 (v0 e h0)];exact I1.ran.keep b u e f,I1.ran.f0,I1.ran.fnew,I1.ran.dto⟩,fun j c e=>?_,I1.len,I1.apart,I1.off⟩
  ·obtain ⟨q1,ws,q2,q3⟩:=I1.ran.dk b fs e;exact ⟨q1,ws,by rw[u0 (Ne.symm (off b fs e))];exact q2,q3⟩
  ·have w:=I1.env j c e;cases c with
   |no=>trivial
   |val d=>exact w
   |own fs=>
    obtain ⟨b,ws,e1,h1,f1,g1,r1⟩:=w;exact ⟨b,ws,e1,by rw[u0 (v0 h1 hD)];exact h1,f1,g1,r1⟩
   |obj C fs=>
    obtain ⟨b,dx,ws,e1,es1,h1,h2,f1,f2,g1,g2,r1⟩:=w;exact ⟨b,dx,ws,e1,es1,by rw[u0 (v0 h1 hD)];exact h1,by rw[u0 (v0 h2 hD)];exact h2,f1,f2,g1,g2,r1⟩
   |ownD fs=>
    obtain ⟨b,ws,e1,h1,f1,g1,r1⟩:=w;exact ⟨b,ws,e1,by rw[u0 (v0 h1 hD)];exact h1,f1,g1,r1⟩
 refine ⟨fun i m ys H2=>∃F2 δ2 acc,I2 X.K Y F2 H2 σ ρ1 δ2∧Same F1 F2∧H2 D=some (.lst ys)∧F2 D=none∧Off δ2 D∧Reps X.K F2 acc ys∧compM tup n tc te js ρ1 q (ds.drop i) acc δ2∧i≤ds.length∧m=ds.length-i,⟨ds.length,F1,δ1,[],I0,Same.refl F1,g0,hF,off,Reps.nil,by simpa using h1,Nat.zero_le _,by simp⟩,?_⟩;rintro i m ys H2 ⟨F2,δ2,acc,I2',s2,hD2,hF2,of2,r2,h2,hi,rfl⟩;refine ⟨hD2,?_⟩;cases e:ds[i]? with
 |none=>
  have hl:ds.length≤i:=List.getElem?_eq_none_iff.mp e;have ei:i=ds.length:=by omega
  subst ei;rw[List.drop_length]at h2;exact .inl ⟨src.stop F2 H2 s2 I2'.sub,k D F2 H2 δ2 acc ys I2' s2 hD2 hF2 h0 of2 no r2 h2⟩
 |some d=>
  have hl:i<ds.length:=(List.getElem?_eq_some_iff.mp e).1;obtain ⟨go,yl⟩:=src.item i d F2 H2 e s2 I2'.sub;refine .inr ⟨go,fun v H3 y=>?_⟩;have hy:=yl v H3 y;obtain ⟨F3,I3,s3,r3,nf3⟩:=I2'.yld hy;have hD3:H3 D=some (.lst ys):=by
   rcases hy with ⟨rfl,_⟩|⟨p,vs,es,hp,rfl,_⟩
   ·exact hD2
   ·rw[u0 (v0 hD2 hp)];exact hD2
  have hF3:F3 D=none:=nf3 D _ hD2 hF2;have ed:ds.drop i=d::ds.drop (i+1):=by rw[List.drop_eq_getElem_cons hl];congr 1;exact (List.getElem?_eq_some_iff.mp e).2
  rw[ed]at h2;unfold compM at h2;split at h2
  ·rename_i es ees;have body:∀ws:List V,Reps X.K F3 es ws→tcY X.K tc (ws.map some++i8 σ js) H3 fun ok H4=>if ok=true then teY X.K te (ws.map some++i8 σ js) H4 fun y H5=>H5 D=some (.lst ys)∧ys.length<sizeLine∧∃m',m'<ds.length-i∧
    ∃F2 δ2 acc,I2 X.K Y F2 (upd H5 D (.lst (ys++[y]))) σ ρ1 δ2∧Same F1 F2∧upd H5 D (.lst (ys++[y])) D=some (.lst (ys++[y]))∧F2 D=none∧Off δ2 D∧Reps X.K F2 acc (ys++[y])∧compM tup n tc te js ρ1 q (ds.drop (i+1)) acc δ2∧i+1≤ds.length∧m'=ds.length-(i+1)
    else ∃m',m'<ds.length-i∧∃F2 δ2 acc,I2 X.K Y F2 H4 σ ρ1 δ2∧Same F1 F2∧H4 D=some (.lst ys)∧F2 D=none∧Off δ2 D∧Reps X.K F2 acc ys∧compM tup n tc te js ρ1 q (ds.drop (i+1)) acc δ2∧i+1≤ds.length∧m'=ds.length-(i+1):=by
    intro ws rw';have kept:∀{F4 H4 δ4},Ran X.K F3 H3 δ2 F4 H4 δ4→H4 D=some (.lst ys)∧F4 D=none∧Off δ4 D:=fun {F4 H4 δ4} R=>by
     refine ⟨R.keep D _ hD3 of2,?_,fun b es e w=>?_⟩
     ·cases z:F4 D with
      |none=>rfl
      |some u=>
       rcases R.fnew D u z with w |w
       ·rw[hF3]at w;cases w
       ·rw[hD3]at w;cases w
     ·cases hd:δ2 with
      |none=>have:=R.dto.2 b es e hd;rw[←w,hD3]at this;cases this
      |some p=>
       obtain ⟨c,gs⟩:=p;obtain ⟨es',z⟩:=R.dto.1 c gs hd;rw[e]at z;cases z;exact of2 b gs hd w
    refine ⟨⟨F3,H3,δ2,none⟩,F3,_,δ2,_,_,I3.blockM rw',h2,fun bb F4 H4 ρ4 δ4 I4 s4 h4=>?_,fun _ _ _ _ _ _ _ _ _ _ _ z=>z⟩;obtain ⟨hD4,hF4,of4⟩:=kept I4.ran;cases bb with
    |false=>
     rw[if_neg Bool.false_ne_true]at h4 ⊢;exact ⟨ds.length-(i+1),by omega,F4,δ4,acc,I3.call I4.ran,(s2.trans s3).trans s4,hD4,hF4,of4,r2.mono (s3.trans s4),h4,hl,rfl⟩
    |true=>
     rw[if_pos rfl]at h4 ⊢;refine ⟨⟨F3,H3,δ2,none⟩,F4,ρ4,δ4,_,_,I4,h4,fun d5 v5 F5 H5 ρ5 δ5 I5 s5 r5 h5=>?_,fun _ _ _ _ _ _ _ _ _ _ _ z=>z⟩;obtain ⟨hD5,hF5,of5⟩:=kept I5.ran;have hlen:acc.length<1000:=h5.1;have s35:Same F3 F5:=s4.trans s5;exact ⟨hD5,by rw[r2.length];exact Nat.lt_of_lt_of_le hlen (by decide),ds.length-(i+1),by omega,F5,δ5,acc++[d5],(I3.call I5.ran).side hF5 h0 of5 ⟨_,hD5⟩ no,(s2.trans s3).trans s35,g0,hF5,of5,(r2.mono (s3.trans s35)).append (Reps.cons r5 Reps.nil),h5.2,hl,rfl⟩
   unfold tgD at ees;split at ees
   ·cases ees;exact body [v] (Reps.cons r3 Reps.nil)
   ·rename_i _ es0;split at ees
    ·rename_i hn;cases ees;obtain ⟨a,vs,rfl,ea,z⟩:=rep_tup.mp r3;exact ⟨a,vs,rfl,SqT.of (I3.sub _ _ ea),by rw[z.length];exact hn,body vs z⟩
    ·cases ees
   ·cases ees
  ·exact h2.elim
structure PIf2(X:Cx)(Y:Y2)(W:XW)(ifs:List Expr)(t:TT2):Prop where
 go:PIfs X ifs (upT X.K Y W t)
noncomputable def a9:TT2:=fun _ ρ δ q=>q true ρ δ
theorem z8:PIf2 X Y W [] a9:=⟨fun pins s σ H Q I ⟨F,ρ,δ,x,q,I2',h,k,kx⟩=>e0n pins s σ H Q I (k true F H ρ δ I2' (Same.refl F) h)⟩
theorem o0f{c:Expr}(h:PT2 X Y W c tc):PIf2 X Y W [c] tc:=⟨e0m h.go⟩
variable{i:Nat}{y:Str}{py spos:Pos}
noncomputable def y0e(ti:TI2)(tup:Bool)(n:Nat)(js:List Nat)(tc:TT2)(te:TE2):TE2:=fun x ρ δ q=>ti x ρ δ fun ds ρ1 δ1=>compM tup n tc te js ρ1 (fun acc δ2=>q (.lst acc) ρ1 δ2) ds [] δ1
theorem m0d{n:Nat}{σ:St}{H:Hp}{Q:VK}(h:upE X.K Y W (y0e ti tup n js tc te) σ H Q):h0u X.K (upI2 X.K Y W ti) tup n js (tcY X.K tc) (teY X.K te) σ H Q:=by
 obtain ⟨F,ρ,δ,x,q,I,h,k,kx⟩:=h;refine ⟨F,ρ,δ,x,_,I,h,fun ds J F1 H1 ρ1 δ1 I1 s1 src h1=>h0s (Q:=fun D H2=>Q (.ref D) H2) I1 src h1 fun D F' H' δ' acc vs I' s' hD hF h0 of no r hq=>?_,kx⟩;exact k _ _ _ _ ρ1 δ' (I'.ice hF h0 of hD no) ((s1.trans s').trans (Same.new hF)) (rep_lst.mpr ⟨D,vs,rfl,g0,r.mono (Same.new hF)⟩) hq
variable(hc:X.calm=true)(S:CompOkM X xs js scope)(hi:PI2 X Y W target iter ti)(hg:(xs++js.map (fun j=>X.N.getD j "")).Nodup→∀C s₀ H₀ fp cl,PG (X.compM xs js scope cl C s₀ H₀ fp) target g)(gm:TgM X.K tup xs.length g)
 (ht:∀C s₀ H₀ fp cl Y',PIf2 (X.compM xs js scope cl C s₀ H₀ fp) Y' W0 ifs tc) (he:∀C s₀ H₀ fp cl Y',PE2 (X.compM xs js scope cl C s₀ H₀ fp) Y' W0 elt te)
include hc S hi hg gm ht he
theorem w6(hs:∀v,foldedSetIterable iter X.env v=pure v:=by intro _;rfl):PE2 X Y W (.ListComp elt [⟨target,iter,ifs,0⟩] scope pos) (y0e ti tup xs.length js tc te):=
 pe2 (e0l (tc:=tcY X.K tc) (te:=teY X.K te) hc S hi.go (hg S.nd) gm (fun C s₀ H₀ fp cl pins s σ H Q I ⟨Y',h⟩=>(ht C s₀ H₀ fp cl Y').go pins s σ H Q I h) (fun C s₀ H₀ fp cl pins s σ H Q I ⟨Y',h⟩=>(he C s₀ H₀ fp cl Y').go pins s σ H Q I h) hs) fun σ H Q h=>m0d h
theorem r0z(hN:X.N.Nodup)(hy:X.N[i]?=some y:=by rfl)(hl:Loc X.env.scope y:=by walk_at "v2")
 (hsw:swapsWith (.ListComp elt [⟨target,iter,ifs,0⟩] scope pos) (some (.Name y py)) spos.line X.env=pure true:=by rfl) (hs:∀v,foldedSetIterable iter X.env v=pure v:=by intro _;rfl) (hfn:X.fn y=true∨X.env.scope.names.lookup y=some .local:=by walk_at "v1"):
 PS2 X Y W (.Assign [.Name y py] (.ListComp elt [⟨target,iter,ifs,0⟩] scope pos) spos) (i0i i (y0e ti tup xs.length js tc te)):=
 ps2 (e0k (i:=i) (tc:=tcY X.K tc) (te:=teY X.K te) hc S hi.go (hg S.nd) gm (fun C s₀ H₀ fp cl pins s σ H Q I ⟨Y',h⟩=>(ht C s₀ H₀ fp cl Y').go pins s σ H Q I h) (fun C s₀ H₀ fp cl pins s σ H Q I ⟨Y',h⟩=>(he C s₀ H₀ fp cl Y').go pins s σ H Q I h) hN hy hl hsw hs hfn) fun E1 σ H ⟨F,ρ,δ,E2,I,h,er⟩=>
  m0d ⟨F,ρ,δ,E2.xc,_,I,h,fun d v F' H' ρ' δ' I' s' r' h'=>er.nx _ F' H' _ δ' (I'.put r') s' h',er.xc⟩
omit hc S hi hg gm ht he in
noncomputable def t2OwnM(i:Nat)(ti:TI2)(tup:Bool)(n:Nat)(js:List Nat)(tc:TT2)(te:TE2):TS2:=fun E ρ δ=>ti E.xc ρ δ fun ds ρ1 δ1=>compM tup n tc te js ρ1 (fun acc δ2=>E.nx (ρ1.set i (.own acc)) δ2) ds [] δ1
end
end DL
namespace DL
open PySem PySem.Spec L2
open PySem.W (XC)
mutual
noncomputable def lfD:D→Bool
 | .lst _=>false | .scr _=>false | .dic _=>false | .dwk _=>false
 | .tup xs=>lfDs xs
 | .ins _ fs=>lfFs fs | .exc _ fs=>lfFs fs
 |_=>true
noncomputable def lfDs:List D→Bool
 | []=>true
 |d::ds=>lfD d&&lfDs ds
noncomputable def lfFs:List (Str×D)→Bool
 | []=>true
 |(_,d)::ds=>lfD d&&lfFs ds
end
mutual
theorem Rep.lf{K:Frag}{F F':Hp}(s:∀b o,F b=some o→(∀vs,o≠.lst vs)→F' b=some o):∀{d:D} {v:V},lfD d=true→Rep K F d v→Rep K F' d v
 | .non,v,_,h=>by unfold Rep at h ⊢; exact h
 | .bl b,v,_,h=>by unfold Rep at h ⊢; exact h
 | .int i,v,_,h=>by unfold Rep at h ⊢; exact h
 | .str x,v,_,h=>by unfold Rep at h ⊢; exact h
 | .lst ds,v,l,h=>by unfold lfD at l;cases l
 | .tup ds,v,l,h=>by unfold Rep at h ⊢; unfold lfD at l;obtain ⟨a,vs,e,q,r⟩:=h;exact ⟨a,vs,e,s _ _ q (fun vs z=>by cases z),Reps.lf s l r⟩
 | .scr ds,v,l,h=>by unfold lfD at l;cases l
 | .dic ds,v,l,h=>by unfold lfD at l;cases l
 | .dwk ds,v,l,h=>by unfold lfD at l;cases l
 | .ins C fs,v,l,h=>by unfold Rep at h ⊢; unfold lfD at l;obtain ⟨a,dx,vs,e,q,q2,r⟩:=h;exact ⟨a,dx,vs,e,s _ _ q (fun vs z=>by cases z),s _ _ q2 (fun vs z=>by cases z),RepF.lf s l r⟩
 | .exc C fs,v,l,h=>by
  unfold Rep at h ⊢;unfold lfD at l;obtain ⟨a,fr,e,h⟩:=h;refine ⟨a,fr,e,?_⟩;rcases h with ⟨e1,q⟩|⟨d,us,q,q2,r⟩
  ·exact .inl ⟨e1,s _ _ q (fun vs z=>by cases z)⟩
  ·exact .inr ⟨d,us,s _ _ q (fun vs z=>by cases z),s _ _ q2 (fun vs z=>by cases z),RepF.lf s l r⟩
 | .ref a,v,_,h=>by unfold Rep at h ⊢; exact h
 | .ty n,v,_,h=>by unfold Rep at h ⊢; exact h
theorem Reps.lf{K:Frag}{F F':Hp}(s:∀b o,F b=some o→(∀vs,o≠.lst vs)→F' b=some o):∀{ds:List D} {vs:List V},lfDs ds=true→Reps K F ds vs→Reps K F' ds vs
 | [],vs,_,h=>by unfold Reps at h ⊢; exact h
 |d::ds,vs,l,h=>by
  unfold Reps at h ⊢;unfold lfDs at l;rw[Bool.and_eq_true]at l;obtain ⟨v,r,e,q,z⟩:=h;exact ⟨v,r,e,Rep.lf s l.1 q,Reps.lf s l.2 z⟩
theorem RepF.lf{K:Frag}{F F':Hp}(s:∀b o,F b=some o→(∀vs,o≠.lst vs)→F' b=some o):∀{ds:List (Str×D)} {vs:List (Str×V)},lfFs ds=true→RepF K F ds vs→RepF K F' ds vs
 | [],vs,_,h=>by unfold RepF at h ⊢; exact h
 |(x,d)::ds,vs,l,h=>by
  unfold RepF at h ⊢;unfold lfFs at l;rw[Bool.and_eq_true]at l;obtain ⟨v,r,e,q,z⟩:=h;exact ⟨v,r,e,Rep.lf s l.1 q,RepF.lf s l.2 z⟩
end
inductive BA where |v (d:D)|o (i:Nat)
noncomputable def RepB(K:Frag)(F:Hp)(σ:St):BA→V→Prop
 | .v d,v=>Rep K F d v
 | .o i,v=>σ[i]?=some (some v)
inductive RepsB(K:Frag)(F:Hp)(σ:St):List BA→List V→Prop
 |nil:RepsB K F σ [] []
 |cons {b v bs vs}:RepB K F σ b v→RepsB K F σ bs vs→RepsB K F σ (b::bs) (v::vs)
noncomputable abbrev TB2:=XK2→En→Dk→(List BA→En→Dk→Prop)→Prop
noncomputable def upB(K:Frag)(Y:Y2)(W:XW)(t:TB2):TA:=fun σ H Q=>∃F ρ δ x q,I2 K Y F H σ ρ δ∧t x ρ δ q∧(∀bs vs F' H' ρ' δ',I2 K Y F' H' σ ρ' δ'→Same F F'→RepsB K F' σ bs vs→q bs ρ' δ'→Q vs H')∧XR K Y W F x
structure PB2(X:Cx)(Y:Y2)(W:XW)(es:List Expr)(t:TB2):Prop where
 go:PA X es (upB X.K Y W t)
section
variable{X:Cx}{Y:Y2}{W:XW}{e:Expr}{es:List Expr}{te:TE2}{t:TB2}{x:Str}{p pos:Pos}
noncomputable def t2BNil:TB2:=fun _ ρ δ q=>q [] ρ δ
noncomputable def t2BV(te:TE2)(t:TB2):TB2:=fun x ρ δ q=>te x ρ δ fun d ρ1 δ1=>t x ρ1 δ1 fun bs ρ2 δ2=>q (.v d::bs) ρ2 δ2
noncomputable def t2BO(i:Nat)(t:TB2):TB2:=fun x ρ δ q=>hasV ρ i=true∧t x ρ δ fun bs ρ2 δ2=>q (.o i::bs) ρ2 δ2
noncomputable def argB(ρ:En):BA→Option D
 | .v d=>some d
 | .o i=>match ρ[i]? with |some (.own ds)=>some (.lst ds)|some (.val d)=>some d |_=>none
noncomputable def argsB(ρ:En):List BA→Option (List D)
 | []=>some []
 |b::bs=>match argB ρ b,argsB ρ bs with |some d,some ds=>some (d::ds)|_,_=>none
noncomputable def c0v(ρ:En)(σ:St)(b:Addr):Prop:=∃(i:Nat) (ds:List D),ρ[i]?=some (Cell.own ds)∧σ[i]?=some (some (V.ref b))
open Classical in
noncomputable def lend(ρ:En)(σ:St)(F H:Hp):Hp:=fun b=>if c0v ρ σ b then H b else F b
open Classical in
noncomputable def back(ρ:En)(σ:St)(F:Hp):Hp:=fun b=>if c0v ρ σ b then none else F b
section
variable{K:Frag}{F H F' H':Hp}{σ:St}{ρ:En}{δ δ':Dk}
end
noncomputable def a0k(sp:Sp2)(t:TB2):TE2:=fun x ρ δ q=>t x ρ δ fun bs ρ1 δ1=>match argsB ρ1 bs with
 |some ds=>sp ds none (fun d _=>lfD d=true∧q d ρ1 δ1) fun C fs _=>lfFs fs=true∧x C fs ρ1 δ1
 |none=>False
variable{k:Nat}{ps:List Str}{sp:Sp2}
end
end DL
namespace DL
open PySem PySem.Spec L2
open PySem.W (XC)
section
variable{X:Cx}{K:Frag}
noncomputable def k0l:List D→Option (List Int)
 | []=>some []
 | .int i::r=>(k0l r).map (i::·)
 |_=>none
noncomputable def fewD(ns:List Int):Prop:=ns.length≤1000∧∀n∈ns,-(2^40)≤n∧n≤2^40
noncomputable def sumF:F1:=fun ds q=>match ds with | [d]=>(match seqD d with |some xs=>(match k0l xs with |some ns=>fewD ns∧q (.int ns.sum)|none=>False)|none=>False)|_=>False
noncomputable def rAddE(K:Frag):R2:=fun x y H Q=>b0h K x y H Q∨rCatA K x y H Q
noncomputable def addG:F2:=fun d1 d2 q=>match d1,d2 with
 | .int i,.int j=>q (.int (i+j))
 | .lst xs,.lst ys=>xs.length+ys.length≤1000∧q (.lst (xs++ys))
 | .tup xs,.tup ys=>xs.length+ys.length≤1000∧q (.tup (xs++ys))
 |_,_=>False
theorem b5:OpR X (binaryOp .Add) (rAddE X.K):=m0l b0g a0m
theorem y8:OpD K (rAddE K) addG:=by
 intro Y F H σ ρ δ x y d1 d2 Q1 q I r1 r2 h' k;unfold addG at h';split at h'
 ·exact .inl (d_add Y F H σ ρ δ x y _ _ Q1 q I r1 r2 h' k)
 ·exact .inl (d_add Y F H σ ρ δ x y _ _ Q1 q I r1 r2 h' k)
 ·rename_i xs ys;have r1':=r1;have r2':=r2;obtain ⟨a,vs,rfl,e1,z1⟩:=rep_tup.mp r1;obtain ⟨b,us,rfl,e2,z2⟩:=rep_tup.mp r2;refine .inr ⟨a,b,vs,us,rfl,rfl,SqT.of (I.sub _ _ e1),SqT.of (I.sub _ _ e2),q0l (by rw[z1.length,z2.length];exact h'.1),fun hv=>?_,fun hv hu=>?_,fun _ _ p hp=>k _ _ _ _ (I.alloc hp) (I.grow hp) (I.tup hp (z1.append z2)) h'.2⟩
  ·have:xs=[]:=List.eq_nil_of_length_eq_zero (by rw[←z1.length,hv];rfl);subst this;exact k _ _ F H I (Same.refl F) r2' h'.2
  ·have:ys=[]:=List.eq_nil_of_length_eq_zero (by rw[←z2.length,hu];rfl);subst this;exact k _ _ F H I (Same.refl F) (by rw[List.append_nil];exact r1') h'.2
 ·exact h'.elim
noncomputable def a0j:FM:=fun ds es q=>match es with | [.int k,e]=>ds.length<1000∧(0≤k∧k≤1000)∧q .non (ds.take (min k.toNat ds.length)++[e]++ds.drop (min k.toNat ds.length))|_=>False
end
section
variable{X:Cx}{Y:Y2}{W:XW}{a:Expr}{ta:TA2}{p p2 pos pos2:Pos}{i:Nat}{x:Str}{pos':Pos}
noncomputable def lrQ(ds:List D)(q:List D→Prop):Prop:=match ds with | [.int n]=>(0≤n∧n≤1000)∧q (rngD 0 n.toNat)|_=>False
noncomputable def t2LR(ta:TA2):TE2:=fun x ρ δ q=>ta x ρ δ fun ds ρ1 δ1=>lrQ ds fun l=>q (.lst l) ρ1 δ1
noncomputable def a0i(i:Nat)(ta:TA2):TS2:=fun E ρ δ=>ta E.xc ρ δ fun ds ρ1 δ1=>lrQ ds fun l=>E.nx (ρ1.set i (.own l)) δ1
end
structure KNo(K:Frag)(C:Addr):Prop where
 n:PySem.W.kitOne K (.type "NoneType") (.ref C)=some false
 b:PySem.W.kitOne K (.type "bool") (.ref C)=some false
 i:PySem.W.kitOne K (.type "int") (.ref C)=some false
 s:PySem.W.kitOne K (.type "str") (.ref C)=some false
 l:PySem.W.kitOne K (.type "list") (.ref C)=some false
 t:PySem.W.kitOne K (.type "tuple") (.ref C)=some false
 d:PySem.W.kitOne K (.type "dict") (.ref C)=some false
theorem m0c{tup:Bool}{n:Nat}{tc:TT2}{te:TE2}{js:List Nat}{ρ:En}{q:List D→Dk→Prop}{ds:List D}{acc:List D}{δ:Dk}(P:Nat→List D→Dk→Prop)(h0:P 0 acc δ)
 (step:∀(i:Nat) (d:D) (acc:List D) (δ:Dk) (rest:List D→Dk→Prop),ds[i]?=some d→P i acc δ→(∀acc' δ',P (i+1) acc' δ'→rest acc' δ')→match tgD tup n d with
  |some es=>tc (fun _ _ _ _=>False) (es.map .val++capt ρ js) δ fun b ρ1 δ1=>if b=true then te (fun _ _ _ _=>False) ρ1 δ1 fun e _ δ2=>acc.length<1000∧rest (acc++[e]) δ2 else rest acc δ1
  |none=>False)
 (fin:∀acc δ,P ds.length acc δ→q acc δ):compM tup n tc te js ρ q ds acc δ:=by
 have key:∀(k i:Nat) (acc:List D) (δ:Dk),i+k=ds.length→P i acc δ→compM tup n tc te js ρ q (ds.drop i) acc δ:=by
  intro k
  induction k with
  |zero=>
   intro i acc δ hi p;rw[List.drop_eq_nil_of_le (by omega)];have:i=ds.length:=by omega
   subst this;exact fin acc δ p
  |succ k ih=>
   intro i acc δ hi p;have hl:i<ds.length:=by omega
   rw[List.drop_eq_getElem_cons hl];have:=step i ds[i] acc δ (compM tup n tc te js ρ q (ds.drop (i+1))) (by simp[hl]) p fun acc' δ' p'=>ih (i+1) acc' δ' (by omega) p'
   unfold compM;exact this
 have:=key ds.length 0 acc δ (by omega) h0
 rwa[List.drop_zero]at this
end DL
namespace L2
open PySem PySem.Spec PyProof.Rows
section
variable{X:Cx}
noncomputable def eqVs:List V→List V→Bool
 | [],[]=>true
 |x::xs,y::ys=>eqV x y&&eqVs xs ys
 |_,_=>false
theorem x0g:∀(xs ys:List V),((List.range (min xs.length ys.length)).all (fun j=>match xs[j]?,ys[j]? with |some x,some y=>eqV x y |_,_=>false)&&xs.length==ys.length)=eqVs xs ys
 | [],[]=>rfl
 | [],_::_=>by simp[eqVs]
 |_::_,[]=>by simp[eqVs]
 |x::xs,y::ys=>by
  have ih:=x0g xs ys;have e:min (x::xs).length (y::ys).length=min xs.length ys.length+1:=by simp only[List.length_cons];omega
  rw[e,List.range_succ_eq_map,List.all_cons,List.all_map];unfold eqVs;rw[←ih,← Bool.and_assoc];simp only[List.length_cons,List.getElem?_cons_zero];congr 1;simp
noncomputable def rEqT(K:PySem.W.Frag)(neg:Bool):R2:=fun x y H Q=>∃a b xs ys,x=.ref a∧y=.ref b∧SqT K H a xs∧SqT K H b ys∧xs.all z0v=true∧ys.all z0v=true∧Q (.bl (if neg then !eqVs xs ys else eqVs xs ys)) H
theorem u0f{A:Around}{s:Shared}{xs ys:List V}{us ws:List Value}(r:Vals xs us)(r':Vals ys ws)(f:xs.all z0v=true)(f':ys.all z0v=true):∀j (h1:j<us.toArray.size) (h2:j<ws.toArray.size),SeqAt.EqAt A s us.toArray[j] ws.toArray[j] (match xs[j]?,ys[j]? with |some x,some y=>eqV x y |_,_=>false):=by
 intro j h1 h2;have l1:j<xs.length:=by rw[r.length];simpa using h1
 have l2:j<ys.length:=by rw[r'.length];simpa using h2
 obtain ⟨u,hu,ru⟩:=r.get (List.getElem?_eq_getElem l1);obtain ⟨w,hw,rw'⟩:=r'.get (List.getElem?_eq_getElem l2);have eu:us.toArray[j]=u:=by
  have:us[j]?=some us.toArray[j]:=by simp
  rw[hu]at this;exact (Option.some.inj this).symm
 have ew:ws.toArray[j]=w:=by
  have:ws[j]?=some ws.toArray[j]:=by simp
  rw[hw]at this;exact (Option.some.inj this).symm
 rw[eu,ew,List.getElem?_eq_getElem l1,List.getElem?_eq_getElem l2];exact d0k ru rw' (List.all_eq_true.mp f _ (List.getElem_mem l1)) (List.all_eq_true.mp f' _ (List.getElem_mem l2))
theorem op_eqT(hu:X.A.units<cLine):OpR X (compareOp .Eq) (rEqT X.K false):=by
 intro pins s σ H x y v u Q I rx ry h;obtain ⟨a,b,xs,ys,rfl,rfl,ha,hb,f1,f2,q⟩:=h;cases rx;cases ry;obtain ⟨its,r,p,_⟩:=I.tuple ha;obtain ⟨its2,r2,p2,_⟩:=I.tuple hb;refine SeqAt.eq_tupleAt p p2 hu (u0f r r2 f1 f2) ⟨.bl (eqVs xs ys),H,I,?_,q⟩;rw[←x0g,r.length,r2.length];simp only[List.size_toArray];rfl
theorem op_neT(hu:X.A.units<cLine):OpR X (compareOp .NotEq) (rEqT X.K true):=by
 intro pins s σ H x y v u Q I rx ry h;obtain ⟨a,b,xs,ys,rfl,rfl,ha,hb,f1,f2,q⟩:=h;cases rx;cases ry;obtain ⟨its,r,p,_⟩:=I.tuple ha;obtain ⟨its2,r2,p2,_⟩:=I.tuple hb;refine SeqAt.RcNeAt.tuples p p2 hu (u0f r r2 f1 f2) X.prog X.w X.xe _ ⟨.bl (!eqVs xs ys),H,I,?_,q⟩;rw[←x0g,r.length,r2.length];simp only[List.size_toArray];rfl
end
end L2
namespace DL
open PySem PySem.Spec L2
open PySem.W (XC)
section
variable{X:Cx}{K:Frag}
noncomputable def rEqE(K:Frag):R2:=fun x y H Q=>rEq x y H Q∨rEqT K false x y H Q
noncomputable def rNeE(K:Frag):R2:=fun x y H Q=>rNe x y H Q∨rEqT K true x y H Q
theorem m0b(hu:X.A.units<cLine):OpR X (compareOp .Eq) (rEqE X.K):=m0l r0b (op_eqT hu)
theorem p0z(hu:X.A.units<cLine):OpR X (compareOp .NotEq) (rNeE X.K):=m0l r0a (op_neT hu)
noncomputable def eqDs:List D→List D→Bool
 | [],[]=>true
 |x::xs,y::ys=>eqV (toV x) (toV y)&&eqDs xs ys
 |_,_=>false
theorem s0q:∀xs ys:List D,eqVs (xs.map toV) (ys.map toV)=eqDs xs ys
 | [],[]=>rfl
 | [],_::_=>rfl
 |_::_,[]=>rfl
 |x::xs,y::ys=>by rw[List.map_cons,List.map_cons];unfold eqVs eqDs;rw[s0q xs ys]
noncomputable def eqG:F2:=fun d1 d2 q=>match eqD d1 d2 with
 |some b=>q (.bl b)
 |none=>match d1,d2 with | .tup xs,.tup ys=>(xs.all i6&&ys.all i6)=true∧q (.bl (eqDs xs ys))|_,_=>False
noncomputable def neG:F2:=fun d1 d2 q=>match eqD d1 d2 with
 |some b=>q (.bl (!b))
 |none=>match d1,d2 with | .tup xs,.tup ys=>(xs.all i6&&ys.all i6)=true∧q (.bl (!eqDs xs ys))|_,_=>False
theorem e0f:OpD K (rEqE K) eqG:=by
 intro Y F H σ ρ δ x y d1 d2 Q1 q I r1 r2 h' k;unfold eqG at h';split at h'
 ·rename_i b e;exact .inl (d_eq Y F H σ ρ δ x y d1 d2 Q1 q I r1 r2 (by unfold eqF;rw[e];exact h') k)
 ·split at h'
  ·rename_i xs ys;obtain ⟨hf,h'⟩:=h';rw[Bool.and_eq_true]at hf;obtain ⟨a,vs,rfl,e1,z1⟩:=rep_tup.mp r1;obtain ⟨b,us,rfl,e2,z2⟩:=rep_tup.mp r2;obtain ⟨e3,e4⟩:=f6 hf.1 z1;obtain ⟨e5,e6⟩:=f6 hf.2 z2;refine .inr ⟨a,b,vs,us,rfl,rfl,SqT.of (I.sub _ _ e1),SqT.of (I.sub _ _ e2),e4,e6,?_⟩;rw[if_neg Bool.false_ne_true,e3,e5,s0q];exact k _ _ F H I (Same.refl F) (rep_bl.mpr rfl) h'
  ·exact h'.elim
theorem h0r:OpD K (rNeE K) neG:=by
 intro Y F H σ ρ δ x y d1 d2 Q1 q I r1 r2 h' k;unfold neG at h';split at h'
 ·rename_i b e;exact .inl (d_ne Y F H σ ρ δ x y d1 d2 Q1 q I r1 r2 (by unfold neF;rw[e];exact h') k)
 ·split at h'
  ·rename_i xs ys;obtain ⟨hf,h'⟩:=h';rw[Bool.and_eq_true]at hf;obtain ⟨a,vs,rfl,e1,z1⟩:=rep_tup.mp r1;obtain ⟨b,us,rfl,e2,z2⟩:=rep_tup.mp r2;obtain ⟨e3,e4⟩:=f6 hf.1 z1;obtain ⟨e5,e6⟩:=f6 hf.2 z2;refine .inr ⟨a,b,vs,us,rfl,rfl,SqT.of (I.sub _ _ e1),SqT.of (I.sub _ _ e2),e4,e6,?_⟩;rw[if_pos rfl,e3,e5,s0q];exact k _ _ F H I (Same.refl F) (rep_bl.mpr rfl) h'
  ·exact h'.elim
noncomputable def cutD(xs:List D)(lo hi:Option Int):List D:=(xs.drop (HT.sIx xs.length 0 lo)).take (HT.sIx xs.length xs.length hi-HT.sIx xs.length 0 lo)
theorem Reps.cut{F:Hp}{ds:List D}{vs:List V}{lo hi:Option Int}(r:Reps K F ds vs):Reps K F (cutD ds lo hi) (cutV vs lo hi):=by
 unfold cutD cutV;rw[r.length];exact (r.drop _).take _
noncomputable abbrev TO2:=XK2→En→Dk→(Option Int→En→Dk→Prop)→Prop
variable{Y:Y2}{W:XW}{e lo hi:Expr}{te tl th:TE2}{pos p2:Pos}
noncomputable def upO(K:Frag)(Y:Y2)(W:XW)(t:TO2):TO:=fun σ H Q=>∃F ρ δ x q,I2 K Y F H σ ρ δ∧t x ρ δ q∧(∀o F' H' ρ' δ',I2 K Y F' H' σ ρ' δ'→Same F F'→q o ρ' δ'→Q o H')∧XR K Y W F x
structure PO2(X:Cx)(Y:Y2)(W:XW)(e:Option Expr)(t:TO2):Prop where
 go:PO X e (upO X.K Y W t)
noncomputable def t2ON:TO2:=fun _ ρ δ q=>q none ρ δ
noncomputable def t2OI(te:TE2):TO2:=fun x ρ δ q=>te x ρ δ fun d ρ1 δ1=>match d with | .int i=>q (some i) ρ1 δ1 |_=>False
theorem r0y:PO2 X Y W none t2ON:=⟨fun pins s σ H Q I ⟨F,ρ,δ,x,q,I',h,k,kx⟩=>b0y pins s σ H Q I (k none F H ρ δ I' (Same.refl F) h)⟩
theorem r0x(h:PE2 X Y W e te):PO2 X Y W (some e) (t2OI te):=⟨fun pins s σ H Q I ⟨F,ρ,δ,x,q,I',h',k,kx⟩=>b0x h.go pins s σ H Q I ⟨F,ρ,δ,x,_,I',h',fun d v F1 H1 ρ1 δ1 I1 s1 r1 h1=>by
 cases d with
 |int i=>exact ⟨i,rep_int.mp r1,k (some i) F1 H1 ρ1 δ1 I1 s1 h1⟩
 |_=>exact h1.elim,kx⟩⟩
noncomputable def slF(d:D)(l u:Option Int)(q:D→Prop):Prop:=match d with
 | .lst xs=>q (.lst (cutD xs l u))
 | .tup xs=>¬(HT.sIx xs.length 0 l=0∧HT.sIx xs.length xs.length u=xs.length)∧q (.tup (cutD xs l u))
 |_=>False
noncomputable def t2Sl(te:TE2)(tl th:TO2):TE2:=fun x ρ δ q=>te x ρ δ fun d ρ1 δ1=>tl x ρ1 δ1 fun l ρ2 δ2=>th x ρ2 δ2 fun u ρ3 δ3=>slF d l u fun e=>q e ρ3 δ3
theorem m0a{lo hi:Option Expr}{tl th:TO2}(he:PE2 X Y W e te)(hl:PO2 X Y W lo tl)(hu:PO2 X Y W hi th):PE2 X Y W (.Subscript e (.Slice lo hi none p2) pos) (t2Sl te tl th):=pe2 (m0w (SlR.or b0v sl_tup) he.go hl.go hu.go) fun σ H Q ⟨F,ρ,δ,x,q,I,h,k,kx⟩=>by
 refine ⟨F,ρ,δ,x,_,I,h,fun d v F1 H1 ρ1 δ1 I1 s1 r1 h1=>⟨F1,ρ1,δ1,x,_,I1,h1,fun l F2 H2 ρ2 δ2 I2' s2 h2=>⟨F2,ρ2,δ2,x,_,I2',h2,fun u F3 H3 ρ3 δ3 I3 s3 h3=>?_,kx.mono (s1.trans s2)⟩,kx.mono s1⟩,kx⟩;have sa:=(s1.trans s2).trans s3;have r3:=r1.mono (s2.trans s3);unfold slF at h3;cases d with
 |lst xs=>
  obtain ⟨a,vs,rfl,ea,z⟩:=rep_lst.mp r3;exact .inl ⟨a,vs,rfl,SqL.of (I3.sub _ _ ea),fun p hp=>k _ _ _ _ ρ3 δ3 (I3.alloc hp) (sa.trans (I3.grow hp)) (I3.lst hp z.cut) h3⟩
 |tup xs=>
  obtain ⟨a,vs,rfl,ea,z⟩:=rep_tup.mp r3;exact .inr ⟨a,vs,rfl,SqT.of (I3.sub _ _ ea),by rw[z.length];exact h3.1,fun p hp=>k _ _ _ _ ρ3 δ3 (I3.alloc hp) (sa.trans (I3.grow hp)) (I3.tup hp z.cut) h3.2⟩
 |_=>exact h3.elim
end
theorem r0w{te:TE2}{js:List Nat}{ρ:En}{q:List D→Dk→Prop}:∀(ds acc:List D) (δ:Dk),compM false 1 a9 te js ρ q ds acc δ=j8 te js ρ q ds acc δ
 | [],acc,δ=>rfl
 |d::ds,acc,δ=>by
  show (te (fun _ _ _ _=>False) (.val d::capt ρ js) δ fun e _ δ2=>acc.length<1000∧compM false 1 a9 te js ρ q ds (acc++[e]) δ2)=te (fun _ _ _ _=>False) (.val d::capt ρ js) δ fun e _ δ1=>acc.length<1000∧j8 te js ρ q ds (acc++[e]) δ1
  congr 1;funext e ρ1 δ1;rw[r0w ds (acc++[e]) δ1]
theorem a0h{X:Cx}{Y:Y2}{W:XW}{pos:Pos}{i i' p p'}(k v:Int):PE2 X Y W (.Dict [some (.Constant (.int k) i p)] [.Constant (.int v) i' p'] pos) (t2C (.dic [(.inl k,.int v)])):=a0r
end DL
namespace L2
open PySem PySem.Spec PyProof.Rows PySem.W PySem.SeqAt
open AutoSeq1 (wpAny_loadPart')
open MeetsSeq MeetsSeq2 MeetsSeq3 SeqRoads2
section
variable{prog:Program}{w:World}{A:Around}{E:Value→Shared→Prop}{s:Shared}
end
section
variable{B:Nat}
end
section
variable{prog:Program}{w:World}{A:Around}{E:Value→Shared→Prop}{s:Shared}
end
end L2
namespace L2
open PySem PySem.Spec PyProof.Rows PySem.W
section
variable{X:Cx}
end
end L2
namespace DL
open PySem PySem.Spec L2
end DL
namespace L2
open PySem PySem.Spec PyProof.Rows PySem.W
open AutoSeq1 (wpAny_loadPart')
theorem v0k:fillsNumberSlot (.type "tuple") "mul"=pure false:=
 PySem.fillsNumberSlot_seq (id:="tuple.__mul__") (r:=some (.builtin "tuple.__rmul__")) PySem.F.slot_tuple_mul.lookup (by decide +kernel) PySem.F.slot_tuple_rmul.lookup (by decide +kernel)
theorem p0y:seqRepeat? (.type "tuple")=pure (some (.builtin "tuple.__mul__")):=by
 unfold seqRepeat?;rw[PySem.seqSlot_of (T:="tuple") (name:="__mul__") (id:="tuple.__mul__") PySem.F.slot_tuple_mul.lookup (by decide +kernel),PySem.seqSlot_of (T:="tuple") (name:="__rmul__") (id:="tuple.__rmul__") PySem.F.slot_tuple_rmul.lookup (by decide +kernel)];rfl
theorem t0m(a:Int)(t:Tok)(l:Addr)(dd:Option Addr)(items:Array Value)(n:Nat)(sl:Array (Option Value)):
 Meets (Builtin.«int.__rmul__» ⟨[.int a t,.ref l],[]⟩) (fun _ R s=>s.heap.get? l=some {cls:=.type "tuple",dict:=dd,data:=.seq items n,slots:=sl}∧R (.ok (.ret Value.notImplemented)) s):=
 .of_wp fun prog w A R s h=>by obtain ⟨hp,g,d,tk,os⟩:=s;obtain ⟨hl,h⟩:=h;wp_walk;exact ⟨_,rfl,h⟩
theorem o0e(l:Addr)(dd:Option Addr)(items:Array Value)(n:Nat)(sl:Array (Option Value))(x:Int)(u:Tok)(h0:2≤x)(h1:x≤1000)(hi:items.isEmpty=false)(hz:items.size*x.toNat≤1000):
 Meets (Builtin.«tuple.__mul__» ⟨[.ref l,.int x u],[]⟩) (fun _ R s=>s.heap.get? l=some {cls:=.type "tuple",dict:=dd,data:=.seq items n,slots:=sl}∧R (.ok (.ret (Value.ref s.heap.objs.size))) {s with heap:=s.heap.push {cls:=Value.type "tuple",data:=Data.seq (List.foldl (fun x1 x2=>x1++x2) #[] (List.replicate x.toNat items))},toks:=s.toks}):=
 .of_wp fun prog w A R s h=>by
  obtain ⟨hp,g,d,tk,os⟩:=s;obtain ⟨hl,h⟩:=h;have c1:(decide (x< -(2^63))||decide (x≥2^63))=false:=by simp;omega
  wp_walk using wpAny_loadPart' hl
  rw[if_neg (by rw[c1];decide)]
  wp_walk using wpAny_loadPart' hl
  have c2:(items.isEmpty||x==1)=false:=by rw[hi];simp;omega
  rw[if_neg (by rw[c2];decide)];have c3:(decide (x≤0)||items.isEmpty)=false:=by rw[hi];simp;omega
  rw[if_neg (by rw[c3];decide)];have hx:x=((x.toNat:Nat):Int):=by omega
  have hm:(items.size:Int)*x≤1000:=by
   rw[hx];have:((items.size*x.toNat:Nat):Int)≤1000:=by omega
   rw[Int.natCast_mul]at this;exact this
  have c4:¬((items.size:Int)*x>(2^63-1)/8):=by
   have:(1000:Int)≤(2^63-1)/8:=by decide
   omega
  have c5:¬Builtin.Tuple.tupleTooMany ((items.size:Int)*x)=true:=by
   unfold Builtin.Tuple.tupleTooMany;have:(1000:Int)≤(sizeLine:Int):=by rw[sizeLine_eq];decide
   simp;omega
  dsimp only;rw[if_neg c4,if_neg c5];have hzs:(List.foldl (fun x1 x2=>x1++x2) #[] (List.replicate x.toNat items)).size≤sizeLine:=by
   have e:=x0m items.toList x.toNat [];rw[List.nil_append,Array.toArray_toList]at e;have e2:(List.foldl (fun x1 x2=>x1++x2) #[] (List.replicate x.toNat items)).size=x.toNat*items.size:=by
    rw[show List.foldl (fun x1 x2=>x1++x2) #[] (List.replicate x.toNat items)=_ from e,List.size_toArray,o0o,Array.length_toList]
   rw[e2,Nat.mul_comm,sizeLine_eq];omega
  generalize List.foldl (fun x1 x2=>x1++x2) #[] (List.replicate x.toNat items)=z at h hzs ⊢;unfold Builtin.Tuple.tupleExact;exact wpAny_bind (wpAny_newObj_type (wpAny_pure ⟨_,rfl,h⟩) hzs)
section
variable{X:Cx}
noncomputable def rRepT(K:PySem.W.Frag):R2:=fun x y H Q=>∃l k xs,x=.ref l∧y=.int k∧SqT K H l xs∧2≤k∧k≤1000∧xs≠[]∧xs.length*k.toNat≤1000∧
 ∀p,H p=none→Q (.ref p) (upd H p (.tup (List.replicate k.toNat xs).flatten))
theorem a0g:OpR X (binaryOp .Mult) (rRepT X.K):=by
 intro pins s σ H x y v u Q I rx ry h;obtain ⟨l,k,xs,rfl,rfl,hH,h1,h2,hne,hz,q⟩:=h;cases rx;obtain ⟨t,rfl⟩:=ry;obtain ⟨its,r,⟨⟨cls,dd,data,sl⟩,e,hc,n,hd⟩,zz⟩:=I.tuple hH;simp only at hc hd;subst hc hd;have hl:=r.length;have hemp:its.toArray.isEmpty=false:=by
  cases its with
  |nil=>exact absurd (r.nil_iff.mp rfl) hne
  |cons a b=>rfl
 have hnew:List.foldl (fun x1 x2=>x1++x2) #[] (List.replicate k.toNat its.toArray)=(List.replicate k.toNat its).flatten.toArray:=by
  have:=x0m its k.toNat [];rw[List.nil_append]at this;exact this
 refine wpAny_binaryOp_repeat_ref (T:="tuple") (U:="int") (by decide) ⟨_,e,rfl⟩ (fun s'=>typeIs_int s' k t) v0k PySem.F.fills_int_mul PySem.F.slot_int_rmul p0y PySem.F.slot_int_index.lookup
  (call_meets PySem.F.slot_int_rmul (typeIs_int s k t) PySem.F.entry_int_rmul (PySem.F.args_int_rmul_2 _ _) (t0m k t l dd its.toArray n sl)
   ⟨e,rfl,⟨_,e,rfl⟩,call_meets PySem.F.slot_tuple_mul ⟨_,e,rfl⟩ PySem.F.entry_tuple_mul (PySem.F.args_tuple_mul_2 _ _) (o0e l dd its.toArray n sl k t h1 h2 hemp (by rw[List.size_toArray,← hl];exact hz)) ⟨e,?_⟩⟩)
 rw[hnew];refine ⟨.ref s.heap.objs.size,_,I.laid (t':=s.toks) (o:=.tup (List.replicate k.toNat xs).flatten) (fun b ob q=>Heap.get?_push_of_some _ q) (Nat.le_refl _) ?_,rfl,q _ (I.hok.fresh (Nat.le_refl _))⟩;exact ⟨by rw[o0o,Nat.mul_comm,sizeLine_eq];omega,_,r.rep k.toNat,TupD.new _ _⟩
end
end L2
namespace DL
open PySem PySem.Spec L2
noncomputable def h0q:F2:=fun d1 d2 q=>match d1,d2 with
 | .tup xs,.int k=>xs.length*k.toNat≤1000∧2≤k∧k≤1000∧xs≠[]∧q (.tup (List.replicate k.toNat xs).flatten)
 |_,_=>False
theorem d_repT{K:PySem.W.Frag}:OpD K (rRepT K) h0q:=by
 intro Y F H σ ρ δ x y d1 d2 Q1 q I r1 r2 h' k;unfold h0q at h';split at h'
 ·rename_i xs n;obtain ⟨a,vs,rfl,e1,z1⟩:=rep_tup.mp r1;obtain ⟨h1,h2,h3,hn,h4⟩:=h';refine ⟨a,n,vs,rfl,rep_int.mp r2,SqT.of (I.sub _ _ e1),h2,h3,fun z=>hn ?_,by rw[z1.length];exact h1,fun p hp=>k _ _ _ _ (I.alloc hp) (I.grow hp) (I.tup hp (z1.rep _)) h4⟩;subst z;cases xs with
  |nil=>rfl
  |cons d ds=>obtain ⟨_,_,e,_⟩:=reps_cons.mp z1;cases e
 ·exact h'.elim
end DL
namespace L2
end L2
namespace DL
open PySem PySem.Spec L2
end DL
namespace DL
open PySem PySem.Spec L2
theorem a0f{X:Cx}{Y:Y2}{W:XW}{ss:List Stmt}{t t':TS2}(h:PSs2 X Y W ss t)(k:∀E ρ δ,t' E ρ δ→t E ρ δ):PSs2 X Y W ss t':=⟨m0k h.go fun D σ H ⟨F,ρ,δ,E2,I,q,er⟩=>⟨F,ρ,δ,E2,I,k _ _ _ q,er⟩⟩
end DL
namespace L2
open PySem PySem.Spec PyProof.Rows PySem.W
end L2
namespace DL
open PySem PySem.Spec L2
section
variable{X:Cx}{Y:Y2}{W:XW}{x:Str}{p tpos pos:Pos}{e j:Expr}{te tj:TE2}
noncomputable def t2AugV(i:Nat)(g:Int→Int→Int)(tj te:TE2):TS2:=fun E ρ δ=>(mutV ρ δ i).isSome=true∧tj E.xc ρ δ fun dj ρ1 δ1=>match mutV ρ1 δ1 i,dj with
 |some (ds,_),.int j=>(match atI ds j with
  |some (.int a)=>te E.xc ρ1 δ1 fun d ρ2 δ2=>(match d,mutV ρ2 δ2 i with
   | .int b,some (ds',put)=>(match ixN ds'.length j with |some m=>E.nx (put (ds'.set m (.int (g a b)))).1 (put (ds'.set m (.int (g a b)))).2 |none=>False)
   |_,_=>False)
  |_=>False)
 |_,_=>False
end
end DL
namespace DL
open PySem PySem.Spec L2
theorem k0k{te:TE2}{js:List Nat}{ρ:En}{q:List D→Dk→Prop}{ds:List D}{δ:Dk}(I:Nat→Dk→Prop)(R:Nat→D→D→Prop)(hl:ds.length≤1000)(h0:I 0 δ)
 (step:∀(i:Nat) (d:D) (δ':Dk),ds[i]?=some d→I i δ'→∀Q:D→Dk→Prop,(∀e δ1,R i d e→I (i+1) δ1→Q e δ1)→te (fun _ _ _ _=>False) (.val d::capt ρ js) δ' fun e _ δ1=>Q e δ1)
 (fin:∀acc δ',acc.length=ds.length→(∀i d e,ds[i]?=some d→acc[i]?=some e→R i d e)→I ds.length δ'→q acc δ'):j8 te js ρ q ds [] δ:=by
 refine s0a (fun i acc δ'=>acc.length=i∧(∀j d e,ds[j]?=some d→acc[j]?=some e→R j d e)∧I i δ') ⟨rfl,fun j d e _ h=>(by simp at h),h0⟩ ?_ ?_
 ·rintro i d acc δ' rest hi ⟨rfl,hR,hI⟩ hrest;have hlt:=(List.getElem?_eq_some_iff.mp hi).1;refine step _ d δ' hi hI (fun e δ1=>acc.length<1000∧rest (acc++[e]) δ1) fun e δ1 hr hI1=>⟨by omega,hrest _ _ ⟨by rw[List.length_append];rfl,fun j d' e' h1 h2=>?_,hI1⟩⟩
  rcases Nat.lt_or_ge j acc.length with hj |hj
  ·rw[List.getElem?_append_left hj]at h2;exact hR j d' e' h1 h2
  ·rw[List.getElem?_append_right hj]at h2;have hj2:j-acc.length=0:=by
    have:=(List.getElem?_eq_some_iff.mp h2).1;simp at this;omega
   rw[hj2]at h2;have hj3:j=acc.length:=by omega
   subst hj3;rw[hi]at h1;cases h1;cases h2;exact hr
 ·rintro acc δ' ⟨h1,h2,h3⟩;exact fin acc δ' h1 h2 h3
theorem h0p{te:TE2}{js:List Nat}{ρ:En}{q:List D→Dk→Prop}{ds:List D}{δ:Dk}(f:D→D)(hl:ds.length≤1000)
 (step:∀d∈ds,∀Q:D→Dk→Prop,Q (f d) δ→te (fun _ _ _ _=>False) (.val d::capt ρ js) δ fun e _ δ1=>Q e δ1) (fin:q (ds.map f) δ):j8 te js ρ q ds [] δ:=by
 refine k0k (fun _ δ'=>δ'=δ) (fun _ d e=>e=f d) hl rfl (fun i d δ' hi h Q hQ=>?_) fun acc δ' h1 h2 h3=>?_
 ·subst h;exact step d (List.mem_of_getElem? hi) Q (hQ _ _ rfl rfl)
 ·subst h3;have:acc=ds.map f:=by
   apply List.ext_getElem?;intro i;rw[List.getElem?_map];cases e1:ds[i]? with
   |none=>
    rw[List.getElem?_eq_none_iff]at e1;rw[List.getElem?_eq_none (by omega)];rfl
   |some d=>
    have hi:=(List.getElem?_eq_some_iff.mp e1).1;have hi2:i<acc.length:=by omega
    rw[List.getElem?_eq_getElem hi2,h2 i d _ e1 (List.getElem?_eq_getElem hi2)];rfl
  rw[this];exact fin
theorem p0x{tup:Bool}{n:Nat}{tc:TT2}{te:TE2}{js:List Nat}{ρ:En}{q:List D→Dk→Prop}{ds:List D}{δ:Dk}(p:D→Bool)(f:D→D)(hl:ds.length≤1000)
 (step:∀d∈ds,∀Q:Option D→Dk→Prop,(p d=true→Q (some (f d)) δ)→(p d=false→Q none δ)→∃es,tgD tup n d=some es∧tc (fun _ _ _ _=>False) (es.map .val++capt ρ js) δ fun b ρ1 δ1=>if b=true then te (fun _ _ _ _=>False) ρ1 δ1 fun e _ δ2=>Q (some e) δ2 else Q none δ1)
 (fin:q ((ds.filter p).map f) δ):compM tup n tc te js ρ q ds [] δ:=by
 refine m0c (fun i acc δ'=>acc=((ds.take i).filter p).map f∧δ'=δ) ⟨by simp,rfl⟩ ?_ ?_
 ·rintro i d acc δ' rest hi ⟨rfl,rfl⟩ hrest;have hlt:=(List.getElem?_eq_some_iff.mp hi).1;have hlen:(((ds.take i).filter p).map f).length<1000:=by
   rw[List.length_map];have:=List.length_filter_le p (ds.take i);rw[List.length_take]at this;omega
  obtain ⟨es,e1,e2⟩:=step d (List.mem_of_getElem? hi) (fun o δ1=>match o with |some e=>(((ds.take i).filter p).map f).length<1000∧rest (((ds.take i).filter p).map f++[e]) δ1 |none=>rest (((ds.take i).filter p).map f) δ1)
   (fun hp=>⟨hlen,hrest _ _ ⟨by rw[List.take_succ,hi,List.filter_append,List.map_append];simp[hp],rfl⟩⟩) fun hp=>hrest _ _ ⟨by rw[List.take_succ,hi,List.filter_append,List.map_append];simp[hp],rfl⟩
  rw[e1];exact e2
 ·rintro acc δ' ⟨rfl,rfl⟩;rw[List.take_length];exact fin
theorem h0o(c:List Int):(c.map D.int).all i6=true:=by
 rw[List.all_eq_true];intro d hd;obtain ⟨x,_,rfl⟩:=List.mem_map.mp hd;rfl
end DL
namespace L2
open PySem PySem.Spec PyProof.Rows
section
variable{prog:Program}{w:World}{A:Around}{E:Value→Shared→Prop}{s:Shared}
end
section
variable{prog:Program}{w:World}{A:Around}{E:Value→Shared→Prop}{s:Shared}
end
section
variable{X:Cx}
end
end L2
namespace DL
open PySem PySem.Spec L2
section
variable{X:Cx}{Y:Y2}{W:XW}{a e tg:Expr}{ta:TA2}{te:TE2}{p p2 pos pos2:Pos}
noncomputable def t2TR(ta:TA2):TE2:=fun x ρ δ q=>ta x ρ δ fun ds ρ1 δ1=>lrQ ds fun l=>q (.tup l) ρ1 δ1
noncomputable def e0e(g:G2)(te:TE2):TS2:=fun E ρ δ=>te E.xc ρ δ fun d ρ1 δ1=>match g d ρ1 with |some ρ2=>E.nx ρ2 δ1 |none=>False
theorem s2_unp{g:TG}{g2:G2}(he:PE2 X Y W e te)(hg:PG X tg g)(hd:TgD X.K g g2)(hs:swapsWithSole [tg] e pos.line X.env=pure false:=by rfl)(hw:swappedStores [tg] e X.env=pure none:=by rfl)
 (h1:(assignEach [tg] X.env).map (·.2)=[assign tg X.env]:=by rfl):PS2 X Y W (.Assign [tg] e pos) (e0e g2 te):=ps2 (d0o he.go hg hs hw h1) fun E1 σ H ⟨F,ρ,δ,E2,I,h,er⟩=>by
 refine ⟨F,ρ,δ,E2.xc,_,I,h,fun d v F1 H1 ρ1 δ1 I1 s1 r1 h1=>?_,er.xc⟩;split at h1
 ·rename_i ρ2 e2;exact hd Y F1 H1 σ ρ1 ρ2 δ1 d v _ I1 r1 e2 fun σ' I'=>er.nx σ' F1 H1 ρ2 δ1 I' s1 h1
 ·exact h1.elim
end
end DL
namespace L2
open PySem PySem.Spec PyProof.Rows
section
variable{prog:Program}{w:World}{A:Around}{E:Value→Shared→Prop}{s:Shared}
end
noncomputable def sortZ(ns:List Int):List Int:=ns.mergeSort fun a b=>decide (a≤b)
section
variable{X:Cx}
end
end L2
namespace DL
open PySem PySem.Spec L2
noncomputable def sortIF:F1:=fun ds q=>match ds with
 | [d]=>(match seqD d with |some xs=>(match k0l xs with |some ns=>ns.length<64∧q (.lst ((sortZ ns).map D.int))|none=>False)|none=>False)
 |_=>False
end DL
namespace L2
open PySem PySem.Spec PyProof.Rows PySem.W
open AutoSeq1 (wpAny_loadPart')
section
variable{X:Cx}
noncomputable def rEqL(K:PySem.W.Frag)(neg:Bool):R2:=fun x y H Q=>∃a b xs ys,x=.ref a∧y=.ref b∧SqL K H a xs∧SqL K H b ys∧xs.all z0v=true∧ys.all z0v=true∧Q (.bl (if neg then !eqVs xs ys else eqVs xs ys)) H
theorem op_neL(hu:X.A.units<cLine):OpR X (compareOp .NotEq) (rEqL X.K true):=by
 intro pins s σ H x y v u Q I rx ry h;obtain ⟨a,b,xs,ys,rfl,rfl,ha,hb,f1,f2,q⟩:=h;cases rx;cases ry;obtain ⟨its,r,p,_⟩:=I.list ha;obtain ⟨its2,r2,p2,_⟩:=I.list hb;have e0:=x0g xs ys;by_cases hz:its.toArray.size=its2.toArray.size
 ·refine SeqAt.RcNeAt.lists p.isList p2.isList hz hu (u0f r r2 f1 f2) X.prog X.w X.xe _ ⟨.bl (!eqVs xs ys),H,I,?_,q⟩;rw[←e0,r.length,r2.length];simp only[List.size_toArray]at hz ⊢;rw[hz,Nat.min_self,beq_self_eq_true,Bool.and_true];rfl
 ·refine SeqAt.RcNeAt.lists_lengths p.isList p2.isList (by simpa using hz) hu X.prog X.w X.xe _ ⟨.bl (!eqVs xs ys),H,I,?_,q⟩;have:(xs.length==ys.length)=false:=by
   rw[r.length,r2.length];simpa using hz
  rw[←e0,this,Bool.and_false];rfl
end
end L2
namespace DL
open PySem PySem.Spec L2
noncomputable def a0e:F2:=fun d1 d2 q=>match d1,d2 with
 | .tup xs,.int k=>xs.length*k.toNat≤1000∧0≤k∧k≤1000∧xs≠[]∧q (.tup (List.replicate k.toNat xs).flatten)
 |_,_=>False
noncomputable def neL:F2:=fun d1 d2 q=>match d1,d2 with | .lst xs,.lst ys=>(xs.all i6&&ys.all i6)=true∧q (.bl (!eqDs xs ys))|_,_=>False
theorem d_neL{K:PySem.W.Frag}:OpD K (rEqL K true) neL:=by
 intro Y F H σ ρ δ x y d1 d2 Q1 q I r1 r2 h' k;unfold neL at h';split at h'
 ·rename_i xs ys;obtain ⟨hf,h'⟩:=h';rw[Bool.and_eq_true]at hf;obtain ⟨a,vs,rfl,e1,z1⟩:=rep_lst.mp r1;obtain ⟨b,us,rfl,e2,z2⟩:=rep_lst.mp r2;obtain ⟨e3,e4⟩:=f6 hf.1 z1;obtain ⟨e5,e6⟩:=f6 hf.2 z2;refine ⟨a,b,vs,us,rfl,rfl,SqL.of (I.sub _ _ e1),SqL.of (I.sub _ _ e2),e4,e6,?_⟩;rw[if_pos rfl,e3,e5,s0q];exact k _ _ F H I (Same.refl F) (rep_bl.mpr rfl) h'
 ·exact h'.elim
noncomputable def maxLF:F1:=fun ds q=>match ds with | [d]=>(match seqD d with |some xs=>(match k0l xs with |some ns=>ns≠[]∧∀n∈ns,q (.int n)|none=>False)|none=>False)|_=>False
theorem v0o:bootBuiltins "str"=some (.type "str"):=by kernel_rfl
noncomputable def strF:F1:=fun ds q=>match ds with | [.int i]=>i.natAbs.log2<1920∧q (.str (toString i))|_=>False
theorem k0j{K:PySem.W.Frag}:u0o K (fun xs H Q=>∃i,xs=[V.int i]∧i.natAbs.log2<1920∧Q (V.str (toString i)) H) strF:=by
 intro Y F H σ ρ δ vs ds Q1 q I r h' k;unfold strF at h';split at h'
 ·obtain ⟨v,rfl,r1⟩:=q8 r;rw[rep_int.mp r1];exact ⟨_,rfl,h'.1,k _ _ F H I (Same.refl F) (rep_str.mpr rfl) h'.2⟩
 ·exact h'.elim
noncomputable def addS:F2:=fun d1 d2 q=>match d1,d2 with
 | .str x,.str y=>x.length+y.length≤1000∧q (.str (x++y))
 |_,_=>False
noncomputable def addH:F2:=fun d1 d2 q=>match d1,d2 with
 | .lst xs,.lst ys=>xs.length+ys.length≤100000∧q (.lst (xs++ys))
 |_,_=>False
section
variable{X:Cx}{Y:Y2}{W:XW}{a b:Expr}{ta tb:TE2}{x:Str}{pos pos' bpos:Pos}
noncomputable def v0d(i:Nat)(ta tb:TE2):TS2:=fun E ρ δ=>ta E.xc ρ δ fun d1 ρ1 δ1=>tb E.xc ρ1 δ1 fun d2 ρ2 δ2=>match d1,d2 with
 | .lst xs,.int k=>xs.length*k.toNat≤1000∧0≤k∧k≤1000∧E.nx (ρ2.set i (.own (List.replicate k.toNat xs).flatten)) δ2
 |_,_=>False
theorem h0n(i:Nat)(hN:X.N.Nodup)(ha:PE2 X Y W a ta)(hb:PE2 X Y W b tb)(hi:X.N[i]?=some x:=by rfl)(hx:Loc X.env.scope x:=by walk_at "v2")
 (hs:swapsWith (.BinOp a .Mult b bpos) (some (.Name x pos')) pos.line X.env=pure false:=by rfl) (hf:X.fn x=true∨X.env.scope.names.lookup x=some .local:=by walk_at "v1"):
 PS2 X Y W (.Assign [.Name x pos'] (.BinOp a .Mult b bpos) pos) (v0d i ta tb):=ps2 (r0d (i:=i) hN hi hx (pe_op m0v ha.go hb.go) hs hf) fun E1 σ H ⟨F,ρ,δ,E2,I,h,er⟩=>by
 refine ⟨F,ρ,δ,E2.xc,_,I,h,fun d1 v1 F1 H1 ρ1 δ1 I1 s1 r1 h1=>⟨F1,ρ1,δ1,E2.xc,_,I1,h1,fun d2 v2 F2 H2 ρ2 δ2 I2 s2 r2 h2=>?_,er.xc.mono s1⟩,er.xc⟩;split at h2
 ·rename_i xs k;obtain ⟨l,vs,rfl,e1,z1⟩:=rep_lst.mp (r1.mono s2);obtain ⟨h3,h4,h5,h6⟩:=h2;exact ⟨l,k,vs,rfl,rep_int.mp r2,I2.sub _ _ e1,by omega,by omega,q0l (by rw[z1.length];exact h3),fun p hp=>er.nx _ F2 _ _ δ2 (I2.own hp (z1.rep _)) (s1.trans s2) h6⟩
 ·exact h2.elim
variable{i:Nat}{p:Pos}
end
end DL
namespace L2
theorem Room.units1{k:Nat}{A:PySem.Around}(r:Room k A):A.units+1<PySem.cLine:=by have:=r.un;omega
end L2
namespace DL
open PySem PySem.Spec L2
noncomputable def valD(kvs:List (Key×D))(k:Key):Option D:=(kvs.find? fun kv=>decide (kv.1=k)).map (·.2)
noncomputable def putD(kvs:List (Key×D))(k:Key)(v:D):List (Key×D):=if (kvs.any fun kv=>decide (kv.1=k))=true then kvs.map (fun kv=>if kv.1=k then (kv.1,v)else kv)else kvs++[(k,v)]
section
variable{K:Frag}{F:Hp}
end
section
variable{X:Cx}{Y:Y2}{W:XW}{e j:Expr}{te tj tx:TE2}{x:Str}{i:Nat}{p pos pos' spos:Pos}
noncomputable def a0d(i:Nat):TS2:=fun E ρ δ=>E.nx (ρ.set i (.ownD [])) δ
noncomputable def t2PutD(i:Nat)(tj te:TE2):TS2:=fun E ρ δ=>te E.xc ρ δ fun d ρ1 δ1=>hasV ρ1 i=true∧tj E.xc ρ1 δ1 fun dj ρ2 δ2=>match ρ2[i]?,dj with
 |some (.ownD kvs),.int k=>kvs.length<1000∧E.nx (ρ2.set i (.ownD (putD kvs (.inl k) d))) δ2
 |_,_=>False
noncomputable def dicV(ρ:En)(i:Nat):Option (List (Key×D)):=match ρ[i]? with
 |some (.ownD kvs)=>some kvs
 |some (.val (.dwk kvs))=>some kvs
 |_=>none
noncomputable def t2GetD(i:Nat)(ty tx:TE2):TE2:=fun x ρ δ q=>(dicV ρ i).isSome=true∧ty x ρ δ fun dk ρ1 δ1=>tx x ρ1 δ1 fun dd ρ2 δ2=>match dicV ρ2 i,dk with
 |some kvs,.int k=>q ((valD kvs (.inl k)).getD dd) ρ2 δ2
 |_,_=>False
noncomputable def t2IxD(i:Nat)(ty:TE2):TE2:=fun x ρ δ q=>(dicV ρ i).isSome=true∧ty x ρ δ fun dk ρ1 δ1=>match dicV ρ1 i,dk with
 |some kvs,.int k=>(match valD kvs (.inl k)with |some d=>q d ρ1 δ1 |none=>False)
 |_,_=>False
end
end DL
namespace L2
open PySem PySem.Spec PyProof.Rows
section
variable{X:Cx}{pins:List (Addr×Obj)}{σ:St}{H:Hp}{s:Shared}{a:Addr}{kvs:List (Key×V)}
variable{tg:Expr}
end
end L2
namespace DL
open PySem PySem.Spec L2
section
variable{X:Cx}{Y:Y2}{W:XW}{tg e:Expr}{te:TE2}{x:Str}{i:Nat}{p pos:Pos}{K:Frag}
noncomputable def t2VD(i:Nat):TE2:=fun _ ρ δ q=>match ρ[i]? with |some (.ownD kvs)=>q (.dwk kvs) (ρ.set i (.val (.dwk kvs))) δ |_=>False
noncomputable def t2DicV(i:Nat)(v:Int):TE2:=fun _ ρ δ q=>match ρ[i]? with |some (.val (.int k))=>q (.dwk [(.inl k,.int v)]) ρ δ |_=>False
noncomputable def keyD:Key→D
 | .inl n=>.int n
 | .inr s=>.str s
noncomputable def t2Keys(te:TE2):TI2:=fun x ρ δ q=>te x ρ δ fun d ρ1 δ1=>match d with | .dwk kvs=>q (kvs.map fun kv=>keyD kv.1) ρ1 δ1 |_=>False
end
end DL
namespace L2
open PySem PySem.Spec PyProof.Rows
structure RoomU(k:Nat)(A:Around):Prop where
 dp:A.depth+3*k+5<recursionLimit
 un:A.units+16*k+200<cLine
structure FnOkU(P:Program)(w:World)(K:PySem.W.Frag)(mg:Str→Option Value)(base:Heap)(CX:CXT)(k:Nat)(f:Addr)(fd:FuncData)(ps:List Str)(sp:Sp):Prop where
 len:∀vs H Q E,sp vs H Q E→vs.length=ps.length
 run:∀(A:Around) (outer:List Env) (s:Shared) (H:Hp) (args:Args) (us:List Value) (vs:List V) (Q:VK) (E:XK),RoomU k A→Env0 P w K mg base A outer s H→BindsTo s fd args (ps.zip us)→Vals vs us→sp vs H Q E→
  codeAny (model P w) A (.call (.ref f) args) (CR CX outer P w H s Q E) s
structure FnAtU(P:Program)(w:World)(K:PySem.W.Frag)(mg:Str→Option Value)(base:Heap)(CX:CXT)(x:Str)(k:Nat)(ps:List Str)(sp:Sp):Prop where
 ex:∃f fd,FnOkU P w K mg base CX k f fd ps sp∧mg x=some (.ref f)∧PySem.W.keepIn K (.ref f)=true∧Binds K fd ps []
section
variable{X:Cx}{pins:List (Addr×Obj)}{σ:St}{H:Hp}{s:Shared}
end
end L2
namespace DL
open PySem PySem.Spec L2
open PySem.W (XC)
open PyProof.Rows (envOfC)
section
variable{X:Cx}{Y:Y2}{W:XW}{x:Str}{p pos:Pos}{e:Expr}{es:List Expr}{t:TA2}{k:Nat}{ps:List Str}{sp:Sp2}
end
section
variable{P:Program}{w:World}{K:Frag}{mg:Str→Option Value}{base:Heap}
end
end DL
namespace L2
open PySem PySem.Spec PyProof.Rows PySem.Calls
section
variable{prog:Program}{w:World}{A:Around}{E:Value→Shared→Prop}{s:Shared}{I l:Addr}{its:Array Value}
end
end L2
namespace L2
open PySem PySem.Spec PyProof.Rows PySem.Calls
section
variable{X:Cx}
end
end L2
namespace DL
open PySem PySem.Spec L2
section
variable{X:Cx}{Y:Y2}{W:XW}{a:Expr}{ta:TA2}{p p2 pos pos2 spos:Pos}
noncomputable def e0d(ta:TA2):TS2:=fun E ρ δ=>ta E.xc ρ δ fun ds ρ1 δ1=>δ1=none∧match ds with | [d]=>(match d with | .lst xs=>∀p,E.rt (.ref p) (some (p,xs.reverse))|_=>False)|_=>False
end
end DL
namespace L2
open PySem PySem.Spec PyProof.Rows PySem.Calls PySem.W
section
variable{X:Cx}
noncomputable def IsMin(ns:List Int)(m:Int):Prop:=m∈ns∧∀n∈ns,m≤n
end
end L2
namespace DL
open PySem PySem.Spec L2
section
variable{K:Frag}
noncomputable def minLF:F1:=fun ds q=>match ds with | [d]=>(match seqD d with |some xs=>(match k0l xs with |some ns=>ns≠[]∧∀m,IsMin ns m→q (.int m)|none=>False)|none=>False)|_=>False
end
section
variable{X:Cx}{Y:Y2}{W:XW}{x:Str}{p apos cpos p2 pos2:Pos}
noncomputable def a0c(i:Nat):TE2:=fun _ ρ δ q=>match dicV ρ i with |some kvs=>q (.lst (kvs.map (·.2))) ρ δ |none=>False
noncomputable def t2LenD(i:Nat):TE2:=fun _ ρ δ q=>match dicV ρ i with |some kvs=>q (.int (kvs.length:Nat)) ρ δ |none=>False
end
end DL
namespace DL
open PySem PySem.Spec L2
structure DI(l:List (Key×D))(g:Int→Int→Prop):Prop where
 nd:(l.map (·.1)).Nodup
 all:∀kv∈l,∃k v:Int,kv=(.inl k,.int v)∧g k v
end DL
namespace L2
open PySem PySem.Spec PyProof.Rows PySem.Calls
section
variable{prog:Program}{w:World}{A:Around}{E:Value→Shared→Prop}{I:Addr}{fp wr:List Addr}{n:Nat}{P:Nat→Value→Prop}{St:Nat→Heap→Prop}
end
section
variable{prog:Program}{w:World}{A:Around}{E:Value→Shared→Prop}{s:Shared}
end
section
variable{X:Cx}{pos:Pos}
end
end L2
namespace DL
open PySem PySem.Spec L2
noncomputable def g2L(is:List Nat):G2:=fun d ρ=>match d with | .lst ds=>u0i is ds ρ |_=>none
end DL
namespace L2
open PySem PySem.Spec PyProof.Rows
section
variable{X:Cx}
end
end L2
namespace DL
open PySem PySem.Spec L2
noncomputable def eqL:F2:=fun d1 d2 q=>match d1,d2 with | .lst xs,.lst ys=>(xs.all i6&&ys.all i6)=true∧q (.bl (eqDs xs ys))|_,_=>False
theorem p0w:∀ns ms:List Int,eqDs (ns.map D.int) (ms.map D.int)=decide (ns=ms)
 | [],[]=>rfl
 | [],_::_=>rfl
 |_::_,[]=>rfl
 |n::ns,m::ms=>by
  rw[List.map_cons,List.map_cons];unfold eqDs;rw[p0w ns ms];show (decide (n=m)&&_)=_;by_cases h1:n=m<;>by_cases h2:ns=ms<;>simp[h1,h2]
end DL
namespace L2
open PySem PySem.Spec PyProof.Rows
section
variable{X:Cx}{pins:List (Addr×Obj)}{σ:St}{H:Hp}{s:Shared}
noncomputable def h0m(K:PySem.W.Frag)(b:Bool)(H:Hp)(x:V)(xs:List V):Prop:=(∃a,x=.ref a∧Sq K b H a xs)∧xs.all z0v=true
noncomputable def EqV2(K:PySem.W.Frag)(H:Hp)(x y:V)(r:Bool):Prop:=(z0v x=true∧z0v y=true∧r=eqV x y)∨∃b xs ys,h0m K b H x xs∧h0m K b H y ys∧r=eqVs xs ys
theorem a0b{x y:V}{u:Value}(rx:RelV x u)(ry:RelV y u)(fx:z0v x=true)(fy:z0v y=true):eqV x y=true:=by
 cases x with
 |non=>
  cases rx;cases y with
  |non=>rfl
  |bl b=>cases ry
  |int b=>obtain ⟨t,e⟩:=ry;cases e
  |str b=>obtain ⟨t,e⟩:=ry;cases e
  |_=>cases fy
 |bl a=>
  cases rx;cases y with
  |non=>cases ry
  |bl b=>cases ry;simp[eqV]
  |int b=>obtain ⟨t,e⟩:=ry;cases e
  |str b=>obtain ⟨t,e⟩:=ry;cases e
  |_=>cases fy
 |int a=>
  obtain ⟨t,rfl⟩:=rx;cases y with
  |non=>cases ry
  |bl b=>cases ry
  |int b=>obtain ⟨t,e⟩:=ry;cases e;simp[eqV]
  |str b=>obtain ⟨t,e⟩:=ry;cases e
  |_=>cases fy
 |str a=>
  obtain ⟨t,rfl⟩:=rx;cases y with
  |non=>cases ry
  |bl b=>cases ry
  |int b=>obtain ⟨t,e⟩:=ry;cases e
  |str b=>obtain ⟨t,e⟩:=ry;cases e;simp[eqV]
  |_=>cases fy
 |_=>cases fx
theorem l0z:∀{xs ys:List V} {us:List Value},Vals xs us→Vals ys us→xs.all z0v=true→ys.all z0v=true→eqVs xs ys=true
 | [],[],_,_,_,_,_=>rfl
 |x::xs,y::ys,us,r1,r2,f1,f2=>by
  cases r1 with
  |cons h1 t1=>
   cases r2 with
   |cons h2 t2=>
    rw[List.all_cons,Bool.and_eq_true]at f1 f2;unfold eqVs;rw[a0b h1 h2 f1.1 f2.1,l0z t1 t2 f1.2 f2.2];rfl
 | [],_::_,us,r1,r2,_,_=>by cases r1;cases r2
 |_::_,[],us,r1,r2,_,_=>by cases r2;cases r1
theorem eqAt_2{A:Around}{x y:V}{u w:Value}{r:Bool}(I:Inv X pins σ H s)(hu:A.units<cLine)(h:EqV2 X.K H x y r)(rx:RelV x u)(ry:RelV y w):SeqAt.EqAt A s u w r:=by
 rcases h with ⟨f1,f2,rfl⟩|⟨b,xs,ys,⟨⟨a,rfl,ha⟩,f1⟩,⟨⟨c,rfl,hc⟩,f2⟩,rfl⟩
 ·exact d0k rx ry f1 f2
 ·cases rx;cases ry;obtain ⟨its,r1,p1,_⟩:=I.sq ha;obtain ⟨its2,r2,p2,_⟩:=I.sq hc;have e0:=x0g xs ys;by_cases hac:a=c
  ·subst hac;have:its=its2:=by
    cases b
    ·obtain ⟨o,ho,_,n,hd⟩:=(show s.heap.IsList a its.toArray from p1);obtain ⟨o2,ho2,_,n2,hd2⟩:=(show s.heap.IsList a its2.toArray from p2);rw[ho]at ho2;cases ho2;rw[hd]at hd2;cases hd2;rfl
    ·obtain ⟨o,ho,_,n,hd⟩:=(show s.heap.IsTuple a its.toArray from p1);obtain ⟨o2,ho2,_,n2,hd2⟩:=(show s.heap.IsTuple a its2.toArray from p2);rw[ho]at ho2;cases ho2;rw[hd]at hd2;cases hd2;rfl
   subst this;rw[l0z r1 r2 f1 f2];exact SeqAt.EqAt.same _
  ·refine SeqAt.EqAt.of_refs hac ?_;cases b
   ·by_cases hz:its.toArray.size=its2.toArray.size
    ·have:=SeqAt.RcAt.lists (A:=A) (show s.heap.IsList a its.toArray from p1) (show s.heap.IsList c its2.toArray from p2) hz hu (u0f r1 r2 f1 f2);rw[←e0,r1.length,r2.length];simp only[List.size_toArray]at hz this ⊢;rw[hz,Nat.min_self,beq_self_eq_true,Bool.and_true];rw[hz]at this;exact this
    ·have:=SeqAt.RcAt.lists_lengths (A:=A) (show s.heap.IsList a its.toArray from p1) (show s.heap.IsList c its2.toArray from p2) (by simpa using hz) hu;have e1:(xs.length==ys.length)=false:=by
      rw[r1.length,r2.length];simpa using hz
     rw[←e0,e1,Bool.and_false];exact this
   ·have:=SeqAt.RcAt.tuples (A:=A) (show s.heap.IsTuple a its.toArray from p1) (show s.heap.IsTuple c its2.toArray from p2) hu (u0f r1 r2 f1 f2);rw[←e0,r1.length,r2.length];simp only[List.size_toArray]at this;exact this
noncomputable def rEqR(K:PySem.W.Frag)(neg:Bool):R2:=fun x y H Q=>∃b a c xs ys,∃e:Nat→Bool,x=.ref a∧y=.ref c∧Sq K b H a xs∧Sq K b H c ys∧(∀(j:Nat) u w,xs[j]?=some u→ys[j]?=some w→EqV2 K H u w (e j))∧
 Q (.bl (if neg=true then !((List.range (min xs.length ys.length)).all e&&xs.length==ys.length)else (List.range (min xs.length ys.length)).all e&&xs.length==ys.length)) H
theorem h0l{A:Around}{xs ys:List V}{us ws:List Value}{e:Nat→Bool}(I:Inv X pins σ H s)(hu:A.units<cLine)(r:Vals xs us)(r':Vals ys ws)(he:∀(j:Nat) u w,xs[j]?=some u→ys[j]?=some w→EqV2 X.K H u w (e j)):
 ∀j (h1:j<us.toArray.size) (h2:j<ws.toArray.size),SeqAt.EqAt A s us.toArray[j] ws.toArray[j] (e j):=by
 intro j h1 h2;have l1:j<xs.length:=by rw[r.length];simpa using h1
 have l2:j<ys.length:=by rw[r'.length];simpa using h2
 obtain ⟨u,hu',ru⟩:=r.get (List.getElem?_eq_getElem l1);obtain ⟨w,hw,rw'⟩:=r'.get (List.getElem?_eq_getElem l2);have eu:us.toArray[j]=u:=by
  have:us[j]?=some us.toArray[j]:=by simp
  rw[hu']at this;exact (Option.some.inj this).symm
 have ew:ws.toArray[j]=w:=by
  have:ws[j]?=some ws.toArray[j]:=by simp
  rw[hw]at this;exact (Option.some.inj this).symm
 rw[eu,ew];exact eqAt_2 I hu (he j _ _ (List.getElem?_eq_getElem l1) (List.getElem?_eq_getElem l2)) ru rw'
theorem op_neR(hu:X.A.units+1<cLine):OpR X (compareOp .NotEq) (rEqR X.K true):=by
 intro pins s σ H x y v u Q I rx ry h;obtain ⟨b,a,c,xs,ys,e,rfl,rfl,ha,hb,he,q⟩:=h;cases rx;cases ry;obtain ⟨its,r,p,_⟩:=I.sq ha;obtain ⟨its2,r2,p2,_⟩:=I.sq hb;have hu0:X.A.units<cLine:=by omega
 have hu1:X.A.in1.units<cLine:=hu;rw[if_pos rfl,r.length,r2.length]at q;cases b
 ·by_cases hz:its.toArray.size=its2.toArray.size
  ·refine SeqAt.RcNeAt.lists (show s.heap.IsList a its.toArray from p) (show s.heap.IsList c its2.toArray from p2) hz hu0 (h0l I hu1 r r2 he) X.prog X.w X.xe _ ⟨.bl _,H,I,rfl,?_⟩;simp only[List.size_toArray]at hz ⊢;rw[hz,Nat.min_self,beq_self_eq_true,Bool.and_true]at q;rw[hz];exact q
  ·refine SeqAt.RcNeAt.lists_lengths (show s.heap.IsList a its.toArray from p) (show s.heap.IsList c its2.toArray from p2) (by simpa using hz) hu0 X.prog X.w X.xe _ ⟨.bl _,H,I,rfl,?_⟩;have e1:(its.length==its2.length)=false:=by simpa using hz
   rw[e1,Bool.and_false]at q;exact q
 ·refine SeqAt.RcNeAt.tuples (show s.heap.IsTuple a its.toArray from p) (show s.heap.IsTuple c its2.toArray from p2) hu0 (h0l I hu1 r r2 he) X.prog X.w X.xe _ ⟨.bl _,H,I,rfl,?_⟩;simpa using q
end
end L2
namespace DL
open PySem PySem.Spec L2
noncomputable def eqR:D→D→Option Bool
 | .tup xs,.tup ys=>if (xs.all i6&&ys.all i6)=true then some (eqDs xs ys)else none
 | .lst xs,.lst ys=>if (xs.all i6&&ys.all i6)=true then some (eqDs xs ys)else none
 |x,y=>if (i6 x&&i6 y)=true then some (eqV (toV x) (toV y))else none
noncomputable def eqRs:List D→List D→Option Bool
 | [],[]=>some true
 |x::xs,y::ys=>match eqR x y,eqRs xs ys with |some a,some b=>some (a&&b)|_,_=>none
 | [],_::_=>some false
 |_::_,[]=>some false
theorem eqR_v{K:Frag}{F H:Hp}{x y:D}{v u:V}{r:Bool}(s:Same F H)(h:eqR x y=some r)(r1:Rep K F x v)(r2:Rep K F y u):EqV2 K H v u r:=by
 unfold eqR at h;split at h
 ·rename_i xs ys;split at h
  ·rename_i hf;cases h;rw[Bool.and_eq_true]at hf;obtain ⟨a,vs,rfl,e1,z1⟩:=rep_tup.mp r1;obtain ⟨b,us,rfl,e2,z2⟩:=rep_tup.mp r2;obtain ⟨e3,e4⟩:=f6 hf.1 z1;obtain ⟨e5,e6⟩:=f6 hf.2 z2;exact .inr ⟨true,vs,us,⟨⟨a,rfl,SqT.of (s _ _ e1)⟩,e4⟩,⟨⟨b,rfl,SqT.of (s _ _ e2)⟩,e6⟩,by rw[e3,e5,s0q]⟩
  ·cases h
 ·rename_i xs ys;split at h
  ·rename_i hf;cases h;rw[Bool.and_eq_true]at hf;obtain ⟨a,vs,rfl,e1,z1⟩:=rep_lst.mp r1;obtain ⟨b,us,rfl,e2,z2⟩:=rep_lst.mp r2;obtain ⟨e3,e4⟩:=f6 hf.1 z1;obtain ⟨e5,e6⟩:=f6 hf.2 z2;exact .inr ⟨false,vs,us,⟨⟨a,rfl,SqL.of (s _ _ e1)⟩,e4⟩,⟨⟨b,rfl,SqL.of (s _ _ e2)⟩,e6⟩,by rw[e3,e5,s0q]⟩
  ·cases h
 ·split at h
  ·rename_i hf;cases h;rw[Bool.and_eq_true]at hf;obtain ⟨e3,e4⟩:=f6 (ds:=[x]) (by simp[hf.1]) (Reps.cons r1 Reps.nil);obtain ⟨e5,e6⟩:=f6 (ds:=[y]) (by simp[hf.2]) (Reps.cons r2 Reps.nil);have q1:v=toV x:=by simpa using e3
   have q2:u=toV y:=by simpa using e5
   exact .inl ⟨by simpa using e4,by simpa using e6,by rw[q1,q2]⟩
  ·cases h
theorem h0k{K:Frag}{F H:Hp}(s:Same F H):∀{xs ys:List D} {vs us:List V} {r:Bool},eqRs xs ys=some r→Reps K F xs vs→Reps K F ys us→∃e:Nat→Bool,(∀(j:Nat) u w,vs[j]?=some u→us[j]?=some w→EqV2 K H u w (e j))∧((List.range (min vs.length us.length)).all e&&vs.length==us.length)=r
 | [],[],vs,us,r,h,r1,r2=>by
  cases h;rw[reps_nil.mp r1,reps_nil.mp r2];exact ⟨fun _=>true,(fun j u w e=>by rw[List.getElem?_nil]at e;cases e),rfl⟩
 |x::xs,y::ys,vs,us,r,h,r1,r2=>by
  obtain ⟨v,vs',rfl,q1,z1⟩:=reps_cons.mp r1;obtain ⟨u,us',rfl,q2,z2⟩:=reps_cons.mp r2;unfold eqRs at h;split at h
  ·rename_i a b ea eb;cases h;obtain ⟨e,he,hr⟩:=h0k s eb z1 z2;refine ⟨fun j=>match j with | 0=>a |j+1=>e j,fun j u' w' e1 e2=>?_,?_⟩
   ·cases j with
    |zero=>cases e1;cases e2;exact eqR_v s ea q1 q2
    |succ j=>exact he j u' w' e1 e2
   ·rw[←hr];have em:min (v::vs').length (u::us').length=min vs'.length us'.length+1:=by simp only[List.length_cons];omega
    rw[em,List.range_succ_eq_map,List.all_cons,List.all_map,← Bool.and_assoc];simp only[List.length_cons];congr 1;simp
  ·cases h
 | [],y::ys,vs,us,r,h,r1,r2=>by
  cases h;obtain ⟨u,us',rfl,q2,z2⟩:=reps_cons.mp r2;rw[reps_nil.mp r1];exact ⟨fun _=>true,(fun j u w e=>by rw[List.getElem?_nil]at e;cases e),by simp⟩
 |x::xs,[],vs,us,r,h,r1,r2=>by
  cases h;obtain ⟨v,vs',rfl,q1,z1⟩:=reps_cons.mp r1;rw[reps_nil.mp r2];exact ⟨fun _=>true,(fun j u w e1 e=>by rw[List.getElem?_nil]at e;cases e),by simp⟩
noncomputable def eqRF(neg:Bool):F2:=fun d1 d2 q=>match d1,d2 with
 | .lst xs,.lst ys=>(match eqRs xs ys with |some r=>q (.bl (if neg=true then !r else r))|none=>False)
 | .tup xs,.tup ys=>(match eqRs xs ys with |some r=>q (.bl (if neg=true then !r else r))|none=>False)
 |_,_=>False
theorem d_eqR{K:PySem.W.Frag}{neg:Bool}:OpD K (rEqR K neg) (eqRF neg):=by
 intro Y F H σ ρ δ x y d1 d2 Q1 q I r1 r2 h' k;unfold eqRF at h';split at h'
 ·rename_i xs ys;split at h'
  ·rename_i r er;obtain ⟨a,vs,rfl,e1,z1⟩:=rep_lst.mp r1;obtain ⟨b,us,rfl,e2,z2⟩:=rep_lst.mp r2;obtain ⟨e,he,hr⟩:=h0k I.sub er z1 z2;exact ⟨false,a,b,vs,us,e,rfl,rfl,SqL.of (I.sub _ _ e1),SqL.of (I.sub _ _ e2),he,by rw[hr];exact k _ _ F H I (Same.refl F) (rep_bl.mpr rfl) h'⟩
  ·exact h'.elim
 ·rename_i xs ys;split at h'
  ·rename_i r er;obtain ⟨a,vs,rfl,e1,z1⟩:=rep_tup.mp r1;obtain ⟨b,us,rfl,e2,z2⟩:=rep_tup.mp r2;obtain ⟨e,he,hr⟩:=h0k I.sub er z1 z2;exact ⟨true,a,b,vs,us,e,rfl,rfl,SqT.of (I.sub _ _ e1),SqT.of (I.sub _ _ e2),he,by rw[hr];exact k _ _ F H I (Same.refl F) (rep_bl.mpr rfl) h'⟩
  ·exact h'.elim
 ·exact h'.elim
theorem p0v:∀{xs:List D},(∀x∈xs,eqR x x=some true)→eqRs xs xs=some true
 | [],_=>rfl
 |x::xs,h=>by unfold eqRs;rw[h x (List.mem_cons_self ..),p0v fun y hy=>h y (List.mem_cons_of_mem _ hy)];rfl
end DL
namespace L2
open PySem PySem.Spec PyProof.Rows PySem.Calls
section
variable{X:Cx}
end
end L2
namespace DL
open PySem PySem.Spec L2
section
variable{X:Cx}{Y:Y2}{W:XW}{te:TE2}{K:Frag}
noncomputable def pairK(kv:Key×D):D:=.tup [keyD kv.1,kv.2]
noncomputable def a0a(te:TE2):TI2:=fun x ρ δ q=>te x ρ δ fun d ρ1 δ1=>match d with | .dwk kvs=>q (kvs.map pairK) ρ1 δ1 |_=>False
end
section
variable{K:Frag}
noncomputable def bigD(ns:List Int):Prop:=(∀n∈ns,0≤n)∧ns.sum<2^63
noncomputable def sumB:F1:=fun ds q=>match ds with | [d]=>(match seqD d with |some xs=>(match k0l xs with |some ns=>bigD ns∧q (.int ns.sum)|none=>False)|none=>False)|_=>False
end
section
variable{X:Cx}{Y:Y2}{W:XW}{e:Expr}{te:TE2}{x:Str}{pos pos':Pos}
noncomputable def t2AugM(i:Nat)(te:TE2):TS2:=fun E ρ δ=>rdV ρ i fun d1 ρ0=>te E.xc ρ0 δ fun d2 ρ1 δ1=>match d1,d2 with | .int a,.int b=>CMul a b∧E.nx (ρ1.set i (.val (.int (a*b)))) δ1 |_,_=>False
end
end DL
namespace DL
open PySem PySem.Spec L2
noncomputable def z1z:F1:=fun ds q=>match ds with | [.int i,.int j]=>CDiv i j∧q (.tup [.int (i/j),.int (i%j)])|_=>False
end DL
namespace DL
open PySem PySem.Spec L2
section
variable{X:Cx}{Y:Y2}{W:XW}{pos pos' bpos:Pos}{a b:Expr}{ta tb:TE2}{x:Str}
noncomputable def e0c(i:Nat)(ta tb:TE2):TS2:=fun E ρ δ=>ta E.xc ρ δ fun d1 ρ1 δ1=>tb E.xc ρ1 δ1 fun d2 ρ2 δ2=>match d1,d2 with
 | .lst xs,.lst ys=>xs.length+ys.length≤1000∧E.nx (ρ2.set i (.own (xs++ys))) δ2
 |_,_=>False
end
end DL
namespace L2
open PySem PySem.Spec PyProof.Rows PySem.Calls PySem.W
section
variable{X:Cx}
variable{tg:Expr}
end
end L2
namespace DL
open PySem PySem.Spec L2
section
variable{X:Cx}{Y:Y2}{W:XW}{te:TE2}{K:Frag}{tg:Expr}
end
section
variable{X:Cx}{Y:Y2}{W:XW}{x:Str}{p apos cpos p2 pos2:Pos}
end
end DL
namespace L2
open PySem PySem.Spec PyProof.Rows
open AutoSeq1 (wpAny_loadPart')
section
variable{prog:Program}{w:World}{A:Around}{E:Value→Shared→Prop}{s:Shared}
theorem u0e{T newId initId:String}{Bn Bi:Builtin}{args:List Value}{kw:List (Str×Value)}{S:PySem.Spec}{Q Q₁:Value→Shared→Prop}(ft:TypeCalled T newId initId)
 (hct:checkTypeCall T ⟨args,kw⟩=pure ()) (hcn:checkBuiltinCall newId ⟨.type T::args,kw⟩=pure ())
 (entryN:entryFor table newId=some Bn) (entryI:entryFor table initId=some Bi) (g:Meets (Bn ⟨.type T::args,kw⟩) S)
 (h:S A.in1 (wants Q₁ E) s)
 (hnext:∀obj s₁,Q₁ obj s₁→s₁.TypeIs obj T∧argsOk initId ⟨obj::args,kw⟩∧∃Si,Meets (Bi ⟨obj::args,kw⟩) Si∧Si A.in1 (wants (fun r s₂=>r=.none∧Q obj s₂) E) s₁):
 wpAny (model prog w) A (call (.type T) args kw) Q E s:=by
 obtain ⟨c,tl,hmro⟩:=ft.mro;have hmade:=ft.made;have hsub:=ft.sub;refine wpAny_call (codeAny_of_tree ?_);show wpAny _ _ (callAny (.type T) _) _ _ _;refine wpAny_pure ⟨Code.quiet_builtin _ (by decide +kernel),codeAny_builtin F.entry_type_call ?_⟩;rw[Around.under_plain (weight_type_call_type T args kw) (units_type_call_type T args kw)];have h1:=ft.notType;have h2:=ft.canCreate
 repeat (any_goals (first |assumption |wp_step))
 refine codeAny_mono (codeAny_call_builtin ft.plain entryN (wpAny_of_eq hcn (g prog w A.in1 _ s h))) fun r s₁ hr=>?_
 cases r with
 |error e=>exact hr
 |ok fl=>
  cases fl with
  |ret obj=>
   obtain ⟨hT,hok,Si,gi,hsi⟩:=hnext _ _ hr;have hli:=ft.init.lookup;have hbi:=ft.init.bind obj
   repeat (any_goals (first |assumption |wp_step))
   refine codeAny_mono (codeAny_call_builtin ft.init.plain entryI (ft.init.check _ _ _ _ _ _ _ _ hT hok (gi prog w A.in1 _ s₁ hsi))) fun r₂ s₂ hr₂=>?_
   cases r₂ with
   |error e=>exact hr₂
   |ok fl₂=>
    cases fl₂ with
    |ret r=>
     obtain ⟨rfl,hq⟩:=hr₂
     repeat (any_goals (first |assumption |wp_step))
    |_=>exact hr₂.elim
  |_=>exact hr.elim
end
theorem x0f{T newId:String}{self:Value}{a:Value}{rest:List Value}{kw:List (Str×Value)}(hl:typeLookup (.type T) "__init__"=pure (some (.builtin "object.__init__")))
 (hm:Bind.madeBy (.type T)=pure (some newId)) (hne:(some newId !=some "object.__new__")=true):
 Meets (Builtin.«object.__init__» ⟨self::a::rest,kw⟩) (fun _ R s=>s.TypeIs self T∧R (.ok (.ret .none)) s):=by
 refine Meets.of_wp fun prog w A R s hs=>?_
 obtain ⟨hT,hq⟩:=hs
 repeat (any_goals (first |assumption |wp_step))
 exact ⟨_,rfl,hq⟩
theorem h0j(b:Bool)(l:Addr)(xs:Array Value)(n:Int)(t:Tok)(hf:Builtin.SmallTypes.fitsIndex n=true):
 Meets (Builtin.«enumerate.__new__» ⟨[.type "enumerate",.ref l],[("start",.int n t)]⟩) (fun _ R s=>SqAt b s.heap l xs∧
  R (.ok (.ret (.ref (enH b s.heap l).objs.size))) {s with heap:=(enH b s.heap l).push {cls:=.type "enumerate",data:=.fields #[.none,.bool false,.ref s.heap.objs.size,rawInt n,.none,.none]}}):=
 .of_wp fun prog w A R s h=>by
  obtain ⟨hp,g,d,tk,os⟩:=s;obtain ⟨hl,h⟩:=h;have hsub:=sub_enumerate;have q1:SqAt b (Shared.heap ⟨hp,g,d,tk,os⟩) l xs:=hl;have hb:Str.ofString "start"==Str.ofString "start":=by decide
  wp_walk
  refine wpAny_stack_any fun st=>wpAny_pure ?_
  split
  ·rename_i c _ _ _ _ _;cases (c==Value.type "enumerate")
   ·wp_walk using u0h q1
    exact ⟨_,rfl,h⟩
   ·wp_walk using u0h q1
    exact ⟨_,rfl,h⟩
  ·wp_walk using u0h q1
   exact ⟨_,rfl,h⟩
theorem p0u(a v:Value):checkTypeCall "enumerate" ⟨[a],[("start",v)]⟩=pure ():=by kernel_rfl
theorem o0d(a v:Value):checkBuiltinCall "enumerate.__new__" ⟨[.type "enumerate",a],[("start",v)]⟩=pure ():=by kernel_rfl
theorem p0t(o a v:Value):argsOk "object.__init__" ⟨[o,a],[("start",v)]⟩:=by
 unfold argsOk
 kernel_rfl
section
variable{prog:Program}{w:World}{A:Around}{E:Value→Shared→Prop}{s:Shared}
theorem e0b{b:Bool}{l:Addr}{xs:Array Value}{n:Int}{t:Tok}{Q:Value→Shared→Prop}(hf:Builtin.SmallTypes.fitsIndex n=true)(hq:SqAt b s.heap l xs)
 (h:∀h',IsEnum h' (s.heap.objs.size+1) s.heap.objs.size n .none→ItAt b h' s.heap.objs.size l 0→(∀b o,s.heap.get? b=some o→h'.get? b=some o)→Q (.ref (s.heap.objs.size+1)) {s with heap:=h'}):
 wpAny (model prog w) A (call (.type "enumerate") [.ref l] [("start",.int n t)]) Q E s:=by
 refine u0e (Q₁:=fun obj s₁=>s₁.TypeIs obj "enumerate"∧Q obj s₁) F.called_enumerate (p0u _ _) (o0d _ _) F.entry_enumerate_new F.entry_object_init (h0j b l xs n t hf) ⟨hq,?_⟩ fun obj _ hq=>
  ⟨hq.1,p0t obj _ _,_,x0f F.called_enumerate.init.lookup F.called_enumerate.made (by decide),hq.1,rfl,hq.2⟩
 have hz:(enH b s.heap l).objs.size=s.heap.objs.size+1:=Heap.size_push ..;have he:=Heap.get?_push_size (enH b s.heap l) (o:={cls:=.type "enumerate",data:=.fields #[.none,.bool false,.ref s.heap.objs.size,rawInt n,.none,.none]}) rfl;have hi:ItAt b ((enH b s.heap l).push {cls:=.type "enumerate",data:=.fields #[.none,.bool false,.ref s.heap.objs.size,rawInt n,.none,.none]}) s.heap.objs.size l 0:=by
  cases b
  ·exact ⟨_,Heap.get?_push_of_some _ (Heap.get?_push_size _ rfl),rfl,rfl⟩
  ·exact ⟨_,Heap.get?_push_of_some _ (Heap.get?_push_size _ rfl),rfl,rfl⟩
 show _∧_;rw[hz]at he ⊢;exact ⟨⟨_,he,rfl⟩,h _ he hi fun b o x=>Heap.get?_push_of_some _ (Heap.get?_push_of_some _ x)⟩
end
theorem o0c{prog:Program}{w:World}{A:Around}{it:Addr}{fp:List Addr}{n:Nat}{P:Nat→Value→Prop}{St:Nat→Heap→Prop}(D:Draws prog w A it fp n P St)(m:Nat):Draws prog w A it fp (m+n) (fun j v=>∃i,j=m+i∧P i v) (fun j h=>∃i,j=m+i∧St i h)where
 live:=fun i h ⟨j,_,st⟩=>D.live j h st
 frame:=fun i h h' ⟨j,e,st⟩ k=>⟨j,e,D.frame j h h' st k⟩
 item:=fun i s Q E hi ⟨j,e,st⟩ hQ=>D.item j s Q E (by omega) st fun x h' tk p st' sb=>hQ x h' tk ⟨j,e,p⟩ ⟨j+1,by omega,st'⟩ sb
 done:=fun s Q E ⟨j,e,st⟩ hE=>D.done s Q E (by rw[Nat.add_left_cancel e];exact st) hE
noncomputable def IteK(K:PySem.W.Frag)(b:Bool)(a:Addr)(m:Nat):It:=
 ⟨fun i H=>∃xs x,Sq K b H a xs∧xs[i]?=some x,
  fun i H v H'=>∃p x,H p=none∧v=.ref p∧H'=upd H p (.tup [.int ((m+i:Nat):Int),x])∧∀xs,Sq K b H a xs→xs[i]?=some x,
  fun i H=>∃xs,Sq K b H a xs∧xs.length=i⟩
noncomputable def enumTK(b:Bool)(a e j:Addr)(m i:Nat)(h:Heap):Prop:=(∃old,IsEnum h e j ((m+i:Nat):Int) old)∧ItAt b h j a i
theorem k0i{P:Program}{w:World}{K:PySem.W.Frag}{elts:List Expr}{x1}{pos:Pos}(b:Bool)(a e j:Addr)(m:Nat)(hej:e≠j)(na:a≠e∧a≠j):
 Turn P w K (.Tuple elts x1 pos) (IteK K b a m) [e,j] e (enumTK b a e j m)where
 mem:=by simp
 obj:=fun i h st c hc=>by
  obtain ⟨⟨old,he⟩,h1⟩:=st;have hc':c=e∨c=j:=by simpa using hc
  rcases hc' with rfl |rfl
  ·exact ⟨_,he,fun v q=>by simp at q⟩
  ·obtain ⟨o,e,_,d⟩:=h1.obj;exact ⟨o,e,fun v q=>by rw[d]at q;cases q⟩
 keep:=fun i h h' st k=>by
  obtain ⟨⟨old,he⟩,h1⟩:=st;exact ⟨⟨old,k e (by simp) _ he⟩,h1.stay fun o e=>k j (by simp) o e⟩
 item:=by
  intro X hP hw hK hc i pins s σ H E I hf st hg;subst hP hw hK;obtain ⟨xs,x,q1,e1⟩:=hg;obtain ⟨its1,r1,p1,z1⟩:=I.sq q1;obtain ⟨u1,g1,v1⟩:=r1.get e1;obtain ⟨⟨old,he⟩,h1⟩:=st;have l1:=(List.getElem?_eq_some_iff.mp g1).1;have hh:X.A.in1.handled=none:=I.ok.hd hc;have D1:=o0c (o8 b (prog:=X.prog) (w:=X.w) hh j a na.2 its1.toArray) m;refine wpAny_pyNext_enum_itemD D1 he ⟨i,rfl,h1,p1⟩ (by simpa using l1) hej (by simp[hej,na.1.symm]) fun x' h' tk px ho st1 hT' hsz kk=>⟨_,rfl,?_⟩
  obtain ⟨i2,ei,px⟩:=px;have ei:i2=i:=by omega
  subst ei;obtain ⟨i3,ei,st1⟩:=st1;have ei:i3=i2+1:=by omega
  subst ei;have ex:x'=u1:=by
   have px':its1.toArray[i2]?=some x':=px;rw[List.getElem?_toArray,g1]at px';exact (Option.some.inj px').symm
  subst ex;refine wpAny_letOwnedTupleGo_enum (s:={s with heap:=h',toks:=tk+1}) ho fun h₂ he₂ hs₂=>?_
  replace hs₂:Heap.SameBut e h' h₂:=hs₂;have hfr:H s.heap.objs.size=none:=I.hok.fresh (Nat.le_refl _);have Il:Inv X pins σ (upd H s.heap.objs.size (.tup [.int ((m+i2:Nat):Int),x])) {s with heap:=s.heap.push {cls:=.type "tuple",data:=.seq #[.int ((m+i2:Nat):Int) tk,x']}}:=I.laid (t':=s.toks) (fun b u e=>Heap.get?_push_of_some _ e) (Nat.le_refl _)
   ⟨by show 2≤sizeLine;decide,[.int ((m+i2:Nat):Int) tk,x'],.cons ⟨tk,rfl⟩ (.cons v1 .nil),⟨_,Heap.get?_push_size _ rfl,rfl,⟨_,rfl⟩,rfl⟩⟩
  have lt:∀{c o},s.heap.get? c=some o→c≠s.heap.objs.size:=fun e=>Nat.ne_of_lt (Heap.lt_size e)
  have nT:∀c∈[e,j],c≠s.heap.objs.size:=fun c hc=>by
   have hc':c=e∨c=j:=by simpa using hc
   rcases hc' with rfl |rfl
   ·exact lt he
   ·obtain ⟨o,e,_⟩:=h1.obj;exact lt e
  have hn2:∀c∈[e,j],upd H s.heap.objs.size (.tup [.int ((m+i2:Nat):Int),x]) c=none:=fun c hc=>by rw[u0 (nT c hc)];exact (hf c hc).1
  have If:Inv X pins σ (upd H s.heap.objs.size (.tup [.int ((m+i2:Nat):Int),x])) {s with heap:=h₂,toks:=tk+1}:=Inv.turnedL (s:={s with heap:=s.heap.push {cls:=.type "tuple",data:=.seq #[.int ((m+i2:Nat):Int) tk,x']}}) (ch:=[e,j]) (h':=h₂) (t':=tk+1) Il (fun c o hc q=>by
   have hc':c≠e∧c≠j:=by simpa using hc
   rcases Heap.get?_push_cases q with ⟨rfl,rfl⟩|q
   ·exact hs₂.extBut _ _ hc'.1 hT'
   ·exact hs₂.extBut _ _ hc'.1 (kk c o hc'.1 hc'.2 q)) fun c hc=>⟨hn2 c hc,(hf c hc).2⟩
  refine ⟨.ref s.heap.objs.size,_,If,rfl,⟨s.heap.objs.size,x,hfr,rfl,rfl,fun zs hq=>by rw[I.sq_inj hq q1];exact e1⟩,?_,hn2⟩;exact ⟨⟨_,by simpa[Int.add_assoc]using he₂⟩,st1.1.stay fun o q=>hs₂.extBut _ _ hej.symm q⟩
 done:=by
  intro X hP hw hK hc i pins s σ H E I hf st hg;subst hP hw hK;obtain ⟨xs,q1,le⟩:=hg;obtain ⟨its1,r1,p1,z1⟩:=I.sq q1;obtain ⟨⟨old,he⟩,h1⟩:=st;have hh:X.A.in1.handled=none:=I.ok.hd hc;have D1:=o8 b (prog:=X.prog) (w:=X.w) hh j a na.2 its1.toArray;have len1:=r1.length;have en:its1.toArray.size=i:=by simp only[List.size_toArray];omega
  refine wpAny_pyNext_enum_endD D1 he ⟨by rw[en];exact h1,p1⟩ fun h' sb=>⟨rfl,?_⟩
  exact I.turnedL (ch:=[e,j]) (h':=h') (t':=s.toks) (fun c o hc q=>by
   have hc':c≠e∧c≠j:=by simpa using hc
   exact sb c o hc'.2 q) hf
 self:=fun A i s Q E st h=>let ⟨⟨_,he⟩,_⟩:=st;wpAny_pyIter_enum he h
section
variable{M:Model}{A:Around}{E:Value→Shared→Prop}{s:Shared}{env:Env}
theorem t0l{pos:Pos}{T:String}{first:List Value}{args:List (Bool×Sem Value)}{keywords:List (Option Str×Sem Value)}{Q:Value→Shared→Prop}
 (hplain:args.any (·.1)=false) (hkw:keywords.any (·.1.isNone)=false)
 (h:wpAny M A (evalArgs (.type T) true args keywords) (fun a s₁=>wpAny M A (call (.type T) (first++a.pos) a.kw) Q E s₁) E s):
 wpAny M A (callWith pos (.type T) first args keywords) Q E s:=by
 unfold callWith;refine wpAny_bind (wpAny_holding (wpAny_mono h (fun a s₁ h₁=>wpAny_bind (wpAny_standAt ?_)) fun _ _ x=>x));simp only[hplain,hkw,Bool.or_false];refine wpAny_bind (wpAny_pure ?_);exact wpAny_bind (wpAny_mono h₁ (fun r s₂ hr=>wpAny_bind (wpAny_holding (wpAny_point (wpAny_pure hr)))) fun _ _ x=>x)
end
section
variable{X:Cx}{elts:List Expr}{x1:Nat}{tpos:Pos}
noncomputable def iEnuK(K:PySem.W.Frag)(ta:TA)(te:TE):TI:=fun σ H R=>ta σ H fun vs H1=>te σ H1 fun u H2=>∃a b,∃m:Nat,vs=[.ref a]∧u=.int (m:Int)∧m≤1000000∧(∃xs,Sq K b H2 a xs)∧R (IteK K b a m) H2
theorem e0a{a e:Expr}{ta:TA}{te:TE}{p pos kp:Pos}(hg:Gl X "enumerate")(hm:X.mg "enumerate"=none)(ha:PA X [a] ta)(he:PE X e te)(hs:starEach [a] X.env=[(false,eval a X.env)]:=by rfl):
 PI X (.Tuple elts x1 tpos) (.Call (.Name "enumerate" p) [a] [⟨some "start",e,kp⟩] pos) (iEnuK X.K ta te):=by
 intro pins s σ H R I h;refine wpAny_Call_Name_kw (v0v I hg hm v0p (t0l (by rw[hs];rfl) rfl ?_) (by decide) (by decide));have ha2:=ha pos pins s σ H _ I h;rw[hs]at ha2 ⊢;refine evalArgs_kwB rfl (thn ha2 fun us s1 ⟨vs,H1,I1,r1,q1⟩=>?_);refine kws_cons (thn (he pins s1 σ H1 _ I1 q1) fun v s2 ⟨u,H2,I2,r2,a1,b1,m,e1,e2,hm,⟨xs,k1⟩,q⟩=>kws_nil ?_);subst e1 e2;obtain ⟨t,rfl⟩:=r2;cases r1 with
 |cons r rr=>
  cases rr;cases r;obtain ⟨its1,v1,p1,z1⟩:=I2.sq k1;have l1:a1<s2.heap.objs.size:=by obtain ⟨o,e,_⟩:=p1.obj;exact Heap.lt_size e
  have hfit:Builtin.SmallTypes.fitsIndex (m:Int)=true:=by
   unfold Builtin.SmallTypes.fitsIndex;rw[Bool.and_eq_true];exact ⟨decide_eq_true (by omega),decide_eq_true (by omega)⟩
  refine e0b hfit p1 fun h' he i1 kk=>wpAny_pyIter_enum (s:={s2 with heap:=h'}) he ?_
  refine ⟨_,[s2.heap.objs.size+1,s2.heap.objs.size],_,_,H2,rfl,I2.kept (t':=s2.toks) kk,k0i b1 a1 _ _ m (Nat.succ_ne_self _) ⟨Nat.ne_of_lt (Nat.lt_succ_of_lt l1),Nat.ne_of_lt l1⟩,⟨⟨_,he⟩,i1⟩,fun c hc=>?_,q⟩;have hle:s2.heap.objs.size≤c:=by
   have hc':c=s2.heap.objs.size+1∨c=s2.heap.objs.size:=by simpa using hc
   rcases hc' with e |e<;>(rw[e];omega)
  exact I2.fpOk hle (I2.hok.fresh hle)
end
end L2
namespace DL
open PySem PySem.Spec L2
section
variable{X:Cx}{Y:Y2}{W:XW}{K:Frag}
theorem h0i{F:Hp}{b:Bool}{a:Addr}{xs:List V}{ds:List D}{m:Nat}(h:Sq K b F a xs)(r:Reps K F ds xs):SrcOk K (IteK K b a m) F (y0j m ds):=by
 refine ⟨fun i c F' H e s1 s2=>?_,fun F' H s1 s2=>?_⟩
 ·obtain ⟨d,e1,rfl⟩:=y9 e;obtain ⟨v,ev,rv⟩:=r.get e1;have q1:=(s1.trans s2).sq h;refine ⟨⟨xs,v,q1,ev⟩,fun u H' y=>?_⟩;obtain ⟨p,x,hp,rfl,rfl,k1⟩:=y;have e3:=k1 xs q1;rw[ev]at e3;cases e3;exact .inr ⟨p,_,_,hp,rfl,rfl,rfl,Reps.cons (rep_int.mpr rfl) (Reps.cons (rv.mono s1) Reps.nil)⟩
 ·rw[z9];exact ⟨xs,(s1.trans s2).sq h,r.length⟩
variable{a e:Expr}{ta:TA2}{te:TE2}{p pos tpos kp:Pos}{elts:List Expr}{x1:Nat}
noncomputable def l0y(ta:TA2)(te:TE2):TI2:=fun x ρ δ q=>ta x ρ δ fun ds ρ1 δ1=>te x ρ1 δ1 fun d ρ2 δ2=>match ds,d with | [c],.int m=>(match seqD c with |some xs=>0≤m∧m≤1000000∧q (y0j m.toNat xs) ρ2 δ2 |none=>False)|_,_=>False
theorem l0x(hm:X.mg "enumerate"=none)(ha:PA2 X Y W [a] ta)(he:PE2 X Y W e te)(hg:Gl X "enumerate":=by rfl)(hs:starEach [a] X.env=[(false,eval a X.env)]:=by rfl):
 PI2 X Y W (.Tuple elts x1 tpos) (.Call (.Name "enumerate" p) [a] [⟨some "start",e,kp⟩] pos) (l0y ta te):=pi2 (e0a hg hm ha.go he.go hs) fun σ H R ⟨F,ρ,δ,x,q,I,h,k,kx⟩=>by
 refine ⟨F,ρ,δ,x,_,I,h,fun ds vs F1 H1 ρ1 δ1 I1 s1 r1 h1=>⟨F1,ρ1,δ1,x,_,I1,h1,fun d v F' H' ρ' δ' I' s' r' h'=>?_,kx.mono s1⟩,kx⟩;split at h'
 ·split at h'
  ·rename_i xs e1;obtain ⟨v1,rfl,r2⟩:=q8 (r1.mono s');obtain ⟨a1,vs1,b1,rfl,q1,z1⟩:=m0f e1 r2;obtain ⟨m1,m2,h'⟩:=h';exact ⟨a1,b1,_,rfl,by rw[rep_int.mp r',Int.toNat_of_nonneg m1],by omega,⟨_,I'.sub.sq q1⟩,k _ _ F' H' ρ' δ' I' (s1.trans s') (h0i q1 z1) h'⟩
  ·exact h'.elim
 ·exact h'.elim
end
end DL
namespace DL
open PySem PySem.Spec L2
open PySem.W (XC)
section
variable{K:Frag}{Y:Y2}{F H:Hp}{σ:St}{ρ:En}{δ:Dk}
end
section
variable{X:Cx}{Y:Y2}{W:XW}{px pos:Pos}{target elt iter:Expr}{xs:List Str}{js:List Nat}{scope:Scope}{te:TE2}{ti:TI2}{tup:Bool}{g:TG}
variable(hc:X.calm=true)(S:CompOkM X xs js scope)(hi:PI2 X Y W target iter ti)(hg:(xs++js.map (fun j=>X.N.getD j "")).Nodup→∀C s₀ H₀ fp cl,PG (X.compM xs js scope cl C s₀ H₀ fp) target g)(gm:TgM X.K tup xs.length g)
 (ht:∀C s₀ H₀ fp cl Y',PIf2 (X.compM xs js scope cl C s₀ H₀ fp) Y' W0 [] a9) (he:∀C s₀ H₀ fp cl Y',PE2 (X.compM xs js scope cl C s₀ H₀ fp) Y' W0 elt te)
include hc S hi hg gm ht he
end
end DL
namespace DL
open PySem PySem.Spec L2
structure Tg{α:Type}(q:α):Type where
noncomputable def v0j(q:K2)(ρ:En)(_:Tg q):D→Dk→Prop:=fun d δ=>q d ρ δ
noncomputable def z1y(x:XK2)(ρ:En)(_:Tg x):Addr→List (Str×D)→Dk→Prop:=fun C fs δ=>x C fs ρ δ
section
variable{q:K2}{x:XK2}{ρ:En}{u:Tg q}{v:Tg x}{δ:Dk}
theorem k_any{d:D}:v0j q ρ u d δ=q d ρ δ:=rfl
theorem k_int{i:Int}:v0j q ρ u (.int i) δ=q (.int i) ρ δ:=rfl
theorem k_bl{i:Bool}:v0j q ρ u (.bl i) δ=q (.bl i) ρ δ:=rfl
theorem k_str{i:Str}:v0j q ρ u (.str i) δ=q (.str i) ρ δ:=rfl
theorem k_non:v0j q ρ u .non δ=q .non ρ δ:=rfl
theorem k_lst{i:List D}:v0j q ρ u (.lst i) δ=q (.lst i) ρ δ:=rfl
theorem k_tup{i:List D}:v0j q ρ u (.tup i) δ=q (.tup i) ρ δ:=rfl
theorem k_ins{C:Addr}{fs:List (Str×D)}:v0j q ρ u (.ins C fs) δ=q (.ins C fs) ρ δ:=rfl
theorem k_ref{i:Addr}:v0j q ρ u (.ref i) δ=q (.ref i) ρ δ:=rfl
theorem k_dwk{i:List (Key×D)}:v0j q ρ u (.dwk i) δ=q (.dwk i) ρ δ:=rfl
theorem k_dic{i:List (Key×D)}:v0j q ρ u (.dic i) δ=q (.dic i) ρ δ:=rfl
theorem x_nil{C:Addr}:z1y x ρ v C [] δ=x C [] ρ δ:=rfl
theorem x_cons{C:Addr}{a:Str×D}{fs:List (Str×D)}:z1y x ρ v C (a::fs) δ=x C (a::fs) ρ δ:=rfl
theorem call_s{sp:Sp2}{t:TA2}{q:K2}:v0q sp t x ρ δ q=t x ρ δ fun ds ρ1 δ1=>sp ds δ1 (v0j q ρ1 ⟨⟩) (z1y x ρ1 ⟨⟩):=rfl
end
theorem s0p{te:TE2}{js:List Nat}{ρ:En}{q:List D→Dk→Prop}{δ:Dk}:∀{ds acc:List D} (es:List D),ds.length=es.length→acc.length+ds.length≤1000→
 (∀(i:Nat) (d e:D),ds[i]?=some d→es[i]?=some e→∀Q:D→Dk→Prop,Q e δ→te (fun _ _ _ _=>False) (.val d::capt ρ js) δ fun e _ δ1=>Q e δ1)→q (acc++es) δ→j8 te js ρ q ds acc δ
 | [],acc,[],_,_,_,fin=>by unfold j8;rw[List.append_nil]at fin;exact fin
 |d::ds,acc,e::es,hl,ha,step,fin=>by
  unfold j8;rw[List.length_cons]at ha;rw[List.length_cons,List.length_cons]at hl;exact step 0 d e rfl rfl (fun e δ1=>acc.length<1000∧j8 te js ρ q ds (acc++[e]) δ1) ⟨by omega,s0p es (by omega) (by rw[List.length_append,List.length_singleton];omega) (fun i d e h1 h2=>step (i+1) d e (by rw[List.getElem?_cons_succ];exact h1) (by rw[List.getElem?_cons_succ];exact h2)) (by rw[List.append_assoc];exact fin)⟩
theorem s0o{tup:Bool}{n:Nat}{te:TE2}{js:List Nat}{ρ:En}{q:List D→Dk→Prop}{δ:Dk}:∀{ds acc:List D} (es:List D),ds.length=es.length→acc.length+ds.length≤1000→
 (∀(i:Nat) (d e:D),ds[i]?=some d→es[i]?=some e→∀Q:D→Dk→Prop,Q e δ→∃xs,tgD tup n d=some xs∧te (fun _ _ _ _=>False) (xs.map .val++capt ρ js) δ fun e _ δ1=>Q e δ1)→q (acc++es) δ→compM tup n a9 te js ρ q ds acc δ
 | [],acc,[],_,_,_,fin=>by unfold compM;rw[List.append_nil]at fin;exact fin
 |d::ds,acc,e::es,hl,ha,step,fin=>by
  unfold compM;rw[List.length_cons]at ha;rw[List.length_cons,List.length_cons]at hl;obtain ⟨xs,e1,e2⟩:=step 0 d e rfl rfl (fun e δ1=>acc.length<1000∧compM tup n a9 te js ρ q ds (acc++[e]) δ1) ⟨by omega,s0o es (by omega) (by rw[List.length_append,List.length_singleton];omega) (fun i d e h1 h2=>step (i+1) d e (by rw[List.getElem?_cons_succ];exact h1) (by rw[List.getElem?_cons_succ];exact h2)) (by rw[List.append_assoc];exact fin)⟩;rw[e1];unfold a9;dsimp only;rw[if_pos rfl];exact e2
theorem f7{α:Type}{te:TE2}{js:List Nat}{ρ:En}{q:List D→Dk→Prop}{δ:Dk}(g f:α→D)(l:List α)(hl:l.length≤1000)(step:∀a∈l,∀Q:D→Dk→Prop,Q (f a) δ→te (fun _ _ _ _=>False) (.val (g a)::capt ρ js) δ fun e _ δ1=>Q e δ1)(fin:q (l.map f) δ):j8 te js ρ q (l.map g) [] δ:=
 s0p (l.map f) (by rw[List.length_map,List.length_map]) (by rw[List.length_map];show 0+_≤_;omega) (fun i d e hd he Q hQ=>by
  rw[List.getElem?_map,Option.map_eq_some_iff]at hd;obtain ⟨a,ha,rfl⟩:=hd;rw[List.getElem?_map,ha]at he;cases he;exact step a (List.mem_of_getElem? ha) Q hQ) fin
theorem s0n{α:Type}{tup:Bool}{n:Nat}{te:TE2}{js:List Nat}{ρ:En}{q:List D→Dk→Prop}{δ:Dk}(g f:α→D)(l:List α)(hl:l.length≤1000)(step:∀a∈l,∀Q:D→Dk→Prop,Q (f a) δ→∃xs,tgD tup n (g a)=some xs∧te (fun _ _ _ _=>False) (xs.map .val++capt ρ js) δ fun e _ δ1=>Q e δ1)(fin:q (l.map f) δ):compM tup n a9 te js ρ q (l.map g) [] δ:=
 s0o (l.map f) (by rw[List.length_map,List.length_map]) (by rw[List.length_map];show 0+_≤_;omega) (fun i d e hd he Q hQ=>by
  rw[List.getElem?_map,Option.map_eq_some_iff]at hd;obtain ⟨a,ha,rfl⟩:=hd;rw[List.getElem?_map,ha]at he;cases he;exact step a (List.mem_of_getElem? ha) Q hQ) fin
theorem w0s{α:Type}{tup:Bool}{n:Nat}{tc:TT2}{te:TE2}{js:List Nat}{ρ:En}{q:List D→Dk→Prop}{δ:Dk}(g f:α→D)(p:α→Bool):∀(l:List α) {acc:List D},acc.length+l.length≤1000→
 (∀a∈l,∀Q:Option D→Dk→Prop,(p a=true→Q (some (f a)) δ)→(p a=false→Q none δ)→∃xs,tgD tup n (g a)=some xs∧tc (fun _ _ _ _=>False) (xs.map .val++capt ρ js) δ fun b ρ1 δ1=>if b=true then te (fun _ _ _ _=>False) ρ1 δ1 fun e _ δ2=>Q (some e) δ2 else Q none δ1)→q (acc++(l.filter p).map f) δ→compM tup n tc te js ρ q (l.map g) acc δ
 | [],acc,_,_,fin=>by rw[List.map_nil];unfold compM;rw[List.filter_nil,List.map_nil,List.append_nil]at fin;exact fin
 |a::l,acc,hl,step,fin=>by
  rw[List.map_cons];unfold compM;rw[List.length_cons]at hl;obtain ⟨xs,e1,e2⟩:=step a (List.mem_cons_self ..) (fun o δ1=>match o with |some e=>acc.length<1000∧compM tup n tc te js ρ q (l.map g) (acc++[e]) δ1 |none=>compM tup n tc te js ρ q (l.map g) acc δ1)
   (fun h=>⟨by omega,w0s g f p l (by rw[List.length_append,List.length_singleton];omega) (fun b hb=>step b (List.mem_cons_of_mem _ hb)) (by rw[List.filter_cons_of_pos h,List.map_cons]at fin;rw[List.append_assoc];exact fin)⟩)
   (fun h=>w0s g f p l (by omega) (fun b hb=>step b (List.mem_cons_of_mem _ hb)) (by rw[List.filter_cons_of_neg (by rw[h];exact Bool.false_ne_true)]at fin;exact fin))
  rw[e1];exact e2
theorem h0h{α:Type}{gt:G2}{body:TS2}{E:End2}{ρ:En}{δ:Dk}(g:α→D)(l:List α)(P:Nat→En→Dk→Prop)(h0:P 0 ρ δ)(step:∀(i:Nat) (a:α) (ρ:En) (δ:Dk) (rest:En→Dk→Prop),l[i]?=some a→P i ρ δ→(∀ ρ' δ',P (i+1) ρ' δ'→rest ρ' δ')→x0h gt body E rest (g a) ρ δ)(fin:∀ ρ δ,P l.length ρ δ→E.nx ρ δ):forL gt body E (l.map g) ρ δ:=
 z0q P h0 (fun i d ρ δ rest hd hp hr=>by
  rw[List.getElem?_map,Option.map_eq_some_iff]at hd;obtain ⟨a,ha,rfl⟩:=hd;exact step i a ρ δ rest ha hp hr) (by rw[List.length_map];exact fin)
theorem forL_E{α:Type}{gt:G2}{body:TS2}{E:End2}{ρ:En}{δ:Dk}(g:α→D)(l:List α)(P:Nat→En→Dk→Prop)(h0:P 0 ρ δ)(step:∀(i:Nat) (a:α) (ρ:En) (δ:Dk) (rest:En→Dk→Prop),l[i]?=some a→P i ρ δ→(∀ ρ' δ',P (i+1) ρ' δ'→rest ρ' δ')→x0h gt body E rest (.tup [.int (i:Int),g a]) ρ δ)(fin:∀ ρ δ,P l.length ρ δ→E.nx ρ δ):forL gt body E (y0j 0 (l.map g)) ρ δ:=
 z0q P h0 (fun i d ρ δ rest hd hp hr=>by
  obtain ⟨z,hz,rfl⟩:=y9 hd;rw[List.getElem?_map,Option.map_eq_some_iff]at hz;obtain ⟨a,ha,rfl⟩:=hz;rw[Nat.zero_add];exact step i a ρ δ rest ha hp hr) (by rw[z9,List.length_map];exact fin)
end DL
namespace L2
open PySem PySem.Spec PyProof.Rows PySem.SeqAt
section
variable{X:Cx}
end
end L2
namespace DL
open PySem PySem.Spec L2
section
variable{X:Cx}{Y:Y2}{W:XW}{o e b:Expr}{es:List Expr}{ta tb:TE2}{t:TA2}{p pos apos cpos:Pos}
structure TopRow(K:Frag)(mg:Str→Option Value)(x:Str)(ds:List D):Prop where
 ex:∃a vs,mg x=some (.ref a)∧(∀H,SqT K H a vs)∧∀F,Reps K F ds vs
theorem topRow3{K:Frag}{mg:Str→Option Value}{x:Str}{a:Addr}{s1 s2 s3:Str}{t1 t2 t3:Tok}{n:Nat}{dd:Option Addr}{sl:Array (Option Value)}(hm:mg x=some (.ref a))(hk:K.lookup a=some {cls:=.type "tuple",dict:=dd,data:=.seq ⟨[.str s1 t1,.str s2 t2,.str s3 t3]⟩ n,slots:=sl}):TopRow K mg x [.str s1,.str s2,.str s3]:=
 ⟨a,[.str s1,.str s2,.str s3],hm,fun H=>.inr ⟨_,_,n,hk,rfl,rfl,by show 3≤sizeLine;decide,.cons ⟨t1,rfl⟩ (.cons ⟨t2,rfl⟩ (.cons ⟨t3,rfl⟩ .nil))⟩,fun F=>Reps.cons (rep_str.mpr rfl) (Reps.cons (rep_str.mpr rfl) (Reps.cons (rep_str.mpr rfl) Reps.nil))⟩
end
theorem c0u{K:Frag}{x:Str}:t0n K (.str x) (.ty "str")=some true:=by
 unfold t0n;exact show PySem.W.kitOne K (.type "str") (.type "str")=some true by unfold PySem.W.kitOne;rfl
end DL
namespace L2
open PySem PySem.Spec PyProof.Rows PySem.Calls PySem.W
section
variable{X:Cx}
end
end L2
namespace DL
open PySem PySem.Spec L2
end DL
namespace L2
open PySem PySem.Spec PyProof.Rows PySem.Calls PySem.W
section
variable{prog:Program}{w:World}{A:Around}{E:Value→Shared→Prop}{s:Shared}
end
section
variable{X:Cx}
end
end L2
namespace DL
open PySem PySem.Spec L2
section
variable{X:Cx}{Y:Y2}{W:XW}{e:Expr}{te:TE2}{p p2 pos pos2:Pos}
end
end DL
namespace L2
open PySem PySem.Spec PyProof.Rows
open PySem.W (XC)
section
variable{X:Cx}{pins:List (Addr×Obj)}{σ:St}{H:Hp}{s:Shared}
end
end L2
namespace L2
open PySem PySem.Spec PyProof.Rows
structure FnOkH(P:Program)(w:World)(K:PySem.W.Frag)(mg:Str→Option Value)(base:Heap)(k:Nat)(f:Addr)(fd:FuncData)(ps:List Str)(sp:Addr→Sp):Prop where
 len:∀h vs H Q E,sp h vs H Q E→vs.length=ps.length
 run:∀(h:Addr) (A:Around) (outer:List Env) (s:Shared) (H:Hp) (args:Args) (us:List Value) (vs:List V) (Q:VK) (E:XK),A.handled=some (.ref h)→RoomU k A→Env0 P w K mg base A outer s H→BindsTo s fd args (ps.zip us)→Vals vs us→sp h vs H Q E→
  codeAny (model P w) A (.call (.ref f) args) (CR (CXc false P w) outer P w H s Q E) s
structure FnAtH(P:Program)(w:World)(K:PySem.W.Frag)(mg:Str→Option Value)(base:Heap)(x:Str)(k:Nat)(ps:List Str)(sp:Addr→Sp):Prop where
 ex:∃f fd,FnOkH P w K mg base k f fd ps sp∧mg x=some (.ref f)∧PySem.W.keepIn K (.ref f)=true∧Binds K fd ps []
section
variable{P:Program}{w:World}{K:PySem.W.Frag}{mg:Str→Option Value}{base:Heap}
end
section
variable{X:Cx}{pins:List (Addr×Obj)}{σ:St}{H:Hp}{s:Shared}
end
end L2
namespace DL
open PySem PySem.Spec L2
open PySem.W (XC)
open PyProof.Rows (envOfC)
section
variable{X:Cx}{Y:Y2}{W:XW}{x:Str}{p pos cpos:Pos}{e:Expr}{es:List Expr}{t:TA2}{k:Nat}{ps:List Str}{sp:Sp2}{hd:Addr}
end
section
variable{P:Program}{w:World}{K:Frag}{mg:Str→Option Value}{base:Heap}
end
section
variable{K:Frag}{Y:Y2}{F H F' H':Hp}{σ:St}{ρ:En}{δ:Dk}{x:Addr}{o:HO}
end
end DL
namespace DL
open PySem PySem.Spec L2
section
variable{X:Cx}{Y:Y2}{W:XW}{D:Addr}{y n:Str}{np pos:Pos}{b₀:Stmt}{suite:List Stmt}{rest:List ExceptHandler}{ts:TS2}{tr:XTS2}
end
end DL
namespace DL
open PySem PySem.Spec L2
section
variable{X:Cx}{Y:Y2}{W:XW}{a:Expr}{ta:TA2}{p p2 pos pos2:Pos}
end
end DL
namespace L2
open PySem PySem.Spec PyProof.Rows Builtin Builtin.Str
theorem h8{n:Nat}(h:n≤100000):n≤sizeLine:=by rw[sizeLine_eq];omega
theorem p0s:∀(l:List (Str×Tok)),Vals ((l.map (·.1)).map V.str) (strValues l)
 | []=>.nil
 |(x,t)::l=>.cons ⟨t,rfl⟩ (p0s l)
theorem p0r:∀{zs:List Str} {us:List Value},Vals (zs.map V.str) us→StrsAre us zs
 | [],us,h=>by cases h;exact .nil
 |z::zs,us,h=>by
  rw[List.map_cons]at h;cases h with
  |cons r1 r2=>obtain ⟨t,rfl⟩:=r1;exact .cons z t (p0r r2)
section
variable{X:Cx}
theorem z0c:OpR X (binaryOp .Mult) (fun x y H Q=>∃z n,x=.str z∧y=.int n∧0≤n∧n≤1000∧z.length≤100∧Q (.str (Txt.mul z n)) H):=by
 intro pins s σ H x y v u Q I rx ry h;obtain ⟨z,n,rfl,rfl,h1,h2,h3,q⟩:=h;obtain ⟨t,rfl⟩:=rx;obtain ⟨t',rfl⟩:=ry;refine SB.mul ⟨?_,fun _ _=>?_,fun _ _=>?_⟩ fun t' k=>⟨.str _,H,I.tok _,⟨_,rfl⟩,q⟩
 ·have e1:decide (n< -(2^63:Int))=false:=decide_eq_false (by omega);have e2:decide (n≥2^63)=false:=decide_eq_false (by omega);rw[e1,e2];rfl
 ·have:(100:Int)≤(2^63-1)/n:=Int.le_ediv_of_mul_le (by omega) (by omega);omega
 ·unfold tooLong;exact decide_eq_false (by have:z.length*n.toNat≤100*1000:=Nat.mul_le_mul h3 (by omega);rw[sizeLine_eq];omega)
noncomputable def c0t:V→List V→Hp→VK→Prop:=fun x vs H Q=>∃z y,x=.str z∧vs=[.str y]∧(y.length==0)=false∧z.length≤100000∧∀p,H p=none→Q (.ref p) (upd H p (.lst ((Txt.split z y).map V.str)))
theorem l0w:MtR X "str.split" c0t:=by
 intro pins s σ H x vs v us Q I rx rv h;obtain ⟨z,y,rfl,rfl,hy,hz,q⟩:=h;obtain ⟨t,rfl⟩:=rx;obtain ⟨_,rfl,t',rfl⟩:=rv.one;have hle:=split_le z y;have fin:∀(l:List (Str×Tok)) (k:Nat),l.map (·.1)=Txt.split z y→EP X pins σ Q (.ref s.heap.objs.size) {s with toks:=k,heap:=s.heap.push {cls:=.type "list",data:=.seq (strValues l).toArray}}:=fun l k e=>by
  refine ⟨.ref s.heap.objs.size,_,I.laid (t':=k) (o:=.lst ((Txt.split z y).map V.str)) (fun b ob q=>Heap.get?_push_of_some _ q) (Nat.le_refl _) ⟨?_,strValues l,0,?_,Heap.get?_push_size _ rfl⟩,rfl,q _ (I.hok.fresh (Nat.le_refl _))⟩
  ·rw[List.length_map];rw[sizeLine_eq];omega
  ·rw[←e];exact p0s l
 cases h1:(decide (z.length<y.length)||decide (strKind z<strKind y))
 ·cases hf:(occurrences z y 0 z.length (z.length+1)).isEmpty
  ·have e:Txt.split z y=partsBetween z (occurrences z y 0 z.length (z.length+1)) y.length:=(if_neg (ne_true_of_eq_false h1)).trans (if_neg (ne_true_of_eq_false hf));refine call_meets F.slot_str_split (typeIs_str _ _ _) F.entry_str_split (F.args_str_split_2 _ _) (meets_str_split_sep z y t t' h1 hy hf (h8 hz) (by rw[←e,sizeLine_eq];omega)) ?_;show wants _ _ _ {s with toks:=_,heap:=s.heap.push {cls:=.type "list",data:=.seq (strsFrom s.toks (partsBetween z (occurrences z y 0 z.length (z.length+1)) y.length)).toArray}};rw[strsFrom_eq];exact fin (numbered s.toks _) _ ((numbered_texts _ _).trans e.symm)
  ·exact call_meets F.slot_str_split (typeIs_str _ _ _) F.entry_str_split (F.args_str_split_2 _ _) (meets_str_split_not_found z y t t' h1 hy hf)
    (fin [(z,t)] _ ((if_neg (ne_true_of_eq_false h1)).trans (if_pos hf)).symm)
 ·exact call_meets F.slot_str_split (typeIs_str _ _ _) F.entry_str_split (F.args_str_split_2 _ _) (meets_str_split_cannot_occur z y t t' h1)
   (fin [(z,t)] _ (if_pos h1).symm)
noncomputable def rJoin(K:PySem.W.Frag):V→List V→Hp→VK→Prop:=fun x vs H Q=>∃z l zs,x=.str z∧vs=[.ref l]∧SqL K H l (zs.map V.str)∧z.length≤64∧(zs.map (·.length)).sum+zs.length*64≤100000∧Q (.str (Txt.join z zs)) H
theorem r0v:MtR X "str.join" (rJoin X.K):=by
 intro pins s σ H x vs v us Q I rx rv h;obtain ⟨z,l,zs,rfl,rfl,hl,h1,h2,q⟩:=h;obtain ⟨t,rfl⟩:=rx;obtain ⟨_,rfl,ru⟩:=rv.one;cases ru;obtain ⟨its,r,pl,_⟩:=I.list hl;exact join_listC pl.isList (p0r (by simpa using r)) h1 (by omega) fun t' k=>⟨.str _,H,I.tok _,⟨_,rfl⟩,q⟩
noncomputable def h0g:V→List V→Hp→VK→Prop:=fun x vs H Q=>∃z y,x=.str z∧vs=[.str y]∧z.length≤100000∧Q (.str (Txt.rstripChars z y)) H
theorem h0f:MtR X "str.rstrip" h0g:=by
 intro pins s σ H x vs v us Q I rx rv h;obtain ⟨z,y,rfl,rfl,hz,q⟩:=h;obtain ⟨t,rfl⟩:=rx;obtain ⟨_,rfl,t',rfl⟩:=rv.one;exact SC.rstripChars (fun t' k=>⟨.str _,H,I.tok _,⟨_,rfl⟩,q⟩) (h8 hz)
noncomputable def rEnds:V→List V→Hp→VK→Prop:=fun x vs H Q=>∃z y,x=.str z∧vs=[.str y]∧Q (.bl (Txt.endswith z y)) H
theorem z1x:MtR X "str.endswith" rEnds:=by
 intro pins s σ H x vs v us Q I rx rv h;obtain ⟨z,y,rfl,rfl,q⟩:=h;obtain ⟨t,rfl⟩:=rx;obtain ⟨_,rfl,t',rfl⟩:=rv.one;exact SC.endswith ⟨.bl _,H,I,rfl,q⟩
noncomputable def rSlS:V→Option Int→Option Int→Hp→VK→Prop:=fun x lo hi H Q=>∃z,x=.str z∧z.length≤100000∧Q (.str (Txt.slice z lo hi)) H
theorem sl_str:SlR X rSlS:=by
 intro pins s σ H x v vl vu lo hi sl Q I rx hs pl pu h;obtain ⟨z,rfl,hz,q⟩:=h;obtain ⟨t,rfl⟩:=rx;refine ⟨"str",_,F.slot_str_getitem.lookup,typeIs_str _ _ _,?_⟩;cases pl with
 |none=>
  cases pu with
  |none=>exact wpAny_getItem_str_slice (l:=none) (u:=none) (st:=none) hs rfl (post_val_or_str ⟨Nat.le_trans (Txt.slice_le z _ _) (h8 hz),fun t' k=>⟨.str _,H,I.tok _,⟨_,rfl⟩,q⟩⟩)
  |int j uj=>exact wpAny_getItem_str_slice (l:=none) (u:=some (j,uj)) (st:=none) hs rfl (post_val_or_str ⟨Nat.le_trans (Txt.slice_le z _ _) (h8 hz),fun t' k=>⟨.str _,H,I.tok _,⟨_,rfl⟩,q⟩⟩)
 |int i ui=>
  cases pu with
  |none=>exact wpAny_getItem_str_slice (l:=some (i,ui)) (u:=none) (st:=none) hs rfl (post_val_or_str ⟨Nat.le_trans (Txt.slice_le z _ _) (h8 hz),fun t' k=>⟨.str _,H,I.tok _,⟨_,rfl⟩,q⟩⟩)
  |int j uj=>exact wpAny_getItem_str_slice (l:=some (i,ui)) (u:=some (j,uj)) (st:=none) hs rfl (post_val_or_str ⟨Nat.le_trans (Txt.slice_le z _ _) (h8 hz),fun t' k=>⟨.str _,H,I.tok _,⟨_,rfl⟩,q⟩⟩)
noncomputable abbrev TJ:=St→Hp→Str→VK→Prop
noncomputable def PJ(X:Cx)(es:List Expr)(t:TJ):Prop:=∀(pins:List (Addr×Obj)) (s:Shared) (σ:St) (H:Hp) (out:Str) (Q:VK),Inv X pins σ H s→t σ H out Q→wpAny (model X.prog X.w) X.A (joinParts out (evalEach es X.env)) (EP X pins σ Q) X.xe s
theorem pj_nil:PJ X [] fun σ H out Q=>out.length≤100000∧Q (.str out) H:=fun pins s σ H out Q I h=>joinParts_nil ⟨.str _,H,I.tok _,⟨_,rfl⟩,h.2⟩ (h8 h.1)
theorem z1w{e:Expr}{es:List Expr}{te:TE}{tr:TJ}(he:PE X e te)(hr:PJ X es tr):PJ X (e::es) fun σ H out Q=>te σ H fun v H1=>∃y,v=.str y∧(out++y).length≤100000∧tr σ H1 (out++y) Q:=fun pins s σ H out Q I h=>
 joinParts_cons (thn (he pins s σ H _ I h) fun v s1 ⟨x,H1,I1,r1,y,ex,hl,q⟩=>by
  subst ex;obtain ⟨t,rfl⟩:=r1;exact ⟨h8 hl,hr pins s1 σ H1 _ Q I1 q⟩)
theorem h0e{e f:Expr}{es:List Expr}{pos:Pos}{t:TJ}(h:PJ X (e::f::es) t):PE X (.JoinedStr (e::f::es) pos) fun σ H Q=>t σ H Str.empty Q:=fun pins s σ H Q I q=>JoinedStr_many (h pins s σ H Str.empty Q I q)
theorem pe_fmt{e:Expr}{te:TE}{pos:Pos}(he:PE X e te):PE X (.FormattedValue e (-1) none pos) fun σ H Q=>te σ H fun v H1=>(∃i,v=.int i∧i.natAbs.log2<1920∧Q (.str (toString i)) H1)∨∃y,v=.str y∧y.length≤100000∧Q (.str y) H1:=fun pins s σ H Q I h=>
 FormattedValue_plain (thn (he pins s σ H _ I h) fun v s1 ⟨x,H1,I1,r1,q⟩=>by
  rcases q with ⟨i,rfl,hi,q⟩|⟨y,rfl,hy,q⟩
  ·obtain ⟨t,rfl⟩:=r1;exact formatField_int_small hi ⟨.str _,H1,I1.tok _,⟨_,rfl⟩,q⟩
  ·obtain ⟨t,rfl⟩:=r1;exact formatField_str (fun t' tk=>⟨.str _,H1,I1.tok _,⟨_,rfl⟩,q⟩) (h8 hy))
end
end L2
namespace DL
open PySem PySem.Spec L2
noncomputable def mulS:F2:=fun d1 d2 q=>match d1,d2 with
 | .str z,.int n=>0≤n∧n≤1000∧z.length≤100∧q (.str (Txt.mul z n))
 |_,_=>False
theorem l0v{K:PySem.W.Frag}:OpD K (fun x y H Q=>∃z n,x=V.str z∧y=V.int n∧0≤n∧n≤1000∧z.length≤100∧Q (V.str (Txt.mul z n)) H) mulS:=by
 intro Y F H σ ρ δ x y d1 d2 Q1 q I r1 r2 h' k;unfold mulS at h';split at h'
 ·rename_i z n;exact ⟨z,n,rep_str.mp r1,rep_int.mp r2,h'.1,h'.2.1,h'.2.2.1,k _ _ F H I (Same.refl F) (rep_str.mpr rfl) h'.2.2.2⟩
 ·exact h'.elim
noncomputable def addT:F2:=fun d1 d2 q=>match d1,d2 with
 | .str x,.str y=>x.length+y.length≤100000∧q (.str (x++y))
 |_,_=>False
theorem y0g{K:PySem.W.Frag}:OpD K (fun x y H Q=>∃i j,x=V.str i∧y=V.str j∧i.length+j.length≤sizeLine∧Q (V.str (i++j)) H) addT:=by
 intro Y F H σ ρ δ x y d1 d2 Q1 q I r1 r2 h' k;unfold addT at h';split at h'
 ·rename_i a b;exact ⟨a,b,rep_str.mp r1,rep_str.mp r2,h8 h'.1,k _ _ F H I (Same.refl F) (rep_str.mpr rfl) h'.2⟩
 ·exact h'.elim
noncomputable abbrev FS:=Str→List D→(D→Prop)→Prop
noncomputable def MtSD(K:Frag)(r:V→List V→Hp→VK→Prop)(f:FS):Prop:=∀(Y:Y2) (F H:Hp) (σ:St) (ρ:En) (δ:Dk) (z:Str) (es:List D) (us:List V) (Q1:VK) (q:D→Prop),I2 K Y F H σ ρ δ→Reps K F es us→f z es q→
 (∀d v F' H',I2 K Y F' H' σ ρ δ→Same F F'→Rep K F' d v→q d→Q1 v H')→r (.str z) us H Q1
section
variable{X:Cx}{Y:Y2}{W:XW}{o e:Expr}{es:List Expr}{ta:TE2}{t:TA2}{p pos apos cpos:Pos}
noncomputable def t2SM(f:FS)(ta:TE2)(t:TA2):TE2:=fun x ρ δ q=>ta x ρ δ fun d ρ1 δ1=>match d with | .str z=>t x ρ1 δ1 fun es ρ2 δ2=>f z es fun r=>q r ρ2 δ2 |_=>False
theorem up_sm{f:FS}{r:V→List V→Hp→VK→Prop}(hf:MtSD X.K r f){σ:St}{H:Hp}{Q:VK}(h:upE X.K Y W (t2SM f ta t) σ H Q):tBM X.K "str" r (upE X.K Y W ta) (upA X.K Y W t) σ H Q:=by
 obtain ⟨F,ρ,δ,x,q,I,h,k,kx⟩:=h;refine ⟨F,ρ,δ,x,_,I,h,fun d v F1 H1 ρ1 δ1 I1 s1 r1 h1=>?_,kx⟩;cases d with
 |str z=>
  rw[rep_str.mp r1];refine ⟨rfl,F1,ρ1,δ1,x,_,I1,h1,fun es us F2 H2 ρ2 δ2 I2' s2 r2 h2=>?_,kx.mono s1⟩;exact hf Y F2 H2 σ ρ2 δ2 z es us _ _ I2' r2 h2 fun d v F' H' I' s' r' q'=>k d v F' H' ρ2 δ2 I' ((s1.trans s2).trans s') r' q'
 |_=>exact h1.elim
theorem o0b{name:Str}{id:String}{f:FS}{r:V→List V→Hp→VK→Prop}(slot:Slot "str" name id)(hty:typeOf (.builtin id)=pure (.type "method_descriptor"))(hm:MtR X id r)(hf:MtSD X.K r f)(ho:PE2 X Y W o ta)(ha:PA2 X Y W (e::es) t)(hbase:attributeBase o name X.env (eval o X.env)=eval o X.env:=by rfl)
 (hfew:((backTo cpos (starEach (e::es) X.env)).all (fun x=>!x.1)&&(backToKw cpos (keywordEach [] X.env)).all (fun x=>x.1.isSome)
  &&decide ((e::es).length+([]:List Keyword).length+(if ([]:List Keyword).isEmpty then 0 else 1)<30))=true:=by rfl)
 (hline:(apos.endLine==cpos.line)=true:=by rfl) (hs:starEach (e::es) X.env=(false,eval e X.env)::starEach es X.env:=by exact z6 rfl) (hplain:(backTo cpos (starEach es X.env)).any (·.1)=false:=by exact a6 rfl):
 PE2 X Y W (.Call (.Attribute o name apos) (e::es) [] cpos) (t2SM f ta t):=pe2 (b0u PySem.F.plainAttrs_str slot hty hm ho.go ha.go hbase hfew hline hs hplain) fun σ H Q h=>up_sm hf h
noncomputable def p0q:List D→Option (List Str)
 | []=>some []
 | .str x::ds=>(p0q ds).map (x::·)
 |_::_=>none
theorem c0s{K:Frag}{F:Hp}:∀{ds:List D} {vs:List V} {zs:List Str},p0q ds=some zs→Reps K F ds vs→vs=zs.map V.str
 | [],vs,zs,h,r=>by cases h;rw[reps_nil.mp r];rfl
 |d::ds,vs,zs,h,r=>by
  obtain ⟨v,l,rfl,r1,r2⟩:=reps_cons.mp r;cases d with
  |str x=>
   unfold p0q at h;obtain ⟨ws,e,rfl⟩:=Option.map_eq_some_iff.mp h;rw[rep_str.mp r1,c0s e r2];rfl
  |_=>cases h
theorem d0z{zs:List Str}:p0q (zs.map D.str)=some zs:=by
 induction zs with
 |nil=>rfl
 |cons z zs ih=>show (p0q (zs.map D.str)).map (z::·)=_;rw[ih];rfl
theorem u0d{K:Frag}{F:Hp}:∀(zs:List Str),Reps K F (zs.map D.str) (zs.map V.str)
 | []=>Reps.nil
 |z::zs=>Reps.cons (rep_str.mpr rfl) (u0d zs)
noncomputable def k0h:FS:=fun z es q=>match es with | [.lst ds]=>(match p0q ds with |some zs=>z.length≤64∧(zs.map (·.length)).sum+zs.length*64≤100000∧q (.str (Txt.join z zs))|none=>False)|_=>False
theorem l0u{K:Frag}:MtSD K (rJoin K) k0h:=by
 intro Y F H σ ρ δ z es us Q1 q I r h' k;unfold k0h at h';split at h'
 ·rename_i ds;split at h'
  ·rename_i zs e;obtain ⟨v,rfl,r1⟩:=q8 r;obtain ⟨a,vs,rfl,ea,zz⟩:=rep_lst.mp r1;rw[c0s e zz]at ea;exact ⟨z,a,zs,rfl,rfl,SqL.of (I.sub _ _ ea),h'.1,h'.2.1,k _ _ F H I (Same.refl F) (rep_str.mpr rfl) h'.2.2⟩
  ·exact h'.elim
 ·exact h'.elim
noncomputable def p0p:FS:=fun z es q=>match es with | [.str y]=>(y.length==0)=false∧z.length≤100000∧q (.lst ((Txt.split z y).map D.str))|_=>False
theorem z1v{K:Frag}:MtSD K c0t p0p:=by
 intro Y F H σ ρ δ z es us Q1 q I r h' k;unfold p0p at h';split at h'
 ·rename_i y;obtain ⟨v,rfl,r1⟩:=q8 r;rw[rep_str.mp r1];exact ⟨z,y,rfl,rfl,h'.1,h'.2.1,fun p hp=>k _ _ _ _ (I.alloc hp) (I.grow hp) (I.lst hp (u0d _)) h'.2.2⟩
 ·exact h'.elim
noncomputable def u0c:FS:=fun z es q=>match es with | [.str y]=>z.length≤100000∧q (.str (Txt.rstripChars z y))|_=>False
theorem d0y{K:Frag}:MtSD K h0g u0c:=by
 intro Y F H σ ρ δ z es us Q1 q I r h' k;unfold u0c at h';split at h'
 ·rename_i y;obtain ⟨v,rfl,r1⟩:=q8 r;rw[rep_str.mp r1];exact ⟨z,y,rfl,rfl,h'.1,k _ _ F H I (Same.refl F) (rep_str.mpr rfl) h'.2⟩
 ·exact h'.elim
noncomputable def h0d:FS:=fun z es q=>match es with | [.str y]=>q (.bl (Txt.endswith z y))|_=>False
theorem d_ends{K:Frag}:MtSD K rEnds h0d:=by
 intro Y F H σ ρ δ z es us Q1 q I r h' k;unfold h0d at h';split at h'
 ·rename_i y;obtain ⟨v,rfl,r1⟩:=q8 r;rw[rep_str.mp r1];exact ⟨z,y,rfl,rfl,k _ _ F H I (Same.refl F) (rep_bl.mpr rfl) h'⟩
 ·exact h'.elim
noncomputable def slSF(d:D)(l u:Option Int)(q:D→Prop):Prop:=match d with | .str z=>z.length≤100000∧q (.str (Txt.slice z l u))|_=>False
variable{te:TE2}{p2:Pos}
noncomputable def d0x(te:TE2)(tl th:TO2):TE2:=fun x ρ δ q=>te x ρ δ fun d ρ1 δ1=>tl x ρ1 δ1 fun l ρ2 δ2=>th x ρ2 δ2 fun u ρ3 δ3=>slSF d l u fun e=>q e ρ3 δ3
theorem p0o{lo hi:Option Expr}{tl th:TO2}(he:PE2 X Y W e te)(hl:PO2 X Y W lo tl)(hu:PO2 X Y W hi th):PE2 X Y W (.Subscript e (.Slice lo hi none p2) pos) (d0x te tl th):=pe2 (m0w sl_str he.go hl.go hu.go) fun σ H Q ⟨F,ρ,δ,x,q,I,h,k,kx⟩=>by
 refine ⟨F,ρ,δ,x,_,I,h,fun d v F1 H1 ρ1 δ1 I1 s1 r1 h1=>⟨F1,ρ1,δ1,x,_,I1,h1,fun l F2 H2 ρ2 δ2 I2' s2 h2=>⟨F2,ρ2,δ2,x,_,I2',h2,fun u F3 H3 ρ3 δ3 I3 s3 h3=>?_,kx.mono (s1.trans s2)⟩,kx.mono s1⟩,kx⟩;have sa:=(s1.trans s2).trans s3;unfold slSF at h3;cases d with
 |str z=>
  rw[rep_str.mp r1];exact ⟨z,rfl,h3.1,k _ _ F3 H3 ρ3 δ3 I3 sa (rep_str.mpr rfl) h3.2⟩
 |_=>exact h3.elim
noncomputable abbrev TJ2:=XK2→En→Dk→Str→K2→Prop
noncomputable def upJ(K:Frag)(Y:Y2)(W:XW)(t:TJ2):TJ:=fun σ H out Q=>∃F ρ δ x q,I2 K Y F H σ ρ δ∧t x ρ δ out q∧(∀d v F' H' ρ' δ',I2 K Y F' H' σ ρ' δ'→Same F F'→Rep K F' d v→q d ρ' δ'→Q v H')∧XR K Y W F x
structure PJ2(X:Cx)(Y:Y2)(W:XW)(es:List Expr)(t:TJ2):Prop where
 go:PJ X es (upJ X.K Y W t)
theorem h0c{es:List Expr}{t t':TJ}(h:PJ X es t)(k:∀ σ H out Q,t' σ H out Q→t σ H out Q):PJ X es t':=fun pins s σ H out Q I q=>h pins s σ H out Q I (k σ H out Q q)
noncomputable def t2Jn:TJ2:=fun _ ρ δ out q=>out.length≤100000∧q (.str out) ρ δ
theorem c0r:PJ2 X Y W [] t2Jn:=⟨h0c pj_nil fun σ H out Q ⟨F,ρ,δ,x,q,I,h,k,kx⟩=>⟨h.1,k _ _ F H ρ δ I (Same.refl F) (rep_str.mpr rfl) h.2⟩⟩
noncomputable def t2Jc(te:TE2)(tr:TJ2):TJ2:=fun x ρ δ out q=>te x ρ δ fun d ρ1 δ1=>match d with | .str y=>(out++y).length≤100000∧tr x ρ1 δ1 (out++y) q |_=>False
theorem y0d{tr:TJ2}(he:PE2 X Y W e te)(hr:PJ2 X Y W es tr):PJ2 X Y W (e::es) (t2Jc te tr):=⟨h0c (z1w he.go hr.go) fun σ H out Q ⟨F,ρ,δ,x,q,I,h,k,kx⟩=>by
 refine ⟨F,ρ,δ,x,_,I,h,fun d v F1 H1 ρ1 δ1 I1 s1 r1 h1=>?_,kx⟩;cases d with
 |str y=>exact ⟨y,rep_str.mp r1,h1.1,F1,ρ1,δ1,x,q,I1,h1.2,fun d v F' H' ρ' δ' I' s' r' q'=>k d v F' H' ρ' δ' I' (s1.trans s') r' q',kx.mono s1⟩
 |_=>exact h1.elim⟩
noncomputable def t2J(t:TJ2):TE2:=fun x ρ δ q=>t x ρ δ Str.empty q
theorem p0n{f:Expr}{tj:TJ2}(h:PJ2 X Y W (e::f::es) tj):PE2 X Y W (.JoinedStr (e::f::es) pos) (t2J tj):=pe2 (h0e h.go) fun σ H Q h=>h
noncomputable def k0g(te:TE2):TE2:=fun x ρ δ q=>te x ρ δ fun d ρ1 δ1=>match d with | .int i=>i.natAbs.log2<1920∧q (.str (toString i)) ρ1 δ1 | .str y=>y.length≤100000∧q (.str y) ρ1 δ1 |_=>False
theorem l0t(he:PE2 X Y W e te):PE2 X Y W (.FormattedValue e (-1) none pos) (k0g te):=pe2 (pe_fmt he.go) fun σ H Q ⟨F,ρ,δ,x,q,I,h,k,kx⟩=>by
 refine ⟨F,ρ,δ,x,_,I,h,fun d v F1 H1 ρ1 δ1 I1 s1 r1 h1=>?_,kx⟩;cases d with
 |int i=>exact .inl ⟨i,rep_int.mp r1,h1.1,k _ _ F1 H1 ρ1 δ1 I1 s1 (rep_str.mpr rfl) h1.2⟩
 |str y=>exact .inr ⟨y,rep_str.mp r1,h1.1,k _ _ F1 H1 ρ1 δ1 I1 s1 (rep_str.mpr rfl) h1.2⟩
 |_=>exact h1.elim
noncomputable def z0b(i:Nat)(ta:TE2)(t:TA2):TS2:=fun E ρ δ=>ta E.xc ρ δ fun d ρ1 δ1=>match d with | .str z=>t E.xc ρ1 δ1 fun es ρ2 δ2=>(match es with | [.str y]=>(y.length==0)=false∧z.length≤100000∧E.nx (ρ2.set i (.own ((Txt.split z y).map D.str))) δ2 |_=>False)|_=>False
theorem o0a{x:Str}{pos':Pos}(i:Nat)(hN:X.N.Nodup)(ho:PE2 X Y W o ta)(ha:PA2 X Y W (e::es) t)(hi:X.N[i]?=some x:=by rfl)(hx:Loc X.env.scope x:=by walk_at "v2")
 (hsw:swapsWith (.Call (.Attribute o "split" apos) (e::es) [] cpos) (some (.Name x pos')) pos.line X.env=pure false:=by rfl) (hfn:X.fn x=true∨X.env.scope.names.lookup x=some .local:=by walk_at "v1") (hbase:attributeBase o "split" X.env (eval o X.env)=eval o X.env:=by rfl)
 (hfew:((backTo cpos (starEach (e::es) X.env)).all (fun x=>!x.1)&&(backToKw cpos (keywordEach [] X.env)).all (fun x=>x.1.isSome)
  &&decide ((e::es).length+([]:List Keyword).length+(if ([]:List Keyword).isEmpty then 0 else 1)<30))=true:=by rfl)
 (hline:(apos.endLine==cpos.line)=true:=by rfl) (hs:starEach (e::es) X.env=(false,eval e X.env)::starEach es X.env:=by exact z6 rfl) (hplain:(backTo cpos (starEach es X.env)).any (·.1)=false:=by exact a6 rfl):
 PS2 X Y W (.Assign [.Name x pos'] (.Call (.Attribute o "split" apos) (e::es) [] cpos) pos) (z0b i ta t):=ps2 (r0d (i:=i) hN hi hx (b0u PySem.F.plainAttrs_str PySem.F.slot_str_split PySem.F.type_str_split l0w ho.go ha.go hbase hfew hline hs hplain) hsw hfn) fun E1 σ H ⟨F,ρ,δ,E2,I,h,er⟩=>by
 refine ⟨F,ρ,δ,E2.xc,_,I,h,fun d v F1 H1 ρ1 δ1 I1 s1 r1 h1=>?_,er.xc⟩;cases d with
 |str z=>
  rw[rep_str.mp r1];refine ⟨rfl,F1,ρ1,δ1,E2.xc,_,I1,h1,fun es us F2 H2 ρ2 δ2 I2' s2 r2 h2=>?_,er.xc.mono s1⟩;split at h2
  ·rename_i y;obtain ⟨v,rfl,r3⟩:=q8 r2;rw[rep_str.mp r3];exact ⟨z,y,rfl,rfl,h2.1,h2.2.1,fun p hp=>er.nx _ F2 _ _ δ2 (I2'.own hp (u0d _)) (s1.trans s2) h2.2.2⟩
  ·exact h2.elim
 |_=>exact h1.elim
end
end DL
namespace HD
open PySem PySem.W PyProof.Rows PySem.Calls
noncomputable abbrev N:Value:=.none
noncomputable abbrev r(a:Nat):Value:=.ref a
noncomputable abbrev s(x:String)(t:Nat):Value:=.str (Str.ofString x) t
noncomputable abbrev i(n:Int)(t:Nat):Value:=.int n t
noncomputable abbrev b(x:Bool):Value:=.bool x
noncomputable abbrev ty(x:String):Value:=.type x
noncomputable abbrev bi(x:String):Value:=.builtin x
noncomputable abbrev ob(c:Value)(d:Data):Obj:={cls:=c,data:=d}
noncomputable abbrev tp(l:List Value):Obj:=ob (.type "tuple") (.seq ⟨l⟩)
noncomputable abbrev fl(c:Value)(l:List Value):Obj:=ob c (.fields ⟨l⟩)
noncomputable abbrev en(P:Params)(x:String)(t:Nat)(v:Value):DictEntry:=⟨PyData.keyHash P (Str.ofString x),.str (Str.ofString x) t,v⟩
noncomputable abbrev di(l:List DictEntry)(n:Nat):Obj:=ob (.type "dict") (.dict ⟨l⟩ n)
noncomputable abbrev fn(c:Value)(n q:String)(st:Stmt)(g:Nat)(m cd:Value):Obj:=
 ob c (.func {name:=Str.ofString n,qualname:=Str.ofString q,params:=L2.defArgs st,body:=.stmts (L2.defBody st),scope:=L2.defScope st,globals:=g,closure:=[],defaults:=.none,kwdefaults:=.none,pyModule:=m,code:=cd})
noncomputable abbrev co(n:String)(bs mro:List Value)(ns:Nat)(q:String)(hd hl:Bool)(subs:List Value)(sl:List (Option Value)):Obj:={cls:=.type "type",data:=.cls {name:=Str.ofString n,bases:=bs,mro:=mro,ns:=ns,qualname:=Str.ofString q,hasDict:=hd,hasDel:=hl,subclasses:=subs},slots:=⟨sl⟩}
noncomputable def x(g:Params→List Obj)(i:Nat)(P:Params):Obj:=(g P).getD i default
noncomputable def insT(t:BT):Nat→Obj→BT:=
 @BT.rec (fun _=>Nat→Obj→BT) (fun _ o=>.node o .nil .nil)
  (fun v l r ihl ihr i o=>@Bool.rec (fun _=>BT) (@Bool.rec (fun _=>BT) (.node v l (ihr (i/2-1) o)) (.node v (ihl (i/2) o) r) (Nat.beq (i%2) 1)) (.node o l r) (Nat.beq i 0)) t
noncomputable def insL(l:List Obj):Nat→BT→BT:=
 @List.rec Obj (fun _=>Nat→BT→BT) (fun _ t=>t) (fun o _ ih n t=>ih (Nat.succ n) (insT t n o)) l
noncomputable def setL(l:List (Nat×Obj)):BT→BT:=
 @List.rec (Nat×Obj) (fun _=>BT→BT) (fun t=>t) (fun p _ ih t=>ih (insT t p.1 p.2)) l
section
variable{p:Program}{w:World}{n₀:Nat}{ann:Option Value}{bb n:Nat}{st:SharedT}{l:List Stmt}{env:Env}{c:Code}{q:Pos}{B:List Frame}{rr:Option (Flow×SharedT×Code×Pos)}
theorem y0c(h:PySem.W.Fast.tw10110043849684766642 PySem.W.Fast.tw14364793385576792824 p w n₀ ann bb n st ⟨(PySem.W.Fast.tw12563942051412417395 l env).wrap doneF deadEnd id id,c,q,B⟩=rr):
 segRunT treeTable p w n₀ ann bb n st (piecesOf l env c q B)=rr:=by
 unfold piecesOf;rw[PySem.W.Fast.te10110043849684766642,PySem.W.Fast.te14364793385576792824,PySem.W.Fast.te12563942051412417395];exact h
theorem turnGo{s:Shared}{t:Thread}{r:Option (Shared×Thread)}(h:PySem.W.Fast.tw15667345088766844465 PySem.W.Fast.tw14364793385576792824 p w n₀ ann n s t=r):topGo treeTable p w n₀ ann n s t=r:=by
 rw[PySem.W.Fast.te15667345088766844465,PySem.W.Fast.te14364793385576792824];exact h
theorem z1u{s:Shared}{t:Thread}{r:Option Shared}(h:PySem.W.Fast.tw14082659384304107361 PySem.W.Fast.tw14364793385576792824 p w n₀ ann n s t=r):topRun treeTable p w n₀ ann n s t=r:=by
 rw[PySem.W.Fast.te14082659384304107361,PySem.W.Fast.te14364793385576792824];exact h
theorem h0b{s:Shared}{r:Option (Flow×Shared×Code×Pos)}(h:PySem.W.Fast.tw14374325043358763698 PySem.W.Fast.tw14364793385576792824 p w n₀ ann bb n s ⟨(PySem.W.Fast.tw1066825118222455980 l env).wrap (fun _=>doneF .next) deadEnd id id,c,q,B⟩=r):
 segRun treeTable p w n₀ ann bb n s (blockOf l env c q B)=r:=by
 unfold blockOf;rw[PySem.W.Fast.te14374325043358763698,PySem.W.Fast.te14364793385576792824,PySem.W.Fast.te1066825118222455980];exact h
theorem p0m{N:Nat}{s s' r:Shared}{b b':List Stmt}{pos p' q:Pos}(e:b=b')(h:segRun treeTable p w n₀ ann 1 n s (blockOf b env c pos [topFrame q])=some (.next,s',c,p'))
 (k:topRun treeTable p w n₀ ann N s' (restOf b' env c p' [topFrame q])=some r):topRun treeTable p w n₀ ann (n+N) s ⟨denote treeTable (.body b env),c,pos,[topFrame q]⟩=some r:=by
 subst e;exact piece_block h k
end
noncomputable def FnF(K:PySem.W.Frag)(x:Str)(st:Stmt):Prop:=∃f fd,PySem.W.nsIn K mainGlobals x=some (some (.ref f))∧L2.Fun K x x st f fd
theorem FnF.at{K:PySem.W.Frag}{h:Heap}{mg:Str→Option Value}{x:Str}{st:Stmt}(F:FnF K x st)(X:K.In h)(G:h.Ns mainGlobals mg){ps:List Str}
 (b:∀(kV doc pm:Value) (an:Option Addr) (cdv ct:Value) (us:List Value),us.length=ps.length→bindArgs (PySem.W.fnOf x x (L2.defArgs st) (L2.defBody st) (L2.defScope st) .none kV doc pm an cdv ct) ⟨us,[]⟩=pure (ps.zip us)):∃f fd,L2.DefAt K mg x st ps f fd:=by
 obtain ⟨f,fd,a,u⟩:=F;exact ⟨f,fd,u,PySem.W.mg_of X G a,u.binds b⟩
noncomputable def XMkF(K:PySem.W.Frag)(C:Addr)(q:Str)(st:Stmt):Prop:=∃f fd,L2.XMk K C f∧L2.Fun K "__init__" q st f fd
end HD
set_option maxHeartbeats 8000000
namespace K32
open PySem L2 DL
open PySem.W (XC)
local macro_rules | `(tactic|walk_at "dl")=>do
 let ids:=("o0i o0h Nat.reduceAdd Nat.reduceLT Nat.reduceLeDiff Nat.reduceSub Nat.zero_add s0t f0b q0h k0q k0p i0i f0a m0j o0k s0s m0i t2MV i0g q0g v0q v0e v0f t2H0 t2H k0o e0v noX asE e0u forL j8 t9 capt List.map_cons List.map_nil t2Is t2R1 t2R2 s0c t2C t2V t0o b8 f0i f0h t2Op t2B i0o t2Or m0p m0o w0v t2Bi t2Un rdV hasV seqV mutV ixQ seqD addF addG sumF eqG neG t2Sl slF t2ON t2OI e0e e0h e0g y0e r0w a9 tgD fI fI0 eqF neF eqD isNF f0c s0v isBF ixF inF lenF absF intF i0k q0i allF i0j subF mulF f0d modF powF ltF leF gtF geF repF g2N g2T u0i w0t popM List.getElem?_cons_zero List.getElem?_cons_succ List.set_cons_zero List.set_cons_succ List.length_cons List.length_nil List.lookup_cons if_true if_false Bool.false_eq_true Bool.not_true Bool.not_false decide_eq_true_eq if_pos ite_true ite_false true_and and_true List.cons_append List.nil_append a0e strF v0d neL h0q l0y addT mulS t2SM k0h p0p u0c h0d d0x slSF t2J t2Jn t2Jc k0g z0b eqRF".splitOn " ").toArray.map fun s=>Lean.mkIdent s.toName
 let args←ids.mapM fun i=>`(Lean.Parser.Tactic.simpLemma| $i:ident)
 `(tactic|simp only[reduceIte,↓reduceIte,$args,*])
local macro_rules | `(tactic|walk_at "dn")=>do
 let ids:=("o0i o0h Nat.reduceAdd Nat.reduceLT Nat.reduceLeDiff Nat.reduceSub Nat.zero_add s0t f0b q0h k0q k0p i0i f0a m0j o0k s0s m0i t2MV i0g q0g v0q v0e v0f t2H0 t2H k0o e0v noX asE e0u t9 capt List.map_cons List.map_nil t2Is t2R1 t2R2 s0c t2C t2V t0o b8 f0i f0h t2Op t2B i0o t2Or m0p m0o w0v t2Bi t2Un rdV hasV seqV mutV ixQ seqD addF addG sumF eqG neG t2Sl slF t2ON t2OI e0e e0h e0g y0e r0w a9 tgD fI fI0 eqF neF eqD isNF f0c s0v isBF ixF inF lenF absF intF i0k q0i allF i0j subF mulF f0d modF powF ltF leF gtF geF repF g2N g2T u0i w0t popM List.getElem?_cons_zero List.getElem?_cons_succ List.set_cons_zero List.set_cons_succ List.length_cons List.length_nil List.lookup_cons if_true if_false Bool.false_eq_true Bool.not_true Bool.not_false decide_eq_true_eq if_pos ite_true ite_false true_and and_true List.cons_append List.nil_append a0e strF v0d neL h0q l0y addT mulS t2SM k0h p0p u0c h0d d0x slSF t2J t2Jn t2Jc k0g z0b eqRF".splitOn " ").toArray.map fun s=>Lean.mkIdent s.toName
 let args←ids.mapM fun i=>`(Lean.Parser.Tactic.simpLemma| $i:ident)
 `(tactic|simp only[reduceIte,↓reduceIte,$args,*])
noncomputable def top(i:Nat):Stmt:=PySem.Challenge.pw_wearplan_k32_plans_as_texts.main.body.getD i (.Pass ⟨0,0,0,0⟩)
noncomputable abbrev y0b:Stmt:=top 6
noncomputable abbrev w0r:Stmt:=top 7
noncomputable abbrev r0u:Stmt:=top 8
noncomputable abbrev g8:Stmt:=top 9
noncomputable abbrev x8:Stmt:=top 10
noncomputable abbrev s9:Stmt:=top 14
noncomputable abbrev d6:Stmt:=top 17
noncomputable abbrev r9:Stmt:=top 19
noncomputable abbrev z0p:Stmt:=top 20
noncomputable abbrev w8:Stmt:=top 22
noncomputable abbrev y0a:Stmt:=top 23
noncomputable abbrev w0q:Stmt:=top 24
noncomputable abbrev w0p:Stmt:=top 25
noncomputable abbrev x0z:Stmt:=top 26
noncomputable abbrev x0y:Stmt:=top 27
noncomputable abbrev z0o:Stmt:=top 28
noncomputable abbrev u0b:Stmt:=top 29
noncomputable abbrev x0x:Stmt:=top 30
noncomputable abbrev w0o:Stmt:=top 32
noncomputable abbrev w0n:Stmt:=top 33
noncomputable abbrev w0m:Stmt:=top 34
noncomputable abbrev w0l:Stmt:=top 35
noncomputable abbrev z0n:Stmt:=top 36
noncomputable abbrev w0k:Stmt:=top 37
noncomputable abbrev w0j:Stmt:=top 38
noncomputable abbrev w0i:Stmt:=top 39
noncomputable abbrev x0w:Stmt:=top 40
noncomputable abbrev q9:Stmt:=top 41
noncomputable abbrev f8:Stmt:=top 42
noncomputable abbrev z1t:Stmt:=top 43
noncomputable abbrev p9:Stmt:=inClass (top 3) 0
noncomputable abbrev o9:Stmt:=inClass (top 4) 0
structure Cs where
 W:Addr
 NoRounds:Addr
 NoPlan:Addr
 NoText:Addr
noncomputable def Cs.ds(c:Cs):List Addr:=[c.NoRounds,c.NoPlan,c.NoText]
structure Txt(K:PySem.W.Frag)(mg:Str→Option Value)(cs:Cs):Prop where
 n_ValueError:mg "ValueError"=none
 n_abs:mg "abs"=none
 n_all:mg "all"=none
 n_bool:mg "bool"=none
 n_enumerate:mg "enumerate"=none
 n_int:mg "int"=none
 n_isinstance:mg "isinstance"=none
 n_len:mg "len"=none
 n_list:mg "list"=none
 n_range:mg "range"=none
 n_str:mg "str"=none
 n_tuple:mg "tuple"=none
 n_zip:mg "zip"=none
 g_GREATEST_FIRST:∃t,mg "GREATEST_FIRST"=some (.int 47 t)
 g_MOST_ROUNDS:∃t,mg "MOST_ROUNDS"=some (.int 24 t)
 g_MOST_PARTS:∃t,mg "MOST_PARTS"=some (.int 4 t)
 c_WearError:mg "WearError"=some (.ref cs.W)
 h_WearError:XHd K cs.W
 err:∀D∈cs.ds,ErrC K cs.W D
 ne:∀D∈cs.ds,D≠cs.W
 nd:cs.ds.Nodup
 c_NoRounds:mg "NoRounds"=some (.ref cs.NoRounds)
 h_NoRounds:XHd K cs.NoRounds
 x_NoRounds:xcIn K cs.NoRounds=true
 k_NoRounds:XMk0 K cs.NoRounds
 c_NoPlan:mg "NoPlan"=some (.ref cs.NoPlan)
 h_NoPlan:XHd K cs.NoPlan
 x_NoPlan:xcIn K cs.NoPlan=true
 a_NoPlan_at:NoAttr K cs.NoPlan "at"
 c_NoText:mg "NoText"=some (.ref cs.NoText)
 h_NoText:XHd K cs.NoText
 x_NoText:xcIn K cs.NoText=true
 a_NoText_row:NoAttr K cs.NoText "row"
noncomputable def DkAt(p:Addr)(ns:List Int)(n:Nat)(δ:Dk):Prop:=∃c k:Int,δ=some (p,[.scr (ns.map D.int),.int c,.int k])∧0≤c∧0≤k∧k≤n
noncomputable def h0a:Sp2:=fun ds δ q _=>∃(ns:List Int) (k:Int),ds=[.scr (ns.map D.int),.int k]∧0≤k∧∀r:Int,0≤r→q (.int r) δ
noncomputable def g0z:Sp2:=fun ds δ q _=>∃(ns:List Int) (k m:Int),ds=[.scr (ns.map D.int),.int k,.int m]∧0≤k∧k<2^40∧0<m∧∀r:Int,0≤r→r<m→q (.int r) δ
noncomputable def g0y:Sp2:=fun ds δ q _=>∃(ns:List Int),ds=[.scr (ns.map D.int)]∧δ=none∧∀p δ',DkAt p ns 0 δ'→q (.ref p) δ'
noncomputable def g0x:Sp2:=fun ds δ q _=>∃(p:Addr) (ns:List Int) (n:Nat) (m:Int),ds=[.ref p,.int m]∧DkAt p ns n δ∧n<2^30∧0<m∧m<2^30∧∀(d:Int) δ',0≤d→d<m→DkAt p ns (n+1) δ'→q (.int d) δ'
noncomputable def g0w(d:D):Bool:=match d with | .int _=>true |_=>false
noncomputable def r0t:Sp2:=fun ds δ q _=>match ds with | [d]=>v7 d=true∧q (.bl (g0w d)) δ |_=>False
noncomputable def w0h:Sp2:=fun ds δ q _=>match ds with | [d,.int lo,.int hi]=>v7 d=true∧q (.bl (i5 d lo hi)) δ |_=>False
noncomputable def numD(d:D)(j:Int):Bool:=match d with | .int i=>decide (i=j)|_=>false
noncomputable def x0e:Sp2:=fun ds δ q _=>match ds with | [d,.int j]=>v7 d=true∧q (.bl (numD d j)) δ |_=>False
noncomputable def rowD:D→Option (List D)| .lst xs=>some xs | .tup xs=>some xs |_=>none
noncomputable def x0d(d:D):Bool:=(rowD d).isSome
noncomputable def x9(d:D):Bool:=v7 d&&(match rowD d with |some xs=>xs.all v7 |none=>true)
noncomputable def p0l(d:D)(a b lo hi:Int):Bool:=match rowD d with |some xs=>decide (a≤(xs.length:Int))&&decide ((xs.length:Int)≤b)&&xs.all (i5 · lo hi)|none=>false
noncomputable def g0v:Sp2:=fun ds δ q _=>match ds with | [d]=>v7 d=true∧q (.bl (x0d d)) δ |_=>False
noncomputable def l0s:Sp2:=fun ds δ q _=>match ds with | [d,.int a,.int b,.int lo,.int hi]=>x9 d=true∧b≤900∧q (.bl (p0l d a b lo hi)) δ |_=>False
theorem n0z{α:Type}(f:α→Bool):∀xs:List α,blsD (xs.map fun e=>D.bl (f e))=some (xs.map f)
 | []=>rfl
 |x::xs=>by rw[List.map_cons,List.map_cons];unfold blsD;rw[n0z f xs];rfl
theorem all_id(xs:List Bool):xs.all id=xs.all fun b=>b:=rfl
local macro_rules | `(tactic|walk_at "ds")=>do
 let ids:=("o0i o0h Nat.reduceAdd Nat.reduceLT Nat.reduceLeDiff Nat.reduceSub Nat.zero_add t9 capt List.map_cons List.map_nil u0i List.getElem?_cons_zero List.getElem?_cons_succ List.set_cons_zero List.set_cons_succ List.length_cons List.length_nil List.lookup_cons if_true if_false Bool.false_eq_true Bool.not_true Bool.not_false decide_eq_true_eq if_pos ite_true ite_false true_and and_true List.cons_append List.nil_append".splitOn " ").toArray.map fun s=>Lean.mkIdent s.toName
 let jds:=("s0t f0b b0b t2Cont q0h k0q t2RetN k0p i0i f0a m0j o0k s0s m0i t2MV i0g t2Aug t2Fld q0g t2Self call_s k_int k_bl k_str k_non k_lst k_tup k_ins k_ref k_dwk k_dic x_nil x_cons v0e v0f e0w t2Exc1 t2Exc2 t2H0 t2H k0o e0v noX asE e0u t2Is t2R1 t2R2 t2Comp t2OwnC s0c a0t t2C t2V t0o b8 f0i f0h t2Op t2B i0o t2And t2Or m0p t2OrV m0o t2If w0v t2Bi t2Un rdV hasV seqV mutV ixQ seqD addF addG sumF eqG neG t2Sl slF t2ON t2OI lrQ a0j t2LR a0i t2TR e0e sortIF e0h e0g y0e t2OwnM r0w a9 t2BNil t2BV t2BO a0k tgD fI fI0 eqF neF eqD isNF f0c s0v isBF notBF ixF inF notInF lenF absF minF maxF intF i0k q0i allF i0j subF mulF f0d modF powF ltF leF gtF geF repF g2N g2T w0t popM a0e strF addS addH t2AugV v0d e0c neL h0q l0y addT mulS t2SM k0h p0p u0c h0d d0x slSF t2J t2Jn t2Jc k0g z0b a0d t2PutD t2GetD t2IxD dicV t2VD t2DicV t2Keys minLF a0c t2LenD e0d g2L eqL eqRF a0a sumB t2AugM z1z".splitOn " ").toArray.map fun s=>Lean.mkIdent s.toName
 let a←ids.mapM fun i=>`(Lean.Parser.Tactic.simpLemma| $i:ident)
 let b←jds.mapM fun i=>`(Lean.Parser.Tactic.simpLemma| ↓ $i:ident)
 let args:=a++b
 `(tactic|simp -dsimp -failIfUnchanged only[reduceIte,↓reduceIte,$args,*])
section
variable{P:Program}{w:World}{K:PySem.W.Frag}{mg:Str→Option Value}{base:Heap}{cs:Cs}
noncomputable abbrev n9:List Str:=["thing"]
theorem sc_is_number:FnScope ["thing"] n9 (defScope y0b):=⟨rfl,rfl,rfl,by decide +kernel,rfl,by decide +kernel,by decide +kernel⟩
noncomputable abbrev x0v(P:Program)(w:World)(K:PySem.W.Frag)(mg:Str→Option Value)(base:Heap)(cs:Cs):Prop:=Fun2 P w K mg base "is_number" 1 n9 r0t
theorem p0k{f:Addr}{fd:FuncData}(Df:DefAt K mg "is_number" y0b n9 f fd)(T:Txt K mg cs):x0v P w K mg base cs:=by
 have nd:=sc_is_number.nd;refine def2 Df sc_is_number (fun ds δ q x h=>?_) (fun cdv A outer s H E Y hr=>⟨_,(i0 (y3 (m0n (e2_b m5 (y0i (K:=K)) T.n_isinstance y4 (z0 (e2_v 0) (z0 (u0p "int" T.n_int i0t) y0))) (i0n (d0d (e2_b m5 (y0i (K:=K)) T.n_isinstance y4 (z0 (e2_v 0) (z0 (u0p "bool" T.n_bool i0s) y0)))))))),fun ds δ q x h=>?_⟩)
 ·unfold r0t at h;split at h
  ·rfl
  ·exact h.elim
 ·unfold r0t at h;split at h;rotate_left
  ·exact h.elim
  rename_i d;obtain ⟨hd,hq⟩:=h;rw[show a3 ["thing"] _=[.val _]from rfl];obtain ⟨t1,t2⟩:=s0b (K:=K) hd;walk_at "dl";simp only[i0a K t1 t2,c0x K t1 t2,t1,true_and];cases d<;>first |cases hd |skip
  all_goals (walk_at "dl";exact hq)
noncomputable abbrev z0a:List Str:=["thing","least","most"]
theorem sc_is_whole:FnScope ["thing","least","most"] z0a (defScope w0r):=⟨rfl,rfl,rfl,by decide +kernel,rfl,by decide +kernel,by decide +kernel⟩
noncomputable abbrev y0z(P:Program)(w:World)(K:PySem.W.Frag)(mg:Str→Option Value)(base:Heap)(cs:Cs):Prop:=Fun2 P w K mg base "is_whole" 2 z0a w0h
theorem n0y{f:Addr}{fd:FuncData}(Df:DefAt K mg "is_whole" w0r z0a f fd)(T:Txt K mg cs)(G_is_number:x0v P w K mg base cs):y0z P w K mg base cs:=by
 have nd:=sc_is_whole.nd;refine def2 Df sc_is_whole (fun ds δ q x h=>?_) (fun cdv A outer s H E Y hr=>⟨_,(i0 (y3 (m0n (j0 G_is_number (hr.mono (by decide)) o0 (z0 (e2_v 0) y0)) (i0n (f0f f0y f0y d_le d_le (e2_v 1) (e2_v 0) (e2_v 2)))))),fun ds δ q x h=>?_⟩)
 ·unfold w0h at h;split at h
  ·rfl
  ·exact h.elim
 ·unfold w0h at h;split at h;rotate_left
  ·exact h.elim
  rename_i d lo hi;obtain ⟨hd,hq⟩:=h;rw[show a3 ["thing","least","most"] _=[.val _,.val _,.val _]from rfl];walk_at "dl";simp only[r0t,hd,true_and];cases d<;>first |cases hd |skip
  all_goals first |(simp only[g0w];walk_at "dl";exact hq)|(simp only[g0w];walk_at "dl")
  simp only[i5]at hq;split
  ·rename_i h1;rw[decide_eq_true h1,Bool.true_and]at hq;exact hq
  ·rename_i h1;rw[decide_eq_false h1,Bool.false_and]at hq;exact hq
noncomputable abbrev n8:List Str:=["_law_found","_law_due"]
theorem sc_law_number:FnScope ["_law_found","_law_due"] n8 (defScope z0n):=⟨rfl,rfl,rfl,by decide +kernel,rfl,by decide +kernel,by decide +kernel⟩
noncomputable abbrev z0m(P:Program)(w:World)(K:PySem.W.Frag)(mg:Str→Option Value)(base:Heap)(cs:Cs):Prop:=Fun2 P w K mg base "_law_number" 2 n8 x0e
theorem r0s{f:Addr}{fd:FuncData}(Df:DefAt K mg "_law_number" z0n n8 f fd)(T:Txt K mg cs):z0m P w K mg base cs:=by
 have nd:=sc_law_number.nd;refine def2 Df sc_law_number (fun ds δ q x h=>?_) (fun cdv A outer s H E Y hr=>⟨_,(i0 (y3 (m0n (e2_b m5 (y0i (K:=K)) T.n_isinstance y4 (z0 (e2_v 0) (z0 (u0p "int" T.n_int i0t) y0))) (m0n (d0d (e2_b m5 (y0i (K:=K)) T.n_isinstance y4 (z0 (e2_v 0) (z0 (u0p "bool" T.n_bool i0s) y0)))) (i0n (q0k r0b d_eq (e2_v 0) (e2_v 1) (n3 _))))))),fun ds δ q x h=>?_⟩)
 ·unfold x0e at h;split at h
  ·rfl
  ·exact h.elim
 ·unfold x0e at h;split at h;rotate_left
  ·exact h.elim
  rename_i d j;obtain ⟨hd,hq⟩:=h;rw[show a3 ["_law_found","_law_due"] _=[.val _,.val _]from rfl];obtain ⟨t1,t2⟩:=s0b (K:=K) hd;walk_at "dl";simp only[i0a K t1 t2,c0x K t1 t2,t1,true_and];cases d<;>first |cases hd |skip
  all_goals (walk_at "dl";exact hq)
noncomputable abbrev y0y:List Str:=["_law_script","_law_k"]
theorem sc_law_cell:FnScope ["_law_script","_law_k"] y0y (defScope w0o):=⟨rfl,rfl,rfl,by decide +kernel,rfl,by decide +kernel,by decide +kernel⟩
noncomputable abbrev y0x(P:Program)(w:World)(K:PySem.W.Frag)(mg:Str→Option Value)(base:Heap)(cs:Cs):Prop:=Fun2 P w K mg base "_law_cell" 2 y0y h0a
theorem n0x{f:Addr}{fd:FuncData}(Df:DefAt K mg "_law_cell" w0o y0y f fd)(T:Txt K mg cs):y0x P w K mg base cs:=by
 have nd:=sc_law_cell.nd;refine def2 Df sc_law_cell (fun ds δ q x h=>?_) (fun cdv A outer s H E Y hr=>⟨_,(l0 (l5 (v4 r0b d_eq (i4 0 T.n_len) s0 (n3 _)) (i0 (y3 (b3 b5 y8 (b3 v0u q0j s0 (e2_v 1)) s0))) o4)
  (i0 (y3 (e2_b f0v d_abs T.n_abs bt_abs (z0 (j4 0 (b3 t0a k0r (e2_v 1) (i4 0 T.n_len))) y0))))),fun ds δ q x h=>?_⟩)
 ·unfold h0a at h;obtain ⟨ns,k,rfl,hk,hq⟩:=h;rfl
 ·unfold h0a at h;obtain ⟨ns,k,rfl,hk,hq⟩:=h;rw[show a3 ["_law_script","_law_k"] _=[.val _,.val _]from rfl];walk_at "dl";simp only[List.length_map];split
  ·rename_i h0;exact ⟨.inl ⟨by decide,by decide⟩,hq _ (by omega)⟩
  ·rename_i h0;have hlen:0<ns.length:=by omega
   refine ⟨by omega,?_⟩;obtain ⟨v,hat,hv⟩:=b0l (xs:=ns.map D.int) (k:=k) (by rw[List.length_map];exact hlen);rw[List.length_map]at hat
   obtain ⟨z,_,rfl⟩:=List.mem_map.mp hv;rw[hat];dsimp only;exact hq _ (by split<;>omega)
noncomputable abbrev y0w:List Str:=["_law_script","_law_k","_law_many"]
theorem sc_law_draw:FnScope ["_law_script","_law_k","_law_many","_law_a"] y0w (defScope w0n):=⟨rfl,rfl,rfl,by decide +kernel,rfl,by decide +kernel,by decide +kernel⟩
noncomputable abbrev w0g(P:Program)(w:World)(K:PySem.W.Frag)(mg:Str→Option Value)(base:Heap)(cs:Cs):Prop:=Fun2 P w K mg base "_law_draw" 3 y0w g0z
theorem n0w{f:Addr}{fd:FuncData}(Df:DefAt K mg "_law_draw" w0n y0w f fd)(T:Txt K mg cs)(G_law_cell:y0x P w K mg base cs):w0g P w K mg base cs:=by
 have nd:=sc_law_draw.nd;refine def2 Df sc_law_draw (fun ds δ q x h=>?_) (fun cdv A outer s H E Y hr=>⟨_,(l0 (u4 3 nd (b3 t0a k0r (b3 b5 y8 (b3 b5 y8 (b3 v0u q0j (b3 t0a k0r (j0 G_law_cell (hr.mono (by decide)) o0 (z0 (e2_v 0) (z0 (e2_v 1) y0))) s0) s0) (b3 v0u q0j (b3 v0u q0j (e2_v 1) (e2_v 1)) s0)) s0) s0))
  (l0 (u4 3 nd (b3 t0a k0r (b3 b5 y8 (b3 b5 y8 (b3 v0u q0j (e2_v 3) (e2_v 3)) (b3 v0u q0j s0 (e2_v 3))) (b3 v0u q0j (e2_v 1) s0)) s0))
  (i0 (y3 (b3 t0a k0r (b3 j0s d0c (e2_v 3) s0) (e2_v 2)))))),fun ds δ q x h=>?_⟩)
 ·unfold g0z at h;obtain ⟨ns,k,m,rfl,hk,hk2,hm,hq⟩:=h;rfl
 ·unfold g0z at h;obtain ⟨ns,k,m,rfl,hk,hk2,hm,hq⟩:=h;rw[show a3 ["_law_script","_law_k","_law_many","_law_a"] _=[.val _,.val _,.val _,.no]from rfl];walk_at "dl";refine ⟨ns,k,rfl,hk,fun c hc=>?_⟩;have h1:=Int.emod_nonneg c (b:=1000003) (by decide);have h2:=Int.emod_lt_of_pos c (b:=1000003) (by decide);refine ⟨by decide,.inl ⟨by omega,by omega⟩,.inl ⟨by omega,by omega⟩,.inr ⟨by decide,by decide⟩,by decide,?_⟩;generalize c%1000003*48271+k*k*7919+101=z;have h3:=Int.emod_nonneg z (b:=2147483647) (by decide);have h4:=Int.emod_lt_of_pos z (b:=2147483647) (by decide);refine ⟨.inl ⟨by omega,by omega⟩,.inl ⟨by decide,by decide⟩,.inl ⟨by omega,by omega⟩,by decide,⟨by decide,by decide⟩,hm,hq _ (Int.emod_nonneg _ (by omega)) (Int.emod_lt_of_pos _ hm)⟩
noncomputable abbrev y0v:List Str:=["_law_script"]
theorem sc_law_deck:FnScope ["_law_script","_law_cell_here"] y0v (defScope w0m):=⟨rfl,rfl,rfl,by decide +kernel,rfl,by decide +kernel,by decide +kernel⟩
noncomputable abbrev w0f(P:Program)(w:World)(K:PySem.W.Frag)(mg:Str→Option Value)(base:Heap)(cs:Cs):Prop:=Fun2 P w K mg base "_law_deck" 3 y0v g0y
theorem n0v{f:Addr}{fd:FuncData}(Df:DefAt K mg "_law_deck" w0m y0v f fd)(T:Txt K mg cs)(G_law_cell:y0x P w K mg base cs):w0f P w K mg base cs:=by
 have nd:=sc_law_deck.nd;refine def2 Df sc_law_deck (fun ds δ q x h=>?_) (fun cdv A outer s H E Y hr=>⟨_,(l0 (u4 1 nd (j0 G_law_cell (hr.mono (by decide)) o0 (z0 (e2_v 0) (z0 s0 y0))))
  (i0 (e0t (z0 (e2_v 0) (z0 (b3 v0u q0j (e2_v 1) (x0i j0m d_int T.n_int i0t (z0 (q0k op_ge d_ge (e2_v 1) (b3 op_pow d_pow s0 s0) (n3 _)) y0))) (z0 s0 y0)))))),fun ds δ q x h=>?_⟩)
 ·unfold g0y at h;obtain ⟨ns,rfl,rfl,hq⟩:=h;rfl
 ·unfold g0y at h;obtain ⟨ns,rfl,rfl,hq⟩:=h;rw[show a3 ["_law_script","_law_cell_here"] _=[.val _,.no]from rfl];walk_at "dl";refine ⟨ns,0,rfl,by decide,fun c hc=>?_⟩;refine ⟨⟨by decide,by decide,by decide⟩,.inr ⟨by split<;>decide,by split<;>decide⟩,rfl,fun p=>hq p _ ⟨_,_,rfl,?_,by decide,by decide⟩⟩;split<;>omega
noncomputable abbrev y0u:List Str:=["_law_deck_here","_law_many"]
theorem sc_law_take:FnScope ["_law_deck_here","_law_many","_law_digit"] y0u (defScope w0l):=⟨rfl,rfl,rfl,by decide +kernel,rfl,by decide +kernel,by decide +kernel⟩
noncomputable abbrev e7(P:Program)(w:World)(K:PySem.W.Frag)(mg:Str→Option Value)(base:Heap)(cs:Cs):Prop:=Fun2 P w K mg base "_law_take" 4 y0u g0x
theorem n0u{f:Addr}{fd:FuncData}(Df:DefAt K mg "_law_take" w0l y0u f fd)(T:Txt K mg cs)(G_law_draw:w0g P w K mg base cs):e7 P w K mg base cs:=by
 have nd:=sc_law_take.nd;refine def2 Df sc_law_take (fun ds δ q x h=>?_) (fun cdv A outer s H E Y hr=>⟨_,(l0 (l5 (v4 j0o d_gt (j4 0 s0) s0 (n3 _)) (l0 (u4 2 nd (b3 t0a k0r (j4 0 s0) (e2_v 1)))
  (l0 (s0e 0 s0 (b3 j0s d0c (j4 0 s0) (e2_v 1)))
  (i0 (y3 (e2_v 2))))) o4)
  (l0 (s0e 0 s0 (b3 b5 y8 (j4 0 s0) s0))
  (i0 (y3 (j0 G_law_draw (hr.mono (by decide)) o0 (z0 (j4 0 s0) (z0 (j4 0 s0) (z0 (e2_v 1) y0)))))))),fun ds δ q x h=>?_⟩)
 ·unfold g0x at h;obtain ⟨p,ns,n,m,rfl,hD,hn,hm,hm2,hq⟩:=h;rfl
 ·unfold g0x at h;obtain ⟨p,ns,n,m,rfl,hD,hn,hm,hm2,hq⟩:=h;rw[show a3 ["_law_deck_here","_law_many","_law_digit"] _=[.val _,.val _,.no]from rfl];obtain ⟨c,k,rfl,hc,hk,hkn⟩:=hD;walk_at "dl";split
  ·exact ⟨hm,⟨hm,by omega⟩,hq _ _ (Int.emod_nonneg _ (by omega)) (Int.emod_lt_of_pos _ hm) ⟨_,_,rfl,Int.ediv_nonneg hc (by omega),hk,by omega⟩⟩
  ·exact ⟨ns,k+1,m,rfl,by omega,by omega,hm,fun r h1 h2=>hq _ _ h1 h2 ⟨_,_,rfl,hc,by omega,by omega⟩⟩
theorem r0r{i lo hi:Int}(h1:lo≤i)(h2:i≤hi):i5 (.int i) lo hi=true:=by show (decide (lo≤i)&&decide (i≤hi))=true;rw[decide_eq_true h1,decide_eq_true h2];rfl
theorem g0u{i lo hi:Int}(h:i<lo∨hi<i):i5 (.int i) lo hi=false:=by
 show (decide (lo≤i)&&decide (i≤hi))=false;rw[Bool.and_eq_false_iff];rcases h with h |h
 ·exact .inl (decide_eq_false (by omega))
 ·exact .inr (decide_eq_false (by omega))
noncomputable abbrev v0c:List Str:=["thing"]
theorem sc_is_row:FnScope ["thing"] v0c (defScope r0u):=⟨rfl,rfl,rfl,by decide +kernel,rfl,by decide +kernel,by decide +kernel⟩
noncomputable abbrev v0b(P:Program)(w:World)(K:PySem.W.Frag)(mg:Str→Option Value)(base:Heap)(cs:Cs):Prop:=Fun2 P w K mg base "is_row" 2 v0c g0v
theorem g0t{f:Addr}{fd:FuncData}(Df:DefAt K mg "is_row" r0u v0c f fd)(T:Txt K mg cs):v0b P w K mg base cs:=by
 have nd:=sc_is_row.nd;refine def2 Df sc_is_row (fun ds δ q x h=>?_) (fun cdv A outer s H E Y hr=>⟨_,(i0 (y3 (e2_b m5 (y0i (K:=K)) T.n_isinstance y4 (z0 (e2_v 0) (z0 (n6 (z0 (u0p "list" T.n_list o0m) (z0 (u0p "tuple" T.n_tuple b6) y0))) y0))))),fun ds δ q x h=>?_⟩)
 ·unfold g0v at h;split at h
  ·rfl
  ·exact h.elim
 ·unfold g0v at h;split at h;rotate_left
  ·exact h.elim
  rename_i d;obtain ⟨hd,hq⟩:=h;rw[show a3 ["thing"] _=[.val _]from rfl];obtain ⟨t1,t2⟩:=s0b (K:=K) hd;walk_at "dl";simp only[ko_row K t1 t2,t1,true_and];cases d
  all_goals first |exact hq |cases hd
noncomputable abbrev z7:List Str:=["thing","shortest","longest","least","most"]
theorem sc_is_whole_row:FnScope ["thing","shortest","longest","least","most"] z7 (defScope g8):=⟨rfl,rfl,rfl,by decide +kernel,rfl,by decide +kernel,by decide +kernel⟩
noncomputable abbrev e8(P:Program)(w:World)(K:PySem.W.Frag)(mg:Str→Option Value)(base:Heap)(cs:Cs):Prop:=Fun2 P w K mg base "is_whole_row" 3 z7 l0s
theorem u0a{f:Addr}{fd:FuncData}(Df:DefAt K mg "is_whole_row" g8 z7 f fd)(T:Txt K mg cs)(G_is_row:v0b P w K mg base cs)(G_is_whole:y0z P w K mg base cs):e8 P w K mg base cs:=by
 have nd:=sc_is_whole_row.nd;refine def2 Df sc_is_whole_row (fun ds δ q x h=>?_) (fun cdv A outer s H E Y hr=>⟨_,(l0 (l5 (PW2.pt (z0x (y6 (m6 (j0 G_is_row (hr.mono (by decide)) o0 (z0 (e2_v 0) y0)))) (a7 (y6 (f0e f0y f0y d_le d_le (e2_v 1) (i4 0 T.n_len) (e2_v 2)))))) (i0 (y3 x0j)) o4)
  (i0 (y3 (e2_b (s0g rfl) b0d T.n_all i0u (z0 (w6 rfl (CompOkM.of ["entry"] [3,4] rfl) (a8 (e2_v 0)) (fun nd _ _ _ _ _=>(x3 (i:=0) nd rfl (by first |exact Or.inl rfl |exact Or.inr rfl))) x6 (fun _ _ _ _ _ _=>z8) (fun _ _ _ _ _ _=>(j0 G_is_whole (hr.mono (by decide)) q0f (z0 (e2_v 0) (z0 (e2_v 1) (z0 (e2_v 2) y0)))))) y0))))),fun ds δ q x h=>?_⟩)
 ·unfold l0s at h;split at h
  ·rfl
  ·exact h.elim
 ·unfold l0s at h;split at h;rotate_left
  ·exact h.elim
  rename_i d a b lo hi;obtain ⟨ht,hb,hq⟩:=h;rw[show a3 ["thing","shortest","longest","least","most"] _=[.val _,.val _,.val _,.val _,.val _]from rfl];have hp:v7 d=true:=by unfold x9 at ht;rw[Bool.and_eq_true]at ht;exact ht.1
  walk_at "dl";simp only[g0v,hp,true_and];cases e:rowD d with
  |none=>
   have e1:x0d d=false:=by unfold x0d;rw[e];rfl
   have e2:p0l d a b lo hi=false:=by unfold p0l;rw[e]
   rw[e2]at hq;simp only[e1,Bool.not_false,if_true];exact hq
  |some xs=>
   have e1:x0d d=true:=by unfold x0d;rw[e];rfl
   have e3:seqD d=some xs:=by cases d<;>first |(cases e;rfl)|cases e
   have hx:∀x∈xs,v7 x=true:=by
    unfold x9 at ht;rw[Bool.and_eq_true,e]at ht;exact List.all_eq_true.mp ht.2
   unfold p0l at hq;rw[e]at hq;dsimp only at hq;simp only[e1,Bool.not_true,Bool.false_eq_true,if_false];have main:∀ ρ:En,ρ[3]?=some (.val (.int lo))→ρ[4]?=some (.val (.int hi))→(xs.length:Int)≤b→q (.bl (xs.all (i5 · lo hi))) δ→j8 (v0q w0h (b8 (t2V 0) (b8 (t2V 1) (b8 (t2V 2) t0o)))) [3,4] ρ
    (fun acc δ2=>match blsD acc with |some bs=>q (D.bl (bs.all id)) δ2 |none=>False) xs [] δ:=by
    intro ρ r3 r4 hlen hq;refine s0a (fun i acc δ'=>acc=(xs.take i).map (fun z=>D.bl (i5 z lo hi))∧δ'=δ) ⟨rfl,rfl⟩ ?_ ?_
    ·rintro i z acc δ' rest hi ⟨rfl,rfl⟩ hrest;have hl:=(List.getElem?_eq_some_iff.mp hi).1;simp only[capt,t9,List.map_cons,List.map_nil,r3,r4];walk_at "dl";simp only[w0h,hx z (List.mem_of_getElem? hi),true_and];refine ⟨by rw[List.length_map,List.length_take];omega,hrest _ _ ⟨?_,rfl⟩⟩;rw[List.take_succ,hi,List.map_append];rfl
    ·rintro acc δ' ⟨rfl,rfl⟩;rw[List.take_length,n0z];have:(xs.map fun z=>i5 z lo hi).all id=xs.all (i5 · lo hi):=by rw[List.all_map];rfl
     dsimp only;rw[this];exact hq
   cases d<;>first |(cases e;done)|skip
   all_goals
    cases e;dsimp only;split
    ·rename_i h1;split
     ·rename_i h2;rw[Bool.not_eq_true',decide_eq_false_iff_not]at h2;rw[decide_eq_true h1,decide_eq_false h2]at hq;exact hq
     ·rename_i h2;rw[Bool.not_eq_true',decide_eq_false_iff_not,Decidable.not_not]at h2;rw[decide_eq_true h1,decide_eq_true h2]at hq;exact main _ rfl rfl h2 hq
    ·rename_i h1;rw[decide_eq_false h1]at hq;exact hq
theorem s0m{d:D}{lo hi:Int}(h:i5 d lo hi=true):∃i,d=.int i∧lo≤i∧i≤hi:=by
 cases d with
 |int i=>
  unfold i5 at h;rw[Bool.and_eq_true,decide_eq_true_eq,decide_eq_true_eq]at h;exact ⟨i,rfl,h.1,h.2⟩
 |_=>cases h
noncomputable def intD:D→Int | .int i=>i |_=>0
noncomputable def risI:List Int→Bool
 |a::b::r=>decide (a<b)&&risI (b::r)
 |_=>true
noncomputable def risD(d:D)(lo hi:Int):Bool:=p0l d 0 (hi-lo+1) lo hi&&risI (((rowD d).getD []).map intD)
theorem s0l{lo hi:Int}:∀{xs:List D},xs.all (i5 · lo hi)=true→xs=(xs.map intD).map D.int
 | [],_=>rfl
 |d::xs,h=>by
  rw[List.all_cons,Bool.and_eq_true]at h;obtain ⟨i,rfl,_,_⟩:=s0m h.1;rw[List.map_cons,List.map_cons,← s0l h.2];rfl
theorem l0r(ns:List Int):(ns.map D.int).map intD=ns:=by
 rw[List.map_map];exact List.map_id _
theorem atZ{ns:List Int}{z:Int}(h0:0≤z)(h1:z<(ns.length:Int)):atI (ns.map D.int) z=some (.int (ns.getD z.toNat 0)):=by
 have hz:z=((z.toNat:Nat):Int):=by omega
 have hl:z.toNat<ns.length:=by omega
 rw[hz,o0q (v:=D.int (ns.getD z.toNat 0))]
 ·rfl
 ·rw[List.getElem?_map,List.getElem?_eq_getElem hl,List.getD_eq_getElem?_getD,List.getElem?_eq_getElem hl];rfl
theorem g0s:∀ns:List Int,((List.range (ns.length-1)).map fun j=>decide (ns.getD j 0<ns.getD (j+1) 0)).all id=risI ns
 | []=>rfl
 | [a]=>rfl
 |a::b::r=>by
  have ih:=g0s (b::r);have e:(a::b::r).length-1=(r.length)+1:=by simp
  have e2:(b::r).length-1=r.length:=by simp
  rw[e2]at ih;rw[e,List.range_succ_eq_map,List.map_cons,List.all_cons,List.map_map];unfold risI;rw[←ih];rfl
noncomputable def v0a:Sp2:=fun ds δ q _=>match ds with | [d,.int lo,.int hi]=>x9 d=true∧hi-lo+1≤900∧q (.bl (risD d lo hi)) δ |_=>False
noncomputable abbrev v6:List Str:=["thing","least","most"]
theorem sc_is_rising_row:FnScope ["thing","least","most"] v6 (defScope x8):=⟨rfl,rfl,rfl,by decide +kernel,rfl,by decide +kernel,by decide +kernel⟩
noncomputable abbrev v8(P:Program)(w:World)(K:PySem.W.Frag)(mg:Str→Option Value)(base:Heap)(cs:Cs):Prop:=Fun2 P w K mg base "is_rising_row" 4 v6 v0a
theorem v0i{f:Addr}{fd:FuncData}(Df:DefAt K mg "is_rising_row" x8 v6 f fd)(T:Txt K mg cs)(G_is_whole_row:e8 P w K mg base cs):v8 P w K mg base cs:=by
 have nd:=sc_is_rising_row.nd;refine def2 Df sc_is_rising_row (fun ds δ q x h=>?_) (fun cdv A outer s H E Y hr=>⟨_,(l0 (l5 (y6 (m6 (j0 G_is_whole_row (hr.mono (by decide)) o0 (z0 (e2_v 0) (z0 s0 (z0 (b3 b5 y8 (b3 t0b k0s (e2_v 2) (e2_v 1)) s0) (z0 (e2_v 1) (z0 (e2_v 2) y0)))))))) (i0 (y3 x0j)) o4)
  (i0 (y3 (e2_b (s0g rfl) b0d T.n_all i0u (z0 (w6 rfl (CompOkM.of ["k"] [0] rfl) (u0k T.n_range (z0 s0 (z0 (i4 0 T.n_len) y0))) (fun nd _ _ _ _ _=>(x3 (i:=0) nd rfl (by first |exact Or.inl rfl |exact Or.inr rfl))) x6 (fun _ _ _ _ _ _=>z8) (fun _ _ _ _ _ _=>(q0k op_lt d_lt (j4 1 (b3 t0b k0s (e2_v 0) s0)) (j4 1 (e2_v 0)) (n3 _)))) y0))))),fun ds δ q x h=>?_⟩)
 ·unfold v0a at h;split at h
  ·rfl
  ·exact h.elim
 ·unfold v0a at h;split at h;rotate_left
  ·exact h.elim
  rename_i d lo hi;obtain ⟨ht,hb,hq⟩:=h;rw[show a3 ["thing","least","most"] _=[.val _,.val _,.val _]from rfl];walk_at "dl";simp only[l0s,ht,true_and];refine ⟨hb,?_⟩;cases e:p0l d 0 (hi-lo+1) lo hi with
  |false=>
   have er:risD d lo hi=false:=by unfold risD;rw[e];rfl
   rw[er]at hq;simp only[Bool.not_false,if_true];exact hq
  |true=>
   simp only[Bool.not_true,Bool.false_eq_true,if_false];have er:risD d lo hi=risI (((rowD d).getD []).map intD):=by unfold risD;rw[e];rfl
   rw[er]at hq;have main:∀ns:List Int,(ns.length:Int)≤900→q (.bl (risI ns)) δ→∀(c:D),seqV [.val c] none 0=some (ns.map D.int)→(∀a,c≠.ref a)→j8 (t2Op ltF (o0k 1 (t2Op subF (t2V 0) (t2C (.int 1)))) (o0k 1 (t2V 0))) [0] [.val c,.val (.int lo),.val (.int hi)]
    (fun acc δ2=>match blsD acc with |some bs=>q (D.bl (bs.all id)) δ2 |none=>False) (rngD 1 (((ns.length:Nat):Int)-1).toNat) [] δ:=by
    intro ns hl hq c hc hr;have hs:∀(ρ:En) δ',seqV (ρ++[.val c]) δ' ρ.length=some (ns.map D.int):=fun ρ δ'=>by
     unfold seqV at hc ⊢;rw[List.getElem?_append_right (Nat.le_refl _),Nat.sub_self];cases c<;>first |exact hc |exact absurd rfl (hr _)
    refine s0a (fun i acc δ'=>acc=(List.range i).map (fun j=>D.bl (decide (ns.getD j 0<ns.getD (j+1) 0)))∧δ'=δ) ⟨rfl,rfl⟩ ?_ ?_
    ·rintro i z acc δ' rest hi ⟨rfl,rfl⟩ hrest;obtain ⟨hi2,rfl⟩:=z0e hi;have hs1:=hs [.val (.int (1+(i:Int)))] δ';simp only[capt,t9,List.map_cons,List.map_nil,List.getElem?_cons_zero];simp only[t2Op,o0k,t2V,t2C,rdV,hasV,List.getElem?_cons_zero,List.getElem?_cons_succ,fI0,true_and];simp only[List.cons_append,List.nil_append,List.length_cons,List.length_nil,Nat.zero_add]at hs1;simp only[hs1,ixQ,ltF,fI0];rw[atZ (by omega) (by omega),atZ (by omega) (by omega)];dsimp only;refine ⟨by rw[List.length_map,List.length_range];omega,hrest _ _ ⟨?_,rfl⟩⟩;rw[List.range_succ,List.map_append];have e1:(1+(i:Int)-1).toNat=i:=by omega
     have e2:(1+(i:Int)).toNat=i+1:=by omega
     rw[e1,e2];rfl
    ·rintro acc δ' ⟨rfl,rfl⟩;rw[z0d,n0z];dsimp only;have e1:(((ns.length:Nat):Int)-1).toNat=ns.length-1:=by omega
     rw[e1,g0s];exact hq
   have key:∀xs:List D,rowD d=some xs→((xs.map intD).map D.int)=xs∧(xs.length:Int)≤900:=fun xs hx=>by
    unfold p0l at e;rw[hx]at e;dsimp only at e;simp only[Bool.and_eq_true,decide_eq_true_eq]at e;exact ⟨(s0l e.2).symm,by omega⟩
   have len:∀xs:List D,((xs.map intD).length:Int)=(xs.length:Int):=fun xs=>by rw[List.length_map]
   have bnd:∀xs:List D,rowD d=some xs→(-(2^62)≤(1:Int)∧(1:Int)<2^62∧-(2^62)≤((xs.length:Nat):Int)∧((xs.length:Nat):Int)<2^62):=fun xs hx=>by have:=(key xs hx).2;omega
   cases d<;>first |(cases e;done)|skip
   ·rename_i xs;obtain ⟨k1,k2⟩:=key xs rfl;refine ⟨bnd xs rfl,?_⟩;have:=main (xs.map intD) (by rw[len];exact k2) hq (.lst xs) (by rw[k1];rfl) (fun a z=>by cases z);rw[List.length_map]at this;exact this
   ·rename_i xs;obtain ⟨k1,k2⟩:=key xs rfl;refine ⟨bnd xs rfl,?_⟩;have:=main (xs.map intD) (by rw[len];exact k2) hq (.tup xs) (by rw[k1];rfl) (fun a z=>by cases z);rw[List.length_map]at this;exact this
noncomputable def t0z:Sp2:=fun ds δ q _=>match ds with | [d,.int m]=>x9 d=true∧m≤900∧q (.bl (risD d 0 (m-1))) δ |_=>False
noncomputable def z0l(cs:Cs):Sp2:=fun ds δ q x=>∃d,ds=[d]∧v7 d=true∧(i5 d 0 47=true→q .non δ)∧(i5 d 0 47=false→x cs.NoRounds [] δ)
noncomputable abbrev o5:List Str:=["thing","many"]
theorem sc_is_choice_among:FnScope ["thing","many"] o5 (defScope d6):=⟨rfl,rfl,rfl,by decide +kernel,rfl,by decide +kernel,by decide +kernel⟩
noncomputable abbrev n5(P:Program)(w:World)(K:PySem.W.Frag)(mg:Str→Option Value)(base:Heap)(cs:Cs):Prop:=Fun2 P w K mg base "is_choice_among" 5 o5 t0z
theorem x0c{f:Addr}{fd:FuncData}(Df:DefAt K mg "is_choice_among" d6 o5 f fd)(T:Txt K mg cs)(G_is_rising_row:v8 P w K mg base cs):n5 P w K mg base cs:=by
 have nd:=sc_is_choice_among.nd;refine def2 Df sc_is_choice_among (fun ds δ q x h=>?_) (fun cdv A outer s H E Y hr=>⟨_,(i0 (y3 (j0 G_is_rising_row (hr.mono (by decide)) o0 (z0 (e2_v 0) (z0 s0 (z0 (b3 t0b k0s (e2_v 1) s0) y0)))))),fun ds δ q x h=>?_⟩)
 ·unfold t0z at h;split at h
  ·rfl
  ·exact h.elim
 ·unfold t0z at h;split at h;rotate_left
  ·exact h.elim
  rename_i d m;obtain ⟨ht,hm,hq⟩:=h;rw[show a3 ["thing","many"] _=[.val _,.val _]from rfl];walk_at "dl";simp only[v0a];exact ⟨ht,by omega,hq⟩
noncomputable abbrev m7:List Str:=["first"]
theorem sc_check_first:FnScope ["first"] m7 (defScope s9):=⟨rfl,rfl,rfl,by decide +kernel,rfl,by decide +kernel,by decide +kernel⟩
noncomputable abbrev m9(P:Program)(w:World)(K:PySem.W.Frag)(mg:Str→Option Value)(base:Heap)(cs:Cs):Prop:=Fun2 P w K mg base "check_first" 3 m7 (z0l cs)
theorem t0k{f:Addr}{fd:FuncData}(Df:DefAt K mg "check_first" s9 m7 f fd)(T:Txt K mg cs)(G_is_whole:y0z P w K mg base cs):m9 P w K mg base cs:=by
 have nd:=sc_check_first.nd;refine def2 Df sc_check_first (fun ds δ q x h=>?_) (fun cdv A outer s H E Y hr=>⟨_,(i0 (l5 (y6 (m6 (j0 G_is_whole (hr.mono (by decide)) o0 (z0 (e2_v 0) (z0 s0 (z0 (o0j T.g_GREATEST_FIRST) y0)))))) (i0 (i0e rfl o0 T.k_NoRounds T.x_NoRounds T.c_NoRounds)) o4)),fun ds δ q x h=>?_⟩)
 ·unfold z0l at h;obtain ⟨d,rfl,hd,hq,hx⟩:=h;rfl
 ·unfold z0l at h;obtain ⟨d,rfl,hd,hq,hx⟩:=h;rw[show a3 ["first"] _=[.val _]from rfl];walk_at "dl";simp only[w0h];refine ⟨hd,?_⟩;cases e:i5 d 0 47 with
  |true=>exact hq e
  |false=>exact hx e
noncomputable def badE(m:Int)(e:D):Bool:=!risD e 0 (m-1)
noncomputable def z0z(m:Int)(k:Nat):List D→D
 | []=>.non
 |e::r=>if badE m e=true then .int (k:Int)else z0z m (k+1) r
noncomputable def b4(d:D)(m most:Int):D:=match rowD d with |none=>.int (-1)|some xs=>if (xs.length:Int)>most then .int (-1)else z0z m 0 xs
noncomputable def z0y(d:D):Bool:=v7 d&&(match rowD d with |some xs=>xs.all x9 |none=>true)
noncomputable def r0q:Sp2:=fun ds δ q _=>match ds with | [d,.int m,.int most]=>z0y d=true∧m≤900∧q (b4 d m most) δ |_=>False
theorem y0t{m:Int}:∀(xs:List D) (k i:Nat),(∀e∈xs.take i,badE m e=false)→i≤xs.length→z0z m k xs=z0z m (k+i) (xs.drop i)
 |xs,k,0,_,_=>by simp
 | [],k,i+1,_,hi=>by simp at hi
 |e::r,k,i+1,h,hi=>by
  have h1:=h e (by simp);rw[List.drop_succ_cons];have ih:=y0t r (k+1) i (fun z hz=>h z (by simp[hz])) (by simpa using hi);rw[show k+1+i=k+(i+1)by omega]at ih;rw[←ih];show (if badE m e=true then _ else _)=_;rw[h1,if_neg Bool.false_ne_true]
noncomputable abbrev l7:List Str:=["thing","many","most"]
theorem sc_wrong_entry:FnScope ["thing","many","most","k","entry"] l7 (defScope r9):=⟨rfl,rfl,rfl,by decide +kernel,rfl,by decide +kernel,by decide +kernel⟩
noncomputable abbrev l9(P:Program)(w:World)(K:PySem.W.Frag)(mg:Str→Option Value)(base:Heap)(cs:Cs):Prop:=Fun2 P w K mg base "wrong_entry" 6 l7 r0q
theorem t0j{f:Addr}{fd:FuncData}(Df:DefAt K mg "wrong_entry" r9 l7 f fd)(T:Txt K mg cs)(G_is_row:v0b P w K mg base cs)(G_is_choice_among:n5 P w K mg base cs):l9 P w K mg base cs:=by
 have nd:=sc_wrong_entry.nd;refine def2 Df sc_wrong_entry (fun ds δ q x h=>?_) (fun cdv A outer s H E Y hr=>⟨_,(l0 (l5 (PW2.pt (z0x (y6 (m6 (j0 G_is_row (hr.mono (by decide)) o0 (z0 (e2_v 0) y0)))) (a7 (v4 j0o d_gt (i4 0 T.n_len) (e2_v 2) (n3 _))))) (i0 (y3 (u0n s0))) o4)
  (l0 (y0h PassesOwn.leaving rfl (h0t T.n_enumerate (z0 (e2_v 0) y0)) (x0n rfl (n4 (x3 (i:=3) nd rfl (by first |exact Or.inl rfl |exact Or.inr rfl)) (n4 (x3 (i:=4) nd rfl (by first |exact Or.inl rfl |exact Or.inr rfl)) u9))) (s0r (is:=[3,4]) rfl) (i0 (l5 (y6 (m6 (j0 G_is_choice_among (hr.mono (by decide)) o0 (z0 (e2_v 4) (z0 (e2_v 1) y0))))) (i0 (y3 (e2_v 3))) o4)))
  (i0 (y3 o6)))),fun ds δ q x h=>?_⟩)
 ·unfold r0q at h;split at h
  ·rfl
  ·exact h.elim
 ·unfold r0q at h;split at h;rotate_left
  ·exact h.elim
  rename_i d m most;obtain ⟨ht,hm,hq⟩:=h;rw[show a3 ["thing","many","most","k","entry"] _=[.val _,.val _,.val _,.no,.no]from rfl];have hp:v7 d=true:=by unfold z0y at ht;rw[Bool.and_eq_true]at ht;exact ht.1
  walk_at "dn";simp only[g0v,hp,true_and];cases e:rowD d with
  |none=>
   have e1:x0d d=false:=by unfold x0d;rw[e];rfl
   have e2:b4 d m most=.int (-1):=by unfold b4;rw[e]
   rw[e2]at hq;simp only[e1,Bool.not_false,if_true];exact hq
  |some xs=>
   have e1:x0d d=true:=by unfold x0d;rw[e];rfl
   have e2:b4 d m most=if (xs.length:Int)>most then .int (-1)else z0z m 0 xs:=by unfold b4;rw[e]
   have hx:∀x∈xs,x9 x=true:=by
    unfold z0y at ht;rw[Bool.and_eq_true,e]at ht;exact List.all_eq_true.mp ht.2
   rw[e2]at hq;simp only[e1,Bool.not_true,Bool.false_eq_true,if_false];have main:¬((xs.length:Int)>most)→∀(E:End2),E.rt=q→(∀ ρ δ1,E.nx ρ δ1=q .non δ1)→forL (g2T [3,4]) (k0p (i0o (t2B (v0q t0z (b8 (t2V 4) (b8 (t2V 1) t0o))))) (k0q (t2V 3)) s0t) E (y0j 0 xs) [.val d,.val (.int m),.val (.int most),.no,.no] δ:=by
    intro hle E hE hN;rw[if_neg hle]at hq;refine z0q (fun i ρ δ1=>∃c3 c4,ρ=[.val d,.val (.int m),.val (.int most),c3,c4]∧δ1=δ∧∀e∈xs.take i,badE m e=false) ⟨_,_,rfl,rfl,fun e he=>(by simp at he)⟩ ?_ ?_
    ·rintro i z ρ δ1 rest hi ⟨c3,c4,rfl,rfl,hb⟩ hrest;obtain ⟨y,hy,rfl⟩:=y9 hi;have hlt:=(List.getElem?_eq_some_iff.mp hy).1;rw[Nat.zero_add];unfold x0h;walk_at "dn";simp only[t0z,hx y (List.mem_of_getElem? hy),true_and];refine ⟨hm,?_⟩;cases er:risD y 0 (m-1)with
     |true=>
      simp only[Bool.not_true,Bool.false_eq_true,if_false];refine hrest _ _ ⟨_,_,rfl,rfl,fun z hz=>?_⟩;rw[List.take_succ,hy]at hz;rcases List.mem_append.mp hz with hz |hz
      ·exact hb z hz
      ·have hz:z=y:=by simpa using hz
       subst hz;unfold badE;rw[er];rfl
     |false=>
      simp only[Bool.not_false,if_true];rw[hE];rw[y0t xs 0 i hb (Nat.le_of_lt hlt),List.drop_eq_getElem_cons hlt]at hq;unfold z0z at hq;have ey:xs[i]=y:=(List.getElem?_eq_some_iff.mp hy).2;rw[ey,show badE m y=true by unfold badE;rw[er];rfl,if_pos rfl,Nat.zero_add]at hq;exact hq
    ·rintro ρ δ1 ⟨c3,c4,rfl,rfl,hb⟩;rw[z9]at hb;rw[hN];rw[y0t xs 0 xs.length hb (Nat.le_refl _),List.drop_length]at hq;exact hq
   cases d<;>first |(cases e;done)|skip
   all_goals
    cases e;dsimp only;split
    ·rename_i h1;rw[if_pos h1]at hq;exact hq
    ·rename_i h1;exact main h1 _ rfl (fun ρ δ1=>rfl)
noncomputable def k9(cs:Cs):Sp2:=fun ds δ q x=>match ds with | [d,.int m]=>z0y d=true∧m≤900∧(b4 d m 24=.non→q .non δ)∧(∀k,b4 d m 24=.int k→x cs.NoPlan [("at",.int k)] δ)|_=>False
theorem p0j{m:Int}:∀(xs:List D) (k:Nat),z0z m k xs=.non∨∃j:Int,z0z m k xs=.int j
 | [],k=>.inl rfl
 |e::r,k=>by
  unfold z0z;split
  ·exact .inr ⟨_,rfl⟩
  ·exact p0j r (k+1)
theorem d0w{d:D}{m most:Int}:b4 d m most=.non∨∃k:Int,b4 d m most=.int k:=by
 unfold b4;split
 ·exact .inr ⟨-1,rfl⟩
 ·split
  ·exact .inr ⟨-1,rfl⟩
  ·exact p0j _ 0
noncomputable abbrev m8:List Str:=["plan","many"]
theorem sc_check_plan:FnScope ["plan","many","at"] m8 (defScope z0p):=⟨rfl,rfl,rfl,by decide +kernel,rfl,by decide +kernel,by decide +kernel⟩
noncomputable abbrev z0k(P:Program)(w:World)(K:PySem.W.Frag)(mg:Str→Option Value)(base:Heap)(cs:Cs):Prop:=Fun2 P w K mg base "check_plan" 7 m8 (k9 cs)
theorem r0p{f:Addr}{fd:FuncData}(Df:DefAt K mg "check_plan" z0p m8 f fd)(T:Txt K mg cs)(G_wrong_entry:l9 P w K mg base cs)(M_NoPlan:MkE P w K mg base "NoPlan" cs.NoPlan 1 ["self","at"] (spXI cs.NoPlan "at")):z0k P w K mg base cs:=by
 have nd:=sc_check_plan.nd;refine def2 Df sc_check_plan (fun ds δ q x h=>?_) (fun cdv A outer s H E Y hr=>⟨_,(l0 (u4 2 nd (j0 G_wrong_entry (hr.mono (by decide)) o0 (z0 (e2_v 0) (z0 (e2_v 1) (z0 (o0j T.g_MOST_ROUNDS) y0)))))
  (i0 (l5 (v4 c0e d_notN (e2_v 2) o6 (n3 _)) (i0 (z0r rfl o0 M_NoPlan (hr.mono (by decide)) (z0 (e2_v 2) y0))) o4))),fun ds δ q x h=>?_⟩)
 ·unfold k9 at h;split at h
  ·rfl
  ·exact h.elim
 ·unfold k9 at h;split at h;rotate_left
  ·exact h.elim
  rename_i d m;obtain ⟨ht,hm,hq,hx⟩:=h;rw[show a3 ["plan","many","at"] _=[.val _,.val _,.no]from rfl];walk_at "dn";simp only[r0q,ht,true_and];refine ⟨hm,?_⟩;rcases d0w (d:=d) (m:=m) (most:=24)with e |⟨k,e⟩
  ·rw[e];exact hq e
  ·rw[e];exact hx k e
noncomputable def tx(l:List Nat):Str:=⟨l.toArray⟩
noncomputable def txD(l:List Nat):D:=.str (tx l)
theorem u3{l:List Nat}:(tx l).length=l.length:=by simp[tx,Str.length]
theorem u6{a b:List Nat}:tx a++tx b=tx (a++b):=by
 show Str.append _ _=_;simp[tx,Str.append]
theorem g0r{a b:List Nat}(h:tx a=tx b):a=b:=by
 have:=congrArg (fun s:Str=>s.cps.toList) h;simpa[tx]using this
theorem tx_eq{a b:List Nat}:(decide (tx a=tx b))=decide (a=b):=by
 by_cases h:a=b
 ·rw[h,decide_eq_true rfl,decide_eq_true rfl]
 ·rw[decide_eq_false h,decide_eq_false fun z=>h (g0r z)]
theorem tx_of(s:Str):s=tx s.cps.toList:=by simp[tx]
noncomputable def dig(n:Nat):List Nat:=if n<10 then [48+n]else [48+n/10,48+n%10]
theorem z1s:∀n:Fin 100,(Str.ofString (toString ((n.val:Nat):Int)))=tx (dig n.val):=by decide +kernel
theorem x0b{i:Int}(h1:0≤i)(h2:i<100):(Str.ofString (toString i))=tx (dig i.toNat):=by
 have:=z1s ⟨i.toNat,by omega⟩;rw[show ((i.toNat:Nat):Int)=i by omega]at this;exact this
theorem z1r:∀n m:Fin 100,dig n.val=dig m.val→n=m:=by decide +kernel
theorem dig_eq{i j:Int}(h1:0≤i)(h2:i<100)(h3:0≤j)(h4:j<100)(h:dig i.toNat=dig j.toNat):i=j:=by
 have:=congrArg Fin.val (z1r ⟨i.toNat,by omega⟩ ⟨j.toNat,by omega⟩ h);have:i.toNat=j.toNat:=this;omega
theorem g0q{n:Nat}(h:n<100):∀c∈dig n,48≤c∧c≤57:=by
 intro c hc;unfold dig at hc;split at hc
 ·simp only[List.mem_cons,List.not_mem_nil,or_false]at hc;omega
 ·simp only[List.mem_cons,List.not_mem_nil,or_false]at hc;rcases hc with hc |hc<;>omega
theorem dig_ne{n:Nat}:dig n≠[]:=by unfold dig;split<;>simp
theorem z0j{n:Nat}:(dig n).length≤2:=by unfold dig;split<;>simp
noncomputable def o3(c:Nat):List Nat→List (List Nat)
 | []=>[[]]
 |a::l=>if a=c then []::o3 c l else (match o3 c l with | []=>[[a]]|w::r=>(a::w)::r)
theorem t0y{c:Nat}:∀l,o3 c l≠[]
 | []=>by simp[o3]
 |a::l=>by
  unfold o3;split
  ·simp
  ·split<;>simp
theorem u5{c:Nat}:∀{l:List Nat},c∉l→o3 c l=[l]
 | [],_=>rfl
 |a::l,h=>by
  rw[List.mem_cons,not_or]at h;unfold o3;rw[if_neg (Ne.symm h.1),u5 h.2]
theorem d7{c:Nat}:∀(a b:List Nat),o3 c (a++c::b)=o3 c a++o3 c b
 | [],b=>by show (if c=c then []::o3 c b else _)=_;rw[if_pos rfl];rfl
 |x::a,b=>by
  rw[List.cons_append];show (if x=c then []::o3 c (a++c::b)else (match o3 c (a++c::b)with | []=>[[x]]|w::r=>(x::w)::r))=(if x=c then []::o3 c a else (match o3 c a with | []=>[[x]]|w::r=>(x::w)::r))++o3 c b;rw[d7 a b];by_cases h:x=c
  ·rw[if_pos h,if_pos h];rfl
  ·rw[if_neg h,if_neg h];cases e:o3 c a with
   |nil=>exact absurd e (t0y a)
   |cons w r=>rfl
noncomputable def j7(sep:List Nat):List (List Nat)→List Nat
 | []=>[]
 | [a]=>a
 |a::b::r=>a++(sep++j7 sep (b::r))
theorem x0u{c:Nat}:∀(ps:List (List Nat)),ps≠[]→(∀p∈ps,c∉p)→o3 c (j7 [c] ps)=ps
 | [],h,_=>absurd rfl h
 | [a],_,h=>u5 (h a (List.mem_singleton.mpr rfl))
 |a::b::r,_,h=>by
  show o3 c (a++c::j7 [c] (b::r))=_;rw[d7,u5 (h a (List.mem_cons_self ..)),x0u (b::r) (by simp) fun p hp=>h p (List.mem_cons_of_mem _ hp)];rfl
theorem n0t(s:List Nat):∀(ps:List (List Nat)),Str.join (tx s) (ps.map tx)=tx (j7 s ps)
 | []=>rfl
 | [a]=>rfl
 |a::b::r=>by
  show tx a++tx s++Str.join (tx s) ((b::r).map tx)=_;rw[n0t s (b::r),u6,u6,List.append_assoc];rfl
theorem r0o{s:List Nat}{ps:List (List Nat)}:Txt.join (tx s) (ps.map tx)=tx (j7 s ps):=(StrLaws.glued_eq_join _ _).trans (n0t s ps)
theorem l0q{l:List Nat}{c:Nat}:Txt.split (tx l) (tx [c])=(o3 c l).map tx:=by
 have h1:=StrLaws.join_split (tx l) (tx [c]);have h2:∀y∈Txt.split (tx l) (tx [c]),c∉y.cps.toList:=StrLaws.split_free (tx l) c;have h3:=PyProof.Rows.split_pos (tx l) (tx [c]);have e:Txt.split (tx l) (tx [c])=((Txt.split (tx l) (tx [c])).map fun y=>y.cps.toList).map tx:=by
  rw[List.map_map]
  conv=>lhs;rw[←List.map_id (Txt.split (tx l) (tx [c]))]
  exact List.map_congr_left fun y _=>tx_of y
 rw[e]at h1;rw[n0t]at h1;have e2:=g0r h1;have e3:o3 c l=(Txt.split (tx l) (tx [c])).map fun y=>y.cps.toList:=by
  conv=>lhs;rw[←e2]
  refine x0u _ (fun z=>?_) fun p hp=>?_
  ·have:=congrArg List.length z;rw[List.length_map,List.length_nil]at this;omega
  ·obtain ⟨y,hy,rfl⟩:=List.mem_map.mp hp;exact h2 y hy
 rw[e3];exact e
noncomputable def x4(l:List Nat):List (List Nat):=(o3 32 l).filter (·≠[])
theorem w0e(a b:List Nat):x4 (a++32::b)=x4 a++x4 b:=by unfold x4;rw[d7,List.filter_append]
theorem b7:x4 []=[]:=rfl
theorem y0s:∀(n:Nat) (a:List Nat),x4 (a++List.replicate n 32)=x4 a
 | 0,a=>by rw[List.replicate_zero,List.append_nil]
 |n+1,a=>by
  rw[List.replicate_succ,w0e];have:=y0s n [];rw[List.nil_append]at this;rw[this,b7,List.append_nil]
theorem k0f{w:List Nat}(h1:32∉w)(h2:w≠[]):x4 w=[w]:=by
 unfold x4;rw[u5 h1];simp[h2]
noncomputable def cntL(l:List Nat):List (List (List Nat)):=((o3 10 l).map x4).filter (·≠[])
theorem cntL_mid(a b:List Nat):cntL (a++10::b)=cntL a++cntL b:=by unfold cntL;rw[d7,List.map_append,List.filter_append]
theorem cntL_free{a:List Nat}(h:10∉a):cntL a=if x4 a=[]then []else [x4 a]:=by
 unfold cntL;rw[u5 h];by_cases z:x4 a=[]
 ·simp[z]
 ·simp[z]
theorem l0p{c:Nat}{n:Int}(h:0≤n):Txt.mul (tx [c]) n=tx (List.replicate n.toNat c):=by
 unfold Txt.mul;by_cases h1:n<1
 ·rw[if_pos h1,show n.toNat=0 by omega];rfl
 ·rw[if_neg h1];by_cases h2:n=1
  ·subst h2;rfl
  ·have:((n==1)||((tx [c]).length==0))=false:=by
    rw[beq_eq_false_iff_ne.mpr h2];rfl
   rw[this];simp only[Bool.false_eq_true,if_false];have key:∀(k:Nat) (acc:List Nat),List.foldl (fun (x1 x2:Array Nat)=>x1++x2) acc.toArray (List.replicate k (tx [c]).cps)=(acc++List.replicate k c).toArray:=by
    intro k
    induction k with
    |zero=>intro acc;simp
    |succ k ih=>
     intro acc;rw[List.replicate_succ,List.foldl_cons];have e:acc.toArray++(tx [c]).cps=(acc++[c]).toArray:=by simp[tx]
     rw[e,ih,List.replicate_succ,List.append_assoc];rfl
   have:=key n.toNat [];rw[List.nil_append]at this;show (⟨List.foldl (fun x1 x2=>x1++x2) #[] (List.replicate n.toNat (tx [c]).cps)⟩:Str)=_;exact congrArg Str.mk this
noncomputable def cutN(l:List Nat)(lo hi:Option Int):List Nat:=(l.drop (HT.sIx l.length 0 lo)).take (HT.sIx l.length l.length hi-HT.sIx l.length 0 lo)
theorem d0v(l:List Nat)(k a:Nat):((List.range k).map (a+·)).filterMap (l.toArray[·]?)=(l.drop a).take k:=by
 have:=pick_run l.toArray a k;simpa using this
theorem l0o{l:List Nat}{lo hi:Option Int}:Txt.slice (tx l) lo hi=tx (cutN l lo hi):=by
 have hb:Builtin.Str.strSliceIndices lo hi 1 (tx l).length=(List.range (HT.sIx l.length l.length hi-HT.sIx l.length 0 lo)).map (HT.sIx l.length 0 lo+·):=by
  obtain ⟨h1,h2,h3⟩:=v0t lo hi l.length;rw[u3];show sliceRange (sliceBounds lo hi none l.length).1 (sliceBounds lo hi none l.length).2.1 1=_;rw[h1,h2,sliceRange_one]
 unfold Txt.slice;rw[hb];have key:(⟨(((List.range (HT.sIx l.length l.length hi-HT.sIx l.length 0 lo)).map (HT.sIx l.length 0 lo+·)).filterMap ((tx l).cps[·]?)).toArray⟩:Str)=tx (cutN l lo hi):=congrArg (fun z:List Nat=>(⟨z.toArray⟩:Str)) (d0v l _ _);split
 ·rename_i h;rw[←key];rw[Bool.and_eq_true,beq_iff_eq,beq_iff_eq,List.length_map,List.length_range,u3]at h;have hz:=HT.sIx_le l.length 0 (Nat.zero_le _) lo;have hy:=HT.sIx_le l.length l.length (Nat.le_refl _) hi;have e:cutN l lo hi=l:=by
   unfold cutN;rw[h.2,show HT.sIx l.length 0 lo=0 by omega,List.drop_zero,List.take_length]
  rw[key,e]
 ·exact key
theorem p0i{l:List Nat}:cutN l none (some (-1))=l.dropLast:=by
 unfold cutN;have e:HT.sIx l.length l.length (some (-1))=l.length-1:=by
  unfold HT.sIx;dsimp only;rw[if_pos (by decide)];omega
 rw[HT.sIx_none,e,List.drop_zero,Nat.sub_zero,List.dropLast_eq_take]
theorem g0p{l:List Nat}:∃l' k,Txt.rstripChars (tx l) (tx [32])=tx l'∧l=l'++List.replicate k 32:=by
 have goes:∀c,(tx [32]).cps.contains c=(c==32):=fun c=>by simp[tx,Array.contains,eq_comm,Bool.beq_eq_decide_eq]
 have hrev:∀m:List Nat,∃k,m=List.replicate k 32++m.drop k∧k=(m.takeWhile fun c=>(tx [32]).cps.contains c).length:=by
  intro m
  induction m with
  |nil=>exact ⟨0,rfl,rfl⟩
  |cons c m ih=>
   obtain ⟨k,e,hk⟩:=ih;by_cases h:c=32
   ·refine ⟨k+1,?_,?_⟩
    ·rw[h,List.replicate_succ,List.cons_append,List.drop_succ_cons];exact congrArg (32::·) e
    ·rw[List.takeWhile_cons_of_pos (by rw[goes,h];rfl),List.length_cons,← hk]
   ·refine ⟨0,rfl,?_⟩;rw[List.takeWhile_cons_of_neg (by rw[goes,beq_eq_false_iff_ne.mpr h];decide)];rfl
 obtain ⟨k,e,hk⟩:=hrev l.reverse;have hl:k≤l.length:=by
  rw[hk,← List.length_reverse (as:=l)];exact (List.takeWhile_sublist _).length_le
 have lo:stripLo (tx [32]).cps.contains false (tx l)=0:=rfl;have hi:stripHi (tx [32]).cps.contains true (tx l) 0=l.length-k:=by
  unfold stripHi;rw[if_pos rfl,u3,List.drop_zero,hk];rfl
 have res:Txt.rstripChars (tx l) (tx [32])=tx (l.take (l.length-k)):=by
  unfold Txt.rstripChars Txt.stripBy stripSame stripped;rw[lo,hi,u3];split
  ·rename_i h;rw[Bool.and_eq_true,beq_iff_eq,beq_iff_eq]at h;rw[List.take_of_length_le (by omega)]
  ·unfold Builtin.Str.strSub;simp[tx]
 refine ⟨l.take (l.length-k),k,res,?_⟩;have e2:=congrArg List.reverse e;rw[List.reverse_reverse,List.reverse_append,List.reverse_replicate,List.drop_reverse,List.reverse_reverse]at e2;exact e2
theorem t0x:Str.ofString " "=tx [32]:=by decide +kernel
theorem p0h:Str.ofString "\n"=tx [10]:=by decide +kernel
theorem r0n:Str.ofString ""=tx []:=by decide +kernel
theorem n0s:Str.ofString ":"=tx [58]:=by decide +kernel
noncomputable def rT:List Nat:=[114,111,117,110,100,115]
noncomputable def fT:List Nat:=[102,114,111,109]
theorem l0n:Str.ofString "rounds"=tx rT:=by decide +kernel
theorem c0q:Str.ofString "from"=tx fT:=by decide +kernel
theorem g0o:Str.ofString "rounds "=tx (rT++[32]):=by decide +kernel
theorem z1q:Str.ofString " from "=tx (32::(fT++[32])):=by decide +kernel
theorem d0u:Str.ofString ": "=tx [58,32]:=by decide +kernel
noncomputable def z0w(ns:List Int):List (List Nat):=ns.map fun n=>dig n.toNat
noncomputable def l0m:Sp2:=fun ds δ q _=>∃d ns,ds=[d]∧rowD d=some (ns.map D.int)∧ns.length≤100∧(∀n∈ns,0≤n∧n<100)∧q (txD (j7 [32] (z0w ns))) δ
noncomputable def n0r:Sp2:=fun ds δ q _=>∃l:List Nat,ds=[txD l]∧l.length≤900∧q (.lst ((x4 l).map txD)) δ
noncomputable def u8(l:List Nat):List (List Nat):=if (o3 10 l).getLast?=some []then (o3 10 l).dropLast else o3 10 l
noncomputable def n0q:Sp2:=fun ds δ q _=>∃l:List Nat,ds=[txD l]∧l.length≤10000∧q (.lst ((u8 l).map txD)) δ
noncomputable def numW(w:List Nat)(lo:Int):Nat→D
 | 0=>.non
 |n+1=>if w=dig lo.toNat then .int lo else numW w (lo+1) n
theorem g0n{w:List Nat}{lo:Int}{n:Nat}:numW w lo (n+1)=if w=dig lo.toNat then .int lo else numW w (lo+1) n:=rfl
theorem x0a{w:List Nat}:∀{n:Nat} {lo i:Int},0≤lo→lo≤i→i<lo+(n:Int)→lo+(n:Int)≤100→w=dig i.toNat→numW w lo n=.int i
 | 0,lo,i,h0,h1,h2,h3,e=>by omega
 |n+1,lo,i,h0,h1,h2,h3,e=>by
  unfold numW;by_cases z:lo=i
  ·subst z;rw[if_pos e]
  ·rw[if_neg (fun y=>z (dig_eq h0 (by omega) (by omega) (by omega) (y.symm.trans e)))];exact x0a (by omega) (by omega) (by omega) (by omega) e
noncomputable def n0p:Sp2:=fun ds δ q _=>∃(w:List Nat) (lo hi:Int),ds=[txD w,.int lo,.int hi]∧0≤lo∧lo≤hi+1∧hi<100∧q (numW w lo (hi+1-lo).toNat) δ
theorem s0k{c:Nat}:∀l:List Nat,(o3 c l).length≤l.length+1
 | []=>Nat.le_refl _
 |a::l=>by
  have ih:=s0k (c:=c) l;unfold o3;split
  ·rw[List.length_cons,List.length_cons];omega
  ·split
   ·simp
   ·rename_i w r e;rw[e]at ih;rw[List.length_cons]at ih ⊢;rw[List.length_cons];omega
theorem z1p{ps:List (List Nat)}{w:List Nat}:atI (List.map (D.str∘tx) ps++List.map (D.str∘tx) [w]) (-1)=some (.str (tx w)):=by
 unfold atI ixN;have e:(-1+((ps.length:Int)+1)).toNat=ps.length:=by omega
 simp only[List.length_append,List.length_map,List.length_cons,List.length_nil,Nat.zero_add];rw[if_neg (by decide),if_pos (by omega)];rw[show (-1+((ps.length+1:Nat):Int)).toNat=ps.length by omega];simp
theorem d0t{ps:List (List Nat)}:p0q (ps.map txD)=some (ps.map tx):=by
 have:=d0z (zs:=ps.map tx);rw[List.map_map]at this;exact this
theorem r0m{ps:List (List Nat)}{m:Nat}(h:∀p∈ps,p.length≤m):((ps.map tx).map (·.length)).sum≤ps.length*m:=by
 induction ps with
 |nil=>simp
 |cons p ps ih=>
  have h1:=h p (List.mem_cons_self ..);have h2:=ih fun q hq=>h q (List.mem_cons_of_mem _ hq)
  simp only[List.map_cons,List.sum_cons,u3,List.length_cons,Nat.add_mul,Nat.one_mul]at h2 ⊢;omega
theorem r6{a:Int}(h1:0≤a)(h2:a<1000):a.natAbs.log2<1920:=by
 have h:a.natAbs<1000:=by omega
 exact Nat.lt_of_le_of_lt (Nat.log2_le_self _) (by omega)
noncomputable abbrev p6:List Str:=["numbers"]
theorem sc_numbers_shown:FnScope ["numbers"] p6 (defScope w8):=⟨rfl,rfl,rfl,by decide +kernel,rfl,by decide +kernel,by decide +kernel⟩
noncomputable abbrev t8(P:Program)(w:World)(K:PySem.W.Frag)(mg:Str→Option Value)(base:Heap)(cs:Cs):Prop:=Fun2 P w K mg base "numbers_shown" 2 p6 l0m
theorem v0h{f:Addr}{fd:FuncData}(Df:DefAt K mg "numbers_shown" w8 p6 f fd)(T:Txt K mg cs):t8 P w K mg base cs:=by
 have nd:=sc_numbers_shown.nd;refine def2 Df sc_numbers_shown (fun ds δ q x h=>?_) (fun cdv A outer s H E Y hr=>⟨_,(i0 (y3 (o0b PySem.F.slot_str_join PySem.F.type_str_join r0v l0u m3 (z0 (w6 rfl (CompOkM.of ["number"] [] rfl) (a8 (e2_v 0)) (fun nd _ _ _ _ _=>(x3 (i:=0) nd rfl (by first |exact Or.inl rfl |exact Or.inr rfl))) x6 (fun _ _ _ _ _ _=>z8) (fun _ _ _ _ _ _=>(x0i a5 k0j T.n_str v0o (z0 (e2_v 0) y0)))) y0)))),fun ds δ q x h=>?_⟩)
 ·unfold l0m at h;obtain ⟨d,ns,rfl,hd,hl,hs,hq⟩:=h;rfl
 ·unfold l0m at h;obtain ⟨d,ns,rfl,hd,hl,hs,hq⟩:=h;rw[show a3 ["numbers"] _=[.val _]from rfl];have go:∀(E:List D→Dk→Prop),(E ((z0w ns).map txD) δ)→j8 (t2Bi strF (b8 (t2V 0) t0o)) [] [.val d] E (ns.map D.int) [] δ:=fun E hE=>by
   refine h0p (fun d=>match d with | .int i=>txD (dig i.toNat)|d=>d) (by rw[List.length_map];omega) (fun z hz Q hQ=>?_) ?_
   ·obtain ⟨n,hn,rfl⟩:=List.mem_map.mp hz;obtain ⟨n1,n2⟩:=hs n hn;simp only[capt,t9,List.map_cons,List.map_nil];walk_at "dn";refine ⟨r6 n1 (by omega),?_⟩;have e:(Str.ofString (toString n))=tx (dig n.toNat):=x0b n1 n2;rw[e];exact hQ
   ·unfold z0w at hE;rw[List.map_map]at hE ⊢;exact hE
  have el:d=.lst (ns.map D.int)∨d=.tup (ns.map D.int):=by cases d<;>simp only[rowD]at hd<;>cases hd<;>first |exact .inl rfl |exact .inr rfl
  have fin:(match p0q ((z0w ns).map txD)with |some zs=>(Str.ofString " ").length≤64∧(List.map (fun x=>x.length) zs).sum+zs.length*64≤100000∧q (D.str (Txt.join (Str.ofString " ") zs)) δ |none=>False):=by
   rw[d0t];dsimp only;rw[t0x,r0o,u3];have h1:=r0m (ps:=z0w ns) (m:=2) (fun p hp=>by obtain ⟨n,_,rfl⟩:=List.mem_map.mp hp;exact z0j);have h2:(z0w ns).length=ns.length:=List.length_map ..;refine ⟨by decide,?_,hq⟩;rw[List.length_map];omega
  rcases el with rfl |rfl
  ·walk_at "dn";exact go _ fin
  ·walk_at "dn";exact go _ fin
noncomputable abbrev y0r:List Str:=["line"]
theorem sc_words_of:FnScope ["line"] y0r (defScope w0p):=⟨rfl,rfl,rfl,by decide +kernel,rfl,by decide +kernel,by decide +kernel⟩
noncomputable abbrev w0d(P:Program)(w:World)(K:PySem.W.Frag)(mg:Str→Option Value)(base:Heap)(cs:Cs):Prop:=Fun2 P w K mg base "words_of" 2 y0r n0r
theorem n0o{f:Addr}{fd:FuncData}(Df:DefAt K mg "words_of" w0p y0r f fd)(T:Txt K mg cs):w0d P w K mg base cs:=by
 have nd:=sc_words_of.nd;refine def2 Df sc_words_of (fun ds δ q x h=>?_) (fun cdv A outer s H E Y hr=>⟨_,(i0 (y3 (w6 rfl (CompOkM.of ["word"] [] rfl) (a8 (o0b PySem.F.slot_str_split PySem.F.type_str_split l0w z1v (e2_v 0) (z0 m3 y0))) (fun nd _ _ _ _ _=>(x3 (i:=0) nd rfl (by first |exact Or.inl rfl |exact Or.inr rfl))) x6 (fun _ _ _ _ _ _=>(o0f (v4 r0a d_ne (e2_v 0) m3 (n3 _)))) (fun _ _ _ _ _ _=>(e2_v 0))))),fun ds δ q x h=>?_⟩)
 ·unfold n0r at h;obtain ⟨l,rfl,hl,hq⟩:=h;rfl
 ·unfold n0r at h;obtain ⟨l,rfl,hl,hq⟩:=h;rw[show a3 ["line"] _=[.val _]from rfl];unfold txD;walk_at "dn";rw[t0x,r0n,l0q,List.map_map,u3,u3];have hsl:=s0k (c:=32) l;refine ⟨rfl,by omega,?_⟩;refine p0x (fun d=>match d with | .str z=>!decide (z=tx [])|_=>false) id (by rw[List.length_map];omega) (fun d hd Q k1 k2=>?_) ?_
  ·obtain ⟨w,hw,rfl⟩:=List.mem_map.mp hd;refine ⟨_,rfl,?_⟩;simp only[capt,t9,List.map_cons,List.map_nil,List.getElem?_cons_zero,List.getElem?_cons_succ,List.cons_append,List.nil_append,Function.comp];walk_at "dn";cases e:decide (tx w=tx [])with
   |true=>exact k2 (by show (!decide (tx w=tx []))=false;rw[e];rfl)
   |false=>exact k1 (by show (!decide (tx w=tx []))=true;rw[e];rfl)
  ·rw[List.map_id];have e:List.filter (fun d=>match d with | .str z=>!decide (z=tx [])|_=>false) (List.map (D.str∘tx) (o3 32 l))=(x4 l).map txD:=by
    rw[List.filter_map];unfold x4;congr 1;refine List.filter_congr fun w _=>?_
    show (!decide (tx w=tx []))=decide (w≠[]);rw[tx_eq];exact (decide_not ..).symm
   rw[e];exact hq
noncomputable abbrev y0q:List Str:=["text"]
theorem sc_lines_of:FnScope ["text","lines"] y0q (defScope w0q):=⟨rfl,rfl,rfl,by decide +kernel,rfl,by decide +kernel,by decide +kernel⟩
noncomputable abbrev w0c(P:Program)(w:World)(K:PySem.W.Frag)(mg:Str→Option Value)(base:Heap)(cs:Cs):Prop:=Fun2 P w K mg base "lines_of" 2 y0q n0q
theorem n0n{f:Addr}{fd:FuncData}(Df:DefAt K mg "lines_of" w0q y0q f fd)(T:Txt K mg cs):w0c P w K mg base cs:=by
 have nd:=sc_lines_of.nd;refine def2 Df sc_lines_of (fun ds δ q x h=>?_) (fun cdv A outer s H E Y hr=>⟨_,(l0 (o0a 1 nd (e2_v 0) (z0 m3 y0))
  (l0 (l5 (v4 r0b d_eq (j4 1 (u0n s0)) m3 (n3 _)) (i0 (y0f (e2_mv0 1 PySem.F.slot_list_pop PySem.F.type_list_pop mt_pop m_pop))) o4)
  (i0 (y3 (e2_v 1))))),fun ds δ q x h=>?_⟩)
 ·unfold n0q at h;obtain ⟨l,rfl,hl,hq⟩:=h;rfl
 ·unfold n0q at h;obtain ⟨l,rfl,hl,hq⟩:=h;rw[show a3 ["text","lines"] _=[.val _,.no]from rfl];unfold txD;walk_at "dn";rw[p0h,r0n,l0q,List.map_map,u3,u3];refine ⟨rfl,by omega,?_⟩;have hne:=t0y (c:=10) l;unfold u8 at hq;obtain ⟨ps,w,e⟩:∃ps w,o3 10 l=ps++[w]:=⟨(o3 10 l).dropLast,(o3 10 l).getLast hne,(List.dropLast_concat_getLast hne).symm⟩;rw[e]at hq ⊢;rw[List.getLast?_concat,List.dropLast_concat]at hq;rw[List.map_append];have hat:atI (List.map (D.str∘tx) ps++List.map (D.str∘tx) [w]) (-1)=some (.str (tx w)):=z1p;rw[hat];dsimp only;rw[tx_eq];by_cases hw:w=[]
  ·rw[if_pos (by rw[hw])]at hq;rw[decide_eq_true hw];simp only[if_true,List.map_cons,List.map_nil,List.getLast?_concat,List.dropLast_concat];exact hq
  ·rw[if_neg (by simpa using hw)]at hq;rw[decide_eq_false hw];simp only[Bool.false_eq_true,if_false];rw[List.map_append]at hq;exact hq
noncomputable abbrev j9:List Str:=["word","least","most"]
theorem sc_number_of:FnScope ["word","least","most","number"] j9 (defScope x0z):=⟨rfl,rfl,rfl,by decide +kernel,rfl,by decide +kernel,by decide +kernel⟩
noncomputable abbrev i9(P:Program)(w:World)(K:PySem.W.Frag)(mg:Str→Option Value)(base:Heap)(cs:Cs):Prop:=Fun2 P w K mg base "number_of" 2 j9 n0p
theorem p0g{f:Addr}{fd:FuncData}(Df:DefAt K mg "number_of" x0z j9 f fd)(T:Txt K mg cs):i9 P w K mg base cs:=by
 have nd:=sc_number_of.nd;refine def2 Df sc_number_of (fun ds δ q x h=>?_) (fun cdv A outer s H E Y hr=>⟨_,(l0 (y0h PassesOwn.leaving rfl (u0k T.n_range (z0 (e2_v 1) (z0 (b3 b5 y8 (e2_v 2) s0) y0))) (x3 (i:=3) nd rfl (by first |exact Or.inl rfl |exact Or.inr rfl)) (u0j (i:=3)) (i0 (l5 (v4 r0b d_eq (e2_v 0) (x0i a5 k0j T.n_str v0o (z0 (e2_v 3) y0)) (n3 _)) (i0 (y3 (e2_v 3))) o4)))
  (i0 (y3 o6))),fun ds δ q x h=>?_⟩)
 ·unfold n0p at h;obtain ⟨w,lo,hi,rfl,h1,h2,h3,hq⟩:=h;rfl
 ·unfold n0p at h;obtain ⟨w,lo,hi,rfl,h1,h2,h3,hq⟩:=h;rw[show a3 ["word","least","most","number"] _=[.val _,.val _,.val _,.no]from rfl];unfold txD;walk_at "dn";refine ⟨⟨by omega,by omega,by omega,by omega⟩,?_⟩;generalize hn:(hi+1-lo).toNat=n at hq;refine z0q (fun i ρ δ'=>∃c3,ρ=[.val (.str (tx w)),.val (.int lo),.val (.int hi),c3]∧δ'=δ∧numW w lo n=numW w (lo+(i:Int)) (n-i)) ⟨_,rfl,rfl,by simp⟩ ?_ ?_
  ·rintro i d ρ δ' rest hi' ⟨c3,rfl,rfl,hw⟩ hrest;obtain ⟨hi2,rfl⟩:=z0e hi';unfold x0h;walk_at "dn";refine ⟨r6 (by omega) (by omega),?_⟩;have e:(Str.ofString (toString (lo+(i:Int))))=tx (dig (lo+(i:Int)).toNat):=x0b (by omega) (by omega);rw[e];rw[show n-i=(n-(i+1))+1 by omega]at hw;rw[g0n]at hw;by_cases z:w=dig (lo+(i:Int)).toNat
   ·rw[if_pos (congrArg tx z)];rw[if_pos z]at hw;have hw:numW w lo n=.int (lo+(i:Int)):=hw;rw[hw]at hq;exact hq
   ·rw[if_neg (fun y=>z (g0r y))];rw[if_neg z]at hw;refine hrest _ _ ⟨_,rfl,rfl,?_⟩;have hw:numW w lo n=numW w (lo+(i:Int)+1) (n-(i+1)):=hw;rw[hw,show lo+(i:Int)+1=lo+((i+1:Nat):Int)by omega]
  ·rintro ρ δ' ⟨c3,rfl,rfl,hw⟩;rw[z0d,Nat.sub_self]at hw;rw[hw]at hq;exact hq
noncomputable def r0l(n f:Int):List (List Nat):=[rT,dig n.toNat,fT,dig f.toNat]
noncomputable def entW(r:Int)(c:List Int):List (List Nat):=(dig r.toNat++[58])::z0w c
noncomputable def g0m:Sp2:=fun ds δ q _=>∃n f:Int,ds=[.lst ((r0l n f).map txD)]∧0≤n∧n≤24∧0≤f∧f≤47∧q (.tup [.int n,.int f]) δ
noncomputable def ChOk(m:Int)(c:List Int):Prop:=(∀k∈c,0≤k∧k<m)∧risI c=true∧(c.length:Int)≤m
theorem n0m{c:List Int}(h:ChOk 4 c):x9 (.tup (c.map D.int))=true∧risD (.tup (c.map D.int)) 0 3=true:=by
 refine ⟨?_,?_⟩
 ·unfold x9 rowD;dsimp only;rw[List.all_eq_true.mpr (fun d hd=>by obtain ⟨z,_,rfl⟩:=List.mem_map.mp hd;rfl)];rfl
 ·unfold risD p0l rowD;dsimp only;rw[Option.getD_some,l0r,h.2.1,Bool.and_true,List.length_map,decide_eq_true (by omega),decide_eq_true (by have:=h.2.2;omega)];simp only[Bool.true_and];rw[List.all_eq_true];intro d hd;obtain ⟨z,hz,rfl⟩:=List.mem_map.mp hd;have:=h.1 z hz;exact r0r this.1 (by omega)
theorem z1o{l:List Nat}{c:Nat}:Txt.endswith (tx (l++[c])) (tx [c])=true:=by
 unfold Txt.endswith Builtin.Str.subAt;rw[u3,u3];simp[tx]
theorem cut_1{xs:List D}:cutD xs (some 1) none=xs.drop 1:=by
 unfold cutD;rw[show (1:Int)=((1:Nat):Int)from rfl,HT.sIx_nat,HT.sIx_none];cases xs with
 |nil=>rfl
 |cons x xs=>
  rw[Nat.min_eq_left (by simp),List.take_of_length_le (by simp)]
noncomputable def n0l:Sp2:=fun ds δ q _=>∃(r lo hi:Int) (c:List Int),ds=[.lst ((entW r c).map txD),.int lo,.int hi]∧0≤lo∧lo≤r∧r≤hi∧hi<100∧ChOk 4 c∧c≠[]∧q (.tup [.int r,.tup (c.map D.int)]) δ
noncomputable abbrev h9:List Str:=["words"]
theorem sc_read_head:FnScope ["words","rounds","first"] h9 (defScope x0y):=⟨rfl,rfl,rfl,by decide +kernel,rfl,by decide +kernel,by decide +kernel⟩
noncomputable abbrev x0t(P:Program)(w:World)(K:PySem.W.Frag)(mg:Str→Option Value)(base:Heap)(cs:Cs):Prop:=Fun2 P w K mg base "read_head" 3 h9 g0m
theorem p0f{f:Addr}{fd:FuncData}(Df:DefAt K mg "read_head" x0y h9 f fd)(T:Txt K mg cs)(G_number_of:i9 P w K mg base cs):x0t P w K mg base cs:=by
 have nd:=sc_read_head.nd;refine def2 Df sc_read_head (fun ds δ q x h=>?_) (fun cdv A outer s H E Y hr=>⟨_,(l0 (l5 (PW2.pt (z0x (v4 r0a d_ne (i4 0 T.n_len) s0 (n3 _)) (z0x (v4 r0a d_ne (j4 0 s0) m3 (n3 _)) (a7 (v4 r0a d_ne (j4 0 s0) m3 (n3 _)))))) (i0 (y3 o6)) o4)
  (l0 (u4 1 nd (j0 G_number_of (hr.mono (by decide)) o0 (z0 (j4 0 s0) (z0 s0 (z0 (o0j T.g_MOST_ROUNDS) y0)))))
  (l0 (u4 2 nd (j0 G_number_of (hr.mono (by decide)) o0 (z0 (j4 0 s0) (z0 s0 (z0 (o0j T.g_GREATEST_FIRST) y0)))))
  (l0 (l5 (PW2.pt (z0x (v4 q0z i0l (e2_v 1) o6 (n3 _)) (a7 (v4 q0z i0l (e2_v 2) o6 (n3 _))))) (i0 (y3 o6)) o4)
  (i0 (y3 (n6 (z0 (e2_v 1) (z0 (e2_v 2) y0))))))))),fun ds δ q x h=>?_⟩)
 ·unfold g0m at h;obtain ⟨n,f',rfl,n1,n2,f1,f2,hq⟩:=h;rfl
 ·unfold g0m at h;obtain ⟨n,f',rfl,n1,n2,f1,f2,hq⟩:=h;rw[show a3 ["words","rounds","first"] _=[.val _,.no,.no]from rfl];unfold r0l;simp only[List.map_cons,List.map_nil];unfold txD;walk_at "dn";rw[l0n,c0q,decide_eq_true rfl,decide_eq_true rfl,decide_eq_true (show ((4:Nat):Int)=4 by decide)];simp only[Bool.not_true,Bool.false_eq_true,if_false];refine ⟨_,0,24,rfl,by decide,by decide,by decide,?_⟩;rw[x0a (i:=n) (by decide) n1 (by omega) (by decide) rfl];refine ⟨_,0,47,rfl,by decide,by decide,by decide,?_⟩;rw[x0a (i:=f') (by decide) f1 (by omega) (by decide) rfl];exact hq
noncomputable abbrev l8:List Str:=["words","least","most"]
theorem sc_read_round:FnScope ["words","least","most","round_number","choice"] l8 (defScope z0o):=⟨rfl,rfl,rfl,by decide +kernel,rfl,by decide +kernel,by decide +kernel⟩
noncomputable abbrev z0i(P:Program)(w:World)(K:PySem.W.Frag)(mg:Str→Option Value)(base:Heap)(cs:Cs):Prop:=Fun2 P w K mg base "read_round" 6 l8 n0l
theorem r0k{f:Addr}{fd:FuncData}(Df:DefAt K mg "read_round" z0o l8 f fd)(T:Txt K mg cs)(G_number_of:i9 P w K mg base cs)(G_is_choice_among:n5 P w K mg base cs):z0i P w K mg base cs:=by
 have nd:=sc_read_round.nd;refine def2 Df sc_read_round (fun ds δ q x h=>?_) (fun cdv A outer s H E Y hr=>⟨_,(l0 (l5 (PW2.pt (z0x (v4 op_lt d_lt (i4 0 T.n_len) s0 (n3 _)) (a7 (y6 (m6 (o0b PySem.F.slot_str_endswith PySem.F.type_str_endswith z1x d_ends (j4 0 s0) (z0 m3 y0))))))) (i0 (y3 o6)) o4)
  (l0 (u4 3 nd (j0 G_number_of (hr.mono (by decide)) o0 (z0 (p0o (j4 0 s0) r0y (r0x (u0n s0))) (z0 (e2_v 1) (z0 (e2_v 2) y0)))))
  (l0 (u4 4 nd (x0i p5 w0u T.n_tuple b6 (z0 (w6 rfl (CompOkM.of ["word"] [] rfl) (a8 (m0a (e2_v 0) (r0x s0) r0y)) (fun nd _ _ _ _ _=>(x3 (i:=0) nd rfl (by first |exact Or.inl rfl |exact Or.inr rfl))) x6 (fun _ _ _ _ _ _=>z8) (fun _ _ _ _ _ _=>(j0 G_number_of (hr.mono (by decide)) q0f (z0 (e2_v 0) (z0 s0 (z0 (b3 t0b k0s (o0j T.g_MOST_PARTS) s0) y0)))))) y0)))
  (l0 (l5 (PW2.pt (z0x (v4 q0z i0l (e2_v 3) o6 (n3 _)) (a7 (y6 (m6 (j0 G_is_choice_among (hr.mono (by decide)) o0 (z0 (e2_v 4) (z0 (o0j T.g_MOST_PARTS) y0)))))))) (i0 (y3 o6)) o4)
  (i0 (y3 (n6 (z0 (e2_v 3) (z0 (e2_v 4) y0))))))))),fun ds δ q x h=>?_⟩)
 ·unfold n0l at h;obtain ⟨r,lo,hi,c,rfl,l1,l2,l3,l4,hc,hne,hq⟩:=h;rfl
 ·unfold n0l at h;obtain ⟨r,lo,hi,c,rfl,l1,l2,l3,l4,hc,hne,hq⟩:=h;rw[show a3 ["words","least","most","round_number","choice"] _=[.val _,.val _,.val _,.no,.no]from rfl];unfold entW;simp only[List.map_cons];unfold txD;walk_at "dn";rw[n0s,z1o,l0o,p0i,List.dropLast_concat,u3,cut_1,List.length_map];have hcl:(z0w c).length=c.length:=List.length_map ..;have hc0:0<c.length:=List.length_pos_iff.mpr hne;have hc4:=hc.2.2;have hdl:=z0j (n:=r.toNat);rw[if_neg (by omega)];simp only[Bool.not_true,Bool.false_eq_true,if_false];refine ⟨by rw[List.length_append,List.length_singleton];omega,_,lo,hi,rfl,l1,by omega,l4,?_⟩;rw[x0a (i:=r) l1 l2 (by omega) (by omega) rfl];rw[List.drop_succ_cons,List.drop_zero];unfold z0w;rw[List.map_map];refine f7 (fun n:Int=>D.str (tx (dig n.toNat))) D.int c (by omega) (fun n hn Q hQ=>?_) ?_
  ·have:=hc.1 n hn;simp only[capt,t9,List.map_cons,List.map_nil];walk_at "dn";refine ⟨_,0,3,rfl,by decide,by decide,by decide,?_⟩;rw[x0a (i:=n) (by decide) this.1 (by omega) (by decide) rfl];exact hQ
  ·dsimp only;rw[if_neg (by decide)];refine ⟨(n0m hc).1,by decide,?_⟩;rw[show (4:Int)-1=3 from rfl,(n0m hc).2];exact hq
structure TxtOk(l:List Nat):Prop where
 len:l.length≤10000
 n:(o3 10 l).length≤900
 s:∀p∈o3 10 l,p.length≤900
noncomputable def rowP(p:Int×List (List Nat)):D:=.tup [.int p.1,.lst (p.2.map txD)]
noncomputable def r0j:Sp2:=fun ds δ q _=>∃l:List Nat,ds=[txD l]∧TxtOk l∧cntL l≠[]∧∀xs:List (Int×List (List Nat)),xs.map Prod.snd=cntL l→q (.lst (xs.map rowP)) δ
theorem g0l{l:List Nat}:((u8 l).map x4).filter (·≠[])=cntL l:=by
 unfold u8 cntL;split
 ·rename_i h;obtain ⟨ps,e⟩:∃ps,o3 10 l=ps++[[]]:=by
   have hne:=t0y (c:=10) l;rw[List.getLast?_eq_some_getLast hne]at h;have h:=Option.some.inj h;exact ⟨(o3 10 l).dropLast,by rw[←h];exact (List.dropLast_concat_getLast hne).symm⟩
  rw[e,List.dropLast_concat,List.map_append,List.filter_append];simp[b7]
 ·rfl
theorem g0k{l p:List Nat}(h:p∈u8 l):p∈o3 10 l:=by
 unfold u8 at h;split at h
 ·exact List.dropLast_subset _ h
 ·exact h
theorem g0j{l:List Nat}:(u8 l).length≤(o3 10 l).length:=by
 unfold u8;split
 ·rw[List.length_dropLast];omega
 ·exact Nat.le_refl _
noncomputable def t0i(k:Int):List (List Nat)→List (Int×List Nat)
 | []=>[]
 |l::r=>(k,l)::t0i (k+1) r
theorem s0j:∀(ps:List (List Nat)) (k:Nat),y0j k (ps.map txD)=(t0i (k:Int) ps).map fun p=>.tup [.int p.1,txD p.2]
 | [],_=>rfl
 |p::ps,k=>by
  show D.tup [.int (k:Int),txD p]::y0j (k+1) (ps.map txD)=_;rw[s0j ps (k+1)];rfl
theorem w0z:∀(ps:List (List Nat)) (k:Int),(t0i k ps).length=ps.length
 | [],_=>rfl
 |p::ps,k=>by show (t0i (k+1) ps).length+1=_;rw[w0z ps];rfl
theorem t0w:∀(ps:List (List Nat)) (k:Int),(t0i k ps).map Prod.snd=ps
 | [],_=>rfl
 |p::ps,k=>by show p::(t0i (k+1) ps).map Prod.snd=_;rw[t0w ps]
noncomputable abbrev w0y:List Str:=["text"]
theorem sc_rows_of:FnScope ["text","lines","rows","counted"] w0y (defScope u0b):=⟨rfl,rfl,rfl,by decide +kernel,rfl,by decide +kernel,by decide +kernel⟩
noncomputable abbrev t0v(P:Program)(w:World)(K:PySem.W.Frag)(mg:Str→Option Value)(base:Heap)(cs:Cs):Prop:=Fun2 P w K mg base "rows_of" 3 w0y r0j
theorem k0e{f:Addr}{fd:FuncData}(Df:DefAt K mg "rows_of" u0b w0y f fd)(T:Txt K mg cs)(G_lines_of:w0c P w K mg base cs)(G_words_of:w0d P w K mg base cs)(M_NoText:MkE P w K mg base "NoText" cs.NoText 1 ["self","row"] (spXI cs.NoText "row")):t0v P w K mg base cs:=by
 have nd:=sc_rows_of.nd;refine def2 Df sc_rows_of (fun ds δ q x h=>?_) (fun cdv A outer s H E Y hr=>⟨_,(l0 (l5 (y6 (m6 (e2_b m5 (y0i (K:=K)) T.n_isinstance y4 (z0 (e2_v 0) (z0 (u0p "str" T.n_str v0o) y0))))) (i0 (z0r rfl o0 M_NoText (hr.mono (by decide)) (z0 s0 y0))) o4)
  (l0 (u4 1 nd (j0 G_lines_of (hr.mono (by decide)) o0 (z0 (e2_v 0) y0)))
  (l0 (r0z (i:=2) rfl (CompOkM.of ["row","line"] [] rfl) (l0x T.n_enumerate (z0 (e2_v 1) y0) s0) (fun nd _ _ _ _ _=>(x0n rfl (n4 (x3 (i:=0) nd rfl (by first |exact Or.inl rfl |exact Or.inr rfl)) (n4 (x3 (i:=1) nd rfl (by first |exact Or.inl rfl |exact Or.inr rfl)) u9)))) (o0g (is:=[0,1]) rfl) (fun _ _ _ _ _ _=>z8) (fun _ _ _ _ _ _=>(n6 (z0 (e2_v 0) (z0 (j0 G_words_of (hr.mono (by decide)) q0f (z0 (e2_v 1) y0)) y0)))) nd)
  (l0 (r0z (i:=3) rfl (CompOkM.of ["row","words"] [] rfl) (a8 (e2_v 2)) (fun nd _ _ _ _ _=>(x0n rfl (n4 (x3 (i:=0) nd rfl (by first |exact Or.inl rfl |exact Or.inr rfl)) (n4 (x3 (i:=1) nd rfl (by first |exact Or.inl rfl |exact Or.inr rfl)) u9)))) (o0g (is:=[0,1]) rfl) (fun _ _ _ _ _ _=>(o0f (v4 j0o d_gt (i4 1 T.n_len) s0 (n3 _)))) (fun _ _ _ _ _ _=>(n6 (z0 (e2_v 0) (z0 (e2_v 1) y0)))) nd)
  (l0 (l5 (v4 r0b d_eq (i4 3 T.n_len) s0 (n3 _)) (i0 (z0r rfl o0 M_NoText (hr.mono (by decide)) (z0 (b3 b5 y8 (i4 1 T.n_len) s0) y0))) o4)
  (i0 (y3 (e2_v 3)))))))),fun ds δ q x h=>?_⟩)
 ·unfold r0j at h;obtain ⟨l,rfl,h,hne,hq⟩:=h;rfl
 ·unfold r0j at h;obtain ⟨l,rfl,h,hne,hq⟩:=h;rw[show a3 ["text","lines","rows","counted"] _=[.val _,.no,.no,.no]from rfl];have ty:t0n K (txD l) (.ty "str")=some true:=c0u;have tt:TyD K (txD l):=trivial;walk_at "dn";simp only[ty,tt,true_and,Bool.not_true,Bool.false_eq_true,if_false];refine ⟨l,rfl,h.len,?_⟩;walk_at "dn";have hn:=h.n;have hll:=g0j (l:=l);have hlen:=w0z (u8 l) ((1:Nat):Int);refine ⟨by decide,by decide,?_⟩;rw[show (1:Int).toNat=1 from rfl,s0j];refine s0n (fun p:Int×List Nat=>.tup [.int p.1,txD p.2]) (fun p:Int×List Nat=>rowP (p.1,x4 p.2)) (t0i ((1:Nat):Int) (u8 l)) (by rw[w0z];omega) (fun p hp Q hQ=>?_) ?_
  ·refine ⟨_,rfl,?_⟩;simp only[capt,t9,List.map_cons,List.map_nil,List.cons_append,List.nil_append];walk_at "dn";have hp2:p.2∈u8 l:=by have:=List.mem_map_of_mem (f:=Prod.snd) hp;rw[t0w]at this;exact this
   exact ⟨p.2,rfl,h.s _ (g0k hp2),hQ⟩
  ·refine w0s (fun p:Int×List Nat=>rowP (p.1,x4 p.2)) (fun p:Int×List Nat=>rowP (p.1,x4 p.2)) (fun p=>decide (x4 p.2≠[])) (t0i ((1:Nat):Int) (u8 l)) (acc:=[]) (by rw[w0z];show 0+_≤_;omega) (fun p hp Q k1 k2=>?_) ?_
   ·refine ⟨_,rfl,?_⟩;simp only[capt,t9,List.map_cons,List.map_nil,List.cons_append,List.nil_append];walk_at "dn";rw[List.length_map];by_cases z:x4 p.2=[]
    ·rw[z,if_neg (by simp)];exact k2 (decide_eq_false (by simpa using z))
    ·rw[if_pos (by have:=List.length_pos_iff.mpr z;omega)];exact k1 (decide_eq_true z)
   ·rw[List.nil_append];have e:(((t0i ((1:Nat):Int) (u8 l)).filter fun p=>decide (x4 p.2≠[])).map fun p=>(p.1,x4 p.2)).map Prod.snd=cntL l:=by
     rw[←g0l,List.map_map]
     conv=>rhs;rw[←t0w (u8 l) ((1:Nat):Int),List.map_map,List.filter_map]
     rfl
    have hq:=hq _ e;rw[List.map_map]at hq;rw[List.length_map];have hpos:((t0i ((1:Nat):Int) (u8 l)).filter fun p=>decide (x4 p.2≠[])).length≠0:=fun z=>hne (by
     rw[←e,List.eq_nil_of_length_eq_zero z];rfl)
    rw[if_neg (by omega)];exact hq
noncomputable def tI(c:List Int):D:=.tup (c.map D.int)
noncomputable def r8:List (List Int)→Int→List (Int×List Int)
 | [],_=>[]
 |c::P,r=>if c=[]then r8 P (r+1)else (r,c)::r8 P (r+1)
theorem w9{c:List Int}{P:List (List Int)}{r:Int}:r8 (c::P) r=if c=[]then r8 P (r+1)else (r,c)::r8 P (r+1):=rfl
noncomputable def l6(P:List (List Int))(j:Nat):List D:=(P.take j).map tI++List.replicate (P.length-j) (tI [])
theorem n0k{P:List (List Int)}{j:Nat}{c:List Int}(h:P[j]?=some c):(l6 P j).set j (tI c)=l6 P (j+1):=by
 have hj:=(List.getElem?_eq_some_iff.mp h).1;unfold l6;obtain ⟨k,hk⟩:∃k,P.length-j=k+1:=⟨P.length-j-1,by omega⟩;rw[hk,List.replicate_succ,List.take_succ,h,List.set_append_right _ _ (by rw[List.length_map,List.length_take];omega),List.length_map,List.length_take,Nat.min_eq_left (by omega),Nat.sub_self,List.set_cons_zero,show P.length-(j+1)=k by omega];simp
theorem n0j{P:List (List Int)}{j:Nat}(h:P[j]?=some []):l6 P j=l6 P (j+1):=by
 have hj:=(List.getElem?_eq_some_iff.mp h).1;unfold l6;obtain ⟨k,hk⟩:∃k,P.length-j=k+1:=⟨P.length-j-1,by omega⟩;rw[hk,List.replicate_succ,List.take_succ,h,show P.length-(j+1)=k by omega];simp
theorem planAt_end{P:List (List Int)}:l6 P P.length=P.map tI:=by
 unfold l6;rw[List.take_length,Nat.sub_self,List.replicate_zero,List.append_nil]
theorem t0u{P:List (List Int)}{f:Int}:∀(n j:Nat),P.length-j=n→(r8 (P.drop j) (f+(j:Int))=[]→l6 P j=P.map tI)∧
 ∀R c rest,r8 (P.drop j) (f+(j:Int))=(R,c)::rest→∃j',j≤j'∧P[j']?=some c∧c≠[]∧R=f+(j':Int)∧rest=r8 (P.drop (j'+1)) (f+((j'+1:Nat):Int))∧l6 P j=l6 P j'
 | 0,j,hn=>by
  have hd:P.drop j=[]:=List.drop_eq_nil_of_le (by omega);rw[hd];refine ⟨fun _=>?_,fun R c rest h=>by cases h⟩;unfold l6;rw[hn,List.replicate_zero,List.append_nil,List.take_of_length_le (by omega)]
 |n+1,j,hn=>by
  have hj:j<P.length:=by omega
  have ih:=t0u (P:=P) (f:=f) n (j+1) (by omega);have hg:P[j]?=some P[j]:=List.getElem?_eq_getElem hj;rw[List.drop_eq_getElem_cons hj,w9];rw[show f+(j:Int)+1=f+((j+1:Nat):Int)by omega];by_cases z:P[j]=[]
  ·rw[if_pos z];rw[z]at hg;rw[n0j hg];refine ⟨ih.1,fun R c rest h=>?_⟩;obtain ⟨j',h1,h2⟩:=ih.2 R c rest h;exact ⟨j',by omega,h2⟩
  ·rw[if_neg z];refine ⟨fun h=>(by cases h),fun R c rest h=>?_⟩;cases h;exact ⟨j,Nat.le_refl _,hg,z,rfl,rfl,rfl⟩
structure PlanOk(P:List (List Int)):Prop where
 l:P.length≤24
 c:∀c∈P,ChOk 4 c
noncomputable def x0s(P:List (List Int))(f:Int):List (List (List Nat)):=r0l (P.length:Int) f::(r8 P f).map fun e=>entW e.1 e.2
noncomputable def g0i:Sp2:=fun ds δ q _=>∃(l:List Nat) (P:List (List Int)) (f:Int),ds=[txD l]∧TxtOk l∧PlanOk P∧0≤f∧f≤47∧cntL l=x0s P f∧q (.tup [.tup (P.map tI),.int f]) δ
noncomputable abbrev g9:List Str:=["text"]
theorem sc_read_plan:FnScope ["text","counted","head","rounds","first","plan","free","row","words","told"] g9 (defScope x0x):=⟨rfl,rfl,rfl,by decide +kernel,rfl,by decide +kernel,by decide +kernel⟩
noncomputable abbrev x0r(P:Program)(w:World)(K:PySem.W.Frag)(mg:Str→Option Value)(base:Heap)(cs:Cs):Prop:=Fun2 P w K mg base "read_plan" 7 g9 g0i
theorem p0e{f:Addr}{fd:FuncData}(Df:DefAt K mg "read_plan" x0x g9 f fd)(T:Txt K mg cs)(G_rows_of:t0v P w K mg base cs)(G_read_head:x0t P w K mg base cs)(G_read_round:z0i P w K mg base cs)(M_NoText:MkE P w K mg base "NoText" cs.NoText 1 ["self","row"] (spXI cs.NoText "row")):x0r P w K mg base cs:=by
 have nd:=sc_read_plan.nd;refine def2 Df sc_read_plan (fun ds δ q x h=>?_) (fun cdv A outer s H E Y hr=>⟨_,(l0 (u4 1 nd (j0 G_rows_of (hr.mono (by decide)) o0 (z0 (e2_v 0) y0)))
  (l0 (u4 2 nd (j0 G_read_head (hr.mono (by decide)) o0 (z0 (i0p s0y d_ix (j4 1 s0) s0) y0)))
  (l0 (l5 (v4 q0z i0l (e2_v 2) o6 (n3 _)) (i0 (z0r rfl o0 M_NoText (hr.mono (by decide)) (z0 (i0p s0y d_ix (j4 1 s0) s0) y0))) o4)
  (l0 (s2_unp (e2_v 2) (x0n rfl (n4 (x3 (i:=3) nd rfl (by first |exact Or.inl rfl |exact Or.inr rfl)) (n4 (x3 (i:=4) nd rfl (by first |exact Or.inl rfl |exact Or.inr rfl)) u9))) (s0r (is:=[3,4]) rfl))
  (l0 (h0n 5 nd (w5 (z0 (n6 y0) y0)) (e2_v 3))
  (l0 (u4 6 nd (e2_v 4))
  (l0 (y0h PassesOwn.leaving rfl (a8 (m0a (e2_v 1) (r0x s0) r0y)) (x0n rfl (n4 (x3 (i:=7) nd rfl (by first |exact Or.inl rfl |exact Or.inr rfl)) (n4 (x3 (i:=8) nd rfl (by first |exact Or.inl rfl |exact Or.inr rfl)) u9))) (s0r (is:=[7,8]) rfl) (l0 (u4 9 nd (j0 G_read_round (hr.mono (by decide)) o0 (z0 (e2_v 8) (z0 (e2_v 6) (z0 (b3 t0b k0s (b3 b5 y8 (e2_v 4) (e2_v 3)) s0) y0)))))
  (l0 (l5 (v4 q0z i0l (e2_v 9) o6 (n3 _)) (i0 (z0r rfl o0 M_NoText (hr.mono (by decide)) (z0 (e2_v 7) y0))) o4)
  (l0 (s0e 5 (b3 t0b k0s (j4 9 s0) (e2_v 4)) (j4 9 s0))
  (i0 (u4 6 nd (b3 b5 y8 (j4 9 s0) s0)))))))
  (i0 (y3 (n6 (z0 (x0i p5 w0u T.n_tuple b6 (z0 (e2_v 5) y0)) (z0 (e2_v 4) y0)))))))))))),fun ds δ q x h=>?_⟩)
 ·unfold g0i at h;obtain ⟨l,P,f',rfl,h,hp,f1,f2,hc,hq⟩:=h;rfl
 ·unfold g0i at h;obtain ⟨l,P,f',rfl,h,hp,f1,f2,hc,hq⟩:=h;rw[show a3 ["text","counted","head","rounds","first","plan","free","row","words","told"] _=[.val _,.no,.no,.no,.no,.no,.no,.no,.no,.no]from rfl];walk_at "ds";refine ⟨l,rfl,h,by rw[hc];exact (fun z=>by cases z),fun xs hx=>?_⟩;rw[hc]at hx;unfold x0s at hx;cases xs with
  |nil=>cases hx
  |cons x0 ys=>
   rw[List.map_cons]at hx;obtain ⟨hx0,hys⟩:=List.cons.inj hx;have hpl:=hp.l;rw[List.map_cons,k_any];walk_at "ds";rw[show rowP x0=.tup [.int x0.1,.lst (x0.2.map txD)]from rfl,hx0];walk_at "ds";refine ⟨_,_,rfl,by omega,by omega,f1,f2,?_⟩;walk_at "ds";rw[cut_1,List.drop_succ_cons,List.drop_zero,show (List.replicate ((P.length:Nat):Int).toNat [D.tup []]).flatten=l6 P 0 by unfold l6;simp[tI]];refine ⟨by simp;omega,by omega,by omega,?_⟩;refine h0h rowP ys (fun i ρ δ'=>∃(j:Nat) (c7 c8 c9:Cell),ρ=[.val (txD l),.val (.lst (D.tup [D.int x0.fst,D.lst (List.map txD (r0l (P.length:Int) f'))]::List.map rowP ys)),.val (.tup [.int (P.length:Int),.int f']),.val (.int (P.length:Int)),.val (.int f'),.own (l6 P j),.val (.int (f'+(j:Int))),c7,c8,c9]∧δ'=δ∧j≤P.length∧(ys.drop i).map Prod.snd=(r8 (P.drop j) (f'+(j:Int))).map fun e=>entW e.1 e.2) ⟨0,.no,.no,.no,by simp,rfl,Nat.zero_le _,by simpa using hys⟩ ?_ ?_
   ·rintro i a ρ δ' rest hi ⟨j,c7,c8,c9,rfl,rfl,hj,hrem⟩ hrest;have lt:=(List.getElem?_eq_some_iff.mp hi).1;rw[List.drop_eq_getElem_cons lt,show ys[i]=a from (List.getElem?_eq_some_iff.mp hi).2,List.map_cons]at hrem;cases ee:r8 (P.drop j) (f'+(j:Int))with
    |nil=>rw[ee]at hrem;cases hrem
    |cons e0 er=>
     obtain ⟨R,c⟩:=e0;rw[ee,List.map_cons]at hrem;obtain ⟨h1,h2⟩:=List.cons.inj hrem;obtain ⟨j',j1,j2,j3,rfl,j5,j6⟩:=(t0u (P:=P) (f:=f') _ j rfl).2 _ _ _ ee;have hj':=(List.getElem?_eq_some_iff.mp j2).1;unfold x0h;unfold rowP;rw[h1];walk_at "ds";refine ⟨_,_,_,c,rfl,by omega,by omega,by omega,by omega,hp.c c (List.mem_of_getElem? j2),j3,?_⟩;walk_at "ds";have hlen:(l6 P j').length=P.length:=by unfold l6;rw[List.length_append,List.length_map,List.length_take,List.length_replicate];omega
     have hix:ixN (l6 P j').length (f'+(j':Int)-f')=some j':=by
      rw[hlen,show f'+(j':Int)-f'=(j':Int)by omega];unfold ixN;rw[if_pos (by omega),if_pos (by omega)];simp
     rw[j6,hix];walk_at "ds";rw[show D.tup (List.map D.int c)=tI c from rfl,n0k j2];refine hrest _ _ ⟨j'+1,_,_,_,by rw[show f'+(j':Int)+1=f'+((j'+1:Nat):Int)by omega];rfl,rfl,hj',?_⟩;rw[h2,j5]
   ·rintro ρ δ' ⟨j,c7,c8,c9,rfl,rfl,hj,hrem⟩;rw[List.drop_length,List.map_nil]at hrem;have he:r8 (P.drop j) (f'+(j:Int))=[]:=List.map_eq_nil_iff.mp hrem.symm;walk_at "ds";rw[(t0u (P:=P) (f:=f') _ j rfl).1 he];exact hq
noncomputable def n0i(n f:Int):List Nat:=rT++[32]++dig n.toNat++(32::(fT++[32]))++dig f.toNat
noncomputable def entT(e:Int×List Int):List Nat:=dig e.1.toNat++[58,32]++j7 [32] (z0w e.2)
noncomputable def u7(P:List (List Int))(f:Int):List (List Nat):=n0i (P.length:Int) f::(r8 P f).map entT
noncomputable def feed(ls:List (List Nat)):List Nat:=(ls.map fun l=>l++[10]).flatten
noncomputable def rowT(b:Bool)(c:List Int):D:=if b=true then .lst (c.map D.int)else .tup (c.map D.int)
noncomputable def w0b(b1 b2:Bool)(P:List (List Int)):D:=if b1=true then .lst (P.map (rowT b2))else .tup (P.map (rowT b2))
noncomputable def l0l(cs:Cs):Sp2:=fun ds δ q x=>∃d f,ds=[d,f]∧z0y d=true∧v7 f=true∧(∀k,b4 d 4 24=.int k→x cs.NoPlan [("at",.int k)] δ)∧(b4 d 4 24=.non→i5 f 0 47=false→x cs.NoRounds [] δ)∧
 (∀b1 b2 P,∀f0:Int,d=w0b b1 b2 P→PlanOk P→f=.int f0→0≤f0→f0≤47→q (txD (feed (u7 P f0))) δ)∧((b4 d 4 24=.non∧i5 f 0 47=true)→∃b1 b2 P,∃f0:Int,d=w0b b1 b2 P∧PlanOk P∧f=.int f0∧0≤f0∧f0≤47)
theorem l0k{m:Int}:∀{xs:List D} {k:Nat},(∀e∈xs,badE m e=false)→z0z m k xs=.non
 | [],k,_=>rfl
 |e::r,k,h=>by
  unfold z0z;rw[h e (List.mem_cons_self ..),if_neg Bool.false_ne_true];exact l0k fun z hz=>h z (List.mem_cons_of_mem _ hz)
theorem r0i{b:Bool}{c:List Int}(h:ChOk 4 c):x9 (rowT b c)=true∧badE 4 (rowT b c)=false:=by
 have h2:=n0m h;unfold badE;cases b with
 |false=>exact ⟨h2.1,by show (!risD (.tup (c.map D.int)) 0 3)=false;rw[h2.2];rfl⟩
 |true=>exact ⟨h2.1,by show (!risD (.tup (c.map D.int)) 0 3)=false;rw[h2.2];rfl⟩
theorem u0z{b1 b2:Bool}{P:List (List Int)}(h:PlanOk P):z0y (w0b b1 b2 P)=true∧b4 (w0b b1 b2 P) 4 24=.non:=by
 have hr:rowD (w0b b1 b2 P)=some (P.map (rowT b2)):=by unfold w0b;split<;>rfl
 have hl:=h.l;refine ⟨?_,?_⟩
 ·unfold z0y;rw[hr];dsimp only;rw[List.all_eq_true.mpr (fun d hd=>by obtain ⟨c,hc,rfl⟩:=List.mem_map.mp hd;exact (r0i (h.c c hc)).1)];unfold w0b;split<;>rfl
 ·unfold b4;rw[hr];dsimp only;rw[List.length_map,if_neg (by omega)];exact l0k fun e he=>by obtain ⟨c,hc,rfl⟩:=List.mem_map.mp he;exact (r0i (h.c c hc)).2
theorem d0s{A B:List (List Int)}{f:Int}:r8 (A++B) f=r8 A f++r8 B (f+(A.length:Int)):=by
 induction A generalizing f with
 |nil=>simp[r8]
 |cons a A ih=>
  rw[List.cons_append,w9,w9,ih,List.length_cons,show f+1+(A.length:Int)=f+((A.length+1:Nat):Int)by omega];split<;>rfl
theorem p0d{P:List (List Int)}{i:Nat}{c:List Int}{f:Int}(h:P[i]?=some c):r8 (P.take (i+1)) f=r8 (P.take i) f++if c=[]then []else [(f+(i:Int),c)]:=by
 have hi:=(List.getElem?_eq_some_iff.mp h).1;rw[List.take_succ,h,Option.toList_some,d0s,w9,List.length_take,Nat.min_eq_left (by omega)];rfl
theorem u0y{P:List (List Int)}{f:Int}:(r8 P f).length≤P.length:=by
 induction P generalizing f with
 |nil=>exact Nat.le_refl _
 |cons a A ih=>
  have:=ih (f:=f+1);rw[w9];split
  ·rw[List.length_cons];omega
  ·rw[List.length_cons,List.length_cons];omega
theorem n0h{P:List (List Int)}{f:Int}{e:Int×List Int}(h:e∈r8 P f):e.2∈P∧e.2≠[]∧f≤e.1∧e.1<f+(P.length:Int):=by
 induction P generalizing f with
 |nil=>cases h
 |cons a A ih=>
  rw[w9]at h;rw[List.length_cons];split at h
  ·obtain ⟨h1,h2,h3,h4⟩:=ih h;exact ⟨List.mem_cons_of_mem _ h1,h2,by omega,by omega⟩
  ·rename_i z;cases h with
   |head=>exact ⟨List.mem_cons_self ..,z,by show f≤f;omega,by show f<_;omega⟩
   |tail _ h=>
    obtain ⟨h1,h2,h3,h4⟩:=ih h;exact ⟨List.mem_cons_of_mem _ h1,h2,by omega,by omega⟩
theorem t0t:∀{ps:List (List Nat)},j7 [] ps=ps.flatten
 | []=>rfl
 | [a]=>by show a=_;simp
 |a::b::r=>by
  show a++([]++j7 [] (b::r))=_;rw[t0t,List.nil_append];rfl
theorem t0s{s:List Nat}{m:Nat}:∀{ps:List (List Nat)},(∀p∈ps,p.length≤m)→(j7 s ps).length≤ps.length*(m+s.length)
 | [],_=>Nat.zero_le _
 | [a],h=>by
  have:=h a (List.mem_singleton.mpr rfl);show a.length≤1*(m+s.length);omega
 |a::b::r,h=>by
  have h1:=h a (List.mem_cons_self ..);have h2:=t0s (s:=s) (ps:=b::r) fun p hp=>h p (List.mem_cons_of_mem _ hp)
  show (a++(s++j7 s (b::r))).length≤_;rw[List.length_append,List.length_append,List.length_cons,Nat.add_mul,Nat.one_mul];omega
theorem l0j{c:List Int}:(j7 [32] (z0w c)).length≤c.length*3:=by
 have h:=t0s (s:=[32]) (ps:=z0w c) (m:=2) (fun p hp=>by obtain ⟨n,_,rfl⟩:=List.mem_map.mp hp;exact z0j);have h2:(z0w c).length=c.length:=List.length_map ..;rw[h2]at h;exact h
theorem l0i{n f:Int}:(n0i n f).length≤20:=by
 have h1:=z0j (n:=n.toNat);have h2:=z0j (n:=f.toNat);unfold n0i rT fT;simp only[List.length_append,List.length_cons,List.length_nil];omega
theorem g0h{e:Int×List Int}(h:e.2.length≤4):(entT e).length≤20:=by
 have h1:=z0j (n:=e.1.toNat);have h2:=l0j (c:=e.2);unfold entT;simp only[List.length_append,List.length_cons,List.length_nil];omega
theorem l0h{P:List (List Int)}{f:Int}(hp:PlanOk P):(u7 P f).length≤25∧∀p∈u7 P f,p.length≤20:=by
 have h1:=u0y (P:=P) (f:=f);have h2:=hp.l;refine ⟨by unfold u7;rw[List.length_cons,List.length_map];omega,fun p h=>?_⟩;unfold u7 at h;rcases List.mem_cons.mp h with rfl |h
 ·exact l0i
 ·obtain ⟨e,he,rfl⟩:=List.mem_map.mp h;have:=(hp.c _ (n0h he).1).2.2;exact g0h (by omega)
theorem c0p{b:Bool}{c:List Int}:rowD (rowT b c)=some (c.map D.int):=by unfold rowT;split<;>rfl
theorem z1n{n f:Int}(h1:0≤n)(h2:n<100)(h3:0≤f)(h4:f<100):Str.empty++Str.ofString "rounds "++Str.ofString (toString n)++Str.ofString " from "++Str.ofString (toString f)=tx (n0i n f):=by
 rw[g0o,z1q,x0b h1 h2,x0b h3 h4,show Str.empty=tx []from rfl,u6,u6,u6,u6];rfl
theorem p0c{a b:Str}{m:Nat}(h:(a++b).length≤m):a.length≤m:=by
 have:(a++b).length=a.length+b.length:=by show (a.cps++b.cps).size=_;rw[Array.size_append];rfl
 omega
noncomputable abbrev f9:List Str:=["plan","first"]
theorem sc_show_plan:FnScope ["plan","first","lines","round_number","choice"] f9 (defScope y0a):=⟨rfl,rfl,rfl,by decide +kernel,rfl,by decide +kernel,by decide +kernel⟩
noncomputable abbrev e9(P:Program)(w:World)(K:PySem.W.Frag)(mg:Str→Option Value)(base:Heap)(cs:Cs):Prop:=Fun2 P w K mg base "show_plan" 8 f9 (l0l cs)
theorem p0b{f:Addr}{fd:FuncData}(Df:DefAt K mg "show_plan" y0a f9 f fd)(T:Txt K mg cs)(G_check_plan:z0k P w K mg base cs)(G_check_first:m9 P w K mg base cs)(G_numbers_shown:t8 P w K mg base cs):e9 P w K mg base cs:=by
 have nd:=sc_show_plan.nd;refine def2 Df sc_show_plan (fun ds δ q x h=>?_) (fun cdv A outer s H E Y hr=>⟨_,(l0 (y0f (j0 G_check_plan (hr.mono (by decide)) o0 (z0 (e2_v 0) (z0 (o0j T.g_MOST_PARTS) y0))))
  (l0 (y0f (j0 G_check_first (hr.mono (by decide)) o0 (z0 (e2_v 1) y0)))
  (l0 (i0h 2 nd (z0 (p0n (y0d m3 (y0d (l0t (i4 0 T.n_len)) (y0d m3 (y0d (l0t (e2_v 1)) c0r))))) y0))
  (l0 (y0h PassesOwn.leaving rfl (l0x T.n_enumerate (z0 (e2_v 0) y0) (e2_v 1)) (x0n rfl (n4 (x3 (i:=3) nd rfl (by first |exact Or.inl rfl |exact Or.inr rfl)) (n4 (x3 (i:=4) nd rfl (by first |exact Or.inl rfl |exact Or.inr rfl)) u9))) (s0r (is:=[3,4]) rfl) (i0 (l5 (v4 j0o d_gt (i4 4 T.n_len) s0 (n3 _)) (i0 (y0f (a0z 2 PySem.F.slot_list_append PySem.F.type_list_append u0r s0d (z0 (p0n (y0d (l0t (e2_v 3)) (y0d m3 (y0d (l0t (j0 G_numbers_shown (hr.mono (by decide)) o0 (z0 (e2_v 4) y0))) c0r)))) y0)))) o4)))
  (i0 (y3 (o0b PySem.F.slot_str_join PySem.F.type_str_join r0v l0u m3 (z0 (w6 rfl (CompOkM.of ["line"] [] rfl) (a8 (e2_v 2)) (fun nd _ _ _ _ _=>(x3 (i:=0) nd rfl (by first |exact Or.inl rfl |exact Or.inr rfl))) x6 (fun _ _ _ _ _ _=>z8) (fun _ _ _ _ _ _=>(b3 x5 y0g (e2_v 0) m3))) y0)))))))),fun ds δ q x h=>?_⟩)
 ·unfold l0l at h;obtain ⟨d,f',rfl,hd,hf,h1,h2,hq,h3⟩:=h;rfl
 ·unfold l0l at h;obtain ⟨d,f',rfl,hd,hf,h1,h2,hq,h3⟩:=h;rw[show a3 ["plan","first","lines","round_number","choice"] _=[.val _,.val _,.no,.no,.no]from rfl];walk_at "ds";unfold k9;dsimp only;refine ⟨hd,by decide,fun e1=>?_,fun k e=>h1 k e⟩;walk_at "ds";refine ⟨_,rfl,hf,fun e2=>?_,fun e2=>h2 e1 e2⟩;obtain ⟨b1,b2,P,f0,rfl,hp,rfl,f1,f2⟩:=h3 ⟨e1,e2⟩;have hq:=hq b1 b2 P f0 rfl hp rfl f1 f2;have hpl:=hp.l;have main:∀(cd:Cell) (E:End2),E.rt=q→forL (g2T [3,4]) (k0p (t2B (t2Op gtF (s0s 4) (t2C (D.int 0)))) (q0h (t2MV 2 w0t (b8 (t2J (t2Jc (k0g (t2V 3)) (t2Jc (t2C (D.str (Str.ofString ": "))) (t2Jc (k0g (v0q l0m (b8 (t2V 4) t0o))) t2Jn)))) t0o))) s0t)
   {E with nx:=k0q (t2SM k0h (t2C (D.str (Str.ofString ""))) (b8 (y0e (t2Is (t2V 2)) false [Str.ofString "line"].length [] a9 (t2Op addT (t2V 0) (t2C (D.str (Str.ofString "\n"))))) t0o)) E} (y0j f0.toNat (P.map (rowT b2))) [cd,.val (.int f0),.own [txD (n0i (P.length:Int) f0)],.no,.no] δ:=fun cd E hE=>by
   refine z0q (fun i ρ δ'=>∃c3 c4,ρ=[cd,.val (.int f0),.own ((n0i (P.length:Int) f0::(r8 (P.take i) f0).map entT).map txD),c3,c4]∧δ'=δ) ⟨_,_,rfl,rfl⟩ ?_ ?_
   ·rintro i d ρ δ' rest hi ⟨c3,c4,rfl,rfl⟩ hrest;obtain ⟨y,hy,rfl⟩:=y9 hi;rw[List.getElem?_map,Option.map_eq_some_iff]at hy;obtain ⟨c,hc,rfl⟩:=hy;have hlt:=(List.getElem?_eq_some_iff.mp hc).1;have hco:=hp.c c (List.mem_of_getElem? hc);have hcl:=hco.2.2;have hel:=u0y (P:=P.take i) (f:=f0);rw[List.length_take,Nat.min_eq_left (by omega)]at hel;have hr:=c0p (b:=b2) (c:=c);have hsn:=p0d (f:=f0) hc;rw[show ((f0.toNat+i:Nat):Int)=f0+(i:Int)by omega];unfold x0h;cases b2
    all_goals
     simp only[rowT,if_true,Bool.false_eq_true,if_false];walk_at "ds";rw[List.length_map];by_cases z:c=[]
     ·rw[if_pos z,List.append_nil]at hsn;rw[if_neg (by rw[z];exact Int.lt_irrefl 0)];exact hrest _ _ ⟨_,_,by rw[hsn];rfl,rfl⟩
     ·rw[if_neg z]at hsn;have hc0:0<c.length:=List.length_pos_iff.mpr z;have h1:=x0b (i:=f0+(i:Int)) (by omega) (by omega);have hT:Str.empty++Str.ofString (toString (f0+(i:Int)))++Str.ofString ": "++tx (j7 [32] (z0w c))=tx (entT (f0+(i:Int),c)):=by
       rw[h1,d0u,show Str.empty=tx []from rfl,u6,u6,u6];rfl
      have hL:=g0h (e:=(f0+(i:Int),c)) (by show c.length≤4;omega);rw[←u3,← hT]at hL;have k3:=Nat.le_trans hL (by decide:20≤100000);have k2:=p0c k3;have k1:=p0c k2;rw[if_pos (by omega)];refine ⟨rfl,r6 (by omega) (by omega),k1,k2,_,c,rfl,rfl,by omega,fun n hn=>⟨(hco.1 n hn).1,by have:=(hco.1 n hn).2;omega⟩,?_⟩;unfold txD;walk_at "ds";rw[hT];rw[←hT];refine ⟨by rw[u3];have:=l0j (c:=c);omega,k3,k3,by rw[List.length_map,List.length_map];omega,?_⟩;rw[hT];refine hrest _ _ ⟨_,_,(by rw[hsn,List.map_append,List.map_cons,List.map_append];rfl),rfl⟩
   ·rintro ρ δ' ⟨c3,c4,rfl,rfl⟩;rw[z9,List.length_map,List.take_length];obtain ⟨nx,rt,xc,bk,ct⟩:=E;cases hE;dsimp only;walk_at "ds";have hsl:=l0h (f:=f0) hp;show j8 _ _ _ _ ((u7 P f0).map txD) [] _;refine f7 txD (fun l=>txD (l++[10])) (u7 P f0) (by omega) (fun l hl Q hQ=>?_) ?_
    ·have:=hsl.2 l hl;simp only[capt,t9,List.map_cons,List.map_nil];unfold txD;walk_at "ds";rw[p0h,u6,u3,u3];exact ⟨by show l.length+1≤_;omega,hQ⟩
    ·have e:(u7 P f0).map (fun l=>txD (l++[10]))=((u7 P f0).map fun l=>l++[10]).map txD:=by rw[List.map_map];rfl
     rw[e,d0t];dsimp only;have hm:=r0m (ps:=(u7 P f0).map fun l=>l++[10]) (m:=21) (fun p hp=>by obtain ⟨l,hl,rfl⟩:=List.mem_map.mp hp;have:=hsl.2 l hl;rw[List.length_append,List.length_singleton];omega);rw[List.length_map]at hm;rw[r0n,r0o,t0t,u3,List.length_map,List.length_map];exact ⟨by decide,by omega,hq⟩
  have hhd:=z1n (n:=(P.length:Int)) (f:=f0) (by omega) (by omega) f1 (by omega);have hhl:=l0i (n:=(P.length:Int)) (f:=f0);rw[←u3,← hhd]at hhl;cases b1
  all_goals
   simp only[w0b,if_true,Bool.false_eq_true,if_false];walk_at "ds";rw[List.length_map];have k4:=Nat.le_trans hhl (by decide:20≤100000);have k3:=p0c k4;have k2:=p0c k3;have k1:=p0c k2;refine ⟨k1,r6 (by omega) (by omega),k2,k3,r6 (by omega) (by omega),k4,k4,f1,by omega,?_⟩;rw[hhd];exact main _ ⟨_,q,_,_,_⟩ rfl
theorem l0g:∀{c:List Int} {m:Int},risI c=true→(∀k∈c,k<m)→risI (c++[m])=true
 | [],m,_,_=>rfl
 | [a],m,_,h=>by
  show (decide (a<m)&&risI [m])=true;rw[decide_eq_true (h a (by simp))];rfl
 |a::b::r,m,hr,h=>by
  have hr':(decide (a<b)&&risI (b::r))=true:=hr;rw[Bool.and_eq_true]at hr';show (decide (a<b)&&risI ((b::r)++[m]))=true;rw[hr'.1,l0g hr'.2 fun k hk=>h k (List.mem_cons_of_mem _ hk)];rfl
theorem atL{xs:List D}{k:Int}(h0:0≤k)(h1:k<(xs.length:Int)):∃z,atI xs k=some z∧z∈xs:=by
 have hz:k=((k.toNat:Nat):Int):=by omega
 rw[hz];exact ⟨_,o0q (List.getElem?_eq_getElem (show k.toNat<xs.length by omega)),List.getElem_mem _⟩
theorem n0g{tc:TT2}{js:List Nat}{ρ:En}{q:List D→Dk→Prop}{m:Nat}{δ:Dk}(I:Nat→Dk→Prop)(hm:m≤900)(h0:I 0 δ)
 (step:∀(i:Nat) (δ':Dk),i<m→I i δ'→∀Q:Bool→En→Dk→Prop,(∀b ρ1 δ1,ρ1[0]?=some (.val (.int (i:Int)))→I (i+1) δ1→Q b ρ1 δ1)→tc (fun _ _ _ _=>False) (.val (.int (i:Int))::capt ρ js) δ' Q)
 (fin:∀c δ',ChOk (m:Int) c→I m δ'→q (c.map D.int) δ'):compM false 1 tc (t2V 0) js ρ q (rngD 0 m) [] δ:=by
 refine m0c (fun i acc δ'=>∃c:List Int,acc=c.map D.int∧risI c=true∧(∀k∈c,0≤k∧k<(i:Int))∧c.length≤i∧I i δ') ⟨[],rfl,rfl,fun x hx=>(by cases hx),Nat.le_refl _,h0⟩ ?_ ?_
 ·rintro i d acc δ' rest hi ⟨c,rfl,c1,c2,c3,hI⟩ hrest;obtain ⟨hi2,rfl⟩:=z0e hi;rw[Int.zero_add];show tc _ (.val (.int (i:Int))::capt ρ js) δ' _;refine step i δ' hi2 hI _ fun b ρ1 δ1 hρ hI1=>?_
  cases b with
  |false=>exact hrest _ _ ⟨c,rfl,c1,fun k hk=>⟨(c2 k hk).1,by have:=(c2 k hk).2;omega⟩,by omega,hI1⟩
  |true=>
   rw[if_pos rfl];simp only[t2V,rdV,hρ];refine ⟨by rw[List.length_map];omega,hrest _ _ ⟨c++[(i:Int)],by rw[List.map_append];rfl,l0g c1 fun k hk=>(c2 k hk).2,fun k hk=>?_,by rw[List.length_append];show c.length+1≤_;omega,hI1⟩⟩;rcases List.mem_append.mp hk with hk |hk
   ·exact ⟨(c2 k hk).1,by have:=(c2 k hk).2;omega⟩
   ·rw[List.mem_singleton.mp hk];omega
 ·rintro acc δ' ⟨c,rfl,c1,c2,c3,hI⟩;rw[z0d]at c2 c3 hI;exact fin c δ' ⟨c2,c1,by omega⟩ hI
theorem DkAt.mono{p:Addr}{ns:List Int}{n m:Nat}{δ:Dk}(h:DkAt p ns n δ)(l:n≤m):DkAt p ns m δ:=by
 obtain ⟨c,k,e,h1,h2,h3⟩:=h;exact ⟨c,k,e,h1,h2,by omega⟩
theorem l0f:∀{c:List Int},zipD (c.map D.int) (c.map D.int)=c.map fun k=>D.tup [.int k,.int k]
 | []=>rfl
 |a::c=>by rw[List.map_cons,List.map_cons,← l0f];rfl
theorem l0e:∀{c:List Int},blsD (c.map fun _=>D.bl true)=some (c.map fun _=>true)
 | []=>rfl
 |a::c=>by rw[List.map_cons];unfold blsD;rw[l0e];rfl
noncomputable def spLP:Sp2:=fun ds δ q _=>∃p ns n,ds=[.ref p]∧DkAt p ns n δ∧n<2^20∧∀P δ',PlanOk P→DkAt p ns (n+200) δ'→q (.lst (P.map (rowT true))) δ'
noncomputable def rowL(ws:List (List Nat)):D:=.lst (ws.map txD)
noncomputable def n0f:Sp2:=fun ds δ q _=>∃P f,ds=[.lst (P.map (rowT true)),.int f]∧PlanOk P∧0≤f∧f≤47∧q (.lst ((x0s P f).map rowL)) δ
noncomputable def r0h:Sp2:=fun ds δ q _=>∃(P:List (List Int)) (f:Int),ds=[.tup [.tup (P.map tI),.int f],.lst (P.map (rowT true)),.int f]∧PlanOk P∧q (.bl true) δ
noncomputable abbrev y0p:List Str:=["_law_deck_here"]
theorem sc_law_plan:FnScope ["_law_deck_here","_law_found","_law_turn"] y0p (defScope w0k):=⟨rfl,rfl,rfl,by decide +kernel,rfl,by decide +kernel,by decide +kernel⟩
noncomputable abbrev w0a(P:Program)(w:World)(K:PySem.W.Frag)(mg:Str→Option Value)(base:Heap)(cs:Cs):Prop:=Fun2 P w K mg base "_law_plan" 5 y0p spLP
theorem n0e{f:Addr}{fd:FuncData}(Df:DefAt K mg "_law_plan" w0k y0p f fd)(T:Txt K mg cs)(G_law_take:e7 P w K mg base cs):w0a P w K mg base cs:=by
 have nd:=sc_law_plan.nd;refine def2 Df sc_law_plan (fun ds δ q x h=>?_) (fun cdv A outer s H E Y hr=>⟨_,(l0 (i0h 1 nd y0)
  (l0 (y0h PassesOwn.leaving rfl (q0e T.n_range (z0 (i0p s0y d_ix (w5 (z0 s0 (z0 (j0 G_law_take (hr.mono (by decide)) o0 (z0 (e2_v 0) (z0 s0 y0))) (z0 (j0 G_law_take (hr.mono (by decide)) o0 (z0 (e2_v 0) (z0 s0 y0))) y0)))) (j0 G_law_take (hr.mono (by decide)) o0 (z0 (e2_v 0) (z0 s0 y0)))) y0)) (x3 (i:=2) nd rfl (by first |exact Or.inl rfl |exact Or.inr rfl)) (u0j (i:=2)) (i0 (y0f (a0z 1 PySem.F.slot_list_append PySem.F.type_list_append u0r s0d (z0 (w6 rfl (CompOkM.of ["_law_number_here"] [0] rfl) (q0e T.n_range (z0 s0 y0)) (fun nd _ _ _ _ _=>(x3 (i:=0) nd rfl (by first |exact Or.inl rfl |exact Or.inr rfl))) x6 (fun _ _ _ _ _ _=>(o0f (v4 r0b d_eq (j0 G_law_take (hr.mono (by decide)) q0f (z0 (e2_v 1) (z0 s0 y0))) s0 (n3 _)))) (fun _ _ _ _ _ _=>(e2_v 0))) y0)))))
  (i0 (y3 (e2_v 1))))),fun ds δ q x h=>?_⟩)
 ·unfold spLP at h;obtain ⟨p,ns,n,rfl,hD,hn,hq⟩:=h;rfl
 ·unfold spLP at h;obtain ⟨p,ns,n,rfl,hD,hn,hq⟩:=h;rw[show a3 ["_law_deck_here","_law_found","_law_turn"] _=[.val _,.no,.no]from rfl];walk_at "dn";refine ⟨p,ns,_,25,rfl,hD,by omega,by decide,by decide,fun a0 δ1 a1 a2 hD=>?_⟩;refine ⟨p,ns,_,5,rfl,hD,by omega,by decide,by decide,fun b0 δ2 b1 b2 hD=>?_⟩;refine ⟨p,ns,_,3,rfl,hD,by omega,by decide,by decide,fun c0 δ3 c1 c2 hD=>?_⟩;obtain ⟨z,ez,hz⟩:=atL (xs:=[.int 24,.int a0,.int b0]) c1 (by simpa using c2);have hz2:∃r:Int,z=.int r∧0≤r∧r≤24:=by
   simp only[List.mem_cons,List.not_mem_nil,or_false]at hz;rcases hz with rfl |rfl |rfl
   ·exact ⟨24,rfl,by decide,by decide⟩
   ·exact ⟨a0,rfl,a1,by omega⟩
   ·exact ⟨b0,rfl,b1,by omega⟩
  obtain ⟨r,rfl,r1,r2⟩:=hz2;dsimp only;rw[ez];walk_at "dn";refine ⟨⟨by omega,by omega⟩,?_⟩;refine z0q (fun i ρ δ1=>∃(P:List (List Int)) (c2:Cell),ρ=[.val (.ref p),.own (P.map (rowT true)),c2]∧P.length=i∧(∀c∈P,ChOk 4 c)∧DkAt p ns (n+3+4*i) δ1) ⟨[],_,rfl,rfl,fun c hc=>(by cases hc),hD⟩ ?_ ?_
  ·rintro i z ρ δ1 rest hi ⟨P,c2,rfl,rfl,hcs,hD⟩ hrest;obtain ⟨hi2,rfl⟩:=z0e hi;rw[Int.zero_add];unfold x0h;walk_at "dn";refine ⟨rfl,⟨by decide,by decide⟩,?_⟩;refine n0g (m:=4) (fun i δ'=>DkAt p ns (n+3+4*P.length+i) δ') (by omega) hD (fun i δ' hi hD Q hQ=>?_) (fun c δ' hc hD=>?_)
   ·simp only[capt,t9,List.map_cons,List.map_nil,List.getElem?_cons_zero,List.getElem?_cons_succ];walk_at "dn";refine ⟨p,ns,_,3,rfl,hD,by omega,by decide,by decide,fun b0 δ2 b1 b2 hD=>?_⟩;exact hQ _ _ _ rfl hD
   ·refine ⟨by rw[List.length_map];omega,hrest _ _ ⟨P++[c],_,by rw[List.map_append];rfl,by rw[List.length_append];rfl,fun c' hc'=>?_,hD.mono (by omega)⟩⟩;rcases List.mem_append.mp hc' with hc' |hc'
    ·exact hcs c' hc'
    ·rw[List.mem_singleton.mp hc'];exact hc
  ·rintro ρ δ1 ⟨P,c2,rfl,hl,hcs,hD⟩;rw[z0d]at hl hD;walk_at "dn";exact hq P _ ⟨by omega,hcs⟩ (hD.mono (by omega))
noncomputable abbrev y0o:List Str:=["_law_plan_here","_law_first"]
theorem sc_law_rows:FnScope ["_law_plan_here","_law_first","_law_found","_law_at","_law_choice"] y0o (defScope w0j):=⟨rfl,rfl,rfl,by decide +kernel,rfl,by decide +kernel,by decide +kernel⟩
noncomputable abbrev v0z(P:Program)(w:World)(K:PySem.W.Frag)(mg:Str→Option Value)(base:Heap)(cs:Cs):Prop:=Fun2 P w K mg base "_law_rows" 2 y0o n0f
theorem n0d{f:Addr}{fd:FuncData}(Df:DefAt K mg "_law_rows" w0j y0o f fd)(T:Txt K mg cs):v0z P w K mg base cs:=by
 have nd:=sc_law_rows.nd;refine def2 Df sc_law_rows (fun ds δ q x h=>?_) (fun cdv A outer s H E Y hr=>⟨_,(l0 (i0h 2 nd (z0 (w5 (z0 m3 (z0 (x0i a5 k0j T.n_str v0o (z0 (i4 0 T.n_len) y0)) (z0 m3 (z0 (x0i a5 k0j T.n_str v0o (z0 (e2_v 1) y0)) y0))))) y0))
  (l0 (y0h PassesOwn.leaving rfl (h0t T.n_enumerate (z0 (e2_v 0) y0)) (x0n rfl (n4 (x3 (i:=3) nd rfl (by first |exact Or.inl rfl |exact Or.inr rfl)) (n4 (x3 (i:=4) nd rfl (by first |exact Or.inl rfl |exact Or.inr rfl)) u9))) (s0r (is:=[3,4]) rfl) (i0 (l5 (v4 (op_neL hr.units0) d_neL (e2_v 4) (w5 y0) (n3 _)) (i0 (y0f (a0z 2 PySem.F.slot_list_append PySem.F.type_list_append u0r s0d (z0 (b3 b5 y8 (w5 (z0 (b3 x5 y0g (x0i a5 k0j T.n_str v0o (z0 (b3 b5 y8 (e2_v 1) (e2_v 3)) y0)) m3) y0)) (w6 rfl (CompOkM.of ["_law_number_here"] [] rfl) (a8 (e2_v 4)) (fun nd _ _ _ _ _=>(x3 (i:=0) nd rfl (by first |exact Or.inl rfl |exact Or.inr rfl))) x6 (fun _ _ _ _ _ _=>z8) (fun _ _ _ _ _ _=>(x0i a5 k0j T.n_str v0o (z0 (e2_v 0) y0))))) y0)))) o4)))
  (i0 (y3 (e2_v 2))))),fun ds δ q x h=>?_⟩)
 ·unfold n0f at h;obtain ⟨P,f',rfl,hp,f1,f2,hq⟩:=h;rfl
 ·unfold n0f at h;obtain ⟨P,f',rfl,hp,f1,f2,hq⟩:=h;rw[show a3 ["_law_plan_here","_law_first","_law_found","_law_at","_law_choice"] _=[.val _,.val _,.no,.no,.no]from rfl];have hpl:=hp.l;walk_at "dn";rw[List.length_map];refine ⟨r6 (by omega) (by omega),r6 f1 (by omega),?_⟩;rw[x0b (i:=(P.length:Int)) (by omega) (by omega),x0b f1 (by omega),l0n,c0q];refine forL_E (rowT true) P (fun i ρ δ'=>∃c3 c4,ρ=[.val (.lst (P.map (rowT true))),.val (.int f'),.own ((r0l (P.length:Int) f'::(r8 (P.take i) f').map fun e=>entW e.1 e.2).map rowL),c3,c4]∧δ'=δ) ⟨_,_,rfl,rfl⟩ ?_ ?_
  ·rintro i c ρ δ' rest hc ⟨c3,c4,rfl,rfl⟩ hrest;have hlt:=(List.getElem?_eq_some_iff.mp hc).1;have hco:=hp.c c (List.mem_of_getElem? hc);have hcl:=hco.2.2;have hel:=u0y (P:=P.take i) (f:=f');rw[List.length_take,Nat.min_eq_left (by omega)]at hel;have hsn:=p0d (f:=f') hc;have hrt:rowT true c=.lst (c.map D.int):=rfl;rw[hrt];unfold x0h;walk_at "dn";refine ⟨by rw[Bool.and_eq_true];exact ⟨List.all_eq_true.mpr (fun d hd=>by obtain ⟨z,_,rfl⟩:=List.mem_map.mp hd;rfl),rfl⟩,?_⟩;by_cases z:c=[]
   ·rw[if_pos z,List.append_nil]at hsn;subst z;exact hrest _ _ ⟨_,_,by rw[hsn];rfl,rfl⟩
   ·rw[if_neg z]at hsn;obtain ⟨c1,cr,ec⟩:∃c1 cr,c=c1::cr:=by cases c with |nil=>exact absurd rfl z |cons a b=>exact ⟨a,b,rfl⟩
    have ez:(!eqDs (List.map D.int c) [])=true:=by rw[ec];rfl
    rw[if_pos ez];have h1:=x0b (i:=f'+(i:Int)) (by omega) (by omega);have hdl:=z0j (n:=(f'+(i:Int)).toNat);refine ⟨rfl,r6 (by omega) (by omega),?_,?_⟩
    ·rw[h1,n0s,u3,u3];show _+1≤_;omega
    ·rw[h1,n0s,u6];refine f7 D.int (fun n=>txD (dig n.toNat)) c (by omega) (fun n hn Q hQ=>?_) ?_
     ·obtain ⟨n1,n2⟩:=hco.1 n hn;simp only[capt,t9,List.map_cons,List.map_nil];walk_at "dn";refine ⟨r6 n1 (by omega),?_⟩;have e:(Str.ofString (toString n))=tx (dig n.toNat):=x0b n1 (by omega);rw[e];exact hQ
     ·rw[List.length_map,List.length_map,List.length_map];refine ⟨by omega,by omega,hrest _ _ ⟨_,_,(by rw[hsn,List.map_append,List.map_cons,List.map_append,List.map_cons,List.map_cons,show rowL (entW (f'+(i:Int)) c)=.lst (.str (tx (dig (f'+(i:Int)).toNat++[58]))::c.map fun n=>txD (dig n.toNat))by unfold rowL entW z0w;rw[List.map_cons,List.map_map];rfl];rfl),rfl⟩⟩
  ·rintro ρ δ' ⟨c3,c4,rfl,rfl⟩;rw[List.take_length];exact hq
noncomputable abbrev d9:List Str:=["_law_found","_law_plan_here","_law_first"]
theorem sc_law_right:FnScope ["_law_found","_law_plan_here","_law_first","_law_choice","_law_due"] d9 (defScope x0w):=⟨rfl,rfl,rfl,by decide +kernel,rfl,by decide +kernel,by decide +kernel⟩
noncomputable abbrev x0q(P:Program)(w:World)(K:PySem.W.Frag)(mg:Str→Option Value)(base:Heap)(cs:Cs):Prop:=Fun2 P w K mg base "_law_right" 3 d9 r0h
theorem p0a{f:Addr}{fd:FuncData}(Df:DefAt K mg "_law_right" x0w d9 f fd)(T:Txt K mg cs)(G_law_number:z0m P w K mg base cs):x0q P w K mg base cs:=by
 have nd:=sc_law_right.nd;refine def2 Df sc_law_right (fun ds δ q x h=>?_) (fun cdv A outer s H E Y hr=>⟨_,(l0 (l5 (PW2.pt (z0x (y6 (m6 (e2_b m5 (y0i (K:=K)) T.n_isinstance y4 (z0 (e2_v 0) (z0 (u0p "tuple" T.n_tuple b6) y0))))) (z0x (v4 r0a d_ne (i4 0 T.n_len) s0 (n3 _)) (a7 (y6 (m6 (j0 G_law_number (hr.mono (by decide)) o0 (z0 (j4 0 s0) (z0 (e2_v 2) y0))))))))) (i0 (y3 x0j)) o4)
  (l0 (l5 (PW2.pt (z0x (y6 (m6 (e2_b m5 (y0i (K:=K)) T.n_isinstance y4 (z0 (j4 0 s0) (z0 (u0p "tuple" T.n_tuple b6) y0))))) (a7 (v4 r0a d_ne (e2_b v0s d_len T.n_len d0f (z0 (j4 0 s0) y0)) (i4 1 T.n_len) (n3 _))))) (i0 (y3 x0j)) o4)
  (l0 (y0h PassesOwn.leaving rfl (c0w T.n_zip (z0 (j4 0 s0) (z0 (e2_v 1) y0))) (x0n rfl (n4 (x3 (i:=3) nd rfl (by first |exact Or.inl rfl |exact Or.inr rfl)) (n4 (x3 (i:=4) nd rfl (by first |exact Or.inl rfl |exact Or.inr rfl)) u9))) (s0r (is:=[3,4]) rfl) (l0 (l5 (PW2.pt (z0x (y6 (m6 (e2_b m5 (y0i (K:=K)) T.n_isinstance y4 (z0 (e2_v 3) (z0 (u0p "tuple" T.n_tuple b6) y0))))) (a7 (v4 r0a d_ne (i4 3 T.n_len) (i4 4 T.n_len) (n3 _))))) (i0 (y3 x0j)) o4)
  (i0 (l5 (y6 (m6 (e2_b (s0g rfl) b0d T.n_all i0u (z0 (w6 rfl (CompOkM.of ["_law_one","_law_other"] [] rfl) (c0w T.n_zip (z0 (e2_v 3) (z0 (e2_v 4) y0))) (fun nd _ _ _ _ _=>(x0n rfl (n4 (x3 (i:=0) nd rfl (by first |exact Or.inl rfl |exact Or.inr rfl)) (n4 (x3 (i:=1) nd rfl (by first |exact Or.inl rfl |exact Or.inr rfl)) u9)))) (o0g (is:=[0,1]) rfl) (fun _ _ _ _ _ _=>z8) (fun _ _ _ _ _ _=>(j0 G_law_number (hr.mono (by decide)) q0f (z0 (e2_v 0) (z0 (e2_v 1) y0))))) y0)))) (i0 (y3 x0j)) o4))))
  (i0 (y3 x0j))))),fun ds δ q x h=>?_⟩)
 ·unfold r0h at h;obtain ⟨P,f',rfl,hp,hq⟩:=h;rfl
 ·unfold r0h at h;obtain ⟨P,f',rfl,hp,hq⟩:=h;rw[show a3 ["_law_found","_law_plan_here","_law_first","_law_choice","_law_due"] _=[.val _,.val _,.val _,.no,.no]from rfl];have hpl:=hp.l;have tys:∀ys:List D,t0n K (.tup ys) (.ty "tuple")=some true∧TyD K (.tup ys):=fun ys=>⟨by rw[e0s K (d:=.tup ys) trivial (fun C fs=>⟨(by intro z;cases z),(by intro z;cases z)⟩)],trivial⟩
  walk_at "dn";simp only[(tys _).1,(tys _).2,true_and,List.length_map,decide_true,Bool.not_true,Bool.false_eq_true,if_false,x0e,v7,numD];refine z0q (fun i ρ δ'=>∃c3 c4,ρ=[.val (.tup [.tup (P.map tI),.int f']),.val (.lst (P.map (rowT true))),.val (.int f'),c3,c4]∧δ'=δ) ⟨_,_,rfl,rfl⟩ ?_ ?_
  ·rintro i d ρ δ' rest hi ⟨c3,c4,rfl,rfl⟩ hrest;obtain ⟨a,b,h1,h2,rfl⟩:=m0e hi;rw[List.getElem?_map,Option.map_eq_some_iff]at h1 h2;obtain ⟨c,hc,rfl⟩:=h1;rw[hc]at h2;obtain ⟨c',hc',rfl⟩:=h2;cases hc';have hcl:=(hp.c c (List.mem_of_getElem? hc)).2.2;unfold x0h;have e1:rowT true c=.lst (c.map D.int):=rfl;have e2:tI c=.tup (c.map D.int):=rfl;rw[e1,e2];walk_at "dn";simp only[(tys _).1,(tys _).2,true_and,List.length_map,decide_true,Bool.not_true,Bool.false_eq_true,if_false];rw[l0f];refine s0n (fun k=>D.tup [.int k,.int k]) (fun _=>.bl true) c (by omega) (fun n hn Q hQ=>⟨_,rfl,?_⟩) ?_
   ·simp only[capt,t9,List.map_cons,List.map_nil,List.cons_append,List.nil_append];walk_at "dn";simp only[x0e,v7,numD,true_and,decide_true];exact hQ
   ·rw[l0e];dsimp only;rw[if_neg (by simp)];exact hrest _ _ ⟨_,_,rfl,rfl⟩
  ·rintro ρ δ' ⟨c3,c4,rfl,rfl⟩;exact hq
theorem y0n:∀{ps:List (List Nat)},(∀p∈ps,10∉p)→o3 10 (feed ps)=ps++[[]]
 | [],_=>rfl
 |p::ps,h=>by
  have e:feed (p::ps)=p++10::feed ps:=by unfold feed;rw[List.map_cons,List.flatten_cons,List.append_assoc];rfl
  rw[e,d7,u5 (h p (List.mem_cons_self ..)),y0n fun q hq=>h q (List.mem_cons_of_mem _ hq)];rfl
theorem z0h{ps:List (List Nat)}{p:List Nat}:feed (ps++[p])=feed ps++p++[10]:=by
 unfold feed;rw[List.map_append,List.flatten_append,List.append_assoc];simp
theorem o0z{ps:List (List Nat)}{p:List Nat}(h:∀q∈ps++[p],10∉q):o3 10 (feed (ps++[p])).dropLast=ps++[p]:=by
 rw[z0h,List.dropLast_concat];have hp:=h p (List.mem_append_right _ (List.mem_singleton.mpr rfl));rcases List.eq_nil_or_concat ps with rfl |⟨qs,q,eq⟩
 ·show o3 10 ([]++p)=_;rw[List.nil_append,u5 hp];rfl
 ·rw[List.concat_eq_append]at eq;subst eq;rw[z0h,List.append_assoc,List.append_assoc,List.cons_append,List.nil_append,← List.append_assoc,d7,u5 hp];congr 1;have h2:∀y∈qs++[q],10∉y:=fun y hy=>h y (List.mem_append_left _ hy)
  have:=o0z h2;rw[z0h,List.dropLast_concat]at this;exact this
termination_by ps.length
theorem y0m{ps:List (List Nat)}(h:∀p∈ps,10∉p):cntL (feed ps)=(ps.map x4).filter (·≠[]):=by
 unfold cntL;rw[y0n h,List.map_append,List.filter_append];simp[b7]
theorem r0g{m:Nat}:∀{ps:List (List Nat)},(∀p∈ps,p.length≤m)→(feed ps).length≤ps.length*(m+1)
 | [],_=>Nat.zero_le _
 |p::ps,h=>by
  have e:feed (p::ps)=p++10::feed ps:=by unfold feed;rw[List.map_cons,List.flatten_cons,List.append_assoc];rfl
  have h1:=h p (List.mem_cons_self ..);have h2:=r0g fun q hq=>h q (List.mem_cons_of_mem _ hq)
  rw[e,List.length_append,List.length_cons,List.length_cons,Nat.add_mul,Nat.one_mul];omega
structure LinesOk(ps:List (List Nat)):Prop where
 n:ps.length≤60
 s:∀p∈ps,p.length≤60
 f:∀p∈ps,10∉p
theorem LinesOk.txt{ps:List (List Nat)}(h:LinesOk ps):TxtOk (feed ps):=by
 have h1:=r0g h.s;have h2:=h.n;refine ⟨by have:ps.length*(60+1)≤60*61:=Nat.mul_le_mul_right _ h2;omega,?_,?_⟩
 ·rw[y0n h.f,List.length_append,List.length_singleton];omega
 ·rw[y0n h.f];intro p hp;rcases List.mem_append.mp hp with hp |hp
  ·have:=h.s p hp;omega
  ·rw[List.mem_singleton.mp hp];exact Nat.zero_le _
theorem LinesOk.cut{ps:List (List Nat)}(h:LinesOk ps)(hn:ps≠[]):TxtOk (feed ps).dropLast∧cntL (feed ps).dropLast=cntL (feed ps):=by
 have h1:=h.txt.len;have h2:=h.n;obtain ⟨qs,q,rfl⟩:∃qs q,ps=qs++[q]:=⟨ps.dropLast,ps.getLast hn,(List.dropLast_concat_getLast hn).symm⟩;have e:=o0z h.f;refine ⟨⟨by rw[List.length_dropLast];omega,by rw[e];omega,by rw[e];intro p hp;have:=h.s p hp;omega⟩,?_⟩;rw[y0m h.f];unfold cntL;rw[e]
theorem v0y:∀(n:Nat) (a:List Nat),x4 (List.replicate n 32++a)=x4 a
 | 0,a=>rfl
 |n+1,a=>by
  have:=w0e [] (List.replicate n 32++a);rw[List.replicate_succ,List.cons_append];rw[List.nil_append,b7,List.nil_append]at this;rw[this,v0y n a]
structure RowOk(ws:List (List Nat)):Prop where
 l1:ws≠[]
 l2:ws.length≤5
 w:∀w∈ws,w≠[]∧w.length≤6∧32∉w∧10∉w
noncomputable def g0g:Sp2:=fun ds δ q _=>∃p ns n rows,ds=[.ref p,.lst (rows.map rowL)]∧DkAt p ns n δ∧n<2^20∧rows.length≤25∧(∀r∈rows,RowOk r)∧∀l δ',TxtOk l→cntL l=rows→DkAt p ns (n+400) δ'→q (txD l) δ'
theorem u0x{n c:Nat}(h:c≠32):c∉List.replicate n 32:=fun z=>h (List.eq_of_mem_replicate z)
noncomputable def laidT:TS2:=fun E ρ δ=>∃p ns n c1 ps row c4 c5,ρ=[.val (.ref p),c1,.val (txD (feed ps)),.val (rowL row),c4,c5]∧DkAt p ns n δ∧n<2^21∧LinesOk ps∧RowOk row∧∀p' c4 c5 δ',p'.length≤60→10∉p'→x4 p'=row→DkAt p ns (n+7) δ'→E.nx [.val (.ref p),c1,.val (txD (feed (ps++[p']))),.val (rowL row),c4,c5] δ'
theorem g0f{ps:List (List Nat)}(h:LinesOk ps):(feed ps).length≤3660:=by
 have h1:=r0g h.s;have:ps.length*(60+1)≤60*61:=Nat.mul_le_mul_right _ h.n;omega
noncomputable abbrev y0l:List Str:=["_law_deck_here","_law_rows_here"]
theorem sc_law_laid:FnScope ["_law_deck_here","_law_rows_here","_law_text","_law_row","_law_line","_law_word"] y0l (defScope w0i):=⟨rfl,rfl,rfl,by decide +kernel,rfl,by decide +kernel,by decide +kernel⟩
noncomputable abbrev v0x(P:Program)(w:World)(K:PySem.W.Frag)(mg:Str→Option Value)(base:Heap)(cs:Cs):Prop:=Fun2 P w K mg base "_law_laid" 5 y0l g0g
theorem n0c{f:Addr}{fd:FuncData}(Df:DefAt K mg "_law_laid" w0i y0l f fd)(T:Txt K mg cs)(G_law_take:e7 P w K mg base cs):v0x P w K mg base cs:=by
 have nd:=sc_law_laid.nd;refine def2 Df sc_law_laid (fun ds δ q x h=>?_) (fun cdv A outer s H E Y hr=>⟨_,(l0 (u4 2 nd m3)
  (l0 (y0h PassesOwn.leaving rfl (a8 (e2_v 1)) (x3 (i:=3) nd rfl (by first |exact Or.inl rfl |exact Or.inr rfl)) (u0j (i:=3)) (l0 (l5 (v4 r0b d_eq (j0 G_law_take (hr.mono (by decide)) o0 (z0 (e2_v 0) (z0 s0 y0))) s0 (n3 _)) (i0 (u4 2 nd (b3 x5 y0g (b3 x5 y0g (e2_v 2) (b3 z0c l0v m3 (j0 G_law_take (hr.mono (by decide)) o0 (z0 (e2_v 0) (z0 s0 y0))))) m3))) o4)
  (a0f (t':=laidT) (l0 (u4 4 nd (b3 z0c l0v m3 (j0 G_law_take (hr.mono (by decide)) o0 (z0 (e2_v 0) (z0 s0 y0)))))
  (l0 (y0h PassesOwn.leaving rfl (a8 (e2_v 3)) (x3 (i:=5) nd rfl (by first |exact Or.inl rfl |exact Or.inr rfl)) (u0j (i:=5)) (i0 (u4 4 nd (b3 x5 y0g (b3 x5 y0g (e2_v 4) (e2_v 5)) (b3 z0c l0v m3 (b3 b5 y8 s0 (j0 G_law_take (hr.mono (by decide)) o0 (z0 (e2_v 0) (z0 s0 y0)))))))))
  (i0 (u4 2 nd (b3 x5 y0g (b3 x5 y0g (b3 x5 y0g (e2_v 2) (o0b PySem.F.slot_str_rstrip PySem.F.type_str_rstrip h0f d0y (e2_v 4) (z0 m3 y0))) (b3 z0c l0v m3 (j0 G_law_take (hr.mono (by decide)) o0 (z0 (e2_v 0) (z0 s0 y0))))) m3))))) (by
   rintro E ρ δ ⟨p,ns,n,c1,ps,row,c4,c5,rfl,hD,hn,hk,hr,hq⟩;have hle:=g0f hk;unfold txD rowL at*
   walk_at "dn";refine ⟨p,ns,_,3,rfl,hD,by omega,by decide,by decide,fun a0 δ1 a1 a2 hD=>?_⟩;dsimp only;rw[t0x,l0p a1];refine ⟨a1,by omega,by decide,?_⟩;refine h0h txD row (fun i ρ δ'=>∃l c5,ρ=[.val (.ref p),c1,.val (.str (tx (feed ps))),.val (.lst (row.map txD)),.val (.str (tx l)),c5]∧DkAt p ns (n+1+i) δ'∧l.length≤2+8*i∧10∉l∧∀b,x4 (l++b)=row.take i++x4 b) ⟨_,_,rfl,hD,by rw[List.length_replicate];omega,u0x (by decide),fun b=>by rw[v0y];rfl⟩ ?_ ?_
   ·rintro i w ρ δ' rest hi ⟨l,c5,rfl,hD,hll,h10,hw⟩ hrest;have hlt:=(List.getElem?_eq_some_iff.mp hi).1;have hr2:=hr.l2;obtain ⟨w1,w2,w3,w4⟩:=hr.w w (List.mem_of_getElem? hi);unfold x0h txD;walk_at "dn";refine ⟨by rw[u3,u3];omega,p,ns,_,2,rfl,hD,by omega,by decide,by decide,fun b0 δ2 b1 b2 hD=>?_⟩;dsimp only;rw[l0p (by omega),u6,u3,u3];rw[u6];refine ⟨by omega,by omega,by decide,?_,?_⟩
    ·rw[u3,List.length_replicate,List.length_append];omega
    ·refine hrest _ _ ⟨_,_,rfl,hD,?_,?_,fun b=>?_⟩
     ·rw[List.length_append,List.length_append,List.length_replicate];omega
     ·intro z;rcases List.mem_append.mp z with z |z
      ·rcases List.mem_append.mp z with z |z
       ·exact h10 z
       ·exact w4 z
      ·exact u0x (by decide) z
     ·obtain ⟨k,ek⟩:∃k,(1+b0).toNat=k+1:=⟨b0.toNat,by omega⟩;rw[ek,List.append_assoc,List.append_assoc,hw,List.replicate_succ,List.cons_append,w0e,v0y,k0f w3 w1,List.take_succ,hi,Option.toList_some,List.append_assoc]
   ·rintro ρ δ' ⟨l,c5,rfl,hD,hll,h10,hw⟩;have hr2:=hr.l2;rw[List.take_length]at hw;obtain ⟨l',k,el,ek⟩:=g0p (l:=l);have hw:=hw [];rw[List.append_nil,b7,List.append_nil,ek,y0s]at hw;have hll':l'.length≤l.length:=by rw[ek,List.length_append];omega
    walk_at "dn";rw[el,u6];refine ⟨by rw[u3];omega,by rw[u3,u3];omega,p,ns,_,3,rfl,hD,by omega,by decide,by decide,fun b0 δ2 b1 b2 hD=>?_⟩;dsimp only;rw[l0p b1,u6,p0h,u6,u3,u3,u3,u3,List.length_append,List.length_append,List.length_append,List.length_replicate];refine ⟨b1,by omega,by decide,by omega,by show _+1≤_;omega,?_⟩;have:=hq (l'++List.replicate b0.toNat 32) (.val (.str (tx l))) c5 δ2 (by rw[List.length_append,List.length_replicate];omega) (fun z=>by
     rcases List.mem_append.mp z with z |z
     ·exact h10 (by rw[ek];exact List.mem_append_left _ z)
     ·exact u0x (by decide) z) (by rw[y0s,hw]) (hD.mono (by omega))
    rw[z0h,← List.append_assoc]at this;exact this))))
  (i0 (y3 (e2_v 2))))),fun ds δ q x h=>?_⟩)
 ·unfold g0g at h;obtain ⟨p,ns,n,rows,rfl,hD,hn,hl,hr,hq⟩:=h;rfl
 ·unfold g0g at h;obtain ⟨p,ns,n,rows,rfl,hD,hn,hl,hr,hq⟩:=h;rw[show a3 ["_law_deck_here","_law_rows_here","_law_text","_law_row","_law_line","_law_word"] _=[.val _,.val _,.no,.no,.no,.no]from rfl];walk_at "dn";refine h0h rowL rows (fun i ρ δ'=>∃ps c3 c4 c5,ρ=[.val (.ref p),.val (.lst (rows.map rowL)),.val (txD (feed ps)),c3,c4,c5]∧DkAt p ns (n+9*i) δ'∧ps.length≤2*i∧LinesOk ps∧cntL (feed ps)=rows.take i) ⟨[],_,_,_,rfl,hD,Nat.zero_le _,⟨Nat.zero_le _,fun _ h=>(by cases h),fun _ h=>(by cases h)⟩,rfl⟩ ?_ ?_
  ·rintro i row ρ δ' rest hi ⟨ps,c3,c4,c5,rfl,hD,hpl,hk,hc⟩ hrest;have hlt:=(List.getElem?_eq_some_iff.mp hi).1;have hro:=hr row (List.mem_of_getElem? hi);have hle:=g0f hk;have put:∀(E:End2),E.nx=rest→∀qs c4 c5 δ2 n2,n2≤n+9*i+2→DkAt p ns n2 δ2→qs.length≤2*i+1→LinesOk qs→cntL (feed qs)=rows.take i→laidT E [.val (.ref p),.val (.lst (rows.map rowL)),.val (txD (feed qs)),.val (rowL row),c4,c5] δ2:=by
    intro E hE qs c4 c5 δ2 n2 hn2 hD hql hk hc;subst hE;refine ⟨p,ns,n2,_,qs,row,_,_,rfl,hD,by omega,hk,hro,fun p' c4 c5 δ3 h1 h2 h3 hD=>?_⟩;have hk':LinesOk (qs++[p']):=⟨by rw[List.length_append,List.length_singleton];omega,fun y hy=>by rcases List.mem_append.mp hy with hy |hy;exact hk.s y hy;rw[List.mem_singleton.mp hy];exact h1,fun y hy=>by rcases List.mem_append.mp hy with hy |hy;exact hk.f y hy;rw[List.mem_singleton.mp hy];exact h2⟩;refine hrest _ _ ⟨qs++[p'],_,_,_,rfl,hD.mono (by omega),by rw[List.length_append,List.length_singleton];omega,hk',?_⟩;rw[y0m hk'.f,List.map_append,List.filter_append,← y0m hk.f,hc,List.take_succ,hi,List.map_cons,List.map_nil,h3];simp[hro.l1]
   unfold x0h txD;walk_at "dn";refine ⟨p,ns,_,3,rfl,hD,by omega,by decide,by decide,fun a0 δ1 a1 a2 hD=>?_⟩;dsimp only;split
   ·refine ⟨p,ns,_,3,rfl,hD,by omega,by decide,by decide,fun b0 δ2 b1 b2 hD=>?_⟩;dsimp only;rw[t0x,l0p b1,u6,p0h,u6,u3,u3,u3,u3,List.length_append,List.length_replicate,← z0h];refine ⟨b1,by omega,by decide,by omega,by show _+1≤_;omega,?_⟩;have hk':LinesOk (ps++[List.replicate b0.toNat 32]):=⟨by rw[List.length_append,List.length_singleton];omega,fun y hy=>by rcases List.mem_append.mp hy with hy |hy;exact hk.s y hy;rw[List.mem_singleton.mp hy,List.length_replicate];omega,fun y hy=>by rcases List.mem_append.mp hy with hy |hy;exact hk.f y hy;rw[List.mem_singleton.mp hy];exact u0x (by decide)⟩;refine put _ rfl _ _ _ _ _ (by omega) hD (by rw[List.length_append,List.length_singleton];omega) hk' ?_;have e0:x4 (List.replicate b0.toNat 32)=[]:=by have:=y0s b0.toNat [];rwa[List.nil_append,b7]at this
    rw[y0m hk'.f,List.map_append,List.filter_append,← y0m hk.f,hc,List.map_cons,List.map_nil,e0];simp
   ·exact put _ rfl ps _ _ _ _ (by omega) hD (by omega) hk hc
  ·rintro ρ δ' ⟨ps,c3,c4,c5,rfl,hD,hpl,hk,hc⟩;rw[List.take_length]at hc;exact hq _ _ hk.txt hc (hD.mono (by omega))
theorem r0f{K:PySem.W.Frag}{W C D:Addr}(c:ErrC K W C)(hw:D≠W):PySem.W.mroIn K C (.ref D)=some (decide (D=C)):=by
 rw[c.mroIn];by_cases h:D=C
 ·subst h;simp[List.contains_cons]
 ·have e:(Value.ref C:: .ref W::PySem.W.veMro).contains (.ref D)=false:=by simp[List.contains_cons,h,hw]
  rw[e,decide_eq_false h]
theorem mro_W{K:PySem.W.Frag}{W C:Addr}(c:ErrC K W C):PySem.W.mroIn K C (.ref W)=some true:=by
 rw[c.mroIn];simp[List.contains_cons]
theorem nd_ne{l:List Addr}(h:l.Nodup)(i j:Nat){a b:Addr}(hi:l[i]?=some a)(hj:l[j]?=some b)(hij:i≠j):a≠b:=by
 intro e;subst e;obtain ⟨h1,e1⟩:=List.getElem?_eq_some_iff.mp hi;obtain ⟨h2,e2⟩:=List.getElem?_eq_some_iff.mp hj;have hp:=List.pairwise_iff_getElem.mp h;rcases Nat.lt_or_gt_of_ne hij with z |z
 ·exact hp i j h1 h2 z (e1.trans e2.symm)
 ·exact hp j i h2 h1 z (e2.trans e1.symm)
theorem c6{cs:Cs}:cs.NoRounds∈cs.ds:=List.mem_of_getElem? (show cs.ds[0]?=some cs.NoRounds from rfl)
theorem v9{cs:Cs}:cs.NoPlan∈cs.ds:=List.mem_of_getElem? (show cs.ds[1]?=some cs.NoPlan from rfl)
theorem x0p(T:Txt K mg cs):PySem.W.mroIn K cs.NoRounds (.ref cs.NoPlan)=some false:=(r0f (T.err _ c6) (T.ne _ v9)).trans (congrArg some (decide_eq_false (nd_ne T.nd 1 0 rfl rfl (by decide))))
theorem z0g(T:Txt K mg cs):PySem.W.mroIn K cs.NoRounds (.ref cs.NoRounds)=some true:=(r0f (T.err _ c6) (T.ne _ c6)).trans (congrArg some (decide_eq_true rfl))
theorem t0h(T:Txt K mg cs):PySem.W.mroIn K cs.NoRounds (.ref cs.W)=some true:=mro_W (T.err _ c6)
theorem v0w(T:Txt K mg cs):PySem.W.mroIn K cs.NoPlan (.ref cs.NoPlan)=some true:=(r0f (T.err _ v9) (T.ne _ v9)).trans (congrArg some (decide_eq_true rfl))
theorem x0o(T:Txt K mg cs):PySem.W.mroIn K cs.NoPlan (.ref cs.NoRounds)=some false:=(r0f (T.err _ v9) (T.ne _ c6)).trans (congrArg some (decide_eq_false (nd_ne T.nd 0 1 rfl rfl (by decide))))
theorem o0y(T:Txt K mg cs):PySem.W.mroIn K cs.NoPlan (.ref cs.W)=some true:=mro_W (T.err _ v9)
theorem z1m:(("at":Str)=="at")=true:=by decide +kernel
noncomputable def v0n(d f:D):D:=match b4 d 4 24 with
 | .int k=>.tup [.str "plan",.int k]
 |_=>if i5 f 0 47=false then .tup [.str "rounds",.int 0]else .tup [.str "none",.int 0]
noncomputable def RefOk(d:D):Prop:=z0y d=true∧((∃k,b4 d 4 24=.int k)∨∃b1 b2 P,d=w0b b1 b2 P∧PlanOk P)
noncomputable def l0d:Sp2:=fun ds δ q _=>∃d f,ds=[d,f]∧RefOk d∧v7 f=true∧q (v0n d f) δ
noncomputable abbrev i7:List Str:=["_law_plan_here","_law_first"]
theorem sc_law_refused:FnScope ["_law_plan_here","_law_first","_law_found","e"] i7 (defScope q9):=⟨rfl,rfl,rfl,by decide +kernel,rfl,by decide +kernel,by decide +kernel⟩
noncomputable abbrev b9(P:Program)(w:World)(K:PySem.W.Frag)(mg:Str→Option Value)(base:Heap)(cs:Cs):Prop:=Fun2 P w K mg base "_law_refused" 9 i7 l0d
theorem t0g{f:Addr}{fd:FuncData}(Df:DefAt K mg "_law_refused" q9 i7 f fd)(T:Txt K mg cs)(G_show_plan:e9 P w K mg base cs):b9 P w K mg base cs:=by
 have nd:=sc_law_refused.nd;refine def2 Df sc_law_refused (fun ds δ q x h=>?_) (fun cdv A outer s H E Y hr=>⟨_,(l0 (u4 2 nd (n6 (z0 m3 (z0 s0 y0))))
  (l0 (s2_try ⟨rfl,rfl⟩ (fun _ _=>(i0 (y0f (j0 G_show_plan (hr.mono (by decide)) f0j (z0 (e2_v 0) (z0 (e2_v 1) y0)))))) (h2_asK K 3 ⟨rfl,rfl⟩ T.h_NoPlan T.c_NoPlan nd (fun _=>(i0 (u4 2 nd (n6 (z0 m3 (z0 (e0r K (e2_v 3)) y0)))))) (m0h K ⟨rfl,rfl⟩ T.h_NoRounds T.c_NoRounds (fun _=>(i0 (u4 2 nd (n6 (z0 m3 (z0 s0 y0)))))) (m0h K ⟨rfl,rfl⟩ T.h_WearError T.c_WearError (fun _=>(i0 (u4 2 nd (n6 (z0 m3 (z0 s0 y0)))))) h2_nil))))
  (i0 (y3 (e2_v 2))))),fun ds δ q x h=>?_⟩)
 ·unfold l0d at h;obtain ⟨d,f',rfl,hd,hf,hq⟩:=h;rfl
 ·unfold l0d at h;obtain ⟨d,f',rfl,hd,hf,hq⟩:=h;rw[show a3 ["_law_plan_here","_law_first","_law_found","e"] _=[.val _,.val _,.no,.no]from rfl];walk_at "dn";unfold v0n at hq;refine ⟨d,f',rfl,hd.1,hf,fun k e=>?_,fun e1 e2=>?_,fun b1 b2 P f0 ed hp ef f1 f2=>?_,fun h=>?_⟩
  ·rw[e]at hq;simp only[v0w T,x0o T,o0y T];walk_at "dn";simp only[z1m,T.a_NoPlan_at,(T.err _ c6).xc,(T.err _ v9).xc,true_and];exact hq
  ·rw[e1,e2]at hq;simp only[x0p T,z0g T,t0h T];walk_at "dn";exact hq
  ·rw[ed,(u0z hp).2,ef,r0r f1 f2]at hq;exact hq
  ·obtain ⟨e1,e2⟩:=h;obtain ⟨f0,rfl,f1,f2⟩:=s0m e2;rcases hd.2 with ⟨k,e⟩|⟨b1,b2,P,e,hp⟩
   ·rw[e]at e1;cases e1
   ·exact ⟨b1,b2,P,f0,e,hp,rfl,f1,f2⟩
theorem y0k{m:Int}{d:D}{xs:List D}(er:rowD d=some xs)(h:24<xs.length):b4 d m 24=.int (-1):=by
 unfold b4;rw[er];dsimp only;rw[if_pos (by omega)]
theorem n0b{d f:D}{k:Int}(h:b4 d 4 24=.int k):v0n d f=.tup [.str "plan",.int k]:=by unfold v0n;rw[h]
theorem z1l{d f:D}(h:b4 d 4 24=.non)(h2:i5 f 0 47=false):v0n d f=.tup [.str "rounds",.int 0]:=by unfold v0n;rw[h,if_pos h2]
theorem z1k{d f:D}(h:b4 d 4 24=.non)(h2:i5 f 0 47=true):v0n d f=.tup [.str "none",.int 0]:=by unfold v0n;rw[h,h2];rfl
theorem eq2(a:Str)(k:Int):eqDs [.str a,.int k] [.str a,.int k]=true:=by simp[eqDs,eqV,toV]
theorem l0c{xs:List D}{k:Nat}{e:D}(h1:xs.length≤24)(h2:∀e∈xs.take k,badE 4 e=false)(h3:xs[k]?=some e)(h4:badE 4 e=true){d:D}(hd:rowD d=some xs):b4 d 4 24=.int (k:Int):=by
 have hk:=(List.getElem?_eq_some_iff.mp h3).1;unfold b4;rw[hd];dsimp only;rw[if_neg (by omega),y0t xs 0 k h2 (by omega),List.drop_eq_getElem_cons hk,(List.getElem?_eq_some_iff.mp h3).2];unfold z0z;rw[h4,if_pos rfl,Nat.zero_add]
noncomputable def t0r:List D:=[D.non,D.int 3,D.str (Str.ofString "0"),D.lst [D.int 4],D.lst [D.int (-1)],D.lst [D.int 1,D.int 0],D.lst [D.int 2,D.int 2],D.lst [D.bl true],D.lst [D.non],D.lst [D.lst [D.int 0]],D.dic [(Sum.inl 0,D.int 0)]]
theorem k0d{d:D}(h:d∈t0r):x9 d=true∧badE 4 d=true:=by
 simp only[t0r,List.mem_cons,List.not_mem_nil,or_false]at h;rcases h with rfl |rfl |rfl |rfl |rfl |rfl |rfl |rfl |rfl |rfl |rfl<;>exact ⟨rfl,rfl⟩
theorem g0e{xs:List D}(h:∀e∈xs,x9 e=true):z0y (.lst xs)=true∧z0y (.tup xs)=true:=by
 unfold z0y rowD;dsimp only;rw[List.all_eq_true.mpr h];exact ⟨rfl,rfl⟩
noncomputable def n0a:Sp2:=fun ds δ q _=>∃p ns n P f,ds=[.ref p,.lst (P.map (rowT true)),.int f]∧DkAt p ns n δ∧n<2^21∧PlanOk P∧0≤f∧f≤47∧∀ δ',q (.bl true) δ'
noncomputable abbrev y7:List Str:=["_law_deck_here","_law_plan_here","_law_first"]
theorem sc_law_refusals:FnScope ["_law_deck_here","_law_plan_here","_law_first","_law_bad","_law_rows_here","_law_bent","_law_at","_law_things","_law_k"] y7 (defScope f8):=⟨rfl,rfl,rfl,by decide +kernel,rfl,by decide +kernel,by decide +kernel⟩
noncomputable abbrev d8(P:Program)(w:World)(K:PySem.W.Frag)(mg:Str→Option Value)(base:Heap)(cs:Cs):Prop:=Fun2 P w K mg base "_law_refusals" 10 y7 n0a
theorem t0q{f:Addr}{fd:FuncData}(Df:DefAt K mg "_law_refusals" f8 y7 f fd)(T:Txt K mg cs)(G_law_take:e7 P w K mg base cs)(G_law_refused:b9 P w K mg base cs):d8 P w K mg base cs:=by
 have nd:=sc_law_refusals.nd;refine def2 Df sc_law_refusals (fun ds δ q x h=>?_) (fun cdv A outer s H E Y hr=>⟨_,(l0 (u4 3 nd (i0p s0y d_ix (w5 (z0 (u0n s0) (z0 s0 (z0 o6 (z0 x0j (z0 m3 (z0 (w5 (z0 s0 y0)) y0))))))) (j0 G_law_take (hr.mono (by decide)) o0 (z0 (e2_v 0) (z0 s0 y0)))))
  (l0 (u4 4 nd (w5 (z0 o6 (z0 s0 (z0 m3 (z0 a0s (z0 (b3 m0v b0f (w5 (z0 (w5 y0) y0)) s0) (z0 (x0i p5 w0u T.n_tuple b6 (z0 (b3 m0v b0f (w5 (z0 (n6 y0) y0)) s0) y0)) (z0 (b3 b5 y8 (b3 m0v b0f (w5 (z0 (w5 y0) y0)) s0) (w5 (z0 o6 y0))) (z0 (b3 a0g d_repT (n6 (z0 o6 y0)) s0) y0))))))))))
  (l0 (l5 (PW2.pt (z0x (v4 (p0z hr.units0) h0r (j0 G_law_refused (hr.mono (by decide)) o0 (z0 (j4 4 (j0 G_law_take (hr.mono (by decide)) o0 (z0 (e2_v 0) (z0 s0 y0)))) (z0 (e2_v 3) y0))) (n6 (z0 m3 (z0 (u0n s0) y0))) (n3 _)) (a7 (v4 (p0z hr.units0) h0r (j0 G_law_refused (hr.mono (by decide)) o0 (z0 (e2_v 1) (z0 (e2_v 3) y0))) (n6 (z0 m3 (z0 s0 y0))) (n3 _))))) (i0 (y3 x0j)) o4)
  (l0 (l5 (v4 j0o d_gt (i4 1 T.n_len) s0 (n3 _)) (l0 (b0a 5 nd T.n_list (z0 (e2_v 1) y0))
  (l0 (u4 6 nd (j0 G_law_take (hr.mono (by decide)) o0 (z0 (e2_v 0) (z0 (i4 1 T.n_len) y0))))
  (l0 (u4 7 nd (w5 (z0 o6 (z0 s0 (z0 m3 (z0 (w5 (z0 s0 y0)) (z0 (w5 (z0 (u0n s0) y0)) (z0 (w5 (z0 s0 (z0 s0 y0))) (z0 (w5 (z0 s0 (z0 s0 y0))) (z0 (w5 (z0 x0j y0)) (z0 (w5 (z0 o6 y0)) (z0 (w5 (z0 (w5 (z0 s0 y0)) y0)) (z0 (a0h 0 0) y0)))))))))))))
  (l0 (y0h PassesOwn.leaving rfl (u0k T.n_range (z0 (e2_v 6) (z0 (i4 1 T.n_len) y0))) (x3 (i:=8) nd rfl (by first |exact Or.inl rfl |exact Or.inr rfl)) (u0j (i:=8)) (i0 (l5 (PW2.pt (z0x (v4 (m0b hr.units0) e0f (e2_v 8) (e2_v 6) (n3 _)) (a7 (v4 (m0b hr.units0) e0f (j0 G_law_take (hr.mono (by decide)) o0 (z0 (e2_v 0) (z0 s0 y0))) s0 (n3 _))))) (i0 (s0e 5 (e2_v 8) (j4 7 (j0 G_law_take (hr.mono (by decide)) o0 (z0 (e2_v 0) (z0 s0 y0)))))) o4)))
  (i0 (l5 (PW2.pt (z0x (v4 (p0z hr.units0) h0r (j0 G_law_refused (hr.mono (by decide)) o0 (z0 (e2_v 5) (z0 (e2_v 3) y0))) (n6 (z0 m3 (z0 (e2_v 6) y0))) (n3 _)) (a7 (v4 (p0z hr.units0) h0r (j0 G_law_refused (hr.mono (by decide)) o0 (z0 (x0i p5 w0u T.n_tuple b6 (z0 (e2_v 5) y0)) (z0 (e2_v 2) y0))) (n6 (z0 m3 (z0 (e2_v 6) y0))) (n3 _))))) (i0 (y3 x0j)) o4)))))) o4)
  (i0 (y3 (q0k (m0b hr.units0) e0f (j0 G_law_refused (hr.mono (by decide)) o0 (z0 (e2_v 1) (z0 (e2_v 2) y0))) (n6 (z0 m3 (z0 s0 y0))) (n3 _)))))))),fun ds δ q x h=>?_⟩)
 ·unfold n0a at h;obtain ⟨p,ns,n,P,f',rfl,hD,hn,hp,f1,f2,hq⟩:=h;rfl
 ·unfold n0a at h;obtain ⟨p,ns,n,P,f',rfl,hD,hn,hp,f1,f2,hq⟩:=h;rw[show a3 ["_law_deck_here","_law_plan_here","_law_first","_law_bad","_law_rows_here","_law_bent","_law_at","_law_things","_law_k"] _=[.val _,.val _,.val _,.no,.no,.no,.no,.no,.no]from rfl];have hpl:=hp.l;walk_at "dn";refine ⟨p,ns,_,6,rfl,hD,by omega,by decide,by decide,fun a0 δ1 a1 a2 hD=>?_⟩;obtain ⟨bad,eb,hb⟩:=atL (xs:=[.int (-1),.int 48,.non,.bl true,.str "1",.lst [.int 1]]) a1 (by simpa using a2);have hb2:v7 bad=true∧i5 bad 0 47=false:=by
   simp only[List.mem_cons,List.not_mem_nil,or_false]at hb;rcases hb with rfl |rfl |rfl |rfl |rfl |rfl
   ·exact ⟨rfl,g0u (.inl (by decide))⟩
   ·exact ⟨rfl,g0u (.inr (by decide))⟩
   ·exact ⟨rfl,rfl⟩
   ·exact ⟨rfl,rfl⟩
   ·exact ⟨rfl,rfl⟩
   ·exact ⟨rfl,rfl⟩
  dsimp only;rw[eb];refine ⟨by decide,by decide,by decide,by decide,by decide,by decide,by decide,by decide,by decide,by decide,by decide,by decide,by decide,by simp,?_⟩;refine ⟨p,ns,_,8,rfl,hD,by omega,by decide,by decide,fun b0 δ2 b1 b2 hD=>?_⟩;obtain ⟨row,er,hr⟩:=atL (xs:=[D.non,D.int 5,D.str (Str.ofString "0"),D.dic [],D.lst (List.replicate (Int.toNat 25) [D.lst []]).flatten,D.tup (List.replicate (Int.toNat 30) [D.tup []]).flatten,D.lst ((List.replicate (Int.toNat 24) [D.lst []]).flatten++[D.non]),D.tup (List.replicate (Int.toNat 25) [D.non]).flatten]) b1 (by simpa using b2);have hr2:z0y row=true∧b4 row 4 24=.int (-1):=by
   simp only[List.mem_cons,List.not_mem_nil,or_false]at hr;rcases hr with rfl |rfl |rfl |rfl |rfl |rfl |rfl |rfl
   ·exact ⟨rfl,rfl⟩
   ·exact ⟨rfl,rfl⟩
   ·exact ⟨rfl,rfl⟩
   ·exact ⟨rfl,rfl⟩
   ·exact ⟨rfl,y0k rfl (by decide)⟩
   ·exact ⟨rfl,y0k rfl (by decide)⟩
   ·exact ⟨rfl,y0k rfl (by decide)⟩
   ·exact ⟨rfl,y0k rfl (by decide)⟩
  dsimp only;rw[er];refine ⟨row,bad,rfl,⟨hr2.1,.inl ⟨_,hr2.2⟩⟩,hb2.1,?_⟩;rw[n0b hr2.2];have hok:RefOk (.lst (P.map (rowT true))):=⟨(u0z (b1:=true) (b2:=true) hp).1,.inr ⟨true,true,P,rfl,hp⟩⟩;have hno:b4 (.lst (P.map (rowT true))) 4 24=.non:=(u0z (b1:=true) (b2:=true) hp).2;have fin:∀ δ,l0d [D.lst (List.map (rowT true) P),D.int f'] δ (fun d δ2=>match d,D.tup [D.str (Str.ofString "none"),D.int 0]with |D.tup xs,D.tup ys=>(xs.all i6&&ys.all i6)=true∧q (D.bl (eqDs xs ys)) δ2 |x,x_1=>False) (fun C fs δ2=>x C fs δ2):=fun δ=>by
   refine ⟨_,_,rfl,hok,rfl,?_⟩;rw[z1k hno (r0r f1 f2)];dsimp only;rw[eq2];exact ⟨rfl,hq _⟩
  walk_at "dn";simp only[eq2,decide_true,Bool.not_true,Bool.false_eq_true,if_false];refine ⟨rfl,_,_,rfl,hok,hb2.1,?_⟩;rw[z1l hno hb2.2];dsimp only;rw[eq2];refine ⟨rfl,?_⟩;rw[if_neg (by decide)];rw[List.length_map];split
  ·rename_i hpos;refine ⟨p,ns,_,_,rfl,hD,by omega,hpos,by omega,fun a δ3 a1 a2 hD=>?_⟩;obtain ⟨at',rfl⟩:∃k:Nat,a=(k:Int):=⟨a.toNat,by omega⟩;dsimp only;refine ⟨⟨by omega,by omega,by omega,by omega⟩,?_⟩;refine z0q (fun i ρ δ'=>∃xs c4 c8,ρ=[.val (.ref p),.val (.lst (P.map (rowT true))),.val (.int f'),.val bad,c4,.own xs,.val (.int (at':Int)),.val (.lst t0r),c8]∧DkAt p ns (n+3+2*i) δ'∧xs.length=P.length∧(∀e∈xs.take at',badE 4 e=false)∧(0<i→∃e,xs[at']?=some e∧badE 4 e=true)∧∀e∈xs,x9 e=true) ⟨_,_,_,rfl,hD,List.length_map ..,fun e he=>?_,fun z=>absurd z (by decide),fun e he=>?_⟩ ?_ ?_
   ·obtain ⟨c,hc,rfl⟩:=List.mem_map.mp (List.mem_of_mem_take he);exact (r0i (hp.c c hc)).2
   ·obtain ⟨c,hc,rfl⟩:=List.mem_map.mp he;exact (r0i (hp.c c hc)).1
   ·rintro i d ρ δ' rest hi ⟨xs,c4,c8,rfl,hD,hxl,ht,hb,hth⟩ hrest;obtain ⟨hi2,rfl⟩:=z0e hi;have hat:at'+i<P.length:=by omega
    have hix:ixN xs.length ((at':Int)+(i:Int))=some (at'+i):=by
     unfold ixN;rw[if_pos (by omega),if_pos (by omega)];exact congrArg some (by omega)
    have put:∀(j:Int) δ2,0≤j→j<11→DkAt p ns (n+3+2*i+2) δ2→∃e,atI t0r j=some e∧rest [Cell.val (D.ref p),Cell.val (D.lst (List.map (rowT true) P)),Cell.val (D.int f'),Cell.val bad,c4,Cell.own (xs.set (at'+i) e),Cell.val (D.int (at':Int)),Cell.val (D.lst t0r),Cell.val (D.int ((at':Int)+(i:Int)))] δ2:=by
     intro j δ2 j1 j2 hD;obtain ⟨e,ee,he⟩:=atL (xs:=t0r) j1 (by simpa[t0r]using j2);obtain ⟨e1,e2⟩:=k0d he;refine ⟨e,ee,hrest _ _ ⟨_,_,_,rfl,hD.mono (by omega),by rw[List.length_set];exact hxl,?_,fun _=>?_,fun y hy=>?_⟩⟩
     ·rw[List.take_set_of_le (by omega)];exact ht
     ·by_cases z:i=0
      ·subst z;exact ⟨e,by rw[Nat.add_zero,List.getElem?_set_self (by omega)],e2⟩
      ·rw[List.getElem?_set_ne (by omega)];exact hb (by omega)
     ·rcases List.mem_or_eq_of_mem_set hy with hy |rfl
      ·exact hth y hy
      ·exact e1
    unfold x0h;walk_at "dn";rw[hix];split
    ·refine ⟨p,ns,_,11,rfl,hD,by omega,by decide,by decide,fun j δ2 j1 j2 hD=>?_⟩;obtain ⟨e,ee,h⟩:=put j δ2 j1 j2 (hD.mono (by omega));dsimp only;rw[ee];exact h
    ·rename_i z;refine ⟨p,ns,_,2,rfl,hD,by omega,by decide,by decide,fun b0 δ2 b1 b2 hD=>?_⟩;dsimp only;split
     ·refine ⟨p,ns,_,11,rfl,hD,by omega,by decide,by decide,fun j δ2 j1 j2 hD=>?_⟩;obtain ⟨e,ee,h⟩:=put j δ2 j1 j2 hD;dsimp only;rw[ee];exact h
     ·exact hrest _ _ ⟨_,_,_,rfl,hD.mono (by omega),hxl,ht,fun _=>hb (by omega),hth⟩
   ·rintro ρ δ' ⟨xs,c4,c8,rfl,hD,hxl,ht,hb,hth⟩;rw[z0d]at hb hD;obtain ⟨e,he,hbe⟩:=hb (by omega);have hta:=g0e hth;have w1:=l0c (by omega) ht he hbe (d:=.lst xs) rfl;have w2:=l0c (by omega) ht he hbe (d:=.tup xs) rfl;walk_at "dn";refine ⟨_,_,rfl,⟨hta.1,.inl ⟨_,w1⟩⟩,hb2.1,?_⟩;rw[n0b w1];dsimp only;rw[eq2];refine ⟨rfl,?_⟩;rw[if_neg (by decide)];refine ⟨_,_,rfl,⟨hta.2,.inl ⟨_,w2⟩⟩,rfl,?_⟩;rw[n0b w2];dsimp only;rw[eq2];refine ⟨rfl,?_⟩;rw[if_neg (by decide)];exact fin _
  ·exact fin _
theorem c0o{P:List (List Int)}{f:Int}(hp:PlanOk P)(f1:0≤f)(f2:f≤47):∀r∈x0s P f,RowOk r:=by
 have hl:=hp.l;have dg:∀n:Nat,n<100→dig n≠[]∧(dig n).length≤2∧32∉dig n∧10∉dig n:=fun n h=>⟨dig_ne,z0j,fun z=>by have:=(g0q h _ z).1;omega,fun z=>by have:=(g0q h _ z).1;omega⟩
 intro r hr;unfold x0s at hr;rcases List.mem_cons.mp hr with rfl |hr
 ·refine ⟨by unfold r0l;simp,by unfold r0l;simp,fun w hw=>?_⟩;unfold r0l at hw;simp only[List.mem_cons,List.not_mem_nil,or_false]at hw;rcases hw with rfl |rfl |rfl |rfl
  ·decide
  ·obtain ⟨d1,d2,d3,d4⟩:=dg ((P.length:Int)).toNat (by omega);exact ⟨d1,by omega,d3,d4⟩
  ·decide
  ·obtain ⟨d1,d2,d3,d4⟩:=dg f.toNat (by omega);exact ⟨d1,by omega,d3,d4⟩
 ·obtain ⟨e,he,rfl⟩:=List.mem_map.mp hr;obtain ⟨h1,h2,h3,h4⟩:=n0h he;have hc:=hp.c _ h1;have hcl:=hc.2.2;have hnl:(z0w e.2).length=e.2.length:=List.length_map ..;refine ⟨by unfold entW;simp,by unfold entW;rw[List.length_cons,hnl];omega,fun w hw=>?_⟩;unfold entW at hw;rcases List.mem_cons.mp hw with rfl |hw
  ·obtain ⟨d1,d2,d3,d4⟩:=dg e.1.toNat (by omega);refine ⟨by simp,by rw[List.length_append];show _+1≤6;omega,fun z=>?_,fun z=>?_⟩
   ·rcases List.mem_append.mp z with z |z
    ·exact d3 z
    ·revert z;decide
   ·rcases List.mem_append.mp z with z |z
    ·exact d4 z
    ·revert z;decide
  ·obtain ⟨n,hn,rfl⟩:=List.mem_map.mp hw;have:=hc.1 n hn;obtain ⟨d1,d2,d3,d4⟩:=dg n.toNat (by omega);exact ⟨d1,by omega,d3,d4⟩
theorem u0w{r:List (List Nat)}(h:RowOk r):x4 (j7 [32] r)=r∧10∉j7 [32] r∧(j7 [32] r).length≤60:=by
 have h0:=h.l2;refine ⟨?_,?_,?_⟩
 ·unfold x4;rw[x0u r h.l1 fun p hp=>(h.w p hp).2.2.1];exact List.filter_eq_self.mpr fun p hp=>by simpa using (h.w p hp).1
 ·have key:∀ps:List (List Nat),(∀p∈ps,10∉p)→10∉j7 [32] ps:=by
   intro ps
   induction ps with
   |nil=>intro _ z;cases z
   |cons a b ih=>
    intro hh z;cases b with
    |nil=>exact hh a (List.mem_singleton.mpr rfl) z
    |cons c d=>
     have z:10∈a++([32]++j7 [32] (c::d)):=z;rcases List.mem_append.mp z with z |z
     ·exact hh a (List.mem_cons_self ..) z
     ·rcases List.mem_append.mp z with z |z
      ·revert z;decide
      ·exact ih (fun p hp=>hh p (List.mem_cons_of_mem _ hp)) z
  exact key r fun p hp=>(h.w p hp).2.2.2
 ·have:=t0s (s:=[32]) (ps:=r) (m:=6) fun p hp=>(h.w p hp).2.1
  have h3:r.length*(6+([32]:List Nat).length)≤5*7:=Nat.mul_le_mul_right _ h0;omega
theorem o0x{P:List (List Int)}{f:Int}:u7 P f=(x0s P f).map (j7 [32]):=by
 unfold u7 x0s;rw[List.map_cons,List.map_map];congr 1
 ·unfold n0i r0l;show _=rT++([32]++(dig ((P.length:Int)).toNat++([32]++(fT++([32]++dig f.toNat)))));simp
 ·refine List.map_congr_left fun e he=>?_
  have h2:=(n0h he).2.1;obtain ⟨r,c⟩:=e;cases c with
  |nil=>exact absurd rfl h2
  |cons a c=>
   show dig r.toNat++[58,32]++j7 [32] (z0w (a::c))=(dig r.toNat++[58])++([32]++j7 [32] (z0w (a::c)));simp
theorem k0c{P:List (List Int)}{f:Int}(hp:PlanOk P)(f1:0≤f)(f2:f≤47):LinesOk (u7 P f)∧u7 P f≠[]∧cntL (feed (u7 P f))=x0s P f:=by
 have hr:=c0o hp f1 f2;have hl:=(l0h (f:=f) hp).1;have e:=o0x (P:=P) (f:=f);have lok:LinesOk (u7 P f):=⟨by omega,fun p h=>by rw[e]at h;obtain ⟨r,h',rfl⟩:=List.mem_map.mp h;exact (u0w (hr r h')).2.2,fun p h=>by rw[e]at h;obtain ⟨r,h',rfl⟩:=List.mem_map.mp h;exact (u0w (hr r h')).2.1⟩;refine ⟨lok,by unfold u7;simp,?_⟩;rw[y0m lok.f,e,List.map_map];have e2:(x0s P f).map (x4∘j7 [32])=x0s P f:=by
  conv=>rhs;rw[←List.map_id (x0s P f)]
  exact List.map_congr_left fun r h=>(u0w (hr r h)).1
 rw[e2];exact List.filter_eq_self.mpr fun r h=>by simpa using (hr r h).l1
theorem d0r{P:List (List Int)}{f:Int}(hp:PlanOk P):(x0s P f).length≤25:=by
 have h1:=u0y (P:=P) (f:=f);have h2:=hp.l;unfold x0s;rw[List.length_cons,List.length_map];omega
theorem z1j{P:List (List Int)}:eqRs (P.map (rowT true)) (P.map (rowT true))=some true:=p0v fun d hd=>by
 obtain ⟨c,_,rfl⟩:=List.mem_map.mp hd;show (if ((c.map D.int).all i6&&(c.map D.int).all i6)=true then some (eqDs (c.map D.int) (c.map D.int))else none)=some true;rw[h0o,p0w,decide_eq_true rfl];rfl
noncomputable def z1i(d:D):List (List Int):=match rowD d with |some xs=>xs.map (fun x=>match rowD x with |some ys=>ys.map intD |none=>[])|none=>[]
theorem c0n{b1 b2:Bool}{P:List (List Int)}:z1i (w0b b1 b2 P)=P:=by
 have hr:rowD (w0b b1 b2 P)=some (P.map (rowT b2)):=by unfold w0b;split<;>rfl
 unfold z1i;rw[hr];dsimp only;rw[List.map_map]
 conv=>rhs;rw[←List.map_id P]
 refine List.map_congr_left fun c _=>?_
 show (match rowD (rowT b2 c)with |some ys=>ys.map intD |none=>[])=c;rw[c0p];dsimp only;rw[l0r]
theorem g0d{cs:Cs}{d:D}{b1 b2:Bool}{P:List (List Int)}{f0:Int}{δ:Dk}{q:D→Dk→Prop}{x:Addr→List (Str×D)→Dk→Prop}(ed:d=w0b b1 b2 P)(hp:PlanOk P)(f1:0≤f0)(f2:f0≤47)(hq:q (txD (feed (u7 P f0))) δ):l0l cs [d,.int f0] δ q x:=by
 subst ed;have hok:=u0z (b1:=b1) (b2:=b2) hp;refine ⟨_,_,rfl,hok.1,rfl,fun k e=>?_,fun _ e=>?_,fun b1' b2' P' f' e hp' ef _ _=>?_,fun _=>⟨b1,b2,P,f0,rfl,hp,rfl,f1,f2⟩⟩
 ·rw[hok.2]at e;cases e
 ·rw[r0r f1 f2]at e;cases e
 ·cases ef;have:=congrArg z1i e;rw[c0n,c0n]at this;subst this;exact hq
noncomputable abbrev g0c:List Str:=["_law_script"]
theorem sc_law:FnScope ["_law_script","_law_deck_here","_law_plan_here","_law_first","_law_rows_here","_law_text","_law_handed","_law_found"] g0c (defScope z1t):=⟨rfl,rfl,rfl,by decide +kernel,rfl,by decide +kernel,by decide +kernel⟩
theorem ok_law{f:Addr}{fd:FuncData}(Df:DefAt K mg "law" z1t g0c f fd)(T:Txt K mg cs)(G_law_deck:w0f P w K mg base cs)(G_law_plan:w0a P w K mg base cs)(G_law_take:e7 P w K mg base cs)(G_law_rows:v0z P w K mg base cs)(G_show_plan:e9 P w K mg base cs)(G_law_right:x0q P w K mg base cs)(G_read_plan:x0r P w K mg base cs)(G_law_laid:v0x P w K mg base cs)(G_law_refusals:d8 P w K mg base cs):FnOk P w K mg base (CX1 P w) 11 f fd g0c (upF K k0n):=by
 have nd:=sc_law.nd;refine def2F Df sc_law (fun ds δ q x h=>?_) (fun cdv A outer s H E Y hr=>⟨_,(l0 (u4 1 nd (j0 G_law_deck (hr.mono (by decide)) o0 (z0 (e2_v 0) y0)))
  (l0 (u4 2 nd (j0 G_law_plan (hr.mono (by decide)) o0 (z0 (e2_v 1) y0)))
  (l0 (u4 3 nd (i0p s0y d_ix (w5 (z0 s0 (z0 s0 (z0 (j0 G_law_take (hr.mono (by decide)) o0 (z0 (e2_v 1) (z0 s0 y0))) y0)))) (j0 G_law_take (hr.mono (by decide)) o0 (z0 (e2_v 1) (z0 s0 y0)))))
  (l0 (u4 4 nd (j0 G_law_rows (hr.mono (by decide)) o0 (z0 (e2_v 2) (z0 (e2_v 3) y0))))
  (l0 (u4 5 nd (o0b PySem.F.slot_str_join PySem.F.type_str_join r0v l0u m3 (z0 (w6 rfl (CompOkM.of ["_law_row"] [] rfl) (a8 (e2_v 4)) (fun nd _ _ _ _ _=>(x3 (i:=0) nd rfl (by first |exact Or.inl rfl |exact Or.inr rfl))) x6 (fun _ _ _ _ _ _=>z8) (fun _ _ _ _ _ _=>(b3 x5 y0g (o0b PySem.F.slot_str_join PySem.F.type_str_join r0v l0u m3 (z0 (e2_v 0) y0)) m3))) y0)))
  (l0 (r0z (i:=6) rfl (CompOkM.of ["_law_choice"] [] rfl) (a8 (e2_v 2)) (fun nd _ _ _ _ _=>(x3 (i:=0) nd rfl (by first |exact Or.inl rfl |exact Or.inr rfl))) x6 (fun _ _ _ _ _ _=>z8) (fun _ _ _ _ _ _=>(x0i v0r d_list T.n_list o0m (z0 (e2_v 0) y0))) nd)
  (l0 (u4 7 nd (j0 G_show_plan (hr.mono (by decide)) o0 (z0 (e2_v 6) (z0 (e2_v 3) y0))))
  (l0 (l5 (PW2.pt (z0x (y6 (m6 (e2_b m5 (y0i (K:=K)) T.n_isinstance y4 (z0 (e2_v 7) (z0 (u0p "str" T.n_str v0o) y0))))) (z0x (v4 (p0z hr.units0) h0r (e2_v 7) (e2_v 5) (n3 _)) (a7 (v4 (op_neR hr.units1) d_eqR (e2_v 6) (e2_v 2) (n3 _)))))) (i0 (y3 x0j)) o4)
  (l0 (l5 (PW2.pt (z0x (y6 (m6 (j0 G_law_right (hr.mono (by decide)) o0 (z0 (j0 G_read_plan (hr.mono (by decide)) o0 (z0 (e2_v 7) y0)) (z0 (e2_v 2) (z0 (e2_v 3) y0)))))) (a7 (y6 (m6 (j0 G_law_right (hr.mono (by decide)) o0 (z0 (j0 G_read_plan (hr.mono (by decide)) o0 (z0 (p0o (e2_v 5) r0y (r0x (u0n s0))) y0)) (z0 (e2_v 2) (z0 (e2_v 3) y0))))))))) (i0 (y3 x0j)) o4)
  (l0 (l5 (PW2.pt (z0x (y6 (m6 (j0 G_law_right (hr.mono (by decide)) o0 (z0 (j0 G_read_plan (hr.mono (by decide)) o0 (z0 (j0 G_law_laid (hr.mono (by decide)) o0 (z0 (e2_v 1) (z0 (e2_v 4) y0))) y0)) (z0 (e2_v 2) (z0 (e2_v 3) y0)))))) (a7 (y6 (m6 (j0 G_law_refusals (hr.mono (by decide)) o0 (z0 (e2_v 1) (z0 (e2_v 2) (z0 (e2_v 3) y0))))))))) (i0 (y3 x0j)) o4)
  (i0 (y3 (q0k (m0b hr.units0) e0f (j0 G_show_plan (hr.mono (by decide)) o0 (z0 (x0i p5 w0u T.n_tuple b6 (z0 (w6 rfl (CompOkM.of ["_law_choice"] [] rfl) (a8 (e2_v 2)) (fun nd _ _ _ _ _=>(x3 (i:=0) nd rfl (by first |exact Or.inl rfl |exact Or.inr rfl))) x6 (fun _ _ _ _ _ _=>z8) (fun _ _ _ _ _ _=>(x0i p5 w0u T.n_tuple b6 (z0 (e2_v 0) y0)))) y0)) (z0 (e2_v 3) y0))) (e2_v 5) (n3 _)))))))))))))),fun ds δ q x h=>?_⟩)
 ·unfold k0n at h;obtain ⟨ns,rfl,hl,rfl,hq⟩:=h;rfl
 ·unfold k0n at h;obtain ⟨ns,rfl,hl,rfl,hq⟩:=h;rw[show a3 ["_law_script","_law_deck_here","_law_plan_here","_law_first","_law_rows_here","_law_text","_law_handed","_law_found"] _=[.val _,.no,.no,.no,.no,.no,.no,.no]from rfl];walk_at "dn";refine ⟨ns,rfl,rfl,fun p δ0 hD=>?_⟩;refine ⟨p,ns,_,rfl,hD,by decide,fun P δ1 hp hD=>?_⟩;refine ⟨p,ns,_,48,rfl,hD,by decide,by decide,by decide,fun a0 δ3 a1 a2 hD=>?_⟩;refine ⟨p,ns,_,3,rfl,hD,by decide,by decide,by decide,fun b0 δ4 b1 b2 hD=>?_⟩;obtain ⟨z,ez,hz⟩:=atL (xs:=[.int 0,.int 47,.int a0]) b1 (by simpa using b2);have hz2:∃first:Int,z=.int first∧0≤first∧first≤47:=by
   simp only[List.mem_cons,List.not_mem_nil,or_false]at hz;rcases hz with rfl |rfl |rfl
   ·exact ⟨0,rfl,by decide,by decide⟩
   ·exact ⟨47,rfl,by decide,by decide⟩
   ·exact ⟨a0,rfl,a1,by omega⟩
  obtain ⟨f0,rfl,f1,f2⟩:=hz2;dsimp only;rw[ez];refine ⟨P,f0,rfl,hp,f1,f2,?_⟩;have hpl:=hp.l;have hro:=c0o hp f1 f2;have htl:=d0r (f:=f0) hp;obtain ⟨t1,t2,t3⟩:=k0c hp f1 f2;have esh:=o0x (P:=P) (f:=f0);dsimp only;refine f7 rowL (fun r=>txD (j7 [32] r++[10])) (x0s P f0) (by omega) (fun r hr Q hQ=>?_) ?_
  ·have hr1:=(hro r hr).l2;have hr2:=(u0w (hro r hr)).2.2;simp only[capt,t9,List.map_cons,List.map_nil,rowL];walk_at "dn";rw[d0t];dsimp only;rw[t0x,r0o,p0h,u6,u3,u3,u3,List.length_map];have hm:=r0m (ps:=r) (m:=6) fun p hp=>((hro r hr).w p hp).2.1
   exact ⟨by decide,by omega,by show _+1≤_;omega,hQ⟩
  ·have e:(x0s P f0).map (fun r=>txD (j7 [32] r++[10]))=((u7 P f0).map fun l=>l++[10]).map txD:=by rw[esh,List.map_map,List.map_map];rfl
   rw[e,d0t];dsimp only;have hm:=r0m (ps:=(u7 P f0).map fun l=>l++[10]) (m:=61) (fun p hp=>by obtain ⟨l,hl,rfl⟩:=List.mem_map.mp hp;have:=t1.s l hl;rw[List.length_append,List.length_singleton];omega);rw[List.length_map]at hm;have hn:=t1.n;rw[r0n,r0o,t0t,u3,List.length_map,List.length_map,l0o,p0i];have hfe:((u7 P f0).map fun l=>l++[10]).flatten=feed (u7 P f0):=rfl;rw[hfe];refine ⟨by decide,by omega,?_⟩;refine f7 (rowT true) (rowT true) P (by omega) (fun c hc Q hQ=>?_) ?_
   ·simp only[capt,t9,List.map_cons,List.map_nil,rowT,if_true];walk_at "dn";exact hQ
   ·refine g0d (b1:=true) (b2:=true) rfl hp f1 f2 ⟨trivial,?_⟩;rw[show txD (feed (u7 P f0))=.str (tx (feed (u7 P f0)))from rfl,c0u];simp only[Bool.not_true,Bool.false_eq_true,if_false,decide_true,z1j];refine ⟨_,P,f0,rfl,t1.txt,hp,f1,f2,t3,?_⟩;refine ⟨P,f0,rfl,hp,?_⟩;simp only[Bool.not_true,Bool.false_eq_true,if_false];have hcut:=t1.cut t2;have hfl:=t1.txt.len;refine ⟨by rw[u3];omega,_,P,f0,rfl,hcut.1,hp,f1,f2,hcut.2.trans t3,?_⟩;refine ⟨P,f0,rfl,hp,?_⟩;simp only[Bool.not_true,Bool.false_eq_true,if_false];refine ⟨p,ns,_,_,rfl,hD,by decide,htl,hro,fun l δ5 l1 l2 hD=>?_⟩;refine ⟨_,P,f0,rfl,l1,hp,f1,f2,l2,?_⟩;refine ⟨P,f0,rfl,hp,?_⟩;simp only[Bool.not_true,Bool.false_eq_true,if_false];refine ⟨p,ns,_,P,f0,rfl,hD,by decide,hp,f1,f2,fun δ6=>?_⟩;simp only[Bool.not_true,Bool.false_eq_true,if_false];refine f7 (rowT true) (rowT false) P (by omega) (fun c hc Q hQ=>?_) ?_
    ·simp only[capt,t9,List.map_cons,List.map_nil,rowT,if_true];walk_at "dn";exact hQ
    ·refine g0d (b1:=false) (b2:=false) rfl hp f1 f2 ?_;rw[show txD (feed (u7 P f0))=.str (tx (feed (u7 P f0)))from rfl];simp only[decide_true];exact hq _
theorem t0f:FnScope ["self","at"] ["self","at"] (defScope p9):=⟨rfl,rfl,rfl,by decide +kernel,rfl,by decide +kernel,by decide +kernel⟩
theorem t0e{f C:Addr}{fd:FuncData}(F:Fun K "__init__" "NoPlan.__init__" p9 f fd)(xc:XC K C)(n0:NoAttr K C "at"):FnOk P w K mg base CX0 1 f fd ["self","at"] (spXI C "at"):=by
 refine F.ok t0f (fun vs H Q E h=>?_) (fun cdv A outer s H vs Q E hr h=>⟨_,o0u (ps_x0 (pv 0) (pv 1) rfl),?_⟩)
 ·obtain ⟨x,v,rfl,_⟩:=h;rfl
 ·obtain ⟨x,v,rfl,hx,q⟩:=h;exact ⟨_,rfl,_,rfl,x,C,rfl,hx,xc,n0,fun d hd hne=>q d hd hne⟩
theorem t0d:FnScope ["self","row"] ["self","row"] (defScope o9):=⟨rfl,rfl,rfl,by decide +kernel,rfl,by decide +kernel,by decide +kernel⟩
theorem t0c{f C:Addr}{fd:FuncData}(F:Fun K "__init__" "NoText.__init__" o9 f fd)(xc:XC K C)(n0:NoAttr K C "row"):FnOk P w K mg base CX0 1 f fd ["self","row"] (spXI C "row"):=by
 refine F.ok t0d (fun vs H Q E h=>?_) (fun cdv A outer s H vs Q E hr h=>⟨_,o0u (ps_x0 (pv 0) (pv 1) rfl),?_⟩)
 ·obtain ⟨x,v,rfl,_⟩:=h;rfl
 ·obtain ⟨x,v,rfl,hx,q⟩:=h;exact ⟨_,rfl,_,rfl,x,C,rfl,hx,xc,n0,fun d hd hne=>q d hd hne⟩
@[elab_as_elim] theorem el0{α:Type}{motive:List α→Prop}(us:List α)(hl:us.length=0)(h:motive []):motive us:=match us,hl with
 | [],_=>h
@[elab_as_elim] theorem el1{α:Type}{motive:List α→Prop}(us:List α)(hl:us.length=1)(h:∀a,motive [a]):motive us:=match us,hl with
 | [a],_=>h a
@[elab_as_elim] theorem el2{α:Type}{motive:List α→Prop}(us:List α)(hl:us.length=2)(h:∀a b,motive [a,b]):motive us:=match us,hl with
 | [a,b],_=>h a b
@[elab_as_elim] theorem el3{α:Type}{motive:List α→Prop}(us:List α)(hl:us.length=3)(h:∀a b c,motive [a,b,c]):motive us:=match us,hl with
 | [a,b,c],_=>h a b c
@[elab_as_elim] theorem el4{α:Type}{motive:List α→Prop}(us:List α)(hl:us.length=4)(h:∀a b c d,motive [a,b,c,d]):motive us:=match us,hl with
 | [a,b,c,d],_=>h a b c d
@[elab_as_elim] theorem el5{α:Type}{motive:List α→Prop}(us:List α)(hl:us.length=5)(h:∀a b c d e,motive [a,b,c,d,e]):motive us:=match us,hl with
 | [a,b,c,d,e],_=>h a b c d e
@[elab_as_elim] theorem el6{α:Type}{motive:List α→Prop}(us:List α)(hl:us.length=6)(h:∀a b c d e f,motive [a,b,c,d,e,f]):motive us:=match us,hl with
 | [a,b,c,d,e,f],_=>h a b c d e f
@[elab_as_elim] theorem el7{α:Type}{motive:List α→Prop}(us:List α)(hl:us.length=7)(h:∀a b c d e f g,motive [a,b,c,d,e,f,g]):motive us:=match us,hl with
 | [a,b,c,d,e,f,g],_=>h a b c d e f g
@[elab_as_elim] theorem el8{α:Type}{motive:List α→Prop}(us:List α)(hl:us.length=8)(h:∀a b c d e f g i,motive [a,b,c,d,e,f,g,i]):motive us:=match us,hl with
 | [a,b,c,d,e,f,g,i],_=>h a b c d e f g i
theorem all_mk{l:PySem.W.OpenLaw}{w:World}{K:PySem.W.Frag}{h:Heap}{mg:Str→Option Value}{fa:Addr}{cs:Cs}(X:K.In h)(G:h.Ns mainGlobals mg)(hfa:mg "law"=some (.ref fa))(T:Txt K mg cs)(h_is_number:HD.FnF K "is_number" y0b)(h_is_whole:HD.FnF K "is_whole" w0r)(h_is_row:HD.FnF K "is_row" r0u)(h_is_whole_row:HD.FnF K "is_whole_row" g8)(h_is_rising_row:HD.FnF K "is_rising_row" x8)(h_check_first:HD.FnF K "check_first" s9)(h_is_choice_among:HD.FnF K "is_choice_among" d6)(h_wrong_entry:HD.FnF K "wrong_entry" r9)(h_check_plan:HD.FnF K "check_plan" z0p)(h_numbers_shown:HD.FnF K "numbers_shown" w8)(h_show_plan:HD.FnF K "show_plan" y0a)(h_lines_of:HD.FnF K "lines_of" w0q)(h_words_of:HD.FnF K "words_of" w0p)(h_number_of:HD.FnF K "number_of" x0z)(h_read_head:HD.FnF K "read_head" x0y)(h_read_round:HD.FnF K "read_round" z0o)(h_rows_of:HD.FnF K "rows_of" u0b)(h_read_plan:HD.FnF K "read_plan" x0x)(h_law_cell:HD.FnF K "_law_cell" w0o)(h_law_draw:HD.FnF K "_law_draw" w0n)(h_law_deck:HD.FnF K "_law_deck" w0m)(h_law_take:HD.FnF K "_law_take" w0l)(h_law_number:HD.FnF K "_law_number" z0n)(h_law_plan:HD.FnF K "_law_plan" w0k)(h_law_rows:HD.FnF K "_law_rows" w0j)(h_law_laid:HD.FnF K "_law_laid" w0i)(h_law_right:HD.FnF K "_law_right" x0w)(h_law_refused:HD.FnF K "_law_refused" q9)(h_law_refusals:HD.FnF K "_law_refusals" f8)(h_law:HD.FnF K "law" z1t)(x_NoPlan:HD.XMkF K cs.NoPlan "NoPlan.__init__" p9)(x_NoText:HD.XMkF K cs.NoText "NoText.__init__" o9):
 ∃fd:FuncData,(∀(s:Shared) (v:Value),BindsTo s fd ⟨[v],[]⟩ [("_law_script",v)])∧∀base:Heap,K.In base→base.Ns mainGlobals mg→FnOk l.prog w K mg base (CX1 l.prog w) 11 fa fd g0c (upF K k0n):=by
 obtain ⟨f_is_number,d_is_number,D_is_number⟩:=h_is_number.at X G (ps:=n9) fun _ _ _ _ _ _ us hl=>el1 us hl (fun _=>rfl)
 obtain ⟨f_is_whole,d_is_whole,D_is_whole⟩:=h_is_whole.at X G (ps:=z0a) fun _ _ _ _ _ _ us hl=>el3 us hl (fun _ _ _=>rfl)
 obtain ⟨f_is_row,d_is_row,D_is_row⟩:=h_is_row.at X G (ps:=v0c) fun _ _ _ _ _ _ us hl=>el1 us hl (fun _=>rfl)
 obtain ⟨f_is_whole_row,d_is_whole_row,D_is_whole_row⟩:=h_is_whole_row.at X G (ps:=z7) fun _ _ _ _ _ _ us hl=>el5 us hl (fun _ _ _ _ _=>rfl)
 obtain ⟨f_is_rising_row,d_is_rising_row,D_is_rising_row⟩:=h_is_rising_row.at X G (ps:=v6) fun _ _ _ _ _ _ us hl=>el3 us hl (fun _ _ _=>rfl)
 obtain ⟨f_check_first,d_check_first,D_check_first⟩:=h_check_first.at X G (ps:=m7) fun _ _ _ _ _ _ us hl=>el1 us hl (fun _=>rfl)
 obtain ⟨f_is_choice_among,d_is_choice_among,D_is_choice_among⟩:=h_is_choice_among.at X G (ps:=o5) fun _ _ _ _ _ _ us hl=>el2 us hl (fun _ _=>rfl)
 obtain ⟨f_wrong_entry,d_wrong_entry,D_wrong_entry⟩:=h_wrong_entry.at X G (ps:=l7) fun _ _ _ _ _ _ us hl=>el3 us hl (fun _ _ _=>rfl)
 obtain ⟨f_check_plan,d_check_plan,D_check_plan⟩:=h_check_plan.at X G (ps:=m8) fun _ _ _ _ _ _ us hl=>el2 us hl (fun _ _=>rfl)
 obtain ⟨f_numbers_shown,d_numbers_shown,D_numbers_shown⟩:=h_numbers_shown.at X G (ps:=p6) fun _ _ _ _ _ _ us hl=>el1 us hl (fun _=>rfl)
 obtain ⟨f_show_plan,d_show_plan,D_show_plan⟩:=h_show_plan.at X G (ps:=f9) fun _ _ _ _ _ _ us hl=>el2 us hl (fun _ _=>rfl)
 obtain ⟨f_lines_of,d_lines_of,D_lines_of⟩:=h_lines_of.at X G (ps:=y0q) fun _ _ _ _ _ _ us hl=>el1 us hl (fun _=>rfl)
 obtain ⟨f_words_of,d_words_of,D_words_of⟩:=h_words_of.at X G (ps:=y0r) fun _ _ _ _ _ _ us hl=>el1 us hl (fun _=>rfl)
 obtain ⟨f_number_of,d_number_of,D_number_of⟩:=h_number_of.at X G (ps:=j9) fun _ _ _ _ _ _ us hl=>el3 us hl (fun _ _ _=>rfl)
 obtain ⟨f_read_head,d_read_head,D_read_head⟩:=h_read_head.at X G (ps:=h9) fun _ _ _ _ _ _ us hl=>el1 us hl (fun _=>rfl)
 obtain ⟨f_read_round,d_read_round,D_read_round⟩:=h_read_round.at X G (ps:=l8) fun _ _ _ _ _ _ us hl=>el3 us hl (fun _ _ _=>rfl)
 obtain ⟨f_rows_of,d_rows_of,D_rows_of⟩:=h_rows_of.at X G (ps:=w0y) fun _ _ _ _ _ _ us hl=>el1 us hl (fun _=>rfl)
 obtain ⟨f_read_plan,d_read_plan,D_read_plan⟩:=h_read_plan.at X G (ps:=g9) fun _ _ _ _ _ _ us hl=>el1 us hl (fun _=>rfl)
 obtain ⟨f_law_cell,d_law_cell,D_law_cell⟩:=h_law_cell.at X G (ps:=y0y) fun _ _ _ _ _ _ us hl=>el2 us hl (fun _ _=>rfl)
 obtain ⟨f_law_draw,d_law_draw,D_law_draw⟩:=h_law_draw.at X G (ps:=y0w) fun _ _ _ _ _ _ us hl=>el3 us hl (fun _ _ _=>rfl)
 obtain ⟨f_law_deck,d_law_deck,D_law_deck⟩:=h_law_deck.at X G (ps:=y0v) fun _ _ _ _ _ _ us hl=>el1 us hl (fun _=>rfl)
 obtain ⟨f_law_take,d_law_take,D_law_take⟩:=h_law_take.at X G (ps:=y0u) fun _ _ _ _ _ _ us hl=>el2 us hl (fun _ _=>rfl)
 obtain ⟨f_law_number,d_law_number,D_law_number⟩:=h_law_number.at X G (ps:=n8) fun _ _ _ _ _ _ us hl=>el2 us hl (fun _ _=>rfl)
 obtain ⟨f_law_plan,d_law_plan,D_law_plan⟩:=h_law_plan.at X G (ps:=y0p) fun _ _ _ _ _ _ us hl=>el1 us hl (fun _=>rfl)
 obtain ⟨f_law_rows,d_law_rows,D_law_rows⟩:=h_law_rows.at X G (ps:=y0o) fun _ _ _ _ _ _ us hl=>el2 us hl (fun _ _=>rfl)
 obtain ⟨f_law_laid,d_law_laid,D_law_laid⟩:=h_law_laid.at X G (ps:=y0l) fun _ _ _ _ _ _ us hl=>el2 us hl (fun _ _=>rfl)
 obtain ⟨f_law_right,d_law_right,D_law_right⟩:=h_law_right.at X G (ps:=d9) fun _ _ _ _ _ _ us hl=>el3 us hl (fun _ _ _=>rfl)
 obtain ⟨f_law_refused,d_law_refused,D_law_refused⟩:=h_law_refused.at X G (ps:=i7) fun _ _ _ _ _ _ us hl=>el2 us hl (fun _ _=>rfl)
 obtain ⟨f_law_refusals,d_law_refusals,D_law_refusals⟩:=h_law_refusals.at X G (ps:=y7) fun _ _ _ _ _ _ us hl=>el3 us hl (fun _ _ _=>rfl)
 obtain ⟨f_law,d_law,D_law⟩:=h_law.at X G (ps:=g0c) fun _ _ _ _ _ _ us hl=>el1 us hl (fun _=>rfl)
 obtain ⟨fi_NoPlan,fd_NoPlan,m_NoPlan,F_NoPlan⟩:=x_NoPlan;have M_NoPlan:∀base,MkE l.prog w K mg base "NoPlan" cs.NoPlan 1 ["self","at"] (spXI cs.NoPlan "at"):=fun base=>⟨⟨fi_NoPlan,_,m_NoPlan,t0e F_NoPlan (T.err _ (List.mem_of_getElem? (show cs.ds[1]?=some cs.NoPlan from rfl))).xc T.a_NoPlan_at,F_NoPlan.binds (ps:=["self","at"]) fun _ _ _ _ _ _ us hl=>el2 us hl (fun _ _=>rfl)⟩,T.c_NoPlan⟩
 obtain ⟨fi_NoText,fd_NoText,m_NoText,F_NoText⟩:=x_NoText;have M_NoText:∀base,MkE l.prog w K mg base "NoText" cs.NoText 1 ["self","row"] (spXI cs.NoText "row"):=fun base=>⟨⟨fi_NoText,_,m_NoText,t0c F_NoText (T.err _ (List.mem_of_getElem? (show cs.ds[2]?=some cs.NoText from rfl))).xc T.a_NoText_row,F_NoText.binds (ps:=["self","row"]) fun _ _ _ _ _ _ us hl=>el2 us hl (fun _ _=>rfl)⟩,T.c_NoText⟩
 have G_law_cell:∀base,y0x l.prog w K mg base cs:=fun base=>n0x D_law_cell T
 have G_law_deck:∀base,w0f l.prog w K mg base cs:=fun base=>n0v D_law_deck T (G_law_cell base)
 have G_law_draw:∀base,w0g l.prog w K mg base cs:=fun base=>n0w D_law_draw T (G_law_cell base)
 have G_law_take:∀base,e7 l.prog w K mg base cs:=fun base=>n0u D_law_take T (G_law_draw base)
 have G_law_plan:∀base,w0a l.prog w K mg base cs:=fun base=>n0e D_law_plan T (G_law_take base)
 have G_law_rows:∀base,v0z l.prog w K mg base cs:=fun base=>n0d D_law_rows T
 have G_is_row:∀base,v0b l.prog w K mg base cs:=fun base=>g0t D_is_row T
 have G_is_number:∀base,x0v l.prog w K mg base cs:=fun base=>p0k D_is_number T
 have G_is_whole:∀base,y0z l.prog w K mg base cs:=fun base=>n0y D_is_whole T (G_is_number base)
 have G_is_whole_row:∀base,e8 l.prog w K mg base cs:=fun base=>u0a D_is_whole_row T (G_is_row base) (G_is_whole base)
 have G_is_rising_row:∀base,v8 l.prog w K mg base cs:=fun base=>v0i D_is_rising_row T (G_is_whole_row base)
 have G_is_choice_among:∀base,n5 l.prog w K mg base cs:=fun base=>x0c D_is_choice_among T (G_is_rising_row base)
 have G_wrong_entry:∀base,l9 l.prog w K mg base cs:=fun base=>t0j D_wrong_entry T (G_is_row base) (G_is_choice_among base)
 have G_check_plan:∀base,z0k l.prog w K mg base cs:=fun base=>r0p D_check_plan T (G_wrong_entry base) (M_NoPlan base)
 have G_check_first:∀base,m9 l.prog w K mg base cs:=fun base=>t0k D_check_first T (G_is_whole base)
 have G_numbers_shown:∀base,t8 l.prog w K mg base cs:=fun base=>v0h D_numbers_shown T
 have G_show_plan:∀base,e9 l.prog w K mg base cs:=fun base=>p0b D_show_plan T (G_check_plan base) (G_check_first base) (G_numbers_shown base)
 have G_law_number:∀base,z0m l.prog w K mg base cs:=fun base=>r0s D_law_number T
 have G_law_right:∀base,x0q l.prog w K mg base cs:=fun base=>p0a D_law_right T (G_law_number base)
 have G_lines_of:∀base,w0c l.prog w K mg base cs:=fun base=>n0n D_lines_of T
 have G_words_of:∀base,w0d l.prog w K mg base cs:=fun base=>n0o D_words_of T
 have G_rows_of:∀base,t0v l.prog w K mg base cs:=fun base=>k0e D_rows_of T (G_lines_of base) (G_words_of base) (M_NoText base)
 have G_number_of:∀base,i9 l.prog w K mg base cs:=fun base=>p0g D_number_of T
 have G_read_head:∀base,x0t l.prog w K mg base cs:=fun base=>p0f D_read_head T (G_number_of base)
 have G_read_round:∀base,z0i l.prog w K mg base cs:=fun base=>r0k D_read_round T (G_number_of base) (G_is_choice_among base)
 have G_read_plan:∀base,x0r l.prog w K mg base cs:=fun base=>p0e D_read_plan T (G_rows_of base) (G_read_head base) (G_read_round base) (M_NoText base)
 have G_law_laid:∀base,v0x l.prog w K mg base cs:=fun base=>n0c D_law_laid T (G_law_take base)
 have G_law_refused:∀base,b9 l.prog w K mg base cs:=fun base=>t0g D_law_refused T (G_show_plan base)
 have G_law_refusals:∀base,d8 l.prog w K mg base cs:=fun base=>t0q D_law_refusals T (G_law_take base) (G_law_refused base)
 obtain ⟨_,_,_,_,_,_,_,_,_,rfl,_,_⟩:=D_law.F.ex;have e:=hfa.symm.trans D_law.m;cases e;exact ⟨_,fun s v=>.of_eq rfl,fun base _ _=>ok_law D_law T (G_law_deck base) (G_law_plan base) (G_law_take base) (G_law_rows base) (G_show_plan base) (G_law_right base) (G_read_plan base) (G_law_laid base) (G_law_refusals base)⟩
end
end K32
namespace HD32
open PySem PySem.W PyProof.Rows PySem.Calls HD
open K32 (top)
noncomputable abbrev PW:Program:=PySem.Challenge.pw_wearplan_k32_plans_as_texts
noncomputable def env:Env:=⟨PW.main.scope,mainNs,mainNs,[],Str.empty,none,(r 13),some 14,0⟩
noncomputable def cE:Code:=.body (behindTheImports PW) env
noncomputable abbrev fp:Pos:=⟨0,0,0,0⟩
noncomputable abbrev BB:List Frame:=[topFrame fp]
noncomputable def life:Life:={}
noncomputable def drawn:Drawn:={}
noncomputable def o11_0(P:Params):Obj:=tp []
noncomputable def o12_0(P:Params):Obj:=fl N []
noncomputable def o13_0(P:Params):Obj:=fl (ty "code") [(s "<module>" 182),(s "<module>" 183),(s "/claim/cut.py" 184),(i 1 0),(i 0 0),(i 0 0),(i 0 0),(i 0 0),(r 11),(b false),(i 181 0),(r 12),N,N,N,N,(i 185 0),(i 1 0),(s "/claim/cut.py" 186)]
noncomputable def o14_0(P:Params):Obj:={cls:=(ty "frame"),slots:=⟨[some (r 13),some (r 3),some (r 3),none,some (s "__main__" 164),none,some (r 0)]⟩}
noncomputable def t0(P:Params):BT:=(.node (boot_o_0 P) (.node (boot_o_1 P) (.node (boot_o_3 P) (.node (boot_o_7 P) .nil .nil) (.node (o11_0 P) .nil .nil)) (.node (boot_o_5 P) (.node (boot_o_9 P) .nil .nil) (.node (o13_0 P) .nil .nil))) (.node (boot_o_2 P) (.node (boot_o_4 P) (.node (boot_o_8 P) .nil .nil) (.node (o12_0 P) .nil .nil)) (.node (boot_o_6 P) (.node (boot_o_10 P) .nil .nil) (.node (o14_0 P) .nil .nil))))
theorem pre(w:World)(os:OsState):topGo treeTable PW w 11 (some (r 6)) 12 ⟨boot_heap w.params,⟨[]⟩,boot_drawn,boot_toks,os⟩ (topStub PW)=some ((SharedT.abs ⟨t0 w.params,15,life,⟨[]⟩,drawn,187,os⟩),⟨denote treeTable cE,cE,⟨0,0,0,0⟩,BB⟩):=turnGo (by rw[PySem.W.Fast.te11892475500146522536,PySem.W.Fast.te14364793385576792824];kernel_rfl)
theorem blk(w:World)(os:OsState):segRun treeTable PW w 11 (some (r 6)) 1 1 (SharedT.abs ⟨t0 w.params,15,life,⟨[]⟩,drawn,187,os⟩) (blockOf (behindTheImports PW) env cE ⟨0,0,0,0⟩ BB)=some (.next,(SharedT.abs ⟨t0 w.params,15,life,⟨[]⟩,drawn,187,os⟩),cE,⟨0,0,0,0⟩):=h0b (by kernel_rfl)
noncomputable def sts1:List Stmt:=[top 0,top 1]
noncomputable def e3_0(P:Params):List DictEntry:=[en P "__name__" 165 (s "wearplan.errors" 187),en P "__doc__" 166 N,en P "__package__" 167 N,en P "__loader__" 168 (bi "__main__.__loader__#opaque"),en P "__spec__" 169 N,en P "__annotations__" 170 (r 6),en P "__builtins__" 171 (r 4),en P "__file__" 173 (s "/claim/cut.py" 172),en P "__cached__" 174 N,en P "WearError" 206 (r 24)]
noncomputable def o3_0(P:Params):Obj:=di (e3_0 P) 10
noncomputable def e12_1(P:Params):List Value:=[(i 2 0),(i 0 0),(r 20)]
noncomputable def o12_1(P:Params):Obj:=fl N (e12_1 P)
noncomputable def g1(P:Params):List Obj:=[tp [(ty "ValueError")],fl (ty "builtin_function_or_method") [(bi "type.__prepare__"),(ty "type")],di [en P "__module__" 196 (s "wearplan.errors" 187),en P "__qualname__" 198 (s "WearError" 197),en P "__firstlineno__" 200 (i 2 199),en P "__static_attributes__" 201 (r 22)] 4,tp [],fl N [],fl (ty "code") [(s "WearError" 191),(s "WearError" 192),(s "/claim/cut.py" 193),(i 2 0),(i 0 0),(i 0 0),(i 0 0),(i 0 0),(r 18),(b false),(i 181 0),(r 19),N,N,N,N,(i 194 0),(i 2 0),(s "/claim/cut.py" 195)],{cls:=(ty "frame"),slots:=⟨[some (r 20),some (r 3),some (r 17),none,some (s "wearplan.errors" 187),none,some (r 0)]⟩},tp [],di [en P "__module__" 196 (s "wearplan.errors" 187),en P "__firstlineno__" 200 (i 2 199),en P "__static_attributes__" 201 (r 22),en P "__weakref__" 203 (r 25),en P "__doc__" 204 N] 3,co "WearError" [(ty "ValueError")] [(r 24),(ty "ValueError"),(ty "Exception"),(ty "BaseException"),(ty "object")] 23 "WearError" true false [] [some (r 15),none,some (s "WearError" 189),some (s "WearError" 197),some (bi "ValueError.__new__"),some (b true)],fl (ty "getset_descriptor") [(s "__weakref__" 202),(r 24),(bi "ExceptionGroup.__weakref__"),N],fl (ty "super") [(r 24),(r 24),(r 24)],fl (ty "builtin_function_or_method") [(bi "object.__init_subclass__"),(r 24)]]
noncomputable def t1(P:Params):BT:=insL (g1 P) 15 (setL [(3,o3_0 P),(12,o12_1 P)] (t0 P))
theorem pc1(w:World)(os:OsState):segRun treeTable PW w 11 (some (r 6)) 1 196 (SharedT.abs ⟨t0 w.params,15,life,⟨[]⟩,drawn,187,os⟩) (piecesOf sts1 env cE ⟨0,0,0,0⟩ BB)=some (.next,(SharedT.abs ⟨t1 w.params,28,life,⟨[]⟩,drawn,207,os⟩),cE,⟨2,0,3,8⟩):=segRun_of (y0c (by kernel_rfl))
noncomputable def sts2:List Stmt:=[top 2]
noncomputable def e3_1(P:Params):List DictEntry:=(e3_0 P)++[en P "NoRounds" 222 (r 37)]
noncomputable def o3_1(P:Params):Obj:=di (e3_1 P) 11
noncomputable def e12_2(P:Params):List Value:=e12_1 P++[(i 4 0),(i 0 0),(r 33)]
noncomputable def o12_2(P:Params):Obj:=fl N (e12_2 P)
noncomputable def o24_1(P:Params):Obj:=co "WearError" [(ty "ValueError")] [(r 24),(ty "ValueError"),(ty "Exception"),(ty "BaseException"),(ty "object")] 23 "WearError" true false [(r 37)] [some (r 15),none,some (s "WearError" 189),some (s "WearError" 197),some (bi "ValueError.__new__"),some (b true)]
noncomputable def g2(P:Params):List Obj:=[tp [(r 24)],fl (ty "builtin_function_or_method") [(bi "type.__prepare__"),(ty "type")],di [en P "__module__" 214 (s "wearplan.errors" 187),en P "__qualname__" 216 (s "NoRounds" 215),en P "__firstlineno__" 218 (i 4 217),en P "__static_attributes__" 219 (r 35)] 4,tp [],fl N [],fl (ty "code") [(s "NoRounds" 209),(s "NoRounds" 210),(s "/claim/cut.py" 211),(i 4 0),(i 0 0),(i 0 0),(i 0 0),(i 0 0),(r 31),(b false),(i 181 0),(r 32),N,N,N,N,(i 212 0),(i 4 0),(s "/claim/cut.py" 213)],{cls:=(ty "frame"),slots:=⟨[some (r 33),some (r 3),some (r 30),none,some (s "wearplan.errors" 187),none,some (r 0)]⟩},tp [],di [en P "__module__" 214 (s "wearplan.errors" 187),en P "__firstlineno__" 218 (i 4 217),en P "__static_attributes__" 219 (r 35),en P "__doc__" 220 N] 2,co "NoRounds" [(r 24)] [(r 37),(r 24),(ty "ValueError"),(ty "Exception"),(ty "BaseException"),(ty "object")] 36 "NoRounds" true false [] [some (r 28),none,some (s "NoRounds" 207),some (s "NoRounds" 215),some (bi "ValueError.__new__"),some (b true)],fl (ty "super") [(r 37),(r 37),(r 37)],fl (ty "builtin_function_or_method") [(bi "object.__init_subclass__"),(r 37)]]
noncomputable def t2(P:Params):BT:=insL (g2 P) 28 (setL [(3,o3_1 P),(12,o12_2 P),(24,o24_1 P)] (t1 P))
theorem pc2(w:World)(os:OsState):segRun treeTable PW w 11 (some (r 6)) 1 214 (SharedT.abs ⟨t1 w.params,28,life,⟨[]⟩,drawn,207,os⟩) (piecesOf sts2 env cE ⟨2,0,3,8⟩ BB)=some (.next,(SharedT.abs ⟨t2 w.params,40,life,⟨[]⟩,drawn,223,os⟩),cE,⟨4,0,5,8⟩):=segRun_of (y0c (by kernel_rfl))
noncomputable def sts3:List Stmt:=[top 3]
noncomputable def e3_2(P:Params):List DictEntry:=(e3_1 P)++[en P "NoPlan" 247 (r 56)]
noncomputable def o3_2(P:Params):Obj:=di (e3_2 P) 12
noncomputable def e12_3(P:Params):List Value:=e12_2 P++[(i 6 0),(i 0 0),(r 45)]
noncomputable def o12_3(P:Params):Obj:=fl N (e12_3 P)
noncomputable def o24_2(P:Params):Obj:=co "WearError" [(ty "ValueError")] [(r 24),(ty "ValueError"),(ty "Exception"),(ty "BaseException"),(ty "object")] 23 "WearError" true false [(r 37),(r 56)] [some (r 15),none,some (s "WearError" 189),some (s "WearError" 197),some (bi "ValueError.__new__"),some (b true)]
noncomputable def g3(P:Params):List Obj:=[tp [(r 24)],fl (ty "builtin_function_or_method") [(bi "type.__prepare__"),(ty "type")],di [en P "__module__" 230 (s "wearplan.errors" 187),en P "__qualname__" 232 (s "NoPlan" 231),en P "__firstlineno__" 234 (i 6 233),en P "__init__" 242 (r 53),en P "__static_attributes__" 244 (r 54)] 5,tp [],fl N [(i 8 0),(i 4 0),(r 52)],fl (ty "code") [(s "NoPlan" 225),(s "NoPlan" 226),(s "/claim/cut.py" 227),(i 6 0),(i 0 0),(i 0 0),(i 0 0),(i 0 0),(r 43),(b false),(i 181 0),(r 44),N,N,N,N,(i 228 0),(i 6 0),(s "/claim/cut.py" 229)],{cls:=(ty "frame"),slots:=⟨[some (r 45),some (r 3),some (r 42),none,some (s "wearplan.errors" 187),none,some (r 0)]⟩},tp [],fl N [],tp [(s "self" 238),(s "at" 239)],tp [],fn N "__init__" "NoPlan.__init__" (L2.inClass (top 3) 0) 0 N N,fl (ty "code") [(s "__init__" 235),(s "NoPlan.__init__" 236),(s "/claim/cut.py" 237),(i 8 0),(i 2 0),(i 0 0),(i 0 0),(i 3 0),(r 47),(b true),(i 181 0),(r 48),N,(r 49),(r 50),(r 51),(i 240 0),(i 8 0),(s "/claim/cut.py" 241)],fn (ty "function") "__init__" "NoPlan.__init__" (L2.inClass (top 3) 0) 3 (s "wearplan.errors" 187) (r 52),tp [(s "at" 243)],di [en P "__module__" 230 (s "wearplan.errors" 187),en P "__firstlineno__" 234 (i 6 233),en P "__init__" 242 (r 53),en P "__static_attributes__" 244 (r 54),en P "__doc__" 245 N] 2,co "NoPlan" [(r 24)] [(r 56),(r 24),(ty "ValueError"),(ty "Exception"),(ty "BaseException"),(ty "object")] 55 "NoPlan" true false [] [some (r 40),none,some (s "NoPlan" 223),some (s "NoPlan" 231),some (bi "ValueError.__new__"),some (b true)],fl (ty "super") [(r 56),(r 56),(r 56)],fl (ty "builtin_function_or_method") [(bi "object.__init_subclass__"),(r 56)]]
noncomputable def t3(P:Params):BT:=insL (g3 P) 40 (setL [(3,o3_2 P),(12,o12_3 P),(24,o24_2 P)] (t2 P))
theorem pc3(w:World)(os:OsState):segRun treeTable PW w 11 (some (r 6)) 1 246 (SharedT.abs ⟨t2 w.params,40,life,⟨[]⟩,drawn,223,os⟩) (piecesOf sts3 env cE ⟨4,0,5,8⟩ BB)=some (.next,(SharedT.abs ⟨t3 w.params,59,life,⟨[]⟩,drawn,248,os⟩),cE,⟨6,0,9,20⟩):=segRun_of (y0c (by kernel_rfl))
noncomputable def sts4:List Stmt:=[top 4,top 5,top 6,top 7,top 8,top 9,top 10]
noncomputable def e3_3(P:Params):List DictEntry:=((e3_2 P).set 0 (en P "__name__" 165 (s "wearplan.signs" 273)))++[en P "NoText" 272 (r 75),en P "is_number" 281 (r 84),en P "is_whole" 290 (r 91),en P "is_row" 297 (r 98),en P "is_whole_row" 303 (r 103),en P "is_rising_row" 309 (r 108)]
noncomputable def o3_3(P:Params):Obj:=di (e3_3 P) 18
noncomputable def e12_4(P:Params):List Value:=e12_3 P++[(i 10 0),(i 0 0),(r 64),(i 15 0),(i 0 0),(r 83),(i 17 0),(i 0 0),(r 90),(i 19 0),(i 0 0),(r 97),(i 21 0),(i 0 0),(r 102),(i 25 0),(i 0 0),(r 107)]
noncomputable def o12_4(P:Params):Obj:=fl N (e12_4 P)
noncomputable def z1h(P:Params):Obj:=co "WearError" [(ty "ValueError")] [(r 24),(ty "ValueError"),(ty "Exception"),(ty "BaseException"),(ty "object")] 23 "WearError" true false [(r 37),(r 56),(r 75)] [some (r 15),none,some (s "WearError" 189),some (s "WearError" 197),some (bi "ValueError.__new__"),some (b true)]
noncomputable def g4(P:Params):List Obj:=(tp [(r 24)]::fl (ty "builtin_function_or_method") [(bi "type.__prepare__"),(ty "type")]::di [en P "__module__" 255 (s "wearplan.errors" 187),en P "__qualname__" 257 (s "NoText" 256),en P "__firstlineno__" 259 (i 10 258),en P "__init__" 267 (r 72),en P "__static_attributes__" 269 (r 73)] 5::tp []::fl N [(i 12 0),(i 4 0),(r 71)]::fl (ty "code") [(s "NoText" 250),(s "NoText" 251),(s "/claim/cut.py" 252),(i 10 0),(i 0 0),(i 0 0),(i 0 0),(i 0 0),(r 62),(b false),(i 181 0),(r 63),N,N,N,N,(i 253 0),(i 10 0),(s "/claim/cut.py" 254)]::{cls:=(ty "frame"),slots:=⟨[some (r 64),some (r 3),some (r 61),none,some (s "wearplan.errors" 187),none,some (r 0)]⟩}::tp []::fl N []::tp [(s "self" 263),(s "row" 264)]::tp []::fn N "__init__" "NoText.__init__" (L2.inClass (top 4) 0) 0 N N::fl (ty "code") [(s "__init__" 260),(s "NoText.__init__" 261),(s "/claim/cut.py" 262),(i 12 0),(i 2 0),(i 0 0),(i 0 0),(i 3 0),(r 66),(b true),(i 181 0),(r 67),N,(r 68),(r 69),(r 70),(i 265 0),(i 12 0),(s "/claim/cut.py" 266)]::fn (ty "function") "__init__" "NoText.__init__" (L2.inClass (top 4) 0) 3 (s "wearplan.errors" 187) (r 71)::tp [(s "row" 268)]::di [en P "__module__" 255 (s "wearplan.errors" 187),en P "__firstlineno__" 259 (i 10 258),en P "__init__" 267 (r 72),en P "__static_attributes__" 269 (r 73),en P "__doc__" 270 N] 2::co "NoText" [(r 24)] [(r 75),(r 24),(ty "ValueError"),(ty "Exception"),(ty "BaseException"),(ty "object")] 74 "NoText" true false [] [some (r 59),none,some (s "NoText" 248),some (s "NoText" 256),some (bi "ValueError.__new__"),some (b true)]::fl (ty "super") [(r 75),(r 75),(r 75)]::fl (ty "builtin_function_or_method") [(bi "object.__init_subclass__"),(r 75)]::tp []::fl N []::tp [(s "thing" 278)]::tp []::fn N "is_number" "is_number" (top 6) 0 N N::fl (ty "code") [(s "is_number" 275),(s "is_number" 276),(s "/claim/cut.py" 277),(i 15 0),(i 1 0),(i 0 0),(i 0 0),(i 3 0),(r 78),(b true),(i 181 0),(r 79),N,(r 80),(r 81),(r 82),(i 279 0),(i 15 0),(s "/claim/cut.py" 280)]::fn (ty "function") "is_number" "is_number" (top 6) 3 (s "wearplan.signs" 273) (r 83)::tp []::fl N []::tp [(s "thing" 285),(s "least" 286),(s "most" 287)]::tp []::fn N "is_whole" "is_whole" (top 7) 0 N N::fl (ty "code") [(s "is_whole" 282),(s "is_whole" 283),(s "/claim/cut.py" 284),(i 17 0),(i 3 0),(i 0 0),(i 0 0),(i 3 0),(r 85),(b true),(i 181 0),(r 86),N,(r 87),(r 88),(r 89),(i 288 0),(i 17 0),(s "/claim/cut.py" 289)]::fn (ty "function") "is_whole" "is_whole" (top 7) 3 (s "wearplan.signs" 273) (r 90)::tp []::fl N []::tp [(s "thing" 294)]::tp []::fn N "is_row" "is_row" (top 8) 0 N N::fl (ty "code") [(s "is_row" 291),(s "is_row" 292),(s "/claim/cut.py" 293),(i 19 0),(i 1 0),(i 0 0),(i 0 0),(i 3 0),(r 92),(b true),(i 181 0),(r 93),N,(r 94),(r 95),(r 96),(i 295 0),(i 19 0),(s "/claim/cut.py" 296)]::fn (ty "function") "is_row" "is_row" (top 8) 3 (s "wearplan.signs" 273) (r 97)::tp []::fl N []::fn N "is_whole_row" "is_whole_row" (top 9) 0 N N::fl (ty "code") [(s "is_whole_row" 298),(s "is_whole_row" 299),(s "/claim/cut.py" 300),(i 21 0),(i 5 0),(i 0 0),(i 0 0),(i 3 0),(r 99),(b true),(i 181 0),(r 100),N,N,N,(r 101),(i 301 0),(i 21 0),(s "/claim/cut.py" 302)]::fn (ty "function") "is_whole_row" "is_whole_row" (top 9) 3 (s "wearplan.signs" 273) (r 102)::tp []::fl N []::fn N "is_rising_row" "is_rising_row" (top 10) 0 N N::fl (ty "code") [(s "is_rising_row" 304),(s "is_rising_row" 305),(s "/claim/cut.py" 306),(i 25 0),(i 3 0),(i 0 0),(i 0 0),(i 3 0),(r 104),(b true),(i 181 0),(r 105),N,N,N,(r 106),(i 307 0),(i 25 0),(s "/claim/cut.py" 308)]::fn (ty "function") "is_rising_row" "is_rising_row" (top 10) 3 (s "wearplan.signs" 273) (r 107):: [])
noncomputable def t4(P:Params):BT:=insL (g4 P) 59 (setL [(3,o3_3 P),(12,o12_4 P),(24,z1h P)] (t3 P))
theorem pc4(w:World)(os:OsState):segRun treeTable PW w 11 (some (r 6)) 1 396 (SharedT.abs ⟨t3 w.params,59,life,⟨[]⟩,drawn,248,os⟩) (piecesOf sts4 env cE ⟨6,0,9,20⟩ BB)=some (.next,(SharedT.abs ⟨t4 w.params,109,life,⟨[]⟩,drawn,310,os⟩),cE,⟨25,0,28,71⟩):=segRun_of (y0c (by kernel_rfl))
noncomputable def sts5:List Stmt:=[top 11,top 12,top 13,top 14,top 15,top 16,top 17,top 18,top 19,top 20,top 21,top 22,top 23,top 24,top 25,top 26,top 27,top 28]
noncomputable def e3_4(P:Params):List DictEntry:=((e3_3 P).set 0 (en P "__name__" 165 (s "wearplan.texts" 357)))++[en P "GREATEST_FIRST" 313 (i 47 312),en P "MOST_ROUNDS" 315 (i 24 314),en P "check_first" 322 (r 115),en P "MOST_PARTS" 326 (i 4 325),en P "is_choice_among" 334 (r 122),en P "wrong_entry" 347 (r 129),en P "check_plan" 356 (r 136),en P "numbers_shown" 364 (r 141),en P "show_plan" 370 (r 146),en P "lines_of" 378 (r 153),en P "words_of" 384 (r 158),en P "number_of" 394 (r 165),en P "read_head" 403 (r 172),en P "read_round" 409 (r 177)]
noncomputable def o3_4(P:Params):Obj:=di (e3_4 P) 32
noncomputable def e12_5(P:Params):List Value:=e12_4 P++[(i 32 0),(i 0 0),(r 114),(i 37 0),(i 0 0),(r 121),(i 40 0),(i 0 0),(r 128),(i 47 0),(i 0 0),(r 135),(i 52 0),(i 0 0),(r 140),(i 54 0),(i 0 0),(r 145),(i 62 0),(i 0 0),(r 152),(i 67 0),(i 0 0),(r 157),(i 69 0),(i 0 0),(r 164),(i 74 0),(i 0 0),(r 171),(i 82 0),(i 0 0),(r 176)]
noncomputable def o12_5(P:Params):Obj:=fl N (e12_5 P)
noncomputable def g5(P:Params):List Obj:=(tp []::fl N []::tp [(s "first" 319)]::tp []::fn N "check_first" "check_first" (top 14) 0 N N::fl (ty "code") [(s "check_first" 316),(s "check_first" 317),(s "/claim/cut.py" 318),(i 32 0),(i 1 0),(i 0 0),(i 0 0),(i 3 0),(r 109),(b true),(i 181 0),(r 110),N,(r 111),(r 112),(r 113),(i 320 0),(i 32 0),(s "/claim/cut.py" 321)]::fn (ty "function") "check_first" "check_first" (top 14) 3 (s "wearplan.parts" 310) (r 114)::tp []::fl N []::tp [(s "thing" 330),(s "many" 331)]::tp []::fn N "is_choice_among" "is_choice_among" (top 17) 0 N N::fl (ty "code") [(s "is_choice_among" 327),(s "is_choice_among" 328),(s "/claim/cut.py" 329),(i 37 0),(i 2 0),(i 0 0),(i 0 0),(i 3 0),(r 116),(b true),(i 181 0),(r 117),N,(r 118),(r 119),(r 120),(i 332 0),(i 37 0),(s "/claim/cut.py" 333)]::fn (ty "function") "is_choice_among" "is_choice_among" (top 17) 3 (s "wearplan.works" 323) (r 121)::tp []::fl N []::tp [(s "thing" 340),(s "many" 341),(s "most" 342),(s "k" 343),(s "entry" 344)]::tp []::fn N "wrong_entry" "wrong_entry" (top 19) 0 N N::fl (ty "code") [(s "wrong_entry" 337),(s "wrong_entry" 338),(s "/claim/cut.py" 339),(i 40 0),(i 3 0),(i 0 0),(i 0 0),(i 3 0),(r 123),(b true),(i 181 0),(r 124),N,(r 125),(r 126),(r 127),(i 345 0),(i 40 0),(s "/claim/cut.py" 346)]::fn (ty "function") "wrong_entry" "wrong_entry" (top 19) 3 (s "wearplan.walks" 335) (r 128)::tp []::fl N []::tp [(s "plan" 351),(s "many" 352),(s "at" 353)]::tp []::fn N "check_plan" "check_plan" (top 20) 0 N N::fl (ty "code") [(s "check_plan" 348),(s "check_plan" 349),(s "/claim/cut.py" 350),(i 47 0),(i 2 0),(i 0 0),(i 0 0),(i 3 0),(r 130),(b true),(i 181 0),(r 131),N,(r 132),(r 133),(r 134),(i 354 0),(i 47 0),(s "/claim/cut.py" 355)]::fn (ty "function") "check_plan" "check_plan" (top 20) 3 (s "wearplan.walks" 335) (r 135)::tp []::fl N []::fn N "numbers_shown" "numbers_shown" (top 22) 0 N N::fl (ty "code") [(s "numbers_shown" 359),(s "numbers_shown" 360),(s "/claim/cut.py" 361),(i 52 0),(i 1 0),(i 0 0),(i 0 0),(i 3 0),(r 137),(b true),(i 181 0),(r 138),N,N,N,(r 139),(i 362 0),(i 52 0),(s "/claim/cut.py" 363)]::fn (ty "function") "numbers_shown" "numbers_shown" (top 22) 3 (s "wearplan.texts" 357) (r 140)::tp []::fl N []::fn N "show_plan" "show_plan" (top 23) 0 N N::fl (ty "code") [(s "show_plan" 365),(s "show_plan" 366),(s "/claim/cut.py" 367),(i 54 0),(i 2 0),(i 0 0),(i 0 0),(i 3 0),(r 142),(b true),(i 181 0),(r 143),N,N,N,(r 144),(i 368 0),(i 54 0),(s "/claim/cut.py" 369)]::fn (ty "function") "show_plan" "show_plan" (top 23) 3 (s "wearplan.texts" 357) (r 145)::tp []::fl N []::tp [(s "text" 374),(s "lines" 375)]::tp []::fn N "lines_of" "lines_of" (top 24) 0 N N::fl (ty "code") [(s "lines_of" 371),(s "lines_of" 372),(s "/claim/cut.py" 373),(i 62 0),(i 1 0),(i 0 0),(i 0 0),(i 3 0),(r 147),(b true),(i 181 0),(r 148),N,(r 149),(r 150),(r 151),(i 376 0),(i 62 0),(s "/claim/cut.py" 377)]::fn (ty "function") "lines_of" "lines_of" (top 24) 3 (s "wearplan.texts" 357) (r 152)::tp []::fl N []::fn N "words_of" "words_of" (top 25) 0 N N::fl (ty "code") [(s "words_of" 379),(s "words_of" 380),(s "/claim/cut.py" 381),(i 67 0),(i 1 0),(i 0 0),(i 0 0),(i 3 0),(r 154),(b true),(i 181 0),(r 155),N,N,N,(r 156),(i 382 0),(i 67 0),(s "/claim/cut.py" 383)]::fn (ty "function") "words_of" "words_of" (top 25) 3 (s "wearplan.texts" 357) (r 157)::tp []::fl N []::tp [(s "word" 388),(s "least" 389),(s "most" 390),(s "number" 391)]::tp []::fn N "number_of" "number_of" (top 26) 0 N N::fl (ty "code") [(s "number_of" 385),(s "number_of" 386),(s "/claim/cut.py" 387),(i 69 0),(i 3 0),(i 0 0),(i 0 0),(i 3 0),(r 159),(b true),(i 181 0),(r 160),N,(r 161),(r 162),(r 163),(i 392 0),(i 69 0),(s "/claim/cut.py" 393)]::fn (ty "function") "number_of" "number_of" (top 26) 3 (s "wearplan.texts" 357) (r 164)::tp []::fl N []::tp [(s "words" 398),(s "rounds" 399),(s "first" 400)]::tp []::fn N "read_head" "read_head" (top 27) 0 N N::fl (ty "code") [(s "read_head" 395),(s "read_head" 396),(s "/claim/cut.py" 397),(i 74 0),(i 1 0),(i 0 0),(i 0 0),(i 3 0),(r 166),(b true),(i 181 0),(r 167),N,(r 168),(r 169),(r 170),(i 401 0),(i 74 0),(s "/claim/cut.py" 402)]::fn (ty "function") "read_head" "read_head" (top 27) 3 (s "wearplan.texts" 357) (r 171)::tp []::fl N []::fn N "read_round" "read_round" (top 28) 0 N N::fl (ty "code") [(s "read_round" 404),(s "read_round" 405),(s "/claim/cut.py" 406),(i 82 0),(i 3 0),(i 0 0),(i 0 0),(i 3 0),(r 173),(b true),(i 181 0),(r 174),N,N,N,(r 175),(i 407 0),(i 82 0),(s "/claim/cut.py" 408)]::fn (ty "function") "read_round" "read_round" (top 28) 3 (s "wearplan.texts" 357) (r 176):: [])
noncomputable def t5(P:Params):BT:=insL (g5 P) 109 (setL [(3,o3_4 P),(12,o12_5 P)] (t4 P))
theorem pc5(w:World)(os:OsState):segRun treeTable PW w 11 (some (r 6)) 1 384 (SharedT.abs ⟨t4 w.params,109,life,⟨[]⟩,drawn,310,os⟩) (piecesOf sts5 env cE ⟨25,0,28,71⟩ BB)=some (.next,(SharedT.abs ⟨t5 w.params,178,life,⟨[]⟩,drawn,410,os⟩),cE,⟨82,0,89,33⟩):=segRun_of (y0c (by kernel_rfl))
noncomputable def sts6:List Stmt:=[top 29,top 30,top 31,top 32,top 33,top 34,top 35,top 36,top 37,top 38,top 39,top 40,top 41]
noncomputable def e3_5(P:Params):List DictEntry:=((e3_4 P).set 0 (en P "__name__" 165 (s "law_wearplan_k32_plans_as_texts" 432)))++[en P "rows_of" 415 (r 182),en P "read_plan" 431 (r 189),en P "_law_cell" 441 (r 196),en P "_law_draw" 451 (r 203),en P "_law_deck" 459 (r 210),en P "_law_take" 468 (r 217),en P "_law_number" 476 (r 224),en P "_law_plan" 482 (r 229),en P "_law_rows" 488 (r 234),en P "_law_laid" 500 (r 241),en P "_law_right" 506 (r 246),en P "_law_refused" 516 (r 253)]
noncomputable def o3_5(P:Params):Obj:=di (e3_5 P) 44
noncomputable def e12_6(P:Params):List Value:=e12_5 P++[(i 90 0),(i 0 0),(r 181),(i 99 0),(i 0 0),(r 188),(i 115 0),(i 0 0),(r 195),(i 119 0),(i 0 0),(r 202),(i 123 0),(i 0 0),(r 209),(i 126 0),(i 0 0),(r 216),(i 133 0),(i 0 0),(r 223),(i 135 0),(i 0 0),(r 228),(i 140 0),(i 0 0),(r 233),(i 146 0),(i 0 0),(r 240),(i 156 0),(i 0 0),(r 245),(i 167 0),(i 0 0),(r 252)]
noncomputable def o12_6(P:Params):Obj:=fl N (e12_6 P)
noncomputable def g6(P:Params):List Obj:=(tp []::fl N []::fn N "rows_of" "rows_of" (top 29) 0 N N::fl (ty "code") [(s "rows_of" 410),(s "rows_of" 411),(s "/claim/cut.py" 412),(i 90 0),(i 1 0),(i 0 0),(i 0 0),(i 3 0),(r 178),(b true),(i 181 0),(r 179),N,N,N,(r 180),(i 413 0),(i 90 0),(s "/claim/cut.py" 414)]::fn (ty "function") "rows_of" "rows_of" (top 29) 3 (s "wearplan.texts" 357) (r 181)::tp []::fl N []::tp [(s "text" 419),(s "counted" 420),(s "head" 421),(s "rounds" 422),(s "first" 423),(s "plan" 424),(s "free" 425),(s "row" 426),(s "words" 427),(s "told" 428)]::tp []::fn N "read_plan" "read_plan" (top 30) 0 N N::fl (ty "code") [(s "read_plan" 416),(s "read_plan" 417),(s "/claim/cut.py" 418),(i 99 0),(i 1 0),(i 0 0),(i 0 0),(i 3 0),(r 183),(b true),(i 181 0),(r 184),N,(r 185),(r 186),(r 187),(i 429 0),(i 99 0),(s "/claim/cut.py" 430)]::fn (ty "function") "read_plan" "read_plan" (top 30) 3 (s "wearplan.texts" 357) (r 188)::tp []::fl N []::tp [(s "_law_script" 437),(s "_law_k" 438)]::tp []::fn N "_law_cell" "_law_cell" (top 32) 0 N N::fl (ty "code") [(s "_law_cell" 434),(s "_law_cell" 435),(s "/claim/cut.py" 436),(i 115 0),(i 2 0),(i 0 0),(i 0 0),(i 3 0),(r 190),(b true),(i 181 0),(r 191),N,(r 192),(r 193),(r 194),(i 439 0),(i 115 0),(s "/claim/cut.py" 440)]::fn (ty "function") "_law_cell" "_law_cell" (top 32) 3 (s "law_wearplan_k32_plans_as_texts" 432) (r 195)::tp []::fl N []::tp [(s "_law_script" 445),(s "_law_k" 446),(s "_law_many" 447),(s "_law_a" 448)]::tp []::fn N "_law_draw" "_law_draw" (top 33) 0 N N::fl (ty "code") [(s "_law_draw" 442),(s "_law_draw" 443),(s "/claim/cut.py" 444),(i 119 0),(i 3 0),(i 0 0),(i 0 0),(i 3 0),(r 197),(b true),(i 181 0),(r 198),N,(r 199),(r 200),(r 201),(i 449 0),(i 119 0),(s "/claim/cut.py" 450)]::fn (ty "function") "_law_draw" "_law_draw" (top 33) 3 (s "law_wearplan_k32_plans_as_texts" 432) (r 202)::tp []::fl N []::tp [(s "_law_script" 455),(s "_law_cell_here" 456)]::tp []::fn N "_law_deck" "_law_deck" (top 34) 0 N N::fl (ty "code") [(s "_law_deck" 452),(s "_law_deck" 453),(s "/claim/cut.py" 454),(i 123 0),(i 1 0),(i 0 0),(i 0 0),(i 3 0),(r 204),(b true),(i 181 0),(r 205),N,(r 206),(r 207),(r 208),(i 457 0),(i 123 0),(s "/claim/cut.py" 458)]::fn (ty "function") "_law_deck" "_law_deck" (top 34) 3 (s "law_wearplan_k32_plans_as_texts" 432) (r 209)::tp []::fl N []::tp [(s "_law_deck_here" 463),(s "_law_many" 464),(s "_law_digit" 465)]::tp []::fn N "_law_take" "_law_take" (top 35) 0 N N::fl (ty "code") [(s "_law_take" 460),(s "_law_take" 461),(s "/claim/cut.py" 462),(i 126 0),(i 2 0),(i 0 0),(i 0 0),(i 3 0),(r 211),(b true),(i 181 0),(r 212),N,(r 213),(r 214),(r 215),(i 466 0),(i 126 0),(s "/claim/cut.py" 467)]::fn (ty "function") "_law_take" "_law_take" (top 35) 3 (s "law_wearplan_k32_plans_as_texts" 432) (r 216)::tp []::fl N []::tp [(s "_law_found" 472),(s "_law_due" 473)]::tp []::fn N "_law_number" "_law_number" (top 36) 0 N N::fl (ty "code") [(s "_law_number" 469),(s "_law_number" 470),(s "/claim/cut.py" 471),(i 133 0),(i 2 0),(i 0 0),(i 0 0),(i 3 0),(r 218),(b true),(i 181 0),(r 219),N,(r 220),(r 221),(r 222),(i 474 0),(i 133 0),(s "/claim/cut.py" 475)]::fn (ty "function") "_law_number" "_law_number" (top 36) 3 (s "law_wearplan_k32_plans_as_texts" 432) (r 223)::tp []::fl N []::fn N "_law_plan" "_law_plan" (top 37) 0 N N::fl (ty "code") [(s "_law_plan" 477),(s "_law_plan" 478),(s "/claim/cut.py" 479),(i 135 0),(i 1 0),(i 0 0),(i 0 0),(i 3 0),(r 225),(b true),(i 181 0),(r 226),N,N,N,(r 227),(i 480 0),(i 135 0),(s "/claim/cut.py" 481)]::fn (ty "function") "_law_plan" "_law_plan" (top 37) 3 (s "law_wearplan_k32_plans_as_texts" 432) (r 228)::tp []::fl N []::fn N "_law_rows" "_law_rows" (top 38) 0 N N::fl (ty "code") [(s "_law_rows" 483),(s "_law_rows" 484),(s "/claim/cut.py" 485),(i 140 0),(i 2 0),(i 0 0),(i 0 0),(i 3 0),(r 230),(b true),(i 181 0),(r 231),N,N,N,(r 232),(i 486 0),(i 140 0),(s "/claim/cut.py" 487)]::fn (ty "function") "_law_rows" "_law_rows" (top 38) 3 (s "law_wearplan_k32_plans_as_texts" 432) (r 233)::tp []::fl N []::tp [(s "_law_deck_here" 492),(s "_law_rows_here" 493),(s "_law_text" 494),(s "_law_row" 495),(s "_law_line" 496),(s "_law_word" 497)]::tp []::fn N "_law_laid" "_law_laid" (top 39) 0 N N::fl (ty "code") [(s "_law_laid" 489),(s "_law_laid" 490),(s "/claim/cut.py" 491),(i 146 0),(i 2 0),(i 0 0),(i 0 0),(i 3 0),(r 235),(b true),(i 181 0),(r 236),N,(r 237),(r 238),(r 239),(i 498 0),(i 146 0),(s "/claim/cut.py" 499)]::fn (ty "function") "_law_laid" "_law_laid" (top 39) 3 (s "law_wearplan_k32_plans_as_texts" 432) (r 240)::tp []::fl N []::fn N "_law_right" "_law_right" (top 40) 0 N N::fl (ty "code") [(s "_law_right" 501),(s "_law_right" 502),(s "/claim/cut.py" 503),(i 156 0),(i 3 0),(i 0 0),(i 0 0),(i 3 0),(r 242),(b true),(i 181 0),(r 243),N,N,N,(r 244),(i 504 0),(i 156 0),(s "/claim/cut.py" 505)]::fn (ty "function") "_law_right" "_law_right" (top 40) 3 (s "law_wearplan_k32_plans_as_texts" 432) (r 245)::tp []::fl N []::tp [(s "_law_plan_here" 510),(s "_law_first" 511),(s "_law_found" 512),(s "e" 513)]::tp []::fn N "_law_refused" "_law_refused" (top 41) 0 N N::fl (ty "code") [(s "_law_refused" 507),(s "_law_refused" 508),(s "/claim/cut.py" 509),(i 167 0),(i 2 0),(i 0 0),(i 0 0),(i 3 0),(r 247),(b true),(i 181 0),(r 248),N,(r 249),(r 250),(r 251),(i 514 0),(i 167 0),(s "/claim/cut.py" 515)]::fn (ty "function") "_law_refused" "_law_refused" (top 41) 3 (s "law_wearplan_k32_plans_as_texts" 432) (r 252):: [])
noncomputable def t6(P:Params):BT:=insL (g6 P) 178 (setL [(3,o3_5 P),(12,o12_6 P)] (t5 P))
theorem pc6(w:World)(os:OsState):segRun treeTable PW w 11 (some (r 6)) 1 371 (SharedT.abs ⟨t5 w.params,178,life,⟨[]⟩,drawn,410,os⟩) (piecesOf sts6 env cE ⟨82,0,89,33⟩ BB)=some (.next,(SharedT.abs ⟨t6 w.params,254,life,⟨[]⟩,drawn,517,os⟩),cE,⟨167,0,177,21⟩):=segRun_of (y0c (by kernel_rfl))
noncomputable def sts7:List Stmt:=[top 42,top 43]
noncomputable def e3_6(P:Params):List DictEntry:=(e3_5 P)++[en P "_law_refusals" 531 (r 260),en P "law" 537 (r 265)]
noncomputable def o3_6(P:Params):Obj:=di (e3_6 P) 46
noncomputable def e12_7(P:Params):List Value:=e12_6 P++[(i 178 0),(i 0 0),(r 259),(i 193 0),(i 0 0),(r 264)]
noncomputable def o12_7(P:Params):Obj:=fl N (e12_7 P)
noncomputable def g7(P:Params):List Obj:=[tp [],fl N [],tp [(s "_law_deck_here" 520),(s "_law_plan_here" 521),(s "_law_first" 522),(s "_law_bad" 523),(s "_law_rows_here" 524),(s "_law_bent" 525),(s "_law_at" 526),(s "_law_things" 527),(s "_law_k" 528)],tp [],fn N "_law_refusals" "_law_refusals" (top 42) 0 N N,fl (ty "code") [(s "_law_refusals" 517),(s "_law_refusals" 518),(s "/claim/cut.py" 519),(i 178 0),(i 3 0),(i 0 0),(i 0 0),(i 3 0),(r 254),(b true),(i 181 0),(r 255),N,(r 256),(r 257),(r 258),(i 529 0),(i 178 0),(s "/claim/cut.py" 530)],fn (ty "function") "_law_refusals" "_law_refusals" (top 42) 3 (s "law_wearplan_k32_plans_as_texts" 432) (r 259),tp [],fl N [],fn N "law" "law" (top 43) 0 N N,fl (ty "code") [(s "law" 532),(s "law" 533),(s "/claim/cut.py" 534),(i 193 0),(i 1 0),(i 0 0),(i 0 0),(i 3 0),(r 261),(b true),(i 181 0),(r 262),N,N,N,(r 263),(i 535 0),(i 193 0),(s "/claim/cut.py" 536)],fn (ty "function") "law" "law" (top 43) 3 (s "law_wearplan_k32_plans_as_texts" 432) (r 264)]
noncomputable def t7(P:Params):BT:=insL (g7 P) 254 (setL [(3,o3_6 P),(12,o12_7 P)] (t6 P))
theorem pc7(w:World)(os:OsState):segRun treeTable PW w 11 (some (r 6)) 1 64 (SharedT.abs ⟨t6 w.params,254,life,⟨[]⟩,drawn,517,os⟩) (piecesOf sts7 env cE ⟨167,0,177,21⟩ BB)=some (.next,(SharedT.abs ⟨t7 w.params,266,life,⟨[]⟩,drawn,538,os⟩),cE,⟨193,0,207,108⟩):=segRun_of (y0c (by kernel_rfl))
noncomputable def HF(P:Params):Heap:=⟨⟨[(boot_o_0 P),(boot_o_1 P),(boot_o_2 P),(o3_6 P),(boot_o_4 P),(boot_o_5 P),(boot_o_6 P),(boot_o_7 P),(boot_o_8 P),(boot_o_9 P),(boot_o_10 P),(o11_0 P),(o12_7 P),(o13_0 P),(o14_0 P)]++(((g1 P).set 9 (z1h P))++((g2 P)++((g3 P)++((g4 P)++((g5 P)++((g6 P)++((g7 P))))))))⟩,life⟩
theorem fin(w:World)(os:OsState):topRun treeTable PW w 11 (some (r 6)) 2 (SharedT.abs ⟨t7 w.params,266,life,⟨[]⟩,drawn,538,os⟩) (restOf [] env cE ⟨193,0,207,108⟩ BB)=some ⟨HF w.params,⟨[]⟩,drawn,538,os⟩:=piece_nil (z1u (by kernel_rfl))
theorem z1g:behindTheImports PW=(sts1++(sts2++(sts3++(sts4++(sts5++(sts6++(sts7++[]))))))):=by kernel_rfl
theorem run(w:World)(os:OsState):topRun treeTable PW w 11 (some (r 6)) (12+(1+(196+(214+(246+(396+(384+(371+(64+2))))))))) ⟨boot_heap w.params,⟨[]⟩,boot_drawn,boot_toks,os⟩ (topStub PW)=some ⟨HF w.params,⟨[]⟩,drawn,538,os⟩:=
 go_top (pre w os) (p0m z1g (blk w os) (piece_app (pc1 w os) (piece_app (pc2 w os) (piece_app (pc3 w os) (piece_app (pc4 w os) (piece_app (pc5 w os) (piece_app (pc6 w os) (piece_app (pc7 w os) (fin w os)))))))))
noncomputable def K(P:Params):Frag:=((nat_lit 2,boot_o_2 P)::(nat_lit 3,o3_6 P)::(nat_lit 15,x g1 0 P)::(nat_lit 22,x g1 7 P)::(nat_lit 23,x g1 8 P)::(nat_lit 24,z1h P)::(nat_lit 25,x g1 10 P)::(nat_lit 28,x g2 0 P)::(nat_lit 35,x g2 7 P)::(nat_lit 36,x g2 8 P)::(nat_lit 37,x g2 9 P)::(nat_lit 40,x g3 0 P)::(nat_lit 47,x g3 7 P)::(nat_lit 49,x g3 9 P)::(nat_lit 50,x g3 10 P)::(nat_lit 52,x g3 12 P)::(nat_lit 53,x g3 13 P)::(nat_lit 54,x g3 14 P)::(nat_lit 55,x g3 15 P)::(nat_lit 56,x g3 16 P)::(nat_lit 59,x g4 0 P)::(nat_lit 66,x g4 7 P)::(nat_lit 68,x g4 9 P)::(nat_lit 69,x g4 10 P)::(nat_lit 71,x g4 12 P)::(nat_lit 72,x g4 13 P)::(nat_lit 73,x g4 14 P)::(nat_lit 74,x g4 15 P)::(nat_lit 75,x g4 16 P)::(nat_lit 78,x g4 19 P)::(nat_lit 80,x g4 21 P)::(nat_lit 81,x g4 22 P)::(nat_lit 83,x g4 24 P)::(nat_lit 84,x g4 25 P)::(nat_lit 85,x g4 26 P)::(nat_lit 87,x g4 28 P)::(nat_lit 88,x g4 29 P)::(nat_lit 90,x g4 31 P)::(nat_lit 91,x g4 32 P)::(nat_lit 92,x g4 33 P)::(nat_lit 94,x g4 35 P)::(nat_lit 95,x g4 36 P)::(nat_lit 97,x g4 38 P)::(nat_lit 98,x g4 39 P)::(nat_lit 99,x g4 40 P)::(nat_lit 102,x g4 43 P)::(nat_lit 103,x g4 44 P)::(nat_lit 104,x g4 45 P)::(nat_lit 107,x g4 48 P)::(nat_lit 108,x g4 49 P)::(nat_lit 109,x g5 0 P)::(nat_lit 111,x g5 2 P)::(nat_lit 112,x g5 3 P)::(nat_lit 114,x g5 5 P)::(nat_lit 115,x g5 6 P)::(nat_lit 116,x g5 7 P)::(nat_lit 118,x g5 9 P)::(nat_lit 119,x g5 10 P)::(nat_lit 121,x g5 12 P)::(nat_lit 122,x g5 13 P)::(nat_lit 123,x g5 14 P)::(nat_lit 125,x g5 16 P)::(nat_lit 126,x g5 17 P)::(nat_lit 128,x g5 19 P)::(nat_lit 129,x g5 20 P)::(nat_lit 130,x g5 21 P)::(nat_lit 132,x g5 23 P)::(nat_lit 133,x g5 24 P)::(nat_lit 135,x g5 26 P)::(nat_lit 136,x g5 27 P)::(nat_lit 137,x g5 28 P)::(nat_lit 140,x g5 31 P)::(nat_lit 141,x g5 32 P)::(nat_lit 142,x g5 33 P)::(nat_lit 145,x g5 36 P)::(nat_lit 146,x g5 37 P)::(nat_lit 147,x g5 38 P)::(nat_lit 149,x g5 40 P)::(nat_lit 150,x g5 41 P)::(nat_lit 152,x g5 43 P)::(nat_lit 153,x g5 44 P)::(nat_lit 154,x g5 45 P)::(nat_lit 157,x g5 48 P)::(nat_lit 158,x g5 49 P)::(nat_lit 159,x g5 50 P)::(nat_lit 161,x g5 52 P)::(nat_lit 162,x g5 53 P)::(nat_lit 164,x g5 55 P)::(nat_lit 165,x g5 56 P)::(nat_lit 166,x g5 57 P)::(nat_lit 168,x g5 59 P)::(nat_lit 169,x g5 60 P)::(nat_lit 171,x g5 62 P)::(nat_lit 172,x g5 63 P)::(nat_lit 173,x g5 64 P)::(nat_lit 176,x g5 67 P)::(nat_lit 177,x g5 68 P)::(nat_lit 178,x g6 0 P)::(nat_lit 181,x g6 3 P)::(nat_lit 182,x g6 4 P)::(nat_lit 183,x g6 5 P)::(nat_lit 185,x g6 7 P)::(nat_lit 186,x g6 8 P)::(nat_lit 188,x g6 10 P)::(nat_lit 189,x g6 11 P)::(nat_lit 190,x g6 12 P)::(nat_lit 192,x g6 14 P)::(nat_lit 193,x g6 15 P)::(nat_lit 195,x g6 17 P)::(nat_lit 196,x g6 18 P)::(nat_lit 197,x g6 19 P)::(nat_lit 199,x g6 21 P)::(nat_lit 200,x g6 22 P)::(nat_lit 202,x g6 24 P)::(nat_lit 203,x g6 25 P)::(nat_lit 204,x g6 26 P)::(nat_lit 206,x g6 28 P)::(nat_lit 207,x g6 29 P)::(nat_lit 209,x g6 31 P)::(nat_lit 210,x g6 32 P)::(nat_lit 211,x g6 33 P)::(nat_lit 213,x g6 35 P)::(nat_lit 214,x g6 36 P)::(nat_lit 216,x g6 38 P)::(nat_lit 217,x g6 39 P)::(nat_lit 218,x g6 40 P)::(nat_lit 220,x g6 42 P)::(nat_lit 221,x g6 43 P)::(nat_lit 223,x g6 45 P)::(nat_lit 224,x g6 46 P)::(nat_lit 225,x g6 47 P)::(nat_lit 228,x g6 50 P)::(nat_lit 229,x g6 51 P)::(nat_lit 230,x g6 52 P)::(nat_lit 233,x g6 55 P)::(nat_lit 234,x g6 56 P)::(nat_lit 235,x g6 57 P)::(nat_lit 237,x g6 59 P)::(nat_lit 238,x g6 60 P)::(nat_lit 240,x g6 62 P)::(nat_lit 241,x g6 63 P)::(nat_lit 242,x g6 64 P)::(nat_lit 245,x g6 67 P)::(nat_lit 246,x g6 68 P)::(nat_lit 247,x g6 69 P)::(nat_lit 249,x g6 71 P)::(nat_lit 250,x g6 72 P)::(nat_lit 252,x g6 74 P)::(nat_lit 253,x g6 75 P)::(nat_lit 254,x g7 0 P)::(nat_lit 256,x g7 2 P)::(nat_lit 257,x g7 3 P)::(nat_lit 259,x g7 5 P)::(nat_lit 260,x g7 6 P)::(nat_lit 261,x g7 7 P)::(nat_lit 264,x g7 10 P)::(nat_lit 265,x g7 11 P):: [])
noncomputable def as:List Addr:=(nat_lit 2::nat_lit 3::nat_lit 15::nat_lit 22::nat_lit 23::nat_lit 24::nat_lit 25::nat_lit 28::nat_lit 35::nat_lit 36::nat_lit 37::nat_lit 40::nat_lit 47::nat_lit 49::nat_lit 50::nat_lit 52::nat_lit 53::nat_lit 54::nat_lit 55::nat_lit 56::nat_lit 59::nat_lit 66::nat_lit 68::nat_lit 69::nat_lit 71::nat_lit 72::nat_lit 73::nat_lit 74::nat_lit 75::nat_lit 78::nat_lit 80::nat_lit 81::nat_lit 83::nat_lit 84::nat_lit 85::nat_lit 87::nat_lit 88::nat_lit 90::nat_lit 91::nat_lit 92::nat_lit 94::nat_lit 95::nat_lit 97::nat_lit 98::nat_lit 99::nat_lit 102::nat_lit 103::nat_lit 104::nat_lit 107::nat_lit 108::nat_lit 109::nat_lit 111::nat_lit 112::nat_lit 114::nat_lit 115::nat_lit 116::nat_lit 118::nat_lit 119::nat_lit 121::nat_lit 122::nat_lit 123::nat_lit 125::nat_lit 126::nat_lit 128::nat_lit 129::nat_lit 130::nat_lit 132::nat_lit 133::nat_lit 135::nat_lit 136::nat_lit 137::nat_lit 140::nat_lit 141::nat_lit 142::nat_lit 145::nat_lit 146::nat_lit 147::nat_lit 149::nat_lit 150::nat_lit 152::nat_lit 153::nat_lit 154::nat_lit 157::nat_lit 158::nat_lit 159::nat_lit 161::nat_lit 162::nat_lit 164::nat_lit 165::nat_lit 166::nat_lit 168::nat_lit 169::nat_lit 171::nat_lit 172::nat_lit 173::nat_lit 176::nat_lit 177::nat_lit 178::nat_lit 181::nat_lit 182::nat_lit 183::nat_lit 185::nat_lit 186::nat_lit 188::nat_lit 189::nat_lit 190::nat_lit 192::nat_lit 193::nat_lit 195::nat_lit 196::nat_lit 197::nat_lit 199::nat_lit 200::nat_lit 202::nat_lit 203::nat_lit 204::nat_lit 206::nat_lit 207::nat_lit 209::nat_lit 210::nat_lit 211::nat_lit 213::nat_lit 214::nat_lit 216::nat_lit 217::nat_lit 218::nat_lit 220::nat_lit 221::nat_lit 223::nat_lit 224::nat_lit 225::nat_lit 228::nat_lit 229::nat_lit 230::nat_lit 233::nat_lit 234::nat_lit 235::nat_lit 237::nat_lit 238::nat_lit 240::nat_lit 241::nat_lit 242::nat_lit 245::nat_lit 246::nat_lit 247::nat_lit 249::nat_lit 250::nat_lit 252::nat_lit 253::nat_lit 254::nat_lit 256::nat_lit 257::nat_lit 259::nat_lit 260::nat_lit 261::nat_lit 264::nat_lit 265:: [])
noncomputable def Q:Program:={PW with main:={PW.main with body:=[top 1,top 2,top 3,top 4,top 6,top 7,top 8,top 9,top 10,top 12,top 13,top 14,top 16,top 17,top 19,top 20,top 22,top 23,top 24,top 25,top 26,top 27,top 28,top 29,top 30,top 32,top 33,top 34,top 35,top 36,top 37,top 38,top 39,top 40,top 41,top 42,top 43]}}
noncomputable abbrev HK:Hook:=kHook K as (fun _=>by kernel_rfl)
noncomputable abbrev RR:RowW:=OpenRow.toRowW (OpenLaw.row PySem.Challenge.rw_wearplan_k32_plans_as_texts)
noncomputable abbrev Xt(s:Shared):Bool:=xlAt Q [] s&&recOk (RowW.records RR) s
theorem z1f(w:World):((boot_heap w.params).isNs mainGlobals&&(Array.mk ([]:List GenState)).size==0,(boot_heap w.params).objs.size,(boot_heap w.params).nsMap mainGlobals "__annotations__")=(true,11,some (.ref 6)):=by kernel_rfl
theorem look1(w:World)(os:OsState):(staticsOk (importedModules PW.main.body) (boot_heap w.params) (HF w.params)&&namesBound PW (HF w.params)&&gensDone (⟨HF w.params,⟨[]⟩,drawn,538,os⟩:Shared)&&laidKept (boot_heap w.params) (HF w.params))=true:=by kernel_rfl
theorem look2(w:World)(os:OsState):openSeen Q [] (importedModules PW.main.body) Xt true (⟨HF w.params,⟨[]⟩,drawn,538,os⟩:Shared)=openGood Q []:=by
 rw[PySem.W.Fast.te4187177175401517315,PySem.W.Fast.te5923862056798008813];kernel_rfl
theorem look3(w:World)(os:OsState):HK.obs (⟨HF w.params,⟨[]⟩,drawn,538,os⟩:Shared)=HK.val w:=by kernel_rfl
theorem k0b:opening PW=plainProg PW.main.scope.names:=by kernel_rfl
theorem d0q(s:Shared):fenceModules? PW s=some s:=by kernel_rfl
theorem left:LeftO PW Q [] Xt HK.obs HK.val 3854:=
 LeftO.of_pieces (boot_open k0b (by decide) d0q) z1f run (by decide) fun w=>funext fun os=>Prod.ext (look1 w os) (Prod.ext (look2 w os) (look3 w os))
theorem ws:OpenLaw.wellSaid PySem.Challenge.rw_wearplan_k32_plans_as_texts=true:=by
 rw[PySem.W.Fast.te9446332074065402090];kernel_rfl
end HD32
local macro_rules
 | `(tactic|walk_at "n0")=>`(tactic|exact PySem.W.mg_none_of (by assumption) (by assumption) (by k_is))
 | `(tactic|walk_at "n1")=>`(tactic|exact ⟨_,PySem.W.mg_of (by assumption) (by assumption) (by k_is)⟩)
 | `(tactic|walk_at "n2")=>`(tactic|exact PySem.W.mg_of (by assumption) (by assumption) (by k_is))
 | `(tactic|walk_at "tr")=>`(tactic|exact DL.topRow3 (PySem.W.mg_of (by assumption) (by assumption) (by k_is)) (by k_is))
 | `(tactic|walk_at "hd")=>`(tactic|exact ⟨by k_is,by kernel_rfl,by k_is⟩)
 | `(tactic|walk_at "ci")=>`(tactic|exact ⟨⟨by k_is,by k_is,by k_is,by k_is⟩,by k_is,by k_is,by k_is,by k_is⟩)
 | `(tactic|walk_at "kn")=>`(tactic|exact ⟨by kernel_rfl,by kernel_rfl,by kernel_rfl,by kernel_rfl,by kernel_rfl,by kernel_rfl,by kernel_rfl⟩)
 | `(tactic|walk_at "na")=>`(tactic|(unfold L2.NoAttr;k_is))
 | `(tactic|walk_at "kr")=>`(tactic|kernel_rfl)
 | `(tactic|walk_at "x0")=>`(tactic|exact ⟨by kernel_rfl,by k_is⟩)
 | `(tactic|walk_at "er")=>`(tactic|exact ⟨by kernel_rfl,by k_is,⟨by kernel_rfl,by k_is,by k_is,by k_is,by k_is,by k_is,by k_is,by k_is⟩⟩)
 | `(tactic|walk_at "ff")=>`(tactic|exact ⟨_,_,by k_is,⟨⟨_,_,_,_,_,_,_,_,_,rfl,by k_is,by k_is⟩,by k_is⟩⟩)
 | `(tactic|walk_at "xm")=>`(tactic|exact ⟨_,_,⟨by kernel_rfl,by k_is,by k_is,by k_is⟩,⟨⟨_,_,_,_,_,_,_,_,_,rfl,by k_is,by k_is⟩,by k_is⟩⟩)
 | `(tactic|walk_at "mk")=>`(tactic|exact ⟨_,_,⟨by k_is,by k_is,by k_is,by k_is⟩,⟨⟨_,_,_,_,_,_,_,_,_,rfl,by k_is,by k_is⟩,by k_is⟩⟩)
open PySem PySem.W PyProof.Rows
set_option maxRecDepth 100000 in
set_option maxHeartbeats 0 in
theorem PySem.Challenge.cw_wearplan_k32_plans_as_texts_holds : PySem.Challenge.rw_wearplan_k32_plans_as_texts.Holds := by
 w_on
 refine holds_law HD32.ws fun said=>?_
 refine holds_open (r:=OpenLaw.row PySem.Challenge.rw_wearplan_k32_plans_as_texts) (q:=HD32.Q) (loose:=[]) (Xt:=HD32.Xt) (XP:=XL HD32.Q []) (Yf:=HD32.HK.obs) (Ya:=HD32.HK.val) (YP:=InK HD32.K) (N:=3854) HD32.left (Hook.of HD32.HK) (Hook.keeps HD32.HK) (fun s e=>xl_of s (Bool.and_eq_true_iff.mp e).1) XL.keeps (by rfl) (by rfl) (by rfl) (fun s e=>recFacts_of (Bool.and_eq_true_iff.mp e).2) (by rfl) said (by decide +kernel) ⟨rfl,rfl,rfl,rfl,rfl,by decide +kernel⟩ ?hw ?hc
 (case hw=>w_witness2)
 k_fill
 refine DL.walk2 (l:=PySem.Challenge.rw_wearplan_k32_plans_as_texts) (k:=11) (x:="_law_script") rfl rfl ⟨rfl,by decide,by decide⟩ (fun w h Y=>(show (HD32.K w.params).In h from Y)) fun w mg fa h KX G hmg=>?_
 have T:K32.Txt (HD32.K w.params) mg ⟨24,37,56,75⟩:=⟨by walk_at "n0",by walk_at "n0",by walk_at "n0",by walk_at "n0",by walk_at "n0",by walk_at "n0",by walk_at "n0",by walk_at "n0",by walk_at "n0",by walk_at "n0",by walk_at "n0",by walk_at "n0",by walk_at "n0",by walk_at "n1",by walk_at "n1",by walk_at "n1",by walk_at "n2",by walk_at "hd",List.forall_mem_cons.mpr ⟨by walk_at "er",List.forall_mem_cons.mpr ⟨by walk_at "er",List.forall_mem_cons.mpr ⟨by walk_at "er",List.forall_mem_nil _⟩⟩⟩,by decide,by decide,by walk_at "n2",by walk_at "hd",by walk_at "kr",by walk_at "x0",by walk_at "n2",by walk_at "hd",by walk_at "kr",by walk_at "na",by walk_at "n2",by walk_at "hd",by walk_at "kr",by walk_at "na"⟩;exact K32.all_mk KX G hmg T (by walk_at "ff") (by walk_at "ff") (by walk_at "ff") (by walk_at "ff") (by walk_at "ff") (by walk_at "ff") (by walk_at "ff") (by walk_at "ff") (by walk_at "ff") (by walk_at "ff") (by walk_at "ff") (by walk_at "ff") (by walk_at "ff") (by walk_at "ff") (by walk_at "ff") (by walk_at "ff") (by walk_at "ff") (by walk_at "ff") (by walk_at "ff") (by walk_at "ff") (by walk_at "ff") (by walk_at "ff") (by walk_at "ff") (by walk_at "ff") (by walk_at "ff") (by walk_at "ff") (by walk_at "ff") (by walk_at "ff") (by walk_at "ff") (by walk_at "ff") (by walk_at "xm") (by walk_at "xm")
