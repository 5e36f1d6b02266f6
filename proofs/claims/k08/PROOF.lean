import PyProof.Rows.All
import Wide.All
import OpenK.AllK
import Wide.FinOn
import Lean
import PyProof.EqAt
import PyProof.EqKinds
import PyProof.TupleCall
import PyProof.CollectIter
import PyProof.TupleOfStr
import PyProof.TupleOfSeq
import KE.KDictOf
import KE.KDictSum
import PyProof.AttrMissHeap
import PySem.Challenge.RW_wearplan_k08_whole_several_at_once
set_option compiler.extract_closed false
set_option bootstrap.genMatcherCode false
set_option genSizeOf false
set_option genSizeOfSpec false
set_option linter.all false
set_option linter.unusedVariables false
open PyProof.Rows in
local macro_rules | `(tactic|walk_at "v3")=>`(tactic|first |exact Or.inl rfl |exact Or.inr (Or.inl rfl)|exact Or.inr (Or.inr rfl))
open PyProof.Rows in
local macro_rules | `(tactic|walk_at "v2")=>`(tactic|first |exact Or.inl rfl |exact Or.inr rfl)
open PyProof.Rows in
local macro_rules | `(tactic|walk_at "v1")=>`(tactic|first |exact .inl rfl |exact .inr rfl)
set_option Elab.async false
set_option maxRecDepth 100000
namespace L2
open PySem PySem.Spec PyProof.Rows
noncomputable abbrev Key:=Sum Int Str
noncomputable def c0w:Key→Value→Bool
 | .inl k,v=>Value.isInt k v
 | .inr x,v=>Value.isStrOf x v
noncomputable def keyH(w:World):Key→Int
 | .inl k=>hashInt k
 | .inr x=>hashStr w x
theorem i4:∀{k:Key} {v:Value},c0w k v=true→(∃i t,k=Sum.inl i∧v=Value.int i t)∨(∃x t,k=Sum.inr x∧v=Value.str x t)
 | .inl i,v,h=>by
  obtain ⟨t,e⟩:=Value.isInt_shape (k:=i) (v:=v) h;exact .inl ⟨i,t,rfl,e⟩
 | .inr x,v,h=>by
  obtain ⟨t,e⟩:=Value.isStrOf_shape (x:=x) (v:=v) h;exact .inr ⟨x,t,rfl,e⟩
theorem g0y(i:Int)(t:Tok):c0w (.inl i) (.int i t)=true:=by simp[c0w,Value.isInt]
theorem key_ll(a b:Int):decide ((Sum.inl a:Key)=Sum.inl b)=(a==b):=by
 by_cases e:a=b
 ·subst e;simp
 ·have h:¬(Sum.inl a:Key)=Sum.inl b:=fun q=>e (Sum.inl.inj q)
  rw[decide_eq_false h];exact (beq_eq_false_iff_ne.mpr e).symm
theorem key_rr(a b:Str):decide ((Sum.inr a:Key)=Sum.inr b)=decide (a=b):=by
 by_cases e:a=b
 ·subst e;simp
 ·have h:¬(Sum.inr a:Key)=Sum.inr b:=fun q=>e (Sum.inr.inj q)
  rw[decide_eq_false h,decide_eq_false e]
theorem key_lr(a:Int)(b:Str):decide ((Sum.inl a:Key)=Sum.inr b)=false:=decide_eq_false (fun q=>nomatch q)
theorem key_rl(a:Str)(b:Int):decide ((Sum.inr a:Key)=Sum.inl b)=false:=decide_eq_false (fun q=>nomatch q)
noncomputable def h7(prog:Program)(w:World):PySem.KeyKind prog w Key where
 is:=c0w
 hash:=keyH w
 inj:=fun v a b ha hb=>by
  rcases i4 ha with ⟨i,t,rfl,rfl⟩|⟨x,t,rfl,rfl⟩
  ·rcases i4 hb with ⟨j,u,rfl,e⟩|⟨y,u,rfl,e⟩
   ·injection e with e1 _;rw[e1]
   ·exact nomatch e
  ·rcases i4 hb with ⟨j,u,rfl,e⟩|⟨y,u,rfl,e⟩
   ·exact nomatch e
   ·injection e with e1 _;rw[e1]
 byValue:=fun k v h=>by
  rcases i4 h with ⟨i,t,rfl,rfl⟩|⟨x,t,rfl,rfl⟩<;>rfl
 pyHash:=fun hv h=>by
  rcases i4 hv with ⟨i,t,rfl,rfl⟩|⟨x,t,rfl,rfl⟩
  ·exact wpAny_pyHash_int h
  ·exact wpAny_pyHash_str h
 eqBool:=fun hu hv h=>by
  rcases i4 hu with ⟨i,t,rfl,rfl⟩|⟨x,t,rfl,rfl⟩
  ·rcases i4 hv with ⟨j,u,rfl,rfl⟩|⟨y,u,rfl,rfl⟩
   ·rw[key_ll]at h;exact wpAny_eqBool_int h
   ·rw[key_lr]at h;exact SeqAt.EqAt.int_str i t y u _ _ _ _ h
  ·rcases i4 hv with ⟨j,u,rfl,rfl⟩|⟨y,u,rfl,rfl⟩
   ·rw[key_rl]at h;exact SeqAt.EqAt.str_int x t j u _ _ _ _ h
   ·rw[key_rr]at h;exact wpAny_eqBool_str h
 «strs»:=fun k x t v h=>by
  rcases i4 h with ⟨i,u,rfl,e⟩|⟨y,u,rfl,e⟩
  ·exact nomatch e
  ·injection e with e1 _
   subst e1;cases v<;>rfl
theorem l0o(prog:Program)(w:World)(i:Int)(t:Tok):(h7 prog w).is (.inl i) (.int i t)=true:=g0y i t
end L2
namespace L2
open PySem PySem.Spec PyProof.Rows
inductive V where
 |non |bl (b:Bool)|int (i:Int)|str (x:Str)|byt (b:Array UInt8)|flt (b:UInt64)|ref (a:Addr)|ty (n:String)
 deriving DecidableEq
noncomputable def RelV:V→Value→Prop
 | .non,u=>u=Value.none
 | .bl b,u=>u=Value.bool b
 | .int i,u=>∃t,u=Value.int i t
 | .str x,u=>∃t,u=Value.str x t
 | .byt b,u=>∃t,u=Value.bytes b t
 | .flt b,u=>∃t,u=Value.float b t
 | .ref a,u=>u=Value.ref a
 | .ty n,u=>u=Value.type n
noncomputable abbrev Vals:List V→List Value→Prop:=Paired RelV
theorem Vals.length{xs:List V}{us:List Value}(r:Vals xs us):xs.length=us.length:=Paired.length r
theorem Vals.get:∀{xs:List V} {us:List Value} {i:Nat} {x:V},Vals xs us→xs[i]?=some x→∃u,us[i]?=some u∧RelV x u
 |_,_,_,_,.nil,e=>by simp at e
 |_,_,0,_,.cons r _,e=>by simp at e;subst e;exact ⟨_,rfl,r⟩
 |_,_,i+1,x,.cons _ t,e=>by
  obtain ⟨u,h1,h2⟩:=Vals.get (i:=i) (x:=x) t (by simpa using e);exact ⟨u,by simpa using h1,h2⟩
theorem Vals.set{x:V}{u:Value}(r:RelV x u):∀{xs:List V} {us:List Value} (i:Nat),Vals xs us→Vals (xs.set i x) (us.set i u)
 |_,_,_,.nil=>.nil
 |_,_,0,.cons _ t=>.cons r t
 |_,_,i+1,.cons q t=>.cons q (Vals.set r i t)
theorem Vals.append:∀{xs ys:List V} {us ws:List Value},Vals xs us→Vals ys ws→Vals (xs++ys) (us++ws)
 |_,_,_,_,.nil,s=>s
 |_,_,_,_,.cons r t,s=>.cons r (Vals.append t s)
noncomputable def RelO:Option V→Option Value→Prop
 |some v,some u=>RelV v u
 |none,none=>True
 |_,_=>False
noncomputable def KV{κ:Type}:List (κ×V)→List (κ×Value)→Prop:=Paired fun (p:κ×V) (q:κ×Value)=>p.1=q.1∧RelV p.2 q.2
noncomputable def kV:Key→V
 | .inl i=>.int i
 | .inr x=>.str x
inductive HO where
 |lst (xs:List V)
 |tup (xs:List V)
 |dK (kvs:List (Key×V))|dT (kvs:List (List Key×V))
 |set (S:Int→Bool) (n:Nat)
 |ins (C dx:Addr) (fs:List (Str×V))
 |own (x:Addr)
 |xd (fs:List (Str×V))
 |met (f x:Addr)
 |rng (lo hi:Int)
 |frz (o:Obj) (u:HO)
 |tbl (ps:Array Value)
 |ext (φ:Heap→Prop)
noncomputable abbrev Hp:=Addr→Option HO
noncomputable def upd(H:Hp)(a:Addr)(o:HO):Hp:=fun b=>if b=a then some o else H b
theorem x3{H:Hp}{a:Addr}{o:HO}:upd H a o a=some o:=by unfold upd;rw[if_pos rfl]
theorem o0{H:Hp}{a b:Addr}{o:HO}(h:b≠a):upd H a o b=H b:=by unfold upd;rw[if_neg h]
theorem l0{H:Hp}{a b:Addr}{o:HO}(h:H a=some o)(h':H b=none):a≠b:=by
 intro e;subst e;rw[h]at h';cases h'
noncomputable def TupD(h:Heap)(a:Addr)(items:Array Value):Prop:=∃o,h.get? a=some o∧o.cls=.type "tuple"∧(∃n,o.data=.seq items n)∧o.dict=none
theorem TupD.tup{h:Heap}{a:Addr}{items:Array Value}(x:TupD h a items):IsTup h a items:=let ⟨o,e,c,d,_⟩:=x;⟨o,e,c,d⟩
theorem TupD.new(h:Heap)(items:Array Value):TupD (h.push {cls:=.type "tuple",data:=.seq items}) h.objs.size items:=⟨_,Heap.get?_push_size _ rfl,rfl,⟨_,rfl⟩,rfl⟩
section
variable(P:Program)(w:World)
noncomputable def ObjOk(H:Hp)(h:Heap)(a:Addr):HO→Prop
 | .lst xs=>xs.length≤sizeLine∧∃(its:List Value) (n:Nat),Vals xs its∧h.get? a=some {cls:=.type "list",data:=.seq its.toArray n}
 | .tup xs=>xs.length≤sizeLine∧∃its:List Value,Vals xs its∧TupD h a its.toArray
 | .dK kvs=>kvs.length≤sizeLine∧(a==sysModules)=false∧∃vs,KV kvs vs∧h.DictOf (h7 P w) a vs
 | .dT kvs=>kvs.length≤sizeLine∧(a==sysModules)=false∧∃xs:List (List Key×Addr×Value),
  Paired (fun (p:List Key×V) (q:List Key×Addr×Value)=>p.1=q.1∧H q.2.1=some (.tup (p.1.map kV))∧RelV p.2 q.2.2) kvs xs∧
  ∃o es ep,h.get? a=some o∧o.ExactDict∧o.data=.dict es ep∧es.toList=xs.map (entryOfKey (tupleKind (h7 P w)))∧(xs.map (·.1)).Nodup
 | .set S n=>h.SetOf (intKind P w) a S n
 | .ins C dx fs=>H dx=some (.own a)∧fs.length≤1000∧dx≠a∧h.get? a=some (PySem.W.instObj C dx)∧
  ∃mA,h.Ns1 dx mA∧(∀f,RelO (fs.lookup f) (mA f))∧PySem.Within mA (fs.map (·.1))
 | .own _=>∃o,h.get? a=some o
 | .xd fs=>∃mA,h.Ns1 a mA∧∀f,RelO (fs.lookup f) (mA f)
 | .rng lo hi=>∃t u v,h.get? a=some {cls:=.type "range",data:=.fields #[.int lo t,.int hi u,.int 1 v]}
 | .frz o u=>h.get? a=some o∧ObjOk H h a u
 | .tbl ps=>h.get? a=some {cls:=.none,data:=.fields ps}
 | .met f x=>h.get? a=some (PySem.W.methodObj (.ref f) (.ref x))
 | .ext φ=>φ h∧(∃o,h.get? a=some o)∧∀h1 h2:Heap,φ h1→(∀o,h1.get? a=some o→h2.get? a=some o)→φ h2
noncomputable def HOk(H:Hp)(h:Heap):Prop:=∀a o,H a=some o→ObjOk P w H h a o
end
section
variable{P:Program}{w:World}{H H':Hp}{h h':Heap}{a:Addr}{o:HO}
theorem ObjOk.lt(x:ObjOk P w H h a o):a<h.objs.size:=by
 cases o with
 |lst xs=>obtain ⟨_,_,_,_,e⟩:=x;exact Heap.lt_size e
 |tup xs=>obtain ⟨_,_,_,p⟩:=x;exact p.tup.lt
 |dK kvs=>obtain ⟨_,_,_,_,o,_,_,e,_⟩:=x;exact Heap.lt_size e
 |dT kvs=>obtain ⟨_,_,_,_,o,_,_,e,_⟩:=x;exact Heap.lt_size e
 |set S n=>obtain ⟨o,_,_,_,e,_⟩:=x;exact Heap.lt_size e
 |ins C dx fs=>obtain ⟨_,_,_,e,_⟩:=x;exact Heap.lt_size e
 |own y=>obtain ⟨_,e⟩:=x;exact Heap.lt_size e
 |xd fs=>obtain ⟨_,⟨_,_,_,e,_⟩,_⟩:=x;exact Heap.lt_size e
 |rng lo hi=>obtain ⟨_,_,_,e⟩:=x;exact Heap.lt_size e
 |frz ob u=>obtain ⟨e,_⟩:=x;exact Heap.lt_size e
 |tbl ps=>exact Heap.lt_size (show h.get? a=some _ from x)
 |met f y=>exact Heap.lt_size (show h.get? a=some _ from x)
 |ext φ=>obtain ⟨_,⟨_,e⟩,_⟩:=x;exact Heap.lt_size e
theorem Paired.mapP{α β:Type}{F G:α→β→Prop}:∀{l₁:List α} {l₂:List β},Paired F l₁ l₂→(∀a b,F a b→G a b)→Paired G l₁ l₂
 |_,_,.nil,_=>.nil
 |_,_,.cons r t,f=>.cons (f _ _ r) (Paired.mapP t f)
theorem ObjOk.stay(x:ObjOk P w H h a o)(k:∀b u,(b=a∨H b=some (.own a))→h.get? b=some u→h'.get? b=some u)
 (ho:∀b,H b=some (.own a)→H' b=some (.own a)) (ht:∀b xs,H b=some (.tup xs)→H' b=some (.tup xs)):ObjOk P w H' h' a o:=by
 induction o with
 |lst xs=>obtain ⟨z,its,n,r,e⟩:=x;exact ⟨z,its,n,r,k _ _ (.inl rfl) e⟩
 |tup xs=>obtain ⟨z,its,r,ob,e,c⟩:=x;exact ⟨z,its,r,ob,k _ _ (.inl rfl) e,c⟩
 |dK kvs=>obtain ⟨z,y,vs,r,ob,es,ep,e,c⟩:=x;exact ⟨z,y,vs,r,ob,es,ep,k _ _ (.inl rfl) e,c⟩
 |dT kvs=>
  obtain ⟨z,y,xs,r,ob,es,ep,e,c⟩:=x;exact ⟨z,y,xs,Paired.mapP r fun p q z=>⟨z.1,ht _ _ z.2.1,z.2.2⟩,ob,es,ep,k _ _ (.inl rfl) e,c⟩
 |set S n=>obtain ⟨ob,es,ep,t,e,c⟩:=x;exact ⟨ob,es,ep,t,k _ _ (.inl rfl) e,c⟩
 |ins C dx fs=>
  obtain ⟨d,z,ne,e,mA,⟨od,es,ep,e2,c⟩,r⟩:=x;exact ⟨ho _ d,z,ne,k _ _ (.inl rfl) e,mA,⟨od,es,ep,k _ _ (.inr d) e2,c⟩,r⟩
 |own y=>obtain ⟨ob,e⟩:=x;exact ⟨ob,k _ _ (.inl rfl) e⟩
 |xd fs=>obtain ⟨mA,⟨od,es,ep,e,c⟩,r⟩:=x;exact ⟨mA,⟨od,es,ep,k _ _ (.inl rfl) e,c⟩,r⟩
 |rng lo hi=>obtain ⟨t,u,v,e⟩:=x;exact ⟨t,u,v,k _ _ (.inl rfl) e⟩
 |frz ob u ih=>obtain ⟨e,q⟩:=x;exact ⟨k _ _ (.inl rfl) e,ih q⟩
 |tbl ps=>
  have e:h.get? a=some {cls:=.none,data:=.fields ps}:=x;show h'.get? a=some {cls:=.none,data:=.fields ps};exact k a _ (.inl rfl) e
 |met f y=>
  have e:h.get? a=some (PySem.W.methodObj (.ref f) (.ref y)):=x;show h'.get? a=some (PySem.W.methodObj (.ref f) (.ref y));exact k a _ (.inl rfl) e
 |ext φ=>obtain ⟨p,⟨o,e⟩,st⟩:=x;exact ⟨st _ _ p fun o q=>k _ _ (.inl rfl) q,⟨o,k _ _ (.inl rfl) e⟩,st⟩
theorem HOk.lt(x:HOk P w H h)(e:H a=some o):a<h.objs.size:=(x a o e).lt
theorem HOk.fresh(x:HOk P w H h)(e:h.objs.size≤a):H a=none:=by
 cases q:H a with
 |none=>rfl
 |some u=>exact absurd (Nat.lt_of_lt_of_le (x.lt q) e) (Nat.lt_irrefl _)
theorem HOk.kept(x:HOk P w H h)(k:∀b u,h.get? b=some u→h'.get? b=some u):HOk P w H h':=fun a o e=>
 (x a o e).stay (fun b u _ q=>k b u q) (fun _ q=>q) fun _ _ q=>q
theorem HOk.laid(x:HOk P w H h)(k:∀b u,h.get? b=some u→h'.get? b=some u)(hp:h.objs.size≤a)(new:ObjOk P w (upd H a o) h' a o):HOk P w (upd H a o) h':=fun b u e=>by
 have hn:=x.fresh hp;by_cases hb:b=a
 ·subst hb;rw[x3]at e;cases e;exact new
 ·rw[o0 hb]at e;exact (x b u e).stay (fun c v _ q=>k c v q) (fun c q=>by rw[o0 (l0 q hn)];exact q) fun c xs q=>by rw[o0 (l0 q hn)];exact q
end
noncomputable def Rd(H:Hp)(a:Addr)(u:HO):Prop:=H a=some u∨∃o,H a=some (.frz o u)
theorem Rd.ok{P:Program}{w:World}{H:Hp}{h:Heap}{a:Addr}{u:HO}(r:Rd H a u)(x:HOk P w H h):ObjOk P w H h a u:=by
 rcases r with r |⟨o,r⟩
 ·exact x a u r
 ·obtain ⟨_,q⟩:=x a _ r;exact q
noncomputable def Mut:Option HO→Prop
 |some (.lst _)=>True
 |some (.dK _)=>True
 |some (.dT _)=>True
 |some (.set _ _)=>True
 |some (.ins _ _ _)=>True
 |some (.ext _)=>True
 |_=>False
section
variable{P:Program}{w:World}{H:Hp}{h h':Heap}{x e:Addr}{o':HO}
theorem HOk.write(ok:HOk P w H h)(mu:Mut (H x))(he:e=x∨H e=some (.own x))(k:∀b u,b≠e→h.get? b=some u→h'.get? b=some u)(heo:∃u,h'.get? e=some u)
 (new:ObjOk P w (upd H x o') h' x o'):HOk P w (upd H x o') h':=fun b u q=>by
 have nown:∀c y,H c=some (.own y)→c≠x:=fun c y r z=>by subst z;rw[r]at mu;exact mu
 have ntup:∀c xs,H c=some (.tup xs)→c≠x:=fun c xs r z=>by subst z;rw[r]at mu;exact mu
 by_cases hb:b=x
 ·subst hb;rw[x3]at q;cases q;exact new
 ·rw[o0 hb]at q;by_cases hbe:b=e
  ·have q':H b=some (.own x):=by
    rcases he with z |z
    ·exact absurd (hbe.trans z) hb
    ·rw[hbe];exact z
   rw[q]at q';cases q';obtain ⟨v,hv⟩:=heo;exact ⟨v,by rw[hbe];exact hv⟩
  ·refine (ok b u q).stay (fun c v hc r=>k c v ?_ r) (fun c r=>by rw[o0 (nown c b r)];exact r) fun c xs r=>by rw[o0 (ntup c xs r)];exact r
   rcases hc with rfl |hc
   ·exact hbe
   ·rintro rfl;rcases he with z |z
    ·exact nown c b hc z
    ·rw[hc]at z;cases z;exact hb rfl
end
structure Un(fs ex:List Addr)(H H':Hp)(h h':Heap):Prop where
 keep:∀b o,h.get? b=some o→H b=none→b∉fs→b∉ex→h'.get? b=some o
 slot:∀b o,h.get? b=some o→H b=none→b∈fs→b∉ex→∃sl,h'.get? b=some {o with slots:=sl}
 free:∀b o,h.get? b=some o→H b=none→b∉ex→H' b=none
 there:∀b o,h.get? b=some o→b∉ex→∃o',h'.get? b=some o'
 tups:∀b xs,H b=some (.tup xs)→H' b=some (.tup xs)
 frzs:∀b o u,H b=some (.frz o u)→H' b=some (.frz o u)
 tbls:∀b ps,H b=some (.tbl ps)→∃more,H' b=some (.tbl (ps++more))
section
variable{fs fs' ex ex':List Addr}{H H1 H2:Hp}{h h1 h2 h':Heap}{a x e:Addr}{o:HO}
theorem Un.any(u:Un fs ex H H1 h h1){b:Addr}{ob:Obj}(q:h.get? b=some ob)(n:H b=none)(hx:b∉ex):∃sl,h1.get? b=some {ob with slots:=sl}:=by
 by_cases hb:b∈fs
 ·exact u.slot b ob q n hb hx
 ·exact ⟨ob.slots,u.keep b ob q n hb hx⟩
theorem Un.kept(k:∀b u,h.get? b=some u→h'.get? b=some u):Un fs ex H H h h':=
 ⟨fun b ob q _ _ _=>k b ob q,fun b ob q _ _ _=>⟨ob.slots,k b ob q⟩,fun _ _ _ n _=>n,fun b ob q _=>⟨ob,k b ob q⟩,fun _ _ q=>q,fun _ _ _ q=>q,fun _ ps q=>⟨#[],by rw[q];simp⟩⟩
theorem Un.refl:Un fs ex H H h h:=Un.kept fun _ _ q=>q
theorem Un.laid(k:∀b u,h.get? b=some u→h'.get? b=some u)(hp:h.objs.size≤a)(hn:H a=none):Un fs ex H (upd H a o) h h' where
 keep:=fun b u q _ _ _=>k b u q
 slot:=fun b u q _ _ _=>⟨u.slots,k b u q⟩
 free:=fun b u q n _=>by rw[o0 (Nat.ne_of_lt (Nat.lt_of_lt_of_le (Heap.lt_size q) hp))];exact n
 there:=fun b u q _=>⟨u,k b u q⟩
 tups:=fun b xs q=>by rw[o0 (l0 q hn)];exact q
 frzs:=fun b u xs q=>by rw[o0 (l0 q hn)];exact q
 tbls:=fun b ps q=>⟨#[],by rw[o0 (l0 q hn),q];simp⟩
theorem Un.write(mu:Mut (H x))(he:e=x∨H e=some (.own x))(k:∀b u,b≠e→h.get? b=some u→h'.get? b=some u)(heo:∃u,h'.get? e=some u):Un fs ex H (upd H x o) h h':=by
 have hx:∀b,H b=none→b≠x:=fun b n z=>by subst z;rw[n]at mu;exact mu
 have hb:∀b,H b=none→b≠e:=fun b n z=>by
  subst z;rcases he with r |r
  ·exact hx b n r
  ·rw[n]at r;cases r
 have hm:∀b u,H b=some u→¬Mut (some u)→b≠x:=fun b u q nm z=>by subst z;rw[q]at mu;exact nm mu
 refine ⟨fun b u q n _ _=>k b u (hb b n) q,fun b u q n _ _=>⟨u.slots,k b u (hb b n) q⟩,fun b u q n _=>by rw[o0 (hx b n)];exact n,fun b u q _=>?_,
  fun b xs q=>by rw[o0 (hm b _ q fun z=>z)];exact q,fun b u xs q=>by rw[o0 (hm b _ q fun z=>z)];exact q,fun b ps q=>⟨#[],by rw[o0 (hm b _ q fun z=>z),q];simp⟩⟩
 by_cases hbe:b=e
 ·subst hbe;exact heo
 ·exact ⟨u,k b u hbe q⟩
end
noncomputable def trk(h:Heap)(H:Hp):List Addr:=(List.range h.objs.size).filter fun a=>(H a).isSome
noncomputable def hidT(h:Heap)(H:Hp):Heap:=PySem.W.hideAll h (trk h H)
theorem g0x(h:Heap)(H:Hp):(hidT h H).objs.size=h.objs.size:=PySem.W.hideAll_size _ _
theorem c0v{h:Heap}{H:Hp}{b:Addr}{o:Obj}(e:h.get? b=some o)(n:H b=none):(hidT h H).get? b=some o:=
 PySem.W.hideAll_get _ e fun hm=>by
  have q:(H b).isSome=true:=(List.mem_filter.mp hm).2;rw[n]at q;simp at q
theorem z1n{h:Heap}{H:Hp}{b:Addr}{o:Obj}(e:(hidT h H).get? b=some o):h.get? b=some o∧H b=none:=by
 have e':h.get? b=some o:=PySem.W.of_hideAll (trk h H) e;refine ⟨e',?_⟩;cases q:H b with
 |none=>rfl
 |some x=>
  have hm:b∈trk h H:=List.mem_filter.mpr ⟨List.mem_range.mpr (Heap.lt_size e'),by simp[q]⟩;have z:(hidT h H).get? b=none:=PySem.W.hideAll_none (trk h H) hm;rw[z]at e;cases e
noncomputable def z1m(g h:Heap)(L:Addr):List (Addr×Obj):=(List.range h.objs.size).filterMap fun a=>if a=L∨(g.get? a).isSome=true then none else (h.get? a).map fun o=>(a,o)
noncomputable def rest(g h:Heap)(L d:Addr):List (Addr×Obj):=(z1m g h L).filter fun p=>decide (p.1≠d)
end L2
namespace L2
open PySem PySem.Spec PyProof.Rows
structure Mod(K:PySem.W.Frag)(mg:Str→Option Value)(base:Heap):Prop where
 kin:K.In base
 glob:base.Ns mainGlobals mg
 blt:∃mb,base.Ns builtinsNs mb∧∀x:Str,x≠"__name__"→mb x=bootBuiltins x
 nolimit:base.NoLimit
structure Cx where
 prog:Program
 w:World
 K:PySem.W.Frag
 mg:Str→Option Value
 base:Heap
 A:Around
 N:List Str
 s₀:Shared
 H₀:Hp
 env:Env
 outer:List Env
 stack:List Env
 ex:List Addr
 fn:Str→Bool
 calm:Bool
 pn:List (Addr×Obj)
 xe:Value→Shared→Prop
noncomputable def frs(l:List Env):List Addr:=l.filterMap (·.frame)
noncomputable abbrev Cx.fs(X:Cx):List Addr:=frs X.outer
noncomputable def Vis(sc:Scope)(x:Str):Prop:=sc.names.lookup x=some .local∨sc.names.lookup x=some .cell∨sc.names.lookup x=some .free
noncomputable def Loc(sc:Scope)(x:Str):Prop:=sc.names.lookup x=some .local∨sc.names.lookup x=some .cell
noncomputable def Look(env:Env)(h:Heap)(m:Str→Option Value)(x:Str)(u:Value):Prop:=
 (env.kindOf x=some .local∧m x=some u)∨((env.kindOf x=some .cell∨env.kindOf x=some .free)∧∃c,env.cells.lookup x=some c∧h.IsCell c (some u))
structure Cx.Ok(X:Cx):Prop where
 mod:Mod X.K X.mg X.base
 kind:X.env.scope.kind=.function
 glob:X.env.globals=mainGlobals
 blt:X.env.builtins=builtinsNs
 above:X.s₀.heap.objs.size≤X.env.locals
 inj:∀x y c,X.env.cells.lookup x=some c→X.env.cells.lookup y=some c→x=y
 has:∀x,(X.env.kindOf x=some .cell∨X.env.kindOf x=some .free)→∃c,X.env.cells.lookup x=some c
 cab:∀x c,X.fn x=true→X.env.cells.lookup x=some c→X.s₀.heap.objs.size≤c
 hd:X.calm=true→X.A.handled=none
 frames:X.A.frames=some X.stack
 stk:X.stack=X.outer∨(X.stack=X.env::X.outer∧X.env.frame=some X.env.locals)
 exf:∀b∈X.ex,b≠X.env.locals∧∀x c,X.env.cells.lookup x=some c→c≠b
 bs:∀b o,X.base.get? b=some o→X.s₀.heap.get? b=some o∧X.H₀ b=none
 bsz:X.base.objs.size≤X.s₀.heap.objs.size
 noex:∀b o,X.base.get? b=some o→b∉X.ex
 exfs:∀b∈X.ex,b∉X.fs
 funs:X.s₀.heap.FunFrames X.base X.outer
 frf:∀b∈X.fs,X.H₀ b=none
structure Inv(X:Cx)(pins:List (Addr×Obj))(σ:List (Option V))(H:Hp)(s:Shared):Prop where
 ok:X.Ok
 os:s.os=X.s₀.os
 bare:AllBare s.gens
 base:Un X.fs X.ex X.H₀ H X.s₀.heap s.heap
 loc:∃m,s.heap.Ns X.env.locals m∧∀(i:Nat) (x:Str) (v:V),X.N[i]?=some x→σ[i]?=some (some v)→Vis X.env.scope x→∃u,RelV v u∧Look X.env s.heap m x u
 cell:∀x c,X.env.cells.lookup x=some c→∃v,s.heap.IsCell c v
 free:H X.env.locals=none
 freeC:∀x c,X.env.cells.lookup x=some c→H c=none
 pin:∀p∈X.pn++pins,s.heap.get? p.1=some p.2∧H p.1=none∧p.1≠X.env.locals∧p.1∉X.fs∧∀v,p.2.data≠.cell v
 hok:HOk X.prog X.w H s.heap
 len:σ.length=X.N.length
section
variable{X:Cx}{pins:List (Addr×Obj)}{σ:List (Option V)}{H H':Hp}{s:Shared}{h':Heap}
theorem Cx.Ok.nofr(ok:X.Ok){b:Addr}{o:Obj}(e:X.base.get? b=some o):b∉X.fs:=fun hb=>by
 have:=(ok.funs.mem hb).1;rw[e]at this;cases this
theorem Inv.bs(I:Inv X pins σ H s):∀b o,X.base.get? b=some o→s.heap.get? b=some o∧H b=none:=fun b o e=>
 ⟨I.base.keep b o (I.ok.bs b o e).1 (I.ok.bs b o e).2 (I.ok.nofr e) (I.ok.noex b o e),I.base.free b o (I.ok.bs b o e).1 (I.ok.bs b o e).2 (I.ok.noex b o e)⟩
theorem Inv.bk(I:Inv X pins σ H s):∀b o,X.base.get? b=some o→s.heap.get? b=some o:=fun b o e=>(I.bs b o e).1
theorem Inv.mod(I:Inv X pins σ H s):Mod X.K X.mg X.base:=I.ok.mod
theorem Inv.kIn(I:Inv X pins σ H s):X.K.In s.heap:=I.ok.mod.kin.keeps I.bk
theorem Inv.fr(I:Inv X pins σ H s):∃m,Fr X.base X.env.locals s.heap m:=
 let ⟨m,hn,_⟩:=I.loc
 ⟨m,hn,I.bk,Nat.le_trans I.ok.bsz I.ok.above⟩
theorem Inv.lt(I:Inv X pins σ H s):X.env.locals<s.heap.objs.size:=let ⟨_,hn,_⟩:=I.loc;hn.lt
theorem Inv.sz(I:Inv X pins σ H s):X.s₀.heap.objs.size≤s.heap.objs.size:=Nat.le_trans I.ok.above (Nat.le_of_lt I.lt)
theorem Inv.nofs(I:Inv X pins σ H s){a:Addr}(h:s.heap.objs.size≤a):a∉X.fs:=fun hb=>by
 obtain ⟨_,o,ho,_⟩:=I.ok.funs.mem hb;exact absurd (Nat.lt_of_lt_of_le (Heap.lt_size ho) (Nat.le_trans I.sz h)) (Nat.lt_irrefl _)
theorem Inv.cne(I:Inv X pins σ H s):∀x c,X.env.cells.lookup x=some c→c≠X.env.locals:=fun x c e z=>by
 obtain ⟨v,o,ho,hd⟩:=I.cell x c e;obtain ⟨m,⟨o',es,ep,ho',hd',_⟩,_⟩:=I.loc;rw[z,ho']at ho;cases ho;rw[hd']at hd;cases hd
theorem Inv.funs(I:Inv X pins σ H s):s.heap.FunFrames X.base X.outer:=by
 have all:∀(l:List Env),(∀b∈frs l,b∈X.fs)→X.s₀.heap.FunFrames X.base l→s.heap.FunFrames X.base l:=by
  intro l
  induction l with
  |nil=>intro _ _;trivial
  |cons env r ih=>
   intro hs hl;obtain ⟨hk,⟨L,o,hf,hn,ho,hd⟩,hr⟩:=hl;have hL:L∈X.fs:=hs L (by unfold frs;rw[List.filterMap_cons,hf];exact List.mem_cons_self);obtain ⟨sl,e⟩:=I.base.slot L o ho (I.ok.frf L hL) hL fun z=>I.ok.exfs L z hL
   exact ⟨hk,⟨L,_,hf,hn,e,hd⟩,ih (fun b hb=>hs b (by unfold frs;rw[List.filterMap_cons,hf];exact List.mem_cons_of_mem _ hb)) hr⟩
 exact all X.outer (fun _ hb=>hb) I.ok.funs
theorem Inv.stack(I:Inv X pins σ H s):s.heap.FunFrames X.base X.stack:=by
 rcases I.ok.stk with e |⟨e,hf⟩
 ·rw[e];exact I.funs
 ·rw[e];obtain ⟨m,hn,_⟩:=I.loc;refine .cons (by rw[I.ok.kind];decide) hf hn ?_ I.funs;exact Heap.get?_none_of_le (Nat.le_trans I.ok.bsz I.ok.above)
theorem Inv.stkSub(I:Inv X pins σ H s):∀b∈frs X.stack,b∈X.env.locals::X.fs:=fun b hb=>by
 rcases I.ok.stk with e |⟨e,hf⟩
 ·rw[e]at hb;exact List.mem_cons_of_mem _ hb
 ·rw[e]at hb;unfold frs at hb;rw[List.filterMap_cons,hf]at hb;exact hb
theorem Inv.stkFree(I:Inv X pins σ H s):∀b∈frs X.stack,H b=none:=fun b hb=>by
 rcases List.mem_cons.mp (I.stkSub b hb)with e |hb
 ·rw[e];exact I.free
 ·obtain ⟨_,o,ho,_⟩:=I.ok.funs.mem hb;exact I.base.free b o ho (I.ok.frf b hb) fun z=>I.ok.exfs b z hb
theorem Inv.step{g':Array GenState}{t':Nat}{d':Drawn}{ch:List Addr}(I:Inv X pins σ H s)
 (hch:∀b∈ch,(b∈X.ex∨X.s₀.heap.objs.size≤b)∧b≠X.env.locals∧(∀x c,X.env.cells.lookup x=some c→c≠b)∧∀p∈X.pn++pins,p.1≠b)
 (keep:∀b o,b≠X.env.locals→b∉X.fs→b∉ch→s.heap.get? b=some o→H b=none→h'.get? b=some o)
 (slot:∀b o,b≠X.env.locals→b∈X.fs→b∉ch→s.heap.get? b=some o→H b=none→∃sl,h'.get? b=some {o with slots:=sl}) (free:∀b o,b∉ch→s.heap.get? b=some o→H b=none→H' b=none)
 (there:∀b o,b∉ch→s.heap.get? b=some o→∃o',h'.get? b=some o')
 (tups:∀b xs,H b=some (.tup xs)→H' b=some (.tup xs)) (frzs:∀b o u,H b=some (.frz o u)→H' b=some (.frz o u)) (tbls:∀b ps,H b=some (.tbl ps)→∃more,H' b=some (.tbl (ps++more)))
 (ns:∀m,s.heap.Ns X.env.locals m→h'.Ns X.env.locals m) (hok:HOk X.prog X.w H' h') (hg:AllBare g'):
 Inv X pins σ H' {s with heap:=h',gens:=g',drawn:=d',toks:=t'}:=by
 have neL:∀b o,X.s₀.heap.get? b=some o→b≠X.env.locals:=fun b o e=>Nat.ne_of_lt (Nat.lt_of_lt_of_le (Heap.lt_size e) I.ok.above)
 have neC:∀b o,X.s₀.heap.get? b=some o→b∉X.ex→b∉ch:=fun b o e hx hb=>by
  rcases (hch b hb).1 with z |z
  ·exact hx z
  ·exact absurd (Nat.lt_of_lt_of_le (Heap.lt_size e) z) (Nat.lt_irrefl _)
 have cellK:∀x c,X.env.cells.lookup x=some c→∀v,s.heap.IsCell c v→h'.IsCell c v:=fun x c e v ⟨o,ho,hd⟩=>by
  have nch:c∉ch:=fun z=>(hch c z).2.2.1 x c e rfl
  by_cases hc:c∈X.fs
  ·obtain ⟨sl,q⟩:=slot c o (I.cne x c e) hc nch ho (I.freeC x c e);exact ⟨_,q,hd⟩
  ·exact ⟨o,keep c o (I.cne x c e) hc nch ho (I.freeC x c e),hd⟩
 refine ⟨I.ok,I.os,hg,⟨fun b o e n hb hx=>?_,fun b o e n hb hx=>?_,fun b o e n hx=>?_,fun b o e hx=>?_,fun b xs e=>tups b xs (I.base.tups b xs e),fun b o xs e=>frzs b o xs (I.base.frzs b o xs e),fun b ps e=>?_⟩,?_,fun x c e=>?_,?_,fun x c e=>?_,fun p hp=>?_,hok,I.len⟩
 ·exact keep b o (neL b o e) hb (neC b o e hx) (I.base.keep b o e n hb hx) (I.base.free b o e n hx)
 ·obtain ⟨sl,e1⟩:=I.base.slot b o e n hb hx;obtain ⟨sl',e2⟩:=slot b _ (neL b o e) hb (neC b o e hx) e1 (I.base.free b o e n hx);exact ⟨sl',e2⟩
 ·obtain ⟨o',e1⟩:=I.base.there b o e hx;exact free b o' (neC b o e hx) e1 (I.base.free b o e n hx)
 ·obtain ⟨o',e1⟩:=I.base.there b o e hx;exact there b o' (neC b o e hx) e1
 ·obtain ⟨m1,e1⟩:=I.base.tbls b ps e;obtain ⟨m2,e2⟩:=tbls b _ e1;exact ⟨m1++m2,by rw[e2,Array.append_assoc]⟩
 ·obtain ⟨m,hn,hl⟩:=I.loc;refine ⟨m,ns m hn,fun i x v e1 e2 e3=>?_⟩;obtain ⟨u,r,l⟩:=hl i x v e1 e2 e3;refine ⟨u,r,?_⟩;rcases l with l |⟨k,c,e,z⟩
  ·exact .inl l
  ·exact .inr ⟨k,c,e,cellK x c e _ z⟩
 ·obtain ⟨v,z⟩:=I.cell x c e;exact ⟨v,cellK x c e v z⟩
 ·obtain ⟨m,⟨o,_,_,ho,_⟩,_⟩:=I.loc;exact free _ o (fun z=>(hch _ z).2.1 rfl) ho I.free
 ·obtain ⟨v,o,ho,hd⟩:=I.cell x c e;exact free c o (fun z=>(hch c z).2.2.1 x c e rfl) ho (I.freeC x c e)
 ·obtain ⟨e,n,ne,nf,d⟩:=I.pin p hp;have nch:p.1∉ch:=fun z=>(hch p.1 z).2.2.2 p hp rfl
  exact ⟨keep p.1 p.2 ne nf nch e n,free p.1 p.2 nch e n,ne,nf,d⟩
theorem Inv.un{t':Nat}(I:Inv X pins σ H s)(u:Un X.fs [] H H' s.heap h')(hok:HOk X.prog X.w H' h'):Inv X pins σ H' {s with heap:=h',toks:=t'}:=by
 obtain ⟨m,⟨o,es,ep,ho,r⟩,_⟩:=id I.loc;obtain ⟨sl,hL⟩:=u.any ho I.free (by simp);exact I.step (g':=s.gens) (d':=s.drawn) (ch:=[]) (fun _ z=>nomatch z) (fun b o _ hb _ e n=>u.keep b o e n hb (by simp)) (fun b o _ hb _ e n=>u.slot b o e n hb (by simp)) (fun b o _ e n=>u.free b o e n (by simp)) (fun b o _ e=>u.there b o e (by simp)) u.tups u.frzs u.tbls (fun m' hm=>by
  obtain ⟨o',es',ep',ho',r'⟩:=hm;rw[ho]at ho';cases ho';exact ⟨_,es',ep',hL,r'⟩) hok I.bare
theorem Inv.call{g':Array GenState}{t':Nat}{d':Drawn}{ch:List Addr}(I:Inv X pins σ H s)(u:Un (frs X.stack) ch H H' s.heap h')(hok:HOk X.prog X.w H' h')(hg:AllBare g')
 (hch:∀b∈ch,(b∈X.ex∨X.s₀.heap.objs.size≤b)∧b≠X.env.locals∧(∀x c,X.env.cells.lookup x=some c→c≠b)∧∀p∈X.pn++pins,p.1≠b):
 Inv X pins σ H' {s with heap:=h',gens:=g',drawn:=d',toks:=t'}:=by
 obtain ⟨m,⟨o,es,ep,ho,r⟩,_⟩:=id I.loc;obtain ⟨sl,hL⟩:=u.any ho I.free fun z=>(hch _ z).2.1 rfl
 exact I.step (ch:=ch) hch (fun b o hL hb hc e n=>u.keep b o e n (fun z=>(List.mem_cons.mp (I.stkSub b z)).elim hL hb) hc) (fun b o _ _ hc e n=>u.any e n hc) (fun b o hc e n=>u.free b o e n hc) (fun b o hc e=>u.there b o e hc) u.tups u.frzs u.tbls (fun m' hm=>by
  obtain ⟨o',es',ep',ho',r'⟩:=hm;rw[ho]at ho';cases ho';exact ⟨_,es',ep',hL,r'⟩) hok hg
theorem Inv.turned{t':Nat}{it:Addr}(I:Inv X pins σ H s)(k:∀b o,b≠it→s.heap.get? b=some o→h'.get? b=some o)(hn:H it=none)(hL:it≠X.env.locals)
 (h1:it∈X.ex∨X.s₀.heap.objs.size≤it) (h2:∀x c,X.env.cells.lookup x=some c→c≠it) (h3:∀p∈X.pn++pins,p.1≠it):Inv X pins σ H {s with heap:=h',toks:=t'}:=by
 have nit:∀b u,H b=some u→b≠it:=fun b u e z=>by rw[z,hn]at e;cases e
 refine I.step (g':=s.gens) (d':=s.drawn) (ch:=[it]) (fun b hb=>?_) (fun b o _ _ hc e _=>k b o (fun z=>hc (by simp[z])) e) (fun b o _ _ hc e _=>⟨o.slots,k b o (fun z=>hc (by simp[z])) e⟩) (fun _ _ _ _ n=>n)
  (fun b o hc e=>⟨o,k b o (fun z=>hc (by simp[z])) e⟩) (fun _ _ e=>e) (fun _ _ _ e=>e) (fun b ps e=>⟨#[],by rw[e];simp⟩) (fun m hm=>?_) (fun b u e=>?_) I.bare
 ·have e:b=it:=by simpa using hb
  subst e;exact ⟨h1,hL,h2,h3⟩
 ·obtain ⟨o,es,ep,ho,r⟩:=hm;exact ⟨o,es,ep,k _ o (Ne.symm hL) ho,r⟩
 ·refine (I.hok b u e).stay (fun c v hc q=>k c v ?_ q) (fun _ q=>q) fun _ _ q=>q
  rcases hc with z |z
  ·rw[z];exact nit b u e
  ·exact nit c _ z
theorem Inv.tok(I:Inv X pins σ H s)(t:Nat):Inv X pins σ H {s with toks:=t}:=I.un (h':=s.heap) (t':=t) Un.refl I.hok
theorem Inv.kept{t':Nat}(I:Inv X pins σ H s)(k:∀b u,s.heap.get? b=some u→h'.get? b=some u):Inv X pins σ H {s with heap:=h',toks:=t'}:=I.un (Un.kept k) (I.hok.kept k)
theorem Inv.laid{a:Addr}{o:HO}{t':Nat}(I:Inv X pins σ H s)(k:∀b u,s.heap.get? b=some u→h'.get? b=some u)(hp:s.heap.objs.size≤a)(new:ObjOk X.prog X.w (upd H a o) h' a o):
 Inv X pins σ (upd H a o) {s with heap:=h',toks:=t'}:=I.un (Un.laid k hp (I.hok.fresh hp)) (I.hok.laid k hp new)
theorem Inv.write{x e:Addr}{o:HO}{t':Nat}(I:Inv X pins σ H s)(mu:Mut (H x))(he:e=x∨H e=some (.own x))(k:∀b u,b≠e→s.heap.get? b=some u→h'.get? b=some u)(heo:∃u,h'.get? e=some u)
 (new:ObjOk X.prog X.w (upd H x o) h' x o):Inv X pins σ (upd H x o) {s with heap:=h',toks:=t'}:=I.un (Un.write mu he k heo) (I.hok.write mu he k heo new)
theorem Inv.weak{σ':List (Option V)}(I:Inv X pins σ H s)(hl:σ'.length=σ.length)(w:∀(i:Nat) v,σ'[i]?=some (some v)→σ[i]?=some (some v)):Inv X pins σ' H s:=
 ⟨I.ok,I.os,I.bare,I.base,let ⟨m,hn,hl'⟩:=I.loc;⟨m,hn,fun i x v e1 e2 e3=>hl' i x v e1 (w i v e2) e3⟩,I.cell,I.free,I.freeC,I.pin,I.hok,hl.trans I.len⟩
theorem Inv.pins_of{pins':List (Addr×Obj)}(I:Inv X pins σ H s)(h:∀p∈pins',s.heap.get? p.1=some p.2∧H p.1=none∧p.1≠X.env.locals∧p.1∉X.fs∧∀v,p.2.data≠.cell v):Inv X pins' σ H s:=
 ⟨I.ok,I.os,I.bare,I.base,I.loc,I.cell,I.free,I.freeC,fun p hp=>(List.mem_append.mp hp).elim (fun z=>I.pin p (List.mem_append_left _ z)) (h p),I.hok,I.len⟩
theorem j0i{N:List Str}(hN:N.Nodup){i j:Nat}{x:Str}(a:N[i]?=some x)(b:N[j]?=some x):i=j:=by
 obtain ⟨h1,e1⟩:=List.getElem?_eq_some_iff.mp a;obtain ⟨h2,e2⟩:=List.getElem?_eq_some_iff.mp b;exact (List.getElem_inj hN).mp (e1.trans e2.symm)
theorem o0h{M:Model}{A:Around}{E:Value→Shared→Prop}{i:Nat}{x:Str}{v:V}{u:Value}{Q:Unit→Shared→Prop}(I:Inv X pins σ H s)(hN:X.N.Nodup)(hi:X.N[i]?=some x)(hx:Loc X.env.scope x)(r:RelV v u)
 (h:∀s',Inv X pins (σ.set i (some v)) H s'→(∃a,Heap.SameBut a s.heap s'.heap∧(a=X.env.locals∨X.env.cells.lookup x=some a))→Q () s') (hf:X.fn x=true∨X.env.scope.names.lookup x=some .local:=by first |exact .inl rfl |exact .inr rfl |assumption):wpAny M A (storeName X.env x u) Q E s:=by
 obtain ⟨m,hn,hl⟩:=id I.loc;have hcls:(X.env.scope.kind== .class||(X.env.scope.kind== .module&&X.env.locals !=X.env.globals))=false:=by rw[I.ok.kind];rfl
 have hiσ:i<σ.length:=by rw[I.len];exact (List.getElem?_eq_some_iff.mp hi).1
 have cne:=I.cne;have tracked:∀{a:Addr} {h':Heap},(∃o,s.heap.get? a=some o∧H a=none)→Heap.SameBut a s.heap h'→HOk X.prog X.w H h':=fun {a h'} ha hs b ob e=>by
  obtain ⟨_,_,hfree⟩:=ha;refine (I.hok b ob e).stay (fun c w' hc q=>(hs.2 c ?_).trans q) (fun _ q=>q) fun _ _ q=>q
  rintro rfl;rcases hc with rfl |hc
  ·rw[hfree]at e;cases e
  ·rw[hfree]at hc;cases hc
 rcases hx with hk |hk
 ·refine wpAny_storeName_local hk hn (fun h' hn' hs=>?_) hcls;obtain ⟨oL,_,_,hoL,_⟩:=id hn;refine h _ ⟨I.ok,I.os,I.bare,⟨fun b o e n hb hx=>?_,fun b o e n hb hx=>?_,I.base.free,fun b o e hx=>?_,I.base.tups,I.base.frzs,I.base.tbls⟩,⟨_,hn',fun j y v' e1 e2 e3=>?_⟩,fun y c e=>?_,I.free,I.freeC,fun p hp=>?_,tracked ⟨oL,hoL,I.free⟩ hs,by simpa using I.len⟩ ⟨_,hs,.inl rfl⟩
  ·exact (hs.2 b (Nat.ne_of_lt (Nat.lt_of_lt_of_le (Heap.lt_size e) I.ok.above))).trans (I.base.keep b o e n hb hx)
  ·obtain ⟨sl,e1⟩:=I.base.slot b o e n hb hx;exact ⟨sl,(hs.2 b (Nat.ne_of_lt (Nat.lt_of_lt_of_le (Heap.lt_size e) I.ok.above))).trans e1⟩
  ·obtain ⟨o',e1⟩:=I.base.there b o e hx;exact ⟨o',(hs.2 b (Nat.ne_of_lt (Nat.lt_of_lt_of_le (Heap.lt_size e) I.ok.above))).trans e1⟩
  ·by_cases hj:j=i
   ·subst hj;rw[hi]at e1;cases e1;rw[List.getElem?_set_self hiσ]at e2;cases e2;exact ⟨u,r,.inl ⟨hk,by simp⟩⟩
   ·rw[List.getElem?_set_ne (Ne.symm hj)]at e2;obtain ⟨u',r',q⟩:=hl j y v' e1 e2 e3;refine ⟨u',r',?_⟩;rcases q with ⟨k,e⟩|⟨k,c,e,z⟩
    ·refine .inl ⟨k,?_⟩;have:y≠x:=fun e=>hj (j0i hN e1 (e▸hi))
     simp[this,e]
    ·exact .inr ⟨k,c,e,z.sameBut hs (cne y c e)⟩
  ·obtain ⟨w',z⟩:=I.cell y c e;exact ⟨w',z.sameBut hs (cne y c e)⟩
  ·obtain ⟨e,n,ne,nf,d⟩:=I.pin p hp;exact ⟨(hs.2 p.1 ne).trans e,n,ne,nf,d⟩
 ·have hfn:X.fn x=true:=by
   rcases hf with z |z
   ·exact z
   ·rw[z]at hk;cases hk
  obtain ⟨c,hc⟩:=I.ok.has x (.inl hk);obtain ⟨w',z⟩:=I.cell x c hc;refine wpAny_storeName_cell I.ok.kind hk hc z (fun h' hc' hs=>?_);obtain ⟨oc,hoc,hocd⟩:=id z;refine h {s with heap:=h'} ⟨I.ok,I.os,I.bare,⟨fun b o e n hb hx=>?_,fun b o e n hb hx=>?_,I.base.free,fun b o e hx=>?_,I.base.tups,I.base.frzs,I.base.tbls⟩,⟨m,hn.sameBut hs (Ne.symm (cne x c hc)),fun j y v' e1 e2 e3=>?_⟩,fun y c' e=>?_,I.free,I.freeC,fun p hp=>?_,tracked ⟨oc,hoc,I.freeC x c hc⟩ hs,by simpa using I.len⟩ ⟨c,hs,.inr hc⟩
  ·exact (hs.2 b (Nat.ne_of_lt (Nat.lt_of_lt_of_le (Heap.lt_size e) (I.ok.cab x c hfn hc)))).trans (I.base.keep b o e n hb hx)
  ·obtain ⟨sl,e1⟩:=I.base.slot b o e n hb hx;exact ⟨sl,(hs.2 b (Nat.ne_of_lt (Nat.lt_of_lt_of_le (Heap.lt_size e) (I.ok.cab x c hfn hc)))).trans e1⟩
  ·obtain ⟨o',e1⟩:=I.base.there b o e hx;exact ⟨o',(hs.2 b (Nat.ne_of_lt (Nat.lt_of_lt_of_le (Heap.lt_size e) (I.ok.cab x c hfn hc)))).trans e1⟩
  ·by_cases hj:j=i
   ·subst hj;rw[hi]at e1;cases e1;rw[List.getElem?_set_self hiσ]at e2;cases e2;exact ⟨u,r,.inr ⟨.inl hk,c,hc,hc'⟩⟩
   ·rw[List.getElem?_set_ne (Ne.symm hj)]at e2;obtain ⟨u',r',q⟩:=hl j y v' e1 e2 e3;refine ⟨u',r',?_⟩;rcases q with q |⟨k,c',e,z'⟩
    ·exact .inl q
    ·refine .inr ⟨k,c',e,z'.sameBut hs ?_⟩;rintro rfl;exact hj (j0i hN e1 (I.ok.inj _ _ _ e hc▸hi))
  ·by_cases hcc:c'=c
   ·subst hcc;exact ⟨_,hc'⟩
   ·obtain ⟨w2,z2⟩:=I.cell y c' e;exact ⟨w2,z2.sameBut hs hcc⟩
  ·obtain ⟨e,n,ne,nf,d⟩:=I.pin p hp;refine ⟨(hs.2 p.1 ?_).trans e,n,ne,nf,d⟩;intro q;rw[q,hoc]at e;have q':oc=p.2:=Option.some.inj e;exact d w' (by rw[←q'];exact hocd)
theorem j0h{M:Model}{A:Around}{E:Value→Shared→Prop}{i:Nat}{x:Str}{v:V}{u:Value}{Q:Unit→Shared→Prop}(I:Inv X pins σ H s)(hN:X.N.Nodup)(hi:X.N[i]?=some x)(hx:Loc X.env.scope x)(r:RelV v u)
 (h:∀s',Inv X pins (σ.set i (some v)) H s'→Q () s') (hf:X.fn x=true∨X.env.scope.names.lookup x=some .local:=by first |exact .inl rfl |exact .inr rfl |assumption):wpAny M A (storeName X.env x u) Q E s:=
 o0h I hN hi hx r (fun s' I' _=>h s' I') hf
theorem Inv.call'{s':Shared}{ch:List Addr}(I:Inv X pins σ H s)(ho:s'.os=s.os)(u:Un (frs X.stack) ch H H' s.heap s'.heap)(hok:HOk X.prog X.w H' s'.heap)(hg:AllBare s'.gens)
 (hch:∀b∈ch,(b∈X.ex∨X.s₀.heap.objs.size≤b)∧b≠X.env.locals∧(∀x c,X.env.cells.lookup x=some c→c≠b)∧∀p∈X.pn++pins,p.1≠b):Inv X pins σ H' s':=by
 obtain ⟨h',g',d',t',o'⟩:=s';have e:o'=s.os:=ho;subst e;exact I.call (g':=g') (t':=t') (d':=d') u hok hg hch
end
noncomputable abbrev XK:=Value→Option Addr→Hp→Prop
noncomputable abbrev St:=List (Option V)
noncomputable abbrev VK:=V→Hp→Prop
noncomputable abbrev TE:=St→Hp→VK→Prop
noncomputable abbrev TT:=St→Hp→(Bool→Hp→Prop)→Prop
noncomputable abbrev TA:=St→Hp→(List V→Hp→Prop)→Prop
structure Ends where
 nx:St→Hp→Prop
 rt:VK
 bk:St→Hp→Prop:=fun _ _=>False
 ct:St→Hp→Prop:=fun _ _=>False
noncomputable abbrev TS:=Ends→St→Hp→Prop
noncomputable def EP(X:Cx)(pins:List (Addr×Obj))(σ:St)(Q:VK)(u:Value)(s':Shared):Prop:=∃v H',Inv X pins σ H' s'∧RelV v u∧Q v H'
noncomputable def TP(X:Cx)(pins:List (Addr×Obj))(σ:St)(Q:Bool→Hp→Prop)(b:Bool)(s':Shared):Prop:=∃H',Inv X pins σ H' s'∧Q b H'
noncomputable def AP(X:Cx)(pins:List (Addr×Obj))(σ:St)(Q:List V→Hp→Prop)(us:List Value)(s':Shared):Prop:=∃vs H',Inv X pins σ H' s'∧Vals vs us∧Q vs H'
noncomputable def SP(X:Cx)(pins:List (Addr×Obj))(D:Ends)(f:Flow)(s':Shared):Prop:=
 match f with
 | .next=>∃ σ' H',Inv X pins σ' H' s'∧D.nx σ' H'
 | .brk=>∃ σ' H',Inv X pins σ' H' s'∧D.bk σ' H'
 | .cont=>∃ σ' H',Inv X pins σ' H' s'∧D.ct σ' H'
 | .ret u=>∃v σ' H',Inv X pins σ' H' s'∧RelV v u∧D.rt v H'
noncomputable def PE(X:Cx)(e:Expr)(t:TE):Prop:=
 ∀(pins:List (Addr×Obj)) (s:Shared) (σ:St) (H:Hp) (Q:VK),Inv X pins σ H s→t σ H Q→wpAny (model X.prog X.w) X.A (eval e X.env) (EP X pins σ Q) X.xe s
noncomputable def PT(X:Cx)(e:Expr)(t:TT):Prop:=
 ∀(pins:List (Addr×Obj)) (s:Shared) (σ:St) (H:Hp) (Q:Bool→Hp→Prop),Inv X pins σ H s→t σ H Q→wpAny (model X.prog X.w) X.A (isTrue e X.env (eval e X.env)) (TP X pins σ Q) X.xe s
noncomputable def PW(X:Cx)(e:Expr)(t:TT):Prop:=
 ∀(whole:Sem Value) (pins:List (Addr×Obj)) (s:Shared) (σ:St) (H:Hp) (Q:Bool→Hp→Prop),Inv X pins σ H s→t σ H Q→wpAny (model X.prog X.w) X.A (isTrue e X.env whole) (TP X pins σ Q) X.xe s
theorem PW.pt{X:Cx}{e:Expr}{t:TT}(h:PW X e t):PT X e t:=h _
noncomputable def PA(X:Cx)(es:List Expr)(t:TA):Prop:=
 ∀(pos:Pos) (pins:List (Addr×Obj)) (s:Shared) (σ:St) (H:Hp) (Q:List V→Hp→Prop),Inv X pins σ H s→t σ H Q→wpAny (model X.prog X.w) X.A (spliced (backTo pos (starEach es X.env))) (AP X pins σ Q) X.xe s
noncomputable def PS(X:Cx)(st:Stmt)(t:TS):Prop:=
 ∀(pins:List (Addr×Obj)) (s:Shared) (σ:St) (H:Hp) (D:Ends),Inv X pins σ H s→t D σ H→wpAny (model X.prog X.w) X.A (exec st X.env) (SP X pins D) X.xe s
noncomputable def PSs(X:Cx)(st:List Stmt)(t:TS):Prop:=
 ∀(pins:List (Addr×Obj)) (s:Shared) (σ:St) (H:Hp) (D:Ends),Inv X pins σ H s→t D σ H→wpAny (model X.prog X.w) X.A (execs st X.env) (SP X pins D) X.xe s
theorem thn{α:Type}{t:Sem α}{Q Q':α→Shared→Prop}{M:Model}{A:Around}{E:Value→Shared→Prop}{s:Shared}(h:wpAny M A t Q E s)(hQ:∀a s,Q a s→Q' a s):wpAny M A t Q' E s:=wpAny_mono h hQ fun _ _ x=>x
end L2
namespace L2
open PySem PySem.Spec PyProof.Rows
section
variable{X:Cx}
theorem bin{a b:Expr}{ta tb:TE}(ha:PE X a ta)(hb:PE X b tb){pins:List (Addr×Obj)}{s:Shared}{σ:St}{H:Hp}{R:V→V→Hp→Prop}(I:Inv X pins σ H s)(h:ta σ H fun x H1=>tb σ H1 fun y H2=>R x y H2)
 {α:Type} {Q:α→Shared→Prop} {f:Value→Value→Sem α}
 (hf:∀v u s2 x y H2,Inv X pins σ H2 s2→RelV x v→RelV y u→R x y H2→wpAny (model X.prog X.w) X.A (f v u) Q X.xe s2):
 wpAny (model X.prog X.w) X.A (eval a X.env) (fun v s₁=>wpAny (model X.prog X.w) X.A (eval b X.env) (fun u s₂=>wpAny (model X.prog X.w) X.A (f v u) Q X.xe s₂) X.xe s₁) X.xe s:=by
 refine thn (ha pins s σ H _ I h) fun v s1 ⟨x,H1,I1,r1,q1⟩=>?_
 refine thn (hb pins s1 σ H1 _ I1 q1) fun u s2 ⟨y,H2,I2,r2,q2⟩=>?_
 exact hf v u s2 x y H2 I2 r1 r2 q2
noncomputable def tVar(i:Nat):TE:=fun σ H Q=>∃v,σ[i]?=some (some v)∧Q v H
noncomputable def tC(v:V):TE:=fun _ H Q=>Q v H
theorem t0a{i:Nat}{x:Str}{pos:Pos}(hN:X.N[i]?=some x)(hv:Vis X.env.scope x)(hd:(x==("__debug__":Str))=false:=by decide)(hcd:(x==("__classdict__":Str))=false:=by decide):PE X (.Name x pos) (tVar i):=by
 intro pins s σ H Q I h;obtain ⟨v,e,h⟩:=h;obtain ⟨m,hn,hl⟩:=I.loc;obtain ⟨u,r,l⟩:=hl i x v hN e hv;have fin:EP X pins σ Q u s:=⟨v,H,I,r,h⟩;rcases l with ⟨hk,hm⟩|⟨hk,c,hc,hcell⟩
 ·exact wpAny_Name (wpAny_loadName_local I.ok.kind hk hn hm fin) hd
 ·rcases hk with hk |hk
  ·exact wpAny_Name (wpAny_loadName_cell I.ok.kind hk hc hcell fin) hd
  ·exact wpAny_Name (wpAny_loadName_free I.ok.kind hk hc hcell fin hcd) hd
theorem pe_int{i j pos}:PE X (.Constant (.int i) j pos) (tC (.int i)):=fun _ _ _ H _ I h=>wpAny_Constant_int ⟨.int i,H,I.tok _,⟨_,rfl⟩,h⟩
theorem pe_bl{b j pos}:PE X (.Constant (.bool b) j pos) (tC (.bl b)):=fun _ _ _ H _ I h=>Constant_bool ⟨.bl b,H,I,rfl,h⟩
theorem pe_non{j pos}:PE X (.Constant .none j pos) (tC .non):=fun _ _ _ H _ I h=>Constant_none ⟨.non,H,I,rfl,h⟩
noncomputable def Gl(X:Cx)(x:Str):Prop:=X.env.kindOf x=some .globalImplicit
theorem s0z{E:Value→Shared→Prop}{pins:List (Addr×Obj)}{s:Shared}{σ:St}{H:Hp}{x:Str}{u:Value}{pos:Pos}{Q:Value→Shared→Prop}(I:Inv X pins σ H s)(hg:Gl X x)(hm:X.mg x=some u)(h:Q u s)
 (hd:(x==("__debug__":Str))=false:=by decide):wpAny (model X.prog X.w) X.A (eval (.Name x pos) X.env) Q E s:=
 Calls.Name_function_global I.ok.kind hg (Calls.loadGlobal_global (by rw[I.ok.glob];exact I.mod.glob.keeps I.bk) hm h) hd
theorem s0y{E:Value→Shared→Prop}{pins:List (Addr×Obj)}{s:Shared}{σ:St}{H:Hp}{x:Str}{u:Value}{pos:Pos}{Q:Value→Shared→Prop}(I:Inv X pins σ H s)(hg:Gl X x)(hm:X.mg x=none)(hv:bootBuiltins x=some u)(h:Q u s)
 (hn:x≠"__name__":=by decide) (hd:(x==("__debug__":Str))=false:=by decide):wpAny (model X.prog X.w) X.A (eval (.Name x pos) X.env) Q E s:=by
 obtain ⟨mb,h1,h2⟩:=I.mod.blt;exact Calls.Name_function_global I.ok.kind hg (Calls.loadGlobal_builtin (by rw[I.ok.glob];exact I.mod.glob.keeps I.bk) hm (by rw[I.ok.blt];exact h1.keeps I.bk) ((h2 x hn).trans hv) h) hd
theorem g0w{x:Str}{v:V}{u:Value}{pos:Pos}(hg:Gl X x)(hm:X.mg x=some u)(r:RelV v u)(hd:(x==("__debug__":Str))=false:=by decide):PE X (.Name x pos) (tC v):=
 fun _ _ _ H _ I h=>s0z I hg hm ⟨v,H,I,r,h⟩ hd
theorem z1l{x:Str}{v:V}{u:Value}{pos:Pos}(hg:Gl X x)(hm:X.mg x=none)(hv:bootBuiltins x=some u)(r:RelV v u)(hn:x≠"__name__":=by decide)(hd:(x==("__debug__":Str))=false:=by decide):PE X (.Name x pos) (tC v):=
 fun _ _ _ H _ I h=>s0y I hg hm hv ⟨v,H,I,r,h⟩ hn hd
variable{a b:Expr}{ta tb:TE}{pos:Pos}
noncomputable def PC(X:Cx)(op:CmpOp)(a b:Expr)(t:TE):Prop:=
 ∀(pins:List (Addr×Obj)) (s:Shared) (σ:St) (H:Hp) (Q:VK),Inv X pins σ H s→t σ H Q→
  wpAny (model X.prog X.w) X.A (eval a X.env) (fun v s₁=>wpAny (model X.prog X.w) X.A (eval b X.env) (fun u s₂=>wpAny (model X.prog X.w) X.A (compareOp op v u) (EP X pins σ Q) X.xe s₂) X.xe s₁) X.xe s
theorem c0u(b:Expr){op:CmpOp}(h:op≠.In)(h2:op≠.NotIn):behindInMarks op b=false:=by
 have e1:(op==CmpOp.In)=false:=by cases op<;>first |rfl |exact absurd rfl h
 have e2:(op==CmpOp.NotIn)=false:=by cases op<;>first |rfl |exact absurd rfl h2
 cases b<;>simp[behindInMarks,e1,e2]
noncomputable def tB(t:TE):TT:=fun σ H Q=>t σ H fun x H1=>∃c,x=.bl c∧Q c H1
theorem pt_cmp{op:CmpOp}{t:TE}(h:PC X op a b t)(h1:behindInMarks op b=false:=by first |exact c0u _ (by decide) (by decide)|rfl):PT X (.Compare a [op] [b] pos) (tB t):=by
 intro pins s σ H Q I hw;refine wpAny_isTrue_Compare1 (thn (h pins s σ H _ I hw) fun v s1 h1=>thn h1 fun u s2 h2=>thn h2 fun c s3 ⟨x,H1,I1,r1,q1⟩=>?_) h1;obtain ⟨d,rfl,q⟩:=q1;cases r1;exact wpAny_truthy_bool ⟨H1,I1,q⟩
theorem pt_val{e:Expr}{t:TE}(h:PE X e t)(he:∀whole,isTrue e X.env whole=(do let v←whole;standAt e.pos;holding [v] (truthy v)):=by intro _;rfl):PT X e (tB t):=by
 intro pins s σ H Q I hw;refine isTrue_plain (thn (h pins s σ H _ I hw) fun v s1 ⟨x,H1,I1,r1,q1⟩=>?_) (he _);obtain ⟨d,rfl,q⟩:=q1;cases r1;exact wpAny_truthy_bool ⟨H1,I1,q⟩
variable{tA tB':TT}{rest:List Expr}
noncomputable def tOr(t u:TT):TT:=fun σ H Q=>t σ H fun c H1=>if c=true then Q true H1 else u σ H1 Q
noncomputable def tNot(t:TT):TT:=fun σ H Q=>t σ H fun c H1=>Q (!c) H1
theorem pw_or1(ha:PT X a tA):PW X (.BoolOp .Or [a] pos) tA:=by
 intro wh pins s σ H Q I h;refine isTrue_or (thn (ha pins s σ H Q I h) fun c s1 e=>?_);cases c with
 |false=>exact isTrue_or_nil e
 |true=>exact e
theorem pw_or(ha:PT X a tA)(hb:PW X (.BoolOp .Or (b::rest) pos) tB'):PW X (.BoolOp .Or (a::b::rest) pos) (tOr tA tB'):=by
 intro wh pins s σ H Q I h;refine isTrue_or (thn (ha pins s σ H _ I h) fun c s1 ⟨H1,I1,q1⟩=>?_);cases c with
 |true=>exact ⟨H1,I1,q1⟩
 |false=>exact hb wh pins s1 σ H1 Q I1 q1
theorem pt_not(ha:PT X a tA):PT X (.UnaryOp .Not a pos) (tNot tA):=by
 intro pins s σ H Q I h;exact isTrue_not (ha pins s σ H (fun c H1=>Q (!c) H1) I h)
noncomputable def tAndV(ta tb:TE):TE:=fun σ H Q=>ta σ H fun x H1=>∃c,x=.bl c∧if c=true then tb σ H1 Q else Q (.bl false) H1
noncomputable def tNotV(ta:TE):TE:=fun σ H Q=>ta σ H fun x H1=>∃c,x=.bl c∧Q (.bl (!c)) H1
theorem pe_one{op}{t:TE}(h:PE X a t):PE X (.BoolOp op [a] pos) t:=fun pins s σ H Q I hw=>BoolOp_one (h pins s σ H Q I hw)
theorem pe_and(ha:PE X a ta)(hb:PE X (.BoolOp .And (b::rest) pos) tb):PE X (.BoolOp .And (a::b::rest) pos) (tAndV ta tb):=by
 intro pins s σ H Q I h;refine BoolOp_and (thn (ha pins s σ H _ I h) fun v s1 ⟨x,H1,I1,r1,q1⟩=>?_);obtain ⟨c,rfl,q1⟩:=q1;cases r1;refine wpAny_truthy_bool ?_;cases c with
 |true=>exact hb pins s1 σ H1 Q I1 q1
 |false=>exact ⟨.bl false,H1,I1,rfl,q1⟩
theorem pe_not(ha:PE X a ta):PE X (.UnaryOp .Not a pos) (tNotV ta):=by
 intro pins s σ H Q I h;refine UnaryOp_ (thn (ha pins s σ H _ I h) fun v s1 ⟨x,H1,I1,r1,q1⟩=>?_);obtain ⟨c,rfl,q1⟩:=q1;cases r1;exact not_of (wpAny_truthy_bool ⟨.bl (!c),H1,I1,rfl,q1⟩)
noncomputable def tIf(t:TT)(ta tb:TE):TE:=fun σ H Q=>t σ H fun c H1=>if c=true then ta σ H1 Q else tb σ H1 Q
theorem c0t{c:Expr}(hc:PT X c tA)(ha:PE X a ta)(hb:PE X b tb):PE X (.IfExp c a b pos) (tIf tA ta tb):=by
 intro pins s σ H Q I h;refine wpAny_IfExp (thn (hc pins s σ H _ I h) fun d s1 ⟨H1,I1,q1⟩=>?_);cases d with
 |true=>exact ha pins s1 σ H1 Q I1 q1
 |false=>exact hb pins s1 σ H1 Q I1 q1
end
end L2
namespace L2
open PySem PySem.Spec PyProof.Rows
noncomputable def SqL(K:PySem.W.Frag)(H:Hp)(a:Addr)(xs:List V):Prop:=
 Rd H a (.lst xs)∨
  ∃(o:Obj) (its:Array Value) (n:Nat),K.lookup a=some o∧o.cls=.type "list"∧o.dict=none∧o.data=.seq its n∧its.size≤sizeLine∧Vals xs its.toList
noncomputable def SqT(K:PySem.W.Frag)(H:Hp)(a:Addr)(xs:List V):Prop:=
 Rd H a (.tup xs)∨
  ∃(o:Obj) (its:Array Value) (n:Nat),K.lookup a=some o∧o.cls=.type "tuple"∧o.data=.seq its n∧its.size≤sizeLine∧Vals xs its.toList
noncomputable def absV:Value→Option V
 | .none=>some .non
 | .bool b=>some (.bl b)
 | .int i _=>some (.int i)
 | .str x _=>some (.str x)
 | .bytes b _=>some (.byt b)
 | .float b _=>some (.flt b)
 | .ref a=>some (.ref a)
 | .type n=>some (.ty n)
 |_=>none
theorem RelV.abs{x:V}{u:Value}(r:RelV x u):absV u=some x:=by
 cases x with
 |non=>cases r;rfl
 |bl _=>cases r;rfl
 |int _=>obtain ⟨t,rfl⟩:=r;rfl
 |str _=>obtain ⟨t,rfl⟩:=r;rfl
 |byt _=>obtain ⟨t,rfl⟩:=r;rfl
 |flt _=>obtain ⟨t,rfl⟩:=r;rfl
 |ref _=>cases r;rfl
 |ty _=>cases r;rfl
theorem RelV.inj{x y:V}{u:Value}(r:RelV x u)(q:RelV y u):x=y:=Option.some.inj (r.abs.symm.trans q.abs)
theorem Vals.inj:∀{xs ys:List V} {us:List Value},Vals xs us→Vals ys us→xs=ys
 |_,_,_,.nil,.nil=>rfl
 |_,_,_,.cons r t,.cons r' t'=>by rw[r.inj r',Vals.inj t t']
section
variable{X:Cx}{pins:List (Addr×Obj)}{σ:St}{H:Hp}{s:Shared}{a:Addr}{xs ys:List V}
theorem SqL.of{K:PySem.W.Frag}(h:H a=some (.lst xs)):SqL K H a xs:=.inl (.inl h)
theorem SqT.of{K:PySem.W.Frag}(h:H a=some (.tup xs)):SqT K H a xs:=.inl (.inl h)
theorem Inv.list(I:Inv X pins σ H s)(h:SqL X.K H a xs):∃its:List Value,Vals xs its∧PlainL s.heap a its.toArray∧xs.length≤sizeLine:=by
 rcases h with h |⟨o,its,n,hk,hc,hd,hs,hz,r⟩
 ·obtain ⟨z,its,n,r,e⟩:=h.ok I.hok;exact ⟨its,r,⟨_,n,e,rfl,rfl,rfl⟩,z⟩
 ·refine ⟨its.toList,r,⟨o,n,I.kIn a o hk,hc,hd,by simpa using hs⟩,?_⟩;have e:=r.length;simp only[Array.length_toList]at e;omega
theorem Inv.tuple(I:Inv X pins σ H s)(h:SqT X.K H a xs):∃its:List Value,Vals xs its∧IsTup s.heap a its.toArray∧xs.length≤sizeLine:=by
 rcases h with h |⟨o,its,n,hk,hc,hs,hz,r⟩
 ·obtain ⟨z,its,r,p⟩:=h.ok I.hok;exact ⟨its,r,p.tup,z⟩
 ·refine ⟨its.toList,r,⟨o,I.kIn a o hk,hc,n,by simpa using hs⟩,?_⟩;have e:=r.length;simp only[Array.length_toList]at e;omega
theorem Inv.list_inj(I:Inv X pins σ H s)(h:SqL X.K H a xs)(h':SqL X.K H a ys):xs=ys:=by
 obtain ⟨its,r,⟨o,n,e,_,_,d⟩,_⟩:=I.list h;obtain ⟨its',r',⟨o',n',e',_,_,d'⟩,_⟩:=I.list h';rw[e]at e';cases e';rw[d]at d';injection d' with d1 _
 have:its=its':=by simpa using congrArg Array.toList d1
 subst this;exact r.inj r'
theorem Inv.tuple_inj(I:Inv X pins σ H s)(h:SqT X.K H a xs)(h':SqT X.K H a ys):xs=ys:=by
 obtain ⟨its,r,⟨o,e,_,n,d⟩,_⟩:=I.tuple h;obtain ⟨its',r',⟨o',e',_,n',d'⟩,_⟩:=I.tuple h';rw[e]at e';cases e';rw[d]at d';injection d' with d1 _
 have:its=its':=by simpa using congrArg Array.toList d1
 subst this;exact r.inj r'
end
noncomputable abbrev Cx.wish(X:Cx)(E:Value→Shared→Prop):Cx:={X with xe:=E}
noncomputable abbrev Cx.nox(X:Cx):Cx:=X.wish fun _ _=>False
theorem Cx.Ok.wish{X:Cx}(ok:X.Ok)(E:Value→Shared→Prop):(X.wish E).Ok:=
 ⟨ok.mod,ok.kind,ok.glob,ok.blt,ok.above,ok.inj,ok.has,ok.cab,ok.hd,ok.frames,ok.stk,ok.exf,ok.bs,ok.bsz,ok.noex,ok.exfs,ok.funs,ok.frf⟩
theorem Cx.Ok.unwish{X:Cx}{E:Value→Shared→Prop}(ok:(X.wish E).Ok):X.Ok:=
 ⟨ok.mod,ok.kind,ok.glob,ok.blt,ok.above,ok.inj,ok.has,ok.cab,ok.hd,ok.frames,ok.stk,ok.exf,ok.bs,ok.bsz,ok.noex,ok.exfs,ok.funs,ok.frf⟩
section
variable{X:Cx}{pins:List (Addr×Obj)}{σ:St}{H:Hp}{s:Shared}{E:Value→Shared→Prop}
theorem Inv.wish(I:Inv X pins σ H s)(E:Value→Shared→Prop):Inv (X.wish E) pins σ H s:=⟨I.ok.wish E,I.os,I.bare,I.base,I.loc,I.cell,I.free,I.freeC,I.pin,I.hok,I.len⟩
theorem Inv.unwish(I:Inv (X.wish E) pins σ H s):Inv X pins σ H s:=⟨I.ok.unwish,I.os,I.bare,I.base,I.loc,I.cell,I.free,I.freeC,I.pin,I.hok,I.len⟩
theorem SP.unwish{D:Ends}{f:Flow}{s':Shared}(h:SP (X.wish E) pins D f s'):SP X pins D f s':=by
 cases f with
 |next=>obtain ⟨σ',H',I,q⟩:=h;exact ⟨σ',H',I.unwish,q⟩
 |brk=>obtain ⟨σ',H',I,q⟩:=h;exact ⟨σ',H',I.unwish,q⟩
 |cont=>obtain ⟨σ',H',I,q⟩:=h;exact ⟨σ',H',I.unwish,q⟩
 |ret u=>obtain ⟨v,σ',H',I,r,q⟩:=h;exact ⟨v,σ',H',I.unwish,r,q⟩
theorem PSs.nox{st:List Stmt}{t:TS}(h:PSs X.nox st t):PSs X st t:=fun pins s σ H D I hw=>
 wpAny_mono (h pins s σ H D (I.wish _) hw) (fun _ _ q=>q.unwish) fun _ _ z=>False.elim z
end
section
variable{X:Cx}{st:Stmt}{rest:List Stmt}{t u:TS}{e:Expr}{te:TE}{pos:Pos}
noncomputable def tNext:TS:=fun D σ H=>D.nx σ H
noncomputable def tSeq(t u:TS):TS:=fun D σ H=>t {D with nx:=u D} σ H
theorem z1k:PSs X [] tNext:=fun _ _ σ H _ I h=>wpAny_execs_nil ⟨σ,H,I,h⟩
theorem j0g(h1:PS X st t)(h2:PSs X rest u):PSs X (st::rest) (tSeq t u):=by
 intro pins s σ H D I h;refine wpAny_execs_cons (thn (h1 pins s σ H {D with nx:=u D} I h) fun f s1 q=>?_);cases f with
 |next=>
  obtain ⟨σ',H',I',q⟩:=q;exact h2 pins s1 σ' H' D I' q
 |ret v=>exact q
 |brk=>exact q
 |cont=>exact q
theorem w0c(h1:PS X st t):PSs X [st] t:=by
 intro pins s σ H D I h;refine wpAny_execs_cons (thn (h1 pins s σ H D I h) fun f s1 q=>?_);cases f with
 |next=>exact wpAny_execs_nil q
 |ret v=>exact q
 |brk=>exact q
 |cont=>exact q
theorem Inv.quiet{pins:List (Addr×Obj)}{σ:St}{H:Hp}{s:Shared}(I:Inv X pins σ H s):interactive X.env=false:=by simp[interactive,I.ok.kind]
noncomputable def tDrop(te:TE):TS:=fun D σ H=>te σ H fun _ H1=>D.nx σ H1
theorem z1j(he:PE X e te)(hs:swapsWith e none pos.line X.env=pure false:=by rfl):PS X (.Expr e pos) (tDrop te):=by
 intro pins s σ H D I h;exact wpAny_Expr_any (thn (he pins s σ H _ I h) fun v s1 ⟨x,H1,I1,r1,q1⟩=>⟨σ,H1,I1,q1⟩) I.quiet hs
noncomputable def tRet(te:TE):TS:=fun D σ H=>te σ H D.rt
theorem a0o(he:PE X e te):PS X (.Return (some e) pos) (tRet te):=by
 intro pins s σ H D I h;exact wpAny_Return_some (thn (he pins s σ H _ I h) fun v s1 ⟨x,H1,I1,r1,q1⟩=>⟨x,σ,H1,I1,r1,q1⟩)
noncomputable def tIfS(c:TT)(t u:TS):TS:=fun D σ H=>c σ H fun b H1=>if b=true then t D σ H1 else u D σ H1
theorem ps_if{c:Expr}{a b:List Stmt}{tc:TT}(hc:PT X c tc)(ha:PSs X a t)(hb:PSs X b u):PS X (.If c a b pos) (tIfS tc t u):=by
 intro pins s σ H D I h;refine wpAny_If (thn (hc pins s σ H _ I h) fun d s1 ⟨H1,I1,q1⟩=>?_);cases d with
 |true=>exact ha pins s1 σ H1 D I1 q1
 |false=>exact hb pins s1 σ H1 D I1 q1
end
noncomputable abbrev TG:=V→St→Hp→(St→Hp→Prop)→Prop
noncomputable abbrev TGs:=List V→St→Hp→(St→Hp→Prop)→Prop
noncomputable def PG(X:Cx)(target:Expr)(t:TG):Prop:=
 ∀(pins:List (Addr×Obj)) (s:Shared) (σ:St) (H:Hp) (v:V) (u:Value) (Q:St→Hp→Prop),Inv X pins σ H s→RelV v u→t v σ H Q→
  wpAny (model X.prog X.w) X.A (assign target X.env u) (fun _ s'=>∃ σ' H',Inv X pins σ' H' s'∧Q σ' H') X.xe s
noncomputable def PGs(X:Cx)(ts:List Expr)(t:TGs):Prop:=
 ∀(pins:List (Addr×Obj)) (s:Shared) (σ:St) (H:Hp) (vs:List V) (us:List Value) (Q:St→Hp→Prop),Inv X pins σ H s→Vals vs us→t vs σ H Q→
  wpAny (model X.prog X.w) X.A (assignInOrder ((assignEach ts X.env).map (·.2)) us) (fun _ s'=>∃ σ' H',Inv X pins σ' H' s'∧Q σ' H') X.xe s
noncomputable abbrev TSet:=V→V→V→Hp→(Hp→Prop)→Prop
noncomputable def PSet(X:Cx)(t:TSet):Prop:=
 ∀(pins:List (Addr×Obj)) (s:Shared) (σ:St) (H:Hp) (o i v:V) (ov iv u:Value) (Q:Hp→Prop),Inv X pins σ H s→RelV o ov→RelV i iv→RelV v u→t o i v H Q→
  wpAny (model X.prog X.w) X.A (setItem ov iv u) (fun _ s'=>∃H',Inv X pins σ H' s'∧Q H') X.xe s
section
variable{X:Cx}{pos:Pos}
noncomputable def l0n(i:Nat):TG:=fun v σ H Q=>Q (σ.set i (some v)) H
theorem i3{i:Nat}{x:Str}(hN:X.N.Nodup)(hi:X.N[i]?=some x)(hx:Loc X.env.scope x)(hf:X.fn x=true∨X.env.scope.names.lookup x=some .local:=by first |exact .inl rfl |exact .inr rfl |assumption):PG X (.Name x pos) (l0n i):=by
 intro pins s σ H v u Q I r h;exact wpAny_assign_Name (j0h I hN hi hx r (fun s' I'=>⟨_,H,I',h⟩) hf)
noncomputable def gNil:TGs:=fun vs σ H Q=>vs=[]∧Q σ H
noncomputable def gCons(t:TG)(u:TGs):TGs:=fun vs σ H Q=>∃v r,vs=v::r∧t v σ H fun σ' H'=>u r σ' H' Q
theorem e8:PGs X [] gNil:=by
 intro pins s σ H vs us Q I r h;obtain ⟨e,h⟩:=h;subst e;cases r;exact assignInOrder_nil ⟨σ,H,I,h⟩
theorem o4{e:Expr}{es:List Expr}{t:TG}{u:TGs}(h1:PG X e t)(h2:PGs X es u)
 (hs:(assignEach (e::es) X.env).map (·.2)=assign e X.env::(assignEach es X.env).map (·.2):=by rfl):PGs X (e::es) (gCons t u):=by
 intro pins s σ H vs us Q I r h;obtain ⟨v,vr,e1,h⟩:=h;subst e1;cases r with
 |cons r rr=>
  rw[hs];refine assignInOrder_cons (thn (h1 pins s σ H _ _ _ I r h) fun _ s1 ⟨σ1,H1,I1,q1⟩=>?_);exact h2 pins s1 σ1 H1 _ _ Q I1 rr q1
noncomputable def gTup(K:PySem.W.Frag)(n:Nat)(t:TGs):TG:=fun v σ H Q=>∃a xs,v=.ref a∧SqT K H a xs∧xs.length=n∧t xs σ H Q
theorem x0z{es:List Expr}{k:Nat}{t:TGs}{n:Nat}(hc:X.calm=true)(h:PGs X es t)
 (hn:(assignEach es X.env).length=n:=by rfl) (hst:(assignEach es X.env).findIdx? (·.1)=none:=by rfl):PG X (.Tuple es k pos) (gTup X.K n t):=by
 intro pins s σ H v u Q I r hw;obtain ⟨a,xs,e1,hq,hl,hw⟩:=hw;subst e1;cases r;obtain ⟨its,rv,ht,hz⟩:=I.tuple hq;refine assign_Tuple_tuple (I.ok.hd hc) ht (by simp[hn,← hl,rv.length]) hst fun h' hx=>?_
 have I1:Inv X pins σ H {s with heap:=h'}:=I.kept (t':=s.toks) fun b o e=>hx b o (Nat.ne_of_lt (Heap.lt_size e)) e
 exact h pins _ σ H xs _ Q I1 (by simpa using rv) hw
noncomputable def gSub(to ti:TE)(t:TSet):TG:=fun v σ H Q=>to σ H fun o H1=>ti σ H1 fun i H2=>t o i v H2 fun H3=>Q σ H3
theorem pg_sub{o i:Expr}{to ti:TE}{t:TSet}(ho:PE X o to)(hi:PE X i ti)(hs:PSet X t)
 (ha:∀v,assign (.Subscript o i pos) X.env v=(do
  let ov←holding [v] (eval o X.env)
  let iv←holding [v,ov] (eval i X.env)
  standAt pos
  holding [v,ov,iv] (setItem ov iv v)
  release [v,ov,iv] []):=by intro _;rfl):PG X (.Subscript o i pos) (gSub to ti t):=by
 intro pins s σ H v u Q I r h;rw[ha];refine wpAny_bind (wpAny_holding (thn (ho pins s σ H _ I h) fun ov s1 ⟨x,H1,I1,r1,q1⟩=>?_));refine wpAny_bind (wpAny_holding (thn (hi pins s1 σ H1 _ I1 q1) fun iv s2 ⟨y,H2,I2,r2,q2⟩=>?_));refine wpAny_bind (wpAny_standAt (wpAny_bind (wpAny_holding (thn (hs pins s2 σ H2 x y v ov iv u _ I2 r1 r2 r q2) fun _ s3 ⟨H3,I3,q3⟩=>?_))));exact wpAny_release ⟨σ,H3,I3,q3⟩
noncomputable def tAsg(te:TE)(g:TG):TS:=fun D σ H=>te σ H fun x H1=>g x σ H1 D.nx
theorem ps_asg{tg e:Expr}{te:TE}{g:TG}(he:PE X e te)(hg:PG X tg g)(hs:swapsWithSole [tg] e pos.line X.env=pure false:=by rfl)(hw:swappedStores [tg] e X.env=pure none:=by rfl)
 (h1:(assignEach [tg] X.env).map (·.2)=[assign tg X.env]:=by rfl):PS X (.Assign [tg] e pos) (tAsg te g):=by
 intro pins s σ H D I h;refine wpAny_Assign_stores (thn (he pins s σ H _ I h) fun v s1 ⟨x,H1,I1,r1,q1⟩=>?_) hs hw;rw[h1];exact thn (hg pins s1 σ H1 x v _ I1 r1 q1) fun _ s2 q=>q
theorem a0n{i:Nat}{x:Str}{e:Expr}{te:TE}{pos':Pos}(hN:X.N.Nodup)(hi:X.N[i]?=some x)(hx:Loc X.env.scope x)(he:PE X e te)(hs:swapsWith e (some (.Name x pos')) pos.line X.env=pure false:=by rfl)(hf:X.fn x=true∨X.env.scope.names.lookup x=some .local:=by first |exact .inl rfl |exact .inr rfl |assumption):
 PS X (.Assign [.Name x pos'] e pos) (tAsg te (l0n i)):=by
 intro pins s σ H D I h;refine wpAny_Assign_Name (thn (he pins s σ H _ I h) fun v s1 ⟨y,H1,I1,r1,q1⟩=>?_) hs;exact j0h I1 hN hi hx r1 (fun s2 I2=>⟨_,H1,I2,q1⟩) hf
end
section
variable{X:Cx}{pos:Pos}
end
structure It where
 go:Nat→Hp→Prop
 yld:Nat→Hp→V→Hp→Prop
 stop:Nat→Hp→Prop
noncomputable def FpOk(X:Cx)(pins:List (Addr×Obj))(H:Hp)(b:Addr):Prop:=
 H b=none∧b≠X.env.locals∧b∉X.fs∧(b∈X.ex∨X.s₀.heap.objs.size≤b)∧(∀x c,X.env.cells.lookup x=some c→c≠b)∧∀p∈X.pn++pins,p.1≠b
theorem Inv.fpOk{X:Cx}{pins:List (Addr×Obj)}{σ:St}{H H':Hp}{s:Shared}{b:Addr}(I:Inv X pins σ H s)(hb:s.heap.objs.size≤b)(hn:H' b=none):FpOk X pins H' b:=by
 refine ⟨hn,Nat.ne_of_gt (Nat.lt_of_lt_of_le I.lt hb),I.nofs hb,.inr (Nat.le_trans I.sz hb),fun x c e z=>?_,fun p hp z=>?_⟩
 ·obtain ⟨v,q⟩:=I.cell x c e;exact absurd (Nat.lt_of_lt_of_le q.lt (by rw[z];exact hb)) (Nat.lt_irrefl _)
 ·exact absurd (Nat.lt_of_lt_of_le (Heap.lt_size (I.pin p hp).1) (by rw[z];exact hb)) (Nat.lt_irrefl _)
structure Turn(P:Program)(w:World)(K:PySem.W.Frag)(tg:Expr)(J:It)(fp:List Addr)(it:Addr)(tn:Nat→Heap→Prop):Prop where
 mem:it∈fp
 obj:∀i h,tn i h→∀b∈fp,∃o,h.get? b=some o∧∀v,o.data≠.cell v
 keep:∀i h h',tn i h→(∀b∈fp,∀o,h.get? b=some o→h'.get? b=some o)→tn i h'
 item:∀(X:Cx),X.prog=P→X.w=w→X.K=K→X.calm=true→∀(i:Nat) (pins:List (Addr×Obj)) (s:Shared) (σ:St) (H:Hp) (E:Value→Shared→Prop),Inv X pins σ H s→(∀b∈fp,FpOk X pins H b)→tn i s.heap→J.go i H→
  wpAny (model P w) X.A (pyNext (.ref it)) (fun r s1=>∃u,r=some u∧
   wpAny (model P w) X.A (letOwnedTupleGo tg (.ref it) u) (fun _ s2=>∃x H',Inv X pins σ H' s2∧RelV x u∧J.yld i H x H'∧tn (i+1) s2.heap∧∀b∈fp,H' b=none) E s1) E s
 done:∀(X:Cx),X.prog=P→X.w=w→X.K=K→X.calm=true→∀(i:Nat) (pins:List (Addr×Obj)) (s:Shared) (σ:St) (H:Hp) (E:Value→Shared→Prop),Inv X pins σ H s→(∀b∈fp,FpOk X pins H b)→tn i s.heap→J.stop i H→
  wpAny (model P w) X.A (pyNext (.ref it)) (fun r s1=>r=none∧Inv X pins σ H s1) E s
 self:∀(A:Around) (i:Nat) (s:Shared) (Q:Value→Shared→Prop) (E:Value→Shared→Prop),tn i s.heap→Q (.ref it) s→wpAny (model P w) A (pyIter (.ref it)) Q E s
noncomputable abbrev TI:=St→Hp→(It→Hp→Prop)→Prop
noncomputable def PIE(X:Cx)(pins:List (Addr×Obj))(σ:St)(tg:Expr)(R:It→Hp→Prop)(itv:Value)(s2:Shared):Prop:=
 ∃(it:Addr) (fp:List Addr) (tn:Nat→Heap→Prop) (J:It) (H':Hp),itv=.ref it∧Inv X pins σ H' s2∧Turn X.prog X.w X.K tg J fp it tn∧tn 0 s2.heap∧(∀b∈fp,FpOk X pins H' b)∧R J H'
noncomputable def PI(X:Cx)(tg iter:Expr)(wi:TI):Prop:=
 ∀(pins:List (Addr×Obj)) (s:Shared) (σ:St) (H:Hp) (R:It→Hp→Prop),Inv X pins σ H s→wi σ H R→
  wpAny (model X.prog X.w) X.A (eval iter X.env) (fun v s1=>wpAny (model X.prog X.w) X.A (pyIter v) (PIE X pins σ tg R) X.xe s1) X.xe s
theorem z1i{M:Model}{A:Around}{E:Value→Shared→Prop}{s:Shared}{tg:Expr}{it:Addr}{u:Value}{o:Obj}{n:String}{vs:Array Value}{Q:Unit→Shared→Prop}(ho:s.heap.get? it=some o)(hc:o.cls=.type n)(hd:o.data=.fields vs)
 (hn:["enumerate","zip","dict_itemiterator","dict_reverseitemiterator","odict_iterator","itertools.zip_longest","itertools.pairwise"].contains n=false) (hQ:Q () s):wpAny M A (letOwnedTupleGo tg (.ref it) u) Q E s:=by
 unfold letOwnedTupleGo;cases tg<;>first
  |exact wpAny_pure hQ
  |(cases u<;>first
     |exact wpAny_pure hQ
     |(refine wpAny_bind (wpAny_load ho ?_);rw[hc,hd];show wpAny M A (if (["enumerate","zip","dict_itemiterator","dict_reverseitemiterator","odict_iterator","itertools.zip_longest","itertools.pairwise"].contains n&&vs[0]? ==some (rawInt _))=true then _ else _) Q E s;rw[if_neg (by intro h;rw[hn,Bool.false_and]at h;cases h)];exact wpAny_pure hQ))
noncomputable def Itl(K:PySem.W.Frag)(a:Addr):It:=
 ⟨fun i H=>∃xs x,SqL K H a xs∧xs[i]?=some x,fun i H x H'=>H'=H∧∀xs,SqL K H a xs→xs[i]?=some x,fun i H=>∃xs,SqL K H a xs∧xs.length≤i⟩
noncomputable def Itt(K:PySem.W.Frag)(a:Addr):It:=
 ⟨fun i H=>∃xs x,SqT K H a xs∧xs[i]?=some x,fun i H x H'=>H'=H∧∀xs,SqT K H a xs→xs[i]?=some x,fun i H=>∃xs,SqT K H a xs∧xs.length≤i⟩
noncomputable def Itr(lo:Int)(n:Nat):It:=⟨fun i _=>i<n,fun i H x H'=>H'=H∧x=.int (lo+i),fun i _=>n≤i⟩
theorem g0v{P:Program}{w:World}{K:PySem.W.Frag}{tg:Expr}(a it:Addr):Turn P w K tg (Itl K a) [it] it (fun i h=>h.IsListIter it a i)where
 mem:=by simp
 obj:=fun i h st b hb=>by
  have e:b=it:=by simpa using hb
  subst e;obtain ⟨o,e,c,d⟩:=st;exact ⟨o,e,fun v z=>by rw[d]at z;cases z⟩
 keep:=fun i h h' st k=>st.at fun o e=>k it (by simp) o e
 item:=by
  intro X hP hw hK hc i pins s σ H E I hf st hg;subst hP hw hK;obtain ⟨xs,x,hq,hx⟩:=hg;obtain ⟨its,rv,p,hz⟩:=I.list hq;obtain ⟨u,hu,ru⟩:=rv.get hx;obtain ⟨f0,f1,f2,f3,f4,f5⟩:=hf it (by simp);refine wpAny_pyNext_list_item st p.isList (x:=u) (by simpa using hu) fun h' st' sb=>?_
  have I1:Inv X pins σ H {s with heap:=h'}:=I.turned (t':=s.toks) (fun b o hb e=>(sb.2 b hb).trans e) f0 f1 f3 f4 f5;obtain ⟨o,e,c,d⟩:=id st';exact ⟨u,rfl,z1i (s:={s with heap:=h'}) e c d (by decide) ⟨x,H,I1,ru,⟨rfl,fun ys hy=>by rw[I.list_inj hy hq];exact hx⟩,st',fun b hb=>(hf b hb).1⟩⟩
 done:=by
  intro X hP hw hK hc i pins s σ H E I hf st hg;subst hP hw hK;obtain ⟨xs,hq,hx⟩:=hg;obtain ⟨its,rv,p,hz⟩:=I.list hq;obtain ⟨f0,f1,f2,f3,f4,f5⟩:=hf it (by simp);have hl:=rv.length;exact wpAny_pyNext_list_end (I.ok.hd hc) st p.isList (by simp;omega) fun h' eb=>⟨rfl,I.turned (t':=s.toks) (fun b o hb e=>eb b o hb e) f0 f1 f3 f4 f5⟩
 self:=fun _ _ _ _ _ st h=>wpAny_pyIter_listiter st h
theorem i0b{P:Program}{w:World}{K:PySem.W.Frag}{tg:Expr}(a it:Addr):Turn P w K tg (Itt K a) [it] it (fun i h=>h.IsTupleIter it a i)where
 mem:=by simp
 obj:=fun i h st b hb=>by
  have e:b=it:=by simpa using hb
  subst e;obtain ⟨o,e,c,d⟩:=st;exact ⟨o,e,fun v z=>by rw[d]at z;cases z⟩
 keep:=fun i h h' st k=>st.at fun o e=>k it (by simp) o e
 item:=by
  intro X hP hw hK hc i pins s σ H E I hf st hg;subst hP hw hK;obtain ⟨xs,x,hq,hx⟩:=hg;obtain ⟨its,rv,p,hz⟩:=I.tuple hq;obtain ⟨u,hu,ru⟩:=rv.get hx;obtain ⟨f0,f1,f2,f3,f4,f5⟩:=hf it (by simp);refine wpAny_pyNext_tuple_item st (show s.heap.IsTuple a its.toArray from p) (x:=u) (by simpa using hu) fun h' st' sb=>?_
  have I1:Inv X pins σ H {s with heap:=h'}:=I.turned (t':=s.toks) (fun b o hb e=>(sb.2 b hb).trans e) f0 f1 f3 f4 f5;obtain ⟨o,e,c,d⟩:=id st';exact ⟨u,rfl,z1i (s:={s with heap:=h'}) e c d (by decide) ⟨x,H,I1,ru,⟨rfl,fun ys hy=>by rw[I.tuple_inj hy hq];exact hx⟩,st',fun b hb=>(hf b hb).1⟩⟩
 done:=by
  intro X hP hw hK hc i pins s σ H E I hf st hg;subst hP hw hK;obtain ⟨xs,hq,hx⟩:=hg;obtain ⟨its,rv,p,hz⟩:=I.tuple hq;obtain ⟨f0,f1,f2,f3,f4,f5⟩:=hf it (by simp);have hl:=rv.length;exact wpAny_pyNext_tuple_end (I.ok.hd hc) st (show s.heap.IsTuple a its.toArray from p) (by simp;omega) fun h' eb=>⟨rfl,I.turned (t':=s.toks) (fun b o hb e=>eb b o hb e) f0 f1 f3 f4 f5⟩
 self:=fun _ _ _ _ _ st h=>wpAny_pyIter_tupleiter st h
theorem i0a{P:Program}{w:World}{K:PySem.W.Frag}{tg:Expr}(it:Addr)(lo:Int)(n:Nat):Turn P w K tg (Itr lo n) [it] it (fun i h=>IsRangeIter h it (lo+(i:Nat)*1) ((n:Int)-(i:Nat)) 1)where
 mem:=by simp
 obj:=fun i h st b hb=>by
  have e:b=it:=by simpa using hb
  subst e;exact ⟨_,st,fun v z=>by
   have z':Data.fields _=Data.cell v:=z;cases z'⟩
 keep:=fun i h h' st k=>k it (by simp) _ st
 item:=by
  intro X hP hw hK hc i pins s σ H E I hf st hg;subst hP hw hK;obtain ⟨f0,f1,f2,f3,f4,f5⟩:=hf it (by simp);have W:=Walks.range (prog:=X.prog) (w:=X.w) (I.ok.hd hc) it lo 1 n;refine W.item i s _ _ hg st fun v h' tk hv st' kk=>?_
  obtain ⟨t,rfl⟩:=hv;have I1:Inv X pins σ H {s with heap:=h',toks:=tk}:=I.turned (fun b o hb e=>kk b o (by simpa using hb) e) f0 f1 f3 f4 f5;refine ⟨_,rfl,z1i (s:={s with heap:=h',toks:=tk}) (n:="range_iterator") st' rfl rfl (by decide) ⟨.int (lo+i),H,I1,⟨t,?_⟩,⟨rfl,rfl⟩,st',fun b hb=>(hf b hb).1⟩⟩;rw[Int.mul_one]
 done:=by
  intro X hP hw hK hc i pins s σ H E I hf st hg;subst hP hw hK;obtain ⟨f0,f1,f2,f3,f4,f5⟩:=hf it (by simp);exact wpAny_pyNext_range_end (I.ok.hd hc) st (by have:n≤i:=hg;omega) fun h' eb=>⟨rfl,I.turned (t':=s.toks) (fun b o hb e=>eb b o hb e) f0 f1 f3 f4 f5⟩
 self:=fun _ _ _ _ _ st h=>wpAny_pyIter_rangeiter st h
end L2
namespace L2
open PySem PySem.Spec PyProof.Rows
section
variable{X:Cx}{tg:Expr}
theorem j0f{pins:List (Addr×Obj)}{σ:St}{H:Hp}{s:Shared}{R:It→Hp→Prop}{E:Value→Shared→Prop}{lo hi:Int}{t u v:Tok}{tk:Nat}(I:Inv X pins σ H s)(h1:-(2^62)≤lo)(h2:lo<2^62)(h3:-(2^62)≤hi)(h4:hi<2^62)
 (q:R (Itr lo (hi-lo).toNat) H):wpAny (model X.prog X.w) X.A (pyIter (.ref s.heap.objs.size)) (PIE X pins σ tg R) E {s with heap:=s.heap.push {cls:=.type "range",data:=.fields #[.int lo t,.int hi u,.int 1 v]},toks:=tk}:=by
 refine wpAny_pyIter_range (IsRange.new ..) (small_one h1 h2 h3 h4) ?_;have I1:Inv X pins σ H {s with heap:=s.heap.push {cls:=.type "range",data:=.fields #[.int lo t,.int hi u,.int 1 v]},toks:=tk}:=I.kept fun b o e=>Heap.get?_push_of_some _ e
 refine ⟨(s.heap.push {cls:=.type "range",data:=.fields #[.int lo t,.int hi u,.int 1 v]}).objs.size,[(s.heap.push {cls:=.type "range",data:=.fields #[.int lo t,.int hi u,.int 1 v]}).objs.size],_,_,H,rfl,
  I1.kept (t':=tk) fun b o e=>Heap.get?_push_of_some _ e,i0a _ lo (hi-lo).toNat,?_,fun b hb=>?_,q⟩
 ·have e1:lo+((0:Nat):Int)*1=lo:=by simp
  have e2:(((hi-lo).toNat:Nat):Int)-((0:Nat):Int)=Builtin.Range.rangeSize lo hi 1:=by rw[rangeSize_one];split<;>omega
  show IsRangeIter _ _ (lo+((0:Nat):Int)*1) ((((hi-lo).toNat:Nat):Int)-((0:Nat):Int)) 1;rw[e1,e2];exact Heap.get?_push_size _ rfl
 ·have e:b=(s.heap.push {cls:=.type "range",data:=.fields #[.int lo t,.int hi u,.int 1 v]}).objs.size:=by simpa using hb
  subst e;exact I1.fpOk (Nat.le_refl _) (I1.hok.fresh (Nat.le_refl _))
noncomputable def iRng1(ta:TA):TI:=fun σ H R=>ta σ H fun vs H1=>∃j:Int,vs=[.int j]∧-(2^62)≤j∧j<2^62∧R (Itr 0 j.toNat) H1
noncomputable def iRng2(ta:TA):TI:=fun σ H R=>ta σ H fun vs H1=>∃i j:Int,vs=[.int i,.int j]∧(-(2^62)≤i∧i<2^62∧-(2^62)≤j∧j<2^62)∧R (Itr i (j-i).toNat) H1
theorem g0u{a:Expr}{ta:TA}{p pos:Pos}(hg:Gl X "range")(hm:X.mg "range"=none)(ha:PA X [a] ta)(hs:starEach [a] X.env=[(false,eval a X.env)]:=by rfl):PI X tg (.Call (.Name "range" p) [a] [] pos) (iRng1 ta):=by
 intro pins s σ H R I h;refine Call_ (s0y I hg hm boot_range (PyProof.Rows.callWith_type1 (thn (ha pos pins s σ H _ I h) fun us s1 ⟨vs,H1,I1,r1,q1⟩=>?_) hs rfl));obtain ⟨j,e,q1,q2,q⟩:=q1;subst e;cases r1 with
 |cons r rr=>
  cases rr;obtain ⟨t,rfl⟩:=r;exact call_range_1 (j0f I1 (by omega) (by omega) q1 q2 (by simpa using q))
theorem g0t{a b:Expr}{ta:TA}{p pos:Pos}(hg:Gl X "range")(hm:X.mg "range"=none)(ha:PA X [a,b] ta)(hs:starEach [a,b] X.env=[(false,eval a X.env),(false,eval b X.env)]:=by rfl)(hs2:starEach [b] X.env=[(false,eval b X.env)]:=by rfl):
 PI X tg (.Call (.Name "range" p) [a,b] [] pos) (iRng2 ta):=by
 intro pins s σ H R I h;refine Call_ (s0y I hg hm boot_range (PyProof.Rows.callWith_type1 (thn (ha pos pins s σ H _ I h) fun us s1 ⟨vs,H1,I1,r1,q1⟩=>?_) (by rw[hs,hs2]) (by rw[hs2];rfl)));obtain ⟨i,j,e,⟨q1,q2,q3,q4⟩,q⟩:=q1;subst e;cases r1 with
 |cons r rr=>
  cases rr with
  |cons r' rr=>
   cases rr;obtain ⟨t,rfl⟩:=r;obtain ⟨t',rfl⟩:=r';exact call_range_2 (j0f I1 q1 q2 q3 q4 q)
noncomputable def tFor(wi:TI)(g:TG)(tb:TS):TS:=fun D σ H=>wi σ H fun J H1=>∃W:Nat→Nat→St→Hp→Prop,(∃m,W 0 m σ H1)∧∀i m σ H,W i m σ H→
 (J.stop i H∧D.nx σ H)∨(J.go i H∧∃N:St→Hp→Prop,(∀ σ' H',N σ' H'→∃m',m'<m∧W (i+1) m' σ' H')∧∀x H',J.yld i H x H'→g x σ H' fun σ2 H2=>tb {D with nx:=N,ct:=N,bk:=D.nx} σ2 H2)
noncomputable def o0g(fp:List Addr)(h:Heap):List (Addr×Obj):=fp.filterMap fun b=>(h.get? b).map fun o=>(b,o)
theorem y0t{fp:List Addr}{h:Heap}{b:Addr}{o:Obj}(hb:b∈fp)(e:h.get? b=some o):(b,o)∈o0g fp h:=List.mem_filterMap.mpr ⟨b,hb,by rw[e];rfl⟩
theorem g0s{fp:List Addr}{h:Heap}{p:Addr×Obj}(hp:p∈o0g fp h):p.1∈fp∧h.get? p.1=some p.2:=by
 obtain ⟨b,hb,e⟩:=List.mem_filterMap.mp hp;cases q:h.get? b with
 |none=>rw[q]at e;cases e
 |some o=>
  rw[q]at e;have e':(b,o)=p:=Option.some.inj e;subst e';exact ⟨hb,q⟩
theorem Inv.pinned{pins:List (Addr×Obj)}{σ:St}{H:Hp}{s:Shared}{fp:List Addr}(I:Inv X pins σ H s)(hf:∀b∈fp,FpOk X pins H b)(ho:∀b∈fp,∃o,s.heap.get? b=some o∧∀v,o.data≠.cell v):Inv X (pins++o0g fp s.heap) σ H s:=
 I.pins_of fun p hp=>(List.mem_append.mp hp).elim (fun z=>I.pin p (List.mem_append_right _ z)) fun z=>by
  obtain ⟨hb,e⟩:=g0s z;obtain ⟨f0,f1,f2,_⟩:=hf p.1 hb;obtain ⟨o,e',d⟩:=ho p.1 hb;rw[e]at e';cases e';exact ⟨e,f0,f1,f2,d⟩
theorem Inv.unpinned{pins pl:List (Addr×Obj)}{σ:St}{H:Hp}{s:Shared}(I:Inv X (pins++pl) σ H s):Inv X pins σ H s:=I.pins_of fun p hp=>I.pin p (List.mem_append_right _ (List.mem_append_left _ hp))
theorem ps_for{iter:Expr}{body:List Stmt}{wi:TI}{g:TG}{tb:TS}{pos:Pos}(hp:PassesOwn (model X.prog X.w) X.A X.env X.xe)(hc:X.calm=true)(hi:PI X tg iter wi)(hg:PG X tg g)(hb:PSs X body tb)
 (hs:∀x,foldedSetIterable iter X.env x=pure x:=by intro _;rfl):PS X (.For tg iter body [] pos) (tFor wi g tb):=by
 intro pins s σ H D I h;refine wpAny_For (thn (hi pins s σ H _ I h) fun v s1 h1=>thn h1 fun itv s2 h2=>?_) hs;obtain ⟨it,fp,tn,J,H2,e,I2,T,st2,f2,W,⟨m0,w0⟩,turn⟩:=h2;subst e;have stat:∀{H':Hp},(∀b∈fp,H' b=none)→∀b∈fp,FpOk X pins H' b:=fun hn b hb=>⟨hn b hb,(f2 b hb).2⟩
 refine codeAny_forLoop_any (fun n s'=>∃i σ' H',Inv X pins σ' H' s'∧tn i s'.heap∧(∀b∈fp,H' b=none)∧W i n σ' H') ?_ m0 ⟨0,σ,H2,I2,st2,fun b hb=>(f2 b hb).1,w0⟩;rintro n s3 ⟨i,σ3,H3,I3,st3,fr3,w3⟩;rcases turn i n σ3 H3 w3 with ⟨stop,qn⟩|⟨go,N,hN,step⟩
 ·refine wpAny_passesOwn hp (thn (T.done X rfl rfl rfl hc i pins s3 σ3 H3 X.xe I3 (stat fr3) st3 stop) fun r s4 ⟨hr,I4⟩=>?_);subst hr;exact wpAny_execs_nil ⟨σ3,H3,I4,qn⟩
 ·refine wpAny_passesOwn hp (thn (T.item X rfl rfl rfl hc i pins s3 σ3 H3 X.xe I3 (stat fr3) st3 go) fun r s4 ⟨u,hr,h4⟩=>?_);subst hr;refine wpAny_passesOwn hp (thn h4 fun _ s5 ⟨x,H5,I5,r5,y5,st5,fr5⟩=>?_);have I5':=I5.pinned (stat fr5) (T.obj _ _ st5);refine wpAny_passesOwn hp (thn (hg _ s5 σ3 H5 x u _ I5' r5 (step x H5 y5)) fun _ s6 ⟨σ6,H6,I6,q6⟩=>?_);refine wpAny_passesOwn hp (thn (hb _ s6 σ6 H6 _ I6 q6) fun f s7 q7=>?_);have again:∀{σ7:St} {H7:Hp},Inv X (pins++o0g fp s5.heap) σ7 H7 s7→N σ7 H7→∃m,m<n∧∃i σ' H',Inv X pins σ' H' s7∧tn i s7.heap∧(∀b∈fp,H' b=none)∧W i m σ' H':=fun {σ7 H7} I7 n7=>by
   obtain ⟨m',hm,w7⟩:=hN σ7 H7 n7;refine ⟨m',hm,i+1,σ7,H7,I7.unpinned,T.keep _ _ _ st5 fun b hb o e=>(I7.pin (b,o) (List.mem_append_right _ (List.mem_append_right _ (y0t hb e)))).1,fun b hb=>?_,w7⟩;obtain ⟨o,e,d⟩:=T.obj _ _ st5 b hb;exact (I7.pin (b,o) (List.mem_append_right _ (List.mem_append_right _ (y0t hb e)))).2.1
  cases f with
  |next=>obtain ⟨σ7,H7,I7,n7⟩:=q7;exact again I7 n7
  |cont=>obtain ⟨σ7,H7,I7,n7⟩:=q7;exact again I7 n7
  |brk=>obtain ⟨σ7,H7,I7,q7⟩:=q7;exact ⟨σ7,H7,I7.unpinned,q7⟩
  |ret v=>obtain ⟨x7,σ7,H7,I7,r7,q7⟩:=q7;exact ⟨x7,σ7,H7,I7.unpinned,r7,q7⟩
end
end L2
namespace L2
open PySem PySem.Spec PyProof.Rows
noncomputable abbrev R2:=V→V→Hp→VK→Prop
noncomputable def OpR(X:Cx)(f:Value→Value→Sem Value)(r:R2):Prop:=
 ∀(pins:List (Addr×Obj)) (s:Shared) (σ:St) (H:Hp) (x y:V) (v u:Value) (Q:VK),Inv X pins σ H s→RelV x v→RelV y u→r x y H Q→
  wpAny (model X.prog X.w) X.A (f v u) (EP X pins σ Q) X.xe s
noncomputable def UnR(X:Cx)(f:Value→Sem Value)(r:V→Hp→VK→Prop):Prop:=
 ∀(pins:List (Addr×Obj)) (s:Shared) (σ:St) (H:Hp) (x:V) (v:Value) (Q:VK),Inv X pins σ H s→RelV x v→r x H Q→
  wpAny (model X.prog X.w) X.A (f v) (EP X pins σ Q) X.xe s
noncomputable def y0c(X:Cx)(f:Value)(r:List V→Hp→VK→Prop):Prop:=
 ∀(pins:List (Addr×Obj)) (s:Shared) (σ:St) (H:Hp) (xs:List V) (us:List Value) (Q:VK),Inv X pins σ H s→Vals xs us→r xs H Q→
  wpAny (model X.prog X.w) X.A (call f us) (EP X pins σ Q) X.xe s
noncomputable def tOp(r:R2)(ta tb:TE):TE:=fun σ H Q=>ta σ H fun x H1=>tb σ H1 fun y H2=>r x y H2 Q
noncomputable def tUn(r:V→Hp→VK→Prop)(ta:TE):TE:=fun σ H Q=>ta σ H fun x H1=>r x H1 Q
noncomputable def rI(C:Int→Int→Prop)(g:Int→Int→V):R2:=fun x y H Q=>∃i j,x=.int i∧y=.int j∧C i j∧Q (g i j) H
noncomputable def rI0(g:Int→Int→V):R2:=fun x y H Q=>∃i j,x=.int i∧y=.int j∧Q (g i j) H
noncomputable def rU(g:Int→V):V→Hp→VK→Prop:=fun x H Q=>∃i,x=.int i∧Q (g i) H
section
variable{X:Cx}{a b c:Expr}{ta tb tc:TE}{pos:Pos}
theorem binT(ha:PE X a ta)(hb:PE X b tb){pins:List (Addr×Obj)}{s:Shared}{σ:St}{H:Hp}{R:V→V→Hp→Prop}(I:Inv X pins σ H s)
 (h:ta σ H fun x H1=>tb σ H1 fun y H2=>R x y H2) {Q:Value→Shared→Prop} {f:Value→Value→Sem Value}
 (hf:∀v u s2 x y H2,Inv X pins σ H2 s2→RelV x v→RelV y u→R x y H2→wpAny (model X.prog X.w) X.A (f v u) Q X.xe s2):
 wpAny (model X.prog X.w) X.A (eval a X.env) (fun v s₁=>wpAny (model X.prog X.w) X.A (eval b X.env) (fun u s₂=>wpAny (model X.prog X.w) X.A (f v u) Q X.xe s₂) X.xe s₁) X.xe s:=by
 refine thn (ha pins s σ H _ I h) fun v s1 ⟨x,H1,I1,r1,q1⟩=>?_
 refine thn (hb pins s1 σ H1 _ I1 q1) fun u s2 ⟨y,H2,I2,r2,q2⟩=>?_
 exact hf v u s2 x y H2 I2 r1 r2 q2
theorem pe_op{op:Operator}{r:R2}(ho:OpR X (binaryOp op) r)(ha:PE X a ta)(hb:PE X b tb):PE X (.BinOp a op b pos) (tOp r ta tb):=by
 intro pins s σ H Q I h;exact wpAny_BinOp (binT ha hb I h fun v u s2 x y H2 I2 rx ry q=>ho pins s2 σ H2 x y v u Q I2 rx ry q)
theorem pe_un{op:UnaryOp}{r:V→Hp→VK→Prop}(ho:UnR X (unaryOp op) r)(ha:PE X a ta):PE X (.UnaryOp op a pos) (tUn r ta):=by
 intro pins s σ H Q I h;exact UnaryOp_ (thn (ha pins s σ H _ I h) fun v s1 ⟨x,H1,I1,r1,q1⟩=>ho pins s1 σ H1 x v Q I1 r1 q1)
theorem opI{f:Value→Value→Sem Value}{C:Int→Int→Prop}{g:Int→Int→Int}
 (rule:∀(i j:Int) (t u:Tok) (s:Shared) (Q:Value→Shared→Prop) (E:Value→Shared→Prop),C i j→Q (.int (g i j) s.toks) {s with toks:=s.toks+1}→wpAny (model X.prog X.w) X.A (f (.int i t) (.int j u)) Q E s):
 OpR X f (rI C fun i j=>.int (g i j)):=by
 intro pins s σ H x y v u Q I rx ry h;obtain ⟨i,j,rfl,rfl,hc,q⟩:=h;obtain ⟨t,rfl⟩:=rx;obtain ⟨t',rfl⟩:=ry;exact rule i j t t' s _ _ hc ⟨.int (g i j),H,I.tok _,⟨_,rfl⟩,q⟩
theorem opI0{f:Value→Value→Sem Value}{g:Int→Int→Int}
 (rule:∀(i j:Int) (t u:Tok) (s:Shared) (Q:Value→Shared→Prop) (E:Value→Shared→Prop),Q (.int (g i j) s.toks) {s with toks:=s.toks+1}→wpAny (model X.prog X.w) X.A (f (.int i t) (.int j u)) Q E s):
 OpR X f (rI0 fun i j=>.int (g i j)):=by
 intro pins s σ H x y v u Q I rx ry h;obtain ⟨i,j,rfl,rfl,q⟩:=h;obtain ⟨t,rfl⟩:=rx;obtain ⟨t',rfl⟩:=ry;exact rule i j t t' s _ _ ⟨.int (g i j),H,I.tok _,⟨_,rfl⟩,q⟩
theorem opB0{f:Value→Value→Sem Value}{g:Int→Int→Bool}
 (rule:∀(i j:Int) (t u:Tok) (s:Shared) (Q:Value→Shared→Prop) (E:Value→Shared→Prop),Q (.bool (g i j)) s→wpAny (model X.prog X.w) X.A (f (.int i t) (.int j u)) Q E s):
 OpR X f (rI0 fun i j=>.bl (g i j)):=by
 intro pins s σ H x y v u Q I rx ry h;obtain ⟨i,j,rfl,rfl,q⟩:=h;obtain ⟨t,rfl⟩:=rx;obtain ⟨t',rfl⟩:=ry;exact rule i j t t' s _ _ ⟨.bl (g i j),H,I,rfl,q⟩
noncomputable def CDiv(i j:Int):Prop:=0<j∧j<1073741824
noncomputable def CPow(i j:Int):Prop:=0≤j∧j≤1000000∧i.natAbs<2^64
noncomputable def CMul(i j:Int):Prop:=(-(2^64)<i∧i<2^64)∨(-(2^64)<j∧j<2^64)
theorem CMul.ok{i j:Int}(h:CMul i j):IntMulOk i j:=by
 rcases h with ⟨h1,h2⟩|⟨h1,h2⟩
 ·exact .of_left (intBits_le_64 h1 h2)
 ·exact .of_right (intBits_le_64 h1 h2)
theorem op_add:OpR X (binaryOp .Add) (rI0 fun i j=>.int (i+j)):=opI0 fun _ _ _ _ _ _ _ q=>add_int q
theorem s0x:OpR X (binaryOp .Sub) (rI0 fun i j=>.int (i-j)):=opI0 fun _ _ _ _ _ _ _ q=>sub_int q
theorem x0y:OpR X (binaryOp .Mult) (rI CMul fun i j=>.int (i*j)):=opI fun _ _ _ _ _ _ _ hc q=>mul_int q hc.ok
theorem g0r:OpR X (binaryOp .FloorDiv) (rI CDiv fun i j=>.int (i/j)):=opI fun i j _ _ _ _ _ hc q=>by
 have h1:(0:Int)<j:=hc.1;have h2:j<1073741824:=hc.2;exact floordiv_int (by omega) (by rw[Int.fdiv_eq_ediv_of_nonneg i (by omega)];exact q) (.inl (PyProof.noPylong_small (by omega)))
theorem u0q:OpR X (binaryOp .Mod) (rI (fun _ j=>0<j) fun i j=>.int (i%j)):=opI fun i j _ _ _ _ _ hc q=>by
 have h1:(0:Int)<j:=hc;exact mod_int' (by omega) (by rw[Int.fmod_eq_emod_of_nonneg i (by omega)];exact q)
theorem op_pow:OpR X (binaryOp .Pow) (rI CPow fun i j=>.int (i^j.toNat)):=opI fun _ _ _ _ _ _ _ hc q=>pow_int_small hc.1 hc.2.1 hc.2.2 q
theorem unI{f:Value→Sem Value}{g:Int→Int}
 (rule:∀(i:Int) (t:Tok) (s:Shared) (Q:Value→Shared→Prop) (E:Value→Shared→Prop),Q (.int (g i) s.toks) {s with toks:=s.toks+1}→wpAny (model X.prog X.w) X.A (f (.int i t)) Q E s):
 UnR X f (rU fun i=>.int (g i)):=by
 intro pins s σ H x v Q I rx h;obtain ⟨i,rfl,q⟩:=h;obtain ⟨t,rfl⟩:=rx;exact rule i t s _ _ ⟨.int (g i),H,I.tok _,⟨_,rfl⟩,q⟩
theorem un_neg:UnR X (unaryOp .USub) (rU fun i=>.int (-i)):=unI fun _ _ _ _ _ q=>neg_int q
end
noncomputable def scal:V→V→Bool
 | .non,.non=>true | .non,.int _=>true | .int _,.non=>true | .non,.bl _=>true | .bl _,.non=>true | .non,.str _=>true | .str _,.non=>true
 | .int _,.int _=>true | .bl _,.bl _=>true | .str _,.str _=>true | .byt _,.byt _=>true
 | .int _,.str _=>true | .str _,.int _=>true | .bl _,.str _=>true | .str _,.bl _=>true
 |_,_=>false
noncomputable def rEq:R2:=fun x y H Q=>scal x y=true∧Q (.bl (decide (x=y))) H
noncomputable def rNe:R2:=fun x y H Q=>scal x y=true∧Q (.bl (!decide (x=y))) H
theorem g0q{i j:Int}:decide (V.int i=V.int j)=(i==j):=by
 rw[Bool.eq_iff_iff];simp
theorem a0m{i j:Bool}:decide (V.bl i=V.bl j)=(i==j):=by
 rw[Bool.eq_iff_iff];simp
theorem g0p{i j:Str}:decide (V.str i=V.str j)=(i==j):=by
 rw[Bool.eq_iff_iff];simp
theorem g0o{i j:Array UInt8}:decide (V.byt i=V.byt j)=(i.toList==j.toList):=by
 rw[Bool.eq_iff_iff];cases i;cases j;simp
section
variable{X:Cx}{a b c:Expr}{ta tb tc:TE}{pos:Pos}
theorem j4{pins:List (Addr×Obj)}{σ:St}{H:Hp}{s:Shared}{Q:VK}{k k':Bool}(I:Inv X pins σ H s)(q:Q (.bl k) H)(e:k=k'):EP X pins σ Q (.bool k') s:=by
 subst e;exact ⟨.bl k,H,I,rfl,q⟩
theorem q0n:OpR X (compareOp .Eq) rEq:=by
 intro pins s σ H x y v u Q I rx ry h;obtain ⟨hs,q⟩:=h;cases x with
 |non=>
  cases rx;cases y with
  |non=>cases ry;exact PySem.EqNone.eq_none_none (j4 I q (by simp))
  |bl j=>cases ry;exact PySem.EqNone.eq_none_bool (j4 I q (by simp))
  |int j=>obtain ⟨t',rfl⟩:=ry;exact PySem.EqNone.eq_none_int (j4 I q (by simp))
  |str j=>obtain ⟨t',rfl⟩:=ry;exact PySem.EqNone.eq_none_str (j4 I q (by simp))
  |_=>exact absurd (show false=true from hs) Bool.false_ne_true
 |bl i=>
  cases rx;cases y with
  |non=>cases ry;exact PySem.EqNone.eq_bool_none (j4 I q (by simp))
  |bl j=>cases ry;exact eq_bool (j4 I q a0m)
  |str j=>obtain ⟨t',rfl⟩:=ry;exact PySem.EqMixed.eq_bool_str (j4 I q (by simp))
  |_=>exact absurd (show false=true from hs) Bool.false_ne_true
 |int i=>
  obtain ⟨t,rfl⟩:=rx;cases y with
  |non=>cases ry;exact PySem.EqNone.eq_int_none (j4 I q (by simp))
  |int j=>obtain ⟨t',rfl⟩:=ry;exact eq_int (j4 I q g0q)
  |str j=>obtain ⟨t',rfl⟩:=ry;exact PySem.EqMixed.eq_int_str (j4 I q (by simp))
  |_=>exact absurd (show false=true from hs) Bool.false_ne_true
 |str i=>
  obtain ⟨t,rfl⟩:=rx;cases y with
  |non=>cases ry;exact PySem.EqNone.eq_str_none (j4 I q (by simp))
  |bl j=>cases ry;exact PySem.EqMixed.eq_str_bool (j4 I q (by simp))
  |int j=>obtain ⟨t',rfl⟩:=ry;exact PySem.EqMixed.eq_str_int (j4 I q (by simp))
  |str j=>obtain ⟨t',rfl⟩:=ry;exact eq_str (j4 I q g0p)
  |_=>exact absurd (show false=true from hs) Bool.false_ne_true
 |byt i=>
  obtain ⟨t,rfl⟩:=rx;cases y with
  |byt j=>obtain ⟨t',rfl⟩:=ry;exact PySem.W.eq_bytes (j4 I q g0o)
  |_=>exact absurd (show false=true from hs) Bool.false_ne_true
 |_=>cases y<;>exact absurd (show false=true from hs) Bool.false_ne_true
theorem z1h:OpR X (compareOp .NotEq) rNe:=by
 intro pins s σ H x y v u Q I rx ry h;obtain ⟨hs,q⟩:=h;cases x with
 |non=>
  cases rx;cases y with
  |non=>cases ry;exact PySem.EqNone.ne_none_none (j4 I q (by simp))
  |bl j=>cases ry;exact PySem.EqNone.ne_none_bool (j4 I q (by simp))
  |int j=>obtain ⟨t',rfl⟩:=ry;exact PySem.EqNone.ne_none_int (j4 I q (by simp))
  |str j=>obtain ⟨t',rfl⟩:=ry;exact PySem.EqNone.ne_none_str (j4 I q (by simp))
  |_=>exact absurd (show false=true from hs) Bool.false_ne_true
 |bl i=>
  cases rx;cases y with
  |non=>cases ry;exact PySem.EqNone.ne_bool_none (j4 I q (by simp))
  |bl j=>cases ry;exact ne_bool (j4 I q (congrArg not a0m))
  |str j=>obtain ⟨t',rfl⟩:=ry;exact PySem.EqMixed.ne_bool_str (j4 I q (by simp))
  |_=>exact absurd (show false=true from hs) Bool.false_ne_true
 |int i=>
  obtain ⟨t,rfl⟩:=rx;cases y with
  |non=>cases ry;exact PySem.EqNone.ne_int_none (j4 I q (by simp))
  |int j=>obtain ⟨t',rfl⟩:=ry;exact ne_int (j4 I q (congrArg not g0q))
  |str j=>obtain ⟨t',rfl⟩:=ry;exact PySem.EqMixed.ne_int_str (j4 I q (by simp))
  |_=>exact absurd (show false=true from hs) Bool.false_ne_true
 |str i=>
  obtain ⟨t,rfl⟩:=rx;cases y with
  |non=>cases ry;exact PySem.EqNone.ne_str_none (j4 I q (by simp))
  |bl j=>cases ry;exact PySem.EqMixed.ne_str_bool (j4 I q (by simp))
  |int j=>obtain ⟨t',rfl⟩:=ry;exact PySem.EqMixed.ne_str_int (j4 I q (by simp))
  |str j=>obtain ⟨t',rfl⟩:=ry;exact ne_str (j4 I q (congrArg not g0p))
  |_=>exact absurd (show false=true from hs) Bool.false_ne_true
 |byt i=>
  obtain ⟨t,rfl⟩:=rx;cases y with
  |byt j=>obtain ⟨t',rfl⟩:=ry;exact PySem.W.ne_bytes (j4 I q (congrArg not g0o))
  |_=>exact absurd (show false=true from hs) Bool.false_ne_true
 |_=>cases y<;>exact absurd (show false=true from hs) Bool.false_ne_true
theorem z1g:OpR X (compareOp .Lt) (rI0 fun i j=>.bl (decide (i<j))):=opB0 fun _ _ _ _ _ _ _ q=>lt_int q
theorem h0z:OpR X (compareOp .LtE) (rI0 fun i j=>.bl (decide (i≤j))):=opB0 fun _ _ _ _ _ _ _ q=>le_int q
theorem g0n:OpR X (compareOp .Gt) (rI0 fun i j=>.bl (decide (j<i))):=opB0 fun _ _ _ _ _ _ _ q=>gt_int q
theorem op_ge:OpR X (compareOp .GtE) (rI0 fun i j=>.bl (decide (j≤i))):=opB0 fun _ _ _ _ _ _ _ q=>ge_int q
theorem a0l:OpR X (compareOp .Is) (fun x y H Q=>y=.non∧Q (.bl (decide (x=.non))) H):=by
 intro pins s σ H x y v u Q I rx ry h;obtain ⟨rfl,q⟩:=h;cases ry;refine is_none_gen (j4 I q ?_);cases x<;>first
  |(cases rx;rfl)
  |(obtain ⟨t,rfl⟩:=rx;rfl)
theorem g0m:OpR X (compareOp .IsNot) (fun x y H Q=>y=.non∧Q (.bl (!decide (x=.non))) H):=by
 intro pins s σ H x y v u Q I rx ry h;obtain ⟨rfl,q⟩:=h;cases ry;refine isnot_none_gen (j4 I q ?_);cases x<;>first
  |(cases rx;rfl)
  |(obtain ⟨t,rfl⟩:=rx;rfl)
theorem d4(b:Expr){op:CmpOp}(h:op≠.In:=by decide)(h2:op≠.NotIn:=by decide):behindInMarks op b=false:=by
 have e1:(op==CmpOp.In)=false:=by cases op<;>first |rfl |exact absurd rfl h
 have e2:(op==CmpOp.NotIn)=false:=by cases op<;>first |rfl |exact absurd rfl h2
 cases b<;>simp[behindInMarks,e1,e2]
theorem z1f{op:CmpOp}{r:R2}(ho:OpR X (compareOp op) r)(ha:PE X a ta)(hb:PE X b tb)(hm:behindInMarks op b=false):PE X (.Compare a [op] [b] pos) (tOp r ta tb):=by
 intro pins s σ H Q I h;exact wpAny_Compare1 (binT ha hb I h fun v u s2 x y H2 I2 rx ry q=>ho pins s2 σ H2 x y v u Q I2 rx ry q) hm
noncomputable def tTest(t:TE):TT:=fun σ H Q=>t σ H fun x H'=>∃k,x=.bl k∧Q k H'
theorem z1e{op:CmpOp}{r:R2}(ho:OpR X (compareOp op) r)(ha:PE X a ta)(hb:PE X b tb)(hm:behindInMarks op b=false):PT X (.Compare a [op] [b] pos) (tTest (tOp r ta tb)):=by
 intro pins s σ H Q I h;refine wpAny_isTrue_Compare1 (thn (ha pins s σ H _ I h) fun v s1 ⟨x,H1,I1,r1,q1⟩=>thn (hb pins s1 σ H1 _ I1 q1) fun u s2 ⟨y,H2,I2,r2,q2⟩=>
  thn (ho pins s2 σ H2 x y v u _ I2 r1 r2 q2) fun c s3 ⟨z,H3,I3,r3,k,e,q3⟩=>?_) hm
 subst e;cases r3;exact wpAny_truthy_bool ⟨H3,I3,q3⟩
noncomputable def g0l(r r':R2)(ta tb tc:TE):TE:=fun σ H Q=>ta σ H fun x H1=>tb σ H1 fun y H2=>r x y H2 fun z H3=>∃k,z=.bl k∧
 (if k=true then tc σ H3 fun w' H4=>r' y w' H4 Q else Q (.bl false) H3)
theorem c0s{op op':CmpOp}{r r':R2}(ho:OpR X (compareOp op) r)(ho':OpR X (compareOp op') r')(ha:PE X a ta)(hb:PE X b tb)(hc:PE X c tc)
 (hm:lastMarks [op,op'] [b,c]=false:=by with_unfolding_all rfl):PE X (.Compare a [op,op'] [b,c] pos) (g0l r r' ta tb tc):=by
 intro pins s σ H Q I h;refine Compare_chain (thn (ha pins s σ H _ I h) fun v s1 ⟨x,H1,I1,r1,q1⟩=>chain_link (thn (hb pins s1 σ H1 _ I1 q1) fun u s2 ⟨y,H2,I2,r2,q2⟩=>
  thn (ho pins s2 σ H2 x y v u _ I2 r1 r2 q2) fun d s3 ⟨z,H3,I3,r3,k,e,q3⟩=>?_)) hm
 subst e;cases r3;refine wpAny_truthy_bool ?_;cases k with
 |false=>exact ite_ff ⟨.bl false,H3,I3,rfl,q3⟩
 |true=>exact ite_tt (chain_last (thn (hc pins s3 σ H3 _ I3 q3) fun w' s4 ⟨z',H4,I4,r4,q4⟩=>ho' pins s4 σ H4 y z' u w' Q I4 r2 r4 q4))
theorem c0r{op op':CmpOp}{r r':R2}(ho:OpR X (compareOp op) r)(ho':OpR X (compareOp op') r')(ha:PE X a ta)(hb:PE X b tb)(hc:PE X c tc)
 (hm:lastMarks [op,op'] [b,c]=false:=by with_unfolding_all rfl):PT X (.Compare a [op,op'] [b,c] pos) (tTest (g0l r r' ta tb tc)):=by
 intro pins s σ H Q I h;refine isTrue_chain (thn (ha pins s σ H _ I h) fun v s1 ⟨x,H1,I1,r1,q1⟩=>test_link (thn (hb pins s1 σ H1 _ I1 q1) fun u s2 ⟨y,H2,I2,r2,q2⟩=>
  thn (ho pins s2 σ H2 x y v u _ I2 r1 r2 q2) fun d s3 ⟨z,H3,I3,r3,k,e,q3⟩=>?_)) hm
 subst e;cases r3;refine wpAny_truthy_bool ?_;cases k with
 |false=>
  obtain ⟨k',e',q'⟩:=q3;cases e';exact ite_ff ⟨H3,I3,q'⟩
 |true=>
  refine ite_tt (test_last (thn (hc pins s3 σ H3 _ I3 q3) fun w' s4 ⟨z',H4,I4,r4,q4⟩=>thn (ho' pins s4 σ H4 y z' u w' _ I4 r2 r4 q4) fun d' s5 ⟨z2,H5,I5,r5,k2,e2,q5⟩=>?_));subst e2;cases r5;exact wpAny_truthy_bool ⟨H5,I5,q5⟩
theorem o0f:(sizeLine:Nat)<2^63:=by rw[sizeLine_eq];decide
theorem h0y{x:V}{us:List Value}(r:Vals [x] us):∃u,us=[u]∧RelV x u:=by
 cases r with
 |cons r1 r2=>cases r2;exact ⟨_,rfl,r1⟩
theorem vals2{x y:V}{us:List Value}(r:Vals [x,y] us):∃u w',us=[u,w']∧RelV x u∧RelV y w':=by
 cases r with
 |cons r1 r2=>
  cases r2 with
  |cons r3 r4=>cases r4;exact ⟨_,_,rfl,r1,r3⟩
theorem c0q:y0c X (.builtin "abs") (fun xs H Q=>∃i,xs=[.int i]∧Q (.int (if i<0 then -i else i)) H):=by
 intro pins s σ H xs us Q I r h;obtain ⟨i,rfl,q⟩:=h;obtain ⟨u,rfl,t,rfl⟩:=h0y r;exact call_abs_int fun u tk=>⟨.int (if i<0 then -i else i),H,I.tok _,⟨_,rfl⟩,q⟩
theorem g0k(hc:X.calm=true):y0c X (.builtin "min") (fun xs H Q=>∃i j,xs=[.int i,.int j]∧Q (.int (if j<i then j else i)) H):=by
 intro pins s σ H xs us Q I r h;obtain ⟨i,j,rfl,q⟩:=h;obtain ⟨u,w',rfl,⟨t,rfl⟩,⟨t',rfl⟩⟩:=vals2 r;refine min_two_ints (I.ok.hd hc) fun h' tk k=>⟨_,H,I.kept k,?_,q⟩
 by_cases hj:j<i
 ·rw[if_pos hj,if_pos hj];exact ⟨_,rfl⟩
 ·rw[if_neg hj,if_neg hj];exact ⟨_,rfl⟩
theorem o0e:y0c X (.type "int") (fun xs H Q=>(∃i,xs=[.int i]∧Q (.int i) H)∨∃k,xs=[.bl k]∧Q (.int (if k then 1 else 0)) H):=by
 intro pins s σ H xs us Q I r h;rcases h with ⟨i,rfl,q⟩|⟨k,rfl,q⟩
 ·obtain ⟨u,rfl,t,rfl⟩:=h0y r;exact call_int_int ⟨.int i,H,I,⟨_,rfl⟩,q⟩
 ·obtain ⟨u,rfl,r1⟩:=h0y r;cases r1;exact call_int_bool ⟨.int (if k then 1 else 0),H,I.tok _,⟨_,rfl⟩,q⟩
end
end L2
namespace L2
open PySem PySem.Spec PyProof.Rows
structure ObjM(h:Heap)(x dx C:Addr)(mA:Str→Option Value):Prop where
 obj:h.get? x=some (PySem.W.instObj C dx)
 ns:h.Ns1 dx mA
 ne:dx≠x
theorem lookIn_ns{h:Heap}{dx:Addr}{mA:Str→Option Value}(n:h.Ns1 dx mA):∃od,h.get? dx=some od∧∀name,PySem.W.lookIn name od=some (mA name):=by
 obtain ⟨o,es,ep,ho,hd,hk,_,hm⟩:=n;refine ⟨o,ho,fun name=>?_⟩;have e:=hm name;unfold nsFind findBy at e;rw[←Array.find?_toList]at e;unfold PySem.W.lookIn;rw[hd];dsimp only;split
 ·rename_i y q;rw[q]at e;exact congrArg some e
 ·rename_i q;rw[q]at e;have a:es.toList.any (·.refKey)=false:=by
   rw[List.any_eq_false];intro y hy;obtain ⟨z,t,hkey⟩:=hk y (Array.mem_toList_iff.mp hy);simp[DictEntry.refKey,hkey]
  have a':¬es.toList.any (·.refKey)=true:=by rw[a];exact Bool.false_ne_true
  rw[if_neg a'];exact congrArg some e
theorem ObjM.look{h:Heap}{x dx C:Addr}{mA:Str→Option Value}(I:ObjM h x dx C mA):∃od,PySem.W.InstAt h x (PySem.W.instObj C dx) C (some od)∧∀name,PySem.W.lookIn name od=some (mA name):=
 let ⟨od,ho,hl⟩:=lookIn_ns I.ns
 ⟨od,⟨I.obj,rfl,rfl,ho⟩,hl⟩
section
variable{prog:Program}{w:World}{A:Around}{E:Value→Shared→Prop}{s:Shared}{K:PySem.W.Frag}{x dx C f:Addr}{mA:Str→Option Value}{name:Str}{v:Value}
theorem z1d{expr:Bool}{Q:Value→Shared→Prop}(X:K.In s.heap)(I:ObjM s.heap x dx C mA)(hg:PySem.W.plainGet K C name=true)(hh:PySem.W.hasDictIn K C=true)
 (ha:PySem.W.findIn K (.ref C) name=some none) (hv:mA name=some v) (hv':PySem.W.handedIn v=true) (h:Q v {s with toks:=s.toks+1}):
 wpAny (model prog w) A (getAttr (.ref x) name expr) Q E s:=by
 obtain ⟨od,J,hl⟩:=I.look;exact PySem.W.get_value X J (PySem.W.plainGet_of hg).1 (PySem.W.findObj_own hh ha rfl (by rw[hl,hv])) hv' h
theorem z1c{ns:List Str}{Q:Unit→Shared→Prop}(X:K.In s.heap)(I:ObjM s.heap x dx C mA)
 (hs:PySem.W.findIn K (.ref C) "__setattr__"=some (some (.builtin "object.__setattr__"))) (hp:PySem.W.plainOver K C=true) (ht:PySem.W.takerIn K C name=some none) (hh:PySem.W.hasDictIn K C=true)
 (hw:PySem.Within mA ns) (hsz:ns.length≤sizeLine)
 (h:∀h',ObjM h' x dx C (fun y=>if y=name then some v else mA y)→Heap.SameBut dx s.heap h'→Q () {s with heap:=h',toks:=s.toks+2}):
 wpAny (model prog w) A (setAttr (.ref x) name v) Q E s:=by
 obtain ⟨od,J,hl⟩:=I.look;refine PySem.W.set_plain X J hs (PySem.W.osa_open (s:={s with toks:=s.toks+1}) (r:=none) X J hp ht fun b=>?_);obtain ⟨cd,hc,hd'⟩:=PySem.W.any_some hh;have hx:s.heap.get? x=some ⟨.ref C,some dx,.plain,#[]⟩:=I.obj;refine wpAny_bind (wpAny_pure (wpAny_bind (wpAny_bind (wpAny_loadPart hx (wpAny_bind (PySem.W.Looks.here (s:={s with toks:=s.toks+1}) (PySem.W.looks_clsIn X hc) ?_))))));rw[hd'];refine wpAny_pure (a:=some dx) (wpAny_bind (wpAny_pure (wpAny_bind ?_)));refine wpAny_nsSet1 (s:={s with toks:=s.toks+1}) I.ns fun h' hn2 hs2=>?_
 obtain ⟨oD,esD,epD,hoD,hdD,hcD⟩:=hn2.count (PySem.Within.cons name v hw);refine wpAny_bind (wpAny_lookBehind hoD (by rw[hdD];exact pastItsLine_dict (Nat.le_trans hcD (by rw[List.length_cons];omega))) ?_);exact wpAny_pure (h _ ⟨(hs2.2 _ (Ne.symm I.ne)).trans I.obj,hn2,I.ne⟩ hs2)
theorem c0p{R:Result→Shared→Prop}{vs:List Value}{kw:List (Str×Value)}(X:K.In s.heap)(hm:PySem.W.makesIn K C=true)
 (hi:PySem.W.findIn K (.ref C) "__init__"=some (some (.ref f))) (hf:PySem.W.typeIn K (.ref f)=some (.type "function"))
 (h:codeAny (model prog w) (A.under (.builtin "type.__call__" ⟨.ref C::vs,kw⟩)) (.call (.ref f) ⟨.ref (s.heap.objs.size+1)::vs,kw⟩) (PySem.W.InitBack (s.heap.objs.size+1) R)
  {s with heap:=(s.heap.push PySem.W.emptyDict).push (PySem.W.instObj C s.heap.objs.size)}):
 codeAny (model prog w) A (.call (.ref C) ⟨vs,kw⟩) R s:=by
 obtain ⟨hh,g,d,t,os⟩:=s;exact PySem.W.make_core (PySem.W.makes_of X hm) (PySem.W.looks_findIn X hi) (fun self=>PySem.W.bind_fn X self hf) (.inl rfl) h
end
noncomputable def putF(f:Str)(v:V):List (Str×V)→List (Str×V)
 | []=>[(f,v)]
 |(g,x)::r=>if g=f then (g,v)::r else (g,x)::putF f v r
theorem n9(f g:Str)(v:V):∀fs:List (Str×V),(putF f v fs).lookup g=if g=f then some v else fs.lookup g
 | []=>by
  show List.lookup g [(f,v)]=_;by_cases h:g=f
  ·have hb:(g==f)=true:=beq_iff_eq.mpr h;simp only[List.lookup,hb,if_pos h]
  ·have hb:(g==f)=false:=beq_eq_false_iff_ne.mpr h;simp only[List.lookup,hb,if_neg h]
 |(k,x)::r=>by
  have ih:=n9 f g v r;rw[show putF f v ((k,x)::r)=(if k=f then (k,v)::r else (k,x)::putF f v r)from rfl];by_cases hk:k=f
  ·rw[if_pos hk];by_cases h:g=k
   ·have hb:(g==k)=true:=beq_iff_eq.mpr h;simp only[List.lookup,hb,if_pos (h.trans hk)]
   ·have hb:(g==k)=false:=beq_eq_false_iff_ne.mpr h;simp only[List.lookup,hb,if_neg (fun e:g=f=>h (e.trans hk.symm))]
  ·rw[if_neg hk];by_cases h:g=k
   ·have hb:(g==k)=true:=beq_iff_eq.mpr h;simp only[List.lookup,hb,if_neg (fun e:g=f=>hk (h.symm.trans e))]
   ·have hb:(g==k)=false:=beq_eq_false_iff_ne.mpr h;simp only[List.lookup,hb];exact ih
theorem z0k(f:Str)(v:V):∀fs:List (Str×V),f∈(putF f v fs).map (·.1)∧∀g,g∈fs.map (·.1)→g∈(putF f v fs).map (·.1)
 | []=>⟨by simp[putF],fun g h=>by simp at h⟩
 |(k,x)::r=>by
  obtain ⟨i1,i2⟩:=z0k f v r;rw[show putF f v ((k,x)::r)=(if k=f then (k,v)::r else (k,x)::putF f v r)from rfl];by_cases hk:k=f
  ·rw[if_pos hk];subst hk;exact ⟨by simp,fun g h=>by simpa using h⟩
  ·rw[if_neg hk];refine ⟨?_,fun g h=>?_⟩
   ·rw[List.map_cons];exact List.mem_cons_of_mem _ i1
   ·rw[List.map_cons]at h ⊢;rcases List.mem_cons.mp h with e |e
    ·exact List.mem_cons.mpr (.inl e)
    ·exact List.mem_cons_of_mem _ (i2 g e)
theorem s0w(f:Str)(v:V):∀fs:List (Str×V),(putF f v fs).length≤fs.length+1
 | []=>by simp[putF]
 |(k,x)::r=>by
  have ih:=s0w f v r;rw[show putF f v ((k,x)::r)=(if k=f then (k,v)::r else (k,x)::putF f v r)from rfl];by_cases hk:k=f
  ·rw[if_pos hk,List.length_cons,List.length_cons];omega
  ·rw[if_neg hk,List.length_cons,List.length_cons];omega
theorem RelO.some_of{v:V}{o:Option Value}(r:RelO (some v) o):∃u,o=some u∧RelV v u:=by
 cases o with
 |none=>exact (show False from r).elim
 |some u=>exact ⟨u,rfl,r⟩
theorem g0j{v:V}{u:Value}(r:RelV v u):PySem.W.handedIn u=true:=by
 cases v with
 |non=>cases (show u=Value.none from r);rfl
 |bl b=>cases (show u=Value.bool b from r);rfl
 |int i=>obtain ⟨t,e⟩:=(show ∃t,u=Value.int i t from r);cases e;rfl
 |str x=>obtain ⟨t,e⟩:=(show ∃t,u=Value.str x t from r);cases e;rfl
 |byt b=>obtain ⟨t,e⟩:=(show ∃t,u=Value.bytes b t from r);cases e;rfl
 |flt b=>obtain ⟨t,e⟩:=(show ∃t,u=Value.float b t from r);cases e;rfl
 |ref a=>cases (show u=Value.ref a from r);rfl
 |ty n=>cases (show u=Value.type n from r);rfl
section
variable{P:Program}{w:World}{H H':Hp}{h h':Heap}{a C dx:Addr}{fs fs':List (Str×V)}
theorem l0m(hok:HOk P w H h)(e:H a=some (.ins C dx fs)):∃mA,ObjM h a dx C mA∧(∀f,RelO (fs.lookup f) (mA f))∧PySem.Within mA (fs.map (·.1))∧fs.length≤1000∧H dx=some (.own a):=by
 obtain ⟨d,z,ne,ob,mA,n,r,q⟩:=(show ObjOk P w H h a (.ins C dx fs)from hok a _ e);exact ⟨mA,⟨ob,n,ne⟩,r,q,z,d⟩
end
structure Cls(K:PySem.W.Frag)(C:Addr):Prop where
 pg:PySem.W.plainGet K C Str.empty=true
 hd:PySem.W.hasDictIn K C=true
 po:PySem.W.plainOver K C=true
 sa:PySem.W.findIn K (.ref C) "__setattr__"=some (some (.builtin "object.__setattr__"))
theorem Cls.get{K:PySem.W.Frag}{C:Addr}(c:Cls K C)(f:Str):PySem.W.plainGet K C f=true:=c.pg
noncomputable def NoAttr(K:PySem.W.Frag)(C:Addr)(f:Str):Prop:=PySem.W.findIn K (.ref C) f=some none
theorem NoAttr.taker{K:PySem.W.Frag}{C:Addr}{f:Str}(n:NoAttr K C f):PySem.W.takerIn K C f=some none:=by
 unfold PySem.W.takerIn;rw[show PySem.W.findIn K (.ref C) f=some none from n];rfl
structure Con(K:PySem.W.Frag)(C:Addr)(f:Str)(v:V)(u:Value):Prop where
 at_:PySem.W.findIn K (.ref C) f=some (some u)
 rel:RelV v u
 get:PySem.W.specialIn K u "__get__"=some none
 cp:PySem.W.copiedNames.contains f=false
structure Meth(K:PySem.W.Frag)(C:Addr)(m:Str)(f:Addr):Prop where
 at_:PySem.W.findIn K (.ref C) m=some (some (.ref f))
 fn:PySem.W.isFn K (.ref f)=true
 kp:PySem.W.keepIn K (.ref f)=true
section
variable{X:Cx}{pins:List (Addr×Obj)}{σ:St}{H:Hp}{s:Shared}{a C dx:Addr}{fs:List (Str×V)}{f:Str}{v:V}{A:Around}{E:Value→Shared→Prop}
theorem h0x{b:Bool}{Q:Value→Shared→Prop}(I:Inv X pins σ H s)(e:H a=some (.ins C dx fs))(c:Cls X.K C)(n:NoAttr X.K C f)(l:fs.lookup f=some v)
 (h:∀u s',Inv X pins σ H s'→RelV v u→Q u s'):wpAny (model X.prog X.w) A (getAttr (.ref a) f b) Q E s:=by
 obtain ⟨mA,O,r,_,_,_⟩:=l0m I.hok e;obtain ⟨u,hu,ru⟩:=RelO.some_of (v:=v) (o:=mA f) (by rw[←l];exact r f);exact z1d I.kIn O (c.get f) c.hd n hu (g0j ru) (h u _ (I.tok _) ru)
theorem h0w{y:V}{u:Value}{Q:Unit→Shared→Prop}(I:Inv X pins σ H s)(e:H a=some (.ins C dx fs))(c:Cls X.K C)(n:NoAttr X.K C f)(hl:fs.length<1000)(ry:RelV y u)
 (h:∀s',Inv X pins σ (upd H a (.ins C dx (putF f y fs))) s'→Q () s'):wpAny (model X.prog X.w) A (setAttr (.ref a) f u) Q E s:=by
 obtain ⟨mA,O,r,wi,_,ho⟩:=l0m I.hok e;have hz:(fs.map (·.1)).length≤sizeLine:=by rw[List.length_map,sizeLine_eq];omega
 refine z1c I.kIn O c.sa c.po n.taker c.hd wi hz fun h' O' sb=>h _ ?_
 have hd:∃o,h'.get? dx=some o:=let ⟨o,_,_,e',_⟩:=O'.ns;⟨o,e'⟩
 refine I.write (x:=a) (e:=dx) (by rw[e];exact True.intro) (.inr ho) (fun b q hb z=>(sb.2 b hb).trans z) hd ?_;refine ⟨by rw[o0 O.ne];exact ho,?_,O.ne,O'.obj,_,O'.ns,fun g=>?_,fun g hg=>?_⟩
 ·have:=s0w f y fs;omega
 ·show RelO ((putF f y fs).lookup g) (if g=f then some u else mA g);rw[n9];by_cases q:g=f
  ·rw[if_pos q,if_pos q];exact ry
  ·rw[if_neg q,if_neg q];exact r g
 ·by_cases q:g=f
  ·rw[q];exact (z0k f y fs).1
  ·refine (z0k f y fs).2 g (wi g fun z=>hg ?_);show (if g=f then some u else mA g)=none;rw[if_neg q];exact z
theorem Inv.made(I:Inv X pins σ H s):Inv X pins σ (upd (upd H s.heap.objs.size (.own (s.heap.objs.size+1))) (s.heap.objs.size+1) (.ins C s.heap.objs.size []))
 {s with heap:=(s.heap.push PySem.W.emptyDict).push (PySem.W.instObj C s.heap.objs.size)}:=by
 have e1:(s.heap.push PySem.W.emptyDict).get? s.heap.objs.size=some PySem.W.emptyDict:=Heap.get?_push_size s.heap rfl;have e2:((s.heap.push PySem.W.emptyDict).push (PySem.W.instObj C s.heap.objs.size)).get? (s.heap.objs.size+1)=some (PySem.W.instObj C s.heap.objs.size):=by
  have:=Heap.get?_push_size (s.heap.push PySem.W.emptyDict) (o:=PySem.W.instObj C s.heap.objs.size) rfl
  rwa[Heap.size_push]at this
 have e3:(s.heap.push PySem.W.emptyDict).Ns s.heap.objs.size (fun _=>none):=⟨PySem.W.emptyDict,#[],_,e1,rfl,(fun e he=>absurd he (by simp)),fun _=>rfl⟩;have I1:=I.laid (a:=s.heap.objs.size) (o:=.own (s.heap.objs.size+1)) (h':=s.heap.push PySem.W.emptyDict) (t':=s.toks) (fun b u q=>Heap.get?_push_of_some _ q) (Nat.le_refl _) ⟨_,e1⟩;refine I1.laid (a:=s.heap.objs.size+1) (o:=.ins C s.heap.objs.size []) (t':=s.toks) (fun b u q=>Heap.get?_push_of_some _ q) (Nat.le_of_eq (Heap.size_push _ _)) ?_;have ne:s.heap.objs.size≠s.heap.objs.size+1:=Nat.ne_of_lt (Nat.lt_succ_self _);refine ⟨by rw[o0 ne,x3],Nat.zero_le _,ne,e2,fun _=>none,(Heap.Ns1.of_empty e3).at fun o q=>Heap.get?_push_of_some _ q,fun _=>True.intro,fun y hy=>absurd rfl hy⟩
theorem z1b{prog:Program}{w:World}{env:Env}{e:Expr}{f:Str}{pos:Pos}{s:Shared}{Q:Value→Shared→Prop}(hb:attributeBase e f env (eval e env)=eval e env)
 (h:wpAny (model prog w) A (eval e env) (fun o s₁=>wpAny (model prog w) A (getAttr o f true) Q E s₁) E s):wpAny (model prog w) A (eval (.Attribute e f pos) env) Q E s:=
 Attribute_any_ h (by rw[arm_eval_Attribute,hb])
end
noncomputable def tFld(K:PySem.W.Frag)(ta:TE)(f:Str):TE:=fun σ H Q=>ta σ H fun x H1=>∃a C dx fs v,x=.ref a∧H1 a=some (.ins C dx fs)∧Cls K C∧NoAttr K C f∧fs.lookup f=some v∧Q v H1
noncomputable def sFld(K:PySem.W.Frag)(ta tv:TE)(f:Str):TS:=fun D σ H=>tv σ H fun y H1=>ta σ H1 fun x H2=>∃a C dx fs,x=.ref a∧H2 a=some (.ins C dx fs)∧Cls K C∧NoAttr K C f∧fs.length<1000∧
 D.nx σ (upd H2 a (.ins C dx (putF f y fs)))
section
variable{X:Cx}{o e value:Expr}{f:Str}{pos pos' tpos:Pos}{ta tv:TE}
theorem pe_fld(he:PE X e ta)(hb:attributeBase e f X.env (eval e X.env)=eval e X.env):PE X (.Attribute e f pos) (tFld X.K ta f):=by
 intro pins s σ H Q I h;refine z1b hb (thn (he pins s σ H _ I h) fun u s1 ⟨x,H1,I1,rx,a,C,dx,fs,v,ex,ea,c,n,l,q⟩=>?_);subst ex;obtain rfl:u=Value.ref a:=rx;exact h0x I1 ea c n l fun u' s2 I2 ru=>⟨v,H1,I2,ru,q⟩
theorem ps_fld(ha:PE X o ta)(hv:PE X value tv)(hs:swapsWith value (some (.Attribute o f pos')) pos.line X.env=pure false):PS X (.Assign [.Attribute o f pos'] value pos) (sFld X.K ta tv f):=by
 intro pins s σ H D I h;refine plainObj_wpAny_Assign_Attribute (thn (hv pins s σ H _ I h) fun u s1 ⟨y,H1,I1,ry,q⟩=>thn (ha pins s1 σ H1 _ I1 q) fun ov s2 ⟨x,H2,I2,rx,a,C,dx,fs,ex,ea,c,n,l,q2⟩=>?_) hs;subst ex;obtain rfl:ov=Value.ref a:=rx;exact h0w I2 ea c n l ry fun s3 I3=>⟨σ,_,I3,q2⟩
end
section
variable{X:Cx}{pins:List (Addr×Obj)}{σ:St}{H:Hp}{s:Shared}{A:Around}{E:Value→Shared→Prop}{Q:Value→Shared→Prop}{c:Value}{b:Bool}
inductive TyOf(K:PySem.W.Frag)(H:Hp):V→Value→Prop where
 |non:TyOf K H .non (.type "NoneType")
 |bl (x:Bool):TyOf K H (.bl x) (.type "bool")
 |int (i:Int):TyOf K H (.int i) (.type "int")
 |str (x:Str):TyOf K H (.str x) (.type "str")
 |flt (x:UInt64):TyOf K H (.flt x) (.type "float")
 |lst {a:Addr} {xs:List V} (e:H a=some (.lst xs)):TyOf K H (.ref a) (.type "list")
 |frz {a:Addr} {o:Obj} {xs:List V} (e:H a=some (.frz o (.lst xs))):TyOf K H (.ref a) (.type "list")
 |tup {a:Addr} {xs:List V} (e:H a=some (.tup xs)):TyOf K H (.ref a) (.type "tuple")
 |dK {a:Addr} {kvs:List (Key×V)} (e:H a=some (.dK kvs)):TyOf K H (.ref a) (.type "dict")
 |dT {a:Addr} {kvs:List (List Key×V)} (e:H a=some (.dT kvs)):TyOf K H (.ref a) (.type "dict")
 |ins {a C dx:Addr} {fs:List (Str×V)} (e:H a=some (.ins C dx fs)) (cl:Cls K C) (ha:PySem.W.findIn K (.ref C) "__class__"=some (some (.builtin "object.__class__")))
  (hn:PySem.W.specialIn K (.builtin "object.__class__") "__get__"=some (some (.builtin "getset_descriptor.__get__"))) (htk:PySem.W.takesIn K (.builtin "object.__class__")=some true)
  (hm:PySem.W.mroIn K C (.type "object")=some true):TyOf K H (.ref a) (.ref C)
end
end L2
namespace L2
open PySem PySem.Spec PyProof.Rows
structure Room(k:Nat)(A:Around):Prop where
 hd:A.handled=none
 dp:A.depth+3*k+5<recursionLimit
 un:A.units+16*k+200<cLine
theorem Room.mono{j k:Nat}{A:Around}(r:Room k A)(h:j≤k):Room j A:=⟨r.hd,by have:=r.dp;omega,by have:=r.un;omega⟩
theorem Room.deeper{k:Nat}{A:Around}(r:Room (k+1) A)(env:Env):Room k (A.deeper env):=
 ⟨r.hd,by have:=r.dp;show A.depth+1+3*k+5<_;omega,by have:=r.un;show A.units+3+16*k+200<_;omega⟩
theorem h0v{A:Around}{C:Addr}{us:List Value}{kw:List (Str×Value)}:(A.under (.builtin "type.__call__" ⟨.ref C::us,kw⟩)).depth=A.depth+1:=by
 first |rfl |simp[Around.under,Code.weight,Code.isCreation,Code.isGuard,Code.isCaller,Code.frames,Code.isFrame,guardIds]
theorem h0u{A:Around}{C:Addr}{us:List Value}{kw:List (Str×Value)}:(A.under (.builtin "type.__call__" ⟨.ref C::us,kw⟩)).units=A.units+1:=by
 first |rfl |simp[Around.under,Code.cUnits,Code.frames,Code.isFrame]
theorem Room.make{k:Nat}{A:Around}(r:Room (k+1) A)(C:Addr)(us:List Value)(kw:List (Str×Value)):Room k (A.under (.builtin "type.__call__" ⟨.ref C::us,kw⟩)):=
 ⟨r.hd,by have:=r.dp;rw[h0v];omega,by have:=r.un;rw[h0u];omega⟩
theorem Room.depth{k:Nat}{A:Around}(r:Room k A):A.depth<recursionLimit:=by have:=r.dp;omega
noncomputable def tNil:TA:=fun _ H Q=>Q [] H
noncomputable def tCons(ta:TE)(tr:TA):TA:=fun σ H Q=>ta σ H fun x H1=>tr σ H1 fun xs H2=>Q (x::xs) H2
section
variable{X:Cx}{e:Expr}{es:List Expr}{te:TE}{t:TA}{pos:Pos}
theorem g0i:PA X [] tNil:=fun _ _ _ _ H Q I h=>Calls.spliced_nil ⟨[],H,I,.nil,h⟩
theorem l0l(ha:PE X e te)(hr:PA X es t)(hs:starEach (e::es) X.env=(false,eval e X.env)::starEach es X.env:=by rfl):PA X (e::es) (tCons te t):=by
 intro pos pins s σ H Q I h;rw[hs];show wpAny _ _ (spliced ((false,eval e X.env)::backTo pos (starEach es X.env))) _ _ s;refine Calls.spliced_cons (thn (ha pins s σ H _ I h) fun u s1 ⟨x,H1,I1,r1,q1⟩=>?_);exact thn (hr pos pins s1 σ H1 _ I1 q1) fun us s2 ⟨xs,H2,I2,r2,q2⟩=>⟨x::xs,H2,I2,.cons r1 r2,q2⟩
noncomputable def tTup(t:TA):TE:=fun σ H Q=>t σ H fun xs H1=>xs.length≤sizeLine∧∀p,H1 p=none→Q (.ref p) (upd H1 p (.tup xs))
noncomputable def tLst(t:TA):TE:=fun σ H Q=>t σ H fun xs H1=>xs.length≤sizeLine∧∀p,H1 p=none→Q (.ref p) (upd H1 p (.lst xs))
theorem pe_tup{x1}(h:PA X es t):PE X (.Tuple es x1 pos) (tTup t):=by
 intro pins s σ H Q I hq;refine wpAny_Tuple_spliced (thn (h pos pins s σ H _ I hq) fun us s1 ⟨xs,H1,I1,r,z,q⟩=>⟨by rw[←r.length];exact z,?_⟩);have hf:H1 s1.heap.objs.size=none:=I1.hok.fresh (Nat.le_refl _);refine ⟨.ref s1.heap.objs.size,upd H1 s1.heap.objs.size (.tup xs),I1.laid (t':=s1.toks) (fun b u e=>Heap.get?_push_of_some _ e) (Nat.le_refl _) ?_,rfl,q _ hf⟩;exact ⟨z,us,r,⟨_,Heap.get?_push_size _ rfl,rfl,⟨_,rfl⟩,rfl⟩⟩
theorem g0h(h:PA X es t):PE X (.List es pos) (tLst t):=by
 intro pins s σ H Q I hq;refine wpAny_List_spliced (thn (h pos pins s σ H _ I hq) fun us s1 ⟨xs,H1,I1,r,z,q⟩=>⟨by rw[←r.length];exact z,?_⟩);have hf:H1 s1.heap.objs.size=none:=I1.hok.fresh (Nat.le_refl _);refine ⟨.ref s1.heap.objs.size,upd H1 s1.heap.objs.size (.lst xs),I1.laid (t':=s1.toks) (fun b u e=>Heap.get?_push_of_some _ e) (Nat.le_refl _) ?_,rfl,q _ hf⟩;exact ⟨z,us,0,r,Heap.get?_push_size _ rfl⟩
end
noncomputable abbrev Sp:=List V→Hp→VK→XK→Prop
noncomputable abbrev CXT:=List Env→Hp→Shared→XK→Value→Shared→Prop
structure Env0(P:Program)(w:World)(K:PySem.W.Frag)(mg:Str→Option Value)(base:Heap)(A:Around)(outer:List Env)(s:Shared)(H:Hp):Prop where
 frames:A.frames=some outer
 mod:Mod K mg base
 bs:∀b o,base.get? b=some o→s.heap.get? b=some o∧H b=none
 bsz:base.objs.size≤s.heap.objs.size
 funs:s.heap.FunFrames base outer
 frf:∀b∈frs outer,H b=none
 hok:HOk P w H s.heap
 bare:AllBare s.gens
noncomputable def CE(outer:List Env)(P:Program)(w:World)(H:Hp)(s:Shared)(Q:VK)(u:Value)(s':Shared):Prop:=
 ∃v H',s'.os=s.os∧AllBare s'.gens∧Un (frs outer) [] H H' s.heap s'.heap∧HOk P w H' s'.heap∧RelV v u∧Q v H'
noncomputable def CR(CX:CXT)(outer:List Env)(P:Program)(w:World)(H:Hp)(s:Shared)(Q:VK)(E:XK)(r:Result)(s':Shared):Prop:=
 match r with
 | .ok (.ret u)=>CE outer P w H s Q u s'
 | .ok _=>False
 | .error e=>CX outer H s E e s'
structure FnOk(P:Program)(w:World)(K:PySem.W.Frag)(mg:Str→Option Value)(base:Heap)(CX:CXT)(k:Nat)(f:Addr)(fd:FuncData)(ps:List Str)(sp:Sp):Prop where
 len:∀vs H Q E,sp vs H Q E→vs.length=ps.length
 run:∀(A:Around) (outer:List Env) (s:Shared) (H:Hp) (args:Args) (us:List Value) (vs:List V) (Q:VK) (E:XK),Room k A→Env0 P w K mg base A outer s H→BindsTo s fd args (ps.zip us)→Vals vs us→sp vs H Q E→
  codeAny (model P w) A (.call (.ref f) args) (CR CX outer P w H s Q E) s
theorem Env0.make{P:Program}{w:World}{K:PySem.W.Frag}{mg:Str→Option Value}{base:Heap}{A:Around}{outer:List Env}{s:Shared}{H:Hp}(e:Env0 P w K mg base A outer s H)(C:Addr)(us:List Value)(kw:List (Str×Value)):
 Env0 P w K mg base (A.under (.builtin "type.__call__" ⟨.ref C::us,kw⟩)) outer s H:=⟨by first |exact e.frames |(simpa[Around.under,Code.envs,Code.isFrame,pushEnvs]using e.frames),e.mod,e.bs,e.bsz,e.funs,e.frf,e.hok,e.bare⟩
section
variable{X:Cx}{pins:List (Addr×Obj)}{σ:St}{H:Hp}{s s':Shared}
theorem Inv.env0(I:Inv X pins σ H s):Env0 X.prog X.w X.K X.mg X.base X.A X.stack s H:=
 ⟨I.ok.frames,I.ok.mod,I.bs,Nat.le_trans I.ok.bsz I.sz,I.stack,I.stkFree,I.hok,I.bare⟩
theorem Inv.after{Q:VK}{u:Value}(I:Inv X pins σ H s)(h:CE X.stack X.prog X.w H s Q u s'):EP X pins σ Q u s':=by
 obtain ⟨v,H',os,bare,un,hok,r,q⟩:=h;obtain ⟨hh,g,d,t,os'⟩:=s';obtain rfl:os'=s.os:=os;exact ⟨v,H',I.call (h':=hh) (g':=g) (d':=d) (t':=t) (ch:=[]) un hok bare (fun b z=>absurd z (by simp)),r,q⟩
end
noncomputable def Binds(K:PySem.W.Frag)(fd:FuncData)(ps:List Str)(ds:List Value):Prop:=
 ∀(s:Shared) (us:List Value),K.In s.heap→(us++ds).length=ps.length→BindsTo s fd ⟨us,[]⟩ (ps.zip (us++ds))
theorem Binds.all{K:PySem.W.Frag}{fd:FuncData}{ps:List Str}(h:∀us:List Value,us.length=ps.length→bindArgs fd ⟨us,[]⟩=pure (ps.zip us)):Binds K fd ps []:=fun s us _ hl=>by
 rw[List.append_nil]at hl ⊢;exact .of_eq (h us hl)
noncomputable def a0k(CX:CXT)(X:Cx)(E:XK):Prop:=∀(pins:List (Addr×Obj)) (σ:St) (H:Hp) (s:Shared) (e:Value) (s':Shared),Inv X pins σ H s→CX X.stack H s E e s'→X.xe e s'
section
variable{X:Cx}{CX:CXT}{k:Nat}{f C:Addr}{fd:FuncData}{ps:List Str}{sp:Sp}{dvs:List V}{ds:List Value}{E:XK}{x m:Str}{p pos apos:Pos}{e o:Expr}{es:List Expr}{ta:TE}{t:TA}
structure Mk(K:PySem.W.Frag)(C f:Addr):Prop where
 makes:PySem.W.makesIn K C=true
 init:PySem.W.findIn K (.ref C) "__init__"=some (some (.ref f))
 fn:PySem.W.isFn K (.ref f)=true
 kp:PySem.W.keepIn K (.ref C)=true
end
section
variable{X:Cx}{CX:CXT}{k:Nat}{f C:Addr}{fd:FuncData}{ps ks:List Str}{sp:Sp}{E:XK}{x m:Str}{p pos apos kpos:Pos}{e o:Expr}{es:List Expr}{kws:List Keyword}{te ta:TE}{t tk:TA}{nm:Option Str}
structure KBinds(K:PySem.W.Frag)(fd:FuncData)(ps ks:List Str)(g:List Value→List Value→List Value)(gV:List V→List V→List V):Prop where
 to:∀(s:Shared) (us ws:List Value),K.In s.heap→(g us ws).length=ps.length→BindsTo s fd ⟨us,ks.zip ws⟩ (ps.zip (g us ws))
 rel:∀{vs:List V} {us:List Value} {zs:List V} {ws:List Value},Vals vs us→Vals zs ws→Vals (gV vs zs) (g us ws)
variable{g:List Value→List Value→List Value}{gV:List V→List V→List V}
end
structure FnScope(N P:List Str)(sc:Scope):Prop where
 kind:sc.kind=.function
 co:sc.isCoroutine=false
 gen:sc.isGenerator=false
 nd:N.Nodup
 pre:N.take P.length=P
 par:∀x∈P,sc.names.lookup x=some .local∨sc.names.lookup x=some .cell
 nofree:∀y∈sc.names,y.2≠.free
theorem o0d{kindOf:Str→Option NameKind}{x:Str}:∀{binds:List (Str×Value)} {m:Str→Option Value},(∀v,(x,v)∉binds)→bindL kindOf binds m x=m x
 | [],_,_=>rfl
 |(n,v)::r,m,h=>by
  unfold bindL;rw[o0d fun w hw=>h w (List.mem_cons_of_mem _ hw)];split
  ·have:x≠n:=by rintro rfl;exact h v List.mem_cons_self
   simp[this]
  ·rfl
theorem o0c{kindOf:Str→Option NameKind}{x:Str}:∀{binds:List (Str×Value)} {m:Str→Option Value},(∀v,(x,v)∉binds)→bindC kindOf binds m x=m x
 | [],_,_=>rfl
 |(n,v)::r,m,h=>by
  unfold bindC;rw[o0c fun w hw=>h w (List.mem_cons_of_mem _ hw)];split
  ·rfl
  ·have:x≠n:=by rintro rfl;exact h v List.mem_cons_self
   simp[this]
theorem o0b{kindOf:Str→Option NameKind}{x:Str}{v:Value}:∀{P:List Str} {vs:List Value} {i:Nat} {m:Str→Option Value},P.Nodup→P[i]?=some x→vs[i]?=some v→kindOf x=some .local→
 bindL kindOf (P.zip vs) m x=some v
 | [],_,_,_,_,h,_,_=>by simp at h
 |_::_,[],_,_,_,_,h,_=>by simp at h
 |p::P,w::vs,0,m,nd,h1,h2,hk=>by
  simp at h1 h2;subst h1;subst h2;show bindL kindOf ((p,w)::P.zip vs) m p=_;unfold bindL;rw[o0d fun v hv=>(List.nodup_cons.mp nd).1 (List.of_mem_zip hv).1,if_pos hk];simp
 |p::P,w::vs,i+1,m,nd,h1,h2,hk=>by
  show bindL kindOf ((p,w)::P.zip vs) m x=_;unfold bindL;exact o0b (i:=i) (List.nodup_cons.mp nd).2 (by simpa using h1) (by simpa using h2) hk
theorem o0a{kindOf:Str→Option NameKind}{x:Str}{v:Value}:∀{P:List Str} {vs:List Value} {i:Nat} {m:Str→Option Value},P.Nodup→P[i]?=some x→vs[i]?=some v→kindOf x≠some .local→
 bindC kindOf (P.zip vs) m x=some v
 | [],_,_,_,_,h,_,_=>by simp at h
 |_::_,[],_,_,_,_,h,_=>by simp at h
 |p::P,w::vs,0,m,nd,h1,h2,hk=>by
  simp at h1 h2;subst h1;subst h2;show bindC kindOf ((p,w)::P.zip vs) m p=_;unfold bindC;rw[o0c fun v hv=>(List.nodup_cons.mp nd).1 (List.of_mem_zip hv).1,if_neg hk];simp
 |p::P,w::vs,i+1,m,nd,h1,h2,hk=>by
  show bindC kindOf ((p,w)::P.zip vs) m x=_;unfold bindC;exact o0a (i:=i) (List.nodup_cons.mp nd).2 (by simpa using h1) (by simpa using h2) hk
noncomputable def start(N:List Str)(vs:List V):St:=vs.map some++List.replicate (N.length-vs.length) none
noncomputable def cxOf(CX:CXT)(P:Program)(w:World)(K:PySem.W.Frag)(mg:Str→Option Value)(base:Heap)(N:List Str)(qual:Str)(scope:Scope)(f:Addr)(cd:Value)(A:Around)(outer:List Env)(s:Shared)(H:Hp)(E:XK):Cx where
 prog:=P
 w:=w
 K:=K
 mg:=mg
 base:=base
 A:=A.deeper (envOfC qual scope s.heap.objs.size f cd)
 N:=N
 s₀:=s
 H₀:=H
 env:=envOfC qual scope s.heap.objs.size f cd
 outer:=outer
 stack:=envOfC qual scope s.heap.objs.size f cd::outer
 ex:=[]
 calm:=true
 fn:=fun _=>true
 pn:=[]
 xe:=fun e s'=>wpAny (model P w) (A.deeper (envOfC qual scope s.heap.objs.size f cd)) (leaving (envOfC qual scope s.heap.objs.size f cd) e) (fun _ s''=>CX outer H s E e s'') (fun e' s''=>CX outer H s E e' s'') s'
theorem j0e{sc:Scope}{n:Nat}{x:Str}(h:sc.names.lookup x=some .cell):∃c,(cellsFrom n sc.names []).lookup x=some c:=by
 have q:=PySem.W.cellsFrom_some sc.names n [] (.inl h);exact Option.isSome_iff_exists.mp q
theorem g0g{CX:CXT}{P:Program}{w:World}{K:PySem.W.Frag}{mg:Str→Option Value}{base:Heap}{N ps:List Str}{qual:Str}{scope:Scope}{f:Addr}{cd:Value}{A:Around}{outer:List Env}{s s1:Shared}{H:Hp}{E:XK}{us:List Value}{vs:List V}
 (S:FnScope N ps scope) (hd:A.handled=none) (e0:Env0 P w K mg base A outer s H) (hl:vs.length=ps.length) (r:Vals vs us)
 (x:InCallC s s.heap.objs.size (bindL (envOfC qual scope s.heap.objs.size f cd).kindOf (ps.zip us) fun _=>none) (cellsFrom (s.heap.objs.size+1) scope.names []) (bindC (envOfC qual scope s.heap.objs.size f cd).kindOf (ps.zip us) fun _=>none) s1):
 Inv (cxOf CX P w K mg base N qual scope f cd A outer s H E) [] (start N vs) H s1:=by
 have hpl:ps.length≤N.length:=by have:=congrArg List.length S.pre;rw[List.length_take]at this;omega
 obtain ⟨h1,tk,rfl,hk⟩:=x.done;have noA:∀b:Addr,b∉(cxOf CX P w K mg base N qual scope f cd A outer s H E).ex:=fun b z=>absurd (show b∈([]:List Addr)from z) (by simp)
 refine ⟨⟨e0.mod,S.kind,rfl,rfl,Nat.le_refl _,fun y z c h1 h2=>?_,fun y hy=>?_,fun y c _ h=>?_,fun _=>hd,Around.frames_deeper e0.frames,.inr ⟨rfl,rfl⟩,fun b z=>absurd z (noA b),e0.bs,e0.bsz,fun b _ _=>noA b,fun b z=>absurd z (noA b),e0.funs,e0.frf⟩,
  rfl,e0.bare,Un.kept hk,⟨_,x.toInCall.ns,fun i y v h1 h2 h3=>?_⟩,fun y c h=>⟨_,x.cell y c h⟩,e0.hok.fresh (Nat.le_refl _),fun y c h=>?_,fun p hp=>absurd (show p∈([]:List (Addr×Obj))from hp) (by simp),e0.hok.kept hk,?_⟩
 ·exact name_of_addr x.apart (PySem.mem_of_lookup h1) (PySem.mem_of_lookup h2)
 ·have hy:scope.names.lookup y=some .cell∨scope.names.lookup y=some .free:=hy;rcases hy with hy |hy
  ·exact j0e hy
  ·exact absurd rfl (S.nofree _ (PySem.mem_of_lookup hy))
 ·exact Nat.le_of_lt (x.above y c (PySem.mem_of_lookup h))
 ·have hi:i<vs.length:=by
   unfold start at h2;by_cases hi:i<vs.length
   ·exact hi
   ·rw[List.getElem?_append_right (by simpa using hi)]at h2;rw[List.getElem?_replicate]at h2;split at h2<;>cases h2
  have ha:vs[i]?=some v:=by
   unfold start at h2;rw[List.getElem?_append_left (by simpa using hi),List.getElem?_map]at h2;cases e:vs[i]? with
   |none=>rw[e]at h2;cases h2
   |some a=>rw[e]at h2;cases h2;rfl
  obtain ⟨u,hu,rv⟩:=r.get ha;have hp:ps[i]?=some y:=by
   rw[←S.pre,List.getElem?_take_of_lt (by omega)];exact h1
  have ndP:ps.Nodup:=by rw[←S.pre];exact S.nd.sublist (List.take_sublist _ _)
  refine ⟨u,rv,?_⟩;rcases S.par y (List.mem_of_getElem? hp)with k |k
  ·exact .inl ⟨k,o0b ndP hp hu k⟩
  ·obtain ⟨c,e⟩:=j0e (n:=s.heap.objs.size+1) k;refine .inr ⟨.inl k,c,e,?_⟩;have q:=x.cell y c e;rw[o0a ndP hp hu (by show scope.names.lookup y≠_;rw[k];decide)]at q;exact q
 ·exact e0.hok.fresh (Nat.le_of_lt (x.above y c (PySem.mem_of_lookup h)))
 ·unfold start;show _=N.length;rw[List.length_append,List.length_map,List.length_replicate];omega
theorem fn_of{CX:CXT}{P:Program}{w:World}{K:PySem.W.Frag}{mg:Str→Option Value}{base:Heap}{k:Nat}{f:Addr}{name qual:Str}{params:Arguments}{body:List Stmt}{scope:Scope}{dV kV doc pm cdv ct oc:Value}{an od:Option Addr}
 {osl:Array (Option Value)} {N ps:List Str} {sp:Sp} (lk:K.lookup f=some ⟨oc,od,.func (PySem.W.fnOf name qual params body scope dV kV doc pm an cdv ct),osl⟩) (hcd:PySem.W.codeIn K cdv qual=true) (S:FnScope N ps scope)
 (len:∀vs H Q E,sp vs H Q E→vs.length=ps.length)
 (hbody:∀(A:Around) (outer:List Env) (s:Shared) (H:Hp) (vs:List V) (Q:VK) (E:XK),Room k (A.deeper (envOfC qual scope s.heap.objs.size f cdv))→sp vs H Q E→
  ∃t,PSs (cxOf CX P w K mg base N qual scope f cdv A outer s H E) body t∧t {nx:=fun _ H'=>Q .non H',rt:=Q} (start N vs) H):
 FnOk P w K mg base CX (k+1) f (PySem.W.fnOf name qual params body scope dV kV doc pm an cdv ct) ps sp:=by
 refine ⟨len,fun A outer s H args us vs Q E hr e0 hb r hsp=>?_⟩;have hl:=len _ _ _ _ hsp;have KX:K.In s.heap:=e0.mod.kin.keeps fun b o e=>(e0.bs b o e).1
 have lim:s.heap.NoLimit:=e0.mod.nolimit.keeps fun b o e=>(e0.bs b o e).1
 have hkind:∀y∈ps.zip us,scope.names.lookup y.1=some .local∨(scope.names.lookup y.1=some .cell∧((cellsFrom (s.heap.objs.size+1) scope.names []).lookup y.1).isSome=true):=fun ⟨n,v⟩ hy=>by
  rcases S.par n (List.of_mem_zip hy).1 with q |q
  ·exact .inl q
  ·exact .inr ⟨q,PySem.W.cellsFrom_some _ _ _ (.inl q)⟩
 refine codeAny_call_function hr.depth (KX _ _ lk) rfl S.co S.gen rfl (PySem.W.codeRec_of KX hcd) (hb _ _ _ _ ?_);refine wpAny_newFunctionEnv_cells S.kind hkind fun env he s1 x=>?_
 subst he;refine ⟨lim.keeps x.toInCall.keep,codeAny_func ?_⟩;obtain ⟨t,ht,hq⟩:=hbody A outer s H vs Q E (hr.deeper _) hsp;have I:Inv (cxOf CX P w K mg base N qual scope f cdv A outer s H E) [] (start N vs) H s1:=g0g S hr.hd e0 hl r x;refine wpAny_mono (ht [] s1 (start N vs) H _ I hq) (fun fl s' hs=>?_) fun e s' hs=>hs
 have fin:∀{σ':St} {H':Hp} {v:V} {u:Value},Inv (cxOf CX P w K mg base N qual scope f cdv A outer s H E) [] σ' H' s'→RelV v u→Q v H'→CE outer P w H s Q u s':=
  fun {σ' H' v u} J rv q=>⟨v,H',J.os,J.bare,J.base,J.hok,rv,q⟩
 cases fl with
 |ret u=>
  obtain ⟨v,σ',H',J,rv,q⟩:=hs;exact fin J rv q
 |next=>
  obtain ⟨σ',H',J,q⟩:=hs;exact fin (v:=V.non) (u:=Value.none) J rfl q
 |brk=>
  obtain ⟨_,_,_,q⟩:=hs;exact False.elim q
 |cont=>
  obtain ⟨_,_,_,q⟩:=hs;exact False.elim q
end L2
namespace L2
open PySem PySem.Spec PyProof.Rows
section
variable{X:Cx}{x:Str}{p pos:Pos}{e:Expr}{es:List Expr}{t:TA}{id T:String}{r:List V→Hp→VK→Prop}
noncomputable def tCB(r:List V→Hp→VK→Prop)(t:TA):TE:=fun σ H Q=>t σ H fun vs H1=>r vs H1 Q
theorem p0l(hc:y0c X (.builtin id) r)(hg:Gl X x)(hm:X.mg x=none)(hv:bootBuiltins x=some (.builtin id))(ha:PA X (e::es) t)(hn:x≠"__name__":=by decide)(hdb:(x==("__debug__":Str))=false:=by decide)
 (he:starEach (e::es) X.env=(false,eval e X.env)::starEach es X.env:=by rfl) (hpl:(backTo pos (starEach es X.env)).any (·.1)=false:=by rfl):PE X (.Call (.Name x p) (e::es) [] pos) (tCB r t):=by
 intro pins s σ H Q I h;refine wpAny_Call_Name_kw (s0y I hg hm hv ?_ hn hdb);exact PyProof.Rows.callWith_builtin1 (thn (ha pos pins s σ H _ I h) fun us s1 ⟨vs,H1,I1,r1,q1⟩=>hc pins s1 σ H1 vs us Q I1 r1 q1) he hpl
theorem n0z(hc:y0c X (.type T) r)(hg:Gl X x)(hm:X.mg x=none)(hv:bootBuiltins x=some (.type T))(ha:PA X (e::es) t)(hn:x≠"__name__":=by decide)(hdb:(x==("__debug__":Str))=false:=by decide)
 (he:starEach (e::es) X.env=(false,eval e X.env)::starEach es X.env:=by rfl) (hpl:(backTo pos (starEach es X.env)).any (·.1)=false:=by rfl):PE X (.Call (.Name x p) (e::es) [] pos) (tCB r t):=by
 intro pins s σ H Q I h;refine wpAny_Call_Name_kw (s0y I hg hm hv ?_ hn hdb);exact PyProof.Rows.callWith_type1 (thn (ha pos pins s σ H _ I h) fun us s1 ⟨vs,H1,I1,r1,q1⟩=>hc pins s1 σ H1 vs us Q I1 r1 q1) he hpl
end
end L2
namespace HT
open PySem PyProof.Rows
section
open PySem.SeqAt
open PySem.AutoSeq1 (wpAny_loadPart')
open PySem.MeetsSeq PySem.MeetsSeq2 PySem.MeetsSeq3
end
section
variable{prog:Program}{w:World}{A:Around}{E:Value→Shared→Prop}{s:Shared}
theorem cat_tup{t b:Addr}{vs ws:List Value}{Q:Value→Shared→Prop}(ht:IsTup s.heap t vs.toArray)(hb:IsTup s.heap b ws.toArray)(hv:vs≠[])
 (h1:ws=[]→Q (.ref t) s) (h2:ws≠[]→Q (.ref s.heap.objs.size) {s with heap:=s.heap.push {cls:=.type "tuple",data:=.seq (vs++ws).toArray}})
 (hsz:vs.length+ws.length≤sizeLine):wpAny (model prog w) A (binaryOp .Add (.ref t) (.ref b)) Q E s:=by
 obtain ⟨⟨cls,dd,data,sl⟩,ho,hc,n,hd⟩:=id ht;obtain ⟨⟨cls2,dd2,data2,sl2⟩,ho2,hc2,n2,hd2⟩:=id hb;simp only at hc hd hc2 hd2;subst hc hd hc2 hd2;have e:vs.toArray++ws.toArray=(vs++ws).toArray:=by simp
 by_cases hw:ws=[]
 ·exact concat_meets ⟨_,ho,rfl⟩ ⟨_,ho2,rfl⟩ noFill_tuple_add seq_tuple_add PySem.F.slot_tuple_add PySem.F.entry_tuple_add (PySem.F.args_tuple_add_2 _ _)
   (tuple_addW1 t b vs.toArray ws.toArray n n2 dd dd2 sl sl2 (by simpa using hv) (by simp[hw])) ⟨ho,ho2,h1 hw⟩
 ·refine concat_meets ⟨_,ho,rfl⟩ ⟨_,ho2,rfl⟩ noFill_tuple_add seq_tuple_add PySem.F.slot_tuple_add PySem.F.entry_tuple_add (PySem.F.args_tuple_add_2 _ _)
   (tuple_addW2 t b vs.toArray ws.toArray n n2 dd dd2 sl sl2 (by simpa using hv) (by simpa using hw) (by rw[List.size_toArray,List.size_toArray];exact hsz)) ⟨ho,ho2,?_⟩
  rw[e];exact h2 hw
noncomputable def sIx(n d:Nat):Option Int→Nat
 |none=>d
 |some v=>if v<0 then (v+(n:Int)).toNat else min v.toNat n
end
end HT
namespace L2
open PySem PySem.Spec PyProof.Rows
noncomputable abbrev TO:=St→Hp→(Option Int→Hp→Prop)→Prop
noncomputable def PO(X:Cx)(e:Option Expr)(t:TO):Prop:=
 ∀(pins:List (Addr×Obj)) (s:Shared) (σ:St) (H:Hp) (Q:Option Int→Hp→Prop),Inv X pins σ H s→t σ H Q→
  wpAny (model X.prog X.w) X.A (evalPart e X.env) (fun u s'=>∃o H',Inv X pins σ H' s'∧IsPart u o∧Q o H') X.xe s
theorem h0t{ns:List Int}:∀{us:List Value},Vals (ns.map V.int) us→IntsAre us ns:=by
 induction ns with
 |nil=>intro us r;rw[List.map_nil]at r;cases r;exact .nil
 |cons n ns ih=>
  intro us r;rw[List.map_cons]at r;cases r with
  |cons r1 r2=>
   obtain ⟨t,e⟩:=r1;subst e;exact .cons n t (ih r2)
section
variable{X:Cx}{e:Expr}{te:TE}{lo hi:Option Expr}{tl th:TO}{pos p2:Pos}
noncomputable def rCatT(K:PySem.W.Frag):R2:=fun x y H Q=>∃a b xs ys,x=.ref a∧y=.ref b∧SqT K H a xs∧SqT K H b ys∧xs≠[]∧xs.length+ys.length≤sizeLine∧
 (ys=[]→Q (.ref a) H)∧(ys≠[]→∀p,H p=none→Q (.ref p) (upd H p (.tup (xs++ys))))
theorem Vals.nil_iff{xs:List V}{us:List Value}(r:Vals xs us):us=[]↔xs=[]:=by
 cases r with
 |nil=>simp
 |cons _ _=>simp
theorem z1a:OpR X (binaryOp .Add) (rCatT X.K):=by
 intro pins s σ H x y v u Q I rx ry h;obtain ⟨a,b,xs,ys,rfl,rfl,ha,hb,hx,hz,q1,q2⟩:=h;cases rx;cases ry;obtain ⟨its,r1,p1,_⟩:=I.tuple ha;obtain ⟨its2,r2,p2,_⟩:=I.tuple hb;refine HT.cat_tup p1 p2 (fun z=>hx (r1.nil_iff.mp z)) (fun z=>⟨.ref a,H,I,rfl,q1 (r2.nil_iff.mp z)⟩) (fun z=>?_) (by rw[←r1.length,← r2.length];exact hz);refine ⟨.ref s.heap.objs.size,_,I.laid (t':=s.toks) (o:=.tup (xs++ys)) (fun b ob q=>Heap.get?_push_of_some _ q) (Nat.le_refl _) ?_,rfl,q2 (fun w=>z (r2.nil_iff.mpr w)) _ (I.hok.fresh (Nat.le_refl _))⟩;exact ⟨by rw[List.length_append];exact hz,_,r1.append r2,TupD.new _ _⟩
end
end L2
namespace L2
open PySem PySem.Spec PyProof.Rows
noncomputable def ixN(n:Nat)(i:Int):Option Nat:=if 0≤i then (if i<n then some i.toNat else none)else if -(n:Int)≤i then some (i+n).toNat else none
noncomputable def atI{α:Type}(xs:List α)(i:Int):Option α:=(ixN xs.length i).bind fun j=>xs[j]?
theorem g0f{n:Nat}{i:Int}{j:Nat}(h:ixN n i=some j):seqIndex? i n=some j∧j<n∧-(n:Int)≤i∧i<n:=by
 unfold ixN at h;by_cases h0:0≤i
 ·rw[if_pos h0]at h;by_cases h1:i<n
  ·rw[if_pos h1]at h;have e:i.toNat=j:=Option.some.inj h;exact ⟨by rw[seqIndex_of h0 h1,e],by omega,by omega,h1⟩
  ·rw[if_neg h1]at h;cases h
 ·rw[if_neg h0]at h;by_cases h1:-(n:Int)≤i
  ·rw[if_pos h1]at h;have e:(i+n).toNat=j:=Option.some.inj h;exact ⟨by rw[seqIndex_neg (by omega) h1,e],by omega,h1,by omega⟩
  ·rw[if_neg h1]at h;cases h
theorem l0k{α:Type}{xs:List α}{i:Int}{v:α}(h:atI xs i=some v):∃j,seqIndex? i xs.length=some j∧xs[j]?=some v∧j<xs.length∧-(xs.length:Int)≤i∧i<xs.length:=by
 unfold atI at h;cases e:ixN xs.length i with
 |none=>rw[e]at h;cases h
 |some j=>
  rw[e]at h;obtain ⟨h1,h2,h3,h4⟩:=g0f e;exact ⟨j,h1,h,h2,h3,h4⟩
theorem z0j{α:Type}{xs:List α}{j:Nat}{v:α}(h:xs[j]?=some v):atI xs (j:Int)=some v:=by
 have hj:j<xs.length:=(List.getElem?_eq_some_iff.mp h).1;have e:ixN xs.length (j:Int)=some j:=by
  unfold ixN;rw[if_pos (by omega),if_pos (by omega)];simp
 unfold atI;rw[e];exact h
noncomputable def l0j(b:Expr):Prop:=∀o i,subscripted b false o i=operate [o,i] (getItem o i)
noncomputable def IxR(X:Cx)(r:R2):Prop:=
 ∀(value slice:Expr) (pins:List (Addr×Obj)) (s:Shared) (σ:St) (H:Hp) (x y:V) (v u:Value) (Q:VK),Inv X pins σ H s→RelV x v→RelV y u→r x y H Q→
  subscripted slice false v u=operate [v,u] (getItem v u)→wpAny (model X.prog X.w) X.A (subscriptTail value slice v u) (EP X pins σ Q) X.xe s
noncomputable def MtR(X:Cx)(id:String)(r:V→List V→Hp→VK→Prop):Prop:=
 ∀(pins:List (Addr×Obj)) (s:Shared) (σ:St) (H:Hp) (x:V) (xs:List V) (v:Value) (us:List Value) (Q:VK),Inv X pins σ H s→RelV x v→Vals xs us→r x xs H Q→
  wpAny (model X.prog X.w) X.A (call (.builtin id) (v::us)) (EP X pins σ Q) X.xe s
section
variable{X:Cx}{a b:Expr}{ta tb:TE}{pos:Pos}
theorem IxR.or{r r':R2}(h:IxR X r)(h':IxR X r'):IxR X (fun x y H Q=>r x y H Q∨r' x y H Q):=by
 intro value slice pins s σ H x y v u Q I rx ry q hs;rcases q with q |q
 ·exact h value slice pins s σ H x y v u Q I rx ry q hs
 ·exact h' value slice pins s σ H x y v u Q I rx ry q hs
theorem pe_ix{r:R2}(hr:IxR X r)(ha:PE X a ta)(hb:PE X b tb)(hs:l0j b):PE X (.Subscript a b pos) (tOp r ta tb):=by
 intro pins s σ H Q I h;exact Subscript_ (binT ha hb I h fun v u s2 x y H2 I2 rx ry q=>hr a b pins s2 σ H2 x y v u Q I2 rx ry q (hs _ _))
noncomputable def rIxL(K:PySem.W.Frag):R2:=fun x y H Q=>∃p xs i v,x=.ref p∧y=.int i∧SqL K H p xs∧atI xs i=some v∧Q v H
noncomputable def rIxT(K:PySem.W.Frag):R2:=fun x y H Q=>∃p xs i v,x=.ref p∧y=.int i∧SqT K H p xs∧atI xs i=some v∧Q v H
noncomputable def rIxS:R2:=fun x y H Q=>∃z i c,x=.str z∧y=.int i∧z.length≤sizeLine∧atI z.cps.toList i=some c∧Q (.str ⟨#[c]⟩) H
theorem ix_list:IxR X (rIxL X.K):=by
 intro value slice pins s σ H x y v u Q I rx ry h hs;obtain ⟨p,xs,i,z,rfl,rfl,hq,he,q⟩:=h;cases rx;obtain ⟨t,rfl⟩:=ry;obtain ⟨its,r,pl,hz⟩:=I.list hq;obtain ⟨j,h1,h2,h3,h4,h5⟩:=l0k he;obtain ⟨w,ew,rw'⟩:=r.get h2;have hl:=r.length;have hn:=o0f;have fin:EP X pins σ Q w s:=⟨z,H,I,rw',q⟩;by_cases h0:0≤i
 ·have hj:i.toNat=j:=by
   rw[seqIndex_of h0 h5]at h1;exact Option.some.inj h1
  exact item_listR pl.isList h0 (by omega) (by rw[hj];simpa using ew) fin hs
 ·have hj:(i+(its.toArray.size:Int)).toNat=j:=by
   rw[seqIndex_neg (by omega) h4]at h1;rw[List.size_toArray,← hl];exact Option.some.inj h1
  exact subscriptTail_builtinR (x:=w) pl.isList.typeIs slot_list_getitem.lookup
   (wpAny_getItem_list_neg (Q:=fun r s'=>r=w∧EP X pins σ Q r s') pl.isList (by omega) (by rw[List.size_toArray]<;>omega) (by omega) (by rw[hj];simpa using ew) ⟨rfl,fin⟩) hs
theorem ix_tup:IxR X (rIxT X.K):=by
 intro value slice pins s σ H x y v u Q I rx ry h hs;obtain ⟨p,xs,i,z,rfl,rfl,hq,he,q⟩:=h;cases rx;obtain ⟨t,rfl⟩:=ry;obtain ⟨its,r,pl,hz⟩:=I.tuple hq;obtain ⟨j,h1,h2,h3,h4,h5⟩:=l0k he;obtain ⟨w,ew,rw'⟩:=r.get h2;have hl:=r.length;have hn:=o0f;have fin:EP X pins σ Q w s:=⟨z,H,I,rw',q⟩;exact subscriptTail_builtinR (x:=w) pl.typeIs slot_tuple_getitem.lookup
  (getItem_tuple (j:=j) (Q:=fun r s'=>r=w∧EP X pins σ Q r s') pl (by omega) (by omega) (by rw[List.size_toArray,← hl];exact h1) (by simpa using ew) ⟨rfl,fin⟩) hs
theorem ix_str:IxR X rIxS:=by
 intro value slice pins s σ H x y v u Q I rx ry h hs;obtain ⟨z,i,c,rfl,rfl,hz,he,q⟩:=h;obtain ⟨t,rfl⟩:=rx;obtain ⟨t',rfl⟩:=ry;obtain ⟨j,h1,h2,h3,h4,h5⟩:=l0k he;have hl:z.cps.toList.length=z.length:=by simp[Str.length]
 rw[hl]at h1 h4 h5;have hn:=o0f;exact tail_any (typeIs_str s z t) slot_str_getitem.lookup (getItem_str (c:=c) (by
  have e1:decide (i< -(2^63:Int))=false:=decide_eq_false (by omega);have e2:decide (i≥2^63)=false:=decide_eq_false (by omega);rw[e1,e2,Bool.or_false]) (by rw[h1];simpa using h2) ⟨.str ⟨#[c]⟩,H,I.tok _,⟨_,rfl⟩,q⟩) hs
noncomputable def rIx(K:PySem.W.Frag):R2:=fun x y H Q=>rIxL K x y H Q∨rIxT K x y H Q∨rIxS x y H Q
theorem q0a:IxR X (rIx X.K):=ix_list.or (ix_tup.or ix_str)
theorem h0s(its:List Value)(n j:Nat)(u:Value):Obj.mapSeq (·.setIfInBounds j u) {cls:=.type "list",data:=.seq its.toArray n}={cls:=.type "list",data:=.seq (its.set j u).toArray n}:=by
 simp[Obj.mapSeq]
theorem Inv.lst{pins:List (Addr×Obj)}{σ:St}{H:Hp}{s:Shared}{p:Addr}{xs:List V}(I:Inv X pins σ H s)(h:H p=some (.lst xs)):
 ∃(its:List Value) (n:Nat),Vals xs its∧s.heap.get? p=some {cls:=.type "list",data:=.seq its.toArray n}∧xs.length≤sizeLine:=by
 obtain ⟨z,its,n,r,e⟩:=I.hok p _ h;exact ⟨its,n,r,e,z⟩
theorem Inv.lstUpd{pins:List (Addr×Obj)}{σ:St}{H:Hp}{s:Shared}{p:Addr}{xs ys:List V}{its its':List Value}{n n':Nat}{f:Obj→Obj}(I:Inv X pins σ H s)(h:H p=some (.lst xs))
 (ho:s.heap.get? p=some {cls:=.type "list",data:=.seq its.toArray n}) (hf:f {cls:=.type "list",data:=.seq its.toArray n}={cls:=.type "list",data:=.seq its'.toArray n'}) (r:Vals ys its') (hz:ys.length≤sizeLine) (t:Nat):
 Inv X pins σ (upd H p (.lst ys)) {s with heap:=s.heap.update p f,toks:=t}:=by
 have e:(s.heap.update p f).get? p=some {cls:=.type "list",data:=.seq its'.toArray n'}:=by
  rw[Heap.get?_update_self f ho (by rw[hf]<;>rfl),hf]
 refine I.write (x:=p) (e:=p) (by rw[h];trivial) (.inl rfl) (fun b u hb q=>(Heap.get?_update_other _ _ (Ne.symm hb)).trans q) ⟨_,e⟩ ?_;exact ⟨hz,its',n',r,e⟩
noncomputable def rSetL:V→V→V→Hp→(Hp→Prop)→Prop:=fun o i v H Q=>∃p xs k j,o=.ref p∧i=.int k∧H p=some (.lst xs)∧ixN xs.length k=some j∧Q (upd H p (.lst (xs.set j v)))
theorem c0o:PSet X rSetL:=by
 intro pins s σ H o i v ov iv u Q I ro ri rv h;obtain ⟨p,xs,k,j,rfl,rfl,hp,hj,q⟩:=h;cases ro;obtain ⟨t,rfl⟩:=ri;obtain ⟨its,n,r,ho,hz⟩:=I.lst hp;obtain ⟨h1,h2,h3,h4⟩:=g0f hj;have hl:=r.length;have hn:=o0f;have I':Inv X pins σ (upd H p (.lst (xs.set j v))) {s with heap:=s.heap.update p (Obj.mapSeq (·.setIfInBounds j u))}:=
  I.lstUpd hp ho (h0s its n j u) (r.set rv j) (by rw[List.length_set];exact hz) s.toks
 by_cases h0:0≤k
 ·have hk:k.toNat=j:=by
   rw[seqIndex_of h0 h4]at h1;exact Option.some.inj h1
  exact PySem.W.ki_setAt ho h0 (by omega) (by rw[List.size_toArray,← hl];exact h4) (by rw[hk];exact ⟨_,I',q⟩)
 ·have hk:(k+(its.toArray.size:Int)).toNat=j:=by
   rw[seqIndex_neg (by omega) h3]at h1;rw[List.size_toArray,← hl];exact Option.some.inj h1
  exact PySem.W.ki_setBack ho (by omega) (by rw[List.size_toArray,← hl];exact h3) (by omega) (by rw[hk];exact ⟨_,I',q⟩)
noncomputable def q0m:V→Bool
 | .non=>true
 | .bl _=>true
 | .int _=>true
 | .str _=>true
 |_=>false
noncomputable def eqV:V→V→Bool
 | .non,.non=>true
 | .bl a,.bl b=>a==b
 | .bl a,.int b=>(if a then 1 else 0)==b
 | .int a,.bl b=>a==(if b then 1 else 0)
 | .int a,.int b=>a==b
 | .str a,.str b=>a==b
 |_,_=>false
theorem eqAt_V{A:Around}{s:Shared}{y x:V}{u v:Value}(ry:RelV y u)(rx:RelV x v)(fy:q0m y=true)(fx:q0m x=true):SeqAt.EqAt A s u v (eqV y x):=by
 cases y with
 |non=>
  cases ry;cases x with
  |non=>cases rx;exact SeqAt.EqAt.same _
  |bl b=>cases rx;exact SeqAt.EqAt.none_bool b
  |int b=>obtain ⟨t,rfl⟩:=rx;exact SeqAt.EqAt.none_int b t
  |str b=>obtain ⟨t,rfl⟩:=rx;exact SeqAt.EqAt.none_str b t
  |_=>exact absurd (show false=true from fx) Bool.false_ne_true
 |bl a=>
  cases ry;cases x with
  |non=>cases rx;exact SeqAt.EqAt.bool_none a
  |bl b=>cases rx;exact SeqAt.EqAt.bool_bool a b
  |int b=>obtain ⟨t,rfl⟩:=rx;exact SeqAt.EqAt.bool_int a b t
  |str b=>obtain ⟨t,rfl⟩:=rx;exact SeqAt.EqAt.bool_str a b t
  |_=>exact absurd (show false=true from fx) Bool.false_ne_true
 |int a=>
  obtain ⟨t',rfl⟩:=ry;cases x with
  |non=>cases rx;exact SeqAt.EqAt.int_none a t'
  |bl b=>cases rx;exact SeqAt.EqAt.int_bool a t' b
  |int b=>obtain ⟨t,rfl⟩:=rx;exact SeqAt.EqAt.int_int a t' b t
  |str b=>obtain ⟨t,rfl⟩:=rx;exact SeqAt.EqAt.int_str a t' b t
  |_=>exact absurd (show false=true from fx) Bool.false_ne_true
 |str a=>
  obtain ⟨t',rfl⟩:=ry;cases x with
  |non=>cases rx;exact SeqAt.EqAt.str_none a t'
  |bl b=>cases rx;exact SeqAt.EqAt.str_bool a t' b
  |int b=>obtain ⟨t,rfl⟩:=rx;exact SeqAt.EqAt.str_int a t' b t
  |str b=>obtain ⟨t,rfl⟩:=rx;exact SeqAt.EqAt.str_str a t' b t
  |_=>exact absurd (show false=true from fx) Bool.false_ne_true
 |_=>exact absurd (show false=true from fy) Bool.false_ne_true
noncomputable def eqU(x:V)(u:Value):Bool:=match u with
 | .none=>eqV .non x
 | .bool b=>eqV (.bl b) x
 | .int i _=>eqV (.int i) x
 | .str z _=>eqV (.str z) x
 |_=>false
theorem a0j{x y:V}{u:Value}(r:RelV y u)(f:q0m y=true):eqU x u=eqV y x:=by
 cases y with
 |non=>cases r;rfl
 |bl b=>cases r;rfl
 |int i=>obtain ⟨t,rfl⟩:=r;rfl
 |str z=>obtain ⟨t,rfl⟩:=r;rfl
 |_=>exact absurd (show false=true from f) Bool.false_ne_true
theorem l0i{x:V}:∀{xs:List V} {us:List Value},Vals xs us→xs.all q0m=true→us.any (eqU x)=xs.any fun y=>eqV y x
 |_,_,.nil,_=>rfl
 |y::xs,u::us,.cons r t,f=>by
  rw[List.all_cons,Bool.and_eq_true]at f;rw[List.any_cons,List.any_cons,a0j r f.1,l0i t f.2]
theorem p0k{A:Around}{s:Shared}{x:V}{v:Value}(rx:RelV x v)(fx:q0m x=true):∀{xs:List V} {us:List Value},Vals xs us→xs.all q0m=true→∀u∈us,SeqAt.EqAt A s u v (eqU x u)
 |_,_,.nil,_=>fun u hu=>by cases hu
 |y::xs,u::us,.cons r t,f=>fun u' hu=>by
  rw[List.all_cons,Bool.and_eq_true]at f;rcases List.mem_cons.mp hu with rfl |hu
  ·rw[a0j r f.1];exact eqAt_V r rx f.1 fx
  ·exact p0k rx fx t f.2 u' hu
noncomputable def inV(x:V)(xs:List V):Bool:=xs.any fun y=>eqV y x
noncomputable def rIn(K:PySem.W.Frag)(neg:Bool):R2:=fun x y H Q=>∃p xs,y=.ref p∧(SqL K H p xs∨SqT K H p xs)∧q0m x=true∧xs.all q0m=true∧Q (.bl (if neg then !inV x xs else inV x xs)) H
theorem z0i:OpR X (compareOp .In) (rIn X.K false):=by
 intro pins s σ H x y v u Q I rx ry h;obtain ⟨p,xs,rfl,hq,fx,fs,q⟩:=h;cases ry;rcases hq with hq |hq
 ·obtain ⟨its,r,pl,hz⟩:=I.list hq;refine SeqAt.in_listAt (eqU x) pl.isList (fun w hw=>p0k rx fx r fs w (by simpa using hw)) ⟨.bl _,H,I,rfl,?_⟩;rw[show its.toArray.any (eqU x)=its.any (eqU x)by simp,l0i r fs];exact q
 ·obtain ⟨its,r,pl,hz⟩:=I.tuple hq;refine SeqAt.in_tupleAt (eqU x) pl (fun w hw=>p0k rx fx r fs w (by simpa using hw)) ⟨.bl _,H,I,rfl,?_⟩;rw[show its.toArray.any (eqU x)=its.any (eqU x)by simp,l0i r fs];exact q
theorem x5:y0c X (.builtin "len") (fun xs H Q=>∃p ys,xs=[.ref p]∧(SqL X.K H p ys∨SqT X.K H p ys)∧Q (.int ys.length) H):=by
 intro pins s σ H xs us Q I r h;obtain ⟨p,ys,rfl,hq,q⟩:=h;obtain ⟨u,rfl,rx⟩:=h0y r;cases rx;have hn:=o0f;rcases hq with hq |hq
 ·obtain ⟨its,r',pl,hz⟩:=I.list hq;have hlen:=r'.length;exact Calls.call_len_list pl.isList (by simp only[List.size_toArray]<;>omega) ⟨.int ys.length,H,I.tok _,⟨s.toks+1,by rw[List.size_toArray,hlen]⟩,q⟩
 ·obtain ⟨its,r',pl,hz⟩:=I.tuple hq;have hlen:=r'.length;exact len_tuple pl (by simp only[List.size_toArray]<;>omega) ⟨.int ys.length,H,I.tok _,⟨s.toks+1,by rw[List.size_toArray,hlen]⟩,q⟩
theorem u0p:y0c X (.type "list") (fun xs H Q=>∃p ys,xs=[.ref p]∧(SqL X.K H p ys∨SqT X.K H p ys)∧∀l,H l=none→Q (.ref l) (upd H l (.lst ys))):=by
 intro pins s σ H xs us Q I r h;obtain ⟨p,ys,rfl,hq,q⟩:=h;obtain ⟨u,rfl,rx⟩:=h0y r;cases rx;have fin:∀(its:List Value),Vals ys its→ys.length≤sizeLine→∀(h':Heap) (c':Nat),(∀b o',s.heap.get? b=some o'→h'.get? b=some o')→
  h'.get? s.heap.objs.size=some {cls:=.type "list",dict:=none,data:=.seq its.toArray c',slots:=#[]}→EP X pins σ Q (.ref s.heap.objs.size) {s with heap:=h'}:=fun its r' hz h' c' kp e=>
  ⟨.ref s.heap.objs.size,_,I.laid (t':=s.toks) kp (Nat.le_refl _) (show ObjOk X.prog X.w _ h' _ (.lst ys)from ⟨hz,its,c',r',e⟩),rfl,q _ (I.hok.fresh (Nat.le_refl _))⟩
 rcases hq with hq |hq
 ·obtain ⟨its,r',pl,hz⟩:=I.list hq;have hlen:=r'.length;obtain ⟨o,ho,hc,n,hd⟩:=pl.isList;exact call_list_seq p (.inl rfl) ho hc hd (fun h' c' kp e=>fin its r' hz h' c' kp e) (by simp only[List.size_toArray]<;>omega)
 ·obtain ⟨its,r',pl,hz⟩:=I.tuple hq;have hlen:=r'.length;obtain ⟨o,ho,hc,n,hd⟩:=pl;exact call_list_seq p (.inr rfl) ho hc hd (fun h' c' kp e=>fin its r' hz h' c' kp e) (by simp only[List.size_toArray]<;>omega)
theorem b3:y0c X (.type "tuple") (fun xs H Q=>∃p ys,xs=[.ref p]∧((SqL X.K H p ys∧∀l,H l=none→Q (.ref l) (upd H l (.tup ys)))∨(SqT X.K H p ys∧Q (.ref p) H))):=by
 intro pins s σ H xs us Q I r h;obtain ⟨p,ys,rfl,h⟩:=h;obtain ⟨u,rfl,rx⟩:=h0y r;cases rx;rcases h with ⟨hq,q⟩|⟨hq,q⟩
 ·obtain ⟨its,r',pl,hz⟩:=I.list hq;have hlen:=r'.length;refine call_tuple_list pl.isList (fun h' kp=>?_) (by simp only[List.size_toArray]<;>omega);have I1:Inv X pins σ H {s with heap:=h'}:=I.kept (t':=s.toks) kp;have I2:Inv X pins σ (upd H h'.objs.size (.tup ys)) {s with heap:=h'.push {cls:=.type "tuple",data:=.seq its.toArray}}:=
   I1.laid (t':=s.toks) (fun b o e=>Heap.get?_push_of_some _ e) (Nat.le_refl _) (show ObjOk X.prog X.w _ _ _ (.tup ys)from ⟨hz,its,r',TupD.new _ _⟩)
  exact ⟨.ref h'.objs.size,_,I2,rfl,q _ (I1.hok.fresh (Nat.le_refl _))⟩
 ·obtain ⟨its,r',pl,hz⟩:=I.tuple hq;exact call_tuple_same pl ⟨.ref p,H,I,rfl,q⟩
noncomputable def tyV(K:PySem.W.Frag)(T:String)(x:V)(H:Hp):Prop:=match x with
 | .str _=>T="str"
 | .int _=>T="int"
 | .ref p=>(T="list"∧∃xs,SqL K H p xs)∨(T="tuple"∧∃o,K.lookup p=some o∧o.cls=.type "tuple"∧o.dict=none)∨
  (T="dict"∧((∃kvs,H p=some (.dK kvs))∨∃kvs,H p=some (.dT kvs)))∨(T="set"∧∃S n,H p=some (.set S n))∨(T="tuple"∧∃xs,H p=some (.tup xs))
 |_=>False
theorem tyV_is{pins:List (Addr×Obj)}{σ:St}{H:Hp}{s:Shared}{T:String}{x:V}{v:Value}(I:Inv X pins σ H s)(r:RelV x v)(ty:tyV X.K T x H):
 s.TypeIs v T∧∀a,v=.ref a→∃ob,s.heap.get? a=some ob∧ob.dict=none:=by
 cases x with
 |str z=>
  obtain ⟨t,rfl⟩:=r;cases (show T="str" from ty);exact ⟨typeIs_str s z t,fun _ e=>nomatch e⟩
 |int i=>
  obtain ⟨t,rfl⟩:=r;cases (show T="int" from ty);exact ⟨typeIs_int s i t,fun _ e=>nomatch e⟩
 |ref p=>
  cases r;rcases ty with ⟨rfl,xs,hq⟩|⟨rfl,o,hk,hc,hd⟩|⟨rfl,hk⟩|⟨rfl,S,n,hk⟩|⟨rfl,xs,hk⟩
  ·obtain ⟨its,_,pl,_⟩:=I.list hq;refine ⟨pl.isList.typeIs,fun a e=>?_⟩;cases e;obtain ⟨o,n,e,c,hd,_⟩:=pl;exact ⟨o,e,hd⟩
  ·refine ⟨⟨o,I.kIn p o hk,hc⟩,fun a e=>?_⟩;cases e;exact ⟨o,I.kIn _ o hk,hd⟩
  ·have z:∃o,s.heap.get? p=some o∧o.ExactDict:=by
    rcases hk with ⟨kvs,hk⟩|⟨kvs,hk⟩
    ·obtain ⟨_,_,_,_,o,_,_,e,ex,_⟩:=I.hok p _ hk;exact ⟨o,e,ex⟩
    ·obtain ⟨_,_,_,_,o,_,_,e,ex,_⟩:=I.hok p _ hk;exact ⟨o,e,ex⟩
   obtain ⟨o,e,ex⟩:=z;refine ⟨⟨o,e,ex.1⟩,fun a e2=>?_⟩;cases e2;exact ⟨o,e,ex.2.1⟩
  ·obtain ⟨o,_,_,_,e,ex,_⟩:=I.hok p _ hk;refine ⟨⟨o,e,ex.1⟩,fun a e2=>?_⟩;cases e2;exact ⟨o,e,ex.2.1⟩
  ·obtain ⟨_,its,_,o,e,c,_,hd⟩:=I.hok p _ hk;refine ⟨⟨o,e,c⟩,fun a e2=>?_⟩;cases e2;exact ⟨o,e,hd⟩
 |_=>exact False.elim ty
noncomputable def tBM(K:PySem.W.Frag)(T:String)(r:V→List V→Hp→VK→Prop)(to:TE)(t:TA):TE:=fun σ H Q=>to σ H fun x H1=>tyV K T x H1∧t σ H1 fun xs H2=>r x xs H2 Q
variable{o e:Expr}{es:List Expr}{to:TE}{t:TA}{name:Str}{apos cpos:Pos}{T id:String}{r:V→List V→Hp→VK→Prop}
theorem pe_bm(pa:PlainAttrs T)(slot:Slot T name id)(hty:typeOf (.builtin id)=pure (.type "method_descriptor"))(hm:MtR X id r)(ho:PE X o to)(ha:PA X (e::es) t)
 (hbase:attributeBase o name X.env (eval o X.env)=eval o X.env:=by rfl)
 (hfew:((backTo cpos (starEach (e::es) X.env)).all (fun x=>!x.1)&&(backToKw cpos (keywordEach [] X.env)).all (fun x=>x.1.isSome)
  &&decide ((e::es).length+([]:List Keyword).length+(if ([]:List Keyword).isEmpty then 0 else 1)<30))=true:=by rfl)
 (hline:(apos.endLine==cpos.line)=true:=by rfl) (hs:starEach (e::es) X.env=(false,eval e X.env)::starEach es X.env:=by rfl) (hplain:(backTo cpos (starEach es X.env)).any (·.1)=false:=by rfl):
 PE X (.Call (.Attribute o name apos) (e::es) [] cpos) (tBM X.K T r to t):=by
 intro pins s σ H Q I h;refine wpAny_Call_method_late hbase hfew hline rfl (thn (ho pins s σ H _ I h) fun v s1 ⟨x,H1,I1,r1,ty,q1⟩=>?_);obtain ⟨h1,h2⟩:=tyV_is I1 r1 ty;refine ⟨T,id,pa,slot,hty,h1,h2,?_⟩;have hA:=ha cpos pins s1 σ H1 _ I1 q1;rw[hs]at hA ⊢;refine Calls.callWith_builtin (by show (false||(backTo cpos (starEach es X.env)).any (·.1))=false;rw[hplain]<;>rfl) (Calls.evalArgs_plain ?_);exact thn hA fun us s2 ⟨vs,H2,I2,r2,q2⟩=>hm pins s2 σ H2 x vs v us Q I2 r1 r2 q2
end
end L2
namespace L2
open PySem PySem.Spec PyProof.Rows
noncomputable def MtM(X:Cx)(id:String)(r:V→List V→Hp→VK→Prop):Prop:=
 ∀(pins:List (Addr×Obj)) (s:Shared) (σ:St) (H:Hp) (x:V) (xs:List V) (v:Value) (us:List Value) (Q:VK),Inv X pins σ H s→RelV x v→Vals xs us→r x xs H Q→
  wpAny (model X.prog X.w) X.A (call (.builtin id) (v::us)) (EP X pins σ Q) X.xe s
theorem Vals.one:∀{x:V} {us:List Value},Vals [x] us→∃u,us=[u]∧RelV x u
 |_,_,.cons r .nil=>⟨_,rfl,r⟩
theorem Vals.two:∀{x y:V} {us:List Value},Vals [x,y] us→∃u v,us=[u,v]∧RelV x u∧RelV y v
 |_,_,_,.cons r (.cons q .nil)=>⟨_,_,rfl,r,q⟩
section
variable{X:Cx}{pins:List (Addr×Obj)}{σ:St}{H:Hp}{s:Shared}{l b:Addr}{xs ys zs:List V}
theorem Inv.lset{its its':List Value}{n:Nat}{f:Array Value→Array Value}{t':Nat}(I:Inv X pins σ H s)(hH:H l=some (.lst xs))
 (e:s.heap.get? l=some {cls:=.type "list",data:=.seq its.toArray n}) (hf:f its.toArray=its'.toArray) (hv:Vals ys its') (hz:ys.length≤sizeLine):
 Inv X pins σ (upd H l (.lst ys)) {s with heap:=s.heap.update l (Obj.mapSeq f),toks:=t'}:=by
 have q:=PySem.IsL.update e f;rw[hf]at q;refine I.write (x:=l) (e:=l) (by rw[hH];exact trivial) (.inl rfl) (fun b' u hb hu=>(Heap.get?_update_other s.heap (Obj.mapSeq f) (Ne.symm hb)).trans hu) ⟨_,q⟩ ?_;exact ⟨hz,its',_,hv,q⟩
theorem Inv.lnew{its:List Value}{t':Nat}(I:Inv X pins σ H s)(hv:Vals ys its)(hz:ys.length≤sizeLine):
 Inv X pins σ (upd H s.heap.objs.size (.lst ys)) {s with heap:=s.heap.push {cls:=.type "list",data:=.seq its.toArray},toks:=t'}:=
 I.laid (fun _ _ q=>Heap.get?_push_of_some _ q) (Nat.le_refl _) ⟨hz,its,0,hv,Heap.get?_push_size _ rfl⟩
theorem Inv.fresh(I:Inv X pins σ H s):H s.heap.objs.size=none:=I.hok.fresh (Nat.le_refl _)
theorem Inv.lstM(I:Inv X pins σ H s)(hH:H l=some (.lst xs)):xs.length≤sizeLine∧∃(its:List Value) (n:Nat),Vals xs its∧xs.length=its.length∧s.heap.get? l=some {cls:=.type "list",data:=.seq its.toArray n}:=by
 obtain ⟨z,its,n,r,e⟩:=I.hok l _ hH;exact ⟨z,its,n,r,r.length,e⟩
end
section
variable{X:Cx}
noncomputable def g0e:V→List V→Hp→VK→Prop:=fun x vs H Q=>∃l xs y,x=.ref l∧vs=[y]∧H l=some (.lst xs)∧xs.length<sizeLine∧Q .non (upd H l (.lst (xs++[y])))
theorem z0h:MtM X "list.append" g0e:=by
 intro pins s σ H x vs v us Q I rx rv h;obtain ⟨l,xs,y,rfl,rfl,hH,hz,q⟩:=h;cases rx;obtain ⟨u,rfl,ru⟩:=rv.one;obtain ⟨z,its,n,r,hl,e⟩:=I.lstM hH;refine call_meets F.slot_list_append ⟨_,e,rfl⟩ F.entry_list_append (F.args_list_append_2 _ _) (PySem.list_append l its.toArray n u (by rw[List.size_toArray];omega)) ⟨e,?_⟩;refine ⟨.non,_,I.lset (its':=its++[u]) hH e (by simp) (r.append (.cons ru .nil)) ?_,rfl,q⟩;rw[List.length_append,List.length_singleton];omega
noncomputable def rCat:R2:=fun x y H Q=>∃l b xs zs,x=.ref l∧y=.ref b∧H l=some (.lst xs)∧H b=some (.lst zs)∧xs.length+zs.length≤sizeLine∧∀p,H p=none→Q (.ref p) (upd H p (.lst (xs++zs)))
theorem op_cat:OpR X (binaryOp .Add) rCat:=by
 intro pins s σ H x y v u Q I rx ry h;obtain ⟨l,b,xs,zs,rfl,rfl,hH,hB,hz,q⟩:=h;cases rx;cases ry;obtain ⟨z,its,n,r,hl,e⟩:=I.lstM hH;obtain ⟨z2,its2,n2,r2,hl2,e2⟩:=I.lstM hB;refine PySem.P.add_list e e2 ?_ (by rw[List.size_toArray,List.size_toArray];omega);have ea:its.toArray++its2.toArray=(its++its2).toArray:=by simp
 rw[ea];exact ⟨.ref _,_,I.lnew (t':=s.toks) (r.append r2) (by rw[List.length_append];omega),rfl,q _ I.fresh⟩
end
section
variable{prog:Program}{w:World}{A:Around}{E:Value→Shared→Prop}{s:Shared}
set_option maxRecDepth 100000 in
end
section
variable{X:Cx}
end
end L2
namespace Att
open PySem PySem.W PySem.Calls PyProof.Rows
theorem s0v{P:Params}{h:Heap}:∀(ns:List Int) (vs:List Value),WellAll P h vs (ns.map WData.int)→IntsAre vs ns:=by
 intro ns
 induction ns with
 |nil=>
  intro vs w;rw[List.map_nil]at w;cases w;exact .nil
 |cons n ns ih=>
  intro vs w;rw[List.map_cons]at w;cases w with
  |cons a b=>
   cases a;exact .cons _ _ (ih _ b)
theorem g0d{l:OpenLaw}{n:Nat}(hn:l.most=some n){P:Params}{h:Heap}{args:List WData}{vals:List Value}
 (hpre:l.row.toRowW.claim.pre args=true) (hwl:WellAll P h vals args):
 ∃a vs ns,vals=[Value.ref a]∧args=[WData.list (ns.map WData.int)]∧h.get? a=some {cls:=.type "list",data:=.seq vs.toArray}∧IntsAre vs ns∧ns.length≤n:=by
 have hsh:WShape.hasAll [] args [.list .int]=true:=(pre_splitW hpre).1;have hc:l.pre.holds [] {args:=args}=true:=(pre_splitW hpre).2;obtain ⟨d,r,rfl,h1,h2⟩:=hasAllW_cons hsh;obtain rfl:=hasAllW_nil h2;obtain ⟨xs,rfl,h3⟩:=hasW_list h1;obtain ⟨ns,rfl⟩:=items_int h3;have hlen:ns.length≤n:=by
  unfold OpenLaw.pre at hc;have h4:(WTm.not (.lt (.lit (.int (n:Int))) (.len (.arg 0)))).holds [] {args:=[.list (ns.map .int)]}=true:=by
   have h4:=(holds_andW hc).1;rw[hn]at h4;exact h4
  have h5:=condW_of h4 (w_not (w_lt w_lit (w_len_list (w_arg rfl))));rw[List.length_map]at h5;refine Nat.le_of_not_lt fun q=>?_
  have q':(n:Int)<((ns.length:Nat):Int):=by omega
  first
   |(rw[decide_eq_true q']at h5;exact absurd h5 (by decide))
   |(simp at h5;omega)
 cases hwl with
 |cons w1 w2=>
  cases w2;cases w1 with
  |list ho hall=>exact ⟨_,_,ns,rfl,rfl,ho,s0v ns _ hall,hlen⟩
theorem g0c(l:OpenLaw)(args:List WData):l.row.toRowW.claim.post args (.bool true) args=true:=
 postW_of (r:=l.row.toRowW) (X:=(true==true))
  (show WShape.has [] (.bool true) .bool=true by first |rfl |decide |simp[WShape.has,WShape.arms,WShape.armsAll])
  (show (WTm.eq .res (.lit (.bool true))).value [] {args:=args,res:=some (.bool true),after:=args}=some (.bool (true==true))from w_eq_bool (w_res rfl) w_lit) rfl
theorem attach_call{l:OpenLaw}{n:Nat}{q:Program}{loose:List Str}{XP:(Str→Option Value)→Heap→Prop}{YP:World→Heap→Prop}{d:DefRec}
 (hn:l.most=some n) (hdf:d.params.defaults=[])
 (call:∀(w:World) (s₀ s₁:Shared) (mg mb:Str→Option Value) (fa:Addr) (o:Obj) (pm cd doc:Value) (a:Addr) (vs:List Value) (ns:List Int),
  Ground q loose [] XP w s₀ mg mb s₁.heap→YP w s₁.heap→
  s₁.heap.get? fa=some o→o.data=.func (docDef d.name d.params d.body d.scope pm cd doc)→s₁.heap.CodeRec cd d.name→mg d.name=some (.ref fa)→
  s₁.heap.get? a=some {cls:=.type "list",data:=.seq vs.toArray}→IntsAre vs ns→ns.length≤n→s₁.gens=#[]→
  codeAny (model l.prog w) callerA (.call (.ref fa) ⟨[.ref a],[]⟩) (fun r s'=>r=.ok (.ret (.bool true))∧OldK s₁.heap s'.heap∧s'.os=s₁.os∧AllBare s'.gens) s₁):
 WalkO q loose XP YP l.row.toRowW d [] (fun f vs=>PySem.call f vs):=by
 intro w s₀ s₁ mg mb G Y fa o pm cd doc dV kV ho hd hcd hD hmg hg args vals as hpre hlay hrd hwl hlo;obtain rfl:dV=.none:=Dflts.none hD hdf;obtain rfl:kV=.none:=Dflts.noKw hD;obtain ⟨a,vs,ns,rfl,rfl,hobj,hints,hlen⟩:=g0d hn hpre hwl;refine enter_call (codeAny_mono (call w s₀ s₁ mg mb fa o pm cd doc a vs ns G Y ho (fd_plain hd) hcd hmg hobj hints hlen hg) fun r s' hq=>?_);obtain ⟨rfl,h2,h3,h4⟩:=hq;exact ⟨.inl ⟨.bool true,.bool true,[],rfl,fun _=>rfl,.bool true,g0c l _,fun _=>⟨List.Pairwise.nil,fun _ hm=>(nomatch hm)⟩⟩,h2,h3,h4⟩
section
variable{prog:Program}{w:World}{A:Around}{E:Value→Shared→Prop}{s:Shared}{K:Frag}
noncomputable def ledger(h:Heap)(L d:Addr):List (Addr×Obj):=(List.range h.objs.size).filterMap fun a=>if a=L∨a=d then none else (h.get? a).map fun o=>(a,o)
end
end Att
namespace L2
open PySem PySem.Spec PyProof.Rows
theorem n0y:∀{vs:List Value} {ns:List Int},IntsAre vs ns→Vals (ns.map V.int) vs
 |_,_,.nil=>.nil
 |_,_,.cons n t h=>.cons ⟨t,rfl⟩ (n0y h)
noncomputable def Only(H:Hp):Prop:=∀b,H b=none∨∃o xs,H b=some (.frz o (.lst xs))
theorem c0n{P:Program}{w:World}{K:PySem.W.Frag}{mg mb:Str→Option Value}{CX:CXT}{k:Nat}{fa a:Addr}{fd:FuncData}{x:Str}{sp:Sp}{s₁:Shared}{vs:List Value}{ns:List Int}
 (KX:K.In s₁.heap) (hns:s₁.heap.Ns mainGlobals mg) (hb:s₁.heap.Ns builtinsNs mb) (hbb:∀x:Str,x≠"__name__"→mb x=bootBuiltins x) (hlim:s₁.heap.NoLimit) (hg:s₁.gens=#[])
 (ha:s₁.heap.get? a=some {cls:=.type "list",data:=.seq vs.toArray}) (hi:IntsAre vs ns) (hl:ns.length≤sizeLine) (hr:Room k callerA)
 (F:∀base:Heap,K.In base→base.Ns mainGlobals mg→FnOk P w K mg base CX k fa fd [x] sp) (hbind:∀(s:Shared) (u:Value),BindsTo s fd ⟨[u],[]⟩ [(x,u)])
 (hsp:∀H:Hp,Only H→SqL K H a (ns.map V.int)→sp [.ref a] H (fun v _=>v=.bl true) fun _ _ _=>False)
 (hCX:∀H e s',CX [] H s₁ (fun _ _ _=>False) e s'→False):
 codeAny (model P w) callerA (.call (.ref fa) ⟨[.ref a],[]⟩) (fun r s'=>r=.ok (.ret (.bool true))∧OldK s₁.heap s'.heap∧s'.os=s₁.os∧AllBare s'.gens) s₁:=by
 have rv:=n0y hi;have lenV:=hi.length;have core:∀H:Hp,Only H→SqL K H a (ns.map V.int)→HOk P w H s₁.heap→(∀b,H b≠none→b=a)→(H a≠none→K.lookup a=none)→
  codeAny (model P w) callerA (.call (.ref fa) ⟨[.ref a],[]⟩) (fun r s'=>r=.ok (.ret (.bool true))∧OldK s₁.heap s'.heap∧s'.os=s₁.os∧AllBare s'.gens) s₁:=by
  intro H hO hS hok hA hK;have base_of:∀{b:Addr} {o:Obj},s₁.heap.get? b=some o→H b=none→(hidT s₁.heap H).get? b=some o:=fun e n=>c0v e n
  have noA:∀{b:Addr} {o:Obj} {es:Array DictEntry} {ep:Nat},s₁.heap.get? b=some o→o.data=.dict es ep→H b=none:=fun {b o es ep} e d=>by
   cases q:H b with
   |none=>rfl
   |some u=>
    have e':b=a:=hA b (by rw[q];simp);subst e';rw[ha]at e;cases e;have d':Data.seq vs.toArray _=Data.dict es ep:=d;cases d'
  have nsK:∀{b:Addr} {m:Str→Option Value},s₁.heap.Ns b m→(hidT s₁.heap H).Ns b m:=fun {b m} ⟨o,es,ep,e,d,r⟩=>⟨o,es,ep,base_of e (noA e d),d,r⟩
  have hKb:K.In (hidT s₁.heap H):=fun b o e=>base_of (KX b o e) (by
   cases q:H b with
   |none=>rfl
   |some u=>
    have e':b=a:=hA b (by rw[q];simp);subst e';rw[hK (by rw[q];simp)]at e;cases e)
  have hM:Mod K mg (hidT s₁.heap H):=⟨hKb,nsK hns,⟨mb,nsK hb,hbb⟩,let ⟨mc,h1,h2⟩:=hlim;⟨mc,nsK h1,h2⟩⟩;have e0:Env0 P w K mg (hidT s₁.heap H) callerA [] s₁ H:=⟨rfl,hM,fun b o e=>z1n e,Nat.le_of_eq (g0x _ _),trivial,fun b hb=>absurd (show b∈([]:List Addr)from hb) (by simp),hok,.of_eq hg⟩;refine codeAny_mono ((F _ hKb (nsK hns)).run callerA [] s₁ H ⟨[.ref a],[]⟩ [.ref a] [.ref a] _ _ hr e0 (hbind s₁ (.ref a)) (.cons rfl .nil) (hsp H hO hS)) fun r s' h=>?_
  cases r with
  |error e=>exact (hCX H e s' h).elim
  |ok fl=>
   cases fl with
   |next=>exact False.elim h
   |brk=>exact False.elim h
   |cont=>exact False.elim h
   |ret u=>
    obtain ⟨v,H',os,bare,un,hok',r',q⟩:=h;have q':v=.bl true:=q;subst q';obtain rfl:u=Value.bool true:=r';refine ⟨rfl,OldK.of_keep fun b o e=>?_,os,bare⟩;cases q:H b with
    |none=>exact un.keep b o e q (by intro z;exact absurd (show b∈([]:List Addr)from z) (by simp)) (by simp)
    |some u=>
     rcases hO b with z |⟨ob,xs,z⟩
     ·rw[q]at z;cases z
     ·have z2:=un.frzs b ob _ z;obtain ⟨e1,_⟩:=hok b _ z;obtain ⟨e2,_⟩:=hok' b _ z2;rw[e]at e1;cases e1;exact e2
 cases hk:K.lookup a with
 |some o=>
  have e:=KX a o hk;rw[ha]at e;cases e;refine core (fun _=>none) (fun _=>.inl rfl) (.inr ⟨_,vs.toArray,_,hk,rfl,rfl,rfl,by rw[List.size_toArray,lenV];exact hl,by simpa using rv⟩) (fun b u z=>by have z':(none:Option HO)=some u:=z;cases z') (fun b z=>absurd rfl z) fun z=>absurd rfl z
 |none=>
  refine core (fun b=>if b=a then some (.frz {cls:=.type "list",data:=.seq vs.toArray} (.lst (ns.map V.int)))else none) (fun b=>?_) (.inl (.inr ⟨{cls:=.type "list",data:=.seq vs.toArray},if_pos rfl⟩)) (fun b u z=>?_) (fun b z=>?_) fun _=>hk
  ·by_cases hb:b=a
   ·exact .inr ⟨_,_,if_pos hb⟩
   ·exact .inl (if_neg hb)
  ·by_cases hb:b=a
   ·have z':=(if_pos hb).symm.trans z;cases z';subst hb;exact ⟨ha,by rw[List.length_map];exact hl,vs,_,rv,ha⟩
   ·have z':=(if_neg hb).symm.trans z;cases z'
  ·by_cases hb:b=a
   ·exact hb
   ·exact absurd (if_neg hb) z
end L2
namespace L2
open PySem PySem.Spec PyProof.Rows
noncomputable abbrev KOf{K:PySem.W.Frag}{h:Heap}(_:K.In h):PySem.W.Frag:=K
theorem walk_of{l:PySem.W.OpenLaw}{n k:Nat}{q:Program}{loose:List Str}{XP:(Str→Option Value)→Heap→Prop}{YP:World→Heap→Prop}{d:DefRec}{K:Params→PySem.W.Frag}{CX:World→CXT}{sp:World→Sp}{x:Str}
 (hn:l.most=some n) (hn2:n≤sizeLine) (hdf:d.params.defaults=[]) (hr:Room k callerA)
 (hY:∀(w:World) (h:Heap),YP w h→(K w.params).In h)
 (F:∀(w:World) (mg:Str→Option Value) (fa:Addr) (h:Heap),(K w.params).In h→h.Ns mainGlobals mg→mg d.name=some (.ref fa)→
  ∃fd:FuncData,(∀(s:Shared) (u:Value),BindsTo s fd ⟨[u],[]⟩ [(x,u)])∧
   ∀base:Heap,(K w.params).In base→base.Ns mainGlobals mg→FnOk l.prog w (K w.params) mg base (CX w) k fa fd [x] (sp w))
 (hsp:∀(w:World) (H:Hp) (a:Addr) (ns:List Int),ns.length≤n→Only H→SqL (K w.params) H a (ns.map V.int)→sp w [.ref a] H (fun v _=>v=.bl true) fun _ _ _=>False)
 (hCX:∀(w:World) (H:Hp) (s:Shared) (e:Value) (s':Shared),CX w [] H s (fun _ _ _=>False) e s'→False):
 PySem.W.WalkO q loose XP YP l.row.toRowW d [] (fun f vs=>PySem.call f vs):=by
 refine Att.attach_call hn hdf fun w s₀ s₁ mg mb fa o pm cd doc a vs ns G Y ho hd hcd hmg hobj hints hlen hg=>?_
 have KX:=hY w _ Y;obtain ⟨fd,hb,hF⟩:=F w mg fa _ KX G.T.g hmg;exact c0n KX G.T.g G.T.b G.T.builtins G.T.nolimit hg hobj hints (Nat.le_trans hlen hn2) hr hF hb (fun H hO hS=>hsp w H a ns hlen hO hS) fun H e s'=>hCX w H s₁ e s'
end L2
namespace L2
open PySem PySem.Spec PyProof.Rows
noncomputable def inClass(s:Stmt)(j:Nat):Stmt:=match s with
 | .ClassDef _ _ _ body _ _ _ _ _ _ _=>body.getD j (.Pass ⟨0,0,0,0⟩)
 |_=>.Pass ⟨0,0,0,0⟩
noncomputable def defArgs(s:Stmt):Arguments:=match s with
 | .FunctionDef _ a _ _ _ _ _ _ _ _=>a
 |_=>{posonlyargs:=[],args:=[],vararg:=none,kwonlyargs:=[],kw_defaults:=[],kwarg:=none,defaults:=[]}
noncomputable def defBody(s:Stmt):List Stmt:=match s with
 | .FunctionDef _ _ b _ _ _ _ _ _ _=>b
 |_=>[]
noncomputable def defScope(s:Stmt):Scope:=match s with
 | .FunctionDef _ _ _ _ _ _ sc _ _ _=>sc
 |_=>{kind:=.function,names:=[],isGenerator:=false,isCoroutine:=false}
noncomputable abbrev CX0:CXT:=fun _ _ _ _ _ _=>False
noncomputable abbrev E0:XK:=fun _ _ _=>False
theorem pass0{X:Cx}:a0k CX0 X E0:=fun _ _ _ _ _ _ _ h=>h.elim
structure Fun(K:PySem.W.Frag)(x qual:Str)(st:Stmt)(f:Addr)(fd:FuncData):Prop where
 ex:∃(oc:Value) (od:Option Addr) (kV doc pm:Value) (an:Option Addr) (cdv ct:Value) (osl:Array (Option Value)),
  fd=PySem.W.fnOf x qual (defArgs st) (defBody st) (defScope st) .none kV doc pm an cdv ct∧K.lookup f=some ⟨oc,od,.func fd,osl⟩∧PySem.W.codeIn K cdv qual=true
 kp:PySem.W.keepIn K (.ref f)=true
section
variable{P:Program}{w:World}{K:PySem.W.Frag}{mg:Str→Option Value}{base:Heap}
theorem Fun.ok{x qual:Str}{st:Stmt}{f:Addr}{fd:FuncData}{N ps:List Str}{k:Nat}{sp:Sp}(F:Fun K x qual st f fd)(S:FnScope N ps (defScope st))(len:∀vs H Q E,sp vs H Q E→vs.length=ps.length)
 (hbody:∀(cdv:Value) (A:Around) (outer:List Env) (s:Shared) (H:Hp) (vs:List V) (Q:VK) (E:XK),Room k (A.deeper (envOfC qual (defScope st) s.heap.objs.size f cdv))→sp vs H Q E→
  ∃t,PSs (cxOf CX0 P w K mg base N qual (defScope st) f cdv A outer s H E).nox (defBody st) t∧t {nx:=fun _ H'=>Q .non H',rt:=Q} (start N vs) H):FnOk P w K mg base CX0 (k+1) f fd ps sp:=by
 obtain ⟨oc,od,kV,doc,pm,an,cdv,ct,osl,rfl,lk,hcd⟩:=F.ex;refine fn_of lk hcd S len fun A outer s H vs Q E hr hsp=>?_
 obtain ⟨t,h,q⟩:=hbody cdv A outer s H vs Q E hr hsp;exact ⟨t,h.nox,q⟩
theorem Fun.binds{x qual:Str}{st:Stmt}{f:Addr}{fd:FuncData}{ps:List Str}(F:Fun K x qual st f fd)
 (h:∀(kV doc pm:Value) (an:Option Addr) (cdv ct:Value) (us:List Value),us.length=ps.length→bindArgs (PySem.W.fnOf x qual (defArgs st) (defBody st) (defScope st) .none kV doc pm an cdv ct) ⟨us,[]⟩=pure (ps.zip us)):Binds K fd ps []:=by
 obtain ⟨oc,od,kV,doc,pm,an,cdv,ct,osl,rfl,lk,hcd⟩:=F.ex;exact .all (h kV doc pm an cdv ct)
end
section
variable{X:Cx}
theorem pv(i:Nat){x:Str}{pos:Pos}(hN:X.N[i]?=some x:=by rfl)(hv:Vis X.env.scope x:=by walk_at "v3")(hd:(x==("__debug__":Str))=false:=by decide)
 (hcd:(x==("__classdict__":Str))=false:=by decide):PE X (.Name x pos) (tVar i):=t0a hN hv hd hcd
end
noncomputable def Same(H H':Hp):Prop:=∀b o,H b=some o→H' b=some o
theorem Same.refl(H:Hp):Same H H:=fun _ _ h=>h
theorem Same.trans{H H1 H2:Hp}(a:Same H H1)(b:Same H1 H2):Same H H2:=fun c o h=>b c o (a c o h)
theorem Same.free{H H':Hp}(e:Same H H'){l:Addr}(h:H' l=Option.none):H l=Option.none:=by
 cases q:H l with
 |none=>rfl
 |some o=>
  rw[e l o q]at h;cases h
end L2
namespace L2
open PySem PySem.Spec PyProof.Rows
section
variable{κ:Type}[DecidableEq κ]
noncomputable def putK(kvs:List (κ×V))(k:κ)(v:V):List (κ×V):=
 if (kvs.any fun kv=>decide (kv.1=k))=true then kvs.map (fun kv=>if kv.1=k then (kv.1,v)else kv)else kvs++[(k,v)]
theorem KV.any{kvs:List (κ×V)}{vs:List (κ×Value)}(r:KV kvs vs)(k:κ):(kvs.any fun kv=>decide (kv.1=k))=vs.any fun kv=>decide (kv.1=k):=by
 unfold KV at r
 induction r with
 |nil=>rfl
 |cons h t ih=>rw[List.any_cons,List.any_cons,ih,h.1]
theorem KV.repl{kvs:List (κ×V)}{vs:List (κ×Value)}(r:KV kvs vs)(k:κ){y:V}{u:Value}(ry:RelV y u):
 KV (kvs.map fun kv=>if kv.1=k then (kv.1,y)else kv) (vs.map fun kv=>if kv.1=k then (kv.1,u)else kv):=by
 unfold KV at r ⊢
 induction r with
 |nil=>exact .nil
 | @cons p q ps qs h t ih=>
  rw[List.map_cons,List.map_cons];refine .cons ?_ ih;obtain ⟨h1,h2⟩:=h;by_cases e:p.1=k
  ·rw[if_pos e,if_pos (h1.symm.trans e)];exact ⟨h1,ry⟩
  ·rw[if_neg e,if_neg (fun z=>e (h1.trans z))];exact ⟨h1,h2⟩
theorem KV.put{kvs:List (κ×V)}{vs:List (κ×Value)}(r:KV kvs vs)(k:κ){y:V}{u:Value}(ry:RelV y u):KV (putK kvs k y) (stored vs k u):=by
 unfold putK stored;rw[r.any k];by_cases e:(vs.any fun kv=>decide (kv.1=k))=true
 ·rw[if_pos e,if_pos e];exact r.repl k ry
 ·rw[if_neg e,if_neg e];exact Paired.snoc r ⟨rfl,ry⟩
theorem KV.keys{kvs:List (κ×V)}{vs:List (κ×Value)}(r:KV kvs vs):kvs.map (·.1)=vs.map (·.1):=by
 unfold KV at r
 induction r with
 |nil=>rfl
 |cons h t ih=>rw[List.map_cons,List.map_cons,ih,h.1]
theorem KV.length{kvs:List (κ×V)}{vs:List (κ×Value)}(r:KV kvs vs):kvs.length=vs.length:=Paired.length r
end
section
variable{P:Program}{w:World}{H:Hp}{h:Heap}{a:Addr}
theorem rd_of{u:HO}(ok:HOk P w H h)(e:Rd H a u):ObjOk P w H h a u:=e.ok ok
theorem dk_rd{kvs:List (Key×V)}(ok:HOk P w H h)(e:Rd H a (.dK kvs)):kvs.length≤sizeLine∧(a==sysModules)=false∧∃vs,KV kvs vs∧h.DictOf (h7 P w) a vs:=
 show ObjOk P w H h a (.dK kvs)from rd_of ok e
end
section
variable{X:Cx}{pins:List (Addr×Obj)}{σ:St}{H:Hp}{s:Shared}{a:Addr}{y v:V}{u r:Value}{o:Option V}{A:Around}{E:Value→Shared→Prop}
theorem Inv.big(I:Inv X pins σ H s):sysModules<s.heap.objs.size:=by
 have h:mainGlobals<s.heap.objs.size:=(I.mod.glob.keeps I.bk).lt;exact Nat.lt_trans (by decide) h
end
section
variable{X:Cx}{pins:List (Addr×Obj)}{σ:St}{H:Hp}{s:Shared}{a:Addr}{kvs:List (Key×V)}{k:Key}{u:Value}{A:Around}{E:Value→Shared→Prop}
end
section
variable{X:Cx}{o i e value:Expr}{pos pos' tpos:Pos}{td ty tv:TE}
end
section
variable{X:Cx}{pos:Pos}
end
structure M1(X:Cx)(o:Expr)(m:Str)(apos:Pos)(e:Expr)(cpos:Pos):Prop where
 base:attributeBase o m X.env (eval o X.env)=eval o X.env
 few:((backTo cpos (starEach [e] X.env)).all (fun x=>!x.1)&&(backToKw cpos (keywordEach [] X.env)).all (fun x=>x.1.isSome)
  &&decide (([e]:List Expr).length+([]:List Keyword).length+(if ([]:List Keyword).isEmpty then 0 else 1)<30))=true
 line:(apos.endLine==cpos.line)=true
 trees:backTo cpos (starEach [e] X.env)=[(false,eval e X.env)]
structure M2(X:Cx)(o:Expr)(m:Str)(apos:Pos)(e f:Expr)(cpos:Pos):Prop where
 base:attributeBase o m X.env (eval o X.env)=eval o X.env
 few:((backTo cpos (starEach [e,f] X.env)).all (fun x=>!x.1)&&(backToKw cpos (keywordEach [] X.env)).all (fun x=>x.1.isSome)
  &&decide (([e,f]:List Expr).length+([]:List Keyword).length+(if ([]:List Keyword).isEmpty then 0 else 1)<30))=true
 line:(apos.endLine==cpos.line)=true
 trees:backTo cpos (starEach [e,f] X.env)=[(false,eval e X.env),(false,eval f X.env)]
section
variable{X:Cx}{pins:List (Addr×Obj)}{σ:St}{H:Hp}{s:Shared}{a:Addr}{y d:V}{u r:Value}{o:Option V}{A:Around}{E:Value→Shared→Prop}
end
section
variable{X:Cx}{o e f:Expr}{apos cpos:Pos}{td ty tx:TE}
end
section
variable{X:Cx}{pins:List (Addr×Obj)}{σ:St}{H:Hp}{s:Shared}{a:Addr}{kvs:List (Key×V)}{A:Around}{E:Value→Shared→Prop}
end
section
variable{X:Cx}{pins:List (Addr×Obj)}{σ:St}{H:Hp}{s:Shared}{a:Addr}{y:V}{u:Value}{A:Around}{E:Value→Shared→Prop}
end
end L2
set_option maxHeartbeats 4000000
namespace PySem.W
open PySem PySem.Calls PyProof.Rows Builtin Builtin.ObjectAttr Builtin.Getset_descriptor
section
variable{prog:Program}{w:World}{A:Around}{E:Value→Shared→Prop}{R:Result→Shared→Prop}{h:Heap}{g:Array GenState}{d:Drawn}{t:Nat}{os:OsState}
variable{nm q:Str}{C N:Addr}{bs bm bmB:List Value}{hdct:Bool}{sn:List Str}{sub:List Value}{ab:Bool}{col:Option Bool}{dd:Option Addr}{k0 k1 k2 k3 k5:Option Value}{B newId initId:String}
noncomputable abbrev xObj(C t:Addr):Obj:={cls:=.ref C,data:=.fields #[.ref t,.none,.none,.none,.bool false,.none]}
noncomputable abbrev xTup(rest:List Value):Obj:={cls:=.type "tuple",data:=.seq rest.toArray}
theorem type_call_x(F:ExcBaseFacts B newId initId bmB)(T:OwnTail h bmB bm){rest:List Value}{f:Addr}
 (hC:h.get? C=some (excClassObj nm q C N bs bm hdct sn sub ab col dd k0 k1 k2 k3 k5 newId))
 (hi:Looks (model prog w) h (typeLookup (.ref C) "__init__") (some (.ref f))) (hb:∀self,Looks (model prog w) h (bindSpecial (.ref f) self) (.ref f,[self]))
 (hq:codeAny (model prog w) (A.under (.builtin "type.__call__" ⟨.ref C::rest,[]⟩)) (.call (.ref f) ⟨.ref (h.objs.size+1)::rest,[]⟩) (InitBack (h.objs.size+1) R) ⟨(h.push (xTup rest)).push (xObj C h.objs.size),g,d,t,os⟩)
 (hrest:rest.length≤sizeLine):
 codeAny (model prog w) A (.call (.ref C) ⟨rest,[]⟩) R ⟨h,g,d,t,os⟩:=by
 have f1:=tc_lookup;have f2:=tc_bind (.ref C);have hT:(⟨h,g,d,t,os⟩:Shared).TypeIs (.ref C) "type":=⟨_,hC,rfl⟩;refine codeAny_of_tree ?_;show wpAny _ _ (callAny (.ref C) _) _ _ _
 repeat (any_goals (first |assumption |with_reducible refine wpAny_loadPart_at hC ?_ |wp_step))
 refine ⟨rfl,?_⟩;refine codeAny_call_builtin_at (Code.quiet_builtin _ (by decide +kernel)) entry_typeCall (wpAny_check_type_call_sub hC ?_)
 repeat (first |with_reducible refine wpAny_loadPart_at hC ?_ |with_reducible refine wpAny_madeBy_exc hC ?_ |wp_step)
 refine codeAny_call_builtin_code (Code.quiet_builtin _ F.quiet) (wpAny_check_new_subT F T hC ?_);refine codeAny_exc_new_subT F T hC ?_ hrest;show wpAny _ _ _ _ _ _;have k:∀b o,h.get? b=some o→((h.push (xTup rest)).push (xObj C h.objs.size)).get? b=some o:=fun b o e=>Heap.get?_push_of_some _ (Heap.get?_push_of_some _ e)
 have hC₁:=k _ _ hC;have hget:((h.push (xTup rest)).push (xObj C h.objs.size)).get? (h.objs.size+1)=some (xObj C h.objs.size):=by heap_get
 have hcC:(Value.ref C::bm).contains (.ref C)=true:=by simp
 have i1:=hi.keeps k;have b1:=(hb (.ref (h.objs.size+1))).keeps k;unfold isInstance
 repeat (first |with_reducible refine wpAny_loadPart_at hget ?_ |(with_reducible refine wpAny_isSubtype_exc hC₁ ?_;rw[hcC])|wp_step)
 refine wpAny_isSubtype_exc hC₁ ?_;rw[hcC];have t1:Looks (model prog w) ((h.push (xTup rest)).push (xObj C h.objs.size)) (typeOf (.ref (h.objs.size+1))) (.ref C):=(Looks.ld hget).andThen .now;unfold callSpecial? specialOf;simp only[Bool.not_true,Bool.false_eq_true,if_false];refine wpAny_bind (wpAny_holding (wpAny_bind (wpAny_bind (t1.at (i1.at ?_)))));dsimp only;refine wpAny_holding (wpAny_bind (b1.at (wpAny_bind (wpAny_call (codeAny_mono hq fun r s' z=>?_)))));rcases r with e |(v |_ |_ |_)<;>first |exact z |exact z.elim |skip
 obtain ⟨rfl,z⟩:=z;exact wpAny_pure (wpAny_pure z)
theorem type_call_x0(F:ExcBaseFacts B newId initId bmB)(T:OwnTail h bmB bm){mN:Str→Option Value}{Q:Value→Shared→Prop}
 (hC:h.get? C=some (excClassObj nm q C N bs bm hdct sn sub ab col dd k0 k1 k2 k3 k5 newId)) (hn:h.Ns N mN) (hni:mN "__init__"=none)
 (hq:∀h' t2,(∀b o,h.get? b=some o→h'.get? b=some o)→h'.get? (h.objs.size+1)=some (xObj C t2)→Q (.ref (h.objs.size+1)) ⟨h',g,d,t,os⟩):
 wpAny (model prog w) A (call (.ref C) []) Q E ⟨h,g,d,t,os⟩:=by
 have f1:=tc_lookup;have f2:=tc_bind (.ref C);have hT:(⟨h,g,d,t,os⟩:Shared).TypeIs (.ref C) "type":=⟨_,hC,rfl⟩;refine wpAny_call (codeAny_of_tree ?_);show wpAny _ _ (callAny (.ref C) _) _ _ _
 repeat (any_goals (first |assumption |with_reducible refine wpAny_loadPart_at hC ?_ |wp_step))
 refine ⟨rfl,?_⟩;refine codeAny_call_builtin_at (Code.quiet_builtin _ (by decide +kernel)) entry_typeCall (wpAny_check_type_call_sub hC ?_)
 repeat (first |with_reducible refine wpAny_loadPart_at hC ?_ |with_reducible refine wpAny_madeBy_exc hC ?_ |wp_step)
 refine codeAny_call_builtin_code (Code.quiet_builtin _ F.quiet) (wpAny_check_new_subT F T hC ?_);refine codeAny_exc_new_subT F T hC ?_ (by decide);show wpAny _ _ _ _ _ _;have k:∀b o,h.get? b=some o→((h.push (xTup [])).push (xObj C h.objs.size)).get? b=some o:=fun b o e=>Heap.get?_push_of_some _ (Heap.get?_push_of_some _ e)
 have hC₁:=k _ _ hC;have hn₁:((h.push (xTup [])).push (xObj C h.objs.size)).Ns N mN:=let ⟨o,es,ep,e,r⟩:=hn;⟨o,es,ep,k _ _ e,r⟩
 have hget:((h.push (xTup [])).push (xObj C h.objs.size)).get? (h.objs.size+1)=some (xObj C h.objs.size):=by heap_get
 have hcC:(Value.ref C::bm).contains (.ref C)=true:=by simp
 have T₁:=T.keeps k;unfold isInstance
 repeat (first |with_reducible refine wpAny_loadPart_at hget ?_ |(with_reducible refine wpAny_isSubtype_exc hC₁ ?_;rw[hcC])|wp_step)
 refine wpAny_isSubtype_exc hC₁ ?_;rw[hcC];have t1:Looks (model prog w) ((h.push (xTup [])).push (xObj C h.objs.size)) (typeOf (.ref (h.objs.size+1))) (.ref C):=(Looks.ld hget).andThen .now;unfold callSpecial? specialOf;simp only[Bool.not_true,Bool.false_eq_true,if_false];refine wpAny_bind (wpAny_holding (wpAny_bind (wpAny_bind (t1.at (wpAny_typeLookup_tail hC₁ hn₁ T₁ F.mroIs F.init.lookup ?_)))));rw[hni];dsimp only;refine wpAny_holding (wpAny_bind (wpAny_of_eq (F.init.bind _) ?_));refine wpAny_bind (wpAny_call (codeAny_call_builtin F.init.plain F.initEntry (wpAny_check_init_subT F T₁ hC₁ hget rfl ?_)))
 wp_walk
 refine hq _ (h.objs.size+2) (fun b o hb=>?_) ?_
 ·rw[Heap.get?_update_other _ _ (Nat.ne_of_gt (Nat.lt_succ_of_lt (Heap.lt_size hb)))];exact Heap.get?_push_of_some _ (k b o hb)
 ·rw[Heap.get?_update_self _ (Heap.get?_push_of_some _ hget) rfl];simp only[Heap.size_push];rfl
end
end PySem.W
namespace PySem.W
open PySem PySem.Calls PyProof.Rows Builtin Builtin.ObjectAttr Builtin.Getset_descriptor
noncomputable abbrev veMro:List Value:=[.type "ValueError",.type "Exception",.type "BaseException",.type "object"]
noncomputable def j0d:List Value→Bool
 | .ref _::r=>j0d r
 |l=>l==veMro
theorem n0x(self:Value):∀{l:List Value},j0d l=true→refuseLoop self "__setattr__" l=pure ()
 | .ref c::r,e=>by rw[refuseLoop_ref];exact n0x self (l:=r) e
 | [],e=>by cases e
 | .type n::r,e=>by
  have e':(Value.type n::r)=veMro:=beq_iff_eq.mp e;rw[e'];exact PySem.F.store_ValueError.passes self
 | .none::r,e=>by cases (beq_iff_eq.mp e:(Value.none::r)=veMro)
 | .bool _::r,e=>by cases (beq_iff_eq.mp e:(Value.bool _::r)=veMro)
 | .int _ _::r,e=>by cases (beq_iff_eq.mp e:(Value.int _ _::r)=veMro)
 | .str _ _::r,e=>by cases (beq_iff_eq.mp e:(Value.str _ _::r)=veMro)
 | .bytes _ _::r,e=>by cases (beq_iff_eq.mp e:(Value.bytes _ _::r)=veMro)
 | .float _ _::r,e=>by cases (beq_iff_eq.mp e:(Value.float _ _::r)=veMro)
 | .builtin _::r,e=>by cases (beq_iff_eq.mp e:(Value.builtin _::r)=veMro)
 | .notImplemented::r,e=>by cases (beq_iff_eq.mp e:(Value.notImplemented::r)=veMro)
 | .ellipsis::r,e=>by cases (beq_iff_eq.mp e:(Value.ellipsis::r)=veMro)
theorem a0i:∀{l:List Value} {b:Value},j0d l=true→veMro.contains b=true→l.contains b=true
 | .ref c::r,b,e,q=>by rw[List.contains_cons,a0i (l:=r) e q,Bool.or_true]
 | [],b,e,q=>by cases e
 | .type n::r,b,e,q=>by rw[(beq_iff_eq.mp e:(Value.type n::r)=veMro)];exact q
 | .none::r,_,e,_=>by cases (beq_iff_eq.mp e:(Value.none::r)=veMro)
 | .bool _::r,_,e,_=>by cases (beq_iff_eq.mp e:(Value.bool _::r)=veMro)
 | .int _ _::r,_,e,_=>by cases (beq_iff_eq.mp e:(Value.int _ _::r)=veMro)
 | .str _ _::r,_,e,_=>by cases (beq_iff_eq.mp e:(Value.str _ _::r)=veMro)
 | .bytes _ _::r,_,e,_=>by cases (beq_iff_eq.mp e:(Value.bytes _ _::r)=veMro)
 | .float _ _::r,_,e,_=>by cases (beq_iff_eq.mp e:(Value.float _ _::r)=veMro)
 | .builtin _::r,_,e,_=>by cases (beq_iff_eq.mp e:(Value.builtin _::r)=veMro)
 | .notImplemented::r,_,e,_=>by cases (beq_iff_eq.mp e:(Value.notImplemented::r)=veMro)
 | .ellipsis::r,_,e,_=>by cases (beq_iff_eq.mp e:(Value.ellipsis::r)=veMro)
structure XC(K:Frag)(C:Addr):Prop where
 over:(clsIn K C).any (fun cd=>j0d cd.mro)=true
 sa:findIn K (.ref C) "__setattr__"=some (some (.builtin "object.__setattr__"))
 ga:findIn K (.ref C) "__getattribute__"=some (some (.builtin "BaseException.__getattribute__"))
 gh:findIn K (.ref C) "__getattr__"=some none
 hd:hasDictIn K C=true
 ca:findIn K (.ref C) "__class__"=some (some (.builtin "object.__class__"))
 cg:specialIn K (.builtin "object.__class__") "__get__"=some (some (.builtin "getset_descriptor.__get__"))
 ct:takesIn K (.builtin "object.__class__")=some true
section
variable{prog:Program}{w:World}{A:Around}{E:Value→Shared→Prop}{K:Frag}{C x:Addr}{s:Shared}{R:Result→Shared→Prop}
theorem XC.mro(c:XC K C){b:Value}(hb:veMro.contains b=true):mroIn K C b=some true:=by
 obtain ⟨cd,hc,ho⟩:=any_some c.over;have ne:cd.mro.isEmpty=false:=by cases q:cd.mro with |nil=>rw[q]at ho;cases ho |cons _ _=>rfl
 unfold mroIn;rw[hc,Option.bind_some,if_neg (by rw[ne];decide),a0i ho hb]
theorem osa_x{ox:Obj}{od:Option Obj}{name:Str}{tk:Tok}{v:Value}{r:Option Value}(X:K.In s.heap)(I:InstAt s.heap x ox C od)(c:XC K C)(ht:takerIn K C name=some r)
 (h:∀b,wpAny (model prog w) A.in1 (match r with |some a=>setByDescriptor a (.ref x) v |none=>storeInOwnDict (.ref x) (.ref C) (.str name tk) name v b)
  (fun fin s'=>match fin with | .done f=>R (.ok f) s' | .again c'=>c'.quiet=true∧codeAny (model prog w) A c' R s') (fun e s'=>R (.error e) s') s):
 codeAny (model prog w) A (.call (.builtin "object.__setattr__") ⟨[.ref x,.str name tk,v],[]⟩) R s:=by
 have SF:=PySem.F.store_object;obtain ⟨cd,hc,ho⟩:=any_some c.over;have sub:Looks (model prog w) s.heap (isInstance (.ref x) (.type "object")) true:=I.type.andThen (looks_mroIn X (c.mro (by decide)));refine codeAny_call_builtin SF.slot.plain SF.entry (@check_slot (model prog w) _ _ s "object.__setattr__" "object" "__setattr__" (.ref x) [.str name tk,v] [] _ SF.kind SF.split sub (SF.args (.ref x) (.str name tk) v) ?_);obtain ⟨attr,ha,hr⟩:=Option.bind_eq_some_iff.mp ht;have hm:Looks (model prog w) s.heap (mroOf (.ref C)) cd.mro:=(looks_clsIn X hc).andThen .now;have L3:Looks (model prog w) s.heap (storeTaker? attr) r:=by
  cases attr with
  |none=>cases hr;exact .now
  |some a=>
   obtain ⟨b,hb,rfl⟩:=Option.map_eq_some_iff.mp hr;refine (looks_takesIn X hb).andThen ?_;cases b<;>exact .now
 rw[osa_eq,refuse_eq];refine wpAny_bind (wpAny_bind (I.type.here (wpAny_bind (hm.here ?_))));rw[n0x _ ho];refine wpAny_pure (wpAny_bind (I.type.here (wpAny_bind ((looks_findIn X ha).here (wpAny_bind (L3.here ?_))))));exact h _
theorem set_x0{name:Str}{v:Value}{Q:Unit→Shared→Prop}{vs:Array Value}(X:K.In s.heap)(c:XC K C)(hx:s.heap.get? x=some ⟨.ref C,none,.fields vs,#[]⟩)(ht:takerIn K C name=some none)
 (h:∀h',h'.get? x=some ⟨.ref C,some s.heap.objs.size,.fields vs,#[]⟩→h'.Ns1 s.heap.objs.size (fun y=>if y=name then some v else none)→
  (∀b o,b≠x→s.heap.get? b=some o→h'.get? b=some o)→Q () {s with heap:=h',toks:=s.toks+2}):
 wpAny (model prog w) A (setAttr (.ref x) name v) Q E s:=by
 have J:InstAt s.heap x ⟨.ref C,none,.fields vs,#[]⟩ C none:=⟨hx,rfl,rfl,trivial⟩;refine set_plain X J c.sa (osa_x (s:={s with toks:=s.toks+1}) (r:=none) X J c ht fun b=>?_);obtain ⟨cd,hc,hd'⟩:=any_some c.hd;obtain ⟨hp,g,d,t,os⟩:=s;refine wpAny_bind (wpAny_pure (wpAny_bind (wpAny_bind (wpAny_loadPart hx (wpAny_bind (Looks.here (s:=⟨hp,g,d,t+1,os⟩) (looks_clsIn X hc) ?_))))));rw[hd'];have hx₁:(hp.push {cls:=.type "dict",data:=.dict #[]}).get? x=some ⟨.ref C,none,.fields vs,#[]⟩:=Heap.get?_push_of_some _ hx;have hxs:x≠hp.objs.size:=Nat.ne_of_lt (Heap.lt_size hx);show wpAny _ _ (alloc {cls:=.type "dict",data:=.dict #[]} >>= fun d=>update x (fun o=>{cls:=o.cls,dict:=some d,data:=o.data,slots:=o.slots}) >>= fun _=>dictMade (.ref C) x d) _ _ _;refine wpAny_bind (wpAny_alloc' ?_);refine wpAny_bind (wpAny_update' hx₁ ?_);refine wpAny_pure ?_;have hgd:((hp.push {cls:=.type "dict",data:=.dict #[]}).update x fun o=>{cls:=o.cls,dict:=some hp.objs.size,data:=o.data,slots:=o.slots}).get? hp.objs.size
  =some {cls:=.type "dict",data:=.dict #[]}:=
  (Heap.get?_update_ne _ _ _ _ hxs.symm).trans (Heap.get?_push_at rfl rfl)
 have hnd:((hp.push {cls:=.type "dict",data:=.dict #[]}).update x fun o=>{cls:=o.cls,dict:=some hp.objs.size,data:=o.data,slots:=o.slots}).Ns hp.objs.size (fun _=>none):=
  ⟨_,#[],_,hgd,rfl,fun e he=>absurd he (by simp),fun _=>rfl⟩
 show wpAny _ _ (storeInDict hp.objs.size (.str name t) name v) _ _ _;unfold storeInDict newKeyGuard;refine wpAny_bind (wpAny_pure (wpAny_bind (wpAny_nsSet1 (Heap.Ns1.of_empty hnd) fun h' hn' hs=>?_)));obtain ⟨oD,esD,epD,hoD,hdD,hcD⟩:=hn'.count (Within.cons name v Within.nil);refine wpAny_bind (wpAny_lookBehind hoD (by rw[hdD];exact pastItsLine_dict (Nat.le_trans hcD (by rw[List.length_cons,List.length_nil,sizeLine_eq];omega))) ?_);refine wpAny_pure (h h' ?_ hn' fun b o hb e=>?_)
 ·refine (hs.2 x hxs).trans (Heap.get?_update_self _ hx₁ rfl)
 ·exact (hs.2 b (Nat.ne_of_lt (Heap.lt_size e))).trans ((Heap.get?_update_ne _ _ _ _ hb).trans (Heap.get?_push_of_some _ e))
theorem set_x1{name:Str}{v:Value}{Q:Unit→Shared→Prop}{vs:Array Value}{dx:Addr}{mA:Str→Option Value}{ns:List Str}(X:K.In s.heap)(c:XC K C)(hx:s.heap.get? x=some ⟨.ref C,some dx,.fields vs,#[]⟩)(hne:dx≠x)
 (hn:s.heap.Ns1 dx mA) (ht:takerIn K C name=some none) (hw:PySem.Within mA ns) (hsz:ns.length<sizeLine)
 (h:∀h',h'.Ns1 dx (fun y=>if y=name then some v else mA y)→Heap.SameBut dx s.heap h'→Q () {s with heap:=h',toks:=s.toks+2}):
 wpAny (model prog w) A (setAttr (.ref x) name v) Q E s:=by
 obtain ⟨od,ho,hl⟩:=L2.lookIn_ns hn;have J:InstAt s.heap x ⟨.ref C,some dx,.fields vs,#[]⟩ C (some od):=⟨hx,rfl,rfl,ho⟩;refine set_plain X J c.sa (osa_x (s:={s with toks:=s.toks+1}) (r:=none) X J c ht fun b=>?_);obtain ⟨cd,hc,hd'⟩:=any_some c.hd;refine wpAny_bind (wpAny_pure (wpAny_bind (wpAny_bind (wpAny_loadPart hx (wpAny_bind (Looks.here (s:={s with toks:=s.toks+1}) (looks_clsIn X hc) ?_))))));rw[hd'];refine wpAny_pure (a:=some dx) (wpAny_bind (wpAny_pure (wpAny_bind ?_)));refine wpAny_nsSet1 (s:={s with toks:=s.toks+1}) hn fun h' hn2 hs2=>?_
 obtain ⟨oD,esD,epD,hoD,hdD,hcD⟩:=hn2.count (PySem.Within.cons name v hw);refine wpAny_bind (wpAny_lookBehind hoD (by rw[hdD];exact pastItsLine_dict (Nat.le_trans hcD (by rw[List.length_cons];omega))) ?_);exact wpAny_pure (h _ hn2 hs2)
theorem c0m:builtinKind "BaseException.__getattribute__"=some .slot:=by decide +kernel
theorem g0b:splitId "BaseException.__getattribute__"=some ("BaseException","__getattribute__"):=by decide +kernel
theorem bga_slot:Slot "ValueError" "__getattribute__" "BaseException.__getattribute__":=
 .of (owner:="BaseException") (n:="__getattribute__") (by rw[typeLookup_type,builtinLookup_eq_fast];kernel_rfl) (by decide +kernel) (by decide +kernel) (by decide +kernel)
  (by first |exact .inl (by decide +kernel)|exact .inr (by decide +kernel)) (by rw[isSubtype_type];kernel_rfl)
theorem y1z{ox:Obj}{od:Option Obj}{name:Str}{fill expr:Bool}{r:Found}{t:Tok}{Q:Value→Shared→Prop}(X:K.In s.heap)(I:InstAt s.heap x ox C od)(c:XC K C)
 (hf:findObj K C od name=some r)
 (h:wpAny (model prog w) A.in1 (match r with | .value v=>ret v | .bind g a=>bindTo g a (.ref x) (.ref C)| .missing=>unsupported "") (fun fin s'=>∃v,fin=.done (.ret v)∧wpAny (model prog w) A (handedOut v) Q E s') (fun _ _=>False) s)
 (hr:r≠.missing):wpAny (model prog w) A (getAttrBy (.ref x) (.str name t) fill expr) Q E s:=by
 obtain ⟨hp,g,d,tk,os⟩:=s;have L0:=I.type (M:=model prog w);have L1:=looks_findIn (M:=model prog w) X c.ga;have LG:=looks_findIn (M:=model prog w) X c.gh;have L2:=looks_find (M:=model prog w) X I hf;have hx0:(expr&&onTheHeap (Value.builtin "BaseException.__getattribute__"))=false:=by cases expr<;>rfl
 have hx2:(Value.builtin "BaseException.__getattribute__"==Value.builtin "object.__getattribute__")=false:=by decide +kernel
 have hx1:(onTheHeap (Value.ref C)&&Value.builtin "BaseException.__getattribute__"==Value.builtin "object.__getattribute__")=false:=by rw[hx2];rfl
 have sub:Looks (model prog w) hp (isInstance (.ref x) (.type "BaseException")) true:=I.type.andThen (looks_mroIn X (c.mro (by decide)));have hbnd:=bga_slot.bind (.ref x);unfold getAttrBy;refine wpAny_holding (wpAny_bind (L0.at (wpAny_bind (L1.at ?_))));dsimp only;rw[if_neg (by rw[hx1];decide)];unfold getAttrByItsOwn hookBefore;rw[if_pos (show onTheHeap (Value.ref C)=true from rfl)];refine wpAny_bind (LG.at (wpAny_bind (wpAny_attempt (wpAny_holding ?_))));unfold callGetattribute;rw[if_neg (by rw[hx0];decide)];unfold boundAndCalled;rw[hbnd];refine wpAny_bind (wpAny_pure ?_);refine wpAny_call (codeAny_call_builtin bga_slot.plain F.entry_bexc_ga (@check_slot (model prog w) _ _ ⟨hp,g,d,tk,os⟩ "BaseException.__getattribute__" "BaseException" "__getattribute__" (.ref x) [.str name t] [] _ c0m g0b sub (F.args_bexc_ga (.ref x) (.str name t)) ?_));refine wpAny_bind (wpAny_pure (wpAny_bind (wpAny_pure (wpAny_bind (L0.at (wpAny_bind (L2.at ?_)))))));cases r with
 |value v=>
  refine wpAny_mono h (fun fin s' z=>?_) fun _ _ z=>z.elim
  obtain ⟨v,rfl,z⟩:=z;exact z
 |bind g a=>
  refine wpAny_mono h (fun fin s' z=>?_) fun _ _ z=>z.elim
  obtain ⟨v,rfl,z⟩:=z;exact z
 |missing=>exact absurd rfl hr
theorem cls_x{ox:Obj}{od:Option Obj}{Q:Option Value→Shared→Prop}(X:K.In s.heap)(I:InstAt s.heap x ox C od)(c:XC K C)(h:Q (some (.ref C)) {s with toks:=s.toks+1}):
 wpAny (model prog w) A (getAttr? (.ref x) "__class__") Q E s:=by
 have hf:findObj K C od "__class__"=some (.bind (.builtin "getset_descriptor.__get__") (.builtin "object.__class__")):=by
  obtain ⟨cd,hc,_⟩:=any_some c.hd;unfold findObj;rw[hc,Option.bind_some,c.ca,Option.bind_some];show ((specialIn K (.builtin "object.__class__") "__get__").bind _)=_;rw[c.cg,Option.bind_some];show ((takesIn K (.builtin "object.__class__")).bind _)=_;rw[c.ct];rfl
 unfold getAttr? getAttrBy?;refine wpAny_bind (wpAny_mkText (wpAny_bind (wpAny_attempt (y1z (s:={s with toks:=s.toks+1}) X I c hf ?_ (fun q=>by cases q)))));show wpAny _ _ (holding [_] (call (.builtin "getset_descriptor.__get__") [.builtin "object.__class__",.ref x,.ref C]) >>= ret) _ _ _;refine wpAny_bind (wpAny_holding (wpAny_call (class_get (s:={s with toks:=s.toks+1}) X I (c.mro (by decide)) (wpAny_pure ⟨_,rfl,?_⟩))));exact handed_on rfl (wpAny_pure h)
theorem kitx_x{ox:Obj}{od:Option Obj}(c:XC K C):KitX K (.ref x) (.ref C) (fun h=>InstAt h x ox C od)where
 ty:=fun _ _ _ I=>I.type
 it:=fun _ _ X _=>by
  obtain ⟨cdD,hcD,_⟩:=any_some c.hd;unfold clsIn at hcD;split at hcD
  ·rename_i c' d' cd' sl' ho;intro A' Q' E' s' k q;unfold isType loadHead;exact wpAny_bind (wpAny_loadPart (k _ _ (X _ _ ho)) (wpAny_pure q))
  ·cases hcD
 ne:=fun h tp dd its n sl X htp=>by
  obtain ⟨cdD,hcD,_⟩:=any_some c.hd;refine Bool.eq_false_iff.mpr fun q=>?_
  have e:C=tp:=Value.ref.inj (beq_iff_eq.mp q);subst e;unfold clsIn at hcD;split at hcD
  ·rename_i c' d' cd' sl' ho;have z:=(X _ _ ho).symm.trans htp;cases z
  ·cases hcD
 ca:=fun X I k=>cls_x X I c k
end
end PySem.W
namespace L2
open PySem PySem.Spec PyProof.Rows
open PySem.W (XC)
noncomputable def XO(fr:Bool)(x C:Addr)(od:Option Addr):HO:=.ext fun h=>∃o vs,h.get? x=some o∧o.cls=.ref C∧o.dict=od∧o.data=.fields vs∧(fr=true→o.slots=#[]∧vs[1]?=some .none)
noncomputable def XD(dx:Addr)(fs:List (Str×V)):HO:=.ext fun h=>∃mA,h.Ns1 dx mA∧(∀f,RelO (fs.lookup f) (mA f))∧PySem.Within mA (fs.map (·.1))
theorem XO.ok{P:Program}{w:World}{H:Hp}{h:Heap}{fr:Bool}{x C:Addr}{od:Option Addr}(hx:∃o vs,h.get? x=some o∧o.cls=.ref C∧o.dict=od∧o.data=.fields vs∧(fr=true→o.slots=#[]∧vs[1]?=some .none)):ObjOk P w H h x (XO fr x C od):=by
 refine ⟨hx,?_,fun h1 h2 q k=>?_⟩
 ·obtain ⟨o,_,e,_⟩:=hx;exact ⟨o,e⟩
 ·obtain ⟨o,vs,e,r⟩:=q;exact ⟨o,vs,k o e,r⟩
theorem XD.ok{P:Program}{w:World}{H:Hp}{h:Heap}{dx:Addr}{fs:List (Str×V)}(hx:∃mA,h.Ns1 dx mA∧(∀f,RelO (fs.lookup f) (mA f))∧PySem.Within mA (fs.map (·.1))):ObjOk P w H h dx (XD dx fs):=by
 refine ⟨hx,?_,fun h1 h2 q k=>?_⟩
 ·obtain ⟨mA,⟨o,es,ep,e,_⟩,_⟩:=hx;exact ⟨o,e⟩
 ·obtain ⟨mA,⟨o,es,ep,e,r⟩,z⟩:=q;exact ⟨mA,⟨o,es,ep,k o e,r⟩,z⟩
theorem ObjOk.there{P:Program}{w:World}{H:Hp}{h:Heap}{a:Addr}{o:HO}(x:ObjOk P w H h a o):∃u,h.get? a=some u:=by
 cases o with
 |lst xs=>obtain ⟨_,_,_,_,e⟩:=x;exact ⟨_,e⟩
 |tup xs=>obtain ⟨_,_,_,o,e,_⟩:=x;exact ⟨_,e⟩
 |dK kvs=>obtain ⟨_,_,_,_,o,_,_,e,_⟩:=x;exact ⟨_,e⟩
 |dT kvs=>obtain ⟨_,_,_,_,o,_,_,e,_⟩:=x;exact ⟨_,e⟩
 |set S n=>obtain ⟨o,_,_,_,e,_⟩:=x;exact ⟨_,e⟩
 |ins C dx fs=>obtain ⟨_,_,_,e,_⟩:=x;exact ⟨_,e⟩
 |own y=>obtain ⟨_,e⟩:=x;exact ⟨_,e⟩
 |xd fs=>obtain ⟨_,⟨_,_,_,e,_⟩,_⟩:=x;exact ⟨_,e⟩
 |rng lo hi=>obtain ⟨_,_,_,e⟩:=x;exact ⟨_,e⟩
 |frz ob u=>obtain ⟨e,_⟩:=x;exact ⟨_,e⟩
 |tbl ps=>exact ⟨_,(show h.get? a=some _ from x)⟩
 |met f y=>exact ⟨_,(show h.get? a=some _ from x)⟩
 |ext φ=>obtain ⟨_,⟨_,e⟩,_⟩:=x;exact ⟨_,e⟩
theorem HOk.free{P:Program}{w:World}{H:Hp}{h:Heap}{a:Addr}(x:HOk P w H h)(e:h.get? a=none):H a=none:=by
 cases q:H a with
 |none=>rfl
 |some u=>
  obtain ⟨o,z⟩:=(x a u q).there;rw[e]at z;cases z
theorem Inv.laidN{X:Cx}{pins:List (Addr×Obj)}{σ:St}{H:Hp}{s:Shared}{h':Heap}{a:Addr}{o:HO}{t':Nat}(I:Inv X pins σ H s)(k:∀b u,s.heap.get? b=some u→h'.get? b=some u)(hp:s.heap.get? a=none)(new:ObjOk X.prog X.w (upd H a o) h' a o):
 Inv X pins σ (upd H a o) {s with heap:=h',toks:=t'}:=by
 have hn:=I.hok.free hp;have nb:∀b u,s.heap.get? b=some u→b≠a:=fun b u q z=>by rw[z,hp]at q;cases q
 refine I.un (t':=t') ⟨fun b u q _ _ _=>k b u q,fun b u q _ _ _=>⟨u.slots,k b u q⟩,fun b u q n _=>by rw[o0 (nb b u q)];exact n,fun b u q _=>⟨u,k b u q⟩,fun b xs q=>by rw[o0 (l0 q hn)];exact q,
  fun b u xs q=>by rw[o0 (l0 q hn)];exact q,fun b ps q=>⟨#[],by rw[o0 (l0 q hn),q];simp⟩⟩ fun b u e=>?_
 by_cases hb:b=a
 ·subst hb;rw[x3]at e;cases e;exact new
 ·rw[o0 hb]at e;exact (I.hok b u e).stay (fun c v _ q=>k c v q) (fun c q=>by rw[o0 (l0 q hn)];exact q) fun c xs q=>by rw[o0 (l0 q hn)];exact q
theorem XO.get{P:Program}{w:World}{H:Hp}{h:Heap}{fr:Bool}{x C:Addr}{od:Option Addr}(hok:HOk P w H h)(e:H x=some (XO fr x C od)):
 ∃o vs,h.get? x=some o∧o.cls=.ref C∧o.dict=od∧o.data=.fields vs∧(fr=true→o.slots=#[]∧vs[1]?=some .none):=(show ObjOk P w H h x (XO fr x C od)from hok x _ e).1
theorem XD.get{P:Program}{w:World}{H:Hp}{h:Heap}{dx:Addr}{fs:List (Str×V)}(hok:HOk P w H h)(e:H dx=some (XD dx fs)):
 ∃mA,h.Ns1 dx mA∧(∀f,RelO (fs.lookup f) (mA f))∧PySem.Within mA (fs.map (·.1)):=(show ObjOk P w H h dx (XD dx fs)from hok dx _ e).1
section
variable{X:Cx}{pins:List (Addr×Obj)}{σ:St}{H:Hp}{s:Shared}{x C dx:Addr}{fs:List (Str×V)}{f:Str}{v:V}{A:Around}{E:Value→Shared→Prop}
theorem xset0{y:V}{u:Value}{Q:Unit→Shared→Prop}(I:Inv X pins σ H s)(e:H x=some (XO true x C none))(c:XC X.K C)(n:NoAttr X.K C f)(ry:RelV y u)
 (h:∀d s',H d=none→d≠x→Inv X pins σ (upd (upd H d (XD d [(f,y)])) x (XO true x C (some d))) s'→Q () s'):wpAny (model X.prog X.w) A (setAttr (.ref x) f u) Q E s:=by
 obtain ⟨o,vs,hx,h1,h2,h3,h40⟩:=XO.get I.hok e;obtain ⟨h4,h5⟩:=h40 rfl;clear h40;obtain ⟨oc,od,odt,osl⟩:=o;dsimp only at h1 h2 h3 h4;subst h1 h2 h3 h4;have hxs:x≠s.heap.objs.size:=Nat.ne_of_lt (Heap.lt_size hx);refine PySem.W.set_x0 I.kIn c hx n.taker fun h' e1 e2 e3=>h s.heap.objs.size _ (I.hok.fresh (Nat.le_refl _)) hxs.symm ?_
 have mu:Mut (H x):=by rw[e];exact True.intro
 have keep:∀b o,b≠x→s.heap.get? b=some o→h'.get? b=some o:=e3;have hx':∃o vs,h'.get? x=some o∧o.cls=.ref C∧o.dict=some s.heap.objs.size∧o.data=.fields vs∧(true=true→o.slots=#[]∧vs[1]?=some .none):=⟨_,vs,e1,rfl,rfl,rfl,fun _=>⟨rfl,h5⟩⟩;have hfree:H s.heap.objs.size=none:=I.hok.fresh (Nat.le_refl _);have neF:∀b o,s.heap.get? b=some o→b≠s.heap.objs.size:=fun b o q=>Nat.ne_of_lt (Heap.lt_size q)
 have neT:∀b u,H b=some u→b≠s.heap.objs.size:=fun b u q z=>by rw[z,hfree]at q;cases q
 have nx:∀b,H b=none→b≠x:=fun b q z=>by rw[z,e]at q;cases q
 have tr:∀b u,H b=some u→b≠x→(upd (upd H s.heap.objs.size (XD s.heap.objs.size [(f,y)])) x (XO true x C (some s.heap.objs.size))) b=some u:=fun b u q z=>by rw[o0 z,o0 (neT b u q)];exact q
 refine I.un (t':=s.toks+2) ⟨fun b o q q2 _ _=>keep b o (nx b q2) q,fun b o q q2 _ _=>⟨o.slots,keep b o (nx b q2) q⟩,fun b o q q2 _=>?_,fun b o q _=>?_,fun b xs q=>?_,fun b o u q=>?_,fun b ps q=>⟨#[],?_⟩⟩ ?_
 ·rw[o0 (nx b q2),o0 (neF b o q)];exact q2
 ·by_cases z:b=x
  ·subst z;exact ⟨_,e1⟩
  ·exact ⟨o,keep b o z q⟩
 ·exact tr b _ q (fun z=>by rw[z,e]at q;cases q)
 ·exact tr b _ q (fun z=>by rw[z,e]at q;cases q)
 ·rw[tr b _ q (fun z=>by rw[z,e]at q;cases q)];simp
 ·intro b u q;by_cases z:b=x
  ·subst z;rw[x3]at q;cases q;exact XO.ok hx'
  ·rw[o0 z]at q;by_cases z2:b=s.heap.objs.size
   ·subst z2;rw[x3]at q;cases q;refine XD.ok ⟨_,e2,fun g=>?_,fun g hg=>?_⟩
    ·have l:=n9 f g y [];rw[show putF f y []=[(f,y)]from rfl]at l;rw[l];by_cases w:g=f
     ·rw[if_pos w,if_pos w];exact ry
     ·rw[if_neg w,if_neg w];exact True.intro
    ·by_cases w:g=f
     ·rw[w];simp
     ·exact absurd (if_neg w) hg
   ·rw[o0 z2]at q;refine (I.hok b u q).stay (fun c' v' hc q'=>keep c' v' ?_ q') (fun b' q'=>tr b' _ q' (fun z=>by rw[z,e]at q';cases q')) (fun b' xs q'=>tr b' _ q' (fun z=>by rw[z,e]at q';cases q'));rcases hc with hc |hc
    ·rw[hc];exact z
    ·exact fun z=>by rw[z,e]at hc;cases hc
theorem xset1{y:V}{u:Value}{Q:Unit→Shared→Prop}(I:Inv X pins σ H s)(e:H x=some (XO true x C (some dx)))(ed:H dx=some (XD dx fs))(ne:dx≠x)(hl:fs.length<1000)(c:XC X.K C)(n:NoAttr X.K C f)(ry:RelV y u)
 (h:∀s',Inv X pins σ (upd H dx (XD dx (putF f y fs))) s'→Q () s'):wpAny (model X.prog X.w) A (setAttr (.ref x) f u) Q E s:=by
 obtain ⟨o,vs,hx,h1,h2,h3,h40⟩:=XO.get I.hok e;obtain ⟨h4,h5⟩:=h40 rfl;clear h40;obtain ⟨oc,od,odt,osl⟩:=o;dsimp only at h1 h2 h3 h4;subst h1 h2 h3 h4;obtain ⟨mA,hn,r,wi⟩:=XD.get I.hok ed;refine PySem.W.set_x1 I.kIn c hx ne hn n.taker wi (by rw[List.length_map,sizeLine_eq];omega) fun h' hn' sb=>h _ ?_
 have hd:∃o,h'.get? dx=some o:=let ⟨o,_,_,e',_⟩:=hn';⟨o,e'⟩
 refine I.write (x:=dx) (e:=dx) (by rw[ed];exact True.intro) (.inl rfl) (fun b q hb z=>(sb.2 b hb).trans z) hd ?_;refine XD.ok ⟨_,hn',fun g=>?_,fun g hg=>?_⟩
 ·show RelO ((putF f y fs).lookup g) (if g=f then some u else mA g);rw[n9];by_cases q:g=f
  ·rw[if_pos q,if_pos q];exact ry
  ·rw[if_neg q,if_neg q];exact r g
 ·by_cases q:g=f
  ·rw[q];exact (z0k f y fs).1
  ·refine (z0k f y fs).2 g (wi g fun z=>hg ?_);show (if g=f then some u else mA g)=none;rw[if_neg q];exact z
theorem XO.inst{fr:Bool}{od:Option Addr}(I:Inv X pins σ H s)(e:H x=some (XO fr x C od))(he:∀d,od=some d→∃o,s.heap.get? d=some o):∃ox odo,PySem.W.InstAt s.heap x ox C odo∧∀d,od=some d→∃o,odo=some o∧s.heap.get? d=some o:=by
 obtain ⟨o,vs,hx,h1,h2,h3,_⟩:=XO.get I.hok e;cases od with
 |none=>exact ⟨o,none,⟨hx,h1,by unfold PySem.W.notCls;rw[h3],by rw[h2];trivial⟩,fun d z=>by cases z⟩
 |some d=>
  obtain ⟨od,hd⟩:=he d rfl;exact ⟨o,some od,⟨hx,h1,by unfold PySem.W.notCls;rw[h3],by rw[h2];exact hd⟩,fun d' z=>by cases z;exact ⟨od,rfl,hd⟩⟩
end
noncomputable def sX0(K:PySem.W.Frag)(ta tv:TE)(f:Str):TS:=fun D σ H=>tv σ H fun y H1=>ta σ H1 fun x H2=>∃a C,x=.ref a∧H2 a=some (XO true a C none)∧XC K C∧NoAttr K C f∧
 ∀d,H2 d=none→d≠a→D.nx σ (upd (upd H2 d (XD d [(f,y)])) a (XO true a C (some d)))
noncomputable def sX1(K:PySem.W.Frag)(ta tv:TE)(f:Str):TS:=fun D σ H=>tv σ H fun y H1=>ta σ H1 fun x H2=>∃a C d fs,x=.ref a∧H2 a=some (XO true a C (some d))∧H2 d=some (XD d fs)∧d≠a∧fs.length<1000∧XC K C∧NoAttr K C f∧
 D.nx σ (upd H2 d (XD d (putF f y fs)))
section
variable{X:Cx}{o e value:Expr}{f:Str}{pos pos' tpos:Pos}{ta tv:TE}
theorem g0a(ha:PE X o ta)(hv:PE X value tv)(hs:swapsWith value (some (.Attribute o f pos')) pos.line X.env=pure false):PS X (.Assign [.Attribute o f pos'] value pos) (sX0 X.K ta tv f):=by
 intro pins s σ H D I h;refine plainObj_wpAny_Assign_Attribute (thn (hv pins s σ H _ I h) fun u s1 ⟨y,H1,I1,ry,q⟩=>thn (ha pins s1 σ H1 _ I1 q) fun ov s2 ⟨x,H2,I2,rx,a,C,ex,ea,c,n,q2⟩=>?_) hs;subst ex;obtain rfl:ov=Value.ref a:=rx;exact xset0 I2 ea c n ry fun d s3 hd hne I3=>⟨σ,_,I3,q2 d hd hne⟩
theorem ps_x1(ha:PE X o ta)(hv:PE X value tv)(hs:swapsWith value (some (.Attribute o f pos')) pos.line X.env=pure false):PS X (.Assign [.Attribute o f pos'] value pos) (sX1 X.K ta tv f):=by
 intro pins s σ H D I h;refine plainObj_wpAny_Assign_Attribute (thn (hv pins s σ H _ I h) fun u s1 ⟨y,H1,I1,ry,q⟩=>thn (ha pins s1 σ H1 _ I1 q) fun ov s2 ⟨x,H2,I2,rx,a,C,d,fs,ex,ea,ed,hne,hl,c,n,q2⟩=>?_) hs;subst ex;obtain rfl:ov=Value.ref a:=rx;exact xset1 I2 ea ed hne hl c n ry fun s3 I3=>⟨σ,_,I3,q2⟩
end
noncomputable def xcIn(K:PySem.W.Frag)(C:Addr):Bool:=match K.lookup C with
 |some ⟨.type "type",_,.cls cd,sl⟩=>(match cd.mro,sl.toList with
  | .ref C'::bm,[_,_,_,_,some (.builtin n),_]=>C'==C&&n=="ValueError.__new__"&&!cd.hasDel&&PySem.W.tailIn K PySem.W.veMro bm
  |_,_=>false)
 |_=>false
theorem a0h{K:PySem.W.Frag}{h:Heap}{C:Addr}(X:K.In h)(q:xcIn K C=true):∃nm qn N bs bm hdct sn sub ab col dd k0 k1 k2 k3 k5,
 h.get? C=some (excClassObj nm qn C N bs bm hdct sn sub ab col dd k0 k1 k2 k3 k5 "ValueError.__new__")∧OwnTail h PySem.W.veMro bm:=by
 unfold xcIn at q;split at q
 ·rename_i dd cd sl ho;split at q
  ·rename_i C' bm k0 k1 k2 k3 n k5 hm hs;simp only[Bool.and_eq_true,beq_iff_eq,Bool.not_eq_true']at q;obtain ⟨⟨⟨rfl,rfl⟩,hdel⟩,ht⟩:=q;obtain ⟨nm,bs,mro,ns,qn,hd,sn,sub,ab,col,del⟩:=cd;dsimp only at hm hdel;subst hm hdel;have hsl:sl=#[k0,k1,k2,k3,some (.builtin "ValueError.__new__"),k5]:=by
    obtain ⟨l⟩:=sl;simp only at hs;rw[hs]
   subst hsl;exact ⟨nm,qn,ns,bs,bm,hd,sn,sub,ab,col,dd,k0,k1,k2,k3,k5,X _ _ ho,PySem.W.tail_of_in X ht⟩
  ·cases q
 ·cases q
structure XMk(K:PySem.W.Frag)(C f:Addr):Prop where
 sh:xcIn K C=true
 init:PySem.W.findIn K (.ref C) "__init__"=some (some (.ref f))
 fn:PySem.W.isFn K (.ref f)=true
 kp:PySem.W.keepIn K (.ref C)=true
section
variable{X:Cx}{CX:CXT}{k:Nat}{f C:Addr}{fd:FuncData}{ps:List Str}{sp:Sp}{E:XK}{x m:Str}{p pos apos:Pos}{e o:Expr}{es:List Expr}{ta:TE}{t:TA}
theorem Inv.madeX{pins:List (Addr×Obj)}{σ:St}{H:Hp}{s:Shared}{us:List Value}(I:Inv X pins σ H s):
 Inv X pins σ (upd H (s.heap.objs.size+1) (XO true (s.heap.objs.size+1) C none)) {s with heap:=(s.heap.push (PySem.W.xTup us)).push (PySem.W.xObj C s.heap.objs.size)}:=by
 have I1:=I.kept (h':=s.heap.push (PySem.W.xTup us)) (t':=s.toks) fun b o e=>Heap.get?_push_of_some _ e
 have e2:((s.heap.push (PySem.W.xTup us)).push (PySem.W.xObj C s.heap.objs.size)).get? (s.heap.objs.size+1)=some (PySem.W.xObj C s.heap.objs.size):=by
  have:=Heap.get?_push_size (s.heap.push (PySem.W.xTup us)) (o:=PySem.W.xObj C s.heap.objs.size) rfl
  rwa[Heap.size_push]at this
 exact I1.laid (a:=s.heap.objs.size+1) (o:=XO true (s.heap.objs.size+1) C none) (t':=s.toks) (fun b u q=>Heap.get?_push_of_some _ q) (Nat.le_of_eq (Heap.size_push _ _)) (XO.ok ⟨_,_,e2,rfl,rfl,rfl,fun _=>⟨rfl,rfl⟩⟩)
theorem n0w{pins:List (Addr×Obj)}{σ:St}{H:Hp}{s:Shared}{Q:VK}{us:List Value}{vs:List V}(M:XMk X.K C f)(F:FnOk X.prog X.w X.K X.mg X.base CX k f fd ps sp)(hr:Room (k+1) X.A)(hb:Binds X.K fd ps [])
 (hx:a0k CX X E) (I:Inv X pins σ H s) (r:Vals vs us) (hz:vs.length≤sizeLine)
 (hq:sp (.ref (s.heap.objs.size+1)::vs) (upd H (s.heap.objs.size+1) (XO true (s.heap.objs.size+1) C none)) (fun v H2=>v=.non∧Q (.ref (s.heap.objs.size+1)) H2) E):
 wpAny (model X.prog X.w) X.A (call (.ref C) us) (fun u s'=>u=.ref (s.heap.objs.size+1)∧EP X pins σ Q u s') X.xe s:=by
 have I2:=Inv.madeX (C:=C) (us:=us) I;have r2:Vals (V.ref (s.heap.objs.size+1)::vs) (Value.ref (s.heap.objs.size+1)::us):=.cons rfl r;have hl:(Value.ref (s.heap.objs.size+1)::us++[]).length=ps.length:=by
  have e:=r2.length;rw[F.len _ _ _ _ hq]at e;rw[List.append_nil];exact e.symm
 obtain ⟨nm,qn,N,bs,bm,hdct,sn,sub,ab,col,dd,k0,k1,k2,k3,k5,hC,hT⟩:=a0h I.kIn M.sh;have hbd:=hb _ (Value.ref (s.heap.objs.size+1)::us) I2.kIn hl;rw[List.append_nil]at hbd;have hrun:=F.run _ X.stack _ _ ⟨Value.ref (s.heap.objs.size+1)::us,[]⟩ (Value.ref (s.heap.objs.size+1)::us) _ _ E (hr.make C us []) (I2.env0.make C us []) hbd r2 hq;obtain ⟨hh,g,d,tk,os⟩:=s;refine wpAny_call (PySem.W.type_call_x PySem.F.excBase_ValueError hT hC (PySem.W.looks_findIn I.kIn M.init) (fun self=>PySem.W.bind_fn I.kIn self (beq_iff_eq.mp M.fn)) (codeAny_mono hrun fun r s' hq'=>?_) (by rw[←r.length];exact hz));cases r with
 |error e=>exact hx pins σ _ _ e s' I2 hq'
 |ok fl=>
  cases fl with
  |ret u=>
   obtain ⟨v,H',I3,rv,ev,q3⟩:=I2.after hq';subst ev;exact ⟨rv,rfl,⟨V.ref (hh.objs.size+1),H',I3,rfl,q3⟩⟩
  |next=>exact False.elim hq'
  |brk=>exact False.elim hq'
  |cont=>exact False.elim hq'
structure XMk0(K:PySem.W.Frag)(C:Addr):Prop where
 ex:PySem.W.excIn K C PySem.W.veMro "ValueError.__new__"=true
 kp:PySem.W.keepIn K (.ref C)=true
theorem c0l{pins:List (Addr×Obj)}{σ:St}{H:Hp}{s:Shared}{Q:VK}{A:Around}{E:Value→Shared→Prop}(M:XMk0 X.K C)(I:Inv X pins σ H s)(h:Q (.ref (s.heap.objs.size+1)) (upd H (s.heap.objs.size+1) (XO true (s.heap.objs.size+1) C none))):
 wpAny (model X.prog X.w) A (call (.ref C) []) (EP X pins σ Q) E s:=by
 have q:=M.ex;unfold PySem.W.excIn at q;split at q
 ·rename_i dd cd sl ho;split at q
  ·rename_i C' bm k0 k1 k2 k3 n k5 hm hs;simp only[Bool.and_eq_true,beq_iff_eq,Bool.not_eq_true']at q;obtain ⟨⟨⟨⟨⟨rfl,rfl⟩,hdel⟩,ht⟩,hok⟩,hni⟩:=q;obtain ⟨nm,bs,mro,ns,qn,hd,sn,sub,ab,col,del⟩:=cd;dsimp only at hm hdel hok hni;subst hm hdel;have hsl:sl=#[k0,k1,k2,k3,some (.builtin "ValueError.__new__"),k5]:=by
    obtain ⟨l⟩:=sl;simp only at hs;rw[hs]
   subst hsl;obtain ⟨hh,g,d,tk,os⟩:=s;refine PySem.W.type_call_x0 PySem.F.excBase_ValueError (PySem.W.tail_of_in I.kIn ht) (I.kIn _ _ ho) (Heap.Ns.of_isNs (PySem.W.isNs_of_in I.kIn hok)) (PySem.W.nsMap_none_of_in I.kIn hok hni) (fun h' t2 kp hx=>?_);exact ⟨.ref (hh.objs.size+1),_,I.laidN (a:=hh.objs.size+1) (o:=XO true (hh.objs.size+1) C' none) (t':=tk) kp (Heap.get?_none_of_le (Nat.le_succ _)) (XO.ok ⟨_,_,hx,rfl,rfl,rfl,fun _=>⟨rfl,rfl⟩⟩),rfl,h⟩
  ·cases q
 ·cases q
end
end L2
namespace L2
open PySem PySem.Spec PyProof.Rows
open PySem.W (XC)
inductive TyX(K:PySem.W.Frag)(H:Hp):V→Value→Prop where
 |of {x:V} {t:Value} (h:TyOf K H x t):TyX K H x t
 |exc {fr:Bool} {a C d:Addr} {fs:List (Str×V)} (e:H a=some (XO fr a C (some d))) (ed:H d=some (XD d fs)) (c:XC K C):TyX K H (.ref a) (.ref C)
 |exc0 {fr:Bool} {a C:Addr} (e:H a=some (XO fr a C none)) (c:XC K C):TyX K H (.ref a) (.ref C)
section
variable{X:Cx}
noncomputable def InstB(K:PySem.W.Frag)(H:Hp)(t:Value)(c:V)(b:Bool):Prop:=
 (∃n,c=.ty n∧PySem.W.kitOne K t (.type n)=some b)∨(∃C,c=.ref C∧PySem.W.kitOne K t (.ref C)=some b)∨∃(a:Addr) (cs:List String),c=.ref a∧H a=some (.tup (cs.map V.ty))∧PySem.W.kitAny K t (cs.map Value.type)=some b
noncomputable def rInst(K:PySem.W.Frag):List V→Hp→VK→Prop:=fun vs H Q=>∃x c t b,vs=[x,c]∧TyX K H x t∧InstB K H t c b∧Q (.bl b) H
theorem a0g:∀{cs:List String} {us:List Value},Vals (cs.map V.ty) us→us=cs.map Value.type
 | [],_,.nil=>rfl
 |c::cs,_,.cons r t=>by
  have e:_=Value.type c:=r;rw[e,a0g t];rfl
theorem z5{pins:List (Addr×Obj)}{s:Shared}{σ:St}{H:Hp}{Q:VK}{c:V}{u cv t:Value}{b:Bool}{HH:Heap→Prop}(I:Inv X pins σ H s)(Z:PySem.W.KitX X.K u t HH)(p:HH s.heap)(rc:RelV c cv)(e:InstB X.K H t c b)
 (hx:u≠.builtin "__main__.__loader__#opaque") (q:Q (.bl b) H):wpAny (model X.prog X.w) X.A (call (.builtin "isinstance") [u,cv]) (EP X pins σ Q) X.xe s:=by
 have fin:∀tk,EP X pins σ Q (.bool b) {s with toks:=tk}:=fun tk=>⟨.bl b,H,I.tok tk,rfl,q⟩
 rcases e with ⟨n,rfl,e⟩|⟨C,rfl,e⟩|⟨a,cs,rfl,ha,e⟩
 ·cases rc;exact PySem.W.kia_one Z I.kIn p e hx fin
 ·cases rc;exact PySem.W.kia_one Z I.kIn p e hx fin
 ·cases rc;obtain ⟨z,its,r,o,ho,hc,⟨n,hd⟩,_⟩:=(show ObjOk X.prog X.w H s.heap a (.tup (cs.map V.ty))from I.hok a _ ha);obtain rfl:=a0g r;obtain ⟨oc,od,odt,osl⟩:=o;dsimp only at hc hd;subst hc hd;exact PySem.W.kia_tup Z I.kIn p ho e hx fin
theorem x0b:y0c X (.builtin "isinstance") (rInst X.K):=by
 intro pins s σ H xs us Q I rv h;obtain ⟨x,c,t,b,rfl,ty,e,q⟩:=h;obtain ⟨u,cv,rfl,rx,rc⟩:=Vals.two rv;cases ty with
 |exc ea ed c=>
  rename_i fr a C d fs;cases (show u=Value.ref a from rx);obtain ⟨mA,hn,_,_⟩:=XD.get I.hok ed;obtain ⟨od,hod,_⟩:=lookIn_ns hn;obtain ⟨ox,odo,J,k⟩:=XO.inst I ea fun d z=>by cases z;exact ⟨od,hod⟩
  exact z5 I (PySem.W.kitx_x c) J rc e (fun z=>nomatch z) q
 |exc0 ea c=>
  rename_i fr a C;cases (show u=Value.ref a from rx);obtain ⟨ox,odo,J,k⟩:=XO.inst I ea fun d z=>by cases z
  exact z5 I (PySem.W.kitx_x c) J rc e (fun z=>nomatch z) q
 |of ty=>
  cases ty with
  |non=>cases (show u=Value.none from rx);exact z5 I PySem.W.kitx_none True.intro rc e (fun z=>nomatch z) q
  |bl y=>cases (show u=Value.bool y from rx);exact z5 I PySem.W.kitx_bool True.intro rc e (fun z=>nomatch z) q
  |int i=>obtain ⟨t,z⟩:=(show ∃t,u=Value.int i t from rx);cases z;exact z5 I PySem.W.kitx_int True.intro rc e (fun z=>nomatch z) q
  |str y=>obtain ⟨t,z⟩:=(show ∃t,u=Value.str y t from rx);cases z;exact z5 I PySem.W.kitx_str True.intro rc e (fun z=>nomatch z) q
  |flt y=>obtain ⟨t,z⟩:=(show ∃t,u=Value.float y t from rx);cases z;exact z5 I PySem.W.kitx_float True.intro rc e (fun z=>nomatch z) q
  | @lst a xs ea=>
   cases (show u=Value.ref a from rx);obtain ⟨_,_,n,_,h1⟩:=(show ObjOk X.prog X.w H s.heap a (.lst xs)from I.hok a _ ea);exact z5 I PySem.W.kitx_list ⟨_,h1,rfl⟩ rc e (fun z=>nomatch z) q
  | @frz a ob xs ea=>
   cases (show u=Value.ref a from rx);obtain ⟨_,_,_,n,_,h1⟩:=(show ObjOk X.prog X.w H s.heap a (.frz ob (.lst xs))from I.hok a _ ea);exact z5 I PySem.W.kitx_list ⟨_,h1,rfl⟩ rc e (fun z=>nomatch z) q
  | @tup a xs ea=>
   cases (show u=Value.ref a from rx);obtain ⟨_,_,_,p⟩:=(show ObjOk X.prog X.w H s.heap a (.tup xs)from I.hok a _ ea);obtain ⟨o,h1,h2,_⟩:=p;exact z5 I PySem.W.kitx_tuple ⟨o,h1,h2⟩ rc e (fun z=>nomatch z) q
  | @dK a kvs ea=>
   cases (show u=Value.ref a from rx);obtain ⟨_,_,vs,_,p⟩:=(show ObjOk X.prog X.w H s.heap a (.dK kvs)from I.hok a _ ea);obtain ⟨o,es,ep,h1,h2,_⟩:=p;exact z5 I PySem.W.kitx_dict ⟨o,h1,h2.1⟩ rc e (fun z=>nomatch z) q
  | @dT a kvs ea=>
   cases (show u=Value.ref a from rx);obtain ⟨_,_,xs,_,o,es,ep,h1,h2,_⟩:=(show ObjOk X.prog X.w H s.heap a (.dT kvs)from I.hok a _ ea);exact z5 I PySem.W.kitx_dict ⟨o,h1,h2.1⟩ rc e (fun z=>nomatch z) q
  | @ins a C dx fs ea cl ha hn htk hm=>
   cases (show u=Value.ref a from rx);obtain ⟨mA,O,_⟩:=l0m I.hok ea;obtain ⟨od,J,_⟩:=O.look;exact z5 I (PySem.W.kitx_own (cl.get _) cl.hd ha hn htk hm) J rc e (fun z=>nomatch z) q
noncomputable def rAll(K:PySem.W.Frag):List V→Hp→VK→Prop:=fun vs H Q=>∃(a:Addr) (bs:List Bool),vs=[.ref a]∧SqL K H a (bs.map V.bl)∧Q (.bl (bs.all id)) H
theorem j0c:∀{bs:List Bool} {us:List Value},Vals (bs.map V.bl) us→PyProof.Rows.LSm.BoolsAre us bs
 | [],_,.nil=>.nil
 |b::bs,_,.cons r t=>by
  have e:_=Value.bool b:=r;subst e;exact .cons b (j0c t)
theorem x0a(hc:X.calm=true):y0c X (.builtin "all") (rAll X.K):=by
 intro pins s σ H xs us Q I rv h;obtain ⟨a,bs,rfl,hq,q⟩:=h;obtain ⟨u,rfl,ru⟩:=rv.one;cases (show u=Value.ref a from ru);obtain ⟨its,r,p,hz⟩:=I.list hq;have hl:=p.isList;have hb:=j0c r;have hlt:a<s.heap.objs.size:=by obtain ⟨_,e,_⟩:=hl;exact Heap.lt_size e
 refine call_all_walk (wpAny_pyIter_list hl ?_);refine ⟨s.heap.objs.size,[s.heap.objs.size,a],[s.heap.objs.size],its.toArray.size,_,_,fun i=>(bs[i]?).getD true,rfl,Walks.list (A:=X.A.in1) (I.ok.hd hc) _ a (Nat.ne_of_lt hlt) its.toArray,
  ⟨⟨_,Heap.get?_push_size _ rfl,rfl,rfl⟩,hl.push _⟩,fun i v s' Q' E' hP hQ=>?_,fun h' tk hk=>?_⟩
 ·obtain ⟨b,e,rfl⟩:=hb.get i v (by simpa using hP);simp only[e,Option.getD_some]at hQ;exact wpAny_truthy_bool hQ
 ·have e:((List.range its.toArray.size).all fun i=>(bs[i]?).getD true)=bs.all id:=by
   rw[List.size_toArray,hb.length];exact PyProof.Rows.LSm.range_all bs
  rw[e];exact ⟨.bl _,H,I.kept (PyProof.Rows.LSm.kept_iter hk),rfl,q⟩
end
end L2
namespace L2
open PySem PySem.Spec PyProof.Rows
theorem p0z{scope:Scope}{env:Env}(h:∀p∈scope.names,p.2=.free→∃c,env.cells.lookup p.1=some c):
 ∃cl,closureFor scope env=pure cl∧(∀y c,cl.lookup y=some c→env.cells.lookup y=some c)∧∀y,(y,NameKind.free)∈scope.names→∃c,cl.lookup y=some c:=by
 have key:∀(names:List (Str×NameKind)) (cs:List (Str×Addr)),(∀p∈names,p.2=.free→∃c,env.cells.lookup p.1=some c)→(∀y c,cs.lookup y=some c→env.cells.lookup y=some c)→
  ∃cl,(forIn names cs (fun (p:Str×NameKind) (r:List (Str×Addr))=>match p with |(name,kind)=>if (kind==NameKind.free)=true then cellOf env name >>= fun c=>pure (ForInStep.yield ((name,c)::r))else pure (ForInStep.yield r)):Sem (List (Str×Addr)))=pure cl∧
   (∀y c,cl.lookup y=some c→env.cells.lookup y=some c)∧(∀y,(y,NameKind.free)∈names→∃c,cl.lookup y=some c)∧∀y c,cs.lookup y=some c→∃c',cl.lookup y=some c':=by
  intro names
  induction names with
  |nil=>intro cs _ hc;exact ⟨cs,rfl,hc,(fun y hy=>by cases hy),fun y c e=>⟨c,e⟩⟩
  |cons p r ih=>
   intro cs hp hc;obtain ⟨pn,pk⟩:=p;rw[List.forIn_cons];dsimp only;by_cases hk:pk=.free
   ·obtain ⟨c,e⟩:=hp (pn,pk) List.mem_cons_self hk;have hco:cellOf env pn=pure c:=by
     unfold cellOf;dsimp only at e;rw[e]
    have hb:(pk==NameKind.free)=true:=by rw[hk];rfl
    obtain ⟨cl,h1,h2,h3,h4⟩:=ih ((pn,c)::cs) (fun q hq=>hp q (List.mem_cons_of_mem _ hq)) (fun y c' e'=>by
     rw[List.lookup_cons]at e';split at e'
     ·rename_i z;have:y=pn:=beq_iff_eq.mp z;subst this;cases e';exact e
     ·exact hc y c' e')
    refine ⟨cl,?_,h2,fun y hy=>?_,fun y c' e'=>?_⟩
    ·rw[if_pos hb,hco,pure_bind,pure_bind];exact h1
    ·rcases List.mem_cons.mp hy with z |z
     ·have:y=pn:=congrArg Prod.fst z;subst this;exact h4 _ c (by rw[List.lookup_cons];simp)
     ·exact h3 y z
    ·by_cases z:y=pn
     ·subst z;exact h4 _ c (by rw[List.lookup_cons];simp)
     ·exact h4 y c' (by rw[List.lookup_cons,beq_eq_false_iff_ne.mpr z];exact e')
   ·have hb:¬(pk==NameKind.free)=true:=by simpa using hk
    obtain ⟨cl,h1,h2,h3,h4⟩:=ih cs (fun q hq=>hp q (List.mem_cons_of_mem _ hq)) hc;refine ⟨cl,?_,h2,fun y hy=>?_,h4⟩
    ·rw[if_neg hb,pure_bind];exact h1
    ·rcases List.mem_cons.mp hy with z |z
     ·exact absurd (congrArg Prod.snd z).symm hk
     ·exact h3 y z
 obtain ⟨cl,h1,h2,h3,_⟩:=key scope.names [] h (fun y c e=>by cases e);refine ⟨cl,?_,h2,h3⟩;unfold closureFor;exact (bind_pure _).trans h1
theorem z0g{env:Env}:∀{names:List (Str×NameKind)} {x:Str} {k:NameKind},(names.map fun (n,k)=>if (k==NameKind.free&&env.scope.kind== .function&&env.kindOf n==some .cell)then (n,NameKind.cell)else (n,k)).lookup x=some k→
 k=.cell∨k=.free→(∀y∈names,y.2≠.cell)→(x,NameKind.free)∈names
 | [],_,_,h,_,_=>by simp at h
 |(n,k0)::r,x,k,h,hk,hc=>by
  have h:List.lookup x ((if (k0==NameKind.free&&env.scope.kind== .function&&env.kindOf n==some .cell)=true then (n,NameKind.cell)else (n,k0))::(r.map fun (n,k)=>if (k==NameKind.free&&env.scope.kind== .function&&env.kindOf n==some .cell)then (n,NameKind.cell)else (n,k)))=some k:=h;by_cases hx:x=n
  ·subst hx;by_cases hcnd:(k0==NameKind.free&&env.scope.kind== .function&&env.kindOf x==some .cell)=true
   ·have:k0=.free:=by
     rw[Bool.and_eq_true,Bool.and_eq_true]at hcnd;exact beq_iff_eq.mp hcnd.1.1
    rw[this];exact List.mem_cons_self
   ·rw[if_neg hcnd,List.lookup_cons,beq_self_eq_true]at h;have e:k0=k:=Option.some.inj h;subst e;rcases hk with e |e
    ·exact absurd e (hc (x,k0) List.mem_cons_self)
    ·rw[e];exact List.mem_cons_self
  ·refine List.mem_cons_of_mem _ (z0g (env:=env) (k:=k) ?_ hk fun y hy=>hc y (List.mem_cons_of_mem _ hy));have hb:(x==n)=false:=beq_eq_false_iff_ne.mpr hx;by_cases hcnd:(k0==NameKind.free&&env.scope.kind== .function&&env.kindOf n==some .cell)=true
   ·rw[if_pos hcnd,List.lookup_cons,hb]at h;exact h
   ·rw[if_neg hcnd,List.lookup_cons,hb]at h;exact h
structure CompOk(X:Cx)(x:Str)(js:List Nat)(scope:Scope):Prop where
 kind:scope.kind=.function
 cell:∀y∈scope.names,y.2≠.cell
 loc:∀y∈scope.names,y.2=.local→scope.names.lookup y.1=some .local
 xl:scope.names.lookup x=some .local
 free:∀y∈scope.names,y.2=.free→X.env.kindOf y.1=some .cell∨X.env.kindOf y.1=some .free
 caps:∀j∈js,scope.names.lookup (X.N.getD j x)=some .free
 nd:(x::js.map (fun j=>X.N.getD j x)).Nodup
section
variable{X:Cx}{pins:List (Addr×Obj)}{σ:St}{H:Hp}{s:Shared}
theorem n0v{scope:Scope}{env:Env}{y:Str}(h:scope.names.lookup y=some .free):(relabel scope env).names.lookup y=some .cell∨(relabel scope env).names.lookup y=some .free:=by
 unfold relabel;generalize scope.names=names at h;dsimp only
 induction names with
 |nil=>cases h
 |cons p r ih=>
  obtain ⟨n,k⟩:=p;rw[List.map_cons];dsimp only;by_cases hx:y=n
  ·subst hx;rw[List.lookup_cons,beq_self_eq_true]at h;have e:k=.free:=Option.some.inj h;subst e;by_cases hc:(NameKind.free==NameKind.free&&env.scope.kind== .function&&env.kindOf y==some .cell)=true
   ·rw[if_pos hc,List.lookup_cons,beq_self_eq_true];exact .inl rfl
   ·rw[if_neg hc,List.lookup_cons,beq_self_eq_true];exact .inr rfl
  ·have hb:(y==n)=false:=beq_eq_false_iff_ne.mpr hx;rw[List.lookup_cons,hb]at h;by_cases hc:(k==NameKind.free&&env.scope.kind== .function&&env.kindOf n==some .cell)=true
   ·rw[if_pos hc,List.lookup_cons,hb];exact ih h
   ·rw[if_neg hc,List.lookup_cons,hb];exact ih h
end
end L2
namespace L2
open PySem PySem.Spec PyProof.Rows
structure Loose(X:Cx)(pins:List (Addr×Obj))(H:Hp)(C:Addr):Prop where
 free:H C=none
 ne:C≠X.env.locals
 yng:X.s₀.heap.objs.size≤C
 cell:∀x c,X.env.cells.lookup x=some c→c≠C
 pin:∀p∈X.pn++pins,p.1≠C
section
variable{X:Cx}
end
end L2
namespace L2
open PySem PySem.Spec PyProof.Rows
open PySem.W (XC)
noncomputable def Fly(h:Heap)(x C:Addr)(od T:Option Addr):Prop:=∃o vs,h.get? x=some o∧o.cls=.ref C∧o.dict=od∧o.data=.fields vs∧1<vs.size∧
 match T with
 |none=>vs[1]?=some .none
 |some t=>vs[1]?=some (.ref t)∧t≠x∧∃ot ts,h.get? t=some ot∧ot.data=.fields ts∧3<ts.size
theorem q0l(o:Obj)(f):(o.mapFields f).dict=o.dict:=by
 obtain ⟨c,d,dt,sl⟩:=o;cases dt<;>rfl
section
variable{M:Model}{A:Around}{E:Value→Shared→Prop}{s:Shared}
theorem c0k{base:Heap}{env:Env}{outer:List Env}{L x:Addr}{oe:Obj}{vs:Array Value}{head:Value}{hadNext:Bool}{Q:Unit→Shared→Prop}
 (hfr:A.frames=some (env::outer)) (hl:s.heap.FunFrames base (env::outer)) (hf:env.frame=some L) (he:s.heap.get? x=some oe) (hd:oe.data=.fields vs) (hsz:1<vs.size)
 (h:∀h' T,(∀b o,b≠x→b∉frs (env::outer)→s.heap.get? b=some o→h'.get? b=some o)→(∀b o,s.heap.get? b=some o→b≠x→∃sl,h'.get? b=some {o with slots:=sl})→
  h'.get? x=some (oe.mapFields (·.setIfInBounds 1 (.ref T)))→s.heap.objs.size≤T→(∃ot ts,h'.get? T=some ot∧ot.data=.fields ts∧3<ts.size)→Q () {s with heap:=h'}):
 wpAny M A (do let a←frameOf env;let pl←entryPlaceOf L hadNext;let b←EntryCells.newEntry head a .none (rawInt L) .none pl;setField (.ref x) 1 b) Q E s:=by
 have hene:x∉(env::outer).filterMap (·.frame):=fun hm=>by
  obtain ⟨_,o,ho,hnf⟩:=hl.mem hm;rw[he]at ho;injection ho with ho
  subst ho;exact hnf vs hd
 refine wpAny_bind (wpAny_frameOf_fun hfr hl hf fun h₁ hs₁=>?_);refine wpAny_bind (wpAny_entryPlaceOf fun pl hpl=>?_);unfold EntryCells.newEntry newFields;refine wpAny_bind (wpAny_newObj_type ?_ (hpl.sizeOk5 _ _ _ _ _));have he₁:h₁.get? x=some oe:=(hs₁.2.1 x hene).trans he;generalize hO:({cls:=.type "traceback",dict:=none,data:=.fields ([head,.ref L,.none,rawInt L,.none]++(if pl.isEmpty then List.replicate 6 Value.none else pl)).toArray}:Obj)=ot;have hod:ot.data=.fields ([head,.ref L,.none,rawInt L,.none]++(if pl.isEmpty then List.replicate 6 Value.none else pl)).toArray:=by rw[←hO]
 have he₂:=Heap.get?_push_of_some (h:=h₁) ot he₁;refine wpAny_setField he₂ hd hsz ?_;have hTe:h₁.objs.size≠x:=Nat.ne_of_gt (Heap.lt_size he₁);have hd₃:=Obj.data_mapFields hd (·.setIfInBounds 1 (Value.ref h₁.objs.size));have hfree:ot.isFreed=false:=Obj.isFreed_of_fields hod;refine h _ h₁.objs.size (fun b o hbe hbf hb=>?_) (fun b o hb hbe=>?_) (Heap.get?_update_self _ he₂ (Obj.isFreed_of_fields hd₃)) (by rw[hs₁.1];exact Nat.le_refl _) ⟨ot,_,?_,hod,?_⟩
 ·rw[Heap.get?_update_other _ _ (Ne.symm hbe)];exact Heap.get?_push_of_some _ ((hs₁.2.1 b hbf).trans hb)
 ·obtain ⟨sl,e⟩:=hs₁.2.2 b o hb;exact ⟨sl,by rw[Heap.get?_update_other _ _ (Ne.symm hbe)];exact Heap.get?_push_of_some _ e⟩
 ·rw[Heap.get?_update_other _ _ (Ne.symm hTe)];exact Heap.get?_push_size h₁ hfree
 ·simp only[List.size_toArray,List.length_append,List.length_cons,List.length_nil];omega
end
noncomputable def Top(X:Cx):Prop:=X.stack=X.env::X.outer∧X.env.frame=some X.env.locals
section
variable{X:Cx}{pins:List (Addr×Obj)}{σ:St}{H:Hp}{s:Shared}{A:Around}{E:Value→Shared→Prop}{x C:Addr}{od T:Option Addr}
theorem Inv.stir{h':Heap}{ch:List Addr}(I:Inv X pins σ H s)(hch:∀b∈ch,Loose X pins H b)(tp:Top X)
 (keep:∀b o,b∉ch→b∉frs X.stack→s.heap.get? b=some o→h'.get? b=some o) (slot:∀b o,b∉ch→s.heap.get? b=some o→∃sl,h'.get? b=some {o with slots:=sl})
 (nx:∀b∈ch,∃o,h'.get? b=some o):Inv X pins σ H {s with heap:=h'}:=by
 have mem:∀b,b≠X.env.locals→b∉X.fs→b∉frs X.stack:=fun b h1 h2 h3=>by
  rcases List.mem_cons.mp (I.stkSub b h3)with z |z
  ·exact h1 z
  ·exact h2 z
 refine I.step (g':=s.gens) (d':=s.drawn) (t':=s.toks) (ch:=ch) (fun b hb=>⟨.inr (hch b hb).yng,(hch b hb).ne,(hch b hb).cell,(hch b hb).pin⟩) (fun b o h1 h2 h3 e _=>keep b o h3 (mem b h1 h2) e) (fun b o _ _ h3 e _=>slot b o h3 e) (fun b o _ _ n=>n)
  (fun b o h3 e=>by obtain ⟨sl,q⟩:=slot b o h3 e;exact ⟨_,q⟩) (fun _ _ e=>e) (fun _ _ _ e=>e) (fun b ps e=>⟨#[],by rw[e];simp⟩) (fun m hm=>?_) (fun b u e=>?_) I.bare
 ·obtain ⟨o,es,ep,ho,r⟩:=hm;obtain ⟨sl,q⟩:=slot _ o (fun z=>(hch _ z).ne rfl) ho;exact ⟨_,es,ep,q,r⟩
 ·have nch:∀c v,H c=some v→c∉ch:=fun c v q z=>by rw[(hch c z).free]at q;cases q
  have nfr:∀c v,H c=some v→c∉frs X.stack:=fun c v q z=>by rw[I.stkFree c z]at q;cases q
  refine (I.hok b u e).stay (fun c v hc q=>?_) (fun _ q=>q) fun _ _ q=>q
  rcases hc with z |z
  ·subst z;exact keep c v (nch c _ e) (nfr c _ e) q
  ·exact keep c v (nch c _ z) (nfr c _ z) q
theorem Inv.loose_new(I:Inv X pins σ H s){t:Addr}(h:s.heap.objs.size≤t):Loose X pins H t:=
 ⟨I.hok.fresh h,Nat.ne_of_gt (Nat.lt_of_lt_of_le I.lt h),Nat.le_trans I.sz h,fun y c e=>by obtain ⟨v,z⟩:=I.cell y c e;exact Nat.ne_of_lt (Nat.lt_of_lt_of_le z.lt h),fun p hp=>Nat.ne_of_lt (Nat.lt_of_lt_of_le (Heap.lt_size (I.pin p hp).1) h)⟩
theorem j0b{M:Model}{Q:Unit→Shared→Prop}{head:Value}{hadNext:Bool}(I:Inv X pins σ H s)(tp:Top X)(hA:A.frames=some X.stack)(f:Fly s.heap x C od T)(lx:Loose X pins H x)
 (h:∀s' t,Inv X pins σ H s'→Fly s'.heap x C od (some t)→Loose X pins H t→Q () s'):
 wpAny M A (do let a←frameOf X.env;let pl←entryPlaceOf X.env.locals hadNext;let b←EntryCells.newEntry head a .none (rawInt X.env.locals) .none pl;setField (.ref x) 1 b) Q E s:=by
 obtain ⟨t1,tf⟩:=id tp;rw[t1]at hA;have hlF:s.heap.FunFrames X.base (X.env::X.outer):=t1▸I.stack;obtain ⟨o,vs,hx,hc,hd,hdat,hsz,_⟩:=f;refine c0k hA hlF tf hx hdat hsz fun h' t k1 k2 k3 k4 ⟨ot,ts,k5,k6,k7⟩=>h _ t ?_ ?_ (I.loose_new k4)
 ·refine I.stir (ch:=[x]) (fun b hb=>by rw[List.mem_singleton.mp hb];exact lx) tp (fun b o hb hf e=>k1 b o (fun z=>hb (by simp[z])) (by rw[←t1];exact hf) e) (fun b o hb e=>k2 b o e fun z=>hb (by simp[z])) (fun b hb=>by rw[List.mem_singleton.mp hb];exact ⟨_,k3⟩)
 ·have hne:t≠x:=Nat.ne_of_gt (Nat.lt_of_lt_of_le (Heap.lt_size hx) k4);refine ⟨_,_,k3,(Obj.cls_mapFields _ _).trans hc,(q0l _ _).trans hd,Obj.data_mapFields hdat _,by simpa using hsz,by simp[hsz],hne,ot,ts,k5,k6,k7⟩
theorem y1y{M:Model}{Q:Unit→Shared→Prop}(I:Inv X pins σ H s)(tp:Top X)(hA:A.frames=some X.stack)(f:Fly s.heap x C od T)(lx:Loose X pins H x)(lt:∀t,T=some t→Loose X pins H t)
 (h:∀s' t,Inv X pins σ H s'→Fly s'.heap x C od (some t)→Loose X pins H t→Q () s'):wpAny M A (noteFrame (.ref x) X.env) Q E s:=by
 obtain ⟨o,vs,hx,hc,hd,hdat,hsz,hT⟩:=id f;unfold noteFrame;simp only[tp.2];cases T with
 |none=>
  refine wpAny_bind (wpAny_field hx hdat hT ?_);rw[if_neg (by decide)];exact j0b I tp hA f lx h
 |some t=>
  obtain ⟨h1,hne,ot,ts,ht,htd,hts⟩:=hT;have lt:=lt t rfl;refine wpAny_bind (wpAny_field hx hdat h1 ?_);rw[if_pos (show (Value.ref t !=Value.none)=true from by simp)];have h3:ts[3]?=some ts[3]:=by simp[hts]
  refine wpAny_bind (wpAny_field ht htd h3 ?_);by_cases q:(ts[3]==rawInt X.env.locals)=true
  ·rw[if_pos q];exact wpAny_pure (h s t I f lt)
  ·rw[if_neg q];refine wpAny_bind (wpAny_setField ht htd hts ?_);have other:∀b,b≠t→(s.heap.update t (Obj.mapFields (·.setIfInBounds 3 Value.none))).get? b=s.heap.get? b:=fun b hb=>Heap.get?_update_other _ _ (Ne.symm hb)
   have ht':=Heap.get?_update_self (Obj.mapFields (·.setIfInBounds 3 Value.none)) ht (Obj.isFreed_of_fields (Obj.data_mapFields htd _));have I1:Inv X pins σ H {s with heap:=s.heap.update t (Obj.mapFields (·.setIfInBounds 3 Value.none))}:=
    I.stir (ch:=[t]) (fun b hb=>by rw[List.mem_singleton.mp hb];exact lt) tp (fun b o hb hf e=>(other b fun z=>hb (by simp[z])).trans e) (fun b o hb e=>⟨o.slots,(other b fun z=>hb (by simp[z])).trans e⟩) (fun b hb=>by rw[List.mem_singleton.mp hb];exact ⟨_,ht'⟩)
   exact j0b (T:=some t) I1 tp hA ⟨o,vs,(other x (Ne.symm hne)).trans hx,hc,hd,hdat,hsz,h1,hne,_,_,ht',Obj.data_mapFields htd _,by simpa using hts⟩ lx h
theorem f0z{M:Model}{fr:Option Addr}{Q:Unit→Shared→Prop}(I:Inv X pins σ H s)(tp:Top X)(f:Fly s.heap x C od T)(lt:∀t,T=some t→Loose X pins H t)
 (h:∀s',Inv X pins σ H s'→Fly s'.heap x C od T→Q () s'):wpAny M A (setFlight (.ref x) fr) Q E s:=by
 obtain ⟨o,vs,hx,hc,hd,hdat,hsz,hT⟩:=id f;unfold setFlight;cases T with
 |none=>
  refine wpAny_bind (wpAny_field hx hdat hT ?_);rw[if_neg (by decide)];exact wpAny_pure (h s I f)
 |some t=>
  obtain ⟨h1,hne,ot,ts,ht,htd,hts⟩:=hT;have lt:=lt t rfl;refine wpAny_bind (wpAny_field hx hdat h1 ?_);rw[if_pos (show (Value.ref t !=Value.none)=true from by simp)];refine wpAny_setField ht htd hts (h _ ?_ ?_)
  ·have other:∀b,b≠t→(s.heap.update t (Obj.mapFields (·.setIfInBounds 3 (fr.elim Value.none fun f=>rawInt f)))).get? b=s.heap.get? b:=fun b hb=>Heap.get?_update_other _ _ (Ne.symm hb)
   have ht':=Heap.get?_update_self (Obj.mapFields (·.setIfInBounds 3 (fr.elim Value.none fun f=>rawInt f))) ht (Obj.isFreed_of_fields (Obj.data_mapFields htd _));exact I.stir (ch:=[t]) (fun b hb=>by rw[List.mem_singleton.mp hb];exact lt) tp (fun b o hb hf e=>(other b fun z=>hb (by simp[z])).trans e) (fun b o hb e=>⟨o.slots,(other b fun z=>hb (by simp[z])).trans e⟩) (fun b hb=>by rw[List.mem_singleton.mp hb];exact ⟨_,ht'⟩)
  ·have ht':=Heap.get?_update_self (Obj.mapFields (·.setIfInBounds 3 (fr.elim Value.none fun f=>rawInt f))) ht (Obj.isFreed_of_fields (Obj.data_mapFields htd _));exact ⟨o,vs,(Heap.get?_update_other _ _ hne).trans hx,hc,hd,hdat,hsz,h1,hne,_,_,ht',Obj.data_mapFields htd _,by simpa using hts⟩
end
end L2
namespace L2
open PySem PySem.Spec PyProof.Rows
open PySem.W (XC)
noncomputable abbrev XW:=Addr→Option Addr→St→Hp→Prop
noncomputable def FlyIn(X:Cx)(pins:List (Addr×Obj))(W:XW)(e:Value)(s:Shared):Prop:=
 ∃x C od T σ H,e=.ref x∧Inv X pins σ H s∧Fly s.heap x C od T∧Loose X pins H x∧(∀t,T=some t→Loose X pins H t)∧W C od σ H
noncomputable def x0u(X:Cx)(W:XW):Prop:=∀pins e s,FlyIn X pins W e s→X.xe e s
noncomputable def CX1(P:Program)(w:World):CXT:=fun outer H s E e s'=>
 ∃x C od T H',e=.ref x∧s'.os=s.os∧AllBare s'.gens∧Un (frs outer) [] H H' s.heap s'.heap∧HOk P w H' s'.heap∧Fly s'.heap x C od T∧H' x=none∧s.heap.objs.size≤x∧(∀t,T=some t→H' t=none∧s.heap.objs.size≤t)∧E (.ref C) od H'
section
variable{X:Cx}{pins:List (Addr×Obj)}{σ:St}{H:Hp}{s:Shared}{A:Around}{E:Value→Shared→Prop}
theorem j0a{W:XW}{e:Value}{s':Shared}(I:Inv X pins σ H s)(h:CX1 X.prog X.w X.stack H s (fun Cv od H'=>∃C,Cv=.ref C∧W C od σ H') e s'):FlyIn X pins W e s':=by
 obtain ⟨x,C,od,T,H',rfl,os,bare,un,hok,f,hx,hy,ht,C',ec,q⟩:=h;cases ec;have I':Inv X pins σ H' s':=I.call' (ch:=[]) os un hok bare fun b z=>by cases z
 have ls:∀t,H' t=none→s.heap.objs.size≤t→Loose X pins H' t:=fun t h0 hz=>by
  have l:=I.loose_new hz;exact ⟨h0,l.ne,l.yng,l.cell,l.pin⟩
 exact ⟨x,C,od,T,σ,H',rfl,I',f,ls x hx hy,fun t e=>ls t (ht t e).1 (ht t e).2,q⟩
noncomputable def f0y(sp:Sp)(W:XW)(t:TA):TE:=fun σ H Q=>t σ H fun vs H1=>sp vs H1 Q fun Cv od H'=>∃C,Cv=.ref C∧W C od σ H'
theorem y1x{k:Nat}{f:Addr}{fd:FuncData}{ps:List Str}{sp:Sp}{W:XW}{Q:VK}{us:List Value}{vs:List V}(F:FnOk X.prog X.w X.K X.mg X.base (CX1 X.prog X.w) k f fd ps sp)(hr:Room k X.A)(hb:Binds X.K fd ps [])(hf:x0u X W)
 (I:Inv X pins σ H s) (r:Vals vs us) (h:sp vs H Q fun Cv od H'=>∃C,Cv=.ref C∧W C od σ H'):wpAny (model X.prog X.w) X.A (call (.ref f) us) (EP X pins σ Q) X.xe s:=by
 have hl:(us++[]).length=ps.length:=by rw[List.append_nil,← r.length];exact F.len _ _ _ _ h
 have hbd:=hb s us I.kIn hl;rw[List.append_nil]at hbd;refine wpAny_call (codeAny_mono (F.run X.A X.stack s H ⟨us,[]⟩ us vs Q _ hr I.env0 hbd r h) fun r s' hq=>?_);cases r with
 |error e=>exact hf pins e s' (j0a I hq)
 |ok fl=>
  cases fl with
  |ret u=>exact I.after hq
  |next=>exact False.elim hq
  |brk=>exact False.elim hq
  |cont=>exact False.elim hq
theorem c0j{k:Nat}{f:Addr}{fd:FuncData}{ps:List Str}{sp:Sp}{W:XW}{x:Str}{p pos:Pos}{e:Expr}{es:List Expr}{t:TA}(F:FnOk X.prog X.w X.K X.mg X.base (CX1 X.prog X.w) k f fd ps sp)(hr:Room k X.A)(hg:Gl X x)(hm:X.mg x=some (.ref f))
 (hk:PySem.W.keepIn X.K (.ref f)=true) (hb:Binds X.K fd ps []) (hf:x0u X W)
 (ha:PA X (e::es) t) (hdb:(x==("__debug__":Str))=false:=by decide) (he:starEach (e::es) X.env=(false,eval e X.env)::starEach es X.env:=by rfl) (hpl:(backTo pos (starEach es X.env)).any (·.1)=false:=by rfl):
 PE X (.Call (.Name x p) (e::es) [] pos) (f0y sp W t):=by
 intro pins s σ H Q I h;refine wpAny_Call_Name_kw (s0z I hg hm ?_ hdb);refine PySem.W.callWith_K (h₀:=X.base) I.ok.mod.kin hk (thn (ha pos pins s σ H _ I h) fun us s1 ⟨vs,H1,I1,r,q⟩=>⟨I1.kIn,?_⟩) he hpl;exact y1x F hr hb hf I1 r q
noncomputable def tMakeX(C:Addr)(sp:Sp)(W:XW)(t:TA):TE:=fun σ H Q=>t σ H fun vs H1=>∀x dx,H1 x=none→H1 dx=none→dx≠x→
 sp (.ref x::vs) (upd (upd H1 dx (.own x)) x (.ins C dx [])) (fun v H2=>v=.non∧Q (.ref x) H2) fun Cv od H'=>∃C,Cv=.ref C∧W C od σ H'
theorem c0i{k:Nat}{f C:Addr}{fd:FuncData}{ps:List Str}{sp:Sp}{W:XW}{x:Str}{p pos:Pos}{e:Expr}{es:List Expr}{t:TA}(M:Mk X.K C f)(F:FnOk X.prog X.w X.K X.mg X.base (CX1 X.prog X.w) k f fd ps sp)(hr:Room (k+1) X.A)(hg:Gl X x)
 (hm:X.mg x=some (.ref C)) (hb:Binds X.K fd ps []) (hf:x0u X W)
 (ha:PA X (e::es) t) (hdb:(x==("__debug__":Str))=false:=by decide) (he:starEach (e::es) X.env=(false,eval e X.env)::starEach es X.env:=by rfl) (hpl:(backTo pos (starEach es X.env)).any (·.1)=false:=by rfl):
 PE X (.Call (.Name x p) (e::es) [] pos) (tMakeX C sp W t):=by
 intro pins s σ H Q I h;refine wpAny_Call_Name_kw (s0z I hg hm ?_ hdb);refine PySem.W.callWith_K (h₀:=X.base) I.ok.mod.kin M.kp (thn (ha pos pins s σ H _ I h) fun us s1 ⟨vs,H1,I1,r,q⟩=>⟨I1.kIn,?_⟩) he hpl;have hq:=q (s1.heap.objs.size+1) s1.heap.objs.size (I1.hok.fresh (Nat.le_succ _)) (I1.hok.fresh (Nat.le_refl _)) (Nat.ne_of_lt (Nat.lt_succ_self _));have I2:=Inv.made (C:=C) I1;have r2:Vals (V.ref (s1.heap.objs.size+1)::vs) (Value.ref (s1.heap.objs.size+1)::us):=.cons rfl r;have hl:(Value.ref (s1.heap.objs.size+1)::us++[]).length=ps.length:=by
  have e:=r2.length;rw[F.len _ _ _ _ hq]at e;rw[List.append_nil];exact e.symm
 have hbd:=hb _ (Value.ref (s1.heap.objs.size+1)::us) I2.kIn hl;rw[List.append_nil]at hbd;refine wpAny_call (c0p (f:=f) I1.kIn M.makes M.init (beq_iff_eq.mp M.fn) (codeAny_mono (F.run _ X.stack _ _ ⟨Value.ref (s1.heap.objs.size+1)::us,[]⟩ (Value.ref (s1.heap.objs.size+1)::us) _ _ _ (hr.make C us [])
  (I2.env0.make C us []) hbd r2 hq) fun r s' hq'=>?_))
 cases r with
 |error e=>exact hf pins e s' (j0a I2 hq')
 |ok fl=>
  cases fl with
  |ret u=>
   obtain ⟨v,H',I3,rv,ev,q3⟩:=I2.after hq';subst ev;exact ⟨rv,⟨V.ref (s1.heap.objs.size+1),H',I3,rfl,q3⟩⟩
  |next=>exact False.elim hq'
  |brk=>exact False.elim hq'
  |cont=>exact False.elim hq'
end
section
variable{P:Program}{w:World}{K:PySem.W.Frag}{mg:Str→Option Value}{base:Heap}
noncomputable abbrev cxX(P:Program)(w:World)(K:PySem.W.Frag)(mg:Str→Option Value)(base:Heap)(N:List Str)(qual:Str)(scope:Scope)(f:Addr)(cd:Value)(A:Around)(outer:List Env)(s:Shared)(H:Hp)(E:XK):Cx:=
 cxOf (CX1 P w) P w K mg base N qual scope f cd A outer s H E
theorem r0{N:List Str}{qual:Str}{scope:Scope}{f:Addr}{cd:Value}{A:Around}{outer:List Env}{s:Shared}{H:Hp}{E:XK}:x0u (cxX P w K mg base N qual scope f cd A outer s H E) fun C od _ H'=>E (.ref C) od H':=by
 intro pins e s' h;obtain ⟨x,C,od,T,σ,H',rfl,I,ff,lx,lt,q⟩:=h;have tp:Top (cxX P w K mg base N qual scope f cd A outer s H E):=⟨rfl,rfl⟩;show wpAny _ _ (leaving _ (.ref x)) _ _ _;unfold leaving;refine wpAny_bind (y1y I tp I.ok.frames ff lx lt fun s1 t I1 f1 l1=>f0z I1 tp f1 (fun t' e=>by cases e;exact l1) fun s2 I2 f2=>?_);exact ⟨x,C,od,some t,H',rfl,I2.os,I2.bare,I2.base,I2.hok,f2,lx.free,lx.yng,fun t' e=>by cases e;exact ⟨l1.free,l1.yng⟩,q⟩
theorem Fun.okX{x qual:Str}{st:Stmt}{f:Addr}{fd:FuncData}{N ps:List Str}{k:Nat}{sp:Sp}(F:Fun K x qual st f fd)(S:FnScope N ps (defScope st))(len:∀vs H Q E,sp vs H Q E→vs.length=ps.length)
 (hbody:∀(cdv:Value) (A:Around) (outer:List Env) (s:Shared) (H:Hp) (vs:List V) (Q:VK) (E:XK),Room k (A.deeper (envOfC qual (defScope st) s.heap.objs.size f cdv))→sp vs H Q E→
  ∃t,PSs (cxX P w K mg base N qual (defScope st) f cdv A outer s H E) (defBody st) t∧t {nx:=fun _ H'=>Q .non H',rt:=Q} (start N vs) H):FnOk P w K mg base (CX1 P w) (k+1) f fd ps sp:=by
 obtain ⟨oc,od,kV,doc,pm,an,cdv,ct,osl,rfl,lk,hcd⟩:=F.ex;exact fn_of lk hcd S len fun A outer s H vs Q E hr hsp=>hbody cdv A outer s H vs Q E hr hsp
end
section
variable{X:Cx}{pins:List (Addr×Obj)}{σ:St}{H:Hp}{s:Shared}
noncomputable def drop(H:Hp)(x:Addr):Hp:=fun b=>if b=x then none else H b
theorem m9{H:Hp}{x b:Addr}(h:b≠x):drop H x b=H b:=if_neg h
theorem r9{H:Hp}{x:Addr}:drop H x x=none:=if_pos rfl
theorem Inv.drop{φ:Heap→Prop}{x:Addr}(I:Inv X pins σ H s)(e:H x=some (.ext φ)):Inv X pins σ (drop H x) s:=by
 have ne:∀b u,H b=some u→(∀ ψ,u≠.ext ψ)→b≠x:=fun b u q n z=>by rw[z,e]at q;exact n φ (Option.some.inj q).symm
 have nn:∀b,H b=none→L2.drop H x b=none:=fun b q=>by
  by_cases z:b=x
  ·rw[z];exact r9
  ·rw[m9 z];exact q
 have hown:∀b a,H b=some (.own a)→L2.drop H x b=some (.own a):=fun b a q=>by rw[m9 (ne b _ q fun ψ z=>by cases z)];exact q
 have htup:∀b xs,H b=some (.tup xs)→L2.drop H x b=some (.tup xs):=fun b xs q=>by rw[m9 (ne b _ q fun ψ z=>by cases z)];exact q
 refine ⟨I.ok,I.os,I.bare,⟨I.base.keep,I.base.slot,fun b o q n hx=>nn b (I.base.free b o q n hx),I.base.there,fun b xs q=>htup b xs (I.base.tups b xs q),fun b o u q=>?_,fun b ps q=>?_⟩,I.loc,I.cell,nn _ I.free,fun y c q=>nn c (I.freeC y c q),fun p hp=>?_,fun b u q=>?_,I.len⟩
 ·have z:=I.base.frzs b o u q;rw[m9 (ne b _ z fun ψ z=>by cases z)];exact z
 ·obtain ⟨m,z⟩:=I.base.tbls b ps q;exact ⟨m,by rw[m9 (ne b _ z fun ψ z=>by cases z)];exact z⟩
 ·obtain ⟨a,b,c⟩:=I.pin p hp;exact ⟨a,nn _ b,c⟩
 ·have hb:b≠x:=fun z=>by rw[z,r9]at q;cases q
  rw[m9 hb]at q;exact (I.hok b u q).stay (fun _ _ _ z=>z) (fun c z=>hown c _ z) fun c xs z=>htup c xs z
theorem n0u{M:Model}{A:Around}{E:Value→Shared→Prop}{env:Env}{xt:Sem Value}{Q:Flow→Shared→Prop}{C:Addr}{s:Shared}(hh:A.handled=none)
 (h:wpAny M A xt (fun v s1=>∃e od vs nm qn N bs bm hdct sn sub ab col dd k0 k1 k2 k3 k5 nid,v=.ref e∧s1.heap.get? C=some (excClassObj nm qn C N bs bm hdct sn sub ab col dd k0 k1 k2 k3 k5 nid)∧bm.contains (.type "BaseException")=true∧
  s1.heap.get? e=some ⟨.ref C,od,.fields vs,#[]⟩∧vs[1]?=some .none∧E (.ref e) s1) E s):
 wpAny M A (raiseStmt env (some xt) none) Q E s:=by
 unfold raiseStmt;refine wpAny_bind (wpAny_mono h (fun v s1 h1=>?_) fun _ _ x=>x);obtain ⟨e,od,vs,nm,qn,N,bs,bm,hdct,sn,sub,ab,col,dd,k0,k1,k2,k3,k5,nid,rfl,hC,hb,he,hv,hE⟩:=h1;have hcB:(Value.ref C::bm).contains (.type "BaseException")=true:=by rw[List.contains_cons,hb,Bool.or_true]
 obtain ⟨hp,g,d,tk,os⟩:=s1
 repeat (first |with_reducible refine wpAny_loadPart_at he ?_ |with_reducible refine wpAny_loadPart_at hC ?_ |(with_reducible refine wpAny_isSubtype_exc hC ?_;rw[hcB])|wp_step)
 rw[hv];refine wpAny_pure ?_;rw[if_neg (by decide)];exact wpAny_pure (wpAny_raiseNew_none hh hE)
theorem i0z{M:Model}{C x:Addr}{od:Option Addr}{W:XW}(hf:x0u X W)(I:Inv X pins σ H s)(e:H x=some (XO true x C od))(hK:xcIn X.K C=true)(hy:X.s₀.heap.objs.size≤x)(q:W C od σ (L2.drop H x)):
 ∃e' od' vs nm qn N bs bm hdct sn sub ab col dd k0 k1 k2 k3 k5 nid,Value.ref x=.ref e'∧s.heap.get? C=some (excClassObj nm qn C N bs bm hdct sn sub ab col dd k0 k1 k2 k3 k5 nid)∧bm.contains (.type "BaseException")=true∧
  s.heap.get? e'=some ⟨.ref C,od',.fields vs,#[]⟩∧vs[1]?=some .none∧X.xe (.ref e') s:=by
 obtain ⟨o,vs,hx,h1,h2,h3,h40⟩:=XO.get I.hok e;obtain ⟨h4,h5⟩:=h40 rfl;clear h40;obtain ⟨nm,qn,N,bs,bm,hdct,sn,sub,ab,col,dd,k0,k1,k2,k3,k5,hC,hT⟩:=a0h I.kIn hK;have I':=Inv.drop I e;obtain ⟨oc,odd,odt,osl⟩:=o;dsimp only at h1 h2 h3 h4;subst h1 h2 h3 h4;refine ⟨x,odd,vs,nm,qn,N,bs,bm,hdct,sn,sub,ab,col,dd,k0,k1,k2,k3,k5,_,rfl,hC,hT.hasType rfl,hx,h5,?_⟩;refine hf pins _ _ ⟨x,C,odd,none,σ,_,rfl,I',⟨_,vs,hx,rfl,rfl,rfl,(Array.getElem?_eq_some_iff.mp h5).1,h5⟩,⟨r9,fun z=>?_,hy,fun y c q z=>?_,fun p hp z=>?_⟩,(fun t z=>by cases z),q⟩
 ·have:=I.free;rw[←z,e]at this;cases this
 ·have:=I.freeC y c q;rw[z,e]at this;cases this
 ·have:=(I.pin p hp).2.1;rw[z,e]at this;cases this
noncomputable def f0x(C:Addr)(sp:Sp)(W:XW)(t:TA):TS:=fun _ σ H=>t σ H fun vs H1=>vs.length≤sizeLine∧∀x,H1 x=none→
 sp (.ref x::vs) (upd H1 x (XO true x C none)) (fun v H2=>v=.non∧∃od,H2 x=some (XO true x C od)∧W C od σ (L2.drop H2 x)) E0
noncomputable def y1w(C:Addr)(W:XW):TS:=fun _ σ H=>∀x,H x=none→W C none σ (L2.drop (upd H x (XO true x C none)) x)
theorem f0w{k:Nat}{f C:Addr}{fd:FuncData}{ps:List Str}{sp:Sp}{W:XW}{x:Str}{p cpos pos:Pos}{e:Expr}{es:List Expr}{t:TA}(hc:X.calm=true)(hf:x0u X W)(M:XMk X.K C f)(F:FnOk X.prog X.w X.K X.mg X.base CX0 k f fd ps sp)(hr:Room (k+1) X.A)
 (hg:Gl X x) (hm:X.mg x=some (.ref C)) (hb:Binds X.K fd ps [])
 (ha:PA X (e::es) t) (hdb:(x==("__debug__":Str))=false:=by decide) (he:starEach (e::es) X.env=(false,eval e X.env)::starEach es X.env:=by rfl) (hpl:(backTo cpos (starEach es X.env)).any (·.1)=false:=by rfl):
 PS X (.Raise (some (.Call (.Name x p) (e::es) [] cpos)) none pos) (f0x C sp W t):=by
 intro pins s σ H D I h;show wpAny _ _ (do standAt pos;raiseStmt X.env (some (do let v←eval (.Call (.Name x p) (e::es) [] cpos) X.env;standAt pos;pure v)) none) _ _ _;refine wpAny_bind (wpAny_standAt (n0u (C:=C) (I.ok.hd hc) (wpAny_bind (thn (Q:=fun v s1=>∃x H2 od,v=.ref x∧X.s₀.heap.objs.size≤x∧Inv X pins σ H2 s1∧H2 x=some (XO true x C od)∧W C od σ (L2.drop H2 x)) ?_ fun v s1 ⟨x,H2,od,ev,hy,I2,e2,q2⟩=>wpAny_bind (wpAny_standAt (wpAny_pure ?_))))))
 ·refine wpAny_Call_Name_kw (s0z I hg hm ?_ hdb);refine PySem.W.callWith_K (h₀:=X.base) I.ok.mod.kin M.kp (thn (ha cpos pins s σ H _ I h) fun us s1 ⟨vs,H1,I1,r,hz,q⟩=>⟨I1.kIn,?_⟩) he hpl;refine thn (n0w (Q:=fun v H2=>∃od,H2 (s1.heap.objs.size+1)=some (XO true (s1.heap.objs.size+1) C od)∧W C od σ (L2.drop H2 (s1.heap.objs.size+1))) M F hr hb (pass0 (X:=X)) I1 r hz (q _ (I1.hok.fresh (Nat.le_succ _)))) fun v s2 ⟨ev,y,H2,I2,ry,od,q1,q2⟩=>?_
  exact ⟨_,H2,od,ev,Nat.le_trans I1.sz (Nat.le_succ _),I2,q1,q2⟩
 ·subst ev;exact i0z (M:=model X.prog X.w) hf I2 e2 M.sh hy q2
theorem f0v{C:Addr}{W:XW}{x:Str}{p cpos pos:Pos}(hc:X.calm=true)(hf:x0u X W)(M:XMk0 X.K C)(hK:xcIn X.K C=true)(hg:Gl X x)(hm:X.mg x=some (.ref C))(hdb:(x==("__debug__":Str))=false:=by decide):
 PS X (.Raise (some (.Call (.Name x p) [] [] cpos)) none pos) (y1w C W):=by
 intro pins s σ H D I h;show wpAny _ _ (do standAt pos;raiseStmt X.env (some (do let v←eval (.Call (.Name x p) [] [] cpos) X.env;standAt pos;pure v)) none) _ _ _;refine wpAny_bind (wpAny_standAt (n0u (C:=C) (I.ok.hd hc) (wpAny_bind (thn (Q:=fun v s1=>∃x H2,v=.ref x∧X.s₀.heap.objs.size≤x∧Inv X pins σ H2 s1∧H2 x=some (XO true x C none)∧W C none σ (L2.drop H2 x)) ?_ fun v s1 ⟨x,H2,ev,hy,I2,e2,q2⟩=>wpAny_bind (wpAny_standAt (wpAny_pure ?_))))))
 ·refine wpAny_Call_Name_kw (s0z I hg hm ?_ hdb);refine PySem.W.callWith_K0 I.kIn M.kp (thn (c0l (Q:=fun v H2=>v=.ref (s.heap.objs.size+1)∧H2 (s.heap.objs.size+1)=some (XO true (s.heap.objs.size+1) C none)∧W C none σ (L2.drop H2 (s.heap.objs.size+1))) M I ⟨rfl,x3,h _ (I.hok.fresh (Nat.le_succ _))⟩) fun v s2 ⟨y,H2,I2,ry,ey,q1,q2⟩=>?_);subst ey;exact ⟨_,H2,ry,Nat.le_trans I.sz (Nat.le_succ _),I2,q1,q2⟩
 ·subst ev;exact i0z (M:=model X.prog X.w) hf I2 e2 hK hy q2
end
end L2
namespace L2
open PySem PySem.Spec PyProof.Rows
open PySem.W (XC)
section
variable{X:Cx}{pins:List (Addr×Obj)}{σ:St}{H:Hp}{s:Shared}
noncomputable abbrev XTS:=Addr→Option Addr→TS
noncomputable def PH(X:Cx)(hs:List ExceptHandler)(t:XTS):Prop:=∀(pins:List (Addr×Obj)) (x C:Addr) (od T:Option Addr) (s:Shared) (σ:St) (H:Hp) (D:Ends),Inv X pins σ H s→Fly s.heap x C od T→Loose X pins H x→(∀t,T=some t→Loose X pins H t)→t C od D σ H→
 wpAny (model X.prog X.w) X.A (handleBy (.ref x) X.env hs) (SP X pins D) X.xe s
structure XHd(K:PySem.W.Frag)(D:Addr):Prop where
 ty:PySem.W.typeIn K (.ref D)=some (.type "type")
 cl:(PySem.W.clsIn K D).isSome=true
 sub:PySem.W.mroIn K D (.type "BaseException")=some true
end
end L2
namespace L2
open PySem PySem.Spec PyProof.Rows
open PySem.W (XC)
structure DefAt(K:PySem.W.Frag)(mg:Str→Option Value)(x:Str)(st:Stmt)(ps:List Str)(f:Addr)(fd:FuncData):Prop where
 F:Fun K x x st f fd
 m:mg x=some (.ref f)
 b:Binds K fd ps []
structure FnAt(P:Program)(w:World)(K:PySem.W.Frag)(mg:Str→Option Value)(base:Heap)(CX:CXT)(x:Str)(k:Nat)(ps:List Str)(sp:Sp):Prop where
 ex:∃f fd,FnOk P w K mg base CX k f fd ps sp∧mg x=some (.ref f)∧PySem.W.keepIn K (.ref f)=true∧Binds K fd ps []
theorem DefAt.at{P:Program}{w:World}{K:PySem.W.Frag}{mg:Str→Option Value}{base:Heap}{CX:CXT}{x:Str}{st:Stmt}{ps:List Str}{f:Addr}{fd:FuncData}{k:Nat}{sp:Sp}(D:DefAt K mg x st ps f fd)(F:FnOk P w K mg base CX k f fd ps sp):FnAt P w K mg base CX x k ps sp:=
 ⟨f,fd,F,D.m,D.F.kp,D.b⟩
section
variable{X:Cx}{x:Str}{p pos:Pos}{e:Expr}{es:List Expr}{t:TA}{k:Nat}{ps:List Str}{sp:Sp}
theorem pe_cX{W:XW}(G:FnAt X.prog X.w X.K X.mg X.base (CX1 X.prog X.w) x k ps sp)(hr:Room k X.A)(hf:x0u X W)(ha:PA X (e::es) t)(hg:Gl X x:=by rfl)(hdb:(x==("__debug__":Str))=false:=by decide)
 (he:starEach (e::es) X.env=(false,eval e X.env)::starEach es X.env:=by rfl) (hpl:(backTo pos (starEach es X.env)).any (·.1)=false:=by rfl):PE X (.Call (.Name x p) (e::es) [] pos) (f0y sp W t):=by
 obtain ⟨f,fd,F,m,kp,b⟩:=G.ex;exact c0j F hr hg m kp b hf ha hdb he hpl
theorem pty(n:String){y:Str}(hm:X.mg y=none)(hv:bootBuiltins y=some (.type n))(hg:Gl X y:=by rfl)(hn:y≠"__name__":=by decide)(hd:(y==("__debug__":Str))=false:=by decide):PE X (.Name y pos) (tC (.ty n)):=z1l hg hm hv rfl hn hd
end
theorem u0o:bootBuiltins "len"=some (.builtin "len"):=by kernel_rfl
theorem bt_abs:bootBuiltins "abs"=some (.builtin "abs"):=by kernel_rfl
theorem n0t:bootBuiltins "all"=some (.builtin "all"):=by kernel_rfl
theorem bt_min:bootBuiltins "min"=some (.builtin "min"):=by kernel_rfl
theorem a7:bootBuiltins "isinstance"=some (.builtin "isinstance"):=by kernel_rfl
theorem f0u:bootBuiltins "int"=some (.type "int"):=by kernel_rfl
theorem y1v:bootBuiltins "bool"=some (.type "bool"):=by kernel_rfl
theorem l0h:bootBuiltins "list"=some (.type "list"):=by kernel_rfl
theorem b5:bootBuiltins "tuple"=some (.type "tuple"):=by kernel_rfl
structure Deck(H:Hp)(D S:Addr)(n:Nat):Prop where
 ex:∃c k:Int,H D=some (.lst [.ref S,.int c,.int k])∧0≤c∧0≤k∧k≤n
end L2
namespace L2
open PySem PySem.Spec PyProof.Rows
end L2
namespace L2
theorem y1u{α:Type}{xs:List α}{k:Int}(h:0<xs.length):∃v,atI xs (k%(xs.length:Nat))=some v∧v∈xs:=by
 have h1:=Int.emod_nonneg k (b:=(xs.length:Int)) (by omega);have h2:=Int.emod_lt_of_pos k (b:=(xs.length:Int)) (by omega);have hj:(k%(xs.length:Nat)).toNat<xs.length:=by omega
 refine ⟨xs[(k%(xs.length:Nat)).toNat],?_,List.getElem_mem hj⟩;have e:k%(xs.length:Nat)=(((k%(xs.length:Nat)).toNat:Nat):Int):=by omega
 have q:∀z:Int,z=k%(xs.length:Nat)→z=((z.toNat:Nat):Int)→∀hz:z.toNat<xs.length,atI xs z=some xs[z.toNat]:=by
  intro z _ hz2 hz3;generalize z.toNat=j at hz2 hz3;subst hz2;exact z0j (List.getElem?_eq_getElem hz3)
 exact q _ rfl e hj
end L2
set_option maxHeartbeats 8000000
namespace L2
open PySem PySem.Spec PyProof.Rows
noncomputable def BT:List String:=["NoneType","bool","int","str","list","tuple","dict"]
theorem kt_all(K:PySem.W.Frag){n:String}(h:n∈BT):PySem.W.kitOne K (.type n) (.type "bool")=some (n=="bool")∧PySem.W.kitOne K (.type n) (.type "int")=some (n=="int"||n=="bool")∧
 PySem.W.kitOne K (.type n) (.type "list")=some (n=="list")∧PySem.W.kitOne K (.type n) (.type "tuple")=some (n=="tuple")∧PySem.W.kitAny K (.type n) [.type "list",.type "tuple"]=some (n=="list"||n=="tuple"):=by
 simp only[BT,List.mem_cons,List.not_mem_nil,or_false]at h;rcases h with rfl |rfl |rfl |rfl |rfl |rfl |rfl
 ·exact ⟨by kernel_rfl,by kernel_rfl,by kernel_rfl,by kernel_rfl,by kernel_rfl⟩
 ·exact ⟨by kernel_rfl,by kernel_rfl,by kernel_rfl,by kernel_rfl,by kernel_rfl⟩
 ·exact ⟨by kernel_rfl,by kernel_rfl,by kernel_rfl,by kernel_rfl,by kernel_rfl⟩
 ·exact ⟨by kernel_rfl,by kernel_rfl,by kernel_rfl,by kernel_rfl,by kernel_rfl⟩
 ·exact ⟨by kernel_rfl,by kernel_rfl,by kernel_rfl,by kernel_rfl,by kernel_rfl⟩
 ·exact ⟨by kernel_rfl,by kernel_rfl,by kernel_rfl,by kernel_rfl,by kernel_rfl⟩
 ·exact ⟨by kernel_rfl,by kernel_rfl,by kernel_rfl,by kernel_rfl,by kernel_rfl⟩
structure Thing(K:PySem.W.Frag)(H:Hp)(x:V)(n:String):Prop where
 ty:TyOf K H x (.type n)
 mem:n∈BT
noncomputable def numV(x y:V):Bool:=match x,y with
 | .int i,.int j=>decide (i=j)
 |_,_=>false
noncomputable def c0h(K:PySem.W.Frag):Sp:=fun vs H Q _=>∃(x:V) (j:Int) (n:String),vs=[x,.int j]∧Thing K H x n∧Q (.bl (numV x (.int j))) H
end L2
set_option maxHeartbeats 8000000
namespace L2
open PySem PySem.Spec PyProof.Rows
open PySem.W (XC veMro)
structure ErrC(K:PySem.W.Frag)(W C:Addr):Prop where
 mro:(PySem.W.clsIn K C).map (·.mro)=some (.ref C:: .ref W::veMro)
 ty:PySem.W.typeIn K (.ref C)=some (.type "type")
 xc:XC K C
theorem Same.new{H:Hp}{p:Addr}{o:HO}(h:H p=none):Same H (upd H p o):=fun b u e=>by rw[o0 (l0 e h)];exact e
noncomputable def spXI(C:Addr)(a:Str):Sp:=fun vs H Q _=>∃(x:Addr) (v:V),vs=[.ref x,v]∧H x=some (XO true x C none)∧∀d,H d=none→d≠x→Q .non (upd (upd H d (XD d [(a,v)])) x (XO true x C (some d)))
noncomputable def c0g(C:Addr)(a b:Str):Sp:=fun vs H Q _=>∃(x:Addr) (v u:V),vs=[.ref x,v,u]∧H x=some (XO true x C none)∧∀d,H d=none→d≠x→Q .non (upd (upd (upd H d (XD d [(a,v)])) x (XO true x C (some d))) d (XD d (putF b u [(a,v)])))
end L2
namespace L2
open PySem PySem.Spec PyProof.Rows
open PySem.W (XC veMro)
structure MkE(P:Program)(w:World)(K:PySem.W.Frag)(mg:Str→Option Value)(base:Heap)(x:Str)(C:Addr)(k:Nat)(ps:List Str)(sp:Sp):Prop where
 ex:∃f fd,XMk K C f∧FnOk P w K mg base CX0 k f fd ps sp∧Binds K fd ps []
 m:mg x=some (.ref C)
theorem n0s{X:Cx}{W:XW}{x:Str}{C:Addr}{k:Nat}{ps:List Str}{sp:Sp}{p cpos pos:Pos}{e:Expr}{es:List Expr}{t:TA}(hc:X.calm=true)(hf:x0u X W)(M:MkE X.prog X.w X.K X.mg X.base x C k ps sp)(hr:Room (k+1) X.A)(ha:PA X (e::es) t)(hg:Gl X x:=by rfl)
 (hdb:(x==("__debug__":Str))=false:=by decide) (he:starEach (e::es) X.env=(false,eval e X.env)::starEach es X.env:=by rfl) (hpl:(backTo cpos (starEach es X.env)).any (·.1)=false:=by rfl):
 PS X (.Raise (some (.Call (.Name x p) (e::es) [] cpos)) none pos) (f0x C sp W t):=by
 obtain ⟨f,fd,h1,h2,h3⟩:=M.ex;exact f0w hc hf h1 h2 hr hg M.m h3 ha hdb he hpl
theorem sz1{a:V}:[a].length≤PySem.sizeLine:=by show 1≤PySem.sizeLine;decide
theorem szn{n:Nat}(h:n≤1000):n≤PySem.sizeLine:=Nat.le_trans h (by decide)
end L2
namespace DL
open PySem PySem.Spec L2
open PySem.W (XC)
inductive D where
 |non |bl (b:Bool)|int (i:Int)|str (x:Str)
 |lst (xs:List D)|tup (xs:List D)|scr (xs:List D)|dic (kvs:List (Key×D))|dwk (kvs:List (Key×D))
 |ins (C:Addr) (fs:List (Str×D))|exc (C:Addr) (fs:List (Str×D))
 |ref (a:Addr)|ty (n:String)
noncomputable abbrev Frag:=PySem.W.Frag
mutual
noncomputable def Rep(K:Frag)(F:Hp):D→V→Prop
 | .non,v=>v=.non
 | .bl b,v=>v=.bl b
 | .int i,v=>v=.int i
 | .str x,v=>v=.str x
 | .lst ds,v=>∃a vs,v=.ref a∧F a=some (.lst vs)∧Reps K F ds vs
 | .tup ds,v=>∃a vs,v=.ref a∧F a=some (.tup vs)∧Reps K F ds vs
 | .scr ds,v=>∃a vs,v=.ref a∧SqL K F a vs∧Reps K F ds vs
 | .dic kvs,v=>∃a us,v=.ref a∧F a=some (.dK us)∧RepK K F kvs us
 | .dwk kvs,v=>∃a o us,v=.ref a∧F a=some (.frz o (.dK us))∧RepK K F kvs us
 | .ins C fs,v=>∃a dx us,v=.ref a∧F a=some (.ins C dx us)∧F dx=some (.own a)∧RepF K F fs us
 | .exc C fs,v=>∃a fr,v=.ref a∧((fs=[]∧F a=some (XO fr a C none))∨∃d us,F a=some (XO fr a C (some d))∧F d=some (XD d us)∧RepF K F fs us)
 | .ref a,v=>v=.ref a
 | .ty n,v=>v=.ty n
noncomputable def Reps(K:Frag)(F:Hp):List D→List V→Prop
 | [],vs=>vs=[]
 |d::ds,vs=>∃v r,vs=v::r∧Rep K F d v∧Reps K F ds r
noncomputable def RepF(K:Frag)(F:Hp):List (Str×D)→List (Str×V)→Prop
 | [],vs=>vs=[]
 |(x,d)::ds,vs=>∃v r,vs=(x,v)::r∧Rep K F d v∧RepF K F ds r
noncomputable def RepK(K:Frag)(F:Hp):List (Key×D)→List (Key×V)→Prop
 | [],vs=>vs=[]
 |(x,d)::ds,vs=>∃v r,vs=(x,v)::r∧Rep K F d v∧RepK K F ds r
end
theorem _root_.L2.Same.rd{F F':Hp}{a:Addr}{u:HO}(s:Same F F')(h:Rd F a u):Rd F' a u:=by
 rcases h with h |⟨o,h⟩
 ·exact .inl (s _ _ h)
 ·exact .inr ⟨o,s _ _ h⟩
theorem _root_.L2.Same.sqL{K:Frag}{F F':Hp}{a:Addr}{xs:List V}(s:Same F F')(h:SqL K F a xs):SqL K F' a xs:=h.imp s.rd id
theorem _root_.L2.Same.sqT{K:Frag}{F F':Hp}{a:Addr}{xs:List V}(s:Same F F')(h:SqT K F a xs):SqT K F' a xs:=h.imp s.rd id
mutual
theorem Rep.mono{K:Frag}{F F':Hp}(s:Same F F'):∀{d:D} {v:V},Rep K F d v→Rep K F' d v
 | .non,v,h=>by unfold Rep at h ⊢; exact h
 | .bl b,v,h=>by unfold Rep at h ⊢; exact h
 | .int i,v,h=>by unfold Rep at h ⊢; exact h
 | .str x,v,h=>by unfold Rep at h ⊢; exact h
 | .lst ds,v,h=>by unfold Rep at h ⊢; obtain ⟨a,vs,e,q,r⟩:=h;exact ⟨a,vs,e,s _ _ q,Reps.mono s r⟩
 | .tup ds,v,h=>by unfold Rep at h ⊢; obtain ⟨a,vs,e,q,r⟩:=h;exact ⟨a,vs,e,s _ _ q,Reps.mono s r⟩
 | .scr ds,v,h=>by unfold Rep at h ⊢; obtain ⟨a,vs,e,q,r⟩:=h;exact ⟨a,vs,e,s.sqL q,Reps.mono s r⟩
 | .dic ds,v,h=>by unfold Rep at h ⊢; obtain ⟨a,vs,e,q,r⟩:=h;exact ⟨a,vs,e,s _ _ q,RepK.mono s r⟩
 | .dwk ds,v,h=>by unfold Rep at h ⊢; obtain ⟨a,o,vs,e,q,r⟩:=h;exact ⟨a,o,vs,e,s _ _ q,RepK.mono s r⟩
 | .ins C fs,v,h=>by unfold Rep at h ⊢; obtain ⟨a,dx,vs,e,q,q2,r⟩:=h;exact ⟨a,dx,vs,e,s _ _ q,s _ _ q2,RepF.mono s r⟩
 | .exc C fs,v,h=>by
  unfold Rep at h ⊢;obtain ⟨a,fr,e,h⟩:=h;refine ⟨a,fr,e,?_⟩;rcases h with ⟨e1,q⟩|⟨d,us,q,q2,r⟩
  ·exact .inl ⟨e1,s _ _ q⟩
  ·exact .inr ⟨d,us,s _ _ q,s _ _ q2,RepF.mono s r⟩
 | .ref a,v,h=>by unfold Rep at h ⊢; exact h
 | .ty n,v,h=>by unfold Rep at h ⊢; exact h
theorem Reps.mono{K:Frag}{F F':Hp}(s:Same F F'):∀{ds:List D} {vs:List V},Reps K F ds vs→Reps K F' ds vs
 | [],vs,h=>by unfold Reps at h ⊢; exact h
 |d::ds,vs,h=>by unfold Reps at h ⊢; obtain ⟨v,r,e,q,z⟩:=h;exact ⟨v,r,e,Rep.mono s q,Reps.mono s z⟩
theorem RepF.mono{K:Frag}{F F':Hp}(s:Same F F'):∀{ds:List (Str×D)} {vs:List (Str×V)},RepF K F ds vs→RepF K F' ds vs
 | [],vs,h=>by unfold RepF at h ⊢; exact h
 |(x,d)::ds,vs,h=>by unfold RepF at h ⊢; obtain ⟨v,r,e,q,z⟩:=h;exact ⟨v,r,e,Rep.mono s q,RepF.mono s z⟩
theorem RepK.mono{K:Frag}{F F':Hp}(s:Same F F'):∀{ds:List (Key×D)} {vs:List (Key×V)},RepK K F ds vs→RepK K F' ds vs
 | [],vs,h=>by unfold RepK at h ⊢; exact h
 |(x,d)::ds,vs,h=>by unfold RepK at h ⊢; obtain ⟨v,r,e,q,z⟩:=h;exact ⟨v,r,e,Rep.mono s q,RepK.mono s z⟩
end
section
variable{K:Frag}{F H:Hp}
theorem rep_non{v:V}:Rep K F .non v↔v=.non:=by unfold Rep;exact Iff.rfl
theorem rep_bl{b:Bool}{v:V}:Rep K F (.bl b) v↔v=.bl b:=by unfold Rep;exact Iff.rfl
theorem rep_int{i:Int}{v:V}:Rep K F (.int i) v↔v=.int i:=by unfold Rep;exact Iff.rfl
theorem rep_str{x:Str}{v:V}:Rep K F (.str x) v↔v=.str x:=by unfold Rep;exact Iff.rfl
theorem rep_ref{a:Addr}{v:V}:Rep K F (.ref a) v↔v=.ref a:=by unfold Rep;exact Iff.rfl
theorem rep_ty{n:String}{v:V}:Rep K F (.ty n) v↔v=.ty n:=by unfold Rep;exact Iff.rfl
theorem rep_lst{ds:List D}{v:V}:Rep K F (.lst ds) v↔∃a vs,v=.ref a∧F a=some (.lst vs)∧Reps K F ds vs:=by rw[Rep]
theorem rep_tup{ds:List D}{v:V}:Rep K F (.tup ds) v↔∃a vs,v=.ref a∧F a=some (.tup vs)∧Reps K F ds vs:=by rw[Rep]
theorem rep_scr{ds:List D}{v:V}:Rep K F (.scr ds) v↔∃a vs,v=.ref a∧SqL K F a vs∧Reps K F ds vs:=by rw[Rep]
theorem rep_dwk{ds:List (Key×D)}{v:V}:Rep K F (.dwk ds) v↔∃a o us,v=.ref a∧F a=some (.frz o (.dK us))∧RepK K F ds us:=by rw[Rep]
theorem rep_dic{ds:List (Key×D)}{v:V}:Rep K F (.dic ds) v↔∃a us,v=.ref a∧F a=some (.dK us)∧RepK K F ds us:=by rw[Rep]
theorem rep_ins{C:Addr}{fs:List (Str×D)}{v:V}:Rep K F (.ins C fs) v↔∃a dx us,v=.ref a∧F a=some (.ins C dx us)∧F dx=some (.own a)∧RepF K F fs us:=by rw[Rep]
theorem rep_exc{C:Addr}{fs:List (Str×D)}{v:V}:Rep K F (.exc C fs) v↔∃a fr,v=.ref a∧((fs=[]∧F a=some (XO fr a C none))∨∃d us,F a=some (XO fr a C (some d))∧F d=some (XD d us)∧RepF K F fs us):=by rw[Rep]
theorem reps_nil{vs:List V}:Reps K F [] vs↔vs=[]:=by rw[Reps]
theorem reps_cons{d:D}{ds:List D}{vs:List V}:Reps K F (d::ds) vs↔∃v r,vs=v::r∧Rep K F d v∧Reps K F ds r:=by rw[Reps]
theorem Reps.cons{d:D}{ds:List D}{v:V}{vs:List V}(h:Rep K F d v)(t:Reps K F ds vs):Reps K F (d::ds) (v::vs):=reps_cons.mpr ⟨v,vs,rfl,h,t⟩
theorem Reps.nil:Reps K F [] []:=reps_nil.mpr rfl
theorem Reps.length:∀{ds:List D} {vs:List V},Reps K F ds vs→vs.length=ds.length
 | [],vs,h=>by rw[reps_nil.mp h];rfl
 |d::ds,vs,h=>by obtain ⟨v,r,rfl,_,z⟩:=reps_cons.mp h;rw[List.length_cons,List.length_cons,Reps.length z]
theorem Reps.append:∀{ds es:List D} {vs us:List V},Reps K F ds vs→Reps K F es us→Reps K F (ds++es) (vs++us)
 | [],es,vs,us,h,h'=>by rw[reps_nil.mp h];exact h'
 |d::ds,es,vs,us,h,h'=>by obtain ⟨v,r,rfl,q,z⟩:=reps_cons.mp h;exact Reps.cons q (Reps.append z h')
theorem Reps.get:∀{ds:List D} {vs:List V} {i:Nat} {d:D},Reps K F ds vs→ds[i]?=some d→∃v,vs[i]?=some v∧Rep K F d v
 | [],vs,i,d,h,e=>by simp at e
 |d::ds,vs,0,d',h,e=>by obtain ⟨v,r,rfl,q,z⟩:=reps_cons.mp h;simp at e;subst e;exact ⟨v,rfl,q⟩
 |d::ds,vs,i+1,d',h,e=>by obtain ⟨v,r,rfl,q,z⟩:=reps_cons.mp h;simp at e;obtain ⟨u,a,b⟩:=Reps.get z e;exact ⟨u,by simpa using a,b⟩
theorem Reps.set{d:D}{v:V}(q:Rep K F d v):∀{ds:List D} {vs:List V} (i:Nat),Reps K F ds vs→Reps K F (ds.set i d) (vs.set i v)
 | [],vs,i,h=>by rw[reps_nil.mp h];exact Reps.nil
 |e::ds,vs,0,h=>by obtain ⟨u,r,rfl,_,z⟩:=reps_cons.mp h;exact Reps.cons q z
 |e::ds,vs,i+1,h=>by obtain ⟨u,r,rfl,p,z⟩:=reps_cons.mp h;exact Reps.cons p (Reps.set q i z)
theorem Reps.atI{ds:List D}{vs:List V}{i:Int}{d:D}(h:Reps K F ds vs)(e:L2.atI ds i=some d):∃v,L2.atI vs i=some v∧Rep K F d v:=by
 unfold L2.atI at e ⊢;rw[h.length];cases hj:ixN ds.length i with
 |none=>rw[hj]at e;cases e
 |some j=>
  rw[hj]at e;obtain ⟨v,a,b⟩:=h.get e;exact ⟨v,a,b⟩
end
end DL
namespace DL
open PySem PySem.Spec L2
open PySem.W (XC)
noncomputable abbrev Dk:=Option (Addr×List D)
inductive Cell where
 |no |val (d:D)|own (ds:List D)|obj (C:Addr) (fs:List (Str×D))|ownD (kvs:List (Key×D))
noncomputable abbrev En:=List Cell
noncomputable def CellOk(K:Frag)(F H H₀:Hp)(sf:Option Addr):Cell→Option V→Prop
 | .no,_=>True
 | .val d,v=>∃u,v=some u∧Rep K F d u
 | .own ds,v=>∃a vs,v=some (.ref a)∧H a=some (.lst vs)∧F a=none∧H₀ a=none∧Reps K F ds vs
 | .obj C fs,v=>∃a dx us,v=some (.ref a)∧sf=some a∧H a=some (.ins C dx us)∧H dx=some (.own a)∧F a=none∧F dx=none∧H₀ a=none∧H₀ dx=none∧RepF K F fs us
 | .ownD kvs,v=>∃a us,v=some (.ref a)∧H a=some (.dK us)∧F a=none∧H₀ a=none∧RepK K F kvs us
noncomputable def Off(δ:Dk)(b:Addr):Prop:=∀a ds,δ=some (a,ds)→b≠a
noncomputable def DkOk(K:Frag)(F H:Hp)(δ:Dk):Prop:=∀a ds,δ=some (a,ds)→F a=none∧∃vs,H a=some (.lst vs)∧Reps K F ds vs
noncomputable def DkTo(H₀:Hp)(δ₀ δ:Dk):Prop:=(∀a ds,δ₀=some (a,ds)→∃es,δ=some (a,es))∧∀a ds,δ=some (a,ds)→δ₀=none→H₀ a=none
structure Ran(K:Frag)(F₀ H₀:Hp)(δ₀:Dk)(F H:Hp)(δ:Dk):Prop where
 sub:Same F H
 dk:DkOk K F H δ
 keep:∀b o,H₀ b=some o→Off δ₀ b→H b=some o
 f0:Same F₀ F
 fnew:∀b o,F b=some o→F₀ b=some o∨H₀ b=none
 dto:DkTo H₀ δ₀ δ
structure Y2 where
 F₀:Hp
 H₀:Hp
 δ₀:Dk
 sf:Option Addr:=none
noncomputable def u6(ρ:En)(σ:St)(i:Nat)(a:Addr):Prop:=((∃ds,ρ[i]?=some (.own ds))∨(∃C fs,ρ[i]?=some (.obj C fs))∨∃kvs,ρ[i]?=some (.ownD kvs))∧σ[i]?=some (some (.ref a))
structure I2(K:Frag)(Y:Y2)(F H:Hp)(σ:St)(ρ:En)(δ:Dk):Prop where
 ran:Ran K Y.F₀ Y.H₀ Y.δ₀ F H δ
 env:∀(i:Nat) (c:Cell),ρ[i]?=some c→CellOk K F H Y.H₀ Y.sf c (σ[i]?).join
 len:ρ.length=σ.length
 apart:∀(i j:Nat) (a:Addr),i≠j→u6 ρ σ i a→u6 ρ σ j a→False
 off:∀(i:Nat) (a:Addr),u6 ρ σ i a→Off δ a
section
variable{K:Frag}{Y:Y2}{F H F' H':Hp}{σ:St}{ρ:En}{δ:Dk}
theorem I2.sub(I:I2 K Y F H σ ρ δ):Same F H:=I.ran.sub
theorem n3{σ:St}{i:Nat}{v:V}(h:(σ[i]?).join=some v):σ[i]?=some (some v):=by
 cases e:σ[i]? with
 |none=>rw[e]at h;cases h
 |some o=>rw[e]at h;exact congrArg some h
theorem Ran.fresh(R:Ran K Y.F₀ Y.H₀ Y.δ₀ F H δ){p:Addr}(h:H p=none):Y.H₀ p=none:=by
 cases q:Y.H₀ p with
 |none=>rfl
 |some o=>
  by_cases z:∃ds,Y.δ₀=some (p,ds)
  ·obtain ⟨ds,z⟩:=z;obtain ⟨es,z2⟩:=R.dto.1 p ds z;obtain ⟨_,vs,z3,_⟩:=R.dk p es z2;rw[h]at z3;cases z3
  ·have:=R.keep p o q (fun a ds e w=>z ⟨ds,by rw[e,w]⟩);rw[h]at this;cases this
theorem Ran.alloc{o:HO}{p:Addr}(R:Ran K Y.F₀ Y.H₀ Y.δ₀ F H δ)(h:H p=none):Ran K Y.F₀ Y.H₀ Y.δ₀ (upd F p o) (upd H p o) δ:=by
 have hF:F p=none:=R.sub.free h;have h0:=R.fresh h;refine ⟨fun b u e=>?_,fun a ds e=>?_,fun b u e f=>?_,fun b u e=>?_,fun b u e=>?_,R.dto⟩
 ·by_cases z:b=p
  ·subst z;rw[x3]at e ⊢; exact e
  ·rw[o0 z]at e ⊢; exact R.sub _ _ e
 ·obtain ⟨q,vs,q2,r⟩:=R.dk a ds e;have z:a≠p:=l0 q2 h;exact ⟨by rw[o0 z];exact q,vs,by rw[o0 z];exact q2,r.mono (Same.new hF)⟩
 ·rw[o0 (l0 (R.keep b u e f) h)];exact R.keep b u e f
 ·rw[o0 (l0 (R.f0 b u e) hF)];exact R.f0 b u e
 ·by_cases z:b=p
  ·subst z;exact .inr h0
  ·rw[o0 z]at e;exact R.fnew b u e
theorem CellOk.alloc{o:HO}{p:Addr}{c:Cell}{v:Option V}{H₀:Hp}{sf:Option Addr}(s:Same F H)(h:H p=none)(x:CellOk K F H H₀ sf c v):CellOk K (upd F p o) (upd H p o) H₀ sf c v:=by
 have hF:F p=none:=s.free h;cases c with
 |no=>trivial
 |val d=>obtain ⟨u,e,r⟩:=x;exact ⟨u,e,r.mono (Same.new hF)⟩
 |own ds=>
  obtain ⟨a,vs,e,q,f,g,r⟩:=x;have z:=l0 q h;exact ⟨a,vs,e,by rw[o0 z];exact q,by rw[o0 z];exact f,g,r.mono (Same.new hF)⟩
 |obj C fs=>
  obtain ⟨a,dx,us,e,es,q,q2,f,f2,g,g2,r⟩:=x;have z:=l0 q h;have z2:=l0 q2 h;exact ⟨a,dx,us,e,es,by rw[o0 z];exact q,by rw[o0 z2];exact q2,by rw[o0 z];exact f,by rw[o0 z2];exact f2,g,g2,r.mono (Same.new hF)⟩
 |ownD kvs=>
  obtain ⟨a,us,e,q,f,g,r⟩:=x;have z:=l0 q h;exact ⟨a,us,e,by rw[o0 z];exact q,by rw[o0 z];exact f,g,r.mono (Same.new hF)⟩
theorem I2.alloc{o:HO}{p:Addr}(I:I2 K Y F H σ ρ δ)(h:H p=none):I2 K Y (upd F p o) (upd H p o) σ ρ δ:=
 ⟨I.ran.alloc h,fun i c e=>(I.env i c e).alloc I.sub h,I.len,I.apart,I.off⟩
theorem I2.lst{ds:List D}{vs:List V}{p:Addr}(I:I2 K Y F H σ ρ δ)(h:H p=none)(r:Reps K F ds vs):Rep K (upd F p (.lst vs)) (.lst ds) (.ref p):=
 rep_lst.mpr ⟨p,vs,rfl,x3,r.mono (Same.new (I.sub.free h))⟩
theorem I2.tup{ds:List D}{vs:List V}{p:Addr}(I:I2 K Y F H σ ρ δ)(h:H p=none)(r:Reps K F ds vs):Rep K (upd F p (.tup vs)) (.tup ds) (.ref p):=
 rep_tup.mpr ⟨p,vs,rfl,x3,r.mono (Same.new (I.sub.free h))⟩
theorem I2.grow{o:HO}{p:Addr}(I:I2 K Y F H σ ρ δ)(h:H p=none):Same F (upd F p o):=Same.new (I.sub.free h)
theorem I2.put{i:Nat}{v:V}{d:D}(I:I2 K Y F H σ ρ δ)(r:Rep K F d v):I2 K Y F H (σ.set i (some v)) (ρ.set i (.val d)) δ:=by
 have key:∀j a,u6 (ρ.set i (.val d)) (σ.set i (some v)) j a→j≠i∧u6 ρ σ j a:=fun j a o=>by
  by_cases z:j=i
  ·subst z;rcases o.1 with ⟨ds,q⟩|⟨C,fs,q⟩|⟨kvs,q⟩<;>
   ·rw[List.getElem?_set]at q;simp at q
  ·refine ⟨z,?_⟩;obtain ⟨o1,o2⟩:=o;simp only[List.getElem?_set_ne (Ne.symm z)]at o1 o2;exact ⟨o1,o2⟩
 refine ⟨I.ran,fun j c e=>?_,by simp[I.len],fun a b c n o1 o2=>I.apart a b c n (key a c o1).2 (key b c o2).2,fun j a o=>I.off j a (key j a o).2⟩;by_cases z:j=i
 ·subst z;rw[List.getElem?_set]at e;by_cases hl:j<ρ.length
  ·simp[hl]at e;subst e;refine ⟨v,?_,r⟩;rw[List.getElem?_set];simp[I.len▸hl]
  ·simp[hl]at e
 ·rw[List.getElem?_set_ne (Ne.symm z)]at e ⊢;exact I.env j c e
theorem I2.freeze{i:Nat}{ds:List D}(I:I2 K Y F H σ ρ δ)(e:ρ[i]?=some (.own ds)):
 ∃a vs,σ[i]?=some (some (.ref a))∧F a=none∧I2 K Y (upd F a (.lst vs)) H σ (ρ.set i (.val (.lst ds))) δ∧Rep K (upd F a (.lst vs)) (.lst ds) (.ref a):=by
 obtain ⟨a,vs,q,h,f,g,r⟩:=I.env i _ e;have hs:=n3 q;have ho:u6 ρ σ i a:=⟨.inl ⟨ds,e⟩,hs⟩;have rr:Rep K (upd F a (.lst vs)) (.lst ds) (.ref a):=rep_lst.mpr ⟨a,vs,rfl,x3,r.mono (Same.new f)⟩;refine ⟨a,vs,hs,f,?_,rr⟩;have key:∀j b,u6 (ρ.set i (.val (.lst ds))) σ j b→j≠i∧u6 ρ σ j b:=fun j b o=>by
  by_cases z:j=i
  ·subst z;rcases o.1 with ⟨ds,q⟩|⟨C,fs,q⟩|⟨kvs,q⟩<;>
   ·rw[List.getElem?_set]at q;simp at q
  ·refine ⟨z,?_⟩;obtain ⟨o1,o2⟩:=o;simp only[List.getElem?_set_ne (Ne.symm z)]at o1;exact ⟨o1,o2⟩
 refine ⟨⟨fun b u e=>?_,fun b es e=>?_,I.ran.keep,fun b u e=>?_,fun b u e=>?_,I.ran.dto⟩,fun j c e'=>?_,by simp[I.len],fun x y b n o1 o2=>I.apart x y b n (key x b o1).2 (key y b o2).2,fun j b o=>I.off j b (key j b o).2⟩
 ·by_cases z:b=a
  ·subst z;rw[x3]at e;cases e;exact h
  ·rw[o0 z]at e;exact I.sub _ _ e
 ·obtain ⟨q1,us,q2,q3⟩:=I.ran.dk b es e;exact ⟨by rw[o0 (Ne.symm (I.off i a ho b es e))];exact q1,us,q2,q3.mono (Same.new f)⟩
 ·rw[o0 (l0 (I.ran.f0 b u e) f)];exact I.ran.f0 b u e
 ·by_cases z:b=a
  ·subst z;exact .inr g
  ·rw[o0 z]at e;exact I.ran.fnew b u e
 ·by_cases z:j=i
  ·subst z;rw[List.getElem?_set]at e';by_cases hl:j<ρ.length
   ·simp[hl]at e';subst e';exact ⟨_,q,rr⟩
   ·simp[hl]at e'
  ·rw[List.getElem?_set_ne (Ne.symm z)]at e';have w:=I.env j c e';cases c with
   |no=>trivial
   |val d=>obtain ⟨u,e1,r1⟩:=w;exact ⟨u,e1,r1.mono (Same.new f)⟩
   |own es=>
    obtain ⟨b,us,e1,h1,f1,g1,r1⟩:=w;have nb:b≠a:=fun w=>I.apart j i a z ⟨.inl ⟨es,e'⟩,by rw[←w];exact n3 e1⟩ ho
    exact ⟨b,us,e1,h1,by rw[o0 nb];exact f1,g1,r1.mono (Same.new f)⟩
   |obj C fs=>
    obtain ⟨b,dx,us,e1,es1,h1,h2,f1,f2,g1,g2,r1⟩:=w;have nb:b≠a:=fun w=>by rw[w,h]at h1;cases h1
    have nd:dx≠a:=fun w=>by rw[w,h]at h2;cases h2
    exact ⟨b,dx,us,e1,es1,h1,h2,by rw[o0 nb];exact f1,by rw[o0 nd];exact f2,g1,g2,r1.mono (Same.new f)⟩
   |ownD kvs=>
    obtain ⟨b,us,e1,h1,f1,g1,r1⟩:=w;have nb:b≠a:=fun w=>by rw[w,h]at h1;cases h1
    exact ⟨b,us,e1,h1,by rw[o0 nb];exact f1,g1,r1.mono (Same.new f)⟩
end
end DL
namespace DL
open PySem PySem.Spec L2
open PySem.W (XC)
noncomputable abbrev XK2:=Addr→List (Str×D)→En→Dk→Prop
noncomputable abbrev K2:=D→En→Dk→Prop
noncomputable abbrev TE2:=XK2→En→Dk→K2→Prop
noncomputable abbrev TT2:=XK2→En→Dk→(Bool→En→Dk→Prop)→Prop
noncomputable abbrev TA2:=XK2→En→Dk→(List D→En→Dk→Prop)→Prop
noncomputable def XRep(K:Frag)(F:Hp)(od:Option Addr)(fs:List (Str×D)):Prop:=match od with
 |none=>fs=[]
 |some d=>∃us,F d=some (XD d us)∧RepF K F fs us
noncomputable def XR(K:Frag)(Y:Y2)(W:XW)(F:Hp)(x:XK2):Prop:=∀C od fs σ' F' H' ρ' δ',I2 K Y F' H' σ' ρ' δ'→Same F F'→XRep K F' od fs→x C fs ρ' δ'→W C od σ' H'
theorem XR.mono{K:Frag}{Y:Y2}{W:XW}{F F1:Hp}{x:XK2}(h:XR K Y W F x)(s:Same F F1):XR K Y W F1 x:=fun C od fs σ' F' H' ρ' δ' I s'=>h C od fs σ' F' H' ρ' δ' I (s.trans s')
noncomputable def upE(K:Frag)(Y:Y2)(W:XW)(t:TE2):TE:=fun σ H Q=>∃F ρ δ x q,I2 K Y F H σ ρ δ∧t x ρ δ q∧(∀d v F' H' ρ' δ',I2 K Y F' H' σ ρ' δ'→Same F F'→Rep K F' d v→q d ρ' δ'→Q v H')∧XR K Y W F x
noncomputable def upT(K:Frag)(Y:Y2)(W:XW)(t:TT2):TT:=fun σ H Q=>∃F ρ δ x q,I2 K Y F H σ ρ δ∧t x ρ δ q∧(∀b F' H' ρ' δ',I2 K Y F' H' σ ρ' δ'→Same F F'→q b ρ' δ'→Q b H')∧XR K Y W F x
noncomputable def upA(K:Frag)(Y:Y2)(W:XW)(t:TA2):TA:=fun σ H Q=>∃F ρ δ x q,I2 K Y F H σ ρ δ∧t x ρ δ q∧(∀ds vs F' H' ρ' δ',I2 K Y F' H' σ ρ' δ'→Same F F'→Reps K F' ds vs→q ds ρ' δ'→Q vs H')∧XR K Y W F x
structure PE2(X:Cx)(Y:Y2)(W:XW)(e:Expr)(t:TE2):Prop where
 go:PE X e (upE X.K Y W t)
structure PT2(X:Cx)(Y:Y2)(W:XW)(e:Expr)(t:TT2):Prop where
 go:PT X e (upT X.K Y W t)
structure PW2(X:Cx)(Y:Y2)(W:XW)(e:Expr)(t:TT2):Prop where
 go:PW X e (upT X.K Y W t)
structure PA2(X:Cx)(Y:Y2)(W:XW)(es:List Expr)(t:TA2):Prop where
 go:PA X es (upA X.K Y W t)
theorem y1t{X:Cx}{e:Expr}{t t':TE}(h:PE X e t)(k:∀ σ H Q,t' σ H Q→t σ H Q):PE X e t':=fun pins s σ H Q I q=>h pins s σ H Q I (k σ H Q q)
theorem y1s{X:Cx}{e:Expr}{t t':TT}(h:PT X e t)(k:∀ σ H Q,t' σ H Q→t σ H Q):PT X e t':=fun pins s σ H Q I q=>h pins s σ H Q I (k σ H Q q)
theorem y1r{X:Cx}{e:Expr}{t t':TT}(h:PW X e t)(k:∀ σ H Q,t' σ H Q→t σ H Q):PW X e t':=fun w pins s σ H Q I q=>h w pins s σ H Q I (k σ H Q q)
theorem y1q{X:Cx}{es:List Expr}{t t':TA}(h:PA X es t)(k:∀ σ H Q,t' σ H Q→t σ H Q):PA X es t':=fun p pins s σ H Q I q=>h p pins s σ H Q I (k σ H Q q)
noncomputable def a0f:Expr→Bool | .Starred _ _=>false |_=>true
theorem l5{e:Expr}{es:List Expr}{env:Env}(h:a0f e=true):starEach (e::es) env=(false,eval e env)::starEach es env:=by
 cases e<;>first |rfl |cases h
theorem z8{pos:Pos}{env:Env}:∀{es:List Expr},es.all a0f=true→(backTo pos (starEach es env)).any (·.1)=false
 | [],_=>rfl
 |e::es,h=>by
  rw[List.all_cons,Bool.and_eq_true]at h;rw[l5 h.1];show (false||(backTo pos (starEach es env)).any (·.1))=false;rw[z8 h.2];rfl
theorem pe2{X:Cx}{Y:Y2}{W:XW}{e:Expr}{t:TE}{u:TE2}(h:PE X e t)(k:∀ σ H Q,upE X.K Y W u σ H Q→t σ H Q):PE2 X Y W e u:=⟨y1t h k⟩
theorem pt2{X:Cx}{Y:Y2}{W:XW}{e:Expr}{t:TT}{u:TT2}(h:PT X e t)(k:∀ σ H Q,upT X.K Y W u σ H Q→t σ H Q):PT2 X Y W e u:=⟨y1s h k⟩
theorem pw2{X:Cx}{Y:Y2}{W:XW}{e:Expr}{t:TT}{u:TT2}(h:PW X e t)(k:∀ σ H Q,upT X.K Y W u σ H Q→t σ H Q):PW2 X Y W e u:=⟨y1r h k⟩
theorem pa2{X:Cx}{Y:Y2}{W:XW}{es:List Expr}{t:TA}{u:TA2}(h:PA X es t)(k:∀ σ H Q,upA X.K Y W u σ H Q→t σ H Q):PA2 X Y W es u:=⟨y1q h k⟩
section
variable{X:Cx}{Y:Y2}{W:XW}{a b c:Expr}{ta tb tc:TE2}{pos:Pos}
noncomputable def t2C(d:D):TE2:=fun _ ρ δ q=>q d ρ δ
theorem e2_c{e:Expr}{v:V}{d:D}(h:PE X e (tC v))(r:∀F,Rep X.K F d v):PE2 X Y W e (t2C d):=pe2 h fun σ H Q ⟨F,ρ,δ,x,q,I,h,k,kx⟩=>k d v F H ρ δ I (Same.refl F) (r F) h
theorem j0{i j pos}:PE2 X Y W (.Constant (.int i) j pos) (t2C (.int i)):=e2_c pe_int fun F=>rep_int.mpr rfl
theorem h0r{i j pos}:PE2 X Y W (.Constant (.bool i) j pos) (t2C (.bl i)):=e2_c pe_bl fun F=>rep_bl.mpr rfl
theorem s0u{j pos}:PE2 X Y W (.Constant .none j pos) (t2C .non):=e2_c pe_non fun F=>rep_non.mpr rfl
noncomputable def rdV(ρ:En)(i:Nat)(k:D→En→Prop):Prop:=match ρ[i]? with
 |some (.val d)=>k d ρ
 |some (.own ds)=>k (.lst ds) (ρ.set i (.val (.lst ds)))
 |_=>False
noncomputable def t2V(i:Nat):TE2:=fun _ ρ δ q=>rdV ρ i fun d ρ'=>q d ρ' δ
theorem rd_use{K:Frag}{F H:Hp}{σ:St}{ρ:En}{δ:Dk}{i:Nat}{k:D→En→Prop}(I:I2 K Y F H σ ρ δ)(h:rdV ρ i k):
 ∃d v F' ρ',σ[i]?=some (some v)∧I2 K Y F' H σ ρ' δ∧Same F F'∧Rep K F' d v∧k d ρ':=by
 unfold rdV at h;split at h
 ·rename_i d e;obtain ⟨v,q,r⟩:=I.env i _ e;exact ⟨d,v,F,ρ,n3 q,I,Same.refl F,r,h⟩
 ·rename_i ds e;obtain ⟨a,vs,q,f,I',r⟩:=I.freeze e;exact ⟨_,_,_,_,q,I',Same.new f,r,h⟩
 ·exact h.elim
theorem e2_v(i:Nat){x:Str}{pos:Pos}(hN:X.N[i]?=some x:=by rfl)(hv:Vis X.env.scope x:=by walk_at "v3")(hd:(x==("__debug__":Str))=false:=by decide)
 (hcd:(x==("__classdict__":Str))=false:=by decide):PE2 X Y W (.Name x pos) (t2V i):=pe2 (t0a hN hv hd hcd) fun σ H Q ⟨F,ρ,δ,x,q,I,h,k,kx⟩=>by
 obtain ⟨d,v,F',ρ',e,I',s,r,h'⟩:=rd_use I h;exact ⟨v,e,k d v F' H ρ' δ I' s r h'⟩
theorem e2_gi{x:Str}{n:Int}{u:Value}(hm:X.mg x=some u)(r:∃t,u=.int n t)(hg:Gl X x:=by rfl)(hd:(x==("__debug__":Str))=false:=by decide):PE2 X Y W (.Name x pos) (t2C (.int n)):=e2_c (g0w (v:=.int n) hg hm r hd) fun F=>rep_int.mpr rfl
theorem e2_cl{x:Str}{C:Addr}(hm:X.mg x=some (.ref C))(hg:Gl X x:=by rfl)(hd:(x==("__debug__":Str))=false:=by decide):PE2 X Y W (.Name x pos) (t2C (.ref C)):=e2_c (g0w (v:=.ref C) hg hm rfl hd) fun F=>rep_ref.mpr rfl
theorem c0f(n:String){y:Str}(hm:X.mg y=none)(hv:bootBuiltins y=some (.type n))(hg:Gl X y:=by rfl)(hn:y≠"__name__":=by decide)(hd:(y==("__debug__":Str))=false:=by decide):PE2 X Y W (.Name y pos) (t2C (.ty n)):=
 e2_c (pty n hm hv hg hn hd) fun F=>rep_ty.mpr rfl
noncomputable def x0t:TA2:=fun _ ρ δ q=>q [] ρ δ
noncomputable def w5(te:TE2)(tr:TA2):TA2:=fun x ρ δ q=>te x ρ δ fun d ρ1 δ1=>tr x ρ1 δ1 fun ds ρ2 δ2=>q (d::ds) ρ2 δ2
theorem s0:PA2 X Y W [] x0t:=pa2 g0i fun σ H Q ⟨F,ρ,δ,x,q,I,h,k,kx⟩=>k [] [] F H ρ δ I (Same.refl F) Reps.nil h
theorem v0{e:Expr}{es:List Expr}{te:TE2}{t:TA2}(ha:PE2 X Y W e te)(hr:PA2 X Y W es t)(hs:starEach (e::es) X.env=(false,eval e X.env)::starEach es X.env:=by exact l5 rfl):PA2 X Y W (e::es) (w5 te t):=
 pa2 (l0l ha.go hr.go hs) fun σ H Q ⟨F,ρ,δ,x,q,I,h,k,kx⟩=>⟨F,ρ,δ,x,_,I,h,fun d1 v1 F1 H1 ρ1 δ1 I1 s1 r1 h1=>⟨F1,ρ1,δ1,x,_,I1,h1,fun ds vs F2 H2 ρ2 δ2 I' s2 r2 h2=>
  k (d1::ds) (v1::vs) F2 H2 ρ2 δ2 I' (s1.trans s2) (Reps.cons (r1.mono s2) r2) h2,kx.mono s1⟩,kx⟩
theorem h0q{n:Nat}(h:n≤1000):n≤PySem.sizeLine:=Nat.le_trans h (by decide)
noncomputable def c0e(t:TA2):TE2:=fun x ρ δ q=>t x ρ δ fun ds ρ1 δ1=>ds.length≤1000∧q (.lst ds) ρ1 δ1
noncomputable def f0t(t:TA2):TE2:=fun x ρ δ q=>t x ρ δ fun ds ρ1 δ1=>ds.length≤1000∧q (.tup ds) ρ1 δ1
theorem p0y{es:List Expr}{t:TA2}(h:PA2 X Y W es t):PE2 X Y W (.List es pos) (c0e t):=pe2 (g0h h.go) fun σ H Q ⟨F,ρ,δ,x,q,I,h,k,kx⟩=>
 ⟨F,ρ,δ,x,_,I,h,fun ds vs F1 H1 ρ1 δ1 I1 s1 r1 h1=>⟨h0q (by rw[r1.length];exact h1.1),fun p hp=>k _ _ _ _ ρ1 δ1 (I1.alloc hp) (s1.trans (I1.grow hp)) (I1.lst hp r1) h1.2⟩,kx⟩
theorem w0z{x1}{es:List Expr}{t:TA2}(h:PA2 X Y W es t):PE2 X Y W (.Tuple es x1 pos) (f0t t):=pe2 (pe_tup h.go) fun σ H Q ⟨F,ρ,δ,x,q,I,h,k,kx⟩=>
 ⟨F,ρ,δ,x,_,I,h,fun ds vs F1 H1 ρ1 δ1 I1 s1 r1 h1=>⟨h0q (by rw[r1.length];exact h1.1),fun p hp=>k _ _ _ _ ρ1 δ1 (I1.alloc hp) (s1.trans (I1.grow hp)) (I1.tup hp r1) h1.2⟩,kx⟩
noncomputable abbrev F2:=D→D→(D→Prop)→Prop
noncomputable def OpD(K:Frag)(r:R2)(f:F2):Prop:=∀(Y:Y2) (F H:Hp) (σ:St) (ρ:En) (δ:Dk) (x y:V) (d1 d2:D) (Q1:VK) (q:D→Prop),I2 K Y F H σ ρ δ→Rep K F d1 x→Rep K F d2 y→f d1 d2 q→
 (∀d v F' H',I2 K Y F' H' σ ρ δ→Same F F'→Rep K F' d v→q d→Q1 v H')→r x y H Q1
noncomputable def t2Op(f:F2)(ta tb:TE2):TE2:=fun x ρ δ q=>ta x ρ δ fun d1 ρ1 δ1=>tb x ρ1 δ1 fun d2 ρ2 δ2=>f d1 d2 fun d=>q d ρ2 δ2
theorem c0d{r:R2}{f:F2}(hf:OpD X.K r f){σ:St}{H:Hp}{Q:VK}(h:upE X.K Y W (t2Op f ta tb) σ H Q):tOp r (upE X.K Y W ta) (upE X.K Y W tb) σ H Q:=by
 obtain ⟨F,ρ,δ,x,q,I,h,k,kx⟩:=h;exact ⟨F,ρ,δ,x,_,I,h,fun d1 v1 F1 H1 ρ1 δ1 I1 s1 r1 h1=>⟨F1,ρ1,δ1,x,_,I1,h1,fun d2 v2 F2 H2 ρ2 δ2 I' s2 r2 h2=>
  hf Y F2 H2 σ ρ2 δ2 v1 v2 d1 d2 _ _ I' (r1.mono s2) r2 h2 fun d v F' H' I' s' r' q'=>k d v F' H' ρ2 δ2 I' ((s1.trans s2).trans s') r' q',kx.mono s1⟩,kx⟩
theorem v4{op:Operator}{r:R2}{f:F2}(ho:OpR X (binaryOp op) r)(hf:OpD X.K r f)(ha:PE2 X Y W a ta)(hb:PE2 X Y W b tb):PE2 X Y W (.BinOp a op b pos) (t2Op f ta tb):=pe2 (pe_op ho ha.go hb.go) fun σ H Q h=>c0d hf h
theorem s0t{op:CmpOp}{r:R2}{f:F2}(ho:OpR X (compareOp op) r)(hf:OpD X.K r f)(ha:PE2 X Y W a ta)(hb:PE2 X Y W b tb)(hm:behindInMarks op b=false):PE2 X Y W (.Compare a [op] [b] pos) (t2Op f ta tb):=pe2 (z1f ho ha.go hb.go hm) fun σ H Q h=>c0d hf h
theorem f0s{r:R2}{f:F2}(hr:IxR X r)(hf:OpD X.K r f)(ha:PE2 X Y W a ta)(hb:PE2 X Y W b tb)(hs:l0j b:=by exact fun _ _=>rfl):PE2 X Y W (.Subscript a b pos) (t2Op f ta tb):=pe2 (pe_ix hr ha.go hb.go hs) fun σ H Q h=>c0d hf h
noncomputable def t2B(t:TE2):TT2:=fun x ρ δ q=>t x ρ δ fun d ρ1 δ1=>match d with | .bl k=>q k ρ1 δ1 |_=>False
theorem l0g{t:TE2}{σ:St}{H:Hp}{Q:Bool→Hp→Prop}(h:upT X.K Y W (t2B t) σ H Q):upE X.K Y W t σ H fun x H1=>∃c,x=.bl c∧Q c H1:=by
 obtain ⟨F,ρ,δ,x,q,I,h,k,kx⟩:=h;refine ⟨F,ρ,δ,x,_,I,h,fun d v F' H' ρ' δ' I' s' r' h'=>?_,kx⟩;cases d with
 |bl b=>exact ⟨b,rep_bl.mp r',k b F' H' ρ' δ' I' s' h'⟩
 |_=>exact h'.elim
theorem l6{e:Expr}{t:TE2}(h:PE2 X Y W e t)(he:∀whole,isTrue e X.env whole=(do let v←whole;standAt e.pos;holding [v] (truthy v)):=by intro _;rfl):PT2 X Y W e (t2B t):=pt2 (pt_val h.go he) fun σ H Q h=>l0g h
theorem u5{op:CmpOp}{r:R2}{f:F2}(ho:OpR X (compareOp op) r)(hf:OpD X.K r f)(ha:PE2 X Y W a ta)(hb:PE2 X Y W b tb)(hm:behindInMarks op b=false):PT2 X Y W (.Compare a [op] [b] pos) (t2B (t2Op f ta tb)):=
 pt2 (z1e ho ha.go hb.go hm) fun σ H Q h=>c0d hf (l0g h)
noncomputable def f0r(t:TT2):TT2:=fun x ρ δ q=>t x ρ δ fun k ρ1 δ1=>q (!k) ρ1 δ1
theorem j6{t:TT2}(h:PT2 X Y W a t):PT2 X Y W (.UnaryOp .Not a pos) (f0r t):=pt2 (pt_not h.go) fun σ H Q ⟨F,ρ,δ,x,q,I,h,k,kx⟩=>⟨F,ρ,δ,x,_,I,h,fun b F' H' ρ' δ' I' s' h'=>k _ F' H' ρ' δ' I' s' h',kx⟩
noncomputable def t2And(t u:TT2):TT2:=fun x ρ δ q=>t x ρ δ fun k ρ1 δ1=>if k=true then u x ρ1 δ1 q else q false ρ1 δ1
noncomputable def t2Or(t u:TT2):TT2:=fun x ρ δ q=>t x ρ δ fun k ρ1 δ1=>if k=true then q true ρ1 δ1 else u x ρ1 δ1 q
variable{tA tB':TT2}{rest:List Expr}
theorem p0x(ha:PT2 X Y W a tA):PW2 X Y W (.BoolOp .Or [a] pos) tA:=⟨pw_or1 ha.go⟩
theorem l0f(ha:PT2 X Y W a tA)(hb:PW2 X Y W (.BoolOp .Or (b::rest) pos) tB'):PW2 X Y W (.BoolOp .Or (a::b::rest) pos) (t2Or tA tB'):=pw2 (pw_or ha.go hb.go) fun σ H Q ⟨F,ρ,δ,x,q,I,h,k,kx⟩=>by
 refine ⟨F,ρ,δ,x,_,I,h,fun b F' H' ρ' δ' I' s' h'=>?_,kx⟩;cases b with
 |true=>rw[if_pos rfl]at h' ⊢; exact k true F' H' ρ' δ' I' s' h'
 |false=>rw[if_neg Bool.false_ne_true]at h' ⊢; exact ⟨F',ρ',δ',x,q,I',h',fun b F2 H2 ρ2 δ2 I2 s2 h2=>k b F2 H2 ρ2 δ2 I2 (s'.trans s2) h2,kx.mono s'⟩
theorem PW2.pt(h:PW2 X Y W a tA):PT2 X Y W a tA:=⟨PW.pt h.go⟩
noncomputable def i0y(ta tb:TE2):TE2:=fun x ρ δ q=>ta x ρ δ fun d ρ1 δ1=>match d with | .bl k=>if k=true then tb x ρ1 δ1 q else q (.bl false) ρ1 δ1 |_=>False
noncomputable def t2OrV(ta tb:TE2):TE2:=fun x ρ δ q=>ta x ρ δ fun d ρ1 δ1=>match d with | .bl k=>if k=true then q (.bl true) ρ1 δ1 else tb x ρ1 δ1 q |_=>False
noncomputable def i0x(ta:TE2):TE2:=fun x ρ δ q=>ta x ρ δ fun d ρ1 δ1=>match d with | .bl k=>q (.bl (!k)) ρ1 δ1 |_=>False
theorem f0q{op}(h:PE2 X Y W a ta):PE2 X Y W (.BoolOp op [a] pos) ta:=⟨pe_one h.go⟩
theorem f0p(ha:PE2 X Y W a ta)(hb:PE2 X Y W (.BoolOp .And (b::rest) pos) tb):PE2 X Y W (.BoolOp .And (a::b::rest) pos) (i0y ta tb):=pe2 (pe_and ha.go hb.go) fun σ H Q ⟨F,ρ,δ,x,q,I,h,k,kx⟩=>by
 refine ⟨F,ρ,δ,x,_,I,h,fun d v F' H' ρ' δ' I' s' r' h'=>?_,kx⟩;cases d with
 |bl b=>
  refine ⟨b,rep_bl.mp r',?_⟩;cases b with
  |true=>dsimp only at h';rw[if_pos rfl]at h' ⊢; exact ⟨F',ρ',δ',x,q,I',h',fun d v F2 H2 ρ2 δ2 I2 s2 r2 h2=>k d v F2 H2 ρ2 δ2 I2 (s'.trans s2) r2 h2,kx.mono s'⟩
  |false=>dsimp only at h';rw[if_neg Bool.false_ne_true]at h' ⊢; exact k _ _ F' H' ρ' δ' I' s' (rep_bl.mpr rfl) h'
 |_=>exact h'.elim
theorem e2_not(ha:PE2 X Y W a ta):PE2 X Y W (.UnaryOp .Not a pos) (i0x ta):=pe2 (pe_not ha.go) fun σ H Q ⟨F,ρ,δ,x,q,I,h,k,kx⟩=>by
 refine ⟨F,ρ,δ,x,_,I,h,fun d v F' H' ρ' δ' I' s' r' h'=>?_,kx⟩;cases d with
 |bl b=>exact ⟨b,rep_bl.mp r',k _ _ F' H' ρ' δ' I' s' (rep_bl.mpr rfl) h'⟩
 |_=>exact h'.elim
noncomputable def t2If(t:TT2)(ta tb:TE2):TE2:=fun x ρ δ q=>t x ρ δ fun k ρ1 δ1=>if k=true then ta x ρ1 δ1 q else tb x ρ1 δ1 q
theorem e2_if{e:Expr}(hc:PT2 X Y W e tA)(ha:PE2 X Y W a ta)(hb:PE2 X Y W b tb):PE2 X Y W (.IfExp e a b pos) (t2If tA ta tb):=pe2 (c0t hc.go ha.go hb.go) fun σ H Q ⟨F,ρ,δ,x,q,I,h,k,kx⟩=>by
 refine ⟨F,ρ,δ,x,_,I,h,fun b F' H' ρ' δ' I' s' h'=>?_,kx⟩;cases b with
 |true=>rw[if_pos rfl]at h' ⊢; exact ⟨F',ρ',δ',x,q,I',h',fun d v F2 H2 ρ2 δ2 I2 s2 r2 h2=>k d v F2 H2 ρ2 δ2 I2 (s'.trans s2) r2 h2,kx.mono s'⟩
 |false=>rw[if_neg Bool.false_ne_true]at h' ⊢; exact ⟨F',ρ',δ',x,q,I',h',fun d v F2 H2 ρ2 δ2 I2 s2 r2 h2=>k d v F2 H2 ρ2 δ2 I2 (s'.trans s2) r2 h2,kx.mono s'⟩
noncomputable def w0b(f f':F2)(ta tb tc:TE2):TE2:=fun x ρ δ q=>ta x ρ δ fun d1 ρ1 δ1=>tb x ρ1 δ1 fun d2 ρ2 δ2=>f d1 d2 fun d=>match d with
 | .bl k=>if k=true then tc x ρ2 δ2 fun d3 ρ3 δ3=>f' d2 d3 fun d=>q d ρ3 δ3 else q (.bl false) ρ2 δ2
 |_=>False
theorem i0w{r r':R2}{f f':F2}(hf:OpD X.K r f)(hf':OpD X.K r' f'){σ:St}{H:Hp}{Q:VK}(h:upE X.K Y W (w0b f f' ta tb tc) σ H Q):g0l r r' (upE X.K Y W ta) (upE X.K Y W tb) (upE X.K Y W tc) σ H Q:=by
 obtain ⟨F,ρ,δ,x,q,I,h,k,kx⟩:=h;refine ⟨F,ρ,δ,x,_,I,h,fun d1 v1 F1 H1 ρ1 δ1 I1 s1 r1 h1=>⟨F1,ρ1,δ1,x,_,I1,h1,fun d2 v2 F2 H2 ρ2 δ2 I2 s2 r2 h2=>?_,kx.mono s1⟩,kx⟩;refine hf Y F2 H2 σ ρ2 δ2 v1 v2 d1 d2 _ _ I2 (r1.mono s2) r2 h2 fun d v F' H' I' s' r' q'=>?_
 cases d with
 |bl b=>
  refine ⟨b,rep_bl.mp r',?_⟩;have s3:=(s1.trans s2).trans s';cases b with
  |true=>
   dsimp only at q';rw[if_pos rfl]at q' ⊢;exact ⟨F',ρ2,δ2,x,_,I',q',fun d3 v3 F3 H3 ρ3 δ3 I3 s4 r3 h3=>hf' Y F3 H3 σ ρ3 δ3 v2 v3 d2 d3 _ _ I3 (r2.mono (s'.trans s4)) r3 h3 fun d v F4 H4 I4 s5 r4 q4=>k d v F4 H4 ρ3 δ3 I4 ((s3.trans s4).trans s5) r4 q4,kx.mono s3⟩
  |false=>
   dsimp only at q';rw[if_neg Bool.false_ne_true]at q' ⊢;exact k _ _ F' H' ρ2 δ2 I' s3 (rep_bl.mpr rfl) q'
 |_=>exact q'.elim
theorem c0c{op op':CmpOp}{r r':R2}{f f':F2}(ho:OpR X (compareOp op) r)(ho':OpR X (compareOp op') r')(hf:OpD X.K r f)(hf':OpD X.K r' f')(ha:PE2 X Y W a ta)(hb:PE2 X Y W b tb)(hc:PE2 X Y W c tc)
 (hm:lastMarks [op,op'] [b,c]=false:=by with_unfolding_all rfl):PE2 X Y W (.Compare a [op,op'] [b,c] pos) (w0b f f' ta tb tc):=pe2 (c0s ho ho' ha.go hb.go hc.go hm) fun σ H Q h=>i0w hf hf' h
theorem c0b{op op':CmpOp}{r r':R2}{f f':F2}(ho:OpR X (compareOp op) r)(ho':OpR X (compareOp op') r')(hf:OpD X.K r f)(hf':OpD X.K r' f')(ha:PE2 X Y W a ta)(hb:PE2 X Y W b tb)(hc:PE2 X Y W c tc)
 (hm:lastMarks [op,op'] [b,c]=false:=by with_unfolding_all rfl):PT2 X Y W (.Compare a [op,op'] [b,c] pos) (t2B (w0b f f' ta tb tc)):=pt2 (c0r ho ho' ha.go hb.go hc.go hm) fun σ H Q h=>i0w hf hf' (l0g h)
noncomputable abbrev F1:=List D→(D→Prop)→Prop
noncomputable def w0y(K:Frag)(r:List V→Hp→VK→Prop)(f:F1):Prop:=∀(Y:Y2) (F H:Hp) (σ:St) (ρ:En) (δ:Dk) (vs:List V) (ds:List D) (Q1:VK) (q:D→Prop),I2 K Y F H σ ρ δ→Reps K F ds vs→f ds q→
 (∀d v F' H',I2 K Y F' H' σ ρ δ→Same F F'→Rep K F' d v→q d→Q1 v H')→r vs H Q1
noncomputable def t2Bi(f:F1)(t:TA2):TE2:=fun x ρ δ q=>t x ρ δ fun ds ρ1 δ1=>f ds fun d=>q d ρ1 δ1
theorem y1p{r:List V→Hp→VK→Prop}{f:F1}{t:TA2}(hf:w0y X.K r f){σ:St}{H:Hp}{Q:VK}(h:upE X.K Y W (t2Bi f t) σ H Q):tCB r (upA X.K Y W t) σ H Q:=by
 obtain ⟨F,ρ,δ,x,q,I,h,k,kx⟩:=h;exact ⟨F,ρ,δ,x,_,I,h,fun ds vs F1 H1 ρ1 δ1 I1 s1 r1 h1=>hf Y F1 H1 σ ρ1 δ1 vs ds _ _ I1 r1 h1 fun d v F' H' I' s' r' q'=>k d v F' H' ρ1 δ1 I' (s1.trans s') r' q',kx⟩
variable{x:Str}{e:Expr}{es:List Expr}{t:TA2}{p:Pos}
theorem e2_b{id:String}{r:List V→Hp→VK→Prop}{f:F1}(hc:y0c X (.builtin id) r)(hf:w0y X.K r f)(hm:X.mg x=none)(hv:bootBuiltins x=some (.builtin id))(ha:PA2 X Y W (e::es) t)(hg:Gl X x:=by rfl)(hn:x≠"__name__":=by decide)(hdb:(x==("__debug__":Str))=false:=by decide)
 (he:starEach (e::es) X.env=(false,eval e X.env)::starEach es X.env:=by exact l5 rfl) (hpl:(backTo pos (starEach es X.env)).any (·.1)=false:=by exact z8 rfl):PE2 X Y W (.Call (.Name x p) (e::es) [] pos) (t2Bi f t):=pe2 (p0l hc hg hm hv ha.go hn hdb he hpl) fun σ H Q h=>y1p hf h
theorem y0b{T:String}{r:List V→Hp→VK→Prop}{f:F1}(hc:y0c X (.type T) r)(hf:w0y X.K r f)(hm:X.mg x=none)(hv:bootBuiltins x=some (.type T))(ha:PA2 X Y W (e::es) t)(hg:Gl X x:=by rfl)(hn:x≠"__name__":=by decide)(hdb:(x==("__debug__":Str))=false:=by decide)
 (he:starEach (e::es) X.env=(false,eval e X.env)::starEach es X.env:=by exact l5 rfl) (hpl:(backTo pos (starEach es X.env)).any (·.1)=false:=by exact z8 rfl):PE2 X Y W (.Call (.Name x p) (e::es) [] pos) (t2Bi f t):=pe2 (n0z hc hg hm hv ha.go hn hdb he hpl) fun σ H Q h=>y1p hf h
noncomputable def t2Un(f:D→(D→Prop)→Prop)(ta:TE2):TE2:=fun x ρ δ q=>ta x ρ δ fun d ρ1 δ1=>f d fun d=>q d ρ1 δ1
theorem e2_neg(ha:PE2 X Y W a ta):PE2 X Y W (.UnaryOp .USub a pos) (t2Un (fun d q=>match d with | .int i=>q (.int (-i))|_=>False) ta):=pe2 (pe_un un_neg ha.go) fun σ H Q ⟨F,ρ,δ,x,q,I,h,k,kx⟩=>by
 refine ⟨F,ρ,δ,x,_,I,h,fun d v F' H' ρ' δ' I' s' r' h'=>?_,kx⟩;cases d with
 |int i=>exact ⟨i,rep_int.mp r',k _ _ F' H' ρ' δ' I' s' (rep_int.mpr rfl) h'⟩
 |_=>exact h'.elim
end
end DL
namespace DL
open PySem PySem.Spec L2
open PySem.W (XC)
section
variable{X:Cx}{K:Frag}
theorem a0e{f:Value→Value→Sem Value}{r r':R2}(h:OpR X f r)(h':OpR X f r'):OpR X f (fun x y H Q=>r x y H Q∨r' x y H Q):=by
 intro pins s σ H x y v u Q I rx ry q;rcases q with q |q
 ·exact h pins s σ H x y v u Q I rx ry q
 ·exact h' pins s σ H x y v u Q I rx ry q
noncomputable def fI(C:Int→Int→Prop)(g:Int→Int→D):F2:=fun d1 d2 q=>match d1,d2 with
 | .int i,.int j=>C i j∧q (g i j)
 |_,_=>False
theorem dI{C:Int→Int→Prop}{g:Int→Int→V}{g':Int→Int→D}(h:∀F i j,Rep K F (g' i j) (g i j)):OpD K (rI C g) (fI C g'):=by
 intro Y F H σ ρ δ x y d1 d2 Q1 q I r1 r2 h' k;unfold fI at h';split at h'
 ·rename_i i j;exact ⟨i,j,rep_int.mp r1,rep_int.mp r2,h'.1,k _ _ F H I (Same.refl F) (h F i j) h'.2⟩
 ·exact h'.elim
noncomputable def fI0(g:Int→Int→D):F2:=fun d1 d2 q=>match d1,d2 with
 | .int i,.int j=>q (g i j)
 |_,_=>False
theorem dI0{g:Int→Int→V}{g':Int→Int→D}(h:∀F i j,Rep K F (g' i j) (g i j)):OpD K (rI0 g) (fI0 g'):=by
 intro Y F H σ ρ δ x y d1 d2 Q1 q I r1 r2 h' k;unfold fI0 at h';split at h'
 ·rename_i i j;exact ⟨i,j,rep_int.mp r1,rep_int.mp r2,k _ _ F H I (Same.refl F) (h F i j) h'⟩
 ·exact h'.elim
noncomputable def y1o(K:Frag):R2:=fun x y H Q=>rI0 (fun i j=>.int (i+j)) x y H Q∨rCat x y H Q
noncomputable def addF:F2:=fun d1 d2 q=>match d1,d2 with
 | .int i,.int j=>q (.int (i+j))
 | .lst xs,.lst ys=>xs.length+ys.length≤1000∧q (.lst (xs++ys))
 |_,_=>False
theorem y1n:OpR X (binaryOp .Add) (y1o X.K):=a0e op_add op_cat
theorem d_add:OpD K (y1o K) addF:=by
 intro Y F H σ ρ δ x y d1 d2 Q1 q I r1 r2 h' k;unfold addF at h';split at h'
 ·rename_i i j;exact .inl ⟨i,j,rep_int.mp r1,rep_int.mp r2,k _ _ F H I (Same.refl F) (rep_int.mpr rfl) h'⟩
 ·rename_i xs ys;obtain ⟨a,vs,rfl,e1,z1⟩:=rep_lst.mp r1;obtain ⟨b,us,rfl,e2,z2⟩:=rep_lst.mp r2;refine .inr ⟨a,b,vs,us,rfl,rfl,I.sub _ _ e1,I.sub _ _ e2,h0q (by rw[z1.length,z2.length];exact h'.1),fun p hp=>k _ _ _ _ (I.alloc hp) (I.grow hp) (I.lst hp (z1.append z2)) h'.2⟩
 ·exact h'.elim
noncomputable abbrev subF:F2:=fI0 fun i j=>.int (i-j)
noncomputable abbrev mulF:F2:=fI CMul fun i j=>.int (i*j)
noncomputable abbrev c0a:F2:=fI CDiv fun i j=>.int (i/j)
noncomputable abbrev modF:F2:=fI (fun _ j=>0<j) fun i j=>.int (i%j)
noncomputable abbrev powF:F2:=fI CPow fun i j=>.int (i^j.toNat)
noncomputable abbrev ltF:F2:=fI0 fun i j=>.bl (decide (i<j))
noncomputable abbrev leF:F2:=fI0 fun i j=>.bl (decide (i≤j))
noncomputable abbrev gtF:F2:=fI0 fun i j=>.bl (decide (j<i))
noncomputable abbrev geF:F2:=fI0 fun i j=>.bl (decide (j≤i))
theorem l0e:OpD K (rI0 fun i j=>.int (i-j)) subF:=dI0 fun _ _ _=>rep_int.mpr rfl
theorem q0k:OpD K (rI CMul fun i j=>.int (i*j)) mulF:=dI fun _ _ _=>rep_int.mpr rfl
theorem a0d:OpD K (rI CDiv fun i j=>.int (i/j)) c0a:=dI fun _ _ _=>rep_int.mpr rfl
theorem n0r:OpD K (rI (fun _ j=>0<j) fun i j=>.int (i%j)) modF:=dI fun _ _ _=>rep_int.mpr rfl
theorem d_pow:OpD K (rI CPow fun i j=>.int (i^j.toNat)) powF:=dI fun _ _ _=>rep_int.mpr rfl
theorem d_lt:OpD K (rI0 fun i j=>.bl (decide (i<j))) ltF:=dI0 fun _ _ _=>rep_bl.mpr rfl
theorem d_le:OpD K (rI0 fun i j=>.bl (decide (i≤j))) leF:=dI0 fun _ _ _=>rep_bl.mpr rfl
theorem d_gt:OpD K (rI0 fun i j=>.bl (decide (j<i))) gtF:=dI0 fun _ _ _=>rep_bl.mpr rfl
theorem d_ge:OpD K (rI0 fun i j=>.bl (decide (j≤i))) geF:=dI0 fun _ _ _=>rep_bl.mpr rfl
noncomputable def repF:F2:=fun d1 d2 q=>match d1,d2 with
 | .lst xs,.int k=>xs.length*k.toNat≤1000∧0≤k∧k≤1000∧q (.lst (List.replicate k.toNat xs).flatten)
 |_,_=>False
noncomputable def eqD:D→D→Option Bool
 | .int i,.int j=>some (decide (i=j))
 | .bl i,.bl j=>some (decide (i=j))
 | .str i,.str j=>some (decide (i=j))
 | .non,.non=>some true
 | .non,.int _=>some false | .non,.bl _=>some false | .non,.str _=>some false
 | .int _,.non=>some false | .bl _,.non=>some false | .str _,.non=>some false
 | .int _,.str _=>some false | .bl _,.str _=>some false
 | .str _,.int _=>some false | .str _,.bl _=>some false
 |_,_=>none
noncomputable def eqF:F2:=fun d1 d2 q=>match eqD d1 d2 with |some b=>q (.bl b)|none=>False
noncomputable def neF:F2:=fun d1 d2 q=>match eqD d1 d2 with |some b=>q (.bl (!b))|none=>False
theorem eqD_v{F:Hp}{d1 d2:D}{x y:V}{b:Bool}(h:eqD d1 d2=some b)(r1:Rep K F d1 x)(r2:Rep K F d2 y):scal x y=true∧decide (x=y)=b:=by
 unfold eqD at h;split at h<;>first |cases h |skip
 all_goals
  first
   |(rw[rep_int.mp r1,rep_int.mp r2];exact ⟨rfl,by simp⟩)
   |(rw[rep_bl.mp r1,rep_bl.mp r2];exact ⟨rfl,by simp⟩)
   |(rw[rep_str.mp r1,rep_str.mp r2];exact ⟨rfl,by simp⟩)
   |(rw[rep_non.mp r1,rep_non.mp r2];exact ⟨rfl,by simp⟩)
   |(rw[rep_non.mp r1,rep_int.mp r2];exact ⟨rfl,by simp⟩)
   |(rw[rep_non.mp r1,rep_bl.mp r2];exact ⟨rfl,by simp⟩)
   |(rw[rep_non.mp r1,rep_str.mp r2];exact ⟨rfl,by simp⟩)
   |(rw[rep_int.mp r1,rep_non.mp r2];exact ⟨rfl,by simp⟩)
   |(rw[rep_bl.mp r1,rep_non.mp r2];exact ⟨rfl,by simp⟩)
   |(rw[rep_str.mp r1,rep_non.mp r2];exact ⟨rfl,by simp⟩)
   |(rw[rep_int.mp r1,rep_str.mp r2];exact ⟨rfl,by simp⟩)
   |(rw[rep_bl.mp r1,rep_str.mp r2];exact ⟨rfl,by simp⟩)
   |(rw[rep_str.mp r1,rep_int.mp r2];exact ⟨rfl,by simp⟩)
   |(rw[rep_str.mp r1,rep_bl.mp r2];exact ⟨rfl,by simp⟩)
theorem d_eq:OpD K rEq eqF:=by
 intro Y F H σ ρ δ x y d1 d2 Q1 q I r1 r2 h' k;unfold eqF at h';split at h'
 ·rename_i b e;obtain ⟨s,e2⟩:=eqD_v e r1 r2;exact ⟨s,by rw[e2];exact k _ _ F H I (Same.refl F) (rep_bl.mpr rfl) h'⟩
 ·exact h'.elim
theorem d_ne:OpD K rNe neF:=by
 intro Y F H σ ρ δ x y d1 d2 Q1 q I r1 r2 h' k;unfold neF at h';split at h'
 ·rename_i b e;obtain ⟨s,e2⟩:=eqD_v e r1 r2;exact ⟨s,by rw[e2];exact k _ _ F H I (Same.refl F) (rep_bl.mpr rfl) h'⟩
 ·exact h'.elim
noncomputable def p0w:D→Bool | .non=>true |_=>false
noncomputable def isNF:F2:=fun d1 d2 q=>match d2 with | .non=>q (.bl (p0w d1))|_=>False
noncomputable def b0z:F2:=fun d1 d2 q=>match d2 with | .non=>q (.bl (!p0w d1))|_=>False
theorem f0o{F:Hp}{d:D}{x:V}(r:Rep K F d x):decide (x=.non)=p0w d:=by
 cases d with
 |non=>rw[rep_non.mp r];rfl
 |bl b=>rw[rep_bl.mp r];rfl
 |int b=>rw[rep_int.mp r];rfl
 |str b=>rw[rep_str.mp r];rfl
 |lst b=>obtain ⟨a,vs,rfl,_⟩:=rep_lst.mp r;rfl
 |tup b=>obtain ⟨a,vs,rfl,_⟩:=rep_tup.mp r;rfl
 |scr b=>obtain ⟨a,vs,rfl,_⟩:=rep_scr.mp r;rfl
 |dic b=>obtain ⟨a,vs,rfl,_⟩:=rep_dic.mp r;rfl
 |dwk b=>obtain ⟨a,o,vs,rfl,_⟩:=rep_dwk.mp r;rfl
 |ins C b=>obtain ⟨a,dx,vs,rfl,_⟩:=rep_ins.mp r;rfl
 |exc C b=>obtain ⟨a,fr,rfl,_⟩:=rep_exc.mp r;rfl
 |ref a=>rw[rep_ref.mp r];rfl
 |ty a=>rw[rep_ty.mp r];rfl
theorem d_isN:OpD K (fun x y H Q=>y=.non∧Q (.bl (decide (x=.non))) H) isNF:=by
 intro Y F H σ ρ δ x y d1 d2 Q1 q I r1 r2 h' k;cases d2 with
 |non=>exact ⟨rep_non.mp r2,by rw[f0o r1];exact k _ _ F H I (Same.refl F) (rep_bl.mpr rfl) h'⟩
 |_=>exact h'.elim
theorem a0c:OpD K (fun x y H Q=>y=.non∧Q (.bl (!decide (x=.non))) H) b0z:=by
 intro Y F H σ ρ δ x y d1 d2 Q1 q I r1 r2 h' k;cases d2 with
 |non=>exact ⟨rep_non.mp r2,by rw[f0o r1];exact k _ _ F H I (Same.refl F) (rep_bl.mpr rfl) h'⟩
 |_=>exact h'.elim
noncomputable def isBF:F2:=fun d1 d2 q=>match d1,d2 with | .bl i,.bl j=>q (.bl (i==j))|_,_=>False
noncomputable def notBF:F2:=fun d1 d2 q=>match d1,d2 with | .bl i,.bl j=>q (.bl (!(i==j)))|_,_=>False
noncomputable def seqD:D→Option (List D)
 | .lst xs=>some xs | .tup xs=>some xs | .scr xs=>some xs |_=>none
noncomputable def ixF:F2:=fun d1 d2 q=>match seqD d1,d2 with
 |some xs,.int i=>match atI xs i with |some d=>q d |none=>False
 |_,_=>False
theorem p0v{F H:Hp}{d:D}{xs:List D}{x:V}(s:Same F H)(h:seqD d=some xs)(r:Rep K F d x):∃a vs,x=.ref a∧(SqL K H a vs∨SqT K H a vs)∧Reps K F xs vs:=by
 cases d with
 |lst ys=>cases h;obtain ⟨a,vs,rfl,e,z⟩:=rep_lst.mp r;exact ⟨a,vs,rfl,.inl (SqL.of (s _ _ e)),z⟩
 |tup ys=>cases h;obtain ⟨a,vs,rfl,e,z⟩:=rep_tup.mp r;exact ⟨a,vs,rfl,.inr (SqT.of (s _ _ e)),z⟩
 |scr ys=>cases h;obtain ⟨a,vs,rfl,e,z⟩:=rep_scr.mp r;exact ⟨a,vs,rfl,.inl (s.sqL e),z⟩
 |_=>cases h
theorem d_ix:OpD K (rIx K) ixF:=by
 intro Y F H σ ρ δ x y d1 d2 Q1 q I r1 r2 h' k;unfold ixF at h';split at h'
 ·rename_i xs i e;split at h'
  ·rename_i d ed;obtain ⟨a,vs,rfl,sq,z⟩:=p0v I.sub e r1;obtain ⟨v,ev,rv⟩:=z.atI ed;have fin:=k d v F H I (Same.refl F) rv h';rcases sq with sq |sq
   ·exact .inl ⟨a,vs,i,v,rfl,rep_int.mp r2,sq,ev,fin⟩
   ·exact .inr (.inl ⟨a,vs,i,v,rfl,rep_int.mp r2,sq,ev,fin⟩)
  ·exact h'.elim
 ·exact h'.elim
noncomputable def m6:D→Bool | .non=>true | .bl _=>true | .int _=>true | .str _=>true |_=>false
noncomputable def toV:D→V | .bl b=>.bl b | .int i=>.int i | .str x=>.str x |_=>.non
theorem a0b{F:Hp}{d:D}{x:V}(h:m6 d=true)(r:Rep K F d x):x=toV d∧q0m x=true:=by
 cases d with
 |non=>rw[rep_non.mp r];exact ⟨rfl,rfl⟩
 |bl b=>rw[rep_bl.mp r];exact ⟨rfl,rfl⟩
 |int b=>rw[rep_int.mp r];exact ⟨rfl,rfl⟩
 |str b=>rw[rep_str.mp r];exact ⟨rfl,rfl⟩
 |_=>cases h
theorem f0n{F:Hp}:∀{ds:List D} {xs:List V},ds.all m6=true→Reps K F ds xs→xs=ds.map toV∧xs.all q0m=true
 | [],xs,_,r=>by rw[reps_nil.mp r];exact ⟨rfl,rfl⟩
 |d::ds,xs,h,r=>by
  obtain ⟨v,vs,rfl,r1,r2⟩:=reps_cons.mp r;rw[List.all_cons,Bool.and_eq_true]at h;obtain ⟨e1,e2⟩:=a0b h.1 r1;obtain ⟨e3,e4⟩:=f0n h.2 r2;rw[List.all_cons,e2,e4,List.map_cons,← e1,← e3];exact ⟨rfl,rfl⟩
noncomputable def inD(d:D)(xs:List D):Bool:=xs.any fun e=>eqV (toV e) (toV d)
noncomputable def inF:F2:=fun d1 d2 q=>match seqD d2 with |some xs=>(m6 d1&&xs.all m6)=true∧q (.bl (inD d1 xs))|none=>False
noncomputable def notInF:F2:=fun d1 d2 q=>match seqD d2 with |some xs=>(m6 d1&&xs.all m6)=true∧q (.bl (!inD d1 xs))|none=>False
theorem y1m(d:D)(xs:List D):inV (toV d) (xs.map toV)=inD d xs:=by unfold inV inD;rw[List.any_map];rfl
theorem d_in:OpD K (rIn K false) inF:=by
 intro Y F H σ ρ δ x y d1 d2 Q1 q I r1 r2 h' k;unfold inF at h';split at h'
 ·rename_i xs e;obtain ⟨h1,h2⟩:=h';rw[Bool.and_eq_true]at h1;obtain ⟨a,vs,rfl,sq,z⟩:=p0v I.sub e r2;obtain ⟨e1,e2⟩:=a0b h1.1 r1;obtain ⟨e3,e4⟩:=f0n h1.2 z;refine ⟨a,vs,rfl,sq,e2,e4,?_⟩;rw[e1,e3,y1m];exact k _ _ F H I (Same.refl F) (rep_bl.mpr rfl) h2
 ·exact h'.elim
noncomputable def lenF:F1:=fun ds q=>match ds with | [d]=>(match seqD d with |some xs=>q (.int (xs.length:Nat))|none=>False)|_=>False
theorem z0f{F:Hp}{d:D}{vs:List V}(r:Reps K F [d] vs):∃v,vs=[v]∧Rep K F d v:=by
 obtain ⟨v,l,rfl,r1,r2⟩:=reps_cons.mp r;rw[reps_nil.mp r2];exact ⟨v,rfl,r1⟩
theorem f0m{F:Hp}{d e:D}{vs:List V}(r:Reps K F [d,e] vs):∃v u,vs=[v,u]∧Rep K F d v∧Rep K F e u:=by
 obtain ⟨v,l,rfl,r1,r2⟩:=reps_cons.mp r;obtain ⟨u,rfl,r3⟩:=z0f r2;exact ⟨v,u,rfl,r1,r3⟩
theorem l0d:w0y K (fun xs H Q=>∃p ys,xs=[.ref p]∧(SqL K H p ys∨SqT K H p ys)∧Q (.int ys.length) H) lenF:=by
 intro Y F H σ ρ δ vs ds Q1 q I r h' k;unfold lenF at h';split at h'
 ·split at h'
  ·rename_i xs e;obtain ⟨v,rfl,r1⟩:=z0f r;obtain ⟨a,us,rfl,sq,z⟩:=p0v I.sub e r1;exact ⟨a,us,rfl,sq,by rw[z.length];exact k _ _ F H I (Same.refl F) (rep_int.mpr rfl) h'⟩
  ·exact h'.elim
 ·exact h'.elim
noncomputable def absF:F1:=fun ds q=>match ds with | [.int i]=>q (.int (if i<0 then -i else i))|_=>False
theorem d_abs:w0y K (fun xs H Q=>∃i,xs=[.int i]∧Q (.int (if i<0 then -i else i)) H) absF:=by
 intro Y F H σ ρ δ vs ds Q1 q I r h' k;unfold absF at h';split at h'
 ·obtain ⟨v,rfl,r1⟩:=z0f r;rw[rep_int.mp r1];exact ⟨_,rfl,k _ _ F H I (Same.refl F) (rep_int.mpr rfl) h'⟩
 ·exact h'.elim
noncomputable def minF:F1:=fun ds q=>match ds with | [.int i,.int j]=>q (.int (if j<i then j else i))|_=>False
noncomputable def maxF:F1:=fun ds q=>match ds with | [.int i,.int j]=>q (.int (if j>i then j else i))|_=>False
theorem d_min:w0y K (fun xs H Q=>∃i j,xs=[.int i,.int j]∧Q (.int (if j<i then j else i)) H) minF:=by
 intro Y F H σ ρ δ vs ds Q1 q I r h' k;unfold minF at h';split at h'
 ·obtain ⟨v,u,rfl,r1,r2⟩:=f0m r;rw[rep_int.mp r1,rep_int.mp r2];exact ⟨_,_,rfl,k _ _ F H I (Same.refl F) (rep_int.mpr rfl) h'⟩
 ·exact h'.elim
noncomputable def intF:F1:=fun ds q=>match ds with | [.int i]=>q (.int i)| [.bl k]=>q (.int (if k then 1 else 0))|_=>False
theorem d_int:w0y K (fun xs H Q=>(∃i,xs=[.int i]∧Q (.int i) H)∨∃k,xs=[.bl k]∧Q (.int (if k then 1 else 0)) H) intF:=by
 intro Y F H σ ρ δ vs ds Q1 q I r h' k;unfold intF at h';split at h'
 ·obtain ⟨v,rfl,r1⟩:=z0f r;rw[rep_int.mp r1];exact .inl ⟨_,rfl,k _ _ F H I (Same.refl F) (rep_int.mpr rfl) h'⟩
 ·obtain ⟨v,rfl,r1⟩:=z0f r;rw[rep_bl.mp r1];exact .inr ⟨_,rfl,k _ _ F H I (Same.refl F) (rep_int.mpr rfl) h'⟩
 ·exact h'.elim
noncomputable def f0l:F1:=fun ds q=>match ds with | [d]=>(match seqD d with |some xs=>q (.lst xs)|none=>False)|_=>False
theorem a0a:w0y K (fun xs H Q=>∃p ys,xs=[.ref p]∧(SqL K H p ys∨SqT K H p ys)∧∀l,H l=none→Q (.ref l) (upd H l (.lst ys))) f0l:=by
 intro Y F H σ ρ δ vs ds Q1 q I r h' k;unfold f0l at h';split at h'
 ·split at h'
  ·rename_i xs e;obtain ⟨v,rfl,r1⟩:=z0f r;obtain ⟨a,us,rfl,sq,z⟩:=p0v I.sub e r1;exact ⟨a,us,rfl,sq,fun l hl=>k _ _ _ _ (I.alloc hl) (I.grow hl) (I.lst hl z) h'⟩
  ·exact h'.elim
 ·exact h'.elim
noncomputable def p0u:F1:=fun ds q=>match ds with | [.lst xs]=>q (.tup xs)| [.scr xs]=>q (.tup xs)| [.tup xs]=>q (.tup xs)|_=>False
theorem f7:w0y K (fun xs H Q=>∃p ys,xs=[.ref p]∧((SqL K H p ys∧∀l,H l=none→Q (.ref l) (upd H l (.tup ys)))∨(SqT K H p ys∧Q (.ref p) H))) p0u:=by
 intro Y F H σ ρ δ vs ds Q1 q I r h' k;unfold p0u at h';split at h'
 ·obtain ⟨v,rfl,r1⟩:=z0f r;obtain ⟨a,us,rfl,e,z⟩:=rep_lst.mp r1;exact ⟨a,us,rfl,.inl ⟨SqL.of (I.sub _ _ e),fun l hl=>k _ _ _ _ (I.alloc hl) (I.grow hl) (I.tup hl z) h'⟩⟩
 ·obtain ⟨v,rfl,r1⟩:=z0f r;obtain ⟨a,us,rfl,e,z⟩:=rep_scr.mp r1;exact ⟨a,us,rfl,.inl ⟨I.sub.sqL e,fun l hl=>k _ _ _ _ (I.alloc hl) (I.grow hl) (I.tup hl z) h'⟩⟩
 ·obtain ⟨v,rfl,r1⟩:=z0f r;obtain ⟨a,us,rfl,e,z⟩:=rep_tup.mp r1;exact ⟨a,us,rfl,.inr ⟨SqT.of (I.sub _ _ e),k _ _ F H I (Same.refl F) (rep_tup.mpr ⟨a,us,rfl,e,z⟩) h'⟩⟩
 ·exact h'.elim
noncomputable def blsD:List D→Option (List Bool)
 | []=>some []
 | .bl b::r=>(blsD r).map (b::·)
 |_=>none
theorem bls_v{F:Hp}:∀{ds:List D} {bs:List Bool} {vs:List V},blsD ds=some bs→Reps K F ds vs→vs=bs.map V.bl
 | [],bs,vs,h,r=>by cases h;rw[reps_nil.mp r];rfl
 |d::ds,bs,vs,h,r=>by
  obtain ⟨v,l,rfl,r1,r2⟩:=reps_cons.mp r;cases d with
  |bl b=>
   unfold blsD at h;obtain ⟨cs,e1,rfl⟩:=Option.map_eq_some_iff.mp h;rw[rep_bl.mp r1,bls_v e1 r2];rfl
  |_=>cases h
noncomputable def allF:F1:=fun ds q=>match ds with | [.lst xs]=>(match blsD xs with |some bs=>q (.bl (bs.all id))|none=>False)|_=>False
theorem f0k:w0y K (rAll K) allF:=by
 intro Y F H σ ρ δ vs ds Q1 q I r h' k;unfold allF at h';split at h'
 ·split at h'
  ·rename_i xs _ bs e;obtain ⟨v,rfl,r1⟩:=z0f r;obtain ⟨a,us,rfl,e2,z⟩:=rep_lst.mp r1;exact ⟨a,bs,rfl,SqL.of (by rw[←bls_v e z];exact I.sub _ _ e2),k _ _ F H I (Same.refl F) (rep_bl.mpr rfl) h'⟩
  ·exact h'.elim
 ·exact h'.elim
structure ClsI(K:Frag)(C:Addr):Prop where
 cl:Cls K C
 ha:PySem.W.findIn K (.ref C) "__class__"=some (some (.builtin "object.__class__"))
 hn:PySem.W.specialIn K (.builtin "object.__class__") "__get__"=some (some (.builtin "getset_descriptor.__get__"))
 htk:PySem.W.takesIn K (.builtin "object.__class__")=some true
 hm:PySem.W.mroIn K C (.type "object")=some true
noncomputable def tyD:D→Value
 | .non=>.type "NoneType" | .bl _=>.type "bool" | .int _=>.type "int" | .str _=>.type "str" | .lst _=>.type "list" | .scr _=>.type "list" | .tup _=>.type "tuple" | .dic _=>.type "dict"
 | .ins C _=>.ref C | .exc C _=>.ref C |_=>.none
noncomputable def TyD(K:Frag):D→Prop
 | .ins C _=>ClsI K C | .exc C _=>XC K C | .ref _=>False | .ty _=>False | .scr _=>False | .dwk _=>False |_=>True
theorem tyD_v{F H:Hp}{d:D}{x:V}(s:Same F H)(t:TyD K d)(r:Rep K F d x):TyX K H x (tyD d):=by
 cases d with
 |non=>rw[rep_non.mp r];exact .of .non
 |bl b=>rw[rep_bl.mp r];exact .of (.bl b)
 |int b=>rw[rep_int.mp r];exact .of (.int b)
 |str b=>rw[rep_str.mp r];exact .of (.str b)
 |lst b=>obtain ⟨a,vs,rfl,e,_⟩:=rep_lst.mp r;exact .of (.lst (s _ _ e))
 |tup b=>obtain ⟨a,vs,rfl,e,_⟩:=rep_tup.mp r;exact .of (.tup (s _ _ e))
 |scr b=>exact t.elim
 |dic b=>obtain ⟨a,vs,rfl,e,_⟩:=rep_dic.mp r;exact .of (.dK (s _ _ e))
 |dwk b=>exact t.elim
 |ins C b=>obtain ⟨a,dx,vs,rfl,e,_⟩:=rep_ins.mp r;exact .of (.ins (s _ _ e) t.cl t.ha t.hn t.htk t.hm)
 |exc C b=>
  obtain ⟨a,fr,rfl,h⟩:=rep_exc.mp r;rcases h with ⟨_,e⟩|⟨d,us,e,e2,_⟩
  ·exact .exc0 (s _ _ e) t
  ·exact .exc (s _ _ e) (s _ _ e2) t
 |ref a=>exact t.elim
 |ty a=>exact t.elim
noncomputable def tysD:List D→Option (List String)
 | []=>some []
 | .ty n::r=>(tysD r).map (n::·)
 |_=>none
theorem tys_v{F:Hp}:∀{ds:List D} {ns:List String} {vs:List V},tysD ds=some ns→Reps K F ds vs→vs=ns.map V.ty
 | [],bs,vs,h,r=>by cases h;rw[reps_nil.mp r];rfl
 |d::ds,bs,vs,h,r=>by
  obtain ⟨v,l,rfl,r1,r2⟩:=reps_cons.mp r;cases d with
  |ty b=>
   unfold tysD at h;obtain ⟨cs,e1,rfl⟩:=Option.map_eq_some_iff.mp h;rw[rep_ty.mp r1,tys_v e1 r2];rfl
  |_=>cases h
noncomputable def n0q(K:Frag)(d c:D):Option Bool:=match c with
 | .ty n=>PySem.W.kitOne K (tyD d) (.type n)
 | .ref C=>PySem.W.kitOne K (tyD d) (.ref C)
 | .tup cs=>match tysD cs with |some ns=>PySem.W.kitAny K (tyD d) (ns.map Value.type)|none=>none
 |_=>none
noncomputable def h0p(K:Frag):F1:=fun ds q=>match ds with | [d,c]=>TyD K d∧(match n0q K d c with |some b=>q (.bl b)|none=>False)|_=>False
theorem i0v:w0y K (rInst K) (h0p K):=by
 intro Y F H σ ρ δ vs ds Q1 q I r h' k;unfold h0p at h';split at h'
 ·rename_i d c;obtain ⟨ht,h'⟩:=h';obtain ⟨v,u,rfl,r1,r2⟩:=f0m r;split at h'
  ·rename_i b e;refine ⟨v,u,_,b,rfl,tyD_v I.sub ht r1,?_,k _ _ F H I (Same.refl F) (rep_bl.mpr rfl) h'⟩;unfold n0q at e;split at e
   ·exact .inl ⟨_,rep_ty.mp r2,e⟩
   ·exact .inr (.inl ⟨_,rep_ref.mp r2,e⟩)
   ·split at e
    ·rename_i ns en;obtain ⟨a,us,rfl,e2,z⟩:=rep_tup.mp r2;exact .inr (.inr ⟨a,ns,rfl,by rw[←tys_v en z];exact I.sub _ _ e2,e⟩)
    ·cases e
   ·cases e
  ·exact h'.elim
 ·exact h'.elim
end
end DL
namespace DL
open PySem PySem.Spec L2
open PySem.W (XC)
structure End2 where
 nx:En→Dk→Prop
 rt:D→Dk→Prop
 xc:XK2
 bk:En→Dk→Prop:=fun _ _=>False
 ct:En→Dk→Prop:=fun _ _=>False
noncomputable abbrev TS2:=End2→En→Dk→Prop
structure ER(K:Frag)(Y:Y2)(W:XW)(F:Hp)(E2:End2)(E1:Ends):Prop where
 nx:∀ σ' F' H' ρ' δ',I2 K Y F' H' σ' ρ' δ'→Same F F'→E2.nx ρ' δ'→E1.nx σ' H'
 rt:∀d v σ' F' H' ρ' δ',I2 K Y F' H' σ' ρ' δ'→Same F F'→Rep K F' d v→E2.rt d δ'→E1.rt v H'
 xc:XR K Y W F E2.xc
 bk:∀ σ' F' H' ρ' δ',I2 K Y F' H' σ' ρ' δ'→Same F F'→E2.bk ρ' δ'→E1.bk σ' H'
 ct:∀ σ' F' H' ρ' δ',I2 K Y F' H' σ' ρ' δ'→Same F F'→E2.ct ρ' δ'→E1.ct σ' H'
theorem ER.mono{K:Frag}{Y:Y2}{W:XW}{F F1:Hp}{E2:End2}{E1:Ends}(h:ER K Y W F E2 E1)(s:Same F F1):ER K Y W F1 E2 E1:=
 ⟨fun σ' F' H' ρ' δ' I s'=>h.nx σ' F' H' ρ' δ' I (s.trans s'),fun d v σ' F' H' ρ' δ' I s'=>h.rt d v σ' F' H' ρ' δ' I (s.trans s'),h.xc.mono s,fun σ' F' H' ρ' δ' I s'=>h.bk σ' F' H' ρ' δ' I (s.trans s'),fun σ' F' H' ρ' δ' I s'=>h.ct σ' F' H' ρ' δ' I (s.trans s')⟩
noncomputable def upS(K:Frag)(Y:Y2)(W:XW)(t:TS2):TS:=fun E1 σ H=>∃F ρ δ E2,I2 K Y F H σ ρ δ∧t E2 ρ δ∧ER K Y W F E2 E1
structure PS2(X:Cx)(Y:Y2)(W:XW)(st:Stmt)(t:TS2):Prop where
 go:PS X st (upS X.K Y W t)
structure PSs2(X:Cx)(Y:Y2)(W:XW)(st:List Stmt)(t:TS2):Prop where
 go:PSs X st (upS X.K Y W t)
theorem y1l{X:Cx}{st:Stmt}{t t':TS}(h:PS X st t)(k:∀D σ H,t' D σ H→t D σ H):PS X st t':=fun pins s σ H D I q=>h pins s σ H D I (k D σ H q)
theorem i0u{X:Cx}{st:List Stmt}{t t':TS}(h:PSs X st t)(k:∀D σ H,t' D σ H→t D σ H):PSs X st t':=fun pins s σ H D I q=>h pins s σ H D I (k D σ H q)
theorem ps2{X:Cx}{Y:Y2}{W:XW}{st:Stmt}{t:TS}{u:TS2}(h:PS X st t)(k:∀D σ H,upS X.K Y W u D σ H→t D σ H):PS2 X Y W st u:=⟨y1l h k⟩
theorem pss2{X:Cx}{Y:Y2}{W:XW}{st:List Stmt}{t:TS}{u:TS2}(h:PSs X st t)(k:∀D σ H,upS X.K Y W u D σ H→t D σ H):PSs2 X Y W st u:=⟨i0u h k⟩
section
variable{X:Cx}{Y:Y2}{W:XW}{st:Stmt}{rest:List Stmt}{t u:TS2}{e:Expr}{te:TE2}{pos:Pos}
noncomputable def n0p:TS2:=fun E ρ δ=>E.nx ρ δ
noncomputable def b0y(t u:TS2):TS2:=fun E ρ δ=>t {E with nx:=u E} ρ δ
theorem n4:PSs2 X Y W [] n0p:=pss2 z1k fun E1 σ H ⟨F,ρ,δ,E2,I,h,er⟩=>er.nx σ F H ρ δ I (Same.refl F) h
theorem i0(h1:PS2 X Y W st t)(h2:PSs2 X Y W rest u):PSs2 X Y W (st::rest) (b0y t u):=pss2 (j0g h1.go h2.go) fun E1 σ H ⟨F,ρ,δ,E2,I,h,er⟩=>
 ⟨F,ρ,δ,{E2 with nx:=u E2},I,h,⟨fun σ' F' H' ρ' δ' I' s' h'=>⟨F',ρ',δ',E2,I',h',er.mono s'⟩,er.rt,er.xc,er.bk,er.ct⟩⟩
theorem y3(h1:PS2 X Y W st t):PSs2 X Y W [st] t:=⟨w0c h1.go⟩
noncomputable def y1k:TS2:=fun E ρ δ=>E.bk ρ δ
noncomputable def t2Cont:TS2:=fun E ρ δ=>E.ct ρ δ
noncomputable def n0o(te:TE2):TS2:=fun E ρ δ=>te E.xc ρ δ fun _ ρ1 δ1=>E.nx ρ1 δ1
theorem l9(he:PE2 X Y W e te)(hs:swapsWith e none pos.line X.env=pure false:=by rfl):PS2 X Y W (.Expr e pos) (n0o te):=ps2 (z1j he.go hs) fun E1 σ H ⟨F,ρ,δ,E2,I,h,er⟩=>
 ⟨F,ρ,δ,E2.xc,_,I,h,fun d v F' H' ρ' δ' I' s' r' h'=>er.nx σ F' H' ρ' δ' I' s' h',er.xc⟩
noncomputable def h0o(te:TE2):TS2:=fun E ρ δ=>te E.xc ρ δ fun d _ δ1=>E.rt d δ1
theorem j3(he:PE2 X Y W e te):PS2 X Y W (.Return (some e) pos) (h0o te):=ps2 (a0o he.go) fun E1 σ H ⟨F,ρ,δ,E2,I,h,er⟩=>
 ⟨F,ρ,δ,E2.xc,_,I,h,fun d v F' H' ρ' δ' I' s' r' h'=>er.rt d v σ F' H' ρ' δ' I' s' r' h',er.xc⟩
noncomputable def t2RetN:TS2:=fun E _ δ=>E.rt .non δ
noncomputable def f0j(c:TT2)(t u:TS2):TS2:=fun E ρ δ=>c E.xc ρ δ fun b ρ1 δ1=>if b=true then t E ρ1 δ1 else u E ρ1 δ1
theorem a5{c:Expr}{a b:List Stmt}{tc:TT2}(hc:PT2 X Y W c tc)(ha:PSs2 X Y W a t)(hb:PSs2 X Y W b u):PS2 X Y W (.If c a b pos) (f0j tc t u):=ps2 (ps_if hc.go ha.go hb.go) fun E1 σ H ⟨F,ρ,δ,E2,I,h,er⟩=>by
 refine ⟨F,ρ,δ,E2.xc,_,I,h,fun b F' H' ρ' δ' I' s' h'=>?_,er.xc⟩;cases b with
 |true=>rw[if_pos rfl]at h' ⊢; exact ⟨F',ρ',δ',E2,I',h',er.mono s'⟩
 |false=>rw[if_neg Bool.false_ne_true]at h' ⊢; exact ⟨F',ρ',δ',E2,I',h',er.mono s'⟩
variable{i:Nat}{x:Str}{pos' p:Pos}
noncomputable def f0i(i:Nat)(te:TE2):TS2:=fun E ρ δ=>te E.xc ρ δ fun d ρ1 δ1=>E.nx (ρ1.set i (.val d)) δ1
theorem y4(i:Nat)(hN:X.N.Nodup)(he:PE2 X Y W e te)(hi:X.N[i]?=some x:=by rfl)(hx:Loc X.env.scope x:=by walk_at "v2")(hs:swapsWith e (some (.Name x pos')) pos.line X.env=pure false:=by rfl)
 (hf:X.fn x=true∨X.env.scope.names.lookup x=some .local:=by walk_at "v1"):PS2 X Y W (.Assign [.Name x pos'] e pos) (f0i i te):=ps2 (a0n (i:=i) hN hi hx he.go hs hf) fun E1 σ H ⟨F,ρ,δ,E2,I,h,er⟩=>
 ⟨F,ρ,δ,E2.xc,_,I,h,fun d v F' H' ρ' δ' I' s' r' h'=>er.nx _ F' H' _ δ' (I'.put r') s' h',er.xc⟩
theorem I2.own{K:Frag}{F H:Hp}{σ:St}{ρ:En}{δ:Dk}{i:Nat}{p:Addr}{ds:List D}{vs:List V}(I:I2 K Y F H σ ρ δ)(h:H p=none)(r:Reps K F ds vs):I2 K Y F (upd H p (.lst vs)) (σ.set i (some (.ref p))) (ρ.set i (.own ds)) δ:=by
 have hF:F p=none:=I.sub.free h;have h0:=I.ran.fresh h;have key:∀j a,u6 (ρ.set i (.own ds)) (σ.set i (some (.ref p))) j a→(j=i∧a=p)∨(j≠i∧u6 ρ σ j a):=fun j a o=>by
  by_cases z:j=i
  ·subst z;have:=o.2;rw[List.getElem?_set]at this;by_cases hl:j<σ.length
   ·simp[hl]at this;exact .inl ⟨rfl,this.symm⟩
   ·simp[hl]at this
  ·obtain ⟨o1,o2⟩:=o;simp only[List.getElem?_set_ne (Ne.symm z)]at o1 o2;exact .inr ⟨z,o1,o2⟩
 have addr:∀j a,u6 ρ σ j a→a≠p:=fun j a o=>by
  rcases o.1 with ⟨ds,q⟩|⟨C,fs,q⟩|⟨kvs,q⟩
  ·obtain ⟨b,us,e,hb,_⟩:=I.env j _ q;rw[o.2]at e;cases e;exact l0 hb h
  ·obtain ⟨b,dx,us,e,es0,hb,_⟩:=I.env j _ q;rw[o.2]at e;cases e;exact l0 hb h
  ·obtain ⟨b,us,e,hb,_⟩:=I.env j _ q;rw[o.2]at e;cases e;exact l0 hb h
 refine ⟨⟨fun b u e=>?_,fun a es e=>?_,fun b u e f=>?_,I.ran.f0,I.ran.fnew,I.ran.dto⟩,fun j c e=>?_,by simp[I.len],fun a b c n o1 o2=>?_,fun j a o=>?_⟩
 ·rw[o0 (l0 e hF)];exact I.sub _ _ e
 ·obtain ⟨q,us,q2,r2⟩:=I.ran.dk a es e;exact ⟨q,us,by rw[o0 (l0 q2 h)];exact q2,r2⟩
 ·rw[o0 (l0 (I.ran.keep b u e f) h)];exact I.ran.keep b u e f
 ·by_cases z:j=i
  ·subst z;rw[List.getElem?_set]at e;by_cases hl:j<ρ.length
   ·simp[hl]at e;subst e;refine ⟨p,vs,?_,x3,hF,h0,r⟩;rw[List.getElem?_set];simp[I.len▸hl]
   ·simp[hl]at e
  ·rw[List.getElem?_set_ne (Ne.symm z)]at e ⊢;have w:=I.env j c e;cases c with
   |no=>trivial
   |val d=>exact w
   |own es=>
    obtain ⟨b,us,e1,h1,f1,g1,r1⟩:=w;exact ⟨b,us,e1,by rw[o0 (l0 h1 h)];exact h1,f1,g1,r1⟩
   |obj C fs=>
    obtain ⟨b,dx,us,e1,es1,h1,h2,f1,f2,g1,g2,r1⟩:=w;exact ⟨b,dx,us,e1,es1,by rw[o0 (l0 h1 h)];exact h1,by rw[o0 (l0 h2 h)];exact h2,f1,f2,g1,g2,r1⟩
   |ownD kvs=>
    obtain ⟨b,us,e1,h1,f1,g1,r1⟩:=w;exact ⟨b,us,e1,by rw[o0 (l0 h1 h)];exact h1,f1,g1,r1⟩
 ·rcases key a c o1 with ⟨z1,z2⟩|⟨z1,z2⟩
  ·rcases key b c o2 with ⟨y1,y2⟩|⟨y1,y2⟩
   ·exact n (z1.trans y1.symm)
   ·exact addr b c y2 z2
  ·rcases key b c o2 with ⟨y1,y2⟩|⟨y1,y2⟩
   ·exact addr a c z2 y2
   ·exact I.apart a b c n z2 y2
 ·rcases key j a o with ⟨z1,z2⟩|⟨z1,z2⟩
  ·intro b es eb w;obtain ⟨_,us,q2,_⟩:=I.ran.dk b es eb;rw[←w,z2,h]at q2;cases q2
  ·exact I.off j a z2
noncomputable def b0x(i:Nat)(ta:TA2):TS2:=fun E ρ δ=>ta E.xc ρ δ fun ds ρ1 δ1=>ds.length≤1000∧E.nx (ρ1.set i (.own ds)) δ1
theorem n0n(i:Nat){es:List Expr}{ta:TA2}{lpos:Pos}(hN:X.N.Nodup)(ha:PA2 X Y W es ta)(hi:X.N[i]?=some x:=by rfl)(hx:Loc X.env.scope x:=by walk_at "v2")(hs:swapsWith (.List es lpos) (some (.Name x pos')) pos.line X.env=pure false:=by rfl)
 (hf:X.fn x=true∨X.env.scope.names.lookup x=some .local:=by walk_at "v1"):PS2 X Y W (.Assign [.Name x pos'] (.List es lpos) pos) (b0x i ta):=ps2 (a0n (i:=i) hN hi hx (g0h ha.go) hs hf) fun E1 σ H ⟨F,ρ,δ,E2,I,h,er⟩=>
 ⟨F,ρ,δ,E2.xc,_,I,h,fun ds vs F1 H1 ρ1 δ1 I1 s1 r1 h1=>⟨h0q (by rw[r1.length];exact h1.1),fun p hp=>er.nx _ F1 _ _ δ1 (I1.own hp r1) s1 h1.2⟩,er.xc⟩
noncomputable def f0h(i:Nat)(ta:TA2):TS2:=fun E ρ δ=>ta E.xc ρ δ fun ds ρ1 δ1=>match ds with | [d]=>(match seqD d with |some xs=>E.nx (ρ1.set i (.own xs)) δ1 |none=>False)|_=>False
noncomputable def hasV(ρ:En)(i:Nat):Bool:=match ρ[i]? with |some .no=>false |none=>false |_=>true
theorem has_v{K:Frag}{F H:Hp}{σ:St}{ρ:En}{δ:Dk}(I:I2 K Y F H σ ρ δ)(h:hasV ρ i=true):∃v,σ[i]?=some (some v):=by
 unfold hasV at h;split at h
 ·cases h
 ·cases h
 ·rename_i o n1 n2;cases e:ρ[i]? with
  |none=>exact absurd e n2
  |some c=>
   have w:=I.env i c e;cases c with
   |no=>exact absurd e n1
   |val d=>obtain ⟨v,q,_⟩:=w;exact ⟨v,n3 q⟩
   |own ds=>obtain ⟨a,vs,q,_⟩:=w;exact ⟨_,n3 q⟩
   |obj C fs=>obtain ⟨a,dx,vs,q,_⟩:=w;exact ⟨_,n3 q⟩
   |ownD kvs=>obtain ⟨a,vs,q,_⟩:=w;exact ⟨_,n3 q⟩
noncomputable def seqV(ρ:En)(δ:Dk)(i:Nat):Option (List D):=match ρ[i]? with
 |some (.own ds)=>some ds
 |some (.val (.ref a))=>(match δ with |some (b,ds)=>if a=b then some ds else none |none=>none)
 |some (.val d)=>seqD d
 |_=>none
theorem seq_v{K:Frag}{F H:Hp}{σ:St}{ρ:En}{δ:Dk}{ds:List D}(I:I2 K Y F H σ ρ δ)(h:seqV ρ δ i=some ds):∃a vs,σ[i]?=some (some (.ref a))∧(SqL K H a vs∨SqT K H a vs)∧Reps K F ds vs:=by
 unfold seqV at h;split at h
 ·rename_i es e;cases h;obtain ⟨a,vs,q,hh,_,_,r⟩:=I.env i _ e;exact ⟨a,vs,n3 q,.inl (SqL.of hh),r⟩
 ·rename_i a e;split at h
  ·rename_i b es;by_cases z:a=b
   ·subst z;simp at h;subst h;obtain ⟨u,q,r⟩:=I.env i _ e;rw[rep_ref.mp r]at q;obtain ⟨_,vs,hh,rr⟩:=I.ran.dk a es rfl;exact ⟨a,vs,n3 q,.inl (SqL.of hh),rr⟩
   ·simp[z]at h
  ·cases h
 ·rename_i d _ e;obtain ⟨u,q,r⟩:=I.env i _ e;obtain ⟨a,vs,rfl,sq,z⟩:=p0v I.sub h r;exact ⟨a,vs,n3 q,sq,z⟩
 ·cases h
variable{a b:Expr}{ta tb:TE2}
noncomputable def ixQ(o:Option (List D))(d:D):Option D:=match o,d with |some xs,.int j=>atI xs j |_,_=>none
noncomputable def n0m(i:Nat)(tb:TE2):TE2:=fun x ρ δ q=>hasV ρ i=true∧tb x ρ δ fun d ρ1 δ1=>match ixQ (seqV ρ1 δ1 i) d with |some e=>q e ρ1 δ1 |none=>False
theorem x4(i:Nat)(hb:PE2 X Y W b tb)(hN:X.N[i]?=some x:=by rfl)(hv:Vis X.env.scope x:=by walk_at "v3")(hd:(x==("__debug__":Str))=false:=by decide)
 (hcd:(x==("__classdict__":Str))=false:=by decide) (hs:l0j b:=by exact fun _ _=>rfl):PE2 X Y W (.Subscript (.Name x p) b pos) (n0m i tb):=pe2 (pe_ix q0a (t0a hN hv hd hcd) hb.go hs) fun σ H Q ⟨F,ρ,δ,x,q,I,h,k,kx⟩=>by
 obtain ⟨v,ev⟩:=has_v I h.1;refine ⟨v,ev,F,ρ,δ,x,_,I,h.2,fun d w F' H' ρ' δ' I' s' r' h'=>?_,kx⟩;split at h'
 ·rename_i e ee;unfold ixQ at ee;split at ee
  ·rename_i xs j es;obtain ⟨a,vs,ea,sq,z⟩:=seq_v I' es;rw[ev]at ea;cases ea;obtain ⟨v2,e2,r2⟩:=z.atI ee;have fin:=k e v2 F' H' ρ' δ' I' s' r2 h';rcases sq with sq |sq
   ·exact .inl ⟨a,vs,j,v2,rfl,rep_int.mp r',sq,e2,fin⟩
   ·exact .inr (.inl ⟨a,vs,j,v2,rfl,rep_int.mp r',sq,e2,fin⟩)
  ·cases ee
 ·exact h'.elim
noncomputable def n0l(i:Nat):TE2:=fun x ρ δ q=>match seqV ρ δ i with |some xs=>q (.int (xs.length:Nat)) ρ δ |none=>False
theorem j5(i:Nat){np:Pos}(hm:X.mg "len"=none)(hg:Gl X "len":=by rfl)(hN:X.N[i]?=some x:=by rfl)(hv:Vis X.env.scope x:=by walk_at "v3")(hd:(x==("__debug__":Str))=false:=by decide)
 (hcd:(x==("__classdict__":Str))=false:=by decide) (hst:starEach [.Name x p] X.env=[(false,eval (.Name x p) X.env)]:=by rfl) (hpl:(backTo pos (starEach [] X.env)).any (·.1)=false:=by exact z8 rfl):
 PE2 X Y W (.Call (.Name "len" np) [.Name x p] [] pos) (n0l i):=pe2 (p0l x5 hg hm u0o (l0l (t0a hN hv hd hcd) g0i hst) (by decide) (by decide) hst hpl) fun σ H Q ⟨F,ρ,δ,x,q,I,h,k,kx⟩=>by
 unfold n0l at h;split at h
 ·rename_i xs e;obtain ⟨a,vs,ea,sq,z⟩:=seq_v I e;exact ⟨_,ea,a,vs,rfl,sq,by rw[z.length];exact k _ _ F H ρ δ I (Same.refl F) (rep_int.mpr rfl) h⟩
 ·exact h.elim
noncomputable def mutV(ρ:En)(δ:Dk)(i:Nat):Option (List D×(List D→En×Dk)):=match ρ[i]? with
 |some (.own ds)=>some (ds,fun es=>(ρ.set i (.own es),δ))
 |some (.val (.ref a))=>(match δ with |some (b,ds)=>if a=b then some (ds,fun es=>(ρ,some (b,es)))else none |none=>none)
 |_=>none
theorem y1j{K:Frag}{F H:Hp}{σ:St}{ρ:En}{δ:Dk}{ds:List D}{put:List D→En×Dk}(I:I2 K Y F H σ ρ δ)(h:mutV ρ δ i=some (ds,put)):
 ∃a vs,σ[i]?=some (some (.ref a))∧H a=some (.lst vs)∧Reps K F ds vs∧∀es us,Reps K F es us→I2 K Y F (upd H a (.lst us)) σ (put es).1 (put es).2:=by
 unfold mutV at h;split at h
 ·rename_i es e;cases h;obtain ⟨a,vs,q,hh,hF,h0,r⟩:=I.env i _ e;have hs:=n3 q;have ho:u6 ρ σ i a:=⟨.inl ⟨_,e⟩,hs⟩;refine ⟨a,vs,hs,hh,r,fun es us r2=>?_⟩;have key:∀j b,u6 (ρ.set i (.own es)) σ j b→u6 ρ σ j b:=fun j b o=>by
   by_cases z:j=i
   ·subst z;exact ⟨ho.1,o.2⟩
   ·obtain ⟨o1,o2⟩:=o;simp only[List.getElem?_set_ne (Ne.symm z)]at o1;exact ⟨o1,o2⟩
  refine ⟨⟨fun b u e=>?_,fun b fs e=>?_,fun b u e f=>?_,I.ran.f0,I.ran.fnew,I.ran.dto⟩,fun j c e'=>?_,by simp[I.len],fun x y b n o1 o2=>I.apart x y b n (key x b o1) (key y b o2),fun j b o=>I.off j b (key j b o)⟩
  ·rw[o0 (l0 e hF)];exact I.sub _ _ e
  ·obtain ⟨q1,ws,q2,q3⟩:=I.ran.dk b fs e;exact ⟨q1,ws,by rw[o0 (Ne.symm (I.off i a ho b fs e))];exact q2,q3⟩
  ·rw[o0 (l0 e h0)];exact I.ran.keep b u e f
  ·by_cases z:j=i
   ·subst z;rw[List.getElem?_set]at e';by_cases hl:j<ρ.length
    ·simp[hl]at e';subst e';exact ⟨a,us,q,x3,hF,h0,r2⟩
    ·simp[hl]at e'
   ·rw[List.getElem?_set_ne (Ne.symm z)]at e';have w:=I.env j c e';cases c with
    |no=>trivial
    |val d=>exact w
    |own fs=>
     obtain ⟨b,ws,e1,h1,f1,g1,r1⟩:=w;have nb:b≠a:=fun w=>I.apart j i a z ⟨.inl ⟨fs,e'⟩,by rw[←w];exact n3 e1⟩ ho
     exact ⟨b,ws,e1,by rw[o0 nb];exact h1,f1,g1,r1⟩
    |obj C fs=>
     obtain ⟨b,dx,ws,e1,es1,h1,h2,f1,f2,g1,g2,r1⟩:=w;have nb:b≠a:=fun w=>by rw[w,hh]at h1;cases h1
     have nd:dx≠a:=fun w=>by rw[w,hh]at h2;cases h2
     exact ⟨b,dx,ws,e1,es1,by rw[o0 nb];exact h1,by rw[o0 nd];exact h2,f1,f2,g1,g2,r1⟩
    |ownD kvs=>
     obtain ⟨b,ws,e1,h1,f1,g1,r1⟩:=w;have nb:b≠a:=fun w=>by rw[w,hh]at h1;cases h1
     exact ⟨b,ws,e1,by rw[o0 nb];exact h1,f1,g1,r1⟩
 ·rename_i a e;split at h
  ·rename_i b es;by_cases z:a=b
   ·subst z;simp at h;obtain ⟨rfl,rfl⟩:=h;obtain ⟨u,q,r⟩:=I.env i _ e;rw[rep_ref.mp r]at q;obtain ⟨hF,vs,hh,rr⟩:=I.ran.dk a es rfl;refine ⟨a,vs,n3 q,hh,rr,fun fs us r2=>?_⟩;refine ⟨⟨fun b u e=>?_,fun b gs e=>?_,fun b u eb fb=>?_,I.ran.f0,I.ran.fnew,⟨fun b gs e=>?_,fun b gs e n=>?_⟩⟩,fun j c e'=>?_,I.len,I.apart,fun j b o c gs e=>?_⟩
    ·rw[o0 (l0 e hF)];exact I.sub _ _ e
    ·cases e;exact ⟨hF,us,x3,r2⟩
    ·have nb:b≠a:=by
      intro w;subst w;cases hd:Y.δ₀ with
      |none=>
       have:=I.ran.dto.2 b es rfl hd;rw[eb]at this;cases this
      |some p0=>
       obtain ⟨c,gs⟩:=p0;obtain ⟨es',w2⟩:=I.ran.dto.1 c gs hd;cases w2;exact fb b gs hd rfl
     rw[o0 nb];exact I.ran.keep b u eb fb
    ·obtain ⟨es',w⟩:=I.ran.dto.1 b gs e;cases w;exact ⟨_,rfl⟩
    ·cases e;exact I.ran.dto.2 a es rfl n
    ·have w:=I.env j c e';cases c with
     |no=>trivial
     |val d=>exact w
     |own fs=>
      obtain ⟨b,ws,e1,h1,f1,g1,r1⟩:=w;have nb:b≠a:=I.off j b ⟨.inl ⟨fs,e'⟩,n3 e1⟩ a es rfl;exact ⟨b,ws,e1,by rw[o0 nb];exact h1,f1,g1,r1⟩
     |obj C fs=>
      obtain ⟨b,dx,ws,e1,es1,h1,h2,f1,f2,g1,g2,r1⟩:=w;have nb:b≠a:=fun w=>by rw[w,hh]at h1;cases h1
      have nd:dx≠a:=fun w=>by rw[w,hh]at h2;cases h2
      exact ⟨b,dx,ws,e1,es1,by rw[o0 nb];exact h1,by rw[o0 nd];exact h2,f1,f2,g1,g2,r1⟩
     |ownD kvs=>
      obtain ⟨b,ws,e1,h1,f1,g1,r1⟩:=w;have nb:b≠a:=fun w=>by rw[w,hh]at h1;cases h1
      exact ⟨b,ws,e1,by rw[o0 nb];exact h1,f1,g1,r1⟩
    ·cases e;exact I.off j b o a es rfl
   ·simp[z]at h
  ·cases h
 ·cases h
noncomputable def i0t(i:Nat)(tj te:TE2):TS2:=fun E ρ δ=>te E.xc ρ δ fun d ρ1 δ1=>hasV ρ1 i=true∧tj E.xc ρ1 δ1 fun dj ρ2 δ2=>match mutV ρ2 δ2 i,dj with
 |some (ds,put),.int j=>(match ixN ds.length j with |some m=>E.nx (put (ds.set m d)).1 (put (ds.set m d)).2 |none=>False)
 |_,_=>False
theorem l0c(i:Nat){j:Expr}{tj:TE2}{spos:Pos}(hj:PE2 X Y W j tj)(he:PE2 X Y W e te)(hN:X.N[i]?=some x:=by rfl)(hv:Vis X.env.scope x:=by walk_at "v3")(hd:(x==("__debug__":Str))=false:=by decide)
 (hcd:(x==("__classdict__":Str))=false:=by decide)
 (ha:∀v,assign (.Subscript (.Name x p) j spos) X.env v=(do
  let ov←holding [v] (eval (.Name x p) X.env)
  let iv←holding [v,ov] (eval j X.env)
  standAt spos
  holding [v,ov,iv] (setItem ov iv v)
  release [v,ov,iv] []):=by intro _;rfl)
 (hs:swapsWithSole [.Subscript (.Name x p) j spos] e pos.line X.env=pure false:=by rfl) (hw:swappedStores [.Subscript (.Name x p) j spos] e X.env=pure none:=by rfl)
 (h1:(assignEach [.Subscript (.Name x p) j spos] X.env).map (·.2)=[assign (.Subscript (.Name x p) j spos) X.env]:=by rfl):
 PS2 X Y W (.Assign [.Subscript (.Name x p) j spos] e pos) (i0t i tj te):=ps2 (ps_asg he.go (pg_sub (t0a hN hv hd hcd) hj.go c0o ha) hs hw h1) fun E1 σ H ⟨F,ρ,δ,E2,I,h,er⟩=>by
 refine ⟨F,ρ,δ,E2.xc,_,I,h,fun d v F1 H1 ρ1 δ1 I1 s1 r1 h1=>?_,er.xc⟩;obtain ⟨o,eo⟩:=has_v I1 h1.1;refine ⟨o,eo,F1,ρ1,δ1,E2.xc,_,I1,h1.2,fun dj w F2 H2 ρ2 δ2 I2' s2 r2 h2=>?_,er.xc.mono s1⟩;split at h2
 ·rename_i ds put j em;split at h2
  ·rename_i m hm;obtain ⟨a,vs,ea,hh,z,up⟩:=y1j I2' em;rw[eo]at ea;cases ea;refine ⟨a,vs,j,m,rfl,rep_int.mp r2,hh,by rw[z.length];exact hm,er.nx σ F2 _ _ _ (up _ _ (z.set (r1.mono s2) m)) (s1.trans s2) h2⟩
  ·exact h2.elim
 ·exact h2.elim
noncomputable abbrev FM:=List D→List D→(D→List D→Prop)→Prop
noncomputable def MtD(K:Frag)(r:V→List V→Hp→VK→Prop)(m:FM):Prop:=∀(F H:Hp) (a:Addr) (vs us:List V) (ds es:List D) (Q:VK) (q:D→List D→Prop),H a=some (.lst vs)→Reps K F ds vs→Reps K F es us→m ds es q→
 (∀d v ds' vs',Rep K F d v→Reps K F ds' vs'→q d ds'→Q v (upd H a (.lst vs')))→r (.ref a) us H Q
noncomputable def t2MV(i:Nat)(m:FM)(ta:TA2):TE2:=fun x ρ δ q=>(mutV ρ δ i).isSome=true∧ta x ρ δ fun es ρ1 δ1=>match mutV ρ1 δ1 i with
 |some (ds,put)=>m ds es fun d ds'=>q d (put ds').1 (put ds').2
 |none=>False
theorem f0g(i:Nat){name:Str}{id:String}{r:V→List V→Hp→VK→Prop}{m:FM}{es:List Expr}{t:TA2}{apos cpos:Pos}(slot:Slot "list" name id)(hty:typeOf (.builtin id)=pure (.type "method_descriptor"))(hm:MtM X id r)(hd2:MtD X.K r m)(hta:PA2 X Y W (e::es) t)
 (hN:X.N[i]?=some x:=by rfl) (hv:Vis X.env.scope x:=by walk_at "v3") (hd:(x==("__debug__":Str))=false:=by decide) (hcd:(x==("__classdict__":Str))=false:=by decide)
 (hbase:attributeBase (.Name x p) name X.env (eval (.Name x p) X.env)=eval (.Name x p) X.env:=by rfl)
 (hfew:((backTo cpos (starEach (e::es) X.env)).all (fun x=>!x.1)&&(backToKw cpos (keywordEach [] X.env)).all (fun x=>x.1.isSome)
  &&decide ((e::es).length+([]:List Keyword).length+(if ([]:List Keyword).isEmpty then 0 else 1)<30))=true:=by rfl)
 (hline:(apos.endLine==cpos.line)=true:=by rfl) (hs:starEach (e::es) X.env=(false,eval e X.env)::starEach es X.env:=by exact l5 rfl) (hplain:(backTo cpos (starEach es X.env)).any (·.1)=false:=by exact z8 rfl):
 PE2 X Y W (.Call (.Attribute (.Name x p) name apos) (e::es) [] cpos) (t2MV i m t):=pe2 (pe_bm PySem.F.plainAttrs_list slot hty hm (t0a hN hv hd hcd) hta.go hbase hfew hline hs hplain) fun σ H Q ⟨F,ρ,δ,x,q,I,h,k,kx⟩=>by
 obtain ⟨h0,h⟩:=h;obtain ⟨⟨ds0,put0⟩,e0⟩:=Option.isSome_iff_exists.mp h0;obtain ⟨a,vs,ea,hh,z,up⟩:=y1j I e0;refine ⟨_,ea,.inl ⟨rfl,vs,SqL.of hh⟩,F,ρ,δ,x,_,I,h,fun es us F1 H1 ρ1 δ1 I1 s1 r1 h1=>?_,kx⟩;split at h1
 ·rename_i ds put em;obtain ⟨a',vs',ea',hh',z',up'⟩:=y1j I1 em;rw[ea]at ea';cases ea';exact hd2 F1 H1 a vs' us ds es _ _ hh' z' r1 h1 fun d v ds' ws r2 r3 q'=>k d v F1 _ _ _ (up' _ _ r3) s1 r2 q'
 ·exact h1.elim
noncomputable def t2MV0(i:Nat)(m:FM):TE2:=fun x ρ δ q=>match mutV ρ δ i with
 |some (ds,put)=>m ds [] fun d ds'=>q d (put ds').1 (put ds').2
 |none=>False
noncomputable def w0a:FM:=fun ds es q=>match es with | [e]=>ds.length<1000∧q .non (ds++[e])|_=>False
theorem w0x{K:Frag}:MtD K g0e w0a:=by
 intro F H a vs us ds es Q q hh z r h k;unfold w0a at h;split at h
 ·obtain ⟨v,rfl,r1⟩:=z0f r;exact ⟨a,vs,v,rfl,rfl,hh,Nat.lt_of_lt_of_le (by rw[z.length];exact h.1) (show 1000≤PySem.sizeLine by decide),k _ _ _ _ (rep_non.mpr rfl) (z.append (Reps.cons r1 Reps.nil)) h.2⟩
 ·exact h.elim
noncomputable def popM:FM:=fun ds es q=>match es,ds.getLast? with | [],some d=>q d ds.dropLast |_,_=>False
noncomputable def t2Aug(i:Nat)(f:F2)(te:TE2):TS2:=fun E ρ δ=>rdV ρ i fun d1 ρ0=>te E.xc ρ0 δ fun d2 ρ1 δ1=>f d1 d2 fun d=>E.nx (ρ1.set i (.val d)) δ1
noncomputable def l0b(K:Frag)(f:Str)(ta:TE2):TE2:=fun x ρ δ q=>ta x ρ δ fun d ρ1 δ1=>match d with
 | .ins C fs=>(Cls K C∧NoAttr K C f)∧(match fs.lookup f with |some e=>q e ρ1 δ1 |none=>False)
 |_=>False
theorem RepF.look{K:Frag}{F:Hp}{f:Str}:∀{fs:List (Str×D)} {us:List (Str×V)} {d:D},RepF K F fs us→fs.lookup f=some d→∃v,us.lookup f=some v∧Rep K F d v
 | [],us,d,r,e=>by cases e
 |(g,c)::fs,us,d,r,e=>by
  unfold RepF at r;obtain ⟨v,l,rfl,r1,r2⟩:=r;rw[List.lookup_cons]at e ⊢;split at e
  ·cases e;exact ⟨v,rfl,r1⟩
  ·exact RepF.look r2 e
theorem e2_fld{f:Str}(ha:PE2 X Y W a ta)(hb:attributeBase a f X.env (eval a X.env)=eval a X.env:=by rfl):PE2 X Y W (.Attribute a f pos) (l0b X.K f ta):=pe2 (pe_fld ha.go hb) fun σ H Q ⟨F,ρ,δ,x,q,I,h,k,kx⟩=>by
 refine ⟨F,ρ,δ,x,_,I,h,fun d v F' H' ρ' δ' I' s' r' h'=>?_,kx⟩;cases d with
 |ins C fs=>
  obtain ⟨⟨c,n⟩,h'⟩:=h';obtain ⟨a,dx,us,rfl,e1,e2,rf⟩:=rep_ins.mp r';split at h'
  ·rename_i e ee;obtain ⟨v,ev,rv⟩:=rf.look ee;exact ⟨a,C,dx,us,v,rfl,I'.sub _ _ e1,c,n,ev,k e v F' H' ρ' δ' I' s' rv h'⟩
  ·exact h'.elim
 |_=>exact h'.elim
noncomputable def t2XFld(K:Frag)(f:Str)(ta:TE2):TE2:=fun x ρ δ q=>ta x ρ δ fun d ρ1 δ1=>match d with
 | .exc C fs=>(XC K C∧NoAttr K C f)∧(match fs.lookup f with |some e=>q e ρ1 δ1 |none=>False)
 |_=>False
noncomputable def q0j(f:Str)(v:D):List (Str×D)→List (Str×D)
 | []=>[(f,v)]
 |(g,u)::r=>if g=f then (g,v)::r else (g,u)::q0j f v r
theorem RepF.put{K:Frag}{F:Hp}{f:Str}{d:D}{v:V}(q:Rep K F d v):∀{fs:List (Str×D)} {us:List (Str×V)},RepF K F fs us→RepF K F (q0j f d fs) (putF f v us)
 | [],us,r=>by
  unfold RepF at r;subst r;unfold q0j putF RepF;exact ⟨v,[],rfl,q,by unfold RepF;rfl⟩
 |(g,c)::fs,us,r=>by
  unfold RepF at r;obtain ⟨w,l,rfl,r1,r2⟩:=r;unfold q0j putF;by_cases z:g=f
  ·rw[if_pos z,if_pos z];unfold RepF;exact ⟨v,l,rfl,q,r2⟩
  ·rw[if_neg z,if_neg z];unfold RepF;exact ⟨w,_,rfl,r1,RepF.put q r2⟩
theorem RepF.length{K:Frag}{F:Hp}:∀{fs:List (Str×D)} {us:List (Str×V)},RepF K F fs us→us.length=fs.length
 | [],us,r=>by unfold RepF at r;subst r;rfl
 |(g,c)::fs,us,r=>by
  unfold RepF at r;obtain ⟨w,l,rfl,r1,r2⟩:=r;rw[List.length_cons,List.length_cons,RepF.length r2]
noncomputable def n0k(K:Frag)(i:Nat)(f:Str)(te:TE2):TS2:=fun E ρ δ=>te E.xc ρ δ fun d ρ1 δ1=>match ρ1[i]? with
 |some (.obj C fs)=>(Cls K C∧NoAttr K C f)∧fs.length<1000∧E.nx (ρ1.set i (.obj C (q0j f d fs))) δ1
 |_=>False
theorem I2.self{K:Frag}{F H:Hp}{σ:St}{ρ:En}{δ:Dk}{C:Addr}{fs:List (Str×D)}(I:I2 K Y F H σ ρ δ)(e:ρ[i]?=some (.obj C fs)):
 ∃a dx us,σ[i]?=some (some (.ref a))∧H a=some (.ins C dx us)∧RepF K F fs us∧∀gs ws,RepF K F gs ws→I2 K Y F (upd H a (.ins C dx ws)) σ (ρ.set i (.obj C gs)) δ:=by
 obtain ⟨a,dx,us,q,es0,hh,hd,hF,hF2,h0,h02,r⟩:=I.env i _ e;have hs:=n3 q;have ho:u6 ρ σ i a:=⟨.inr (.inl ⟨_,_,e⟩),hs⟩;refine ⟨a,dx,us,hs,hh,r,fun gs ws r2=>?_⟩;have ndx:dx≠a:=fun w=>by rw[w,hh]at hd;cases hd
 have key:∀j b,u6 (ρ.set i (.obj C gs)) σ j b→u6 ρ σ j b:=fun j b o=>by
  by_cases z:j=i
  ·subst z;exact ⟨ho.1,o.2⟩
  ·obtain ⟨o1,o2⟩:=o;simp only[List.getElem?_set_ne (Ne.symm z)]at o1;exact ⟨o1,o2⟩
 refine ⟨⟨fun b u e=>?_,fun b fs e=>?_,fun b u e f=>?_,I.ran.f0,I.ran.fnew,I.ran.dto⟩,fun j c e'=>?_,by simp[I.len],fun x y b n o1 o2=>I.apart x y b n (key x b o1) (key y b o2),fun j b o=>I.off j b (key j b o)⟩
 ·rw[o0 (l0 e hF)];exact I.sub _ _ e
 ·obtain ⟨q1,ys,q2,q3⟩:=I.ran.dk b fs e;exact ⟨q1,ys,by rw[o0 (Ne.symm (I.off i a ho b fs e))];exact q2,q3⟩
 ·rw[o0 (l0 e h0)];exact I.ran.keep b u e f
 ·by_cases z:j=i
  ·subst z;rw[List.getElem?_set]at e';by_cases hl:j<ρ.length
   ·simp[hl]at e';subst e';exact ⟨a,dx,ws,q,es0,x3,by rw[o0 ndx];exact hd,hF,hF2,h0,h02,r2⟩
   ·simp[hl]at e'
  ·rw[List.getElem?_set_ne (Ne.symm z)]at e';have w:=I.env j c e';cases c with
   |no=>trivial
   |val d=>exact w
   |own fs=>
    obtain ⟨b,ys,e1,h1,f1,g1,r1⟩:=w;have nb:b≠a:=fun w=>by rw[w,hh]at h1;cases h1
    exact ⟨b,ys,e1,by rw[o0 nb];exact h1,f1,g1,r1⟩
   |obj C' fs=>
    obtain ⟨b,dy,ys,e1,es1,h1,h2,f1,f2,g1,g2,r1⟩:=w;have nb:b≠a:=fun w=>I.apart j i a z ⟨.inr (.inl ⟨_,_,e'⟩),by rw[←w];exact n3 e1⟩ ho
    have nd:dy≠a:=fun w=>by rw[w,hh]at h2;cases h2
    exact ⟨b,dy,ys,e1,es1,by rw[o0 nb];exact h1,by rw[o0 nd];exact h2,f1,f2,g1,g2,r1⟩
   |ownD kvs=>
    obtain ⟨b,ys,e1,h1,f1,g1,r1⟩:=w;have nb:b≠a:=fun w=>by rw[w,hh]at h1;cases h1
    exact ⟨b,ys,e1,by rw[o0 nb];exact h1,f1,g1,r1⟩
theorem y1i(i:Nat){f:Str}{tpos:Pos}(he:PE2 X Y W e te)(hN:X.N[i]?=some x:=by rfl)(hv:Vis X.env.scope x:=by walk_at "v3")(hd:(x==("__debug__":Str))=false:=by decide)(hcd:(x==("__classdict__":Str))=false:=by decide)
 (hs:swapsWith e (some (.Attribute (.Name x p) f tpos)) pos.line X.env=pure false:=by rfl):PS2 X Y W (.Assign [.Attribute (.Name x p) f tpos] e pos) (n0k X.K i f te):=ps2 (ps_fld (t0a hN hv hd hcd) he.go hs) fun E1 σ H ⟨F,ρ,δ,E2,I,h,er⟩=>by
 refine ⟨F,ρ,δ,E2.xc,_,I,h,fun d v F1 H1 ρ1 δ1 I1 s1 r1 h1=>?_,er.xc⟩;split at h1
 ·rename_i C fs ee;obtain ⟨⟨c,n⟩,hl,h1⟩:=h1;obtain ⟨a,dx,us,ea,hh,rf,up⟩:=I1.self ee;exact ⟨_,ea,a,C,dx,us,rfl,hh,c,n,by rw[rf.length];exact hl,er.nx σ F1 _ _ δ1 (up _ _ (rf.put r1)) s1 h1⟩
 ·exact h1.elim
end
end DL
namespace DL
open PySem PySem.Spec L2
open PySem.W (XC)
open PyProof.Rows (envOfC)
noncomputable abbrev Sp2:=List D→Dk→(D→Dk→Prop)→(Addr→List (Str×D)→Dk→Prop)→Prop
noncomputable def upF(K:Frag)(sp:Sp2):Sp:=fun vs H Q E=>∃F ds δ q x,Same F H∧DkOk K F H δ∧Reps K F ds vs∧sp ds δ q x∧
 (∀d v F' H' δ',Ran K F H δ F' H' δ'→Rep K F' d v→q d δ'→Q v H')∧∀C od fs F' H' δ',Ran K F H δ F' H' δ'→XRep K F' od fs→x C fs δ'→E (.ref C) od H'
noncomputable abbrev Fun2(P:Program)(w:World)(K:Frag)(mg:Str→Option Value)(base:Heap)(x:Str)(k:Nat)(ps:List Str)(sp:Sp2):Prop:=FnAt P w K mg base (CX1 P w) x k ps (upF K sp)
section
variable{K:Frag}{Y:Y2}{F H F' H':Hp}{σ:St}{ρ:En}{δ δ':Dk}
theorem Ran.trans{F₀ H₀:Hp}{δ₀:Dk}(R:Ran K F₀ H₀ δ₀ F H δ)(S:Ran K F H δ F' H' δ'):Ran K F₀ H₀ δ₀ F' H' δ':=by
 have offs:∀b o,H₀ b=some o→Off δ₀ b→Off δ b:=fun b o e f a ds q w=>by
  subst w;cases hd:δ₀ with
  |none=>have:=R.dto.2 b ds q hd;rw[e]at this;cases this
  |some p=>
   obtain ⟨c,gs⟩:=p;obtain ⟨es,z⟩:=R.dto.1 c gs hd;rw[q]at z;cases z;exact f b gs hd rfl
 have fr:∀p,H p=none→H₀ p=none:=fun p h=>(Ran.fresh (Y:=⟨F₀,H₀,δ₀,none⟩) R h)
 refine ⟨S.sub,S.dk,fun b o e f=>S.keep b o (R.keep b o e f) (offs b o e f),R.f0.trans S.f0,fun b o e=>?_,⟨fun a ds e=>?_,fun a ds e n=>?_⟩⟩
 ·rcases S.fnew b o e with z |z
  ·exact R.fnew b o z
  ·exact .inr (fr b z)
 ·obtain ⟨es,z⟩:=R.dto.1 a ds e;exact S.dto.1 a es z
 ·cases hd:δ with
  |none=>exact fr a (S.dto.2 a ds e hd)
  |some p=>
   obtain ⟨c,gs⟩:=p;obtain ⟨es,z⟩:=S.dto.1 c gs hd;rw[e]at z;cases z;exact R.dto.2 a gs hd n
theorem I2.call(I:I2 K Y F H σ ρ δ)(S:Ran K F H δ F' H' δ'):I2 K Y F' H' σ ρ δ':=by
 have fno:∀a o,H a=some o→F a=none→F' a=none:=fun a o h f=>by
  cases q:F' a with
  |none=>rfl
  |some u=>
   rcases S.fnew a u q with z |z
   ·rw[f]at z;cases z
   ·rw[h]at z;cases z
 have addr:∀j a,u6 ρ σ j a→∃o,H a=some o:=fun j a o=>by
  rcases o.1 with ⟨ds,q⟩|⟨C,fs,q⟩|⟨kvs,q⟩
  ·obtain ⟨b,us,e,hb,_⟩:=I.env j _ q;rw[o.2]at e;cases e;exact ⟨_,hb⟩
  ·obtain ⟨b,dx,us,e,es0,hb,_⟩:=I.env j _ q;rw[o.2]at e;cases e;exact ⟨_,hb⟩
  ·obtain ⟨b,us,e,hb,_⟩:=I.env j _ q;rw[o.2]at e;cases e;exact ⟨_,hb⟩
 refine ⟨I.ran.trans S,fun i c e=>?_,I.len,I.apart,fun j a o b ds e w=>?_⟩
 ·have w:=I.env i c e;cases c with
  |no=>trivial
  |val d=>obtain ⟨u,e1,r⟩:=w;exact ⟨u,e1,r.mono S.f0⟩
  |own ds=>
   obtain ⟨a,vs,e1,h1,f1,g1,r1⟩:=w;have of:=I.off i a ⟨.inl ⟨ds,e⟩,n3 e1⟩;exact ⟨a,vs,e1,S.keep a _ h1 of,fno a _ h1 f1,g1,r1.mono S.f0⟩
  |obj C fs=>
   obtain ⟨a,dx,us,e1,es1,h1,h2,f1,f2,g1,g2,r1⟩:=w;have of:=I.off i a ⟨.inr (.inl ⟨C,fs,e⟩),n3 e1⟩;have od:Off δ dx:=fun b ds q w=>by
    obtain ⟨_,vs,q2,_⟩:=I.ran.dk b ds q;rw[←w,h2]at q2;cases q2
   exact ⟨a,dx,us,e1,es1,S.keep a _ h1 of,S.keep dx _ h2 od,fno a _ h1 f1,fno dx _ h2 f2,g1,g2,r1.mono S.f0⟩
  |ownD ds=>
   obtain ⟨a,vs,e1,h1,f1,g1,r1⟩:=w;have of:=I.off i a ⟨.inr (.inr ⟨ds,e⟩),n3 e1⟩;exact ⟨a,vs,e1,S.keep a _ h1 of,fno a _ h1 f1,g1,r1.mono S.f0⟩
 ·subst w;obtain ⟨u,hu⟩:=addr j a o;cases hd:δ with
  |none=>have:=S.dto.2 a ds e hd;rw[hu]at this;cases this
  |some p=>
   obtain ⟨c,gs⟩:=p;obtain ⟨es,z⟩:=S.dto.1 c gs hd;rw[e]at z;cases z;exact I.off j a o a gs hd rfl
theorem Ran.refl(s:Same F H)(d:DkOk K F H δ):Ran K F H δ F H δ:=⟨s,d,fun _ _ e _=>e,Same.refl F,fun _ _ e=>.inl e,fun a ds e=>⟨ds,e⟩,fun a ds e n=>by rw[n]at e;cases e⟩
end
section
variable{X:Cx}{Y:Y2}{W:XW}{x:Str}{p pos:Pos}{e:Expr}{es:List Expr}{t:TA2}{k:Nat}{ps:List Str}{sp:Sp2}
noncomputable def z0m(sp:Sp2)(t:TA2):TE2:=fun x ρ δ q=>t x ρ δ fun ds ρ1 δ1=>sp ds δ1 (fun d δ2=>q d ρ1 δ2) fun C fs δ2=>x C fs ρ1 δ2
theorem y1h{σ:St}{H:Hp}{Q:VK}(h:upE X.K Y W (z0m sp t) σ H Q):f0y (upF X.K sp) W (upA X.K Y W t) σ H Q:=by
 obtain ⟨F,ρ,δ,x,q,I,h,k,kx⟩:=h;refine ⟨F,ρ,δ,x,_,I,h,fun ds vs F1 H1 ρ1 δ1 I1 s1 r1 h1=>⟨F1,ds,δ1,_,_,I1.sub,I1.ran.dk,r1,h1,fun d v F' H' δ' R r' q'=>?_,fun C od fs F' H' δ' R r' q'=>?_⟩,kx⟩
 ·exact k d v F' H' ρ1 δ' (I1.call R) (s1.trans R.f0) r' q'
 ·exact ⟨C,rfl,kx C od fs σ F' H' ρ1 δ' (I1.call R) (s1.trans R.f0) r' q'⟩
theorem g0(G:Fun2 X.prog X.w X.K X.mg X.base x k ps sp)(hr:Room k X.A)(hf:x0u X W)(ha:PA2 X Y W (e::es) t)(hg:Gl X x:=by rfl)(hdb:(x==("__debug__":Str))=false:=by decide)
 (he:starEach (e::es) X.env=(false,eval e X.env)::starEach es X.env:=by exact l5 rfl) (hpl:(backTo pos (starEach es X.env)).any (·.1)=false:=by exact z8 rfl):PE2 X Y W (.Call (.Name x p) (e::es) [] pos) (z0m sp t):=pe2 (pe_cX G hr hf ha.go hg hdb he hpl) fun σ H Q h=>y1h h
theorem x0x:x0u X (fun _ _ _ _=>False):=fun pins e s ⟨_,_,_,_,_,_,_,_,_,_,_,q⟩=>q.elim
end
noncomputable def l3(N:List Str)(ds:List D):En:=ds.map .val++List.replicate (N.length-ds.length) .no
theorem x0s{K:Frag}{F H H₀:Hp}{sf:Option Addr}:∀{ds:List D} {vs:List V},Reps K F ds vs→∀(n i:Nat) (c:Cell),(ds.map Cell.val++List.replicate n Cell.no)[i]?=some c→CellOk K F H H₀ sf c ((vs.map some++List.replicate n none:St)[i]?).join
 | [],vs,r,n,i,c,e=>by
  rw[List.map_nil,List.nil_append,List.getElem?_replicate]at e;split at e
  ·cases e;trivial
  ·cases e
 |d::ds,vs,r,n,0,c,e=>by
  obtain ⟨v,l,rfl,r1,r2⟩:=reps_cons.mp r;cases e;exact ⟨v,rfl,r1⟩
 |d::ds,vs,r,n,i+1,c,e=>by
  obtain ⟨v,l,rfl,r1,r2⟩:=reps_cons.mp r;exact x0s r2 n i c e
theorem q9{ds:List D}{n i:Nat}{c:Cell}(e:(ds.map Cell.val++List.replicate n Cell.no)[i]?=some c):(∃d,c=.val d)∨c=.no:=by
 have m:=List.mem_of_getElem? e;rcases List.mem_append.mp m with m |m
 ·obtain ⟨d,_,rfl⟩:=List.mem_map.mp m;exact .inl ⟨d,rfl⟩
 ·exact .inr (List.mem_replicate.mp m).2
theorem I2.start{K:Frag}{F H:Hp}{δ:Dk}{ds:List D}{vs:List V}{N:List Str}(s:Same F H)(dk:DkOk K F H δ)(r:Reps K F ds vs):I2 K ⟨F,H,δ,none⟩ F H (L2.start N vs) (l3 N ds) δ:=by
 have no:∀i a,¬u6 (l3 N ds) (L2.start N vs) i a:=fun i a o=>by
  rcases o.1 with ⟨es,q⟩|⟨C,fs,q⟩|⟨kvs,q⟩
  ·rcases q9 q with ⟨d,z⟩|z<;>cases z
  ·rcases q9 q with ⟨d,z⟩|z<;>cases z
  ·rcases q9 q with ⟨d,z⟩|z<;>cases z
 refine ⟨Ran.refl s dk,fun i c e=>?_,?_,fun i j a _ o _=>no i a o,fun i a o=>absurd o (no i a)⟩
 ·unfold L2.start;rw[r.length];exact x0s r _ i c e
 ·unfold L2.start l3;simp[r.length]
section
variable{P:Program}{w:World}{K:Frag}{mg:Str→Option Value}{base:Heap}
theorem def2F{x:Str}{st:Stmt}{f:Addr}{fd:FuncData}{N ps:List Str}{k:Nat}{sp:Sp2}(D:DefAt K mg x st ps f fd)(S:FnScope N ps (defScope st))(len:∀ds δ q x,sp ds δ q x→ds.length=ps.length)
 (hbody:∀(cdv:Value) (A:Around) (outer:List Env) (s:Shared) (H:Hp) (E:XK) (Y:Y2),Room k (A.deeper (envOfC x (defScope st) s.heap.objs.size f cdv))→
  ∃t,PSs2 (cxX P w K mg base N x (defScope st) f cdv A outer s H E) Y (fun C od _ H'=>E (.ref C) od H') (defBody st) t∧
   ∀ds δ q x,sp ds δ q x→t {nx:=fun _ δ=>q .non δ,rt:=q,xc:=fun C fs _ δ=>x C fs δ} (l3 N ds) δ):FnOk P w K mg base (CX1 P w) (k+1) f fd ps (upF K sp):=by
 refine D.F.okX S (fun vs H Q E h=>?_) fun cdv A outer s H vs Q E hr h=>?_
 ·obtain ⟨F,ds,δ,q,x,_,_,r,h,_⟩:=h;rw[r.length];exact len ds δ q x h
 ·obtain ⟨F,ds,δ,q,x,s1,dk,r,h,kq,kx⟩:=h;obtain ⟨t,ht,rd⟩:=hbody cdv A outer s H E ⟨F,H,δ,none⟩ hr;refine ⟨_,ht.go,F,l3 N ds,δ,_,I2.start s1 dk r,rd ds δ q x h,⟨fun σ' F' H' ρ' δ' I' s' h'=>?_,fun d v σ' F' H' ρ' δ' I' s' r' h'=>?_,fun C od fs σ' F' H' ρ' δ' I' s' r' h'=>?_,fun _ _ _ _ _ _ _ z=>z.elim,fun _ _ _ _ _ _ _ z=>z.elim⟩⟩
  ·exact kq .non .non F' H' δ' I'.ran (rep_non.mpr rfl) h'
  ·exact kq d v F' H' δ' I'.ran r' h'
  ·exact kx C od fs F' H' δ' I'.ran r' h'
theorem def2{x:Str}{st:Stmt}{f:Addr}{fd:FuncData}{N ps:List Str}{k:Nat}{sp:Sp2}(D:DefAt K mg x st ps f fd)(S:FnScope N ps (defScope st))(len:∀ds δ q x,sp ds δ q x→ds.length=ps.length)
 (hbody:∀(cdv:Value) (A:Around) (outer:List Env) (s:Shared) (H:Hp) (E:XK) (Y:Y2),Room k (A.deeper (envOfC x (defScope st) s.heap.objs.size f cdv))→
  ∃t,PSs2 (cxX P w K mg base N x (defScope st) f cdv A outer s H E) Y (fun C od _ H'=>E (.ref C) od H') (defBody st) t∧
   ∀ds δ q x,sp ds δ q x→t {nx:=fun _ δ=>q .non δ,rt:=q,xc:=fun C fs _ δ=>x C fs δ} (l3 N ds) δ):Fun2 P w K mg base x (k+1) ps sp:=D.at (def2F D S len hbody)
noncomputable def upI(K:Frag)(C:Addr)(sp:Sp2):Sp:=fun vs H Q E=>∃p dx us H1 F ds δ q x,vs=.ref p::us∧H=upd (upd H1 dx (.own p)) p (.ins C dx [])∧H1 p=none∧H1 dx=none∧dx≠p∧Same F H1∧DkOk K F H1 δ∧Reps K F ds us∧sp ds δ q x∧
 (∀fs F' H' δ',Ran K F H1 δ F' H' δ'→Rep K F' (.ins C fs) (.ref p)→q (.ins C fs) δ'→Q .non H')∧∀C od fs F' H' δ',Ran K F H1 δ F' H' δ'→XRep K F' od fs→x C fs δ'→E (.ref C) od H'
structure Make2(P:Program)(w:World)(K:Frag)(mg:Str→Option Value)(base:Heap)(x:Str)(k:Nat)(sp:Sp2):Prop where
 ex:∃C f fd ps,Mk K C f∧FnOk P w K mg base (CX1 P w) k f fd ps (upI K C sp)∧mg x=some (.ref C)∧Binds K fd ps []
end
section
variable{X:Cx}{Y:Y2}{W:XW}{x:Str}{p pos:Pos}{e:Expr}{es:List Expr}{t:TA2}{k:Nat}{sp:Sp2}
theorem f0f(G:Make2 X.prog X.w X.K X.mg X.base x k sp)(hr:Room (k+1) X.A)(hf:x0u X W)(ha:PA2 X Y W (e::es) t)(hg:Gl X x:=by rfl)(hdb:(x==("__debug__":Str))=false:=by decide)
 (he:starEach (e::es) X.env=(false,eval e X.env)::starEach es X.env:=by exact l5 rfl) (hpl:(backTo pos (starEach es X.env)).any (·.1)=false:=by exact z8 rfl):PE2 X Y W (.Call (.Name x p) (e::es) [] pos) (z0m sp t):=by
 obtain ⟨C,f,fd,ps,M,F,m,b⟩:=G.ex;refine pe2 (c0i M F hr hg m b hf ha.go hdb he hpl) fun σ H Q h=>?_
 obtain ⟨F,ρ,δ,x,q,I,h,k,kx⟩:=h;refine ⟨F,ρ,δ,x,_,I,h,fun ds vs F1 H1 ρ1 δ1 I1 s1 r1 h1=>fun y dx hy hdx ne=>⟨y,dx,vs,H1,F1,ds,δ1,_,_,rfl,rfl,hy,hdx,ne,I1.sub,I1.ran.dk,r1,h1,fun fs F' H' δ' R r' q'=>⟨rfl,?_⟩,fun C od fs F' H' δ' R r' q'=>?_⟩,kx⟩
 ·exact k _ _ F' H' ρ1 δ' (I1.call R) (s1.trans R.f0) r' q'
 ·exact ⟨C,rfl,kx C od fs σ F' H' ρ1 δ' (I1.call R) (s1.trans R.f0) r' q'⟩
end
theorem I2.startO{K:Frag}{F H1:Hp}{δ:Dk}{ds:List D}{us:List V}{N:List Str}{C p dx:Addr}(s:Same F H1)(dk:DkOk K F H1 δ)(r:Reps K F ds us)(hp:H1 p=none)(hdx:H1 dx=none)(ne:dx≠p):
 I2 K ⟨F,H1,δ,some p⟩ F (upd (upd H1 dx (.own p)) p (.ins C dx [])) (some (.ref p)::L2.start N us) (.obj C []::l3 N ds) δ:=by
 have own:∀i a,u6 (.obj C []::l3 N ds) (some (.ref p)::L2.start N us) i a→i=0∧a=p:=fun i a o=>by
  cases i with
  |zero=>have z:=o.2;cases z;exact ⟨rfl,rfl⟩
  |succ i=>
   rcases o.1 with ⟨es,q⟩|⟨C,fs,q⟩|⟨kvs,q⟩
   ·rcases q9 (show (ds.map Cell.val++List.replicate _ Cell.no)[i]?=some _ from q)with ⟨d,z⟩|z<;>cases z
   ·rcases q9 (show (ds.map Cell.val++List.replicate _ Cell.no)[i]?=some _ from q)with ⟨d,z⟩|z<;>cases z
   ·rcases q9 (show (ds.map Cell.val++List.replicate _ Cell.no)[i]?=some _ from q)with ⟨d,z⟩|z<;>cases z
 have kp:∀b o,H1 b=some o→upd (upd H1 dx (.own p)) p (.ins C dx []) b=some o:=fun b o e=>by
  rw[o0 (l0 e hp),o0 (l0 e hdx)];exact e
 refine ⟨⟨fun b o e=>kp b o (s b o e),fun a ds e=>?_,fun b o e _=>kp b o e,Same.refl F,fun b o e=>.inl e,fun a ds e=>⟨ds,e⟩,fun a ds e n=>by rw[show δ=none from n]at e;cases e⟩,fun i c e=>?_,?_,fun i j a n o1 o2=>n ((own i a o1).1.trans (own j a o2).1.symm),fun i a o b ds e w=>?_⟩
 ·obtain ⟨q,vs,q2,r⟩:=dk a ds e;exact ⟨q,vs,kp a _ q2,r⟩
 ·cases i with
  |zero=>
   cases e;refine ⟨p,dx,[],rfl,rfl,x3,by rw[o0 ne,x3],s.free hp,s.free hdx,hp,hdx,?_⟩;unfold RepF;rfl
  |succ i=>
   show CellOk K F _ _ _ c ((L2.start N us)[i]?).join;unfold L2.start;rw[r.length];exact x0s r _ i c e
 ·unfold L2.start l3;simp[r.length]
 ·obtain ⟨_,rfl⟩:=own i a o;obtain ⟨_,vs,q2,_⟩:=dk b ds e;rw[←w,hp]at q2;cases q2
section
variable{P:Program}{w:World}{K:Frag}{mg:Str→Option Value}{base:Heap}
theorem init2{x qual cn:Str}{st:Stmt}{f C:Addr}{fd:FuncData}{N ps:List Str}{k:Nat}{sp:Sp2}(Fn:Fun K x qual st f fd)(M:Mk K C f)(hm:mg cn=some (.ref C))(b:Binds K fd ("self"::ps) [])(S:FnScope ("self"::N) ("self"::ps) (defScope st))(len:∀ds δ q x,sp ds δ q x→ds.length=ps.length)
 (hbody:∀(cdv:Value) (A:Around) (outer:List Env) (s:Shared) (H:Hp) (E:XK) (Y:Y2),Room k (A.deeper (envOfC qual (defScope st) s.heap.objs.size f cdv))→
  ∃t,PSs2 (cxX P w K mg base ("self"::N) qual (defScope st) f cdv A outer s H E) Y (fun C od _ H'=>E (.ref C) od H') (defBody st) t∧
   ∀ds δ q x,sp ds δ q x→t {nx:=fun ρ δ=>∃fs,ρ[0]?=some (.obj C fs)∧q (.ins C fs) δ,rt:=fun _ _=>False,xc:=fun C fs _ δ=>x C fs δ} (.obj C []::l3 N ds) δ):Make2 P w K mg base cn (k+1) sp:=by
 refine ⟨C,f,fd,_,M,Fn.okX S (fun vs H Q E h=>?_) (fun cdv A outer s H vs Q E hr h=>?_),hm,b⟩
 ·obtain ⟨p,dx,us,H1,F,ds,δ,q,x,rfl,_,_,_,_,_,_,r,h,_⟩:=h;rw[List.length_cons,List.length_cons,r.length,len ds δ q x h]
 ·obtain ⟨p,dx,us,H1,F,ds,δ,q,x,rfl,rfl,hp,hdx,ne,s1,dk,r,h,kq,kx⟩:=h;obtain ⟨t,ht,rd⟩:=hbody cdv A outer s _ E ⟨F,H1,δ,some p⟩ hr;have es:L2.start ("self"::N) (V.ref p::us)=some (.ref p)::L2.start N us:=by unfold L2.start;simp
  refine ⟨_,ht.go,?_⟩;rw[es];refine ⟨F,_,δ,_,I2.startO s1 dk r hp hdx ne,rd ds δ q x h,⟨fun σ' F' H' ρ' δ' I' s' h'=>?_,fun d v σ' F' H' ρ' δ' I' s' r' h'=>h'.elim,fun C od fs σ' F' H' ρ' δ' I' s' r' h'=>?_,fun _ _ _ _ _ _ _ z=>z.elim,fun _ _ _ _ _ _ _ z=>z.elim⟩⟩
  ·obtain ⟨fs,e0,hq⟩:=h';obtain ⟨a,dy,ws,e1,es1,h1,h2,f1,f2,g1,g2,r1⟩:=I'.env 0 _ e0;cases (show some p=some a from es1);have nd:dy≠p:=fun w=>by rw[w,h1]at h2;cases h2
   have sF:Same F' (upd (upd F' dy (.own p)) p (.ins C dy ws)):=fun b o e=>by rw[o0 (l0 e f1),o0 (l0 e f2)];exact e
   have R:=I'.ran;refine kq fs (upd (upd F' dy (.own p)) p (.ins C dy ws)) H' δ' ⟨fun b o e=>?_,fun a ds e=>?_,R.keep,R.f0.trans sF,fun b o e=>?_,R.dto⟩ (rep_ins.mpr ⟨p,dy,ws,rfl,x3,by rw[o0 nd,x3],r1.mono sF⟩) hq
   ·by_cases z:b=p
    ·subst z;rw[x3]at e;cases e;exact h1
    ·rw[o0 z]at e;by_cases z2:b=dy
     ·subst z2;rw[x3]at e;cases e;exact h2
     ·rw[o0 z2]at e;exact R.sub _ _ e
   ·obtain ⟨q1,vs,q2,q3⟩:=R.dk a ds e;have n1:a≠p:=fun w=>by rw[w,h1]at q2;cases q2
    have n2:a≠dy:=fun w=>by rw[w,h2]at q2;cases q2
    exact ⟨by rw[o0 n1,o0 n2];exact q1,vs,q2,q3.mono sF⟩
   ·by_cases z:b=p
    ·subst z;exact .inr g1
    ·rw[o0 z]at e;by_cases z2:b=dy
     ·subst z2;exact .inr g2
     ·rw[o0 z2]at e;exact R.fnew b o e
  ·exact kx C od fs F' H' δ' I'.ran r' h'
end
section
variable{X:Cx}{Y:Y2}{W:XW}{x:Str}{p pos cpos:Pos}{e:Expr}{es:List Expr}{t:TA2}{k:Nat}{ps:List Str}{C:Addr}{f g:Str}
theorem b0w{H:Hp}{x d:Addr}{o o1 o2:HO}(hx:H x=none)(ne:d≠x):L2.drop (upd (upd (upd H x o1) d o) x o2) x=upd H d o:=by
 funext b;by_cases z:b=x
 ·subst z;rw[r9,o0 (Ne.symm ne)];exact hx.symm
 ·rw[m9 z,o0 z];by_cases z2:b=d
  ·subst z2;rw[x3,x3]
  ·rw[o0 z2,o0 z2,o0 z]
theorem f0e{H:Hp}{x d:Addr}{o o1 o2 o3:HO}(hx:H x=none)(ne:d≠x):L2.drop (upd (upd (upd (upd H x o1) d o) x o2) d o3) x=upd H d o3:=by
 funext b;by_cases z:b=x
 ·subst z;rw[r9,o0 (Ne.symm ne)];exact hx.symm
 ·rw[m9 z];by_cases z2:b=d
  ·subst z2;rw[x3,x3]
  ·rw[o0 z2,o0 z2,o0 z,o0 z2,o0 z]
theorem f0d{H:Hp}{x:Addr}{o:HO}(hx:H x=none):L2.drop (upd H x o) x=H:=by
 funext b;by_cases z:b=x
 ·subst z;rw[r9];exact hx.symm
 ·rw[m9 z,o0 z]
theorem repF1{K:Frag}{F:Hp}{f:Str}{d:D}{v:V}(r:Rep K F d v):RepF K F [(f,d)] [(f,v)]:=by
 unfold RepF;exact ⟨v,[],rfl,r,by unfold RepF;rfl⟩
noncomputable def t0j(C:Addr)(f:Str)(t:TA2):TS2:=fun E ρ δ=>t E.xc ρ δ fun ds ρ1 δ1=>match ds with | [d]=>E.xc C [(f,d)] ρ1 δ1 |_=>False
theorem w6(hc:X.calm=true)(hf:x0u X W)(M:MkE X.prog X.w X.K X.mg X.base x C k ps (spXI C f))(hr:Room (k+1) X.A)(ha:PA2 X Y W (e::es) t)(hg:Gl X x:=by rfl)(hdb:(x==("__debug__":Str))=false:=by decide)
 (he:starEach (e::es) X.env=(false,eval e X.env)::starEach es X.env:=by exact l5 rfl) (hpl:(backTo cpos (starEach es X.env)).any (·.1)=false:=by exact z8 rfl):
 PS2 X Y W (.Raise (some (.Call (.Name x p) (e::es) [] cpos)) none pos) (t0j C f t):=ps2 (n0s hc hf M hr ha.go hg hdb he hpl) fun E1 σ H ⟨F,ρ,δ,E2,I,h,er⟩=>by
 refine ⟨F,ρ,δ,E2.xc,_,I,h,fun ds vs F1 H1 ρ1 δ1 I1 s1 r1 h1=>?_,er.xc⟩;split at h1
 ·rename_i d;obtain ⟨v,rfl,r2⟩:=z0f r1;refine ⟨sz1,fun y hy=>⟨y,v,rfl,x3,fun dx hdx ne=>⟨rfl,some dx,x3,?_⟩⟩⟩;rw[b0w hy ne];have hd:H1 dx=none:=by rw[o0 ne]at hdx;exact hdx
  exact er.xc C (some dx) _ σ _ _ ρ1 δ1 (I1.alloc hd) (s1.trans (I1.grow hd)) ⟨_,x3,(repF1 r2).mono (I1.grow hd)⟩ h1
 ·exact h1.elim
noncomputable def t0i(C:Addr)(f g:Str)(t:TA2):TS2:=fun E ρ δ=>t E.xc ρ δ fun ds ρ1 δ1=>match ds with | [d,d']=>E.xc C (q0j g d' [(f,d)]) ρ1 δ1 |_=>False
theorem f0c(hc:X.calm=true)(hf:x0u X W)(M:MkE X.prog X.w X.K X.mg X.base x C k ps (c0g C f g))(hr:Room (k+1) X.A)(ha:PA2 X Y W (e::es) t)(hg:Gl X x:=by rfl)(hdb:(x==("__debug__":Str))=false:=by decide)
 (he:starEach (e::es) X.env=(false,eval e X.env)::starEach es X.env:=by exact l5 rfl) (hpl:(backTo cpos (starEach es X.env)).any (·.1)=false:=by exact z8 rfl):
 PS2 X Y W (.Raise (some (.Call (.Name x p) (e::es) [] cpos)) none pos) (t0i C f g t):=ps2 (n0s hc hf M hr ha.go hg hdb he hpl) fun E1 σ H ⟨F,ρ,δ,E2,I,h,er⟩=>by
 refine ⟨F,ρ,δ,E2.xc,_,I,h,fun ds vs F1 H1 ρ1 δ1 I1 s1 r1 h1=>?_,er.xc⟩;split at h1
 ·rename_i d d';obtain ⟨v,u,rfl,r2,r3⟩:=f0m r1;refine ⟨szn (by show 2≤1000;decide),fun y hy=>⟨y,v,u,rfl,x3,fun dx hdx ne=>⟨rfl,some dx,by rw[o0 (Ne.symm ne),x3],?_⟩⟩⟩;rw[f0e hy ne];have hd:H1 dx=none:=by rw[o0 ne]at hdx;exact hdx
  exact er.xc C (some dx) _ σ _ _ ρ1 δ1 (I1.alloc hd) (s1.trans (I1.grow hd)) ⟨_,x3,((repF1 r2).put r3).mono (I1.grow hd)⟩ h1
 ·exact h1.elim
noncomputable def t0h(C:Addr):TS2:=fun E ρ δ=>E.xc C [] ρ δ
theorem n0j(hc:X.calm=true)(hf:x0u X W)(M:XMk0 X.K C)(hK:xcIn X.K C=true)(hm:X.mg x=some (.ref C))(hg:Gl X x:=by rfl)(hdb:(x==("__debug__":Str))=false:=by decide):
 PS2 X Y W (.Raise (some (.Call (.Name x p) [] [] cpos)) none pos) (t0h C):=ps2 (f0v hc hf M hK hg hm hdb) fun E1 σ H ⟨F,ρ,δ,E2,I,h,er⟩=>by
 intro y hy;rw[f0d hy];exact er.xc C none [] σ F H ρ δ I (Same.refl F) rfl h
noncomputable def t2Exc1(C:Addr)(f:Str)(t:TA2):TE2:=fun x ρ δ q=>t x ρ δ fun ds ρ1 δ1=>match ds with | [d]=>q (.exc C [(f,d)]) ρ1 δ1 |_=>False
noncomputable def t2Exc2(C:Addr)(f g:Str)(t:TA2):TE2:=fun x ρ δ q=>t x ρ δ fun ds ρ1 δ1=>match ds with | [d,d']=>q (.exc C (q0j g d' [(f,d)])) ρ1 δ1 |_=>False
noncomputable abbrev XTS2:=Addr→List (Str×D)→TS2
noncomputable def upH(K:Frag)(Y:Y2)(W:XW)(t:XTS2):XTS:=fun C od E1 σ H=>∃F ρ δ E2 fs,I2 K Y F H σ ρ δ∧XRep K F od fs∧t C fs E2 ρ δ∧ER K Y W F E2 E1
structure PH2(X:Cx)(Y:Y2)(W:XW)(hs:List ExceptHandler)(t:XTS2):Prop where
 go:PH X hs (upH X.K Y W t)
noncomputable def t2H0:XTS2:=fun _ _ _ _ _=>False
noncomputable abbrev W0:XW:=fun _ _ _ _=>False
noncomputable def noX(E:End2):End2:={E with xc:=fun _ _ _ _=>False}
noncomputable def t2H(K:Frag)(D:Addr)(ts:TS2)(tr:XTS2):XTS2:=fun C fs E ρ δ=>match PySem.W.mroIn K C (.ref D)with |some b=>if b=true then ts (noX E) ρ δ else tr C fs E ρ δ |none=>False
variable{D:Addr}{y n:Str}{np:Pos}{b₀:Stmt}{suite:List Stmt}{rest:List ExceptHandler}{ts:TS2}{tr:XTS2}
noncomputable def asE(i:Nat)(E:End2):End2:={nx:=fun ρ δ=>E.nx (ρ.set i .no) δ,rt:=E.rt,xc:=fun _ _ _ _=>False,bk:=fun ρ δ=>E.bk (ρ.set i .no) δ,ct:=fun ρ δ=>E.ct (ρ.set i .no) δ}
noncomputable def t2HAs(K:Frag)(i:Nat)(D:Addr)(ts:TS2)(tr:XTS2):XTS2:=fun C fs E ρ δ=>match PySem.W.mroIn K C (.ref D)with |some b=>if b=true then ts (asE i E) (ρ.set i (.val (.exc C fs))) δ else tr C fs E ρ δ |none=>False
noncomputable def t2Try(tb:TS2)(th:XTS2):TS2:=fun E ρ δ=>tb {E with xc:=fun C fs ρ' δ'=>th C fs E ρ' δ'} ρ δ
end
end DL
namespace DL
open PySem PySem.Spec L2
open PySem.W (XC)
noncomputable def z1z(K:Frag)(F H:Hp)(d:D)(v:V)(H':Hp):Prop:=(H'=H∧Rep K F d v)∨∃p vs es,H p=none∧H'=upd H p (.tup vs)∧v=.ref p∧d=.tup es∧Reps K F es vs
structure SrcOk(K:Frag)(J:It)(F:Hp)(ds:List D):Prop where
 item:∀(i:Nat) (d:D) (F' H:Hp),ds[i]?=some d→Same F F'→Same F' H→J.go i H∧∀v H',J.yld i H v H'→z1z K F' H d v H'
 stop:∀(F' H:Hp),Same F F'→Same F' H→J.stop ds.length H
theorem I2.yld{K:Frag}{Y:Y2}{F H H':Hp}{σ:St}{ρ:En}{δ:Dk}{d:D}{v:V}(I:I2 K Y F H σ ρ δ)(y:z1z K F H d v H'):∃F',I2 K Y F' H' σ ρ δ∧Same F F'∧Rep K F' d v∧∀D u,H D=some u→F D=none→F' D=none:=by
 rcases y with ⟨rfl,r⟩|⟨p,vs,es,hp,rfl,rfl,rfl,r⟩
 ·exact ⟨F,I,Same.refl F,r,fun _ _ _ z=>z⟩
 ·exact ⟨_,I.alloc hp,I.grow hp,I.tup hp r,fun D u h z=>by rw[o0 (l0 h hp)];exact z⟩
noncomputable abbrev TI2:=XK2→En→Dk→(List D→En→Dk→Prop)→Prop
noncomputable def upI2(K:Frag)(Y:Y2)(W:XW)(t:TI2):TI:=fun σ H R=>∃F ρ δ x q,I2 K Y F H σ ρ δ∧t x ρ δ q∧(∀ds J F' H' ρ' δ',I2 K Y F' H' σ ρ' δ'→Same F F'→SrcOk K J F' ds→q ds ρ' δ'→R J H')∧XR K Y W F x
structure PI2(X:Cx)(Y:Y2)(W:XW)(tg iter:Expr)(t:TI2):Prop where
 go:PI X tg iter (upI2 X.K Y W t)
theorem y1g{X:Cx}{tg iter:Expr}{t t':TI}(h:PI X tg iter t)(k:∀ σ H R,t' σ H R→t σ H R):PI X tg iter t':=fun pins s σ H R I q=>h pins s σ H R I (k σ H R q)
theorem pi2{X:Cx}{Y:Y2}{W:XW}{tg iter:Expr}{t:TI}{u:TI2}(h:PI X tg iter t)(k:∀ σ H R,upI2 X.K Y W u σ H R→t σ H R):PI2 X Y W tg iter u:=⟨y1g h k⟩
section
variable{X:Cx}{Y:Y2}{W:XW}{tg:Expr}{K:Frag}
theorem y1f{F:Hp}{a:Addr}{xs:List V}{ds:List D}(h:SqT K F a xs)(r:Reps K F ds xs):SrcOk K (Itt K a) F ds:=by
 refine ⟨fun i d F' H e s1 s2=>?_,fun F' H s1 s2=>?_⟩
 ·obtain ⟨v,ev,rv⟩:=r.get e;have hs:=(s1.trans s2).sqT h;refine ⟨⟨xs,v,hs,ev⟩,fun u H' y=>?_⟩;obtain ⟨rfl,y⟩:=y;have:=y xs hs;rw[ev]at this;cases this;exact .inl ⟨rfl,rv.mono s1⟩
 ·exact ⟨xs,(s1.trans s2).sqT h,by rw[r.length];exact Nat.le_refl _⟩
theorem f0b{F:Hp}{a:Addr}{xs:List V}{ds:List D}(h:SqL K F a xs)(r:Reps K F ds xs):SrcOk K (Itl K a) F ds:=by
 refine ⟨fun i d F' H e s1 s2=>?_,fun F' H s1 s2=>?_⟩
 ·obtain ⟨v,ev,rv⟩:=r.get e;have hs:=(s1.trans s2).sqL h;refine ⟨⟨xs,v,hs,ev⟩,fun u H' y=>?_⟩;obtain ⟨rfl,y⟩:=y;have:=y xs hs;rw[ev]at this;cases this;exact .inl ⟨rfl,rv.mono s1⟩
 ·exact ⟨xs,(s1.trans s2).sqL h,by rw[r.length];exact Nat.le_refl _⟩
noncomputable def rngD(lo:Int)(n:Nat):List D:=(List.range n).map fun (k:Nat)=>D.int (lo+(k:Int))
theorem k9{lo:Int}{n i:Nat}{d:D}(e:(rngD lo n)[i]?=some d):i<n∧d=.int (lo+(i:Int)):=by
 unfold rngD at e;rw[List.getElem?_map,Option.map_eq_some_iff]at e;obtain ⟨k,ek,rfl⟩:=e;obtain ⟨h1,h2⟩:=List.getElem?_eq_some_iff.mp ek;rw[List.length_range]at h1;rw[List.getElem_range]at h2;subst h2;exact ⟨h1,rfl⟩
theorem y8{lo:Int}{n:Nat}:(rngD lo n).length=n:=by unfold rngD;simp
theorem f0a{F:Hp}{lo:Int}{n:Nat}:SrcOk K (Itr lo n) F (rngD lo n):=by
 refine ⟨fun i d F' H e s1 s2=>?_,fun F' H s1 s2=>?_⟩
 ·obtain ⟨hi,rfl⟩:=k9 e;refine ⟨hi,fun v H' y=>?_⟩;obtain ⟨rfl,rfl⟩:=y;exact .inl ⟨rfl,rep_int.mpr rfl⟩
 ·show n≤_;rw[y8];exact Nat.le_refl _
noncomputable def iSeq(K:Frag)(tl:TE):TI:=fun σ H R=>tl σ H fun x H1=>∃a,x=.ref a∧(((∃xs,SqL K H1 a xs)∧R (Itl K a) H1)∨((∃xs,SqT K H1 a xs)∧R (Itt K a) H1))
theorem pi_seq{l:Expr}{tl:TE}(hl:PE X l tl):PI X tg l (iSeq X.K tl):=by
 intro pins s σ H R I h;refine thn (hl pins s σ H _ I h) fun v s1 ⟨x,H1,I1,r1,q1⟩=>?_
 obtain ⟨a,e,q⟩:=q1;subst e;cases r1;rcases q with ⟨⟨xs,hq⟩,q⟩|⟨⟨xs,hq⟩,q⟩
 ·obtain ⟨its,rv,p,hz⟩:=I1.list hq;refine wpAny_pyIter_list p.isList ?_;refine ⟨s1.heap.objs.size,[s1.heap.objs.size],_,_,H1,rfl,I1.kept (t':=s1.toks) fun b o e=>Heap.get?_push_of_some _ e,g0v a _,⟨_,Heap.get?_push_size _ rfl,rfl,rfl⟩,fun b hb=>?_,q⟩;have e:b=s1.heap.objs.size:=by simpa using hb
  subst e;exact I1.fpOk (Nat.le_refl _) (I1.hok.fresh (Nat.le_refl _))
 ·obtain ⟨its,rv,p,hz⟩:=I1.tuple hq;refine wpAny_pyIter_tuple (show s1.heap.IsTuple a its.toArray from p) ?_;refine ⟨s1.heap.objs.size,[s1.heap.objs.size],_,_,H1,rfl,I1.kept (t':=s1.toks) fun b o e=>Heap.get?_push_of_some _ e,i0b a _,⟨_,Heap.get?_push_size _ rfl,rfl,rfl⟩,fun b hb=>?_,q⟩;have e:b=s1.heap.objs.size:=by simpa using hb
  subst e;exact I1.fpOk (Nat.le_refl _) (I1.hok.fresh (Nat.le_refl _))
noncomputable def t2Is(te:TE2):TI2:=fun x ρ δ q=>te x ρ δ fun d ρ1 δ1=>match seqD d with |some ds=>q ds ρ1 δ1 |none=>False
theorem z1y{F:Hp}{d:D}{xs:List D}{x:V}(h:seqD d=some xs)(r:Rep K F d x):∃a vs,x=.ref a∧(SqL K F a vs∨SqT K F a vs)∧Reps K F xs vs:=p0v (Same.refl F) h r
theorem x0w{l:Expr}{te:TE2}(hl:PE2 X Y W l te):PI2 X Y W tg l (t2Is te):=pi2 (pi_seq hl.go) fun σ H R ⟨F,ρ,δ,x,q,I,h,k,kx⟩=>by
 refine ⟨F,ρ,δ,x,_,I,h,fun d v F' H' ρ' δ' I' s' r' h'=>?_,kx⟩;split at h'
 ·rename_i ds e;obtain ⟨a,vs,rfl,sq,z⟩:=z1y e r';refine ⟨a,rfl,?_⟩;rcases sq with sq |sq
  ·exact .inl ⟨⟨vs,I'.sub.sqL sq⟩,k ds _ F' H' ρ' δ' I' s' (f0b sq z) h'⟩
  ·exact .inr ⟨⟨vs,I'.sub.sqT sq⟩,k ds _ F' H' ρ' δ' I' s' (y1f sq z) h'⟩
 ·exact h'.elim
variable{a b:Expr}{ta:TA2}{p pos:Pos}
noncomputable def t2R1(ta:TA2):TI2:=fun x ρ δ q=>ta x ρ δ fun ds ρ1 δ1=>match ds with | [.int j]=>(-(2^62)≤j∧j<2^62)∧q (rngD 0 j.toNat) ρ1 δ1 |_=>False
theorem p9(hm:X.mg "range"=none)(ha:PA2 X Y W [a] ta)(hg:Gl X "range":=by rfl)(hs:starEach [a] X.env=[(false,eval a X.env)]:=by rfl):PI2 X Y W tg (.Call (.Name "range" p) [a] [] pos) (t2R1 ta):=pi2 (g0u hg hm ha.go hs) fun σ H R ⟨F,ρ,δ,x,q,I,h,k,kx⟩=>by
 refine ⟨F,ρ,δ,x,_,I,h,fun ds vs F' H' ρ' δ' I' s' r' h'=>?_,kx⟩;split at h'
 ·rename_i j;obtain ⟨v,rfl,r1⟩:=z0f r';rw[rep_int.mp r1];exact ⟨j,rfl,h'.1.1,h'.1.2,k _ _ F' H' ρ' δ' I' s' f0a h'.2⟩
 ·exact h'.elim
noncomputable def t2R2(ta:TA2):TI2:=fun x ρ δ q=>ta x ρ δ fun ds ρ1 δ1=>match ds with | [.int i,.int j]=>(-(2^62)≤i∧i<2^62∧-(2^62)≤j∧j<2^62)∧q (rngD i (j-i).toNat) ρ1 δ1 |_=>False
theorem e0z(hm:X.mg "range"=none)(ha:PA2 X Y W [a,b] ta)(hg:Gl X "range":=by rfl)(hs:starEach [a,b] X.env=[(false,eval a X.env),(false,eval b X.env)]:=by rfl)(hs2:starEach [b] X.env=[(false,eval b X.env)]:=by rfl):
 PI2 X Y W tg (.Call (.Name "range" p) [a,b] [] pos) (t2R2 ta):=pi2 (g0t hg hm ha.go hs hs2) fun σ H R ⟨F,ρ,δ,x,q,I,h,k,kx⟩=>by
 refine ⟨F,ρ,δ,x,_,I,h,fun ds vs F' H' ρ' δ' I' s' r' h'=>?_,kx⟩;split at h'
 ·rename_i i j;obtain ⟨v,u,rfl,r1,r2⟩:=f0m r';rw[rep_int.mp r1,rep_int.mp r2];exact ⟨i,j,rfl,h'.1,k _ _ F' H' ρ' δ' I' s' f0a h'.2⟩
 ·exact h'.elim
end
noncomputable abbrev G2:=D→En→Option En
noncomputable def TgD(K:Frag)(g:TG)(g2:G2):Prop:=∀(Y:Y2) (F H:Hp) (σ:St) (ρ ρ':En) (δ:Dk) (d:D) (v:V) (Q:St→Hp→Prop),I2 K Y F H σ ρ δ→Rep K F d v→g2 d ρ=some ρ'→(∀ σ',I2 K Y F H σ' ρ' δ→Q σ' H)→g v σ H Q
noncomputable def g2N(i:Nat):G2:=fun d ρ=>some (ρ.set i (.val d))
theorem e0y{K:Frag}{i:Nat}:TgD K (l0n i) (g2N i):=fun Y F H σ ρ ρ' δ d v Q I r e k=>by cases e;exact k _ (I.put r)
noncomputable def s0s:List Nat→List D→En→Option En
 | [],[],ρ=>some ρ
 |i::is,d::ds,ρ=>s0s is ds (ρ.set i (.val d))
 |_,_,_=>none
noncomputable def g2T(is:List Nat):G2:=fun d ρ=>match d with | .tup ds=>s0s is ds ρ |_=>none
noncomputable def gAll:List Nat→TGs
 | []=>gNil
 |i::is=>gCons (l0n i) (gAll is)
theorem z1x{K:Frag}:∀{is:List Nat} {ds:List D} {vs:List V} {Y:Y2} {F H:Hp} {σ:St} {ρ ρ':En} {δ:Dk} {Q:St→Hp→Prop},I2 K Y F H σ ρ δ→Reps K F ds vs→s0s is ds ρ=some ρ'→(∀ σ',I2 K Y F H σ' ρ' δ→Q σ' H)→gAll is vs σ H Q∧vs.length=is.length
 | [],[],vs,Y,F,H,σ,ρ,ρ',δ,Q,I,r,e,k=>by cases e;rw[reps_nil.mp r];exact ⟨⟨rfl,k σ I⟩,rfl⟩
 |i::is,d::ds,vs,Y,F,H,σ,ρ,ρ',δ,Q,I,r,e,k=>by
  obtain ⟨v,l,rfl,r1,r2⟩:=reps_cons.mp r;obtain ⟨h1,h2⟩:=z1x (I.put (i:=i) r1) r2 e k;exact ⟨⟨v,l,rfl,h1⟩,by rw[List.length_cons,List.length_cons,h2]⟩
 | [],d::ds,vs,Y,F,H,σ,ρ,ρ',δ,Q,I,r,e,k=>by cases e
 |i::is,[],vs,Y,F,H,σ,ρ,ρ',δ,Q,I,r,e,k=>by cases e
theorem s0r{K:Frag}{is:List Nat}{n:Nat}(hn:is.length=n):TgD K (gTup K n (gAll is)) (g2T is):=fun Y F H σ ρ ρ' δ d v Q I r e k=>by
 unfold g2T at e;split at e
 ·rename_i ds;obtain ⟨a,vs,rfl,ea,z⟩:=rep_tup.mp r;obtain ⟨h1,h2⟩:=z1x I z e k;exact ⟨a,vs,rfl,SqT.of (I.sub _ _ ea),by rw[h2,hn],h1⟩
 ·cases e
noncomputable def forL(g:G2)(body:TS2)(E:End2):List D→En→Dk→Prop
 | [],ρ,δ=>E.nx ρ δ
 |d::ds,ρ,δ=>match g d ρ with
  |some ρ'=>body {E with nx:=forL g body E ds,ct:=forL g body E ds,bk:=E.nx} ρ' δ
  |none=>False
noncomputable def b0v(ti:TI2)(g:G2)(body:TS2):TS2:=fun E ρ δ=>ti E.xc ρ δ fun ds ρ1 δ1=>forL g body E ds ρ1 δ1
section
variable{X:Cx}{Y:Y2}{W:XW}{tg iter:Expr}{pos:Pos}
theorem w0w{body:List Stmt}{ti:TI2}{g:TG}{g2:G2}{tb:TS2}(hp:PassesOwn (model X.prog X.w) X.A X.env X.xe)(hc:X.calm=true)(hi:PI2 X Y W tg iter ti)(hg:PG X tg g)(hd:TgD X.K g g2)(hb:PSs2 X Y W body tb)
 (hs:∀x,foldedSetIterable iter X.env x=pure x:=by intro _;rfl):PS2 X Y W (.For tg iter body [] pos) (b0v ti g2 tb):=ps2 (ps_for hp hc hi.go hg hb.go hs) fun E1 σ H ⟨F,ρ,δ,E2,I,h,er⟩=>by
 refine ⟨F,ρ,δ,E2.xc,_,I,h,fun ds J F1 H1 ρ1 δ1 I1 s1 src h1=>?_,er.xc⟩;refine ⟨fun i m σ H=>∃F' ρ' δ',I2 X.K Y F' H σ ρ' δ'∧Same F1 F'∧forL g2 tb E2 (ds.drop i) ρ' δ'∧i≤ds.length∧m=ds.length-i,⟨ds.length,F1,ρ1,δ1,I1,Same.refl F1,by simpa using h1,Nat.zero_le _,by simp⟩,?_⟩;rintro i m σ' H' ⟨F',ρ',δ',I',s',h',hi,rfl⟩;cases e:ds[i]? with
 |none=>
  have hl:ds.length≤i:=List.getElem?_eq_none_iff.mp e;have ei:i=ds.length:=by omega
  subst ei;rw[List.drop_length]at h';exact .inl ⟨src.stop F' H' s' I'.sub,er.nx σ' F' H' ρ' δ' I' (s1.trans s') h'⟩
 |some d=>
  have hl:i<ds.length:=(List.getElem?_eq_some_iff.mp e).1;obtain ⟨go,yl⟩:=src.item i d F' H' e s' I'.sub;refine .inr ⟨go,fun σ2 H2=>∃F2 ρ2 δ2,I2 X.K Y F2 H2 σ2 ρ2 δ2∧Same F1 F2∧forL g2 tb E2 (ds.drop (i+1)) ρ2 δ2,fun σ2 H2 ⟨F2,ρ2,δ2,I2',s2,h2⟩=>⟨ds.length-(i+1),by omega,F2,ρ2,δ2,I2',s2,h2,hl,rfl⟩,fun x H2 y=>?_⟩;obtain ⟨F2,I2',s2,r2,_⟩:=I'.yld (yl x H2 y);have ed:ds.drop i=d::ds.drop (i+1):=by rw[List.drop_eq_getElem_cons hl];congr 1;exact (List.getElem?_eq_some_iff.mp e).2
  rw[ed]at h';unfold forL at h';split at h'
  ·rename_i ρ3 e3;refine hd Y F2 H2 σ' ρ' ρ3 δ' d x _ I2' r2 e3 fun σ3 I3=>?_
   have sa:Same F1 F2:=s'.trans s2;refine ⟨F2,ρ3,δ',_,I3,h',⟨fun σ4 F4 H4 ρ4 δ4 I4 s4 h4=>⟨F4,ρ4,δ4,I4,sa.trans s4,h4⟩,fun d v σ4 F4 H4 ρ4 δ4 I4 s4=>er.rt d v σ4 F4 H4 ρ4 δ4 I4 ((s1.trans sa).trans s4),er.xc.mono (s1.trans sa),fun σ4 F4 H4 ρ4 δ4 I4 s4 h4=>er.nx σ4 F4 H4 ρ4 δ4 I4 ((s1.trans sa).trans s4) h4,fun σ4 F4 H4 ρ4 δ4 I4 s4 h4=>⟨F4,ρ4,δ4,I4,sa.trans s4,h4⟩⟩⟩
  ·exact h'.elim
end
section
variable{K:Frag}{Y:Y2}{F H:Hp}{σ:St}{ρ:En}{δ:Dk}
theorem I2.side{D:Addr}{o:HO}(I:I2 K Y F H σ ρ δ)(hF:F D=none)(h0:Y.H₀ D=none)(hd:Off δ D)(hD:∃vs,H D=some (.lst vs))(no:∀j a,u6 ρ σ j a→a≠D):I2 K Y F (upd H D o) σ ρ δ:=by
 obtain ⟨vs,hD⟩:=hD;refine ⟨⟨fun b u e=>?_,fun b fs e=>?_,fun b u e f=>?_,I.ran.f0,I.ran.fnew,I.ran.dto⟩,fun j c e=>?_,I.len,I.apart,I.off⟩
 ·rw[o0 (l0 e hF)];exact I.sub _ _ e
 ·obtain ⟨q1,ws,q2,q3⟩:=I.ran.dk b fs e;exact ⟨q1,ws,by rw[o0 (Ne.symm (hd b fs e))];exact q2,q3⟩
 ·rw[o0 (l0 e h0)];exact I.ran.keep b u e f
 ·have w:=I.env j c e;cases c with
  |no=>trivial
  |val d=>exact w
  |own fs=>
   obtain ⟨b,ws,e1,h1,f1,g1,r1⟩:=w;exact ⟨b,ws,e1,by rw[o0 (no j b ⟨.inl ⟨fs,e⟩,n3 e1⟩)];exact h1,f1,g1,r1⟩
  |obj C fs=>
   obtain ⟨b,dx,ws,e1,es1,h1,h2,f1,f2,g1,g2,r1⟩:=w;have nd:dx≠D:=fun w=>by rw[w,hD]at h2;cases h2
   exact ⟨b,dx,ws,e1,es1,by rw[o0 (no j b ⟨.inr (.inl ⟨C,fs,e⟩),n3 e1⟩)];exact h1,by rw[o0 nd];exact h2,f1,f2,g1,g2,r1⟩
  |ownD fs=>
   obtain ⟨b,ws,e1,h1,f1,g1,r1⟩:=w;exact ⟨b,ws,e1,by rw[o0 (no j b ⟨.inr (.inr ⟨fs,e⟩),n3 e1⟩)];exact h1,f1,g1,r1⟩
theorem I2.ice{D:Addr}{vs:List V}(I:I2 K Y F H σ ρ δ)(hF:F D=none)(h0:Y.H₀ D=none)(hd:Off δ D)(hD:H D=some (.lst vs))(no:∀j a,u6 ρ σ j a→a≠D):I2 K Y (upd F D (.lst vs)) H σ ρ δ:=by
 refine ⟨⟨fun b u e=>?_,fun b fs e=>?_,I.ran.keep,fun b u e=>?_,fun b u e=>?_,I.ran.dto⟩,fun j c e=>?_,I.len,I.apart,I.off⟩
 ·by_cases z:b=D
  ·subst z;rw[x3]at e;cases e;exact hD
  ·rw[o0 z]at e;exact I.sub _ _ e
 ·obtain ⟨q1,ws,q2,q3⟩:=I.ran.dk b fs e;exact ⟨by rw[o0 (Ne.symm (hd b fs e))];exact q1,ws,q2,q3.mono (Same.new hF)⟩
 ·rw[o0 (l0 (I.ran.f0 b u e) hF)];exact I.ran.f0 b u e
 ·by_cases z:b=D
  ·subst z;exact .inr h0
  ·rw[o0 z]at e;exact I.ran.fnew b u e
 ·have w:=I.env j c e;cases c with
  |no=>trivial
  |val d=>obtain ⟨u,e1,r1⟩:=w;exact ⟨u,e1,r1.mono (Same.new hF)⟩
  |own fs=>
   obtain ⟨b,ws,e1,h1,f1,g1,r1⟩:=w;exact ⟨b,ws,e1,h1,by rw[o0 (no j b ⟨.inl ⟨fs,e⟩,n3 e1⟩)];exact f1,g1,r1.mono (Same.new hF)⟩
  |obj C fs=>
   obtain ⟨b,dx,ws,e1,es1,h1,h2,f1,f2,g1,g2,r1⟩:=w;have nd:dx≠D:=fun w=>by rw[w,hD]at h2;cases h2
   exact ⟨b,dx,ws,e1,es1,h1,h2,by rw[o0 (no j b ⟨.inr (.inl ⟨C,fs,e⟩),n3 e1⟩)];exact f1,by rw[o0 nd];exact f2,g1,g2,r1.mono (Same.new hF)⟩
  |ownD fs=>
   obtain ⟨b,ws,e1,h1,f1,g1,r1⟩:=w;exact ⟨b,ws,e1,h1,by rw[o0 (no j b ⟨.inr (.inr ⟨fs,e⟩),n3 e1⟩)];exact f1,g1,r1.mono (Same.new hF)⟩
theorem I2.ownAddr{j:Nat}{a:Addr}(I:I2 K Y F H σ ρ δ)(o:u6 ρ σ j a):∃u,H a=some u:=by
 rcases o.1 with ⟨ds,q⟩|⟨C,fs,q⟩|⟨kvs,q⟩
 rotate_left 2
 ·obtain ⟨b,us,e,hb,_⟩:=I.env j _ q;rw[o.2]at e;cases e;exact ⟨_,hb⟩
 ·obtain ⟨b,us,e,hb,_⟩:=I.env j _ q;rw[o.2]at e;cases e;exact ⟨_,hb⟩
 ·obtain ⟨b,dx,us,e,es0,hb,_⟩:=I.env j _ q;rw[o.2]at e;cases e;exact ⟨_,hb⟩
noncomputable def y0a:Option Cell→Cell |some (.val d)=>.val d |_=>.no
noncomputable def capt(ρ:En)(js:List Nat):En:=js.map fun j=>y0a ρ[j]?
noncomputable def r8(te:TE2)(js:List Nat)(ρ:En)(q:List D→Dk→Prop):List D→List D→Dk→Prop
 | [],acc,δ=>q acc δ
 |d::ds,acc,δ=>te (fun _ _ _ _=>False) (.val d::capt ρ js) δ fun e _ δ1=>acc.length<1000∧r8 te js ρ q ds (acc++[e]) δ1
end
section
variable{X:Cx}{Y:Y2}{W:XW}{x:Str}{px pos:Pos}{elt iter:Expr}{js:List Nat}{scope:Scope}{te:TE2}{ti:TI2}
noncomputable def teY(K:Frag)(te:TE2):TE:=fun σ H Q=>∃Y',upE K Y' W0 te σ H Q
variable{i:Nat}{y:Str}{py spos:Pos}
noncomputable def t2Comp(ti:TI2)(js:List Nat)(te:TE2):TE2:=fun x ρ δ q=>ti x ρ δ fun ds ρ1 δ1=>r8 te js ρ1 (fun acc δ2=>q (.lst acc) ρ1 δ2) ds [] δ1
noncomputable def t2OwnC(i:Nat)(ti:TI2)(js:List Nat)(te:TE2):TS2:=fun E ρ δ=>ti E.xc ρ δ fun ds ρ1 δ1=>r8 te js ρ1 (fun acc δ2=>E.nx (ρ1.set i (.own acc)) δ2) ds [] δ1
theorem I2.take{K:Frag}{F H:Hp}{σ:St}{ρ:En}{δ:Dk}{D:Addr}{ds:List DL.D}{vs:List V}(I:I2 K Y F H σ ρ δ)(hF:F D=none)(h0:Y.H₀ D=none)(hd:Off δ D)(hD:H D=some (.lst vs))(no:∀j a,u6 ρ σ j a→a≠D)(r:Reps K F ds vs):I2 K Y F H (σ.set i (some (.ref D))) (ρ.set i (.own ds)) δ:=by
 have key:∀j a,u6 (ρ.set i (.own ds)) (σ.set i (some (.ref D))) j a→(j=i∧a=D)∨(j≠i∧u6 ρ σ j a):=fun j a o=>by
  by_cases z:j=i
  ·subst z;have:=o.2;rw[List.getElem?_set]at this;by_cases hl:j<σ.length
   ·simp[hl]at this;exact .inl ⟨rfl,this.symm⟩
   ·simp[hl]at this
  ·obtain ⟨o1,o2⟩:=o;simp only[List.getElem?_set_ne (Ne.symm z)]at o1 o2;exact .inr ⟨z,o1,o2⟩
 refine ⟨I.ran,fun j c e=>?_,by simp[I.len],fun a b c n o1 o2=>?_,fun j a o=>?_⟩
 ·by_cases z:j=i
  ·subst z;rw[List.getElem?_set]at e;by_cases hl:j<ρ.length
   ·simp[hl]at e;subst e;refine ⟨D,vs,?_,hD,hF,h0,r⟩;rw[List.getElem?_set];simp[I.len▸hl]
   ·simp[hl]at e
  ·rw[List.getElem?_set_ne (Ne.symm z)]at e ⊢;exact I.env j c e
 ·rcases key a c o1 with ⟨z1,z2⟩|⟨z1,z2⟩
  ·rcases key b c o2 with ⟨y1,y2⟩|⟨y1,y2⟩
   ·exact n (z1.trans y1.symm)
   ·exact no b c y2 z2
  ·rcases key b c o2 with ⟨y1,y2⟩|⟨y1,y2⟩
   ·exact no a c z2 y2
   ·exact I.apart a b c n z2 y2
 ·rcases key j a o with ⟨z1,z2⟩|⟨z1,z2⟩
  ·rw[z2];exact hd
  ·exact I.off j a z2
end
section
variable{X:Cx}{Y:Y2}{W:XW}{pos:Pos}
theorem I2.deck{K:Frag}{F H:Hp}{σ:St}{ρ:En}{p:Addr}{ds:List D}{vs:List V}(I:I2 K Y F H σ ρ none)(h:H p=none)(r:Reps K F ds vs):I2 K Y F (upd H p (.lst vs)) σ ρ (some (p,ds)):=by
 have hF:F p=none:=I.sub.free h;have h0:=I.ran.fresh h;have n0:Y.δ₀=none:=by
  cases hd:Y.δ₀ with
  |none=>rfl
  |some q=>
   obtain ⟨a,gs⟩:=q;obtain ⟨es,z⟩:=I.ran.dto.1 a gs hd;cases z
 refine ⟨⟨fun b u e=>by rw[o0 (l0 e hF)];exact I.sub _ _ e,fun a es e=>(by cases e;exact ⟨hF,vs,x3,r⟩),fun b u e f=>by rw[o0 (l0 e h0)];exact I.ran.keep b u e f,I.ran.f0,I.ran.fnew,⟨fun a gs e=>(by rw[n0]at e;cases e),fun a gs e _=>(by cases e;exact h0)⟩⟩,fun j c e=>?_,I.len,I.apart,fun j a o b es e=>?_⟩
 ·have w:=I.env j c e;cases c with
  |no=>trivial
  |val d=>exact w
  |own fs=>
   obtain ⟨b,ws,e1,h1,f1,g1,r1⟩:=w;exact ⟨b,ws,e1,by rw[o0 (l0 h1 h)];exact h1,f1,g1,r1⟩
  |obj C fs=>
   obtain ⟨b,dx,ws,e1,es1,h1,h2,f1,f2,g1,g2,r1⟩:=w;exact ⟨b,dx,ws,e1,es1,by rw[o0 (l0 h1 h)];exact h1,by rw[o0 (l0 h2 h)];exact h2,f1,f2,g1,g2,r1⟩
  |ownD fs=>
   obtain ⟨b,ws,e1,h1,f1,g1,r1⟩:=w;exact ⟨b,ws,e1,by rw[o0 (l0 h1 h)];exact h1,f1,g1,r1⟩
 ·cases e;obtain ⟨u,hu⟩:=I.ownAddr o;exact l0 hu h
noncomputable def p0j(ta:TA2):TS2:=fun E ρ δ=>ta E.xc ρ δ fun ds ρ1 δ1=>δ1=none∧ds.length≤1000∧∀p,E.rt (.ref p) (some (p,ds))
theorem b0u{es:List Expr}{ta:TA2}{lpos:Pos}(ha:PA2 X Y W es ta):PS2 X Y W (.Return (some (.List es lpos)) pos) (p0j ta):=ps2 (a0o (g0h ha.go)) fun E1 σ H ⟨F,ρ,δ,E2,I,h,er⟩=>
 ⟨F,ρ,δ,E2.xc,_,I,h,fun ds vs F1 H1 ρ1 δ1 I1 s1 r1 h1=>⟨h0q (by rw[r1.length];exact h1.2.1),fun p hp=>by
  obtain ⟨rfl,_,h2⟩:=h1;exact er.rt _ _ σ F1 _ ρ1 _ (I1.deck hp r1) s1 (rep_ref.mpr rfl) (h2 p)⟩,er.xc⟩
noncomputable def countQ(xs:List D)(y:D):Nat:=xs.countP fun z=>eqV (toV z) (toV y)
noncomputable def y1e(ta:TE2)(t:TA2):TE2:=fun x ρ δ q=>ta x ρ δ fun d ρ1 δ1=>match d with
 | .lst xs=>t x ρ1 δ1 fun es ρ2 δ2=>(match es with | [y]=>(m6 y&&xs.all m6)=true∧q (.int (countQ xs y:Nat)) ρ2 δ2 |_=>False)
 |_=>False
end
end DL
namespace DL
open PySem PySem.Spec L2
open PySem.W (XC)
section
variable{X:Cx}{Y:Y2}{W:XW}{pos:Pos}
end
section
variable(K:Frag)
open PySem.W (kitOne kitAny)
theorem ko{n:String}(h:n∈BT):kitOne K (.type n) (.type "bool")=some (n=="bool")∧kitOne K (.type n) (.type "int")=some (n=="int"||n=="bool")∧
 kitOne K (.type n) (.type "list")=some (n=="list")∧kitOne K (.type n) (.type "tuple")=some (n=="tuple")∧kitAny K (.type n) [.type "list",.type "tuple"]=some (n=="list"||n=="tuple"):=kt_all K h
theorem y1d{d:D}(h:TyD K d)(hp:∀C fs,d≠.ins C fs∧d≠.exc C fs):n0q K d (.ty "bool")=some (match d with | .bl _=>true |_=>false):=by
 cases d with
 |non=>exact (ko K (n:="NoneType") (by decide)).1
 |bl b=>exact (ko K (n:="bool") (by decide)).1
 |int b=>exact (ko K (n:="int") (by decide)).1
 |str b=>exact (ko K (n:="str") (by decide)).1
 |lst b=>exact (ko K (n:="list") (by decide)).1
 |tup b=>exact (ko K (n:="tuple") (by decide)).1
 |scr b=>exact h.elim
 |dic b=>exact (ko K (n:="dict") (by decide)).1
 |dwk b=>exact h.elim
 |ins C b=>exact absurd rfl (hp C b).1
 |exc C b=>exact absurd rfl (hp C b).2
 |ref a=>exact h.elim
 |ty a=>exact h.elim
theorem ko_int{d:D}(h:TyD K d)(hp:∀C fs,d≠.ins C fs∧d≠.exc C fs):n0q K d (.ty "int")=some (match d with | .bl _=>true | .int _=>true |_=>false):=by
 cases d with
 |non=>exact (ko K (n:="NoneType") (by decide)).2.1
 |bl b=>exact (ko K (n:="bool") (by decide)).2.1
 |int b=>exact (ko K (n:="int") (by decide)).2.1
 |str b=>exact (ko K (n:="str") (by decide)).2.1
 |lst b=>exact (ko K (n:="list") (by decide)).2.1
 |tup b=>exact (ko K (n:="tuple") (by decide)).2.1
 |scr b=>exact h.elim
 |dic b=>exact (ko K (n:="dict") (by decide)).2.1
 |dwk b=>exact h.elim
 |ins C b=>exact absurd rfl (hp C b).1
 |exc C b=>exact absurd rfl (hp C b).2
 |ref a=>exact h.elim
 |ty a=>exact h.elim
theorem ko_row{d:D}(h:TyD K d)(hp:∀C fs,d≠.ins C fs∧d≠.exc C fs):n0q K d (.tup [.ty "list",.ty "tuple"])=some (match d with | .lst _=>true | .tup _=>true |_=>false):=by
 cases d with
 |non=>exact (ko K (n:="NoneType") (by decide)).2.2.2.2
 |bl b=>exact (ko K (n:="bool") (by decide)).2.2.2.2
 |int b=>exact (ko K (n:="int") (by decide)).2.2.2.2
 |str b=>exact (ko K (n:="str") (by decide)).2.2.2.2
 |lst b=>exact (ko K (n:="list") (by decide)).2.2.2.2
 |tup b=>exact (ko K (n:="tuple") (by decide)).2.2.2.2
 |scr b=>exact h.elim
 |dic b=>exact (ko K (n:="dict") (by decide)).2.2.2.2
 |dwk b=>exact h.elim
 |ins C b=>exact absurd rfl (hp C b).1
 |exc C b=>exact absurd rfl (hp C b).2
 |ref a=>exact h.elim
 |ty a=>exact h.elim
end
noncomputable def p5:D→Bool
 | .non=>true | .bl _=>true | .int _=>true | .str _=>true | .lst _=>true | .tup _=>true | .dic _=>true |_=>false
theorem i0s{K:Frag}{d:D}(h:p5 d=true):TyD K d∧∀C fs,d≠.ins C fs∧d≠.exc C fs:=by
 cases d with
 |scr b=>cases h
 |dwk b=>cases h
 |ins C b=>cases h
 |exc C b=>cases h
 |ref a=>cases h
 |ty a=>cases h
 |_=>exact ⟨trivial,fun C fs=>⟨(by intro z;cases z),(by intro z;cases z)⟩⟩
noncomputable def u4:D→Int→Int→Bool
 | .int i,lo,hi=>decide (lo≤i)&&decide (i≤hi)
 |_,_,_=>false
end DL
namespace DL
open PySem PySem.Spec L2
section
variable{X:Cx}{Y:Y2}{W:XW}{pos:Pos}{a:Expr}{ta:TE2}
theorem e0x{x:Str}{n:Int}(hm:∃t,X.mg x=some (.int n t))(hg:Gl X x:=by rfl)(hd:(x==("__debug__":Str))=false:=by decide):PE2 X Y W (.Name x pos) (t2C (.int n)):=by
 obtain ⟨t,hm⟩:=hm;exact e2_gi hm ⟨t,rfl⟩ hg hd
theorem i5(K:Frag){f:Str}(ha:PE2 X Y W a ta)(hK:X.K=K:=by rfl)(hb:attributeBase a f X.env (eval a X.env)=eval a X.env:=by rfl):PE2 X Y W (.Attribute a f pos) (l0b K f ta):=hK▸e2_fld ha hb
variable{x:Str}{p:Pos}{e:Expr}{te:TE2}
theorem j9(K:Frag)(i:Nat){f:Str}{tpos:Pos}(he:PE2 X Y W e te)(hK:X.K=K:=by rfl)(hN:X.N[i]?=some x:=by rfl)(hv:Vis X.env.scope x:=by walk_at "v3")(hd:(x==("__debug__":Str))=false:=by decide)(hcd:(x==("__classdict__":Str))=false:=by decide)
 (hs:swapsWith e (some (.Attribute (.Name x p) f tpos)) pos.line X.env=pure false:=by rfl):PS2 X Y W (.Assign [.Attribute (.Name x p) f tpos] e pos) (n0k K i f te):=hK▸y1i i he hN hv hd hcd hs
variable{D:Addr}{y n:Str}{np:Pos}{b₀:Stmt}{suite:List Stmt}{rest:List ExceptHandler}{ts:TS2}{tr:XTS2}
end
end DL
namespace DL
open L2
theorem l0a{α:Type}(l:List α)(k:Nat):atI l (no_index (OfNat.ofNat k))=l[k]?:=by
 have e:(OfNat.ofNat k:Int)=((k:Nat):Int):=rfl;rw[e];unfold atI ixN;rw[if_pos (by omega)];by_cases h:k<l.length
 ·rw[if_pos (by omega)];show l[((k:Nat):Int).toNat]?=_;rw[Int.toNat_natCast]
 ·rw[if_neg (by omega),List.getElem?_eq_none (by omega)];rfl
theorem k0z(n k:Nat):ixN n (no_index (OfNat.ofNat k))=if k<n then some k else none:=by
 have e:(OfNat.ofNat k:Int)=((k:Nat):Int):=rfl;rw[e];unfold ixN;rw[if_pos (by omega)];by_cases h:k<n
 ·rw[if_pos (by omega),if_pos h,Int.toNat_natCast]
 ·rw[if_neg (by omega),if_neg h]
end DL
namespace DL
open PySem PySem.Spec L2
noncomputable def t0o(g:G2)(body:TS2)(E:End2)(rest:En→Dk→Prop)(d:D)(ρ:En)(δ:Dk):Prop:=match g d ρ with
 |some ρ'=>body {E with nx:=rest,ct:=rest,bk:=E.nx} ρ' δ
 |none=>False
theorem i9{g:G2}{body:TS2}{E:End2}{ρ:En}{δ:Dk}{ds:List D}(P:Nat→En→Dk→Prop)(h0:P 0 ρ δ)
 (step:∀(i:Nat) (d:D) (ρ:En) (δ:Dk) (rest:En→Dk→Prop),ds[i]?=some d→P i ρ δ→(∀ ρ' δ',P (i+1) ρ' δ'→rest ρ' δ')→t0o g body E rest d ρ δ) (fin:∀ ρ δ,P ds.length ρ δ→E.nx ρ δ):forL g body E ds ρ δ:=by
 have key:∀(k i:Nat) (ρ:En) (δ:Dk),i+k=ds.length→P i ρ δ→forL g body E (ds.drop i) ρ δ:=by
  intro k
  induction k with
  |zero=>
   intro i ρ δ hi p;rw[List.drop_eq_nil_of_le (by omega)];have:i=ds.length:=by omega
   subst this;exact fin ρ δ p
  |succ k ih=>
   intro i ρ δ hi p;have hl:i<ds.length:=by omega
   rw[List.drop_eq_getElem_cons hl];have:=step i ds[i] ρ δ (forL g body E (ds.drop (i+1))) (by simp[hl]) p fun ρ' δ' p'=>ih (i+1) ρ' δ' (by omega) p'
   unfold t0o at this;unfold forL;exact this
 have:=key ds.length 0 ρ δ (by omega) h0
 rwa[List.drop_zero]at this
theorem z7{te:TE2}{js:List Nat}{ρ:En}{q:List D→Dk→Prop}{ds:List D}{acc:List D}{δ:Dk}(P:Nat→List D→Dk→Prop)(h0:P 0 acc δ)
 (step:∀(i:Nat) (d:D) (acc:List D) (δ:Dk) (rest:List D→Dk→Prop),ds[i]?=some d→P i acc δ→(∀acc' δ',P (i+1) acc' δ'→rest acc' δ')→te (fun _ _ _ _=>False) (.val d::capt ρ js) δ fun e _ δ1=>acc.length<1000∧rest (acc++[e]) δ1)
 (fin:∀acc δ,P ds.length acc δ→q acc δ):r8 te js ρ q ds acc δ:=by
 have key:∀(k i:Nat) (acc:List D) (δ:Dk),i+k=ds.length→P i acc δ→r8 te js ρ q (ds.drop i) acc δ:=by
  intro k
  induction k with
  |zero=>
   intro i acc δ hi p;rw[List.drop_eq_nil_of_le (by omega)];have:i=ds.length:=by omega
   subst this;exact fin acc δ p
  |succ k ih=>
   intro i acc δ hi p;have hl:i<ds.length:=by omega
   rw[List.drop_eq_getElem_cons hl];unfold r8;exact step i ds[i] acc δ (fun acc' δ'=>r8 te js ρ q (ds.drop (i+1)) acc' δ') (by simp[hl]) p fun acc' δ' p'=>ih (i+1) acc' δ' (by omega) p'
 have:=key ds.length 0 acc δ (by omega) h0
 rwa[List.drop_zero]at this
theorem s0q{K:Frag}{F:Hp}:∀ns:List Int,Reps K F (ns.map D.int) (ns.map V.int)
 | []=>Reps.nil
 |n::ns=>Reps.cons (rep_int.mpr rfl) (s0q ns)
noncomputable def h0n:Sp2:=fun ds δ q _=>∃ns:List Int,ds=[.scr (ns.map D.int)]∧ns.length≤63∧δ=none∧∀ δ',q (.bl true) δ'
theorem walk2{l:PySem.W.OpenLaw}{k:Nat}{q:Program}{loose:List Str}{XP:(Str→Option Value)→Heap→Prop}{YP:World→Heap→Prop}{d:DefRec}{K:Params→PySem.W.Frag}{x:Str}(hn:l.most=some 63)(hdf:d.params.defaults=[])(hr:Room k callerA)
 (hY:∀(w:World) (h:Heap),YP w h→(K w.params).In h)
 (F:∀(w:World) (mg:Str→Option Value) (fa:Addr) (h:Heap),(K w.params).In h→h.Ns mainGlobals mg→mg d.name=some (.ref fa)→
  ∃fd:FuncData,(∀(s:Shared) (u:Value),BindsTo s fd ⟨[u],[]⟩ [(x,u)])∧∀base:Heap,(K w.params).In base→base.Ns mainGlobals mg→FnOk l.prog w (K w.params) mg base (CX1 l.prog w) k fa fd [x] (upF (K w.params) h0n)):
 PySem.W.WalkO q loose XP YP l.row.toRowW d [] (fun f vs=>PySem.call f vs):=
 L2.walk_of (n:=63) (k:=k) (x:=x) (CX:=fun w=>CX1 l.prog w) (sp:=fun w=>upF (K w.params) h0n) hn (by decide) hdf hr hY F
  (fun w H a ns hl _ hS=>⟨H,[.scr (ns.map D.int)],none,fun d _=>d=.bl true,fun _ _ _=>False,Same.refl H,fun a ds e=>(by cases e),Reps.cons (rep_scr.mpr ⟨a,_,rfl,hS,s0q ns⟩) Reps.nil,⟨ns,rfl,hl,rfl,fun _=>rfl⟩,
   fun d v F' H' δ' R r e=>(by subst e;exact rep_bl.mp r),fun _ _ _ _ _ _ _ _ z=>z⟩)
  fun w H s e s' ⟨_,_,_,_,_,_,_,_,_,_,_,_,_,_,z⟩=>z
end DL
namespace L2
open PySem PySem.Spec PyProof.Rows
section
variable{prog:Program}{w:World}{A:Around}{E:Value→Shared→Prop}{s:Shared}
theorem nx_tup{j t:Addr}{i:Nat}{xs:Array Value}{x:Value}{Q:Value→Shared→Prop}(hj:s.heap.IsTupleIter j t i)(ht:s.heap.IsTuple t xs)(hx:xs[i]?=some x)
 (hQ:∀h',h'.IsTupleIter j t (i+1)→Heap.SameBut j s.heap h'→Q x {s with heap:=h'}):wpAny (model prog w) A (Builtin.SmallTypes.nextOf (.ref j)) Q E s:=by
 obtain ⟨o,ho,hc,hd⟩:=id hj;obtain ⟨ot,hot,_,nt,hdt⟩:=ht;unfold Builtin.SmallTypes.nextOf;refine wpAny_bind (wpAny_callSpecial?_slot (name:=Str.ofString "__next__") hj.typeIs F.slot_tuple_iterator_next (wpAny_call_entry F.slot_tuple_iterator_next hj.typeIs F.entry_tuple_iterator_next ?_ (F.args_tuple_iterator_next_1 _)));show wpAny _ _ (field (.ref j) 0 >>= _) _ _ s;refine wpAny_bind (wpAny_field ho hd (x:=.ref t) rfl ?_);show wpAny _ _ (if ((Value.ref t)==Value.none)=true then _ else _) _ _ s;rw[if_neg (show ¬(((Value.ref t)==Value.none)=true)from Bool.false_ne_true)];show wpAny _ _ (field (.ref j) 1 >>= _) _ _ s;refine wpAny_bind (wpAny_field ho hd (x:=(.int i 0)) rfl ?_);refine wpAny_bind (m:=seqItems? (.ref t)) (wpAny_seqItems hot hdt ?_);simp only[Int.toNat_natCast,hx];refine wpAny_bind (wpAny_setField ho hd (by simp) (wpAny_pure ⟨x,rfl,wpAny_pure (hQ _ ⟨_,Heap.get?_update_self _ ho (Obj.isFreed_of_fields (Obj.data_mapFields hd _)),(Obj.cls_mapFields ..).trans hc,?_⟩ (Heap.SameBut.update ..))⟩));rw[Obj.data_mapFields hd];simp[rawInt]
theorem h0m{j t:Addr}{i:Nat}{xs:Array Value}{Q:Value→Shared→Prop}(hh:A.handled=none)(hj:s.heap.IsTupleIter j t i)(ht:s.heap.IsTuple t xs)(hx:xs[i]?=none)
 (hE:∀h' e,Heap.ExtBut j s.heap h'→(∃o,h'.get? e=some o∧o.cls=.type "StopIteration")→E (.ref e) {s with heap:=h'}):wpAny (model prog w) A (Builtin.SmallTypes.nextOf (.ref j)) Q E s:=by
 obtain ⟨o,ho,hc,hd⟩:=id hj;obtain ⟨ot,hot,_,nt,hdt⟩:=ht;unfold Builtin.SmallTypes.nextOf;refine wpAny_bind (wpAny_callSpecial?_slot (name:=Str.ofString "__next__") hj.typeIs F.slot_tuple_iterator_next (wpAny_call_entry F.slot_tuple_iterator_next hj.typeIs F.entry_tuple_iterator_next ?_ (F.args_tuple_iterator_next_1 _)));show wpAny _ _ (field (.ref j) 0 >>= _) _ _ s;refine wpAny_bind (wpAny_field ho hd (x:=.ref t) rfl ?_);show wpAny _ _ (if ((Value.ref t)==Value.none)=true then _ else _) _ _ s;rw[if_neg (show ¬(((Value.ref t)==Value.none)=true)from Bool.false_ne_true)];show wpAny _ _ (field (.ref j) 1 >>= _) _ _ s;refine wpAny_bind (wpAny_field ho hd (x:=(.int i 0)) rfl ?_);refine wpAny_bind (m:=seqItems? (.ref t)) (wpAny_seqItems hot hdt ?_);simp only[Int.toNat_natCast,hx];refine wpAny_bind (wpAny_rule (wpAny_bind (wpAny_setField ho hd (by simp) (wpAny_bind ?_))));simp only[newExc,newTuple];refine wpAny_bind (wpAny_newObj_type (wpAny_bind (m:=firstArgMember _ _) (wpAny_of_eq (a:=Value.none) (by first |rfl |(simp only[firstArgMember];rfl)) (wpAny_newObj_type ?_ (by size_fits)))) (by size_fits));simp only[raiseNew];refine wpAny_bind (wpAny_handled ?_)
 first |rw[show A.in1.handled=none from hh]|rw[hh]
 exact wpAny_bind (wpAny_pure (wpAny_throw (hE _ _ (((Heap.SameBut.update ..).extBut.push _).push _) ⟨_,Heap.get?_push_size _ rfl,rfl⟩)))
end
theorem e0w{prog:Program}{w:World}{A:Around}(hh:A.handled=none)(j t:Addr)(ne:t≠j)(xs:Array Value):
 Draws prog w A j [j,t] xs.size (fun i v=>xs[i]?=some v) (fun i h=>h.IsTupleIter j t i∧h.IsTuple t xs)where
 live:=fun _ _ st=>let ⟨o,ho,_⟩:=st.1;⟨o,ho⟩
 frame:=fun _ _ _ st k=>⟨st.1.at fun o e=>k j (by simp) o e,let ⟨o,e,r⟩:=st.2;⟨o,k t (by simp) o e,r⟩⟩
 item:=fun i s Q E hi st hQ=>nx_tup st.1 st.2 (x:=xs[i]) (by simp[hi]) fun h' st' sb=>hQ _ h' s.toks (by simp[hi]) ⟨st',let ⟨o,e,r⟩:=st.2;⟨o,sb.extBut _ _ ne e,r⟩⟩ sb
 done:=fun s Q E st hE=>h0m hh st.1 st.2 (by simp) hE
noncomputable def SqAt(b:Bool)(h:Heap)(l:Addr)(xs:Array Value):Prop:=match b with |true=>h.IsTuple l xs |false=>h.IsList l xs
noncomputable def ItAt(b:Bool)(h:Heap)(j l:Addr)(i:Nat):Prop:=match b with |true=>h.IsTupleIter j l i |false=>h.IsListIter j l i
noncomputable def itN(b:Bool):String:=match b with |true=>"tuple_iterator" |false=>"list_iterator"
theorem y0s(b:Bool){prog:Program}{w:World}{A:Around}(hh:A.handled=none)(j l:Addr)(ne:l≠j)(xs:Array Value):
 Draws prog w A j [j,l] xs.size (fun i v=>xs[i]?=some v) (fun i h=>ItAt b h j l i∧SqAt b h l xs):=by
 cases b
 ·exact Draws.list hh j l ne xs
 ·exact e0w hh j l ne xs
theorem ItAt.obj{b:Bool}{h:Heap}{j l:Addr}{i:Nat}(q:ItAt b h j l i):∃o,h.get? j=some o∧o.cls=.type (itN b)∧o.data=.fields #[.ref l,.int i 0]:=by
 cases b
 ·obtain ⟨o,e,c,d⟩:=q;exact ⟨o,e,c,d⟩
 ·obtain ⟨o,e,c,d⟩:=q;exact ⟨o,e,c,d⟩
theorem ItAt.of{b:Bool}{h:Heap}{j l:Addr}{i:Nat}{o:Obj}(e:h.get? j=some o)(c:o.cls=.type (itN b))(d:o.data=.fields #[.ref l,.int i 0]):ItAt b h j l i:=by
 cases b
 ·exact ⟨o,e,c,d⟩
 ·exact ⟨o,e,c,d⟩
theorem ItAt.stay{b:Bool}{h h':Heap}{j l:Addr}{i:Nat}(q:ItAt b h j l i)(k:∀o,h.get? j=some o→h'.get? j=some o):ItAt b h' j l i:=by
 obtain ⟨o,e,c,d⟩:=q.obj;exact .of (k o e) c d
theorem SqAt.obj{b:Bool}{h:Heap}{l:Addr}{xs:Array Value}(q:SqAt b h l xs):∃o,h.get? l=some o∧o.cls=.type (if b=true then "tuple" else "list")∧∃n,o.data=.seq xs n:=by
 cases b
 ·obtain ⟨o,e,c,n,d⟩:=q;exact ⟨o,e,c,n,d⟩
 ·obtain ⟨o,e,c,n,d⟩:=q;exact ⟨o,e,c,n,d⟩
theorem SqAt.stay{b:Bool}{h h':Heap}{l:Addr}{xs:Array Value}(q:SqAt b h l xs)(k:∀o,h.get? l=some o→h'.get? l=some o):SqAt b h' l xs:=by
 cases b
 ·obtain ⟨o,e,c,n,d⟩:=q;exact ⟨o,k o e,c,n,d⟩
 ·obtain ⟨o,e,c,n,d⟩:=q;exact ⟨o,k o e,c,n,d⟩
theorem k0y{b:Bool}{prog:Program}{w:World}{A:Around}{E:Value→Shared→Prop}{s:Shared}{l:Addr}{xs:Array Value}{Q:Value→Shared→Prop}(hl:SqAt b s.heap l xs)
 (h:Q (.ref s.heap.objs.size) {s with heap:=s.heap.push {cls:=.type (itN b),data:=.fields #[.ref l,.int 0 0]}}):wpAny (model prog w) A (pyIter (.ref l)) Q E s:=by
 cases b
 ·exact wpAny_pyIter_list hl h
 ·exact wpAny_pyIter_tuple hl h
end L2
namespace L2
open PySem PySem.Spec PyProof.Rows
open AutoSeq1 (wpAny_loadPart')
noncomputable abbrev enH(b:Bool)(h:Heap)(l:Addr):Heap:=h.push {cls:=.type (itN b),data:=.fields #[.ref l,.int 0 0]}
theorem e0v(l:Addr)(xs:Array Value)(n:Nat)(dct:Option Addr)(sl:Array (Option Value)):
 Meets (Builtin.«enumerate.__new__» ⟨[.type "enumerate",.ref l],[]⟩) (fun _ R s=>s.heap.get? l=some {cls:=.type "tuple",dict:=dct,data:=.seq xs n,slots:=sl}∧
  R (.ok (.ret (.ref (enH true s.heap l).objs.size))) {s with heap:=(enH true s.heap l).push {cls:=.type "enumerate",data:=.fields #[.none,.bool false,.ref s.heap.objs.size,rawInt 0,.none,.none]}}):=
 .of_wp fun prog w A R s h=>by
  obtain ⟨hp,g,d,tk,os⟩:=s;obtain ⟨hl,h⟩:=h;have hsub:=sub_enumerate;have hT:Heap.IsTuple (Shared.heap ⟨hp,g,d,tk,os⟩) l xs:=⟨_,hl,rfl,n,rfl⟩
  wp_walk using wpAny_loadPart' hl
  refine wpAny_stack_any fun st=>wpAny_pure ?_
  split
  ·rename_i c _ _ _ _ _;cases (c==Value.type "enumerate")<;>(wp_walk using wpAny_loadPart' hl,wpAny_pyIter_tuple hT;exact ⟨_,rfl,h⟩)
  ·wp_walk using wpAny_loadPart' hl,wpAny_pyIter_tuple hT
   exact ⟨_,rfl,h⟩
section
variable{prog:Program}{w:World}{A:Around}{E:Value→Shared→Prop}{s:Shared}
theorem b0t{l:Addr}{xs:Array Value}{Q:Value→Shared→Prop}(hT:s.heap.IsTuple l xs)
 (h:∀h',IsEnum h' (s.heap.objs.size+1) s.heap.objs.size 0 .none→h'.IsTupleIter s.heap.objs.size l 0→(∀b o,s.heap.get? b=some o→h'.get? b=some o)→Q (.ref (s.heap.objs.size+1)) {s with heap:=h'}):
 wpAny (model prog w) A (call (.type "enumerate") [.ref l]) Q E s:=by
 obtain ⟨⟨c,dct,dt,sl⟩,hl,hc,n,hd⟩:=hT;cases (show c=.type "tuple" from hc);cases (show dt=.seq xs n from hd);refine callType_new F.called_enumerate (by decide) (F.typeCall_enumerate_1 _) (F.newCall_enumerate_1 _) (fun obj=>F.args_object_init_2 obj _) F.entry_enumerate_new (e0v l xs n dct sl) ⟨hl,?_⟩;have hz:(enH true s.heap l).objs.size=s.heap.objs.size+1:=Heap.size_push ..;have he:=Heap.get?_push_size (enH true s.heap l) (o:={cls:=.type "enumerate",data:=.fields #[.none,.bool false,.ref s.heap.objs.size,rawInt 0,.none,.none]}) rfl;show _∧_;rw[hz]at he ⊢;exact ⟨⟨_,he,rfl⟩,h _ he ⟨_,Heap.get?_push_of_some _ (Heap.get?_push_size _ rfl),rfl,rfl⟩ fun b o x=>Heap.get?_push_of_some _ (Heap.get?_push_of_some _ x)⟩
theorem y1c{b:Bool}{l:Addr}{xs:Array Value}{Q:Value→Shared→Prop}(hq:SqAt b s.heap l xs)
 (h:∀h',IsEnum h' (s.heap.objs.size+1) s.heap.objs.size 0 .none→ItAt b h' s.heap.objs.size l 0→(∀b o,s.heap.get? b=some o→h'.get? b=some o)→Q (.ref (s.heap.objs.size+1)) {s with heap:=h'}):
 wpAny (model prog w) A (call (.type "enumerate") [.ref l]) Q E s:=by
 cases b
 ·exact call_enumerate_list hq fun h' a1 a2 _ a4=>h h' a1 a2 a4
 ·exact b0t hq fun h' a1 a2 a4=>h h' a1 a2 a4
end
noncomputable abbrev zp1(b:Bool)(h:Heap)(l:Addr):Heap:=h.push {cls:=.type (itN b),data:=.fields #[.ref l,.int 0 0]}
noncomputable abbrev zp2(b b':Bool)(h:Heap)(l l':Addr):Heap:=(zp1 b h l).push {cls:=.type (itN b'),data:=.fields #[.ref l',.int 0 0]}
noncomputable abbrev zp3(b b':Bool)(h:Heap)(l l':Addr):Heap:=(zp2 b b' h l l').push {cls:=.type "tuple",data:=.seq #[.ref h.objs.size,.ref (zp1 b h l).objs.size]}
noncomputable abbrev zp4(b b':Bool)(h:Heap)(l l':Addr):Heap:=(zp3 b b' h l l').push {cls:=.type "tuple",data:=.seq #[.none,.none]}
noncomputable abbrev zp5(b b':Bool)(h:Heap)(l l':Addr):Heap:=(zp4 b b' h l l').push {cls:=.type "zip",data:=.fields #[.none,.bool false,.bool false,.ref (zp2 b b' h l l').objs.size,.ref (zp3 b b' h l l').objs.size]}
theorem b0s(b b':Bool)(l l':Addr)(xs ys:Array Value):
 Meets (Builtin.«zip.__new__» ⟨[.type "zip",.ref l,.ref l'],[]⟩) (fun _ R s=>SqAt b s.heap l xs∧SqAt b' s.heap l' ys∧R (.ok (.ret (.ref (zp4 b b' s.heap l l').objs.size))) {s with heap:=zp5 b b' s.heap l l'}):=
 .of_wp fun prog w A R s h=>by
  obtain ⟨hp,g,d,tk,os⟩:=s;obtain ⟨h1,h2,h⟩:=h;have hsub:=sub_zip;have q1:SqAt b (Shared.heap ⟨hp,g,d,tk,os⟩) l xs:=h1;have q2:SqAt b' (Shared.heap ⟨zp1 b hp l,g,d,tk,os⟩) l' ys:=h2.stay fun o e=>Heap.get?_push_of_some _ e
  wp_walk using k0y q1,k0y q2
  exact ⟨_,rfl,h⟩
section
variable{prog:Program}{w:World}{A:Around}{E:Value→Shared→Prop}{s:Shared}
theorem y1b{b b':Bool}{l l':Addr}{xs ys:Array Value}{Q:Value→Shared→Prop}(h1:SqAt b s.heap l xs)(h2:SqAt b' s.heap l' ys)
 (h:∀h',IsZip h' (s.heap.objs.size+4) (s.heap.objs.size+2) (s.heap.objs.size+3) .none→IsPair h' (s.heap.objs.size+2) (.ref s.heap.objs.size) (.ref (s.heap.objs.size+1))→IsPair h' (s.heap.objs.size+3) .none .none→
  ItAt b h' s.heap.objs.size l 0→ItAt b' h' (s.heap.objs.size+1) l' 0→(∀c o,s.heap.get? c=some o→h'.get? c=some o)→Q (.ref (s.heap.objs.size+4)) {s with heap:=h'}):
 wpAny (model prog w) A (call (.type "zip") [.ref l,.ref l']) Q E s:=by
 refine callType_new F.called_zip (by decide) (F.typeCall_zip_2 _ _) (F.newCall_zip_2 _ _) (fun obj=>F.args_object_init_3 obj _ _) F.entry_zip_new (b0s b b' l l' xs ys) ⟨h1,h2,?_⟩;have z1:(zp1 b s.heap l).objs.size=s.heap.objs.size+1:=Heap.size_push ..;have z2:(zp2 b b' s.heap l l').objs.size=s.heap.objs.size+2:=by rw[Heap.size_push,z1]
 have z3:(zp3 b b' s.heap l l').objs.size=s.heap.objs.size+3:=by rw[Heap.size_push,z2]
 have z4:(zp4 b b' s.heap l l').objs.size=s.heap.objs.size+4:=by rw[Heap.size_push,z3]
 have u:∀{h:Heap} {o} {c u},h.get? c=some u→(h.push o).get? c=some u:=fun e=>Heap.get?_push_of_some _ e
 have g5:(zp5 b b' s.heap l l').get? (zp4 b b' s.heap l l').objs.size=some _:=Heap.get?_push_size _ rfl;have g4:(zp5 b b' s.heap l l').get? (zp3 b b' s.heap l l').objs.size=some _:=u (Heap.get?_push_size _ rfl);have g3:(zp5 b b' s.heap l l').get? (zp2 b b' s.heap l l').objs.size=some _:=u (u (Heap.get?_push_size _ rfl));have g2:(zp5 b b' s.heap l l').get? (zp1 b s.heap l).objs.size=some _:=u (u (u (Heap.get?_push_size _ rfl)));have g1:(zp5 b b' s.heap l l').get? s.heap.objs.size=some _:=u (u (u (u (Heap.get?_push_size _ rfl))));show _∧_;rw[z2,z3,z4]at g5;rw[z1,z2]at g3;rw[z3]at g4;rw[z1]at g2;rw[z4];exact ⟨⟨_,g5,rfl⟩,h _ g5 g3 g4 (.of g1 rfl rfl) (.of g2 rfl rfl) fun c o x=>u (u (u (u (u x))))⟩
structure ZA(z TI TO j1 j2:Addr):Prop where
 a:TI≠z
 b:TO≠z
 c:j1≠z
 d:j2≠z
 e:TI≠TO
 f:TI≠j1
 g:TI≠j2
 h:TO≠j1
 i:TO≠j2
 j:j1≠j2
theorem y1a{z TI TO j1 j2:Addr}{f1 f2:List Addr}{n1 n2 k:Nat}{P1 P2:Nat→Value→Prop}{S1 S2:Nat→Heap→Prop}{a0 b0:Value}{Q:Value→Shared→Prop}(D1:Draws prog w A j1 f1 n1 P1 S1)(D2:Draws prog w A j2 f2 n2 P2 S2)
 (Z:ZA z TI TO j1 j2) (o1:∀c∈f1,c≠z∧c≠TO∧c≠j2) (o2:∀c∈f2,c≠z∧c≠TO∧c≠j1)
 (hz:IsZip s.heap z TI TO .none) (hTI:IsPair s.heap TI (.ref j1) (.ref j2)) (hTO:IsPair s.heap TO a0 b0) (s1:S1 k s.heap) (s2:S2 k s.heap) (l1:k<n1) (l2:k<n2)
 (hQ:∀x y h' tk,P1 k x→P2 k y→IsZip h' z TI TO (rawInt s.heap.objs.size)→IsPair h' TO x y→S1 (k+1) h'→S2 (k+1) h'→IsPair h' s.heap.objs.size x y→
  (∀c o,c≠z→c≠TO→c≠j1→c≠j2→s.heap.get? c=some o→h'.get? c=some o)→Q (.ref s.heap.objs.size) {s with heap:=h',toks:=tk}):
 wpAny (model prog w) A (Builtin.«zip.__next__» ⟨[.ref z],[]⟩) (fun fin s'=>∃v,fin=.done (.ret v)∧Q v s') E s:=by
 obtain ⟨hp,ge,dr,tk0,os⟩:=s;show wpAny _ _ (field (.ref z) 2 >>= _) _ _ _;refine wpAny_bind (wpAny_field hz rfl (x:=.bool false) rfl ?_);show wpAny _ _ (field (.ref z) 3 >>= _) _ _ _;refine wpAny_bind (wpAny_field hz rfl (x:=.ref TI) rfl (wpAny_bind (wpAny_seqItems hTI rfl ?_)));show wpAny _ _ (Builtin.SmallTypes.ownedTupleIsFree (.ref z) >>= _) _ _ _;refine wpAny_bind ?_;unfold Builtin.SmallTypes.ownedTupleIsFree;refine wpAny_bind (wpAny_field hz rfl (x:=.none) rfl (wpAny_pure ?_));simp only[if_true];refine wpAny_bind (wpAny_rule (wpAny_bind (wpAny_field hz rfl (x:=.ref TO) rfl (wpAny_bind (wpAny_setField_rec hz (by simp) fun h₁ hz₁ hs₁=>?_)))));replace hz₁:IsZip h₁ z TI TO .ellipsis:=hz₁;replace hs₁:Heap.SameBut z hp h₁:=hs₁;refine wpAny_bind ?_;simp only[List.zipIdx_cons,List.zipIdx_nil,List.forIn_cons,List.forIn_nil];refine wpAny_bind (wpAny_bind (wpAny_onRaise ?_));show wpAny _ _ (Builtin.SmallTypes.nextOf (.ref j1) >>= _) _ _ _;have s1₁:S1 k h₁:=D1.frame _ _ _ s1 fun c hc o e=>hs₁.extBut c o (o1 c hc).1 e
 refine wpAny_bind (D1.item k ⟨h₁,ge,dr,tk0,os⟩ _ _ l1 s1₁ fun x h₂ t₂ px s1₂ hs₂=>wpAny_pure ?_);replace hs₂:Heap.SameBut j1 h₁ h₂:=hs₂;have hTO₂:IsPair h₂ TO a0 b0:=hs₂.extBut _ _ Z.h (hs₁.extBut _ _ Z.b hTO);refine wpAny_bind (wpAny_seqItems hTO₂ rfl (wpAny_bind (wpAny_updateSeq_pair hTO₂ fun h₃ hTO₃ hs₃=>?_)));replace hTO₃:IsPair h₃ TO x b0:=hTO₃;replace hs₃:Heap.SameBut TO h₂ h₃:=hs₃;refine wpAny_bind (wpAny_letGo (wpAny_pure (wpAny_bind (wpAny_bind (wpAny_onRaise ?_)))));show wpAny _ _ (Builtin.SmallTypes.nextOf (.ref j2) >>= _) _ _ _;have s2₃:S2 k h₃:=D2.frame _ _ _ s2 fun c hc o e=>hs₃.extBut c o (o2 c hc).2.1 (hs₂.extBut c o (o2 c hc).2.2 (hs₁.extBut c o (o2 c hc).1 e))
 refine wpAny_bind (D2.item k ⟨h₃,ge,dr,t₂,os⟩ _ _ l2 s2₃ fun y h₄ t₄ py s2₄ hs₄=>wpAny_pure ?_);replace hs₄:Heap.SameBut j2 h₃ h₄:=hs₄;have hTO₄:IsPair h₄ TO x b0:=hs₄.extBut _ _ Z.i hTO₃;refine wpAny_bind (wpAny_seqItems hTO₄ rfl (wpAny_bind (wpAny_updateSeq_pair hTO₄ fun h₅ hTO₅ hs₅=>?_)));replace hTO₅:IsPair h₅ TO x y:=hTO₅;replace hs₅:Heap.SameBut TO h₄ h₅:=hs₅;refine wpAny_bind (wpAny_letGo (wpAny_pure (wpAny_pure (wpAny_bind (wpAny_seqItems hTO₅ rfl (wpAny_bind (wpAny_newTuple ?_)))))));have hsz:h₅.objs.size=hp.objs.size:=by rw[hs₅.1,hs₄.1,hs₃.1,hs₂.1,hs₁.1]
 have hz₅:IsZip h₅ z TI TO .ellipsis:=hs₅.extBut _ _ Z.b.symm (hs₄.extBut _ _ Z.d.symm (hs₃.extBut _ _ Z.b.symm (hs₂.extBut _ _ Z.c.symm hz₁)));have hk₅:∀c o,c≠z→c≠TO→c≠j1→c≠j2→hp.get? c=some o→h₅.get? c=some o:=fun c o c1 c2 c3 c4 e=>
  hs₅.extBut _ _ c2 (hs₄.extBut _ _ c4 (hs₃.extBut _ _ c2 (hs₂.extBut _ _ c3 (hs₁.extBut _ _ c1 e))))
 have hzlt:z<h₅.objs.size:=Heap.lt_size hz₅;have s1₅:S1 (k+1) h₅:=D1.frame _ _ _ s1₂ fun c hc o e=>hs₅.extBut c o (o1 c hc).2.1 (hs₄.extBut c o (o1 c hc).2.2 (hs₃.extBut c o (o1 c hc).2.1 e))
 have s2₅:S2 (k+1) h₅:=D2.frame _ _ _ s2₄ fun c hc o e=>hs₅.extBut c o (o2 c hc).2.1 e
 show wpAny _ _ (Builtin.SmallTypes.ownedTupleHandOut (.ref z) (.ref h₅.objs.size) >>= _) _ _ _;refine wpAny_bind ?_;unfold Builtin.SmallTypes.ownedTupleHandOut;have hz₆:IsZip (h₅.push {cls:=.type "tuple",data:=.seq #[x,y]}) z TI TO .ellipsis:=Heap.get?_push_of_some _ hz₅;refine wpAny_bind (wpAny_setField_rec hz₆ (by simp) fun h₇ hz₇ hs₇=>?_);replace hz₇:IsZip h₇ z TI TO (rawInt h₅.objs.size):=hz₇;refine wpAny_setField_rec hz₇ (by simp) fun h₈ hz₈ hs₈=>?_
 replace hz₈:IsZip h₈ z TI TO (rawInt h₅.objs.size):=hz₈;have up:∀c o,c≠z→h₅.get? c=some o→h₈.get? c=some o:=fun c o c1 e=>hs₈.extBut _ _ c1 (hs₇.extBut _ _ c1 (Heap.get?_push_of_some _ e))
 have hT₈:IsPair h₈ h₅.objs.size x y:=hs₈.extBut _ _ (Nat.ne_of_gt hzlt) (hs₇.extBut _ _ (Nat.ne_of_gt hzlt) (Heap.get?_push_size _ rfl));rw[hsz]at hz₈ hT₈;refine wpAny_pure ⟨_,rfl,?_⟩;show Q (.ref h₅.objs.size) _;rw[hsz];exact hQ x y h₈ t₄ px py hz₈ (up _ _ Z.b hTO₅) (D1.frame _ _ _ s1₅ fun c hc o e=>up c o (o1 c hc).1 e) (D2.frame _ _ _ s2₅ fun c hc o e=>up c o (o2 c hc).1 e) hT₈ fun c o c1 c2 c3 c4 e=>up c o c1 (hk₅ c o c1 c2 c3 c4 e)
end
end L2
namespace L2
open PySem PySem.Spec PyProof.Rows
section
variable{prog:Program}{w:World}{A:Around}{E:Value→Shared→Prop}{s:Shared}
theorem zp_end{z TI TO j1 j2:Addr}{f1 f2:List Addr}{n1 n2 k:Nat}{P1 P2:Nat→Value→Prop}{S1 S2:Nat→Heap→Prop}{a0 b0:Value}{Q:Fin→Shared→Prop}(D1:Draws prog w A j1 f1 n1 P1 S1)(D2:Draws prog w A j2 f2 n2 P2 S2)
 (Z:ZA z TI TO j1 j2) (o1:∀c∈f1,c≠z∧c≠TO∧c≠j2) (o2:∀c∈f2,c≠z∧c≠TO∧c≠j1)
 (hz:IsZip s.heap z TI TO .none) (hTI:IsPair s.heap TI (.ref j1) (.ref j2)) (hTO:IsPair s.heap TO a0 b0) (s1:S1 k s.heap) (s2:S2 k s.heap) (le:k=n1∨(k<n1∧k=n2))
 (hE:∀h' e tk,(∀c o,c≠z→c≠TO→c≠j1→c≠j2→s.heap.get? c=some o→h'.get? c=some o)→(∃o,h'.get? e=some o∧o.cls=.type "StopIteration")→E (.ref e) {s with heap:=h',toks:=tk}):
 wpAny (model prog w) A (Builtin.«zip.__next__» ⟨[.ref z],[]⟩) Q E s:=by
 obtain ⟨hp,ge,dr,tk0,os⟩:=s;show wpAny _ _ (field (.ref z) 2 >>= _) _ _ _;refine wpAny_bind (wpAny_field hz rfl (x:=.bool false) rfl ?_);show wpAny _ _ (field (.ref z) 3 >>= _) _ _ _;refine wpAny_bind (wpAny_field hz rfl (x:=.ref TI) rfl (wpAny_bind (wpAny_seqItems hTI rfl ?_)));show wpAny _ _ (Builtin.SmallTypes.ownedTupleIsFree (.ref z) >>= _) _ _ _;refine wpAny_bind ?_;unfold Builtin.SmallTypes.ownedTupleIsFree;refine wpAny_bind (wpAny_field hz rfl (x:=.none) rfl (wpAny_pure ?_));simp only[if_true];refine wpAny_bind (wpAny_rule (wpAny_bind (wpAny_field hz rfl (x:=.ref TO) rfl (wpAny_bind (wpAny_setField_rec hz (by simp) fun h₁ hz₁ hs₁=>?_)))));replace hz₁:IsZip h₁ z TI TO .ellipsis:=hz₁;replace hs₁:Heap.SameBut z hp h₁:=hs₁;refine wpAny_bind ?_;simp only[List.zipIdx_cons,List.zipIdx_nil,List.forIn_cons,List.forIn_nil];refine wpAny_bind (wpAny_bind (wpAny_onRaise ?_));show wpAny _ _ (Builtin.SmallTypes.nextOf (.ref j1) >>= _) _ _ _;have s1₁:S1 k h₁:=D1.frame _ _ _ s1 fun c hc o e=>hs₁.extBut c o (o1 c hc).1 e
 rcases le with rfl |⟨l1,rfl⟩
 ·refine wpAny_bind (D1.done ⟨h₁,ge,dr,tk0,os⟩ _ _ s1₁ fun h₂ e hs₂ ⟨oe,hoe,hce⟩=>?_);replace hs₂:Heap.ExtBut j1 h₁ h₂:=hs₂;have hz₂:IsZip h₂ z TI TO .ellipsis:=hs₂ _ _ Z.c.symm hz₁;have hez:e≠z:=fun q=>by subst q;rw[hz₂]at hoe;cases hoe;simp at hce
  refine wpAny_setField_rec hz₂ (by simp) fun h₃ _ hs₃=>hE h₃ e tk0 (fun c o c1 _ c3 _ q=>hs₃.extBut _ _ c1 (hs₂ _ _ c3 (hs₁.extBut _ _ c1 q))) ⟨oe,hs₃.extBut _ _ hez hoe,hce⟩
 ·refine wpAny_bind (D1.item k ⟨h₁,ge,dr,tk0,os⟩ _ _ l1 s1₁ fun x h₂ t₂ px s1₂ hs₂=>wpAny_pure ?_);replace hs₂:Heap.SameBut j1 h₁ h₂:=hs₂;have hTO₂:IsPair h₂ TO a0 b0:=hs₂.extBut _ _ Z.h (hs₁.extBut _ _ Z.b hTO);refine wpAny_bind (wpAny_seqItems hTO₂ rfl (wpAny_bind (wpAny_updateSeq_pair hTO₂ fun h₃ hTO₃ hs₃=>?_)));replace hs₃:Heap.SameBut TO h₂ h₃:=hs₃;refine wpAny_bind (wpAny_letGo (wpAny_pure (wpAny_bind (wpAny_bind (wpAny_onRaise ?_)))));show wpAny _ _ (Builtin.SmallTypes.nextOf (.ref j2) >>= _) _ _ _;have s2₃:S2 k h₃:=D2.frame _ _ _ s2 fun c hc o e=>hs₃.extBut c o (o2 c hc).2.1 (hs₂.extBut c o (o2 c hc).2.2 (hs₁.extBut c o (o2 c hc).1 e))
  refine wpAny_bind (D2.done ⟨h₃,ge,dr,t₂,os⟩ _ _ s2₃ fun h₄ e hs₄ ⟨oe,hoe,hce⟩=>?_);replace hs₄:Heap.ExtBut j2 h₃ h₄:=hs₄;have hz₄:IsZip h₄ z TI TO .ellipsis:=hs₄ _ _ Z.d.symm (hs₃.extBut _ _ Z.b.symm (hs₂.extBut _ _ Z.c.symm hz₁));have hez:e≠z:=fun q=>by subst q;rw[hz₄]at hoe;cases hoe;simp at hce
  refine wpAny_setField_rec hz₄ (by simp) fun h₅ _ hs₅=>hE h₅ e t₂ (fun c o c1 c2 c3 c4 q=>hs₅.extBut _ _ c1 (hs₄ _ _ c4 (hs₃.extBut _ _ c2 (hs₂.extBut _ _ c3 (hs₁.extBut _ _ c1 q))))) ⟨oe,hs₅.extBut _ _ hez hoe,hce⟩
end
theorem Inv.turnedL{X:Cx}{pins:List (Addr×Obj)}{σ:List (Option V)}{H:Hp}{s:Shared}{h':Heap}{t':Nat}{ch:List Addr}(I:Inv X pins σ H s)(k:∀b o,b∉ch→s.heap.get? b=some o→h'.get? b=some o)(hf:∀b∈ch,FpOk X pins H b):
 Inv X pins σ H {s with heap:=h',toks:=t'}:=by
 have nit:∀b u,H b=some u→b∉ch:=fun b u e z=>by rw[(hf b z).1]at e;cases e
 refine I.step (g':=s.gens) (d':=s.drawn) (ch:=ch) (fun b hb=>?_) (fun b o _ _ hc e _=>k b o hc e) (fun b o _ _ hc e _=>⟨o.slots,k b o hc e⟩) (fun _ _ _ _ n=>n)
  (fun b o hc e=>⟨o,k b o hc e⟩) (fun _ _ e=>e) (fun _ _ _ e=>e) (fun b ps e=>⟨#[],by rw[e];simp⟩) (fun m hm=>?_) (fun b u e=>?_) I.bare
 ·obtain ⟨_,f1,_,f3,f4,f5⟩:=hf b hb;exact ⟨f3,f1,f4,f5⟩
 ·obtain ⟨o,es,ep,ho,r⟩:=hm;exact ⟨o,es,ep,k _ o (fun z=>(hf _ z).2.1 rfl) ho,r⟩
 ·refine (I.hok b u e).stay (fun c v hc q=>k c v ?_ q) (fun _ q=>q) fun _ _ q=>q
  rcases hc with z |z
  ·rw[z];exact nit b u e
  ·exact nit c _ z
noncomputable def Sq(K:PySem.W.Frag)(b:Bool)(H:Hp)(a:Addr)(xs:List V):Prop:=match b with |true=>SqT K H a xs |false=>SqL K H a xs
theorem Inv.sq{b:Bool}{X:Cx}{pins:List (Addr×Obj)}{σ:List (Option V)}{H:Hp}{s:Shared}{a:Addr}{xs:List V}(I:Inv X pins σ H s)(h:Sq X.K b H a xs):∃its:List Value,Vals xs its∧SqAt b s.heap a its.toArray∧xs.length≤sizeLine:=by
 cases b
 ·obtain ⟨its,r,p,z⟩:=I.list h;exact ⟨its,r,p.isList,z⟩
 ·obtain ⟨its,r,p,z⟩:=I.tuple h;exact ⟨its,r,p,z⟩
theorem Inv.sq_inj{b:Bool}{X:Cx}{pins:List (Addr×Obj)}{σ:List (Option V)}{H:Hp}{s:Shared}{a:Addr}{xs ys:List V}(I:Inv X pins σ H s)(h:Sq X.K b H a xs)(h':Sq X.K b H a ys):xs=ys:=by
 cases b
 ·exact I.list_inj h h'
 ·exact I.tuple_inj h h'
noncomputable def Itz(K:PySem.W.Frag)(b b':Bool)(a a':Addr):It:=
 ⟨fun i H=>∃xs ys x y,Sq K b H a xs∧xs[i]?=some x∧Sq K b' H a' ys∧ys[i]?=some y,
  fun i H v H'=>∃p x y,H p=none∧v=.ref p∧H'=upd H p (.tup [x,y])∧(∀xs,Sq K b H a xs→xs[i]?=some x)∧∀ys,Sq K b' H a' ys→ys[i]?=some y,
  fun i H=>∃xs ys,Sq K b H a xs∧Sq K b' H a' ys∧(xs.length=i∨(i<xs.length∧ys.length=i))⟩
noncomputable def zipT(b b':Bool)(a a' z TI TO j1 j2:Addr)(i:Nat)(h:Heap):Prop:=IsZip h z TI TO .none∧IsPair h TI (.ref j1) (.ref j2)∧(∃u v,IsPair h TO u v)∧ItAt b h j1 a i∧ItAt b' h j2 a' i
theorem b0r{P:Program}{w:World}{K:PySem.W.Frag}{elts:List Expr}{x1}{pos:Pos}(b b':Bool)(a a' z TI TO j1 j2:Addr)(Z:ZA z TI TO j1 j2)(na:a≠z∧a≠TO∧a≠j1∧a≠j2)(na':a'≠z∧a'≠TO∧a'≠j1∧a'≠j2):
 Turn P w K (.Tuple elts x1 pos) (Itz K b b' a a') [z,TI,TO,j1,j2] z (zipT b b' a a' z TI TO j1 j2)where
 mem:=by simp
 obj:=fun i h st c hc=>by
  obtain ⟨hz,hTI,⟨u,v,hTO⟩,h1,h2⟩:=st;have hc':c=z∨c=TI∨c=TO∨c=j1∨c=j2:=by simpa using hc
  rcases hc' with rfl |rfl |rfl |rfl |rfl
  ·exact ⟨_,hz,fun v q=>by simp at q⟩
  ·exact ⟨_,hTI,fun v q=>by simp at q⟩
  ·exact ⟨_,hTO,fun v q=>by simp at q⟩
  ·obtain ⟨o,e,_,d⟩:=h1.obj;exact ⟨o,e,fun v q=>by rw[d]at q;cases q⟩
  ·obtain ⟨o,e,_,d⟩:=h2.obj;exact ⟨o,e,fun v q=>by rw[d]at q;cases q⟩
 keep:=fun i h h' st k=>by
  obtain ⟨hz,hTI,⟨u,v,hTO⟩,h1,h2⟩:=st;exact ⟨k z (by simp) _ hz,k TI (by simp) _ hTI,⟨u,v,k TO (by simp) _ hTO⟩,h1.stay fun o e=>k j1 (by simp) o e,h2.stay fun o e=>k j2 (by simp) o e⟩
 item:=by
  intro X hP hw hK hc i pins s σ H E I hf st hg;subst hP hw hK;obtain ⟨xs,ys,x,y,q1,e1,q2,e2⟩:=hg;obtain ⟨its1,r1,p1,z1⟩:=I.sq q1;obtain ⟨its2,r2,p2,z2⟩:=I.sq q2;obtain ⟨u1,g1,v1⟩:=r1.get e1;obtain ⟨u2,g2,v2⟩:=r2.get e2;obtain ⟨hz,hTI,⟨u,v,hTO⟩,h1,h2⟩:=st;have l1:=(List.getElem?_eq_some_iff.mp g1).1;have l2:=(List.getElem?_eq_some_iff.mp g2).1;have hh:X.A.in1.handled=none:=I.ok.hd hc;have D1:=y0s b (prog:=X.prog) (w:=X.w) hh j1 a na.2.2.1 its1.toArray;have D2:=y0s b' (prog:=X.prog) (w:=X.w) hh j2 a' na'.2.2.2 its2.toArray;have hT:s.TypeIs (.ref z) "zip":=⟨_,hz,rfl⟩;unfold pyNext;refine wpAny_bind (wpAny_attempt (wpAny_callSpecial?_slot (name:=Str.ofString "__next__") hT F.slot_zip_next (wpAny_call_entry F.slot_zip_next hT F.entry_zip_next
   (y1a D1 D2 Z (fun c hc=>?_) (fun c hc=>?_) hz hTI hTO ⟨h1,p1⟩ ⟨h2,p2⟩ (by simpa using l1) (by simpa using l2) fun x' y' h' tk px py hz' hTO' st1 st2 hT' kk=>wpAny_pure ⟨_,rfl,?_⟩) (F.args_zip_next_1 _))))
  ·have:c=j1∨c=a:=by simpa using hc
   rcases this with rfl |rfl
   ·exact ⟨Z.c,Z.h.symm,Z.j⟩
   ·exact ⟨na.1,na.2.1,na.2.2.2⟩
  ·have:c=j2∨c=a':=by simpa using hc
   rcases this with rfl |rfl
   ·exact ⟨Z.d,Z.i.symm,Z.j.symm⟩
   ·exact ⟨na'.1,na'.2.1,na'.2.2.1⟩
  have ex:x'=u1:=by
   have px':its1.toArray[i]?=some x':=px;rw[List.getElem?_toArray,g1]at px';exact (Option.some.inj px').symm
  have ey:y'=u2:=by
   have py':its2.toArray[i]?=some y':=py;rw[List.getElem?_toArray,g2]at py';exact (Option.some.inj py').symm
  subst ex ey;refine wpAny_letOwnedTupleGo_zip (s:={s with heap:=h',toks:=tk}) hz' fun h₂ hz₂ hs₂=>?_
  replace hs₂:Heap.SameBut z h' h₂:=hs₂;have hfr:H s.heap.objs.size=none:=I.hok.fresh (Nat.le_refl _);have Il:Inv X pins σ (upd H s.heap.objs.size (.tup [x,y])) {s with heap:=s.heap.push {cls:=.type "tuple",data:=.seq #[x',y']}}:=I.laid (t':=s.toks) (fun b u e=>Heap.get?_push_of_some _ e) (Nat.le_refl _)
   ⟨by show 2≤sizeLine;decide,[x',y'],.cons v1 (.cons v2 .nil),⟨_,Heap.get?_push_size _ rfl,rfl,⟨_,rfl⟩,rfl⟩⟩
  have lt:∀{c o},s.heap.get? c=some o→c≠s.heap.objs.size:=fun e=>Nat.ne_of_lt (Heap.lt_size e)
  have nT:∀c∈[z,TI,TO,j1,j2],c≠s.heap.objs.size:=fun c hc=>by
   have hc':c=z∨c=TI∨c=TO∨c=j1∨c=j2:=by simpa using hc
   rcases hc' with rfl |rfl |rfl |rfl |rfl
   ·exact lt hz
   ·exact lt hTI
   ·exact lt hTO
   ·obtain ⟨o,e,_⟩:=h1.obj;exact lt e
   ·obtain ⟨o,e,_⟩:=h2.obj;exact lt e
  have hn2:∀c∈[z,TI,TO,j1,j2],upd H s.heap.objs.size (.tup [x,y]) c=none:=fun c hc=>by rw[o0 (nT c hc)];exact (hf c hc).1
  have If:Inv X pins σ (upd H s.heap.objs.size (.tup [x,y])) {s with heap:=h₂,toks:=tk}:=Inv.turnedL (s:={s with heap:=s.heap.push {cls:=.type "tuple",data:=.seq #[x',y']}}) (ch:=[z,TI,TO,j1,j2]) (h':=h₂) (t':=tk) Il (fun c o hc e=>by
   have hc':c≠z∧c≠TI∧c≠TO∧c≠j1∧c≠j2:=by simpa using hc
   rcases Heap.get?_push_cases e with ⟨rfl,rfl⟩|e
   ·exact hs₂.extBut _ _ hc'.1 hT'
   ·exact hs₂.extBut _ _ hc'.1 (kk c o hc'.1 hc'.2.2.1 hc'.2.2.2.1 hc'.2.2.2.2 e)) fun c hc=>⟨hn2 c hc,(hf c hc).2⟩
  refine ⟨.ref s.heap.objs.size,_,If,rfl,⟨s.heap.objs.size,x,y,hfr,rfl,rfl,fun zs hq=>by rw[I.sq_inj hq q1];exact e1,fun zs hq=>by rw[I.sq_inj hq q2];exact e2⟩,?_,hn2⟩;exact ⟨hz₂,hs₂.extBut _ _ Z.a (kk _ _ Z.a Z.e Z.f Z.g hTI),⟨_,_,hs₂.extBut _ _ Z.b hTO'⟩,st1.1.stay fun o e=>hs₂.extBut _ _ Z.c e,st2.1.stay fun o e=>hs₂.extBut _ _ Z.d e⟩
 done:=by
  intro X hP hw hK hc i pins s σ H E I hf st hg;subst hP hw hK;obtain ⟨xs,ys,q1,q2,le⟩:=hg;obtain ⟨its1,r1,p1,z1⟩:=I.sq q1;obtain ⟨its2,r2,p2,z2⟩:=I.sq q2;obtain ⟨hz,hTI,⟨u,v,hTO⟩,h1,h2⟩:=st;have hh:X.A.in1.handled=none:=I.ok.hd hc;have D1:=y0s b (prog:=X.prog) (w:=X.w) hh j1 a na.2.2.1 its1.toArray;have D2:=y0s b' (prog:=X.prog) (w:=X.w) hh j2 a' na'.2.2.2 its2.toArray;have hT:s.TypeIs (.ref z) "zip":=⟨_,hz,rfl⟩;have len1:=r1.length;have len2:=r2.length;unfold pyNext;refine wpAny_bind (wpAny_attempt (wpAny_callSpecial?_slot (name:=Str.ofString "__next__") hT F.slot_zip_next (wpAny_call_entry F.slot_zip_next hT F.entry_zip_next
   (zp_end D1 D2 Z (fun c hc=>?_) (fun c hc=>?_) hz hTI hTO ⟨h1,p1⟩ ⟨h2,p2⟩ ?_ fun h' e tk kk ⟨o,ho,hco⟩=>?_) (F.args_zip_next_1 _))))
  ·have:c=j1∨c=a:=by simpa using hc
   rcases this with rfl |rfl
   ·exact ⟨Z.c,Z.h.symm,Z.j⟩
   ·exact ⟨na.1,na.2.1,na.2.2.2⟩
  ·have:c=j2∨c=a':=by simpa using hc
   rcases this with rfl |rfl
   ·exact ⟨Z.d,Z.i.symm,Z.j.symm⟩
   ·exact ⟨na'.1,na'.2.1,na'.2.2.1⟩
  ·simp only[List.size_toArray];omega
  ·refine wpAny_bind (wpAny_isInstance (T:="StopIteration") (b:=true) ⟨o,ho,hco⟩ isSubtype_stop (wpAny_pure ⟨rfl,?_⟩));exact I.turnedL (ch:=[z,TI,TO,j1,j2]) (h':=h') (t':=tk) (fun c o hc e=>by
    have hc':c≠z∧c≠TI∧c≠TO∧c≠j1∧c≠j2:=by simpa using hc
    exact kk c o hc'.1 hc'.2.2.1 hc'.2.2.2.1 hc'.2.2.2.2 e) hf
 self:=fun A i s Q E st h=>wpAny_pyIter_zip st.1 h
end L2
namespace L2
open PySem PySem.Spec PyProof.Rows
noncomputable def Ite(K:PySem.W.Frag)(b:Bool)(a:Addr):It:=
 ⟨fun i H=>∃xs x,Sq K b H a xs∧xs[i]?=some x,
  fun i H v H'=>∃p x,H p=none∧v=.ref p∧H'=upd H p (.tup [.int i,x])∧∀xs,Sq K b H a xs→xs[i]?=some x,
  fun i H=>∃xs,Sq K b H a xs∧xs.length=i⟩
noncomputable def enumT(b:Bool)(a e j:Addr)(i:Nat)(h:Heap):Prop:=(∃old,IsEnum h e j (i:Int) old)∧ItAt b h j a i
theorem e0u{P:Program}{w:World}{K:PySem.W.Frag}{elts:List Expr}{x1}{pos:Pos}(b:Bool)(a e j:Addr)(hej:e≠j)(na:a≠e∧a≠j):
 Turn P w K (.Tuple elts x1 pos) (Ite K b a) [e,j] e (enumT b a e j)where
 mem:=by simp
 obj:=fun i h st c hc=>by
  obtain ⟨⟨old,he⟩,h1⟩:=st;have hc':c=e∨c=j:=by simpa using hc
  rcases hc' with rfl |rfl
  ·exact ⟨_,he,fun v q=>by simp at q⟩
  ·obtain ⟨o,e,_,d⟩:=h1.obj;exact ⟨o,e,fun v q=>by rw[d]at q;cases q⟩
 keep:=fun i h h' st k=>by
  obtain ⟨⟨old,he⟩,h1⟩:=st;exact ⟨⟨old,k e (by simp) _ he⟩,h1.stay fun o e=>k j (by simp) o e⟩
 item:=by
  intro X hP hw hK hc i pins s σ H E I hf st hg;subst hP hw hK;obtain ⟨xs,x,q1,e1⟩:=hg;obtain ⟨its1,r1,p1,z1⟩:=I.sq q1;obtain ⟨u1,g1,v1⟩:=r1.get e1;obtain ⟨⟨old,he⟩,h1⟩:=st;have l1:=(List.getElem?_eq_some_iff.mp g1).1;have hh:X.A.in1.handled=none:=I.ok.hd hc;have D1:=y0s b (prog:=X.prog) (w:=X.w) hh j a na.2 its1.toArray;refine wpAny_pyNext_enum_itemD D1 he ⟨h1,p1⟩ (by simpa using l1) hej (by simp[hej,na.1.symm]) fun x' h' tk px ho st1 hT' hsz kk=>⟨_,rfl,?_⟩
  have ex:x'=u1:=by
   have px':its1.toArray[i]?=some x':=px;rw[List.getElem?_toArray,g1]at px';exact (Option.some.inj px').symm
  subst ex;refine wpAny_letOwnedTupleGo_enum (s:={s with heap:=h',toks:=tk+1}) ho fun h₂ he₂ hs₂=>?_
  replace hs₂:Heap.SameBut e h' h₂:=hs₂;have hfr:H s.heap.objs.size=none:=I.hok.fresh (Nat.le_refl _);have Il:Inv X pins σ (upd H s.heap.objs.size (.tup [.int i,x])) {s with heap:=s.heap.push {cls:=.type "tuple",data:=.seq #[.int i tk,x']}}:=I.laid (t':=s.toks) (fun b u e=>Heap.get?_push_of_some _ e) (Nat.le_refl _)
   ⟨by show 2≤sizeLine;decide,[.int i tk,x'],.cons ⟨tk,rfl⟩ (.cons v1 .nil),⟨_,Heap.get?_push_size _ rfl,rfl,⟨_,rfl⟩,rfl⟩⟩
  have lt:∀{c o},s.heap.get? c=some o→c≠s.heap.objs.size:=fun e=>Nat.ne_of_lt (Heap.lt_size e)
  have nT:∀c∈[e,j],c≠s.heap.objs.size:=fun c hc=>by
   have hc':c=e∨c=j:=by simpa using hc
   rcases hc' with rfl |rfl
   ·exact lt he
   ·obtain ⟨o,e,_⟩:=h1.obj;exact lt e
  have hn2:∀c∈[e,j],upd H s.heap.objs.size (.tup [.int i,x]) c=none:=fun c hc=>by rw[o0 (nT c hc)];exact (hf c hc).1
  have If:Inv X pins σ (upd H s.heap.objs.size (.tup [.int i,x])) {s with heap:=h₂,toks:=tk+1}:=Inv.turnedL (s:={s with heap:=s.heap.push {cls:=.type "tuple",data:=.seq #[.int i tk,x']}}) (ch:=[e,j]) (h':=h₂) (t':=tk+1) Il (fun c o hc q=>by
   have hc':c≠e∧c≠j:=by simpa using hc
   rcases Heap.get?_push_cases q with ⟨rfl,rfl⟩|q
   ·exact hs₂.extBut _ _ hc'.1 hT'
   ·exact hs₂.extBut _ _ hc'.1 (kk c o hc'.1 hc'.2 q)) fun c hc=>⟨hn2 c hc,(hf c hc).2⟩
  refine ⟨.ref s.heap.objs.size,_,If,rfl,⟨s.heap.objs.size,x,hfr,rfl,rfl,fun zs hq=>by rw[I.sq_inj hq q1];exact e1⟩,?_,hn2⟩;exact ⟨⟨_,by simpa using he₂⟩,st1.1.stay fun o q=>hs₂.extBut _ _ hej.symm q⟩
 done:=by
  intro X hP hw hK hc i pins s σ H E I hf st hg;subst hP hw hK;obtain ⟨xs,q1,le⟩:=hg;obtain ⟨its1,r1,p1,z1⟩:=I.sq q1;obtain ⟨⟨old,he⟩,h1⟩:=st;have hh:X.A.in1.handled=none:=I.ok.hd hc;have D1:=y0s b (prog:=X.prog) (w:=X.w) hh j a na.2 its1.toArray;have len1:=r1.length;have en:its1.toArray.size=i:=by simp only[List.size_toArray];omega
  refine wpAny_pyNext_enum_endD D1 he ⟨by rw[en];exact h1,p1⟩ fun h' sb=>⟨rfl,?_⟩
  exact I.turnedL (ch:=[e,j]) (h':=h') (t':=s.toks) (fun c o hc q=>by
   have hc':c≠e∧c≠j:=by simpa using hc
   exact sb c o hc'.2 q) hf
 self:=fun A i s Q E st h=>let ⟨⟨_,he⟩,_⟩:=st;wpAny_pyIter_enum he h
theorem bt_zip:bootBuiltins "zip"=some (.type "zip"):=by decide +kernel
theorem n0i:bootBuiltins "enumerate"=some (.type "enumerate"):=by decide +kernel
end L2
namespace L2
open PySem PySem.Spec PyProof.Rows
theorem n0h{prog:Program}{w:World}{A:Around}{R:Result→Shared→Prop}{s:Shared}{elt target iter:Expr}{ifs:List Expr}{scope:Scope}{pos:Pos}{it acc:Value}{env:Env}(I:Nat→Shared→Prop)
 (turn:∀n s,I n s→wpAny (model prog w) A (pyNext it) (fun r s₁=>match r with
  |none=>R (.ok .next) s₁
  |some v=>wpAny (model prog w) A (letOwnedTupleGo target it v) (fun _ s₁'=>wpAny (model prog w) A (assign target env v) (fun _ s₂=>
   wpAny (model prog w) A (forIn ifs true fun c r=>if r=true then do let ok←isTrue c env (eval c env);pure (ForInStep.yield ok)else pure (ForInStep.yield r)) (fun ok s₃=>
    if ok=true then wpAny (model prog w) A (eval elt env) (fun x s₄=>wpAny (model prog w) A (call (.builtin "list.append") [acc,x]) (fun _ s₅=>∃m,m<n∧I m s₅) (fun _ _=>False) s₄) (fun _ _=>False) s₃
    else ∃m,m<n∧I m s₃) (fun _ _=>False) s₂) (fun _ _=>False) s₁') (fun _ _=>False) s₁) (fun _ _=>False) s)
 (n:Nat) (h:I n s):codeAny (model prog w) A (.compLoop (.ListComp elt [⟨target,iter,ifs,0⟩] scope pos) 0 it acc env) R s:=by
 refine codeAny_loop rfl I (fun n s hI=>?_) n h;show wpAny _ _ ((compTurn (.ListComp elt [⟨target,iter,ifs,0⟩] scope pos) 0 it acc env).onRaise (fun y=>do noteFrame y env;theTreesLotGoes y)) _ _ s;refine wpAny_noted ?_;rw[compTurn_list];refine wpAny_bind (wpAny_standAt (wpAny_bind (wpAny_mono (turn n s hI) (fun r s₁ h₁=>?_) fun _ _ z=>z.elim)));cases r with
 |none=>exact wpAny_pure h₁
 |some v=>
  refine wpAny_bind (wpAny_mono h₁ (fun _ s₁' h₁'=>?_) fun _ _ z=>z.elim);refine wpAny_bind (wpAny_mono h₁' (fun _ s₂ h₂=>wpAny_bind (wpAny_mono h₂ (fun ok s₃ h₃=>?_) fun _ _ z=>z.elim)) fun _ _ z=>z.elim);cases ok with
  |false=>exact wpAny_pure ⟨rfl,h₃⟩
  |true=>exact wpAny_bind (wpAny_bind (wpAny_mono h₃ (fun x s₄ h₄=>wpAny_bind (wpAny_mono h₄ (fun _ s₅ h₅=>wpAny_pure (wpAny_pure ⟨rfl,h₅⟩)) fun _ _ z=>z.elim)) fun _ _ z=>z.elim))
noncomputable def Cx.compM(X:Cx)(xs:List Str)(js:List Nat)(scope:Scope)(cl:List (Str×Addr))(C:Addr)(s₀:Shared)(H₀:Hp)(fp:List Addr):Cx:=
 {X with N:=xs++js.map (fun j=>X.N.getD j ""),s₀:=s₀,H₀:=H₀,env:=compEnvC scope cl C X.env,outer:=X.stack,ex:=fp,fn:=fun _=>false,pn:=[],xe:=fun _ _=>False}
noncomputable def d8(σ:St)(js:List Nat):St:=js.map fun j=>(σ[j]?).join
structure CompOkM(X:Cx)(xs:List Str)(js:List Nat)(scope:Scope):Prop where
 kind:scope.kind=.function
 cell:∀y∈scope.names,y.2≠.cell
 loc:∀y∈scope.names,y.2=.local→scope.names.lookup y.1=some .local
 free:∀y∈scope.names,y.2=.free→X.env.kindOf y.1=some .cell∨X.env.kindOf y.1=some .free
 caps:∀j∈js,scope.names.lookup (X.N.getD j "")=some .free
 nd:(xs++js.map (fun j=>X.N.getD j "")).Nodup
noncomputable def i0r(names:List (Str×NameKind))(N xs:List Str)(js:List Nat)(scope:Scope):Bool:=
 (scope.kind== .function)&&(scope.names.all fun y=>(y.2 !=.cell)&&((y.2 !=.local)||scope.names.lookup y.1==some .local)&&((y.2 !=.free)||(names.lookup y.1==some .cell||names.lookup y.1==some .free)))&&
  (js.all fun j=>scope.names.lookup (N.getD j "")==some .free)&&decide ((xs++js.map (fun j=>N.getD j "")).Nodup)
theorem CompOkM.of{X:Cx}{scope:Scope}(xs:List Str)(js:List Nat)(h:i0r X.env.scope.names X.N xs js scope=true):CompOkM X xs js scope:=by
 unfold i0r at h;simp only[Bool.and_eq_true,List.all_eq_true,beq_iff_eq,bne_iff_ne,Bool.or_eq_true,decide_eq_true_eq]at h;obtain ⟨⟨⟨h1,h2⟩,h4⟩,h5⟩:=h;refine ⟨h1,fun y hy=>(h2 y hy).1.1,fun y hy e=>?_,fun y hy e=>?_,h4,h5⟩
 ·rcases (h2 y hy).1.2 with z |z
  ·exact absurd e z
  ·exact z
 ·rcases (h2 y hy).2 with z |z
  ·exact absurd e z
  ·exact z
section
variable{X:Cx}{pins:List (Addr×Obj)}{σ:St}{H:Hp}{s:Shared}
theorem e0t{xs:List Str}{js:List Nat}{scope:Scope}{cl:List (Str×Addr)}{fp:List Addr}{h':Heap}{tk:Nat}(I:Inv X pins σ H s)(S:CompOkM X xs js scope)
 (h1:∀y c,cl.lookup y=some c→X.env.cells.lookup y=some c) (h2:∀y,(y,NameKind.free)∈scope.names→∃c,cl.lookup y=some c)
 (hf:∀b∈fp,FpOk X pins H b) (hfl:∀b∈fp,b<s.heap.objs.size)
 (hn:h'.Ns s.heap.objs.size (fun _=>none)) (hk:∀b o,s.heap.get? b=some o→h'.get? b=some o):
 Inv (X.compM xs js scope cl s.heap.objs.size s H fp) [] (List.replicate xs.length none++d8 σ js) H {s with heap:=h',toks:=tk}:=by
 have e0:=I.env0;have hfree:H s.heap.objs.size=none:=I.hok.fresh (Nat.le_refl _);refine ⟨⟨I.ok.mod,S.kind,I.ok.glob,I.ok.blt,Nat.le_refl _,fun y z c a b=>I.ok.inj y z c (h1 y c a) (h1 z c b),fun y hy=>?_,(fun y c z=>by cases z),I.ok.hd,I.ok.frames,.inl rfl,fun b hb=>⟨Nat.ne_of_lt (hfl b hb),fun y c e=>(hf b hb).2.2.2.2.1 y c (h1 y c e)⟩,
  I.bs,Nat.le_trans I.ok.bsz I.sz,fun b o e hb=>?_,fun b hb z=>?_,I.stack,I.stkFree⟩,rfl,I.bare,Un.kept hk,⟨_,hn,fun i y v e1 e2 e3=>?_⟩,fun y c e=>?_,hfree,fun y c e=>I.freeC y c (h1 y c e),(fun p hp=>by cases hp),I.hok.kept hk,?_⟩
 ·have hy:(relabel scope X.env).names.lookup y=some .cell∨(relabel scope X.env).names.lookup y=some .free:=hy;rcases hy with hy |hy
  ·exact h2 y (z0g hy (.inl rfl) S.cell)
  ·exact h2 y (z0g hy (.inr rfl) S.cell)
 ·rcases (hf b hb).2.2.2.1 with z |z
  ·exact I.ok.noex b o e z
  ·exact absurd (Nat.lt_of_lt_of_le (Heap.lt_size e) (Nat.le_trans I.ok.bsz z)) (Nat.lt_irrefl _)
 ·have z:b∈frs X.stack:=z;rcases List.mem_cons.mp (I.stkSub b z)with q |q
  ·exact (hf b hb).2.1 q
  ·exact (hf b hb).2.2.1 q
 ·have e1:(xs++js.map (fun j=>X.N.getD j ""))[i]?=some y:=e1;by_cases hi:i<xs.length
  ·rw[List.getElem?_append_left (by simpa using hi),List.getElem?_replicate,if_pos hi]at e2;cases e2
  ·rw[List.getElem?_append_right (by omega)]at e1;rw[List.getElem?_append_right (by simp;omega)]at e2;simp only[List.length_replicate]at e2;generalize i-xs.length=i at e1 e2;unfold d8 at e2;rw[List.getElem?_map]at e1 e2;cases ej:js[i]? with
   |none=>rw[ej]at e1;cases e1
   |some j=>
    rw[ej]at e1 e2;have e1:X.N.getD j ""=y:=Option.some.inj e1;have e2:(σ[j]?).join=some v:=Option.some.inj e2;have hjm:j∈js:=List.mem_of_getElem? ej;have e2':σ[j]?=some (some v):=by
     cases q:σ[j]? with
     |none=>rw[q]at e2;cases e2
     |some o=>rw[q]at e2;cases o with
      |none=>cases e2
      |some v'=>cases e2;rfl
    have hjl:j<X.N.length:=by rw[←I.len];exact (List.getElem?_eq_some_iff.mp e2').1
    have eN:X.N[j]?=some y:=by
     rw[←e1,List.getD_eq_getElem?_getD,List.getElem?_eq_getElem hjl];rfl
    have hfr:scope.names.lookup y=some .free:=by rw[←e1];exact S.caps j hjm
    have hmem:(y,NameKind.free)∈scope.names:=PySem.mem_of_lookup hfr;obtain ⟨c,hc⟩:=h2 y hmem;have hXc:=h1 y c hc;have hkd:=S.free (y,.free) hmem rfl;obtain ⟨m,hm,hl⟩:=I.loc;have hvis:Vis X.env.scope y:=by rcases hkd with q |q;exact .inr (.inl q);exact .inr (.inr q)
    obtain ⟨u,r,l⟩:=hl j y v eN e2' hvis;refine ⟨u,r,.inr ⟨n0v hfr,c,hc,?_⟩⟩;rcases l with ⟨q,_⟩|⟨q,c',q1,q2⟩
    ·rcases hkd with z |z
     ·rw[z]at q;cases q
     ·rw[z]at q;cases q
    ·rw[hXc]at q1;cases q1;obtain ⟨o,ho,hd⟩:=q2;exact ⟨o,hk _ _ ho,hd⟩
 ·obtain ⟨v,o,ho,hd⟩:=I.cell y c (h1 y c e);exact ⟨v,o,hk _ _ ho,hd⟩
 ·show (List.replicate xs.length none++d8 σ js).length=(xs++js.map (fun j=>X.N.getD j "")).length;unfold d8;simp
end
noncomputable def tgV(K:PySem.W.Frag)(tup:Bool)(n:Nat)(v:V)(H:Hp)(k:List V→Prop):Prop:=match tup with
 |false=>k [v]
 |true=>∃a ws,v=.ref a∧SqT K H a ws∧ws.length=n∧k ws
structure TgM(K:PySem.W.Frag)(tup:Bool)(n:Nat)(g:TG):Prop where
 go:∀(caps:St) (v:V) (H:Hp) (Q:St→Hp→Prop),tgV K tup n v H (fun ws=>Q (ws.map some++caps) H)→g v (List.replicate n none++caps) H Q
theorem o5{K:PySem.W.Frag}:TgM K false 1 (l0n 0):=⟨fun caps v H Q h=>h⟩
theorem n0g:∀(ws:List V) (pre post:St) (H:Hp) (Q:St→Hp→Prop),Q (pre++ws.map some++post) H→DL.gAll (List.range' pre.length ws.length) ws (pre++List.replicate ws.length none++post) H Q
 | [],pre,post,H,Q,h=>⟨rfl,by simpa using h⟩
 |w::ws,pre,post,H,Q,h=>by
  refine ⟨w,ws,rfl,?_⟩;show DL.gAll (List.range' (pre.length+1) ws.length) ws ((pre++List.replicate (w::ws).length none++post).set pre.length (some w)) H Q;have e:(pre++List.replicate (w::ws).length (none:Option V)++post).set pre.length (some w)=(pre++[some w])++List.replicate ws.length none++post:=by
   rw[List.length_cons,List.replicate_succ,List.append_assoc,List.cons_append,List.set_append_right _ _ (Nat.le_refl _)];simp
  rw[e];have:=n0g ws (pre++[some w]) post H Q (by simpa using h);simpa using this
theorem k0x{K:PySem.W.Frag}{n:Nat}{is:List Nat}(hi:is=List.range' 0 n):TgM K true n (gTup K n (DL.gAll is)):=⟨fun caps v H Q h=>by
 subst hi;obtain ⟨a,ws,rfl,q,hl,h⟩:=h;subst hl;exact ⟨a,ws,rfl,q,rfl,n0g ws [] caps H Q h⟩⟩
noncomputable def PIfs(X:Cx)(ifs:List Expr)(t:TT):Prop:=∀(pins:List (Addr×Obj)) (s:Shared) (σ:St) (H:Hp) (Q:Bool→Hp→Prop),Inv X pins σ H s→t σ H Q→
 wpAny (model X.prog X.w) X.A (forIn ifs true fun c r=>if r=true then do let ok←isTrue c X.env (eval c X.env);pure (ForInStep.yield ok)else pure (ForInStep.yield r)) (TP X pins σ Q) X.xe s
theorem b0q{X:Cx}:PIfs X [] (fun _ H Q=>Q true H):=fun pins s σ H Q I h=>wpAny_tests_nil ⟨H,I,h⟩
theorem b0p{X:Cx}{c:Expr}{t:TT}(h:PT X c t):PIfs X [c] t:=fun pins s σ H Q I q=>wpAny_tests_one (h pins s σ H Q I q)
noncomputable def e0s(K:PySem.W.Frag)(J:It)(tup:Bool)(n:Nat)(caps:St)(D:Addr)(tc:TT)(te:TE)(H1:Hp)(Q:Hp→Prop):Prop:=∃P:Nat→Nat→List V→Hp→Prop,(∃m,P 0 m [] (upd H1 D (.lst [])))∧∀i m ys H2,P i m ys H2→H2 D=some (.lst ys)∧
 ((J.stop i H2∧Q H2)∨(J.go i H2∧∀v H3,J.yld i H2 v H3→tgV K tup n v H3 fun ws=>tc (ws.map some++caps) H3 fun ok H4=>
  if ok=true then te (ws.map some++caps) H4 fun y H5=>H5 D=some (.lst ys)∧ys.length<sizeLine∧∃m',m'<m∧P (i+1) m' (ys++[y]) (upd H5 D (.lst (ys++[y])))
  else ∃m',m'<m∧P (i+1) m' ys H4))
noncomputable def e0r(K:PySem.W.Frag)(wi:TI)(tup:Bool)(n:Nat)(js:List Nat)(tc:TT)(te:TE):TE:=fun σ H Q=>wi σ H fun J H1=>∀D,H1 D=none→e0s K J tup n (d8 σ js) D tc te H1 fun H2=>Q (.ref D) H2
section
variable{X:Cx}
theorem s0p{xs:List Str}{target elt iter:Expr}{ifs:List Expr}{js:List Nat}{scope:Scope}{cl:List (Str×Addr)}{pos:Pos}{tup:Bool}{g:TG}{tc:TT}{te:TE}{J:It}{fp:List Addr}{it:Addr}{tn:Nat→Heap→Prop}{pins:List (Addr×Obj)}{σ:St}{H1:Hp}{s1:Shared}
 {Q:V→Hp→Prop} {RR:Value→Addr→Result→Shared→Prop} {E:Value→Shared→Prop} (hc:X.calm=true) (S:CompOkM X xs js scope)
 (hg:∀C s₀ H₀ fp cl,PG (X.compM xs js scope cl C s₀ H₀ fp) target g) (gm:TgM X.K tup xs.length g) (ht:∀C s₀ H₀ fp cl,PIfs (X.compM xs js scope cl C s₀ H₀ fp) ifs tc)
 (he:∀C s₀ H₀ fp cl,PE (X.compM xs js scope cl C s₀ H₀ fp) elt te)
 (h1:∀y c,cl.lookup y=some c→X.env.cells.lookup y=some c) (h2:∀y,(y,NameKind.free)∈scope.names→∃c,cl.lookup y=some c)
 (I:Inv X pins σ H1 s1) (T:Turn X.prog X.w X.K target J fp it tn) (st:tn 0 s1.heap) (hf:∀b∈fp,FpOk X pins H1 b)
 (q:∀D,H1 D=none→e0s X.K J tup xs.length (d8 σ js) D tc te H1 fun H2=>Q (.ref D) H2)
 (hRR:∀D C H' s',Inv X pins σ H' s'→Loose X pins H' C→(∃m,s'.heap.Ns C m)→Q (.ref D) H'→RR (.ref D) C (.ok .next) s'):
 wpAny (model X.prog X.w) X.A (newList []) (fun acc s₃=>wpAny (model X.prog X.w) X.A (newFunctionEnv scope X.env.globals cl [] X.env.qual none .none (some X.env)) (fun cenv s₄=>
  codeAny (model X.prog X.w) X.A (.compStart (.ListComp elt [⟨target,iter,ifs,0⟩] scope pos) 0 (.ref it) acc {cenv with scope:=relabel scope X.env}) (RR acc cenv.locals) s₄) E s₃) E s1:=by
 have hfr:H1 s1.heap.objs.size=none:=I.hok.fresh (Nat.le_refl _);refine wpAny_newObj_type (wpAny_newFunctionEnv S.cell (by intro y hy;simp at hy) (fun h₁ hns₁ hsb₁=>?_) S.kind);dsimp only at hns₁ hsb₁ ⊢;have I3:=I.laid (a:=s1.heap.objs.size) (o:=.lst []) (h':=s1.heap.push {cls:=.type "list",dict:=none,data:=.seq ([]:List Value).toArray}) (t':=s1.toks) (fun b u e=>Heap.get?_push_of_some _ e) (Nat.le_refl _)
  ⟨by simp,[],0,.nil,Heap.get?_push_size _ rfl⟩
 generalize hD:s1.heap.objs.size=D at*
 generalize hH2:s1.heap.push {cls:=.type "list",dict:=none,data:=.seq ([]:List Value).toArray}=G at*
 have hGD:G.objs.size=D+1:=by rw[←hH2,Heap.size_push,hD]
 have hkG:∀b o,G.get? b=some o→h₁.get? b=some o:=fun b o e=>hsb₁.extBut b o (Nat.ne_of_lt (Heap.lt_size e)) (Heap.get?_push_of_some _ e)
 have hold:∀b o,s1.heap.get? b=some o→h₁.get? b=some o:=fun b o e=>hkG b o (by rw[←hH2];exact Heap.get?_push_of_some _ e)
 have hfpl:∀b∈fp,b<s1.heap.objs.size:=fun b hb=>by obtain ⟨o,e,_⟩:=T.obj _ _ st b hb;exact Heap.lt_size e
 have hf3:∀b∈fp,FpOk X pins (upd H1 D (.lst [])) b:=fun b hb=>⟨by rw[o0 (by rw[←hD];exact Nat.ne_of_lt (hfpl b hb))];exact (hf b hb).1,(hf b hb).2⟩
 have IC:=e0t (xs:=xs) (js:=js) (scope:=scope) (cl:=cl) (fp:=fp) (h':=h₁) (tk:=s1.toks+([]:List (Str×Value)).length) I3 S h1 h2 hf3 (fun b hb=>Nat.lt_of_lt_of_le (hfpl b hb) (by show s1.heap.objs.size≤G.objs.size;rw[hGD,hD];exact Nat.le_succ _)) hns₁ hkG;obtain ⟨P,⟨m0,p0⟩,turn⟩:=q D hfr;have loop:∀s':Shared,s'={s1 with heap:=h₁,toks:=s1.toks+([]:List (Str×Value)).length}→
  codeAny (model X.prog X.w) X.A (.compLoop (.ListComp elt [⟨target,iter,ifs,0⟩] scope pos) 0 (.ref it) (.ref D) (compEnvC scope cl G.objs.size X.env)) (RR (.ref D) G.objs.size) s':=by
  rintro s' rfl;refine n0h (fun n s'=>∃i ys H',Inv (X.compM xs js scope cl G.objs.size {s1 with heap:=G} (upd H1 D (.lst [])) fp) [] (List.replicate xs.length none++d8 σ js) H' s'∧tn i s'.heap∧(∀b∈fp,H' b=none)∧P i n ys H') ?_ m0 ⟨0,[],_,IC,T.keep _ _ _ st fun b hb o e=>hold b o e,fun b hb=>(hf3 b hb).1,p0⟩;rintro n s3 ⟨i,ys,H3,J3,st3,fr3,p3⟩;obtain ⟨hD3,tr⟩:=turn i n ys H3 p3;have stat:∀{H':Hp} {s':Shared} {σ':St},Inv (X.compM xs js scope cl G.objs.size {s1 with heap:=G} (upd H1 D (.lst [])) fp) [] σ' H' s'→(∀b∈fp,H' b=none)→∀b∈fp,FpOk (X.compM xs js scope cl G.objs.size {s1 with heap:=G} (upd H1 D (.lst [])) fp) [] H' b:=
   fun {H' s' σ'} JJ hn b hb=>⟨hn b hb,(JJ.ok.exf b hb).1,JJ.ok.exfs b hb,.inl hb,(JJ.ok.exf b hb).2,fun p hp=>by cases hp⟩
  rcases tr with ⟨stop,qn⟩|⟨go,step⟩
  ·refine wpAny_mono (T.done (X.compM xs js scope cl G.objs.size {s1 with heap:=G} (upd H1 D (.lst [])) fp) rfl rfl rfl hc i [] s3 _ H3 (fun _ _=>False) J3 (stat J3 fr3) st3 stop) (fun r s4 ⟨hr,J4⟩=>?_) fun _ _ z=>z
   subst hr;have I4:Inv X pins σ H3 s4:=by
    refine I3.call' (ch:=fp) (s':=s4) J4.os J4.base J4.hok J4.bare fun b hb=>?_
    obtain ⟨_,f1,f2,f3,f4,f5⟩:=hf3 b hb;exact ⟨f3,f1,f4,f5⟩
   refine hRR D G.objs.size H3 s4 I4 ⟨J4.free,?_,?_,?_,?_⟩ (let ⟨m,hm,_⟩:=J4.loc;⟨m,hm⟩) qn
   ·exact Nat.ne_of_gt I3.lt
   ·exact I3.sz
   ·exact fun y c e=>by obtain ⟨v,z⟩:=I3.cell y c e;exact Nat.ne_of_lt z.lt
   ·exact fun p hp=>Nat.ne_of_lt (Heap.lt_size (I3.pin p hp).1)
  ·refine wpAny_mono (T.item (X.compM xs js scope cl G.objs.size {s1 with heap:=G} (upd H1 D (.lst [])) fp) rfl rfl rfl hc i [] s3 _ H3 (fun _ _=>False) J3 (stat J3 fr3) st3 go) (fun r s4 ⟨u,hr,h4⟩=>?_) fun _ _ z=>z
   subst hr;refine wpAny_mono h4 (fun _ s5 ⟨v,H5,J5,r5,y5,st5,fr5⟩=>?_) fun _ _ z=>z
   have J5':=J5.pinned (stat J5 fr5) (T.obj _ _ st5);have back:∀{ws:List V} {H':Hp} {s':Shared} {pp},Inv (X.compM xs js scope cl G.objs.size {s1 with heap:=G} (upd H1 D (.lst [])) fp) pp (ws.map some++d8 σ js) H' s'→Inv (X.compM xs js scope cl G.objs.size {s1 with heap:=G} (upd H1 D (.lst [])) fp) pp (List.replicate xs.length none++d8 σ js) H' s':=
    fun {ws H' s' pp} JJ=>by
     have hl:(ws.map some++d8 σ js).length=(List.replicate xs.length none++d8 σ js).length:=by rw[JJ.len,← J3.len]
     have hw:ws.length=xs.length:=by simpa using hl
     refine JJ.weak hl.symm fun k v e=>?_
     by_cases hk:k<xs.length
     ·rw[List.getElem?_append_left (by simpa using hk),List.getElem?_replicate,if_pos hk]at e;cases e
     ·rw[List.getElem?_append_right (by simp;omega)]at e ⊢;simpa[hw]using e
   have seen:∀{H':Hp} {s':Shared} {σ':St},Inv (X.compM xs js scope cl G.objs.size {s1 with heap:=G} (upd H1 D (.lst [])) fp) ([]++o0g fp s5.heap) σ' H' s'→tn (i+1) s'.heap∧∀b∈fp,H' b=none:=fun {H' s' σ'} JJ=>by
    refine ⟨T.keep _ _ _ st5 fun b hb o e=>(JJ.pin (b,o) (List.mem_append_right _ (List.mem_append_right _ (y0t hb e)))).1,fun b hb=>?_⟩;obtain ⟨o,e,d⟩:=T.obj _ _ st5 b hb;exact (JJ.pin (b,o) (List.mem_append_right _ (List.mem_append_right _ (y0t hb e)))).2.1
   have st5':=step v H5 y5;refine wpAny_mono (hg G.objs.size {s1 with heap:=G} (upd H1 D (.lst [])) fp cl _ s5 _ H5 v u (fun σ' H'=>∃ws:List V,σ'=ws.map some++d8 σ js∧H'=H5∧tc (ws.map some++d8 σ js) H5 fun ok H4=>
    if ok=true then te (ws.map some++d8 σ js) H4 fun y H5=>H5 D=some (.lst ys)∧ys.length<sizeLine∧∃m',m'<n∧P (i+1) m' (ys++[y]) (upd H5 D (.lst (ys++[y])))else ∃m',m'<n∧P (i+1) m' ys H4) J5' r5 (gm.go _ _ _ _ ?_)) (fun _ s6 ⟨σ6,H6,J6,ws,e1,e2,h6⟩=>?_) fun _ _ z=>z
   ·unfold tgV at st5' ⊢;cases tup
    ·exact ⟨_,rfl,rfl,st5'⟩
    ·obtain ⟨a,ws,z1,z2,z3,z4⟩:=st5';exact ⟨a,ws,z1,z2,z3,ws,rfl,rfl,z4⟩
   subst e1 e2;refine wpAny_mono (ht G.objs.size {s1 with heap:=G} (upd H1 D (.lst [])) fp cl _ s6 _ _ _ J6 h6) (fun ok s7 ⟨H7,J7,q7⟩=>?_) fun _ _ z=>z
   cases ok with
   |false=>
    rw[if_neg Bool.false_ne_true]at q7 ⊢;obtain ⟨m',hm',p7⟩:=q7;obtain ⟨w1,w2⟩:=seen J7;exact ⟨m',hm',i+1,ys,H7,back J7.unpinned,w1,w2,p7⟩
   |true=>
    rw[if_pos rfl]at q7 ⊢;refine wpAny_mono (he G.objs.size {s1 with heap:=G} (upd H1 D (.lst [])) fp cl _ s7 _ H7 _ J7 q7) (fun y s8 ⟨yv,H8,J8,ry,hD8,hz8,m',hm',p8⟩=>?_) fun _ _ z=>z
    obtain ⟨z,its,nn,r,hl,e⟩:=J8.lstM hD8;refine call_meets F.slot_list_append ⟨_,e,rfl⟩ F.entry_list_append (F.args_list_append_2 _ _) (PySem.list_append D its.toArray nn y (by rw[List.size_toArray];omega)) ⟨e,?_⟩;have J9:=J8.lset (its':=its++[y]) (t':=s8.toks) hD8 e (f:=fun xs=>xs.push y) (by simp) (r.append (.cons ry .nil)) (by rw[List.length_append,List.length_singleton];omega);obtain ⟨w1,w2⟩:=seen J9;exact ⟨m',hm',i+1,ys++[yv],_,back J9.unpinned,w1,w2,p8⟩
 exact codeAny_compStart_list (loop _ rfl) (T.self X.A 0 _ _ _ (T.keep _ _ _ st fun b hb o e=>hold b o e) (loop _ rfl))
theorem b0o{xs:List Str}{target elt iter:Expr}{ifs:List Expr}{js:List Nat}{scope:Scope}{pos:Pos}{tup:Bool}{g:TG}{tc:TT}{te:TE}{wi:TI}(hc:X.calm=true)(S:CompOkM X xs js scope)(hi:PI X target iter wi)
 (hg:∀C s₀ H₀ fp cl,PG (X.compM xs js scope cl C s₀ H₀ fp) target g) (gm:TgM X.K tup xs.length g) (ht:∀C s₀ H₀ fp cl,PIfs (X.compM xs js scope cl C s₀ H₀ fp) ifs tc)
 (he:∀C s₀ H₀ fp cl,PE (X.compM xs js scope cl C s₀ H₀ fp) elt te) (hs:∀v,foldedSetIterable iter X.env v=pure v:=by intro _;rfl):
 PE X (.ListComp elt [⟨target,iter,ifs,0⟩] scope pos) (e0r X.K wi tup xs.length js tc te):=by
 intro pins s σ H Q I h;obtain ⟨cl,c0,c1,c2⟩:=p0z (scope:=scope) (env:=X.env) fun p hp hk=>I.ok.has p.1 (S.free p hp hk)
 rw[eval_ListComp];refine wpAny_comprehension_free (use:=none) rfl hs c0 S.kind S.loc (thn (hi pins s σ H _ I h) fun xv s₁ h₁=>thn h₁ fun itv s₂ h₂=>?_);obtain ⟨it,fp,tn,J,H',rfl,I2,T,st,hf,q⟩:=h₂;refine s0p (RR:=fun acc C=>compPost (model X.prog X.w) X.A X.xe none (EP X pins σ Q) acc C) hc S hg gm ht he c1 c2 I2 T st hf q ?_;rintro D C H' s' I' L ⟨m,hm⟩ qq;refine ⟨m,hm,fun h' hs'=>⟨.ref D,H',?_,rfl,qq⟩⟩;exact I'.turned (t':=s'.toks) (it:=C) (fun b o hb e=>hs'.extBut b o hb e) L.free L.ne (.inr L.yng) L.cell L.pin
theorem i0q{i:Nat}{y:Str}{py:Pos}{xs:List Str}{target elt iter:Expr}{ifs:List Expr}{js:List Nat}{scope:Scope}{pos spos:Pos}{tup:Bool}{g:TG}{tc:TT}{te:TE}{wi:TI}(hc:X.calm=true)(S:CompOkM X xs js scope)(hi:PI X target iter wi)
 (hg:∀C s₀ H₀ fp cl,PG (X.compM xs js scope cl C s₀ H₀ fp) target g) (gm:TgM X.K tup xs.length g) (ht:∀C s₀ H₀ fp cl,PIfs (X.compM xs js scope cl C s₀ H₀ fp) ifs tc)
 (he:∀C s₀ H₀ fp cl,PE (X.compM xs js scope cl C s₀ H₀ fp) elt te) (hN:X.N.Nodup) (hy:X.N[i]?=some y) (hl:Loc X.env.scope y)
 (hsw:swapsWith (.ListComp elt [⟨target,iter,ifs,0⟩] scope pos) (some (.Name y py)) spos.line X.env=pure true)
 (hs:∀v,foldedSetIterable iter X.env v=pure v:=by intro _;rfl) (hfn:X.fn y=true∨X.env.scope.names.lookup y=some .local:=by first |exact .inl rfl |exact .inr rfl |assumption):
 PS X (.Assign [.Name y py] (.ListComp elt [⟨target,iter,ifs,0⟩] scope pos) spos) (tAsg (e0r X.K wi tup xs.length js tc te) (l0n i)):=by
 intro pins s σ H D I h;obtain ⟨cl,c0,c1,c2⟩:=p0z (scope:=scope) (env:=X.env) fun p hp hk=>I.ok.has p.1 (S.free p hp hk)
 rw[exec_Assign_Name_used _ _ _ _ hsw];refine wpAny_bind (wpAny_standAt (wpAny_bind ?_));show wpAny _ _ (do let _←comprehension (.ListComp elt [⟨target,iter,ifs,0⟩] scope pos) scope X.env _ (newList []) false (eval iter X.env) (some (assign (.Name y py) X.env))) _ _ s;refine wpAny_bind (wpAny_mono (wpAny_comprehension_free (use:=some (assign (.Name y py) X.env)) (Q:=fun _ s'=>SP X pins D .next s') rfl hs c0 S.kind S.loc
  (thn (hi pins s σ H _ I h) fun xv s₁ h₁=>thn h₁ fun itv s₂ h₂=>?_)) (fun _ s' hq=>wpAny_pure (wpAny_pure hq)) fun _ _ e=>e)
 obtain ⟨it,fp,tn,J,H',rfl,I2,T,st,hf,q⟩:=h₂;refine s0p (Q:=fun v H1=>l0n i v σ H1 D.nx) (RR:=fun acc C=>compPost (model X.prog X.w) X.A X.xe (some (assign (.Name y py) X.env)) (fun _ s'=>SP X pins D .next s') acc C) hc S hg gm ht he c1 c2 I2 T st hf q ?_;rintro E C H' s' I' L ⟨m,hm⟩ qq;show wpAny _ _ (assign (.Name y py) X.env (.ref E)) _ _ _;refine wpAny_assign_Name (o0h (v:=.ref E) I' hN hy hl rfl (fun s2 I2 ⟨a,sb,ha⟩=>?_) hfn);have nca:C≠a:=by
  rcases ha with z |z
  ·rw[z];exact L.ne
  ·exact (L.cell y a z).symm
 refine ⟨m,hm.sameBut sb nca,fun h' hs'=>⟨_,H',?_,qq⟩⟩;exact I2.turned (t':=s2.toks) (it:=C) (fun b o hb e=>hs'.extBut b o hb e) L.free L.ne (.inr L.yng) L.cell L.pin
end
section
variable{X:Cx}{elts:List Expr}{x1:Nat}{tpos:Pos}
noncomputable def iZip(K:PySem.W.Frag)(ta:TA):TI:=fun σ H R=>ta σ H fun vs H1=>∃a a' b b',vs=[.ref a,.ref a']∧(∃xs,Sq K b H1 a xs)∧(∃ys,Sq K b' H1 a' ys)∧R (Itz K b b' a a') H1
theorem pi_zip{a b:Expr}{ta:TA}{p pos:Pos}(hg:Gl X "zip")(hm:X.mg "zip"=none)(ha:PA X [a,b] ta)(hs:starEach [a,b] X.env=[(false,eval a X.env),(false,eval b X.env)]:=by rfl)(hs2:starEach [b] X.env=[(false,eval b X.env)]:=by rfl):
 PI X (.Tuple elts x1 tpos) (.Call (.Name "zip" p) [a,b] [] pos) (iZip X.K ta):=by
 intro pins s σ H R I h;refine Call_ (s0y I hg hm bt_zip (PyProof.Rows.callWith_type1 (thn (ha pos pins s σ H _ I h) fun us s1 ⟨vs,H1,I1,r1,q1⟩=>?_) (by rw[hs,hs2]) (by rw[hs2];rfl)));obtain ⟨a1,a2,b1,b2,e,⟨xs,k1⟩,⟨ys,k2⟩,q⟩:=q1;subst e;cases r1 with
 |cons r rr=>
  cases rr with
  |cons r' rr=>
   cases rr;cases r;cases r';obtain ⟨its1,v1,p1,z1⟩:=I1.sq k1;obtain ⟨its2,v2,p2,z2⟩:=I1.sq k2;have l1:a1<s1.heap.objs.size:=by obtain ⟨o,e,_⟩:=p1.obj;exact Heap.lt_size e
   have l2:a2<s1.heap.objs.size:=by obtain ⟨o,e,_⟩:=p2.obj;exact Heap.lt_size e
   refine y1b p1 p2 fun h' hz hTI hTO i1 i2 kk=>wpAny_pyIter_zip (s:={s1 with heap:=h'}) hz ?_
   have ne:∀{c k:Nat},c<s1.heap.objs.size→c≠s1.heap.objs.size+k:=fun h z=>by omega
   have ap:∀{k l:Nat},k≠l→s1.heap.objs.size+k≠s1.heap.objs.size+l:=fun h z=>h (by omega)
   have ap0:∀{l:Nat},l≠0→s1.heap.objs.size≠s1.heap.objs.size+l:=fun h z=>h (by omega)
   refine ⟨_,[s1.heap.objs.size+4,s1.heap.objs.size+2,s1.heap.objs.size+3,s1.heap.objs.size,s1.heap.objs.size+1],_,_,H1,rfl,I1.kept (t':=s1.toks) kk,b0r b1 b2 a1 a2 _ _ _ _ _ ⟨ap (by decide),ap (by decide),ap0 (by decide),ap (by decide),ap (by decide),(ap0 (by decide)).symm,ap (by decide),(ap0 (by decide)).symm,ap (by decide),ap0 (by decide)⟩
    ⟨ne l1,ne l1,Nat.ne_of_lt l1,ne l1⟩ ⟨ne l2,ne l2,Nat.ne_of_lt l2,ne l2⟩,⟨hz,hTI,⟨_,_,hTO⟩,i1,i2⟩,fun c hc=>?_,q⟩
   have hle:s1.heap.objs.size≤c:=by
    have hc':c=s1.heap.objs.size+4∨c=s1.heap.objs.size+2∨c=s1.heap.objs.size+3∨c=s1.heap.objs.size∨c=s1.heap.objs.size+1:=by simpa using hc
    rcases hc' with e |e |e |e |e<;>(rw[e];omega)
   exact I1.fpOk hle (I1.hok.fresh hle)
noncomputable def iEnu(K:PySem.W.Frag)(ta:TA):TI:=fun σ H R=>ta σ H fun vs H1=>∃a b,vs=[.ref a]∧(∃xs,Sq K b H1 a xs)∧R (Ite K b a) H1
theorem x1z{a:Expr}{ta:TA}{p pos:Pos}(hg:Gl X "enumerate")(hm:X.mg "enumerate"=none)(ha:PA X [a] ta)(hs:starEach [a] X.env=[(false,eval a X.env)]:=by rfl):
 PI X (.Tuple elts x1 tpos) (.Call (.Name "enumerate" p) [a] [] pos) (iEnu X.K ta):=by
 intro pins s σ H R I h;refine Call_ (s0y I hg hm n0i (PyProof.Rows.callWith_type1 (thn (ha pos pins s σ H _ I h) fun us s1 ⟨vs,H1,I1,r1,q1⟩=>?_) hs rfl));obtain ⟨a1,b1,e,⟨xs,k1⟩,q⟩:=q1;subst e;cases r1 with
 |cons r rr=>
  cases rr;cases r;obtain ⟨its1,v1,p1,z1⟩:=I1.sq k1;have l1:a1<s1.heap.objs.size:=by obtain ⟨o,e,_⟩:=p1.obj;exact Heap.lt_size e
  refine y1c p1 fun h' he i1 kk=>wpAny_pyIter_enum (s:={s1 with heap:=h'}) he ?_
  refine ⟨_,[s1.heap.objs.size+1,s1.heap.objs.size],_,_,H1,rfl,I1.kept (t':=s1.toks) kk,e0u b1 a1 _ _ (Nat.succ_ne_self _) ⟨Nat.ne_of_lt (Nat.lt_succ_of_lt l1),Nat.ne_of_lt l1⟩,⟨⟨_,he⟩,i1⟩,fun c hc=>?_,q⟩;have hle:s1.heap.objs.size≤c:=by
   have hc':c=s1.heap.objs.size+1∨c=s1.heap.objs.size:=by simpa using hc
   rcases hc' with e |e<;>(rw[e];omega)
  exact I1.fpOk hle (I1.hok.fresh hle)
end
end L2
namespace L2
open PySem PySem.Spec PyProof.Rows
section
variable{X:Cx}
theorem z1w:bootBuiltins "sum"=some (.builtin "sum"):=by decide +kernel
noncomputable def e0q(ns:List Int):Prop:=∀j,j<ns.length→InLong (ns.getD j 0)∧InLong (preSum (fun i=>ns.getD i 0) (j+1))
theorem x0r(ns:List Int):∀j,preSum (fun i=>ns.getD i 0) j=(ns.take j).sum
 | 0=>by simp[preSum]
 |j+1=>by
  rw[PySem.sum_take_succ,← x0r ns j];rfl
noncomputable def rSum(K:PySem.W.Frag):List V→Hp→VK→Prop:=fun vs H Q=>∃(b:Bool) (a:Addr) (ns:List Int),vs=[.ref a]∧Sq K b H a (ns.map V.int)∧e0q ns∧Q (.int ns.sum) H
theorem b0n(b:Bool){prog:Program}{w:World}{A:Around}(hh:A.handled=none)(j a:Addr)(ne:a≠j)(xs:Array Value):
 Walks prog w A j [j,a] [j] xs.size (fun i v=>xs[i]?=some v) (fun i h=>ItAt b h j a i∧SqAt b h a xs):=by
 cases b
 ·exact Walks.list hh j a ne xs
 ·exact Walks.tuple hh j a ne xs
theorem i0p(hc:X.calm=true):y0c X (.builtin "sum") (rSum X.K):=by
 intro pins s σ H xs us Q I rv h;obtain ⟨b,a,ns,rfl,hq,fit,q⟩:=h;obtain ⟨u,rfl,ru⟩:=rv.one;cases (show u=Value.ref a from ru);obtain ⟨its,r,p,hz⟩:=I.sq hq;have hi:=h0t r;have hlt:a<s.heap.objs.size:=by obtain ⟨_,e,_⟩:=p.obj;exact Heap.lt_size e
 have hlen:its.length=ns.length:=by have:=r.length;simpa using this.symm
 refine call_sum_walk (k0y p ?_);refine ⟨s.heap.objs.size,[s.heap.objs.size,a],[s.heap.objs.size],its.toArray.size,_,_,fun i=>ns.getD i 0,rfl,b0n b (A:=X.A.in1) (I.ok.hd hc) _ a (Nat.ne_of_lt hlt) its.toArray,
  ⟨.of (Heap.get?_push_size _ rfl) rfl rfl,p.stay fun o e=>Heap.get?_push_of_some _ e⟩,fun c hcm=>?_,fun i v hP=>?_,fun j hj=>fit j (by simpa[hlen]using hj),fun h' tk t' hk=>?_⟩
 ·show c<(s.heap.push _).objs.size;rw[Heap.size_push];have:c=s.heap.objs.size∨c=a:=by simpa using hcm
  rcases this with rfl |rfl
  ·exact Nat.lt_succ_self _
  ·exact Nat.lt_succ_of_lt hlt
 ·have hP':its[i]?=some v:=by simpa using hP
  have hl:=(List.getElem?_eq_some_iff.mp hP').1;have hl2:i<(ns.map V.int).length:=by rw[List.length_map];omega
  obtain ⟨u,hu,rr⟩:=r.get (List.getElem?_eq_getElem hl2);rw[hP']at hu;cases hu;rw[List.getElem_map]at rr;obtain ⟨t,e⟩:=rr;refine ⟨t,?_⟩;rw[e];show Value.int ns[i] t=Value.int (ns.getD i 0) t;rw[List.getD_eq_getElem?_getD,List.getElem?_eq_getElem (by omega)];rfl
 ·rw[List.size_toArray,hlen,x0r,List.take_length];have hn:∀c o,s.heap.get? c=some o→c∉ [s.heap.objs.size]:=fun c o e z=>by
   have z':c=s.heap.objs.size:=by simpa using z
   subst z';exact absurd (Heap.lt_size e) (Nat.lt_irrefl _)
  exact ⟨.int _,H,I.kept fun c o e=>hk c o (hn c o e) (Heap.get?_push_of_some _ e),⟨t',rfl⟩,q⟩
noncomputable def rCatA(K:PySem.W.Frag):R2:=fun x y H Q=>∃a b xs ys,x=.ref a∧y=.ref b∧SqT K H a xs∧SqT K H b ys∧xs.length+ys.length≤sizeLine∧
 (xs=[]→Q (.ref b) H)∧(xs≠[]→ys=[]→Q (.ref a) H)∧(xs≠[]→ys≠[]→∀p,H p=none→Q (.ref p) (upd H p (.tup (xs++ys))))
theorem x1y:OpR X (binaryOp .Add) (rCatA X.K):=by
 intro pins s σ H x y v u Q I rx ry h;obtain ⟨a,b,xs,ys,rfl,rfl,ha,hb,hz,q0,q1,q2⟩:=h;by_cases hx:xs=[]
 ·cases rx;cases ry;obtain ⟨its,r1,p1,_⟩:=I.tuple ha;obtain ⟨its2,r2,p2,_⟩:=I.tuple hb;have hv:its=[]:=r1.nil_iff.mpr hx;obtain ⟨⟨cls,dd,data,sl⟩,ho,hc,n,hd⟩:=id p1;obtain ⟨⟨cls2,dd2,data2,sl2⟩,ho2,hc2,n2,hd2⟩:=id p2;simp only at hc hd hc2 hd2;subst hc hd hc2 hd2;exact concat_meets ⟨_,ho,rfl⟩ ⟨_,ho2,rfl⟩ noFill_tuple_add seq_tuple_add PySem.F.slot_tuple_add PySem.F.entry_tuple_add (PySem.F.args_tuple_add_2 _ _) (tuple_addW0 a b its.toArray its2.toArray n n2 dd dd2 sl sl2 (by simp[hv])) ⟨ho,ho2,.ref b,H,I,rfl,q0 hx⟩
 ·exact z1a pins s σ H _ _ v u Q I rx ry ⟨a,b,xs,ys,rfl,rfl,ha,hb,hx,hz,q1 hx,q2 hx⟩
end
end L2
namespace DL
open PySem PySem.Spec L2
open PySem.W (XC)
section
variable{X:Cx}{Y:Y2}{W:XW}{tg:Expr}{K:Frag}
noncomputable def sqb:D→Bool | .tup _=>true |_=>false
theorem i0o{F:Hp}{d:D}{xs:List D}{x:V}(h:seqD d=some xs)(r:Rep K F d x):∃a vs b,x=.ref a∧Sq K b F a vs∧Reps K F xs vs:=by
 obtain ⟨a,vs,e,sq,z⟩:=z1y h r;rcases sq with sq |sq
 ·exact ⟨a,vs,false,e,sq,z⟩
 ·exact ⟨a,vs,true,e,sq,z⟩
theorem _root_.L2.Same.sq{F F':Hp}{b:Bool}{a:Addr}{xs:List V}(s:Same F F')(h:Sq K b F a xs):Sq K b F' a xs:=by
 cases b
 ·exact s.sqL h
 ·exact s.sqT h
noncomputable def zipD(ds es:List D):List D:=List.zipWith (fun d e=>D.tup [d,e]) ds es
theorem w0v{ds es:List D}{i:Nat}{c:D}(h:(zipD ds es)[i]?=some c):∃d e,ds[i]?=some d∧es[i]?=some e∧c=.tup [d,e]:=by
 unfold zipD at h;rw[List.getElem?_zipWith]at h;cases h1:ds[i]? with
 |none=>rw[h1]at h;cases h
 |some d=>
  cases h2:es[i]? with
  |none=>rw[h1,h2]at h;cases h
  |some e=>rw[h1,h2]at h;exact ⟨d,e,rfl,rfl,(Option.some.inj h).symm⟩
theorem w0u{ds es:List D}:(zipD ds es).length=min ds.length es.length:=by unfold zipD;simp
theorem x1x{F:Hp}{b b':Bool}{a a':Addr}{xs ys:List V}{ds es:List D}(h:Sq K b F a xs)(h':Sq K b' F a' ys)(r:Reps K F ds xs)(r':Reps K F es ys):SrcOk K (Itz K b b' a a') F (zipD ds es):=by
 refine ⟨fun i c F' H e s1 s2=>?_,fun F' H s1 s2=>?_⟩
 ·obtain ⟨d,e',e1,e2,rfl⟩:=w0v e;obtain ⟨v,ev,rv⟩:=r.get e1;obtain ⟨v',ev',rv'⟩:=r'.get e2;have q1:=(s1.trans s2).sq h;have q2:=(s1.trans s2).sq h';refine ⟨⟨xs,ys,v,v',q1,ev,q2,ev'⟩,fun u H' y=>?_⟩;obtain ⟨p,x,y,hp,rfl,rfl,k1,k2⟩:=y;have e3:=k1 xs q1;have e4:=k2 ys q2;rw[ev]at e3;rw[ev']at e4;cases e3;cases e4;exact .inr ⟨p,_,_,hp,rfl,rfl,rfl,Reps.cons (rv.mono s1) (Reps.cons (rv'.mono s1) Reps.nil)⟩
 ·rw[w0u];refine ⟨xs,ys,(s1.trans s2).sq h,(s1.trans s2).sq h',?_⟩;rw[r.length,r'.length];omega
noncomputable def t0n(k:Nat)(ds:List D):List D:=match ds with | []=>[]|d::r=>.tup [.int (k:Int),d]::t0n (k+1) r
theorem l7:∀(ds:List D) (k:Nat),(t0n k ds).length=ds.length
 | [],k=>rfl
 |d::r,k=>by unfold t0n;rw[List.length_cons,List.length_cons,l7 r]
theorem j7:∀{ds:List D} {k i:Nat} {c:D},(t0n k ds)[i]?=some c→∃d,ds[i]?=some d∧c=.tup [.int ((k+i:Nat):Int),d]
 | [],k,i,c,h=>by unfold t0n at h;simp at h
 |d::r,k,0,c,h=>by unfold t0n at h;simp at h;exact ⟨d,rfl,h.symm⟩
 |d::r,k,i+1,c,h=>by
  unfold t0n at h;rw[List.getElem?_cons_succ]at h;obtain ⟨e,h1,h2⟩:=j7 h;exact ⟨e,by simpa using h1,by rw[h2,show k+1+i=k+(i+1)by omega]⟩
theorem b0m{F:Hp}{b:Bool}{a:Addr}{xs:List V}{ds:List D}(h:Sq K b F a xs)(r:Reps K F ds xs):SrcOk K (Ite K b a) F (t0n 0 ds):=by
 refine ⟨fun i c F' H e s1 s2=>?_,fun F' H s1 s2=>?_⟩
 ·obtain ⟨d,e1,rfl⟩:=j7 e;obtain ⟨v,ev,rv⟩:=r.get e1;have q1:=(s1.trans s2).sq h;refine ⟨⟨xs,v,q1,ev⟩,fun u H' y=>?_⟩;obtain ⟨p,x,hp,rfl,rfl,k1⟩:=y;have e3:=k1 xs q1;rw[ev]at e3;cases e3;rw[Nat.zero_add];exact .inr ⟨p,_,_,hp,rfl,rfl,rfl,Reps.cons (rep_int.mpr rfl) (Reps.cons (rv.mono s1) Reps.nil)⟩
 ·rw[l7];exact ⟨xs,(s1.trans s2).sq h,r.length⟩
variable{a b:Expr}{ta:TA2}{p pos tpos:Pos}{elts:List Expr}{x1:Nat}
noncomputable def b0l(ta:TA2):TI2:=fun x ρ δ q=>ta x ρ δ fun ds ρ1 δ1=>match ds with | [d,e]=>(match seqD d,seqD e with |some xs,some ys=>q (zipD xs ys) ρ1 δ1 |_,_=>False)|_=>False
theorem i0n(hm:X.mg "zip"=none)(ha:PA2 X Y W [a,b] ta)(hg:Gl X "zip":=by rfl)(hs:starEach [a,b] X.env=[(false,eval a X.env),(false,eval b X.env)]:=by rfl)(hs2:starEach [b] X.env=[(false,eval b X.env)]:=by rfl):
 PI2 X Y W (.Tuple elts x1 tpos) (.Call (.Name "zip" p) [a,b] [] pos) (b0l ta):=pi2 (pi_zip hg hm ha.go hs hs2) fun σ H R ⟨F,ρ,δ,x,q,I,h,k,kx⟩=>by
 refine ⟨F,ρ,δ,x,_,I,h,fun ds vs F' H' ρ' δ' I' s' r' h'=>?_,kx⟩;split at h'
 ·rename_i d e;split at h'
  ·rename_i xs ys e1 e2;obtain ⟨v,u,rfl,r1,r2⟩:=f0m r';obtain ⟨a1,vs1,b1,rfl,q1,z1⟩:=i0o e1 r1;obtain ⟨a2,vs2,b2,rfl,q2,z2⟩:=i0o e2 r2;exact ⟨a1,a2,b1,b2,rfl,⟨_,I'.sub.sq q1⟩,⟨_,I'.sub.sq q2⟩,k _ _ F' H' ρ' δ' I' s' (x1x q1 q2 z1 z2) h'⟩
  ·exact h'.elim
 ·exact h'.elim
noncomputable def b0k(ta:TA2):TI2:=fun x ρ δ q=>ta x ρ δ fun ds ρ1 δ1=>match ds with | [d]=>(match seqD d with |some xs=>q (t0n 0 xs) ρ1 δ1 |none=>False)|_=>False
theorem v0z(hm:X.mg "enumerate"=none)(ha:PA2 X Y W [a] ta)(hg:Gl X "enumerate":=by rfl)(hs:starEach [a] X.env=[(false,eval a X.env)]:=by rfl):
 PI2 X Y W (.Tuple elts x1 tpos) (.Call (.Name "enumerate" p) [a] [] pos) (b0k ta):=pi2 (x1z hg hm ha.go hs) fun σ H R ⟨F,ρ,δ,x,q,I,h,k,kx⟩=>by
 refine ⟨F,ρ,δ,x,_,I,h,fun ds vs F' H' ρ' δ' I' s' r' h'=>?_,kx⟩;split at h'
 ·split at h'
  ·rename_i xs e1;obtain ⟨v,rfl,r1⟩:=z0f r';obtain ⟨a1,vs1,b1,rfl,q1,z1⟩:=i0o e1 r1;exact ⟨a1,b1,rfl,⟨_,I'.sub.sq q1⟩,k _ _ F' H' ρ' δ' I' s' (b0m q1 z1) h'⟩
  ·exact h'.elim
 ·exact h'.elim
end
noncomputable def tgD(tup:Bool)(n:Nat)(d:D):Option (List D):=match tup,d with
 |false,d=>some [d]
 |true,.tup ds=>if ds.length=n then some ds else none
 |true,_=>none
noncomputable def compM(tup:Bool)(n:Nat)(tc:TT2)(te:TE2)(js:List Nat)(ρ:En)(q:List D→Dk→Prop):List D→List D→Dk→Prop
 | [],acc,δ=>q acc δ
 |d::ds,acc,δ=>match tgD tup n d with
  |some es=>tc (fun _ _ _ _=>False) (es.map .val++capt ρ js) δ fun b ρ1 δ1=>if b=true then te (fun _ _ _ _=>False) ρ1 δ1 fun e _ δ2=>acc.length<1000∧compM tup n tc te js ρ q ds (acc++[e]) δ2 else compM tup n tc te js ρ q ds acc δ1
  |none=>False
section
variable{K:Frag}{Y:Y2}{F H:Hp}{σ:St}{ρ:En}{δ:Dk}
theorem n0f{H₀:Hp}{sf:Option Addr}{cs:En}{ss:St}(hc:∀(i:Nat) (c:Cell),cs[i]?=some c→CellOk K F H H₀ sf c (ss[i]?).join):∀{es:List D} {ws:List V},Reps K F es ws→∀(i:Nat) (c:Cell),(es.map Cell.val++cs)[i]?=some c→CellOk K F H H₀ sf c ((ws.map some++ss:St)[i]?).join
 | [],ws,r,i,c,e=>by rw[reps_nil.mp r];exact hc i c e
 |d::es,ws,r,0,c,e=>by
  obtain ⟨v,l,rfl,r1,r2⟩:=reps_cons.mp r;cases e;exact ⟨v,rfl,r1⟩
 |d::es,ws,r,i+1,c,e=>by
  obtain ⟨v,l,rfl,r1,r2⟩:=reps_cons.mp r;exact n0f hc r2 i c e
theorem I2.blockM{es:List D}{ws:List V}{js:List Nat}(I:I2 K Y F H σ ρ δ)(r:Reps K F es ws):I2 K ⟨F,H,δ,none⟩ F H (ws.map some++d8 σ js) (es.map .val++capt ρ js) δ:=by
 have vals:∀(i:Nat) c,(es.map Cell.val++capt ρ js)[i]?=some c→(∃e,c=.val e)∨c=.no:=fun i c e=>by
  have m:=List.mem_of_getElem? e;rcases List.mem_append.mp m with m |m
  ·obtain ⟨d,_,rfl⟩:=List.mem_map.mp m;exact .inl ⟨d,rfl⟩
  ·unfold capt at m;obtain ⟨j,_,rfl⟩:=List.mem_map.mp m;unfold y0a;split
   ·exact .inl ⟨_,rfl⟩
   ·exact .inr rfl
 have no:∀i a,¬u6 (es.map .val++capt ρ js) (ws.map some++d8 σ js) i a:=fun i a o=>by
  rcases o.1 with ⟨es,q⟩|⟨C,fs,q⟩|⟨kvs,q⟩
  ·rcases vals i _ q with ⟨d,z⟩|z<;>cases z
  ·rcases vals i _ q with ⟨d,z⟩|z<;>cases z
  ·rcases vals i _ q with ⟨d,z⟩|z<;>cases z
 refine ⟨Ran.refl I.sub I.ran.dk,n0f (fun i c e=>?_) r,by simp[d8,capt,r.length],fun i j a _ o _=>absurd o (no i a),fun i a o=>absurd o (no i a)⟩;unfold capt at e;rw[List.getElem?_map,Option.map_eq_some_iff]at e;obtain ⟨j,ej,rfl⟩:=e;unfold d8;rw[List.getElem?_map,ej];show CellOk K F H H none _ (σ[j]?).join;cases ec:ρ[j]? with
 |none=>trivial
 |some c=>
  have w:=I.env j c ec;cases c with
  |val e=>exact w
  |_=>trivial
end
section
variable{X:Cx}{Y:Y2}{W:XW}{px pos:Pos}{target elt iter:Expr}{ifs:List Expr}{xs:List Str}{js:List Nat}{scope:Scope}{tc:TT2}{te:TE2}{ti:TI2}{tup:Bool}{g:TG}
noncomputable def tcY(K:Frag)(tc:TT2):TT:=fun σ H Q=>∃Y',upT K Y' W0 tc σ H Q
theorem n0e{σ:St}{ρ1:En}{δ1:Dk}{F1 H1:Hp}{J:It}{n:Nat}{ds:List D}{q:List D→Dk→Prop}{Q:Addr→Hp→Prop}(I1:I2 X.K Y F1 H1 σ ρ1 δ1)(src:SrcOk X.K J F1 ds)(h1:compM tup n tc te js ρ1 q ds [] δ1)
 (k:∀D F' H' δ' acc vs,I2 X.K Y F' H' σ ρ1 δ'→Same F1 F'→H' D=some (.lst vs)→F' D=none→Y.H₀ D=none→Off δ' D→(∀j a,u6 ρ1 σ j a→a≠D)→Reps X.K F' acc vs→q acc δ'→Q D H'):
 ∀D,H1 D=none→e0s X.K J tup n (d8 σ js) D (tcY X.K tc) (teY X.K te) H1 fun H2=>Q D H2:=by
 intro D hD;have hF:F1 D=none:=I1.sub.free hD;have h0:=I1.ran.fresh hD;have no:∀j a,u6 ρ1 σ j a→a≠D:=fun j a o=>by
  obtain ⟨u,hu⟩:=I1.ownAddr o;exact l0 hu hD
 have off:Off δ1 D:=fun b es e w=>by
  obtain ⟨_,vs,q2,_⟩:=I1.ran.dk b es e;rw[←w,hD]at q2;cases q2
 have I0:I2 X.K Y F1 (upd H1 D (.lst [])) σ ρ1 δ1:=by
  refine ⟨⟨fun b u e=>by rw[o0 (l0 e hF)];exact I1.sub _ _ e,fun b fs e=>?_,fun b u e f=>by rw[o0 (l0 e h0)];exact I1.ran.keep b u e f,I1.ran.f0,I1.ran.fnew,I1.ran.dto⟩,fun j c e=>?_,I1.len,I1.apart,I1.off⟩
  ·obtain ⟨q1,ws,q2,q3⟩:=I1.ran.dk b fs e;exact ⟨q1,ws,by rw[o0 (Ne.symm (off b fs e))];exact q2,q3⟩
  ·have w:=I1.env j c e;cases c with
   |no=>trivial
   |val d=>exact w
   |own fs=>
    obtain ⟨b,ws,e1,h1,f1,g1,r1⟩:=w;exact ⟨b,ws,e1,by rw[o0 (l0 h1 hD)];exact h1,f1,g1,r1⟩
   |obj C fs=>
    obtain ⟨b,dx,ws,e1,es1,h1,h2,f1,f2,g1,g2,r1⟩:=w;exact ⟨b,dx,ws,e1,es1,by rw[o0 (l0 h1 hD)];exact h1,by rw[o0 (l0 h2 hD)];exact h2,f1,f2,g1,g2,r1⟩
   |ownD fs=>
    obtain ⟨b,ws,e1,h1,f1,g1,r1⟩:=w;exact ⟨b,ws,e1,by rw[o0 (l0 h1 hD)];exact h1,f1,g1,r1⟩
 refine ⟨fun i m ys H2=>∃F2 δ2 acc,I2 X.K Y F2 H2 σ ρ1 δ2∧Same F1 F2∧H2 D=some (.lst ys)∧F2 D=none∧Off δ2 D∧Reps X.K F2 acc ys∧compM tup n tc te js ρ1 q (ds.drop i) acc δ2∧i≤ds.length∧m=ds.length-i,⟨ds.length,F1,δ1,[],I0,Same.refl F1,x3,hF,off,Reps.nil,by simpa using h1,Nat.zero_le _,by simp⟩,?_⟩;rintro i m ys H2 ⟨F2,δ2,acc,I2',s2,hD2,hF2,of2,r2,h2,hi,rfl⟩;refine ⟨hD2,?_⟩;cases e:ds[i]? with
 |none=>
  have hl:ds.length≤i:=List.getElem?_eq_none_iff.mp e;have ei:i=ds.length:=by omega
  subst ei;rw[List.drop_length]at h2;exact .inl ⟨src.stop F2 H2 s2 I2'.sub,k D F2 H2 δ2 acc ys I2' s2 hD2 hF2 h0 of2 no r2 h2⟩
 |some d=>
  have hl:i<ds.length:=(List.getElem?_eq_some_iff.mp e).1;obtain ⟨go,yl⟩:=src.item i d F2 H2 e s2 I2'.sub;refine .inr ⟨go,fun v H3 y=>?_⟩;have hy:=yl v H3 y;obtain ⟨F3,I3,s3,r3,nf3⟩:=I2'.yld hy;have hD3:H3 D=some (.lst ys):=by
   rcases hy with ⟨rfl,_⟩|⟨p,vs,es,hp,rfl,_⟩
   ·exact hD2
   ·rw[o0 (l0 hD2 hp)];exact hD2
  have hF3:F3 D=none:=nf3 D _ hD2 hF2;have ed:ds.drop i=d::ds.drop (i+1):=by rw[List.drop_eq_getElem_cons hl];congr 1;exact (List.getElem?_eq_some_iff.mp e).2
  rw[ed]at h2;unfold compM at h2;split at h2
  ·rename_i es ees;have body:∀ws:List V,Reps X.K F3 es ws→tcY X.K tc (ws.map some++d8 σ js) H3 fun ok H4=>if ok=true then teY X.K te (ws.map some++d8 σ js) H4 fun y H5=>H5 D=some (.lst ys)∧ys.length<sizeLine∧∃m',m'<ds.length-i∧
    ∃F2 δ2 acc,I2 X.K Y F2 (upd H5 D (.lst (ys++[y]))) σ ρ1 δ2∧Same F1 F2∧upd H5 D (.lst (ys++[y])) D=some (.lst (ys++[y]))∧F2 D=none∧Off δ2 D∧Reps X.K F2 acc (ys++[y])∧compM tup n tc te js ρ1 q (ds.drop (i+1)) acc δ2∧i+1≤ds.length∧m'=ds.length-(i+1)
    else ∃m',m'<ds.length-i∧∃F2 δ2 acc,I2 X.K Y F2 H4 σ ρ1 δ2∧Same F1 F2∧H4 D=some (.lst ys)∧F2 D=none∧Off δ2 D∧Reps X.K F2 acc ys∧compM tup n tc te js ρ1 q (ds.drop (i+1)) acc δ2∧i+1≤ds.length∧m'=ds.length-(i+1):=by
    intro ws rw';have kept:∀{F4 H4 δ4},Ran X.K F3 H3 δ2 F4 H4 δ4→H4 D=some (.lst ys)∧F4 D=none∧Off δ4 D:=fun {F4 H4 δ4} R=>by
     refine ⟨R.keep D _ hD3 of2,?_,fun b es e w=>?_⟩
     ·cases z:F4 D with
      |none=>rfl
      |some u=>
       rcases R.fnew D u z with w |w
       ·rw[hF3]at w;cases w
       ·rw[hD3]at w;cases w
     ·cases hd:δ2 with
      |none=>have:=R.dto.2 b es e hd;rw[←w,hD3]at this;cases this
      |some p=>
       obtain ⟨c,gs⟩:=p;obtain ⟨es',z⟩:=R.dto.1 c gs hd;rw[e]at z;cases z;exact of2 b gs hd w
    refine ⟨⟨F3,H3,δ2,none⟩,F3,_,δ2,_,_,I3.blockM rw',h2,fun bb F4 H4 ρ4 δ4 I4 s4 h4=>?_,fun _ _ _ _ _ _ _ _ _ _ _ z=>z⟩;obtain ⟨hD4,hF4,of4⟩:=kept I4.ran;cases bb with
    |false=>
     rw[if_neg Bool.false_ne_true]at h4 ⊢;exact ⟨ds.length-(i+1),by omega,F4,δ4,acc,I3.call I4.ran,(s2.trans s3).trans s4,hD4,hF4,of4,r2.mono (s3.trans s4),h4,hl,rfl⟩
    |true=>
     rw[if_pos rfl]at h4 ⊢;refine ⟨⟨F3,H3,δ2,none⟩,F4,ρ4,δ4,_,_,I4,h4,fun d5 v5 F5 H5 ρ5 δ5 I5 s5 r5 h5=>?_,fun _ _ _ _ _ _ _ _ _ _ _ z=>z⟩;obtain ⟨hD5,hF5,of5⟩:=kept I5.ran;have hlen:acc.length<1000:=h5.1;have s35:Same F3 F5:=s4.trans s5;exact ⟨hD5,by rw[r2.length];exact Nat.lt_of_lt_of_le hlen (by decide),ds.length-(i+1),by omega,F5,δ5,acc++[d5],(I3.call I5.ran).side hF5 h0 of5 ⟨_,hD5⟩ no,(s2.trans s3).trans s35,x3,hF5,of5,(r2.mono (s3.trans s35)).append (Reps.cons r5 Reps.nil),h5.2,hl,rfl⟩
   unfold tgD at ees;split at ees
   ·cases ees;exact body [v] (Reps.cons r3 Reps.nil)
   ·rename_i _ es0;split at ees
    ·rename_i hn;cases ees;obtain ⟨a,vs,rfl,ea,z⟩:=rep_tup.mp r3;exact ⟨a,vs,rfl,SqT.of (I3.sub _ _ ea),by rw[z.length];exact hn,body vs z⟩
    ·cases ees
   ·cases ees
  ·exact h2.elim
structure PIf2(X:Cx)(Y:Y2)(W:XW)(ifs:List Expr)(t:TT2):Prop where
 go:PIfs X ifs (upT X.K Y W t)
noncomputable def x0v:TT2:=fun _ ρ δ q=>q true ρ δ
theorem x6:PIf2 X Y W [] x0v:=⟨fun pins s σ H Q I ⟨F,ρ,δ,x,q,I2',h,k,kx⟩=>b0q pins s σ H Q I (k true F H ρ δ I2' (Same.refl F) h)⟩
theorem e0p{c:Expr}(h:PT2 X Y W c tc):PIf2 X Y W [c] tc:=⟨b0p h.go⟩
variable{i:Nat}{y:Str}{py spos:Pos}
noncomputable def v0y(ti:TI2)(tup:Bool)(n:Nat)(js:List Nat)(tc:TT2)(te:TE2):TE2:=fun x ρ δ q=>ti x ρ δ fun ds ρ1 δ1=>compM tup n tc te js ρ1 (fun acc δ2=>q (.lst acc) ρ1 δ2) ds [] δ1
theorem i0m{n:Nat}{σ:St}{H:Hp}{Q:VK}(h:upE X.K Y W (v0y ti tup n js tc te) σ H Q):e0r X.K (upI2 X.K Y W ti) tup n js (tcY X.K tc) (teY X.K te) σ H Q:=by
 obtain ⟨F,ρ,δ,x,q,I,h,k,kx⟩:=h;refine ⟨F,ρ,δ,x,_,I,h,fun ds J F1 H1 ρ1 δ1 I1 s1 src h1=>n0e (Q:=fun D H2=>Q (.ref D) H2) I1 src h1 fun D F' H' δ' acc vs I' s' hD hF h0 of no r hq=>?_,kx⟩;exact k _ _ _ _ ρ1 δ' (I'.ice hF h0 of hD no) ((s1.trans s').trans (Same.new hF)) (rep_lst.mpr ⟨D,vs,rfl,x3,r.mono (Same.new hF)⟩) hq
variable(hc:X.calm=true)(S:CompOkM X xs js scope)(hi:PI2 X Y W target iter ti)(hg:(xs++js.map (fun j=>X.N.getD j "")).Nodup→∀C s₀ H₀ fp cl,PG (X.compM xs js scope cl C s₀ H₀ fp) target g)(gm:TgM X.K tup xs.length g)
 (ht:∀C s₀ H₀ fp cl Y',PIf2 (X.compM xs js scope cl C s₀ H₀ fp) Y' W0 ifs tc) (he:∀C s₀ H₀ fp cl Y',PE2 (X.compM xs js scope cl C s₀ H₀ fp) Y' W0 elt te)
include hc S hi hg gm ht he
theorem n5(hs:∀v,foldedSetIterable iter X.env v=pure v:=by intro _;rfl):PE2 X Y W (.ListComp elt [⟨target,iter,ifs,0⟩] scope pos) (v0y ti tup xs.length js tc te):=
 pe2 (b0o (tc:=tcY X.K tc) (te:=teY X.K te) hc S hi.go (hg S.nd) gm (fun C s₀ H₀ fp cl pins s σ H Q I ⟨Y',h⟩=>(ht C s₀ H₀ fp cl Y').go pins s σ H Q I h) (fun C s₀ H₀ fp cl pins s σ H Q I ⟨Y',h⟩=>(he C s₀ H₀ fp cl Y').go pins s σ H Q I h) hs) fun σ H Q h=>i0m h
theorem p0i(hN:X.N.Nodup)(hy:X.N[i]?=some y:=by rfl)(hl:Loc X.env.scope y:=by walk_at "v2")
 (hsw:swapsWith (.ListComp elt [⟨target,iter,ifs,0⟩] scope pos) (some (.Name y py)) spos.line X.env=pure true:=by rfl) (hs:∀v,foldedSetIterable iter X.env v=pure v:=by intro _;rfl) (hfn:X.fn y=true∨X.env.scope.names.lookup y=some .local:=by walk_at "v1"):
 PS2 X Y W (.Assign [.Name y py] (.ListComp elt [⟨target,iter,ifs,0⟩] scope pos) spos) (f0i i (v0y ti tup xs.length js tc te)):=
 ps2 (i0q (i:=i) (tc:=tcY X.K tc) (te:=teY X.K te) hc S hi.go (hg S.nd) gm (fun C s₀ H₀ fp cl pins s σ H Q I ⟨Y',h⟩=>(ht C s₀ H₀ fp cl Y').go pins s σ H Q I h) (fun C s₀ H₀ fp cl pins s σ H Q I ⟨Y',h⟩=>(he C s₀ H₀ fp cl Y').go pins s σ H Q I h) hN hy hl hsw hs hfn) fun E1 σ H ⟨F,ρ,δ,E2,I,h,er⟩=>
  i0m ⟨F,ρ,δ,E2.xc,_,I,h,fun d v F' H' ρ' δ' I' s' r' h'=>er.nx _ F' H' _ δ' (I'.put r') s' h',er.xc⟩
omit hc S hi hg gm ht he in
noncomputable def i0l(i:Nat)(ti:TI2)(tup:Bool)(n:Nat)(js:List Nat)(tc:TT2)(te:TE2):TS2:=fun E ρ δ=>ti E.xc ρ δ fun ds ρ1 δ1=>compM tup n tc te js ρ1 (fun acc δ2=>E.nx (ρ1.set i (.own acc)) δ2) ds [] δ1
theorem x1w(hN:X.N.Nodup)(hy:X.N[i]?=some y:=by rfl)(hl:Loc X.env.scope y:=by walk_at "v2")
 (hsw:swapsWith (.ListComp elt [⟨target,iter,ifs,0⟩] scope pos) (some (.Name y py)) spos.line X.env=pure true:=by rfl) (hs:∀v,foldedSetIterable iter X.env v=pure v:=by intro _;rfl) (hfn:X.fn y=true∨X.env.scope.names.lookup y=some .local:=by walk_at "v1"):
 PS2 X Y W (.Assign [.Name y py] (.ListComp elt [⟨target,iter,ifs,0⟩] scope pos) spos) (i0l i ti tup xs.length js tc te):=
 ps2 (i0q (i:=i) (tc:=tcY X.K tc) (te:=teY X.K te) hc S hi.go (hg S.nd) gm (fun C s₀ H₀ fp cl pins s σ H Q I ⟨Y',h⟩=>(ht C s₀ H₀ fp cl Y').go pins s σ H Q I h) (fun C s₀ H₀ fp cl pins s σ H Q I ⟨Y',h⟩=>(he C s₀ H₀ fp cl Y').go pins s σ H Q I h) hN hy hl hsw hs hfn) fun E1 σ H ⟨F,ρ,δ,E2,I,h,er⟩=>
  ⟨F,ρ,δ,E2.xc,_,I,h,fun ds J F1 H1 ρ1 δ1 I1 s1 src h1=>n0e (Q:=fun D H2=>E1.nx (σ.set i (some (.ref D))) H2) I1 src h1 fun D F' H' δ' acc vs I' s' hD hF h0 of no r hq=>
   er.nx _ F' H' _ δ' (I'.take hF h0 of hD no r) (s1.trans s') hq,er.xc⟩
end
end DL
namespace DL
open PySem PySem.Spec L2
open PySem.W (XC)
mutual
noncomputable def lfD:D→Bool
 | .lst _=>false | .scr _=>false | .dic _=>false | .dwk _=>false
 | .tup xs=>lfDs xs
 | .ins _ fs=>lfFs fs | .exc _ fs=>lfFs fs
 |_=>true
noncomputable def lfDs:List D→Bool
 | []=>true
 |d::ds=>lfD d&&lfDs ds
noncomputable def lfFs:List (Str×D)→Bool
 | []=>true
 |(_,d)::ds=>lfD d&&lfFs ds
end
mutual
theorem Rep.lf{K:Frag}{F F':Hp}(s:∀b o,F b=some o→(∀vs,o≠.lst vs)→F' b=some o):∀{d:D} {v:V},lfD d=true→Rep K F d v→Rep K F' d v
 | .non,v,_,h=>by unfold Rep at h ⊢; exact h
 | .bl b,v,_,h=>by unfold Rep at h ⊢; exact h
 | .int i,v,_,h=>by unfold Rep at h ⊢; exact h
 | .str x,v,_,h=>by unfold Rep at h ⊢; exact h
 | .lst ds,v,l,h=>by unfold lfD at l;cases l
 | .tup ds,v,l,h=>by unfold Rep at h ⊢; unfold lfD at l;obtain ⟨a,vs,e,q,r⟩:=h;exact ⟨a,vs,e,s _ _ q (fun vs z=>by cases z),Reps.lf s l r⟩
 | .scr ds,v,l,h=>by unfold lfD at l;cases l
 | .dic ds,v,l,h=>by unfold lfD at l;cases l
 | .dwk ds,v,l,h=>by unfold lfD at l;cases l
 | .ins C fs,v,l,h=>by unfold Rep at h ⊢; unfold lfD at l;obtain ⟨a,dx,vs,e,q,q2,r⟩:=h;exact ⟨a,dx,vs,e,s _ _ q (fun vs z=>by cases z),s _ _ q2 (fun vs z=>by cases z),RepF.lf s l r⟩
 | .exc C fs,v,l,h=>by
  unfold Rep at h ⊢;unfold lfD at l;obtain ⟨a,fr,e,h⟩:=h;refine ⟨a,fr,e,?_⟩;rcases h with ⟨e1,q⟩|⟨d,us,q,q2,r⟩
  ·exact .inl ⟨e1,s _ _ q (fun vs z=>by cases z)⟩
  ·exact .inr ⟨d,us,s _ _ q (fun vs z=>by cases z),s _ _ q2 (fun vs z=>by cases z),RepF.lf s l r⟩
 | .ref a,v,_,h=>by unfold Rep at h ⊢; exact h
 | .ty n,v,_,h=>by unfold Rep at h ⊢; exact h
theorem Reps.lf{K:Frag}{F F':Hp}(s:∀b o,F b=some o→(∀vs,o≠.lst vs)→F' b=some o):∀{ds:List D} {vs:List V},lfDs ds=true→Reps K F ds vs→Reps K F' ds vs
 | [],vs,_,h=>by unfold Reps at h ⊢; exact h
 |d::ds,vs,l,h=>by
  unfold Reps at h ⊢;unfold lfDs at l;rw[Bool.and_eq_true]at l;obtain ⟨v,r,e,q,z⟩:=h;exact ⟨v,r,e,Rep.lf s l.1 q,Reps.lf s l.2 z⟩
theorem RepF.lf{K:Frag}{F F':Hp}(s:∀b o,F b=some o→(∀vs,o≠.lst vs)→F' b=some o):∀{ds:List (Str×D)} {vs:List (Str×V)},lfFs ds=true→RepF K F ds vs→RepF K F' ds vs
 | [],vs,_,h=>by unfold RepF at h ⊢; exact h
 |(x,d)::ds,vs,l,h=>by
  unfold RepF at h ⊢;unfold lfFs at l;rw[Bool.and_eq_true]at l;obtain ⟨v,r,e,q,z⟩:=h;exact ⟨v,r,e,Rep.lf s l.1 q,RepF.lf s l.2 z⟩
end
inductive BA where |v (d:D)|o (i:Nat)
noncomputable def RepB(K:Frag)(F:Hp)(σ:St):BA→V→Prop
 | .v d,v=>Rep K F d v
 | .o i,v=>σ[i]?=some (some v)
inductive RepsB(K:Frag)(F:Hp)(σ:St):List BA→List V→Prop
 |nil:RepsB K F σ [] []
 |cons {b v bs vs}:RepB K F σ b v→RepsB K F σ bs vs→RepsB K F σ (b::bs) (v::vs)
noncomputable abbrev TB2:=XK2→En→Dk→(List BA→En→Dk→Prop)→Prop
noncomputable def upB(K:Frag)(Y:Y2)(W:XW)(t:TB2):TA:=fun σ H Q=>∃F ρ δ x q,I2 K Y F H σ ρ δ∧t x ρ δ q∧(∀bs vs F' H' ρ' δ',I2 K Y F' H' σ ρ' δ'→Same F F'→RepsB K F' σ bs vs→q bs ρ' δ'→Q vs H')∧XR K Y W F x
structure PB2(X:Cx)(Y:Y2)(W:XW)(es:List Expr)(t:TB2):Prop where
 go:PA X es (upB X.K Y W t)
section
variable{X:Cx}{Y:Y2}{W:XW}{e:Expr}{es:List Expr}{te:TE2}{t:TB2}{x:Str}{p pos:Pos}
noncomputable def t2BNil:TB2:=fun _ ρ δ q=>q [] ρ δ
noncomputable def t2BV(te:TE2)(t:TB2):TB2:=fun x ρ δ q=>te x ρ δ fun d ρ1 δ1=>t x ρ1 δ1 fun bs ρ2 δ2=>q (.v d::bs) ρ2 δ2
noncomputable def t2BO(i:Nat)(t:TB2):TB2:=fun x ρ δ q=>hasV ρ i=true∧t x ρ δ fun bs ρ2 δ2=>q (.o i::bs) ρ2 δ2
noncomputable def argB(ρ:En):BA→Option D
 | .v d=>some d
 | .o i=>match ρ[i]? with |some (.own ds)=>some (.lst ds)|some (.val d)=>some d |_=>none
noncomputable def argsB(ρ:En):List BA→Option (List D)
 | []=>some []
 |b::bs=>match argB ρ b,argsB ρ bs with |some d,some ds=>some (d::ds)|_,_=>none
noncomputable def z1v(ρ:En)(σ:St)(b:Addr):Prop:=∃(i:Nat) (ds:List D),ρ[i]?=some (Cell.own ds)∧σ[i]?=some (some (V.ref b))
open Classical in
noncomputable def lend(ρ:En)(σ:St)(F H:Hp):Hp:=fun b=>if z1v ρ σ b then H b else F b
open Classical in
noncomputable def back(ρ:En)(σ:St)(F:Hp):Hp:=fun b=>if z1v ρ σ b then none else F b
section
variable{K:Frag}{F H F' H':Hp}{σ:St}{ρ:En}{δ δ':Dk}
end
noncomputable def x1v(sp:Sp2)(t:TB2):TE2:=fun x ρ δ q=>t x ρ δ fun bs ρ1 δ1=>match argsB ρ1 bs with
 |some ds=>sp ds none (fun d _=>lfD d=true∧q d ρ1 δ1) fun C fs _=>lfFs fs=true∧x C fs ρ1 δ1
 |none=>False
variable{k:Nat}{ps:List Str}{sp:Sp2}
end
end DL
namespace DL
open PySem PySem.Spec L2
open PySem.W (XC)
section
variable{X:Cx}{K:Frag}
noncomputable def s0o:List D→Option (List Int)
 | []=>some []
 | .int i::r=>(s0o r).map (i::·)
 |_=>none
theorem e0o{F:Hp}:∀{ds:List D} {ns:List Int} {vs:List V},s0o ds=some ns→Reps K F ds vs→vs=ns.map V.int
 | [],ns,vs,h,r=>by cases h;rw[reps_nil.mp r];rfl
 |d::ds,ns,vs,h,r=>by
  obtain ⟨v,l,rfl,r1,r2⟩:=reps_cons.mp r;cases d with
  |int b=>
   unfold s0o at h;obtain ⟨cs,e1,rfl⟩:=Option.map_eq_some_iff.mp h;rw[rep_int.mp r1,e0o e1 r2];rfl
  |_=>cases h
theorem t0g:∀ns:List Int,s0o (ns.map D.int)=some ns
 | []=>rfl
 |n::ns=>by rw[List.map_cons];unfold s0o;rw[t0g ns];rfl
noncomputable def fewD(ns:List Int):Prop:=ns.length≤1000∧∀n∈ns,-(2^40)≤n∧n≤2^40
theorem n0d:∀(ns:List Int),(∀n∈ns,-(2^40)≤n∧n≤2^40)→-(2^40*(ns.length:Int))≤ns.sum∧ns.sum≤2^40*(ns.length:Int)
 | [],_=>by simp
 |n::ns,h=>by
  have h1:=n0d ns fun m hm=>h m (List.mem_cons_of_mem _ hm)
  have h2:=h n List.mem_cons_self;rw[List.sum_cons,List.length_cons];omega
theorem b0j{ns:List Int}(h:fewD ns):e0q ns:=fun j hj=>by
 have h1:-(2^40)≤ns.getD j 0∧ns.getD j 0≤2^40:=by
  rw[List.getD_eq_getElem?_getD,List.getElem?_eq_getElem hj];exact h.2 _ (List.getElem_mem hj)
 refine ⟨⟨by omega,by omega⟩,?_⟩;rw[x0r];have h2:=n0d (ns.take (j+1)) fun m hm=>h.2 m (List.mem_of_mem_take hm)
 have h3:(ns.take (j+1)).length≤1000:=Nat.le_trans (by rw[List.length_take];omega) h.1;exact ⟨by omega,by omega⟩
noncomputable def sumF:F1:=fun ds q=>match ds with | [d]=>(match seqD d with |some xs=>(match s0o xs with |some ns=>fewD ns∧q (.int ns.sum)|none=>False)|none=>False)|_=>False
theorem d_sum:w0y K (rSum K) sumF:=by
 intro Y F H σ ρ δ vs ds Q1 q I r h' k;unfold sumF at h';split at h'
 ·split at h'
  ·split at h'
   ·rename_i xs e _ ns en;obtain ⟨v,rfl,r1⟩:=z0f r;obtain ⟨a,us,b,rfl,sq,z⟩:=i0o e r1;exact ⟨b,a,ns,rfl,by rw[←e0o en z];exact I.sub.sq sq,b0j h'.1,k _ _ F H I (Same.refl F) (rep_int.mpr rfl) h'.2⟩
   ·exact h'.elim
  ·exact h'.elim
 ·exact h'.elim
noncomputable def rAddE(K:Frag):R2:=fun x y H Q=>y1o K x y H Q∨rCatA K x y H Q
noncomputable def addG:F2:=fun d1 d2 q=>match d1,d2 with
 | .int i,.int j=>q (.int (i+j))
 | .lst xs,.lst ys=>xs.length+ys.length≤1000∧q (.lst (xs++ys))
 | .tup xs,.tup ys=>xs.length+ys.length≤1000∧q (.tup (xs++ys))
 |_,_=>False
theorem w4:OpR X (binaryOp .Add) (rAddE X.K):=a0e y1n x1y
theorem b4:OpD K (rAddE K) addG:=by
 intro Y F H σ ρ δ x y d1 d2 Q1 q I r1 r2 h' k;unfold addG at h';split at h'
 ·exact .inl (d_add Y F H σ ρ δ x y _ _ Q1 q I r1 r2 h' k)
 ·exact .inl (d_add Y F H σ ρ δ x y _ _ Q1 q I r1 r2 h' k)
 ·rename_i xs ys;have r1':=r1;have r2':=r2;obtain ⟨a,vs,rfl,e1,z1⟩:=rep_tup.mp r1;obtain ⟨b,us,rfl,e2,z2⟩:=rep_tup.mp r2;refine .inr ⟨a,b,vs,us,rfl,rfl,SqT.of (I.sub _ _ e1),SqT.of (I.sub _ _ e2),h0q (by rw[z1.length,z2.length];exact h'.1),fun hv=>?_,fun hv hu=>?_,fun _ _ p hp=>k _ _ _ _ (I.alloc hp) (I.grow hp) (I.tup hp (z1.append z2)) h'.2⟩
  ·have:xs=[]:=List.eq_nil_of_length_eq_zero (by rw[←z1.length,hv];rfl);subst this;exact k _ _ F H I (Same.refl F) r2' h'.2
  ·have:ys=[]:=List.eq_nil_of_length_eq_zero (by rw[←z2.length,hu];rfl);subst this;exact k _ _ F H I (Same.refl F) (by rw[List.append_nil];exact r1') h'.2
 ·exact h'.elim
noncomputable def x1u:FM:=fun ds es q=>match es with | [.int k,e]=>ds.length<1000∧(0≤k∧k≤1000)∧q .non (ds.take (min k.toNat ds.length)++[e]++ds.drop (min k.toNat ds.length))|_=>False
end
section
variable{X:Cx}{Y:Y2}{W:XW}{a:Expr}{ta:TA2}{p p2 pos pos2:Pos}{i:Nat}{x:Str}{pos':Pos}
noncomputable def lrQ(ds:List D)(q:List D→Prop):Prop:=match ds with | [.int n]=>(0≤n∧n≤1000)∧q (rngD 0 n.toNat)|_=>False
noncomputable def t2LR(ta:TA2):TE2:=fun x ρ δ q=>ta x ρ δ fun ds ρ1 δ1=>lrQ ds fun l=>q (.lst l) ρ1 δ1
noncomputable def x1t(i:Nat)(ta:TA2):TS2:=fun E ρ δ=>ta E.xc ρ δ fun ds ρ1 δ1=>lrQ ds fun l=>E.nx (ρ1.set i (.own l)) δ1
end
structure KNo(K:Frag)(C:Addr):Prop where
 n:PySem.W.kitOne K (.type "NoneType") (.ref C)=some false
 b:PySem.W.kitOne K (.type "bool") (.ref C)=some false
 i:PySem.W.kitOne K (.type "int") (.ref C)=some false
 s:PySem.W.kitOne K (.type "str") (.ref C)=some false
 l:PySem.W.kitOne K (.type "list") (.ref C)=some false
 t:PySem.W.kitOne K (.type "tuple") (.ref C)=some false
 d:PySem.W.kitOne K (.type "dict") (.ref C)=some false
theorem x0q{K:Frag}{C:Addr}{d:D}(N:KNo K C)(h:p5 d=true):n0q K d (.ref C)=some false:=by
 cases d with
 |non=>exact N.n
 |bl b=>exact N.b
 |int b=>exact N.i
 |str b=>exact N.s
 |lst b=>exact N.l
 |tup b=>exact N.t
 |dic b=>exact N.d
 |_=>cases h
theorem b0i{K:Frag}{C:Addr}{fs:List (Str×D)}:n0q K (.ins C fs) (.ref C)=some true:=by
 show PySem.W.kitOne K (.ref C) (.ref C)=some true;unfold PySem.W.kitOne;rw[if_pos (by simp)]
theorem t0f{tup:Bool}{n:Nat}{tc:TT2}{te:TE2}{js:List Nat}{ρ:En}{q:List D→Dk→Prop}{ds:List D}{acc:List D}{δ:Dk}(P:Nat→List D→Dk→Prop)(h0:P 0 acc δ)
 (step:∀(i:Nat) (d:D) (acc:List D) (δ:Dk) (rest:List D→Dk→Prop),ds[i]?=some d→P i acc δ→(∀acc' δ',P (i+1) acc' δ'→rest acc' δ')→match tgD tup n d with
  |some es=>tc (fun _ _ _ _=>False) (es.map .val++capt ρ js) δ fun b ρ1 δ1=>if b=true then te (fun _ _ _ _=>False) ρ1 δ1 fun e _ δ2=>acc.length<1000∧rest (acc++[e]) δ2 else rest acc δ1
  |none=>False)
 (fin:∀acc δ,P ds.length acc δ→q acc δ):compM tup n tc te js ρ q ds acc δ:=by
 have key:∀(k i:Nat) (acc:List D) (δ:Dk),i+k=ds.length→P i acc δ→compM tup n tc te js ρ q (ds.drop i) acc δ:=by
  intro k
  induction k with
  |zero=>
   intro i acc δ hi p;rw[List.drop_eq_nil_of_le (by omega)];have:i=ds.length:=by omega
   subst this;exact fin acc δ p
  |succ k ih=>
   intro i acc δ hi p;have hl:i<ds.length:=by omega
   rw[List.drop_eq_getElem_cons hl];have:=step i ds[i] acc δ (compM tup n tc te js ρ q (ds.drop (i+1))) (by simp[hl]) p fun acc' δ' p'=>ih (i+1) acc' δ' (by omega) p'
   unfold compM;exact this
 have:=key ds.length 0 acc δ (by omega) h0
 rwa[List.drop_zero]at this
end DL
namespace L2
open PySem PySem.Spec PyProof.Rows
section
variable{X:Cx}
end
end L2
namespace DL
open PySem PySem.Spec L2
open PySem.W (XC)
section
variable{X:Cx}{K:Frag}
noncomputable def eqDs:List D→List D→Bool
 | [],[]=>true
 |x::xs,y::ys=>eqV (toV x) (toV y)&&eqDs xs ys
 |_,_=>false
noncomputable def eqG:F2:=fun d1 d2 q=>match eqD d1 d2 with
 |some b=>q (.bl b)
 |none=>match d1,d2 with | .tup xs,.tup ys=>(xs.all m6&&ys.all m6)=true∧q (.bl (eqDs xs ys))|_,_=>False
noncomputable def neG:F2:=fun d1 d2 q=>match eqD d1 d2 with
 |some b=>q (.bl (!b))
 |none=>match d1,d2 with | .tup xs,.tup ys=>(xs.all m6&&ys.all m6)=true∧q (.bl (!eqDs xs ys))|_,_=>False
noncomputable def cutD(xs:List D)(lo hi:Option Int):List D:=(xs.drop (HT.sIx xs.length 0 lo)).take (HT.sIx xs.length xs.length hi-HT.sIx xs.length 0 lo)
noncomputable abbrev TO2:=XK2→En→Dk→(Option Int→En→Dk→Prop)→Prop
variable{Y:Y2}{W:XW}{e lo hi:Expr}{te tl th:TE2}{pos p2:Pos}
noncomputable def upO(K:Frag)(Y:Y2)(W:XW)(t:TO2):TO:=fun σ H Q=>∃F ρ δ x q,I2 K Y F H σ ρ δ∧t x ρ δ q∧(∀o F' H' ρ' δ',I2 K Y F' H' σ ρ' δ'→Same F F'→q o ρ' δ'→Q o H')∧XR K Y W F x
structure PO2(X:Cx)(Y:Y2)(W:XW)(e:Option Expr)(t:TO2):Prop where
 go:PO X e (upO X.K Y W t)
noncomputable def t2ON:TO2:=fun _ ρ δ q=>q none ρ δ
noncomputable def t2OI(te:TE2):TO2:=fun x ρ δ q=>te x ρ δ fun d ρ1 δ1=>match d with | .int i=>q (some i) ρ1 δ1 |_=>False
noncomputable def slF(d:D)(l u:Option Int)(q:D→Prop):Prop:=match d with
 | .lst xs=>q (.lst (cutD xs l u))
 | .tup xs=>¬(HT.sIx xs.length 0 l=0∧HT.sIx xs.length xs.length u=xs.length)∧q (.tup (cutD xs l u))
 |_=>False
noncomputable def t2Sl(te:TE2)(tl th:TO2):TE2:=fun x ρ δ q=>te x ρ δ fun d ρ1 δ1=>tl x ρ1 δ1 fun l ρ2 δ2=>th x ρ2 δ2 fun u ρ3 δ3=>slF d l u fun e=>q e ρ3 δ3
end
theorem p0h{te:TE2}{js:List Nat}{ρ:En}{q:List D→Dk→Prop}:∀(ds acc:List D) (δ:Dk),compM false 1 x0v te js ρ q ds acc δ=r8 te js ρ q ds acc δ
 | [],acc,δ=>rfl
 |d::ds,acc,δ=>by
  show (te (fun _ _ _ _=>False) (.val d::capt ρ js) δ fun e _ δ2=>acc.length<1000∧compM false 1 x0v te js ρ q ds (acc++[e]) δ2)=te (fun _ _ _ _=>False) (.val d::capt ρ js) δ fun e _ δ1=>acc.length<1000∧r8 te js ρ q ds (acc++[e]) δ1
  congr 1;funext e ρ1 δ1;rw[p0h ds (acc++[e]) δ1]
end DL
namespace L2
open PySem PySem.Spec PyProof.Rows PySem.W PySem.SeqAt
open AutoSeq1 (wpAny_loadPart')
open MeetsSeq MeetsSeq2 MeetsSeq3 SeqRoads2
noncomputable def x1s(xs:Array Value):Prop:=∀v∈xs.toList,∃i t,v=Value.int i t
theorem k0w{prog:Program}{w:World}{A:Around}{E:Value→Shared→Prop}{s:Shared}{a b:Int}{t u:Tok}{Q:Value→Shared→Prop}(h:∀c,Q (.bool c) s):wpAny (model prog w) A (richCompare .Lt (.int a t) (.int b u)) Q E s:=by
 have:=PyProof.Rows.lt_int (prog:=prog) (w:=w) (A:=A) (E:=E) (s:=s) (a:=a) (b:=b) (t:=t) (u:=u) (Q:=Q) (h _);exact this
theorem h0k(l b:Addr)(items items2:Array Value)(n n2:Nat)(dd dd2:Option Addr)(sl sl2:Array (Option Value))(i1:x1s items)(i2:x1s items2):
 Meets (Builtin.«tuple.__lt__» ⟨[.ref l,.ref b],[]⟩)
  (fun A R s=>s.heap.get? l=some {cls:=.type "tuple",dict:=dd,data:=.seq items n,slots:=sl}∧s.heap.get? b=some {cls:=.type "tuple",dict:=dd2,data:=.seq items2 n2,slots:=sl2}∧
   ∀c,R (.ok (.ret (.bool c))) s):=
 .of_wp fun prog w A R s h=>by
  obtain ⟨hp,g,d,tk,os⟩:=s;obtain ⟨hl,hb,h⟩:=h;have f2:=AutoSeq1.sub_tuple_tuple
  wp_walk using wpAny_loadPart' hl,wpAny_loadPart' hb,wpAny_forIn_list _ (fun rest b s'=>b.1=none∧s'=⟨hp,g,d,tk,os⟩∧∀p∈rest,p∈items.toList.zip items2.toList) _
  case turn=>
   rintro ⟨y,x⟩ rest b s' ⟨hb',rfl,hz⟩;have hm:=hz _ List.mem_cons_self;obtain ⟨a,t,rfl⟩:=i1 y (List.of_mem_zip hm).1;obtain ⟨c,u,rfl⟩:=i2 x (List.of_mem_zip hm).2;refine wpAny_bind (SeqAt.EqAt.int_int a t c u prog w _ _ ?_);cases hy:(a==c)with
   |true=>
    wp_walk
    exact ⟨rfl,rfl,fun p hp=>hz p (List.mem_cons_of_mem _ hp)⟩
   |false=>
    wp_walk using k0w
    intro c
    wp_walk
    exact ⟨_,rfl,h _⟩
  case fin=>
   rintro ⟨b1,b2⟩ s' ⟨hb',rfl,hz⟩;simp only at hb';subst hb'
   wp_walk
   exact ⟨_,rfl,h _⟩
  case h=>
   exact ⟨rfl,rfl,fun p hp=>hp⟩
noncomputable def TupI(h:Heap)(v:Value):Prop:=∃a dd items n sl,v=.ref a∧h.get? a=some {cls:=.type "tuple",dict:=dd,data:=.seq items n,slots:=sl}∧x1s items
theorem TupI.keep{h h':Heap}{v:Value}(k:∀b o,h.get? b=some o→h'.get? b=some o)(t:TupI h v):TupI h' v:=by
 obtain ⟨a,dd,items,n,sl,rfl,e,i⟩:=t;exact ⟨a,dd,items,n,sl,rfl,k _ _ e,i⟩
section
variable{prog:Program}{w:World}{A:Around}{E:Value→Shared→Prop}{s:Shared}
theorem e0n{x y:Value}{Q:Bool→Shared→Prop}(hu:A.units<cLine)(tx:TupI s.heap x)(ty:TupI s.heap y)(h:∀c,Q c s):wpAny (model prog w) A (keyLt' oneType' x y) Q E s:=by
 obtain ⟨a,dd,items,n,sl,rfl,ea,ia⟩:=tx;obtain ⟨b,dd2,items2,n2,sl2,rfl,eb,ib⟩:=ty;rw[keyLt'_oneType,oneLt'_eq];simp only[if_true];refine wpAny_bind (wpAny_cRoomFor hu ?_);exact wpAny_bind (wpAny_callSpecialIfBound?_slot (T:="tuple") ⟨_,ea,rfl⟩ PySem.F.slot_tuple_lt (call_meets PySem.F.slot_tuple_lt ⟨_,ea,rfl⟩ PySem.F.entry_tuple_lt (PySem.F.args_tuple_lt_2 _ _) (h0k a b items items2 n n2 dd dd2 sl sl2 ia ib) ⟨ea,eb,fun c=>wpAny_truthy_bool (h c)⟩))
theorem b0h{vs:List Value}{v1:Value}{Q:SortKind→Shared→Prop}(h2:2≤vs.length)(ht:∀v∈vs,TupI s.heap v)(h1:vs[0]?=some v1)(he:∃a dd n sl,v1=.ref a∧s.heap.get? a=some {cls:=.type "tuple",dict:=dd,data:=.seq #[] n,slots:=sl})(h:Q oneType' s):
 wpAny (model prog w) A (keyKind' vs.toArray) Q E s:=by
 have hT:∀v∈vs,s.TypeIs v "tuple":=fun v hv=>by
  obtain ⟨a,dd,items,n,sl,rfl,e,i⟩:=ht v hv;exact ⟨_,e,rfl⟩
 have first:∀(l:List Value),(∀v∈l,TupI s.heap v)→∀{Q':List (Option Value)→Shared→Prop},(∀r:List (Option Value),r.length=l.length→(∀v,l[0]?=some v→(∃a dd n sl,v=.ref a∧s.heap.get? a=some {cls:=.type "tuple",dict:=dd,data:=.seq #[] n,slots:=sl})→r[0]?=some none)→Q' r s)→wpAny (model prog w) A (l.mapM firstOfTuple') Q' E s:=by
  intro l
  induction l with
  |nil=>intro _ Q' hq;rw[List.mapM_nil];exact wpAny_pure (hq [] rfl fun v e=>by cases e)
  |cons x l ih=>
   intro hl Q' hq;rw[List.mapM_cons];obtain ⟨a,dd,items,n,sl,rfl,e,i⟩:=hl x List.mem_cons_self;rw[kas_first_eq];refine wpAny_bind (wpAny_bind (wpAny_typeOf (T:="tuple") ⟨_,e,rfl⟩ ?_));rw[if_neg (by decide)];refine wpAny_bind (listItems_at e rfl ?_);refine wpAny_pure (wpAny_bind (ih (fun v hv=>hl v (List.mem_cons_of_mem _ hv)) fun r hr _=>wpAny_pure (hq _ (by simp[hr]) fun v ev hv=>?_)));cases ev;obtain ⟨a',dd',n',sl',e',g⟩:=hv;cases e';rw[e]at g;cases g;rfl
 have types:∀(l:List Value),(∀v∈l,s.TypeIs v "tuple")→∀{Q':List Value→Shared→Prop},Q' (l.map fun _=>Value.type "tuple") s→wpAny (model prog w) A (l.mapM typeOf) Q' E s:=by
  intro l
  induction l with
  |nil=>intro _ Q' hq;rw[List.mapM_nil];exact wpAny_pure hq
  |cons x l ih=>
   intro hl Q' hq;rw[List.mapM_cons];exact wpAny_bind (wpAny_typeOf (hl x List.mem_cons_self) (wpAny_bind (ih (fun v hv=>hl v (List.mem_cons_of_mem _ hv)) (wpAny_pure hq))))
 rw[keyKind'_eq,List.mapM_toArray,map_eq_pure_bind];refine wpAny_bind (wpAny_bind (first vs ht fun r hr h0=>wpAny_pure ?_));have e0:=h0 v1 h1 he;have hn:r.toArray.all (·.isSome)=false:=by
  rw[Bool.eq_false_iff];intro z;rw[List.all_toArray,List.all_eq_true]at z;have:=z none (List.mem_of_getElem? e0);cases this
 have hb:(r.toArray[0]?.bind id).isSome=false:=by rw[List.getElem?_toArray,e0];rfl
 rw[hn,hb];simp only[Bool.false_eq_true,if_false];rw[oneTypeOnly'_eq,List.mapM_toArray,map_eq_pure_bind];refine wpAny_bind (wpAny_bind (wpAny_bind (types vs hT (wpAny_pure ?_))));have hall:((vs.map fun _=>Value.type "tuple").toArray.all fun x=>x==Value.type "tuple")=true:=by
  rw[List.all_toArray,List.all_eq_true];intro x hx;obtain ⟨_,_,rfl⟩:=List.mem_map.mp hx;decide
 have hz:(vs.map fun _=>Value.type "tuple").toArray[0]?=some (Value.type "tuple"):=by rw[List.getElem?_toArray,List.getElem?_map,h1];rfl
 rw[hz];simp only[hall,if_true];exact wpAny_pure (wpAny_pure h)
end
noncomputable def KasAll{α:Type}(B:Nat)(P:α→Prop):KasT α→Prop
 | .ret a=>P a
 | .ask i j k=>i<B∧j<B∧∀b,KasAll B P (k b)
section
variable{B:Nat}
theorem KasAll.bind{α β:Type}{P:α→Prop}{R:β→Prop}{f:α→KasT β}:∀(t:KasT α),KasAll B P t→(∀a,P a→KasAll B R (f a))→KasAll B R (t.bind f)
 | .ret a,h,k=>k a h
 | .ask i j g,h,k=>⟨h.1,h.2.1,fun b=>KasAll.bind (g b) (h.2.2 b) k⟩
theorem KasAll.wp{α:Type}{P:α→Prop}{cmp:Nat→Nat→(Bool→Shared→Prop)→Shared→Prop}{s:Shared}(hc:∀i j C,i<B→j<B→(∀b,C b s)→cmp i j C s):∀(t:KasT α),KasAll B P t→t.kasWp cmp (fun a s'=>P a∧s'=s) s
 | .ret a,h=>⟨h,rfl⟩
 | .ask i j g,h=>hc _ _ _ h.1 h.2.1 fun b=>KasAll.wp hc (g b) (h.2.2 b)
noncomputable def GoodP(B:Nat)(p:Array Nat):Prop:=p.Perm (List.toArray (List.range B))
theorem GoodP.lt{p:Array Nat}(hB:0<B)(h:GoodP B p)(n:Nat):p.getD n 0<B:=by
 by_cases z:n<p.size
 ·have e:p.getD n 0=p[n]:=by simp[Array.getD,z]
  rw[e];have:p[n]∈List.toArray (List.range B):=h.mem_iff.mp (Array.getElem_mem z);simpa using this
 ·have e:p.getD n 0=0:=by simp[Array.getD,z]
  rw[e];exact hB
theorem GoodP.rev{p:Array Nat}(h:GoodP B p)(i j:Nat):GoodP B (kas_rev p i j):=(mirror_perm _ _ _ _).trans h
theorem k0v{p:Array Nat}(hB:0<B)(h:GoodP B p):∀(f n:Nat),KasAll B (fun _=>True) (kas_asc p f n)
 | 0,n=>trivial
 |f+1,n=>⟨h.lt hB _,h.lt hB _,fun c=>by
  dsimp only;split
  ·exact trivial
  ·exact k0v hB h f _⟩
theorem s0n{p:Array Nat}(hB:0<B)(h:GoodP B p)(k:Nat):∀(f l r:Nat),KasAll B (fun _=>True) (kas_place p k f l r)
 | 0,l,r=>trivial
 |f+1,l,r=>by
  unfold kas_place;split
  ·exact trivial
  ·refine ⟨h.lt hB _,h.lt hB _,fun c=>?_⟩;dsimp only;split
   ·exact s0n hB h k f _ _
   ·exact s0n hB h k f _ _
theorem t0e(hB:0<B):∀(f:Nat) (p:Array Nat) (n q:Nat),GoodP B p→KasAll B (fun r=>GoodP B r.1) (kas_desc f p n q)
 | 0,p,n,q,h=>h
 |f+1,p,n,q,h=>⟨h.lt hB _,h.lt hB _,fun c=>by
  cases c with
  |true=>
   show KasAll B _ (if true=true then (if q>0 then _ else _)else _);rw[if_pos rfl];split
   ·exact t0e hB f _ _ _ (h.rev _ _)
   ·exact t0e hB f _ _ _ h
  |false=>
   show KasAll B _ (if false=true then _ else _);rw[if_neg (by decide)];refine ⟨h.lt hB _,h.lt hB _,fun d=>?_⟩;dsimp only;split
   ·exact h
   ·exact t0e hB f _ _ _ h⟩
theorem e0m(hB:0<B):∀(f:Nat) (p:Array Nat) (k:Nat),GoodP B p→KasAll B (GoodP B) (kas_bin f p k)
 | 0,p,_,h=>h
 |f+1,p,k,h=>KasAll.bind _ (s0n hB h _ _ _ _) fun l _=>e0m hB f _ _ ((bubble_perm _ _ _).trans h)
theorem i0k(hB:0<B){p:Array Nat}(h:GoodP B p)(n m:Nat):KasAll B (fun r=>GoodP B r.2) (kas_tail3 n m p):=KasAll.bind _ (k0v hB (h.rev _ _) _ _) fun _ _=>h.rev _ _
theorem i0j(hB:0<B){p:Array Nat}(h:GoodP B p)(n m:Nat):KasAll B (fun r=>GoodP B r.2) (kas_descPart n m p):=KasAll.bind _ (t0e hB _ _ _ _ h) fun r g=>by
 split
 ·exact i0k hB (g.rev _ _) _ _
 ·exact i0k hB g _ _
theorem e0l(hB:0<B){p:Array Nat}(h:GoodP B p)(m:Nat):KasAll B (fun r=>GoodP B r.2) (kas_count m p):=KasAll.bind _ (k0v hB h _ _) fun n _=>by
 split
 ·exact h
 ·split
  ·refine ⟨h.lt hB _,h.lt hB _,fun c=>?_⟩;dsimp only;split
   ·exact h
   ·exact i0j hB (h.rev _ _) _ _
  ·exact i0j hB h _ _
theorem b0g(hB:0<B):KasAll B (GoodP B) (kas_sort B):=KasAll.bind _ (e0l hB (Array.Perm.refl _) _) fun r h=>by
 split
 ·exact e0m hB _ _ _ h
 ·exact h
end
section
variable{prog:Program}{w:World}{A:Around}{E:Value→Shared→Prop}{s:Shared}
noncomputable def EmpT(h:Heap)(v:Value):Prop:=∃a dd n sl,v=.ref a∧h.get? a=some {cls:=.type "tuple",dict:=dd,data:=.seq #[] n,slots:=sl}
theorem e0k{vs:List Value}{p:Array Nat}(h:GoodP vs.length p):(p.toList.map fun i=>vs.getD i Value.none).Perm vs:=by
 have h1:(p.toList.map fun i=>vs.getD i Value.none).Perm ((List.range vs.length).map fun i=>vs.getD i Value.none):=(h.toList.trans (by simp)).map _;refine h1.trans (List.Perm.of_eq ?_);apply List.ext_getElem
 ·simp
 ·intro i h1 h2;simp[h2]
theorem p0g{a:Addr}{vs:List Value}{n:Nat}{P:PySem.Fin→Shared→Prop}(hu:A.units<cLine)(ho:s.heap.get? a=some (seqObj "list" vs.toArray n))(ht:∀v∈vs,TupI s.heap v)(h0:∀v1,vs[0]?=some v1→EmpT s.heap v1)(h64:vs.length<64)
 (h:∀vs':List Value,vs'.Perm vs→P (.done (.ret .none)) {s with heap:=sortedHeap s.heap a vs vs'.toArray}):wpAny (model prog w) A (Builtin.«list.sort» ⟨[.ref a],[]⟩) P E s:=by
 have ha:a<s.heap.objs.size:=Heap.lt_size ho;obtain ⟨e1,ho1⟩:∃e1,(s.heap.update a (Obj.mapSeq fun _=>(#[]:Array Value))).get? a=some (seqObj "list" #[] e1):=⟨_,get?_update_seq ho fun _=>#[]⟩;have ho6:(((s.heap.update a (Obj.mapSeq fun _=>#[])).push (seqObj "tuple" vs.toArray 0)).push (seqObj "list" #[] 0)).get? a=some (seqObj "list" #[] e1):=Heap.get?_push_of_some _ (Heap.get?_push_of_some _ ho1);have kp:∀b o,b≠a→s.heap.get? b=some o→(((s.heap.update a (Obj.mapSeq fun _=>#[])).push (seqObj "tuple" vs.toArray 0)).push (seqObj "list" #[] 0)).get? b=some o:=fun b o nb e=>
  Heap.get?_push_of_some _ (Heap.get?_push_of_some _ (by rw[Heap.get?_update_ne _ _ _ _ nb];exact e))
 have nt:∀b dd items n sl,s.heap.get? b=some {cls:=.type "tuple",dict:=dd,data:=.seq items n,slots:=sl}→b≠a:=fun b dd items n sl e z=>by
  rw[z,ho]at e;have:=congrArg (fun o=>o.map Obj.cls) e;simp[seqObj]at this
 have ht6:∀v∈vs,TupI (((s.heap.update a (Obj.mapSeq fun _=>#[])).push (seqObj "tuple" vs.toArray 0)).push (seqObj "list" #[] 0)) v:=fun v hv=>by
  obtain ⟨b,dd,items,n,sl,rfl,e,i⟩:=ht v hv;exact ⟨b,dd,items,n,sl,rfl,kp _ _ (nt _ _ _ _ _ e) e,i⟩
 rw[list_sort_plain];refine wpAny_bind (listItems_at ho rfl ?_);refine wpAny_bind (listUpdate_at ho rfl ?_ (by rw[List.size_toArray,sizeLine_eq];omega) (Nat.zero_le _));refine wpAny_bind (seqEpoch_at ho1 rfl ?_);refine wpAny_bind (wpAny_newTuple ?_ (by show vs.length≤_;rw[sizeLine_eq];omega));refine wpAny_bind (wpAny_newList ?_ (Nat.zero_le _));refine wpAny_holding ?_;show wpAny (model prog w) A _ P E {s with heap:=((s.heap.update a (Obj.mapSeq fun _=>(#[]:Array Value))).push (seqObj "tuple" vs.toArray 0)).push (seqObj "list" #[] 0)};dsimp only;by_cases h2:vs.toArray.size<2
 ·rw[if_pos h2,if_pos h2];refine wpAny_bind (wpAny_pure ?_);rw[StateT.run_pure];refine wpAny_bind (wpAny_pure ?_);dsimp only;refine wpAny_bind (seqEpoch_at ho6 rfl ?_);refine wpAny_bind (listUpdate_at ho6 rfl ?_ (Nat.zero_le _) (by rw[Array.size_map];show (pairsOf vs).size≤_;rw[pairsOf_size,sizeLine_eq];omega));simp only[bne_self_eq_false,Bool.false_eq_true,if_false];have e:(arrOf (SortSt.mk' general' (vs.toArray.zip vs.toArray) #[] 7 none)).map (·.2)=vs.toArray:=by
   show (vs.toArray.zip vs.toArray).map (·.2)=_;apply Array.toList_inj.mp;simp;exact List.map_snd_zip (Nat.le_refl _)
  refine wpAny_pure ?_;have:=h vs (List.Perm.refl _);rw[←e]at this;exact this
 ·rw[if_neg h2,if_neg h2];have hs2:2≤vs.length:=by rw[List.size_toArray]at h2;omega
  obtain ⟨v1,r1,rfl⟩:∃v1 r1,vs=v1::r1:=by
   cases vs with
   |nil=>simp at hs2
   |cons x y=>exact ⟨x,y,rfl⟩
  obtain ⟨b,dd,n0,sl,eb,eb2⟩:=h0 v1 rfl;refine wpAny_bind (b0h hs2 ht6 (v1:=v1) rfl ⟨b,dd,n0,sl,eb,kp _ _ (nt _ _ _ _ _ eb2) eb2⟩ ?_);refine wpAny_bind (wpAny_mono (kat_run (Q:=fun st' s'=>∃p:Array Nat,arrOf st'=p.map (kas_item ((v1::r1).toArray.zip (v1::r1).toArray))∧failedOf st'=none∧GoodP (v1::r1).length p∧s'=_)
   (G:=fun p s'=>GoodP (v1::r1).length p∧s'=_) rfl hs2 h64 (fun p' st' s' a1 a2 a3 a4=>⟨p',a2,a3,a4.1,a4.2⟩) (KasAll.wp (fun i j C hi hj hC=>?_) _ (b0g (by omega)))) ?_ fun _ _ e=>e)
  ·have gi:∀i,i<(v1::r1).length→(v1::r1).getD i Value.none∈v1::r1:=fun i hi=>by
    rw[List.getD_eq_getElem?_getD,List.getElem?_eq_getElem hi];exact List.getElem_mem hi
   exact e0n hu (ht6 _ (gi i hi)) (ht6 _ (gi j hj)) hC
  rintro ⟨⟨⟩,st'⟩ s' ⟨p,har,hf,hp,rfl⟩;dsimp only;have hout:=kat_snds (ks:=v1::r1) (vs:=v1::r1) rfl har;have pp:=e0k hp;refine wpAny_bind (seqEpoch_at ho6 rfl ?_);rw[hout];refine wpAny_bind (listUpdate_at ho6 rfl ?_ (Nat.zero_le _) (by rw[List.size_toArray,pp.length_eq,sizeLine_eq];omega));rw[hf];simp only[bne_self_eq_false,Bool.false_eq_true,if_false];exact wpAny_pure (h _ pp)
theorem h0j{l:Addr}{vs:List Value}{Q:Value→Shared→Prop}(hu:A.in1.in1.units<cLine)(hl:s.heap.IsList l vs.toArray)(ht:∀v∈vs,TupI s.heap v)(h0:∀v1,vs[0]?=some v1→EmpT s.heap v1)(h64:vs.length<64)
 (h:∀vs':List Value,vs'.Perm vs→Q (.ref (s.heap.objs.size+1)) {s with heap:=sortedAll s.heap vs vs'.toArray}):wpAny (model prog w) A (call (.builtin "sorted") [.ref l]) Q E s:=by
 refine Calls.call_function_entry kind_sorted plain_sorted entry_sorted (args_sorted1 _) ?_;unfold Builtin.«sorted»;refine wpAny_bind (m:=checkCount "sorted" 1 1 _) (wpAny_pure ?_);refine wpAny_bind (collect_list hl ?_ (by rw[sizeLine_eq];omega));refine wpAny_bind (wpAny_newList ?_ (by rw[sizeLine_eq];omega));have hsz:((s.heap.push (seqObj "list" #[] 0)).update s.heap.objs.size (Obj.mapSeq (·++vs.toArray))).objs.size=s.heap.objs.size+1:=by
  rw[Heap.size_update,size_push']
 have hoL:(((s.heap.push (seqObj "list" #[] 0)).update s.heap.objs.size (Obj.mapSeq (·++vs.toArray))).push (seqObj "list" vs.toArray 0)).get? (s.heap.objs.size+1)=some (seqObj "list" vs.toArray 0):=by
  rw[←hsz];exact Heap.get?_push_size _ rfl
 have keep:∀b o,s.heap.get? b=some o→(((s.heap.push (seqObj "list" #[] 0)).update s.heap.objs.size (Obj.mapSeq (·++vs.toArray))).push (seqObj "list" vs.toArray 0)).get? b=some o:=fun b o q=>by
  have hlt:b<s.heap.objs.size:=Heap.lt_size q;rw[Heap.get?_push_ne _ _ _ (by rw[hsz];exact Nat.ne_of_lt (Nat.lt_succ_of_lt hlt)),Heap.get?_update_ne _ _ _ _ (Nat.ne_of_lt hlt),Heap.get?_push_ne _ _ _ (Nat.ne_of_lt hlt)];exact q
 show wpAny _ _ _ _ _ {s with heap:=((s.heap.push (seqObj "list" #[] 0)).update s.heap.objs.size (Obj.mapSeq (·++vs.toArray))).push (seqObj "list" vs.toArray 0)};rw[hsz];refine wpAny_bind (wpAny_holding (wpAny_call_entry slot_list_sort ⟨_,hoL,rfl⟩ entry_list_sort (p0g hu hoL (fun v hv=>(ht v hv).keep keep) (fun v1 e=>?_) h64 fun vs' hp=>⟨_,rfl,?_⟩) (args_list_sort _)))
 ·obtain ⟨a,dd,n,sl,rfl,g⟩:=h0 v1 e;exact ⟨a,dd,n,sl,rfl,keep _ _ g⟩
 ·exact wpAny_pure ⟨_,rfl,h vs' hp⟩
end
end L2
namespace L2
open PySem PySem.Spec PyProof.Rows PySem.W
theorem k0u{α β:Type}{R:α→β→Prop}{us us':List β}(p:us'.Perm us):∀{xs:List α},Paired R xs us→∃ys:List α,ys.Perm xs∧Paired R ys us':=by
 induction p with
 |nil=>intro xs h;exact ⟨xs,.refl _,h⟩
 |cons x p ih=>
  intro xs h;cases h with
  |cons r t=>
   obtain ⟨ys,py,hy⟩:=ih t;exact ⟨_::ys,py.cons _,.cons r hy⟩
 |swap x y l=>
  intro xs h;cases h with
  |cons r t=>
   cases t with
   |cons r2 t2=>exact ⟨_,.swap _ _ _,.cons r2 (.cons r t2)⟩
 |trans p1 p2 ih1 ih2=>
  intro xs h;obtain ⟨ys,py,hy⟩:=ih2 h;obtain ⟨zs,pz,hz⟩:=ih1 hy;exact ⟨zs,pz.trans py,hz⟩
theorem e0j{ns:List Int}:∀{us:List Value},Vals (ns.map V.int) us→∀w∈us,∃i t,w=Value.int i t:=by
 induction ns with
 |nil=>intro us r w hw;rw[List.map_nil]at r;cases r;cases hw
 |cons n ns ih=>
  intro us r w hw;rw[List.map_cons]at r;cases r with
  |cons r1 r2=>
   rcases List.mem_cons.mp hw with rfl |hw
   ·obtain ⟨t,e⟩:=r1;exact ⟨n,t,e⟩
   ·exact ih r2 w hw
section
variable{X:Cx}
noncomputable def rSort(K:PySem.W.Frag):List V→Hp→VK→Prop:=fun vs H Q=>∃a xs,vs=[.ref a]∧SqL K H a xs∧xs.length<64∧(∀v∈xs,∃p ns,v=.ref p∧SqT K H p (List.map V.int ns))∧(∀v,xs[0]?=some v→∃p,v=.ref p∧SqT K H p [])∧
 ∀ys:List V,ys.Perm xs→∀l,H l=none→Q (.ref l) (upd H l (.lst ys))
theorem k0t(hu:X.A.units+2<cLine):y0c X (.builtin "sorted") (rSort X.K):=by
 intro pins s σ H xs us Q I rv h;obtain ⟨a,ys,rfl,hq,h64,ht,h0,q⟩:=h;obtain ⟨u,rfl,ru⟩:=rv.one;cases (show u=Value.ref a from ru);obtain ⟨its,r,pl,hz⟩:=I.list hq;have hlen:=r.length;have tup:∀v∈its,TupI s.heap v:=fun v hv=>by
  obtain ⟨i,hi,e⟩:=List.mem_iff_getElem.mp hv;have hi2:i<ys.length:=by omega
  obtain ⟨u,hu',rr⟩:=r.get (List.getElem?_eq_getElem hi2);rw[List.getElem?_eq_getElem hi]at hu';cases hu';obtain ⟨p,ns,e1,hs⟩:=ht _ (List.getElem_mem hi2);rw[e1]at rr;obtain ⟨its2,r2,⟨⟨cls,dd,data,sl⟩,ho,hc,n,hd⟩,_⟩:=I.tuple hs;simp only at hc hd;subst hc hd;refine ⟨p,dd,its2.toArray,n,sl,by rw[←e];exact rr,ho,fun w hw=>?_⟩;exact e0j r2 w (by simpa using hw)
 refine h0j (by show X.A.units+1+1<cLine;omega) pl.isList tup (fun v1 e1=>?_) (by omega) (fun vs' hp=>?_)
 ·have hi2:0<ys.length:=by have:=(List.getElem?_eq_some_iff.mp e1).1;omega
  obtain ⟨u,hu',rr⟩:=r.get (List.getElem?_eq_getElem hi2);rw[e1]at hu';cases hu';obtain ⟨p,e2,hs⟩:=h0 _ (List.getElem?_eq_getElem hi2);rw[e2]at rr;obtain ⟨its2,r2,⟨⟨cls,dd,data,sl⟩,ho,hc,n,hd⟩,_⟩:=I.tuple hs;simp only at hc hd;subst hc hd;have hn:its2=[]:=r2.nil_iff.mpr rfl;subst hn;exact ⟨p,dd,n,sl,rr,ho⟩
 ·obtain ⟨zs,pz,hzs⟩:=k0u hp r;obtain ⟨e,he⟩:=sortedAll_at s.heap its vs'.toArray;exact ⟨.ref (s.heap.objs.size+1),_,I.laid (t':=s.toks) (fun _ _=>sortedAll_old) (Nat.le_succ _) (show ObjOk X.prog X.w _ _ _ (.lst zs)from ⟨by rw[pz.length_eq];exact hz,vs',e,hzs,he⟩),rfl,q zs pz _ (I.hok.fresh (Nat.le_succ _))⟩
end
end L2
namespace DL
open PySem PySem.Spec L2
theorem e0i{K:PySem.W.Frag}{F:Hp}{us us':List V}(p:us'.Perm us):∀{ds:List D},Reps K F ds us→∃es:List D,es.Perm ds∧Reps K F es us':=by
 induction p with
 |nil=>intro ds h;exact ⟨ds,.refl _,h⟩
 |cons x p ih=>
  intro ds h;cases ds with
  |nil=>cases reps_nil.mp h
  |cons d ds=>
   obtain ⟨v,r,e,r1,t⟩:=reps_cons.mp h;cases e;obtain ⟨es,pe,he⟩:=ih t;exact ⟨_::es,pe.cons _,.cons r1 he⟩
 |swap x y l=>
  intro ds h;cases ds with
  |nil=>cases reps_nil.mp h
  |cons d ds=>
   obtain ⟨v,r,e,r1,t⟩:=reps_cons.mp h;cases e;cases ds with
   |nil=>cases reps_nil.mp t
   |cons d2 ds=>
    obtain ⟨v,r,e,r2,t⟩:=reps_cons.mp t;cases e;exact ⟨_,.swap _ _ _,.cons r2 (.cons r1 t)⟩
 |trans p1 p2 ih1 ih2=>
  intro ds h;obtain ⟨ys,py,hy⟩:=ih2 h;obtain ⟨zs,pz,hz⟩:=ih1 hy;exact ⟨zs,pz.trans py,hz⟩
noncomputable def e0h:F1:=fun ds q=>match ds with
 | [.lst xs]=>xs.length<64∧(∀x∈xs,∃ns:List Int,x=.tup (ns.map D.int))∧(∀x,xs[0]?=some x→x=.tup [])∧∀ys:List D,ys.Perm xs→q (.lst ys)
 |_=>False
theorem e0g{K:PySem.W.Frag}{F:Hp}:∀{ds:List D} {vs:List V},Reps K F ds vs→∀v∈vs,∃d∈ds,Rep K F d v
 | [],vs,h,v,hv=>by rw[reps_nil.mp h]at hv;cases hv
 |d::ds,vs,h,v,hv=>by
  obtain ⟨u,r,rfl,r1,t⟩:=reps_cons.mp h;rcases List.mem_cons.mp hv with rfl |hv
  ·exact ⟨d,List.mem_cons_self,r1⟩
  ·obtain ⟨e,he,re⟩:=e0g t v hv;exact ⟨e,List.mem_cons_of_mem _ he,re⟩
theorem d_sort{K:PySem.W.Frag}:w0y K (rSort K) e0h:=by
 intro Y F H σ ρ δ vs ds Q1 q I r h' k;unfold e0h at h';split at h'
 ·rename_i xs;obtain ⟨h64,ht,h0,hq⟩:=h';obtain ⟨v,rfl,r1⟩:=z0f r;obtain ⟨a,us,rfl,e,z⟩:=rep_lst.mp r1;have tup:∀(ns:List Int) (v:V),Rep K F (.tup (ns.map D.int)) v→∃p,v=.ref p∧SqT K H p (List.map V.int ns):=fun ns v rv=>by
   obtain ⟨p,ws,rfl,ep,zp⟩:=rep_tup.mp rv;exact ⟨p,rfl,by rw[←e0o (t0g ns) zp];exact SqT.of (I.sub _ _ ep)⟩
  refine ⟨a,us,rfl,SqL.of (I.sub _ _ e),by rw[z.length];exact h64,fun v hv=>?_,fun v ev=>?_,fun ys py l hl=>?_⟩
  ·obtain ⟨d,hd,rd⟩:=e0g z v hv;obtain ⟨ns,rfl⟩:=ht d hd;obtain ⟨p,e1,e2⟩:=tup ns v rd;exact ⟨p,ns,e1,e2⟩
  ·cases us with
   |nil=>cases ev
   |cons u us=>
    cases ev;cases xs with
    |nil=>cases reps_nil.mp z
    |cons x xs=>
     obtain ⟨_,_,e',rd,_⟩:=reps_cons.mp z;cases e';have:=h0 x rfl;subst this;exact tup [] _ rd
  ·obtain ⟨es,pe,re⟩:=e0i py z;exact k _ _ _ _ (I.alloc hl) (I.grow hl) (I.lst hl re) (hq es pe)
 ·exact h'.elim
end DL
namespace L2
open PySem PySem.Spec PyProof.Rows PySem.W
open AutoSeq1 (wpAny_loadPart')
section
variable{X:Cx}
end
end L2
namespace DL
open PySem PySem.Spec L2
noncomputable def repTF:F2:=fun d1 d2 q=>match d1,d2 with
 | .tup xs,.int k=>xs.length*k.toNat≤1000∧2≤k∧k≤1000∧xs≠[]∧q (.tup (List.replicate k.toNat xs).flatten)
 |_,_=>False
theorem n0c:bootBuiltins "sorted"=some (.builtin "sorted"):=by decide +kernel
end DL
namespace L2
theorem Room.units2{k:Nat}{A:PySem.Around}(r:Room k A):A.units+2<PySem.cLine:=by have:=r.un;omega
end L2
namespace DL
open PySem PySem.Spec L2
end DL
namespace DL
open PySem PySem.Spec L2
theorem k0s{X:Cx}{Y:Y2}{W:XW}{ss:List Stmt}{t t':TS2}(h:PSs2 X Y W ss t)(k:∀E ρ δ,t' E ρ δ→t E ρ δ):PSs2 X Y W ss t':=⟨i0u h.go fun D σ H ⟨F,ρ,δ,E2,I,q,er⟩=>⟨F,ρ,δ,E2,I,k _ _ _ q,er⟩⟩
end DL
namespace L2
open PySem PySem.Spec PyProof.Rows PySem.W
end L2
namespace DL
open PySem PySem.Spec L2
section
variable{X:Cx}{Y:Y2}{W:XW}{x:Str}{p tpos pos:Pos}{e j:Expr}{te tj:TE2}
end
end DL
namespace DL
open PySem PySem.Spec L2
theorem p0t{te:TE2}{js:List Nat}{ρ:En}{q:List D→Dk→Prop}{ds:List D}{δ:Dk}(I:Nat→Dk→Prop)(R:Nat→D→D→Prop)(hl:ds.length≤1000)(h0:I 0 δ)
 (step:∀(i:Nat) (d:D) (δ':Dk),ds[i]?=some d→I i δ'→∀Q:D→Dk→Prop,(∀e δ1,R i d e→I (i+1) δ1→Q e δ1)→te (fun _ _ _ _=>False) (.val d::capt ρ js) δ' fun e _ δ1=>Q e δ1)
 (fin:∀acc δ',acc.length=ds.length→(∀i d e,ds[i]?=some d→acc[i]?=some e→R i d e)→I ds.length δ'→q acc δ'):r8 te js ρ q ds [] δ:=by
 refine z7 (fun i acc δ'=>acc.length=i∧(∀j d e,ds[j]?=some d→acc[j]?=some e→R j d e)∧I i δ') ⟨rfl,fun j d e _ h=>(by simp at h),h0⟩ ?_ ?_
 ·rintro i d acc δ' rest hi ⟨rfl,hR,hI⟩ hrest;have hlt:=(List.getElem?_eq_some_iff.mp hi).1;refine step _ d δ' hi hI (fun e δ1=>acc.length<1000∧rest (acc++[e]) δ1) fun e δ1 hr hI1=>⟨by omega,hrest _ _ ⟨by rw[List.length_append];rfl,fun j d' e' h1 h2=>?_,hI1⟩⟩
  rcases Nat.lt_or_ge j acc.length with hj |hj
  ·rw[List.getElem?_append_left hj]at h2;exact hR j d' e' h1 h2
  ·rw[List.getElem?_append_right hj]at h2;have hj2:j-acc.length=0:=by
    have:=(List.getElem?_eq_some_iff.mp h2).1;simp at this;omega
   rw[hj2]at h2;have hj3:j=acc.length:=by omega
   subst hj3;rw[hi]at h1;cases h1;cases h2;exact hr
 ·rintro acc δ' ⟨h1,h2,h3⟩;exact fin acc δ' h1 h2 h3
theorem e0f{te:TE2}{js:List Nat}{ρ:En}{q:List D→Dk→Prop}{ds:List D}{δ:Dk}(f:D→D)(hl:ds.length≤1000)
 (step:∀d∈ds,∀Q:D→Dk→Prop,Q (f d) δ→te (fun _ _ _ _=>False) (.val d::capt ρ js) δ fun e _ δ1=>Q e δ1) (fin:q (ds.map f) δ):r8 te js ρ q ds [] δ:=by
 refine p0t (fun _ δ'=>δ'=δ) (fun _ d e=>e=f d) hl rfl (fun i d δ' hi h Q hQ=>?_) fun acc δ' h1 h2 h3=>?_
 ·subst h;exact step d (List.mem_of_getElem? hi) Q (hQ _ _ rfl rfl)
 ·subst h3;have:acc=ds.map f:=by
   apply List.ext_getElem?;intro i;rw[List.getElem?_map];cases e1:ds[i]? with
   |none=>
    rw[List.getElem?_eq_none_iff]at e1;rw[List.getElem?_eq_none (by omega)];rfl
   |some d=>
    have hi:=(List.getElem?_eq_some_iff.mp e1).1;have hi2:i<acc.length:=by omega
    rw[List.getElem?_eq_getElem hi2,h2 i d _ e1 (List.getElem?_eq_getElem hi2)];rfl
  rw[this];exact fin
theorem h0i{tup:Bool}{n:Nat}{te:TE2}{js:List Nat}{ρ:En}{q:List D→Dk→Prop}{ds:List D}{δ:Dk}(I:Nat→Dk→Prop)(R:Nat→D→D→Prop)(hl:ds.length≤1000)(h0:I 0 δ)
 (step:∀(i:Nat) (d:D) (δ':Dk),ds[i]?=some d→I i δ'→∀Q:D→Dk→Prop,(∀e δ1,R i d e→I (i+1) δ1→Q e δ1)→∃es,tgD tup n d=some es∧te (fun _ _ _ _=>False) (es.map .val++capt ρ js) δ' fun e _ δ1=>Q e δ1)
 (fin:∀acc δ',acc.length=ds.length→(∀i d e,ds[i]?=some d→acc[i]?=some e→R i d e)→I ds.length δ'→q acc δ'):compM tup n x0v te js ρ q ds [] δ:=by
 refine t0f (fun i acc δ'=>acc.length=i∧(∀j d e,ds[j]?=some d→acc[j]?=some e→R j d e)∧I i δ') ⟨rfl,fun j d e _ h=>(by simp at h),h0⟩ ?_ ?_
 ·rintro i d acc δ' rest hi ⟨rfl,hR,hI⟩ hrest;have hlt:=(List.getElem?_eq_some_iff.mp hi).1;obtain ⟨es,e1,e2⟩:=step _ d δ' hi hI (fun e δ1=>acc.length<1000∧rest (acc++[e]) δ1) fun e δ1 hr hI1=>⟨by omega,hrest _ _ ⟨by rw[List.length_append];rfl,fun j d' e' h1 h2=>by
   rcases Nat.lt_or_ge j acc.length with hj |hj
   ·rw[List.getElem?_append_left hj]at h2;exact hR j d' e' h1 h2
   ·rw[List.getElem?_append_right hj]at h2;have hj2:j-acc.length=0:=by
     have:=(List.getElem?_eq_some_iff.mp h2).1;simp at this;omega
    rw[hj2]at h2;have hj3:j=acc.length:=by omega
    subst hj3;rw[hi]at h1;cases h1;cases h2;exact hr,hI1⟩⟩
  rw[e1];exact e2
 ·rintro acc δ' ⟨h1,h2,h3⟩;exact fin acc δ' h1 h2 h3
theorem n0b{tup:Bool}{n:Nat}{te:TE2}{js:List Nat}{ρ:En}{q:List D→Dk→Prop}{ds:List D}{δ:Dk}(f:D→D)(hl:ds.length≤1000)
 (step:∀d∈ds,∀Q:D→Dk→Prop,Q (f d) δ→∃es,tgD tup n d=some es∧te (fun _ _ _ _=>False) (es.map .val++capt ρ js) δ fun e _ δ1=>Q e δ1) (fin:q (ds.map f) δ):compM tup n x0v te js ρ q ds [] δ:=by
 refine h0i (fun _ δ'=>δ'=δ) (fun _ d e=>e=f d) hl rfl (fun i d δ' hi h Q hQ=>?_) fun acc δ' h1 h2 h3=>?_
 ·subst h;exact step d (List.mem_of_getElem? hi) Q (hQ _ _ rfl rfl)
 ·subst h3;have:acc=ds.map f:=by
   apply List.ext_getElem?;intro i;rw[List.getElem?_map];cases e1:ds[i]? with
   |none=>
    rw[List.getElem?_eq_none_iff]at e1;rw[List.getElem?_eq_none (by omega)];rfl
   |some d=>
    have hi:=(List.getElem?_eq_some_iff.mp e1).1;have hi2:i<acc.length:=by omega
    rw[List.getElem?_eq_getElem hi2,h2 i d _ e1 (List.getElem?_eq_getElem hi2)];rfl
  rw[this];exact fin
theorem v0x(k:Int):∀c:List Int,inD (.int k) (c.map D.int)=decide (k∈c)
 | []=>by simp[inD]
 |a::c=>by
  have ih:=v0x k c;unfold inD at ih ⊢;rw[List.map_cons,List.any_cons,ih];have:eqV (toV (.int a)) (toV (.int k))=decide (k=a):=by
   show (decide (a=k))=decide (k=a);exact decide_eq_decide.mpr eq_comm
  rw[this];by_cases h:k=a<;>simp[h]
theorem z0e(c:List Int):(c.map D.int).all m6=true:=by
 rw[List.all_eq_true];intro d hd;obtain ⟨x,_,rfl⟩:=List.mem_map.mp hd;rfl
end DL
namespace L2
open PySem PySem.Spec PyProof.Rows
section
variable{prog:Program}{w:World}{A:Around}{E:Value→Shared→Prop}{s:Shared}
end
section
variable{prog:Program}{w:World}{A:Around}{E:Value→Shared→Prop}{s:Shared}
end
section
variable{X:Cx}
end
end L2
namespace DL
open PySem PySem.Spec L2
section
variable{X:Cx}{Y:Y2}{W:XW}{a e tg:Expr}{ta:TA2}{te:TE2}{p p2 pos pos2:Pos}
noncomputable def t2TR(ta:TA2):TE2:=fun x ρ δ q=>ta x ρ δ fun ds ρ1 δ1=>lrQ ds fun l=>q (.tup l) ρ1 δ1
noncomputable def t2Unp(g:G2)(te:TE2):TS2:=fun E ρ δ=>te E.xc ρ δ fun d ρ1 δ1=>match g d ρ1 with |some ρ2=>E.nx ρ2 δ1 |none=>False
end
end DL
namespace L2
open PySem PySem.Spec PyProof.Rows
section
variable{prog:Program}{w:World}{A:Around}{E:Value→Shared→Prop}{s:Shared}
end
theorem n0a{ns:List Int}:∀{us:List Value},IntsAre us ns→Vals (ns.map V.int) us:=by
 intro us h
 induction h with
 |nil=>exact .nil
 |cons n t h ih=>exact .cons ⟨t,rfl⟩ ih
noncomputable def m0z(ns:List Int):List Int:=ns.mergeSort fun a b=>decide (a≤b)
theorem b0f{ns ns':List Int}(p:ns'.Perm ns)(o:ns'.Pairwise (·≤·)):ns'=m0z ns:=by
 refine List.Perm.eq_of_pairwise (le:=fun a b=>a≤b) (fun a b _ _ h1 h2=>Int.le_antisymm h1 h2) o ?_ (p.trans (List.mergeSort_perm _ _).symm);have:=List.pairwise_mergeSort (le:=fun (a b:Int)=>decide (a≤b)) (fun a b c h1 h2=>decide_eq_true (Int.le_trans (of_decide_eq_true h1) (of_decide_eq_true h2))) (fun a b=>by rw[Bool.or_eq_true,decide_eq_true_eq,decide_eq_true_eq];exact Int.le_total a b) ns;exact this.imp fun h=>of_decide_eq_true h
section
variable{X:Cx}
end
end L2
namespace DL
open PySem PySem.Spec L2
noncomputable def sortIF:F1:=fun ds q=>match ds with
 | [d]=>(match seqD d with |some xs=>(match s0o xs with |some ns=>ns.length<64∧q (.lst ((m0z ns).map D.int))|none=>False)|none=>False)
 |_=>False
end DL
namespace L2
open PySem PySem.Spec PyProof.Rows PySem.W
open AutoSeq1 (wpAny_loadPart')
section
variable{X:Cx}
end
end L2
namespace DL
open PySem PySem.Spec L2
noncomputable def repAF:F2:=fun d1 d2 q=>match d1,d2 with
 | .tup xs,.int k=>xs.length*k.toNat≤1000∧0≤k∧k≤1000∧xs≠[]∧q (.tup (List.replicate k.toNat xs).flatten)
 |_,_=>False
noncomputable def neL:F2:=fun d1 d2 q=>match d1,d2 with | .lst xs,.lst ys=>(xs.all m6&&ys.all m6)=true∧q (.bl (!eqDs xs ys))|_,_=>False
section
variable{X:Cx}{Y:Y2}{W:XW}{a b:Expr}{ta tb:TE2}{x:Str}{pos pos' bpos:Pos}
variable{i:Nat}{p:Pos}
end
end DL
namespace L2
end L2
namespace DL
open PySem PySem.Spec L2
noncomputable def valD(kvs:List (Key×D))(k:Key):Option D:=(kvs.find? fun kv=>decide (kv.1=k)).map (·.2)
noncomputable def putD(kvs:List (Key×D))(k:Key)(v:D):List (Key×D):=if (kvs.any fun kv=>decide (kv.1=k))=true then kvs.map (fun kv=>if kv.1=k then (kv.1,v)else kv)else kvs++[(k,v)]
section
variable{K:Frag}{F:Hp}
end
section
variable{X:Cx}{Y:Y2}{W:XW}{e j:Expr}{te tj tx:TE2}{x:Str}{i:Nat}{p pos pos' spos:Pos}
noncomputable def x1r(i:Nat):TS2:=fun E ρ δ=>E.nx (ρ.set i (.ownD [])) δ
noncomputable def t2PutD(i:Nat)(tj te:TE2):TS2:=fun E ρ δ=>te E.xc ρ δ fun d ρ1 δ1=>hasV ρ1 i=true∧tj E.xc ρ1 δ1 fun dj ρ2 δ2=>match ρ2[i]?,dj with
 |some (.ownD kvs),.int k=>kvs.length<1000∧E.nx (ρ2.set i (.ownD (putD kvs (.inl k) d))) δ2
 |_,_=>False
noncomputable def dicV(ρ:En)(i:Nat):Option (List (Key×D)):=match ρ[i]? with
 |some (.ownD kvs)=>some kvs
 |some (.val (.dwk kvs))=>some kvs
 |_=>none
noncomputable def t2GetD(i:Nat)(ty tx:TE2):TE2:=fun x ρ δ q=>(dicV ρ i).isSome=true∧ty x ρ δ fun dk ρ1 δ1=>tx x ρ1 δ1 fun dd ρ2 δ2=>match dicV ρ2 i,dk with
 |some kvs,.int k=>q ((valD kvs (.inl k)).getD dd) ρ2 δ2
 |_,_=>False
noncomputable def t2IxD(i:Nat)(ty:TE2):TE2:=fun x ρ δ q=>(dicV ρ i).isSome=true∧ty x ρ δ fun dk ρ1 δ1=>match dicV ρ1 i,dk with
 |some kvs,.int k=>(match valD kvs (.inl k)with |some d=>q d ρ1 δ1 |none=>False)
 |_,_=>False
end
end DL
namespace L2
open PySem PySem.Spec PyProof.Rows
section
variable{X:Cx}{pins:List (Addr×Obj)}{σ:St}{H:Hp}{s:Shared}{a:Addr}{kvs:List (Key×V)}
variable{tg:Expr}
end
end L2
namespace DL
open PySem PySem.Spec L2
section
variable{X:Cx}{Y:Y2}{W:XW}{tg e:Expr}{te:TE2}{x:Str}{i:Nat}{p pos:Pos}{K:Frag}
noncomputable def t2VD(i:Nat):TE2:=fun _ ρ δ q=>match ρ[i]? with |some (.ownD kvs)=>q (.dwk kvs) (ρ.set i (.val (.dwk kvs))) δ |_=>False
noncomputable def t2DicV(i:Nat)(v:Int):TE2:=fun _ ρ δ q=>match ρ[i]? with |some (.val (.int k))=>q (.dwk [(.inl k,.int v)]) ρ δ |_=>False
noncomputable def keyD:Key→D
 | .inl n=>.int n
 | .inr s=>.str s
noncomputable def t2Keys(te:TE2):TI2:=fun x ρ δ q=>te x ρ δ fun d ρ1 δ1=>match d with | .dwk kvs=>q (kvs.map fun kv=>keyD kv.1) ρ1 δ1 |_=>False
end
end DL
namespace L2
open PySem PySem.Spec PyProof.Rows
structure RoomU(k:Nat)(A:Around):Prop where
 dp:A.depth+3*k+5<recursionLimit
 un:A.units+16*k+200<cLine
structure FnOkU(P:Program)(w:World)(K:PySem.W.Frag)(mg:Str→Option Value)(base:Heap)(CX:CXT)(k:Nat)(f:Addr)(fd:FuncData)(ps:List Str)(sp:Sp):Prop where
 len:∀vs H Q E,sp vs H Q E→vs.length=ps.length
 run:∀(A:Around) (outer:List Env) (s:Shared) (H:Hp) (args:Args) (us:List Value) (vs:List V) (Q:VK) (E:XK),RoomU k A→Env0 P w K mg base A outer s H→BindsTo s fd args (ps.zip us)→Vals vs us→sp vs H Q E→
  codeAny (model P w) A (.call (.ref f) args) (CR CX outer P w H s Q E) s
structure FnAtU(P:Program)(w:World)(K:PySem.W.Frag)(mg:Str→Option Value)(base:Heap)(CX:CXT)(x:Str)(k:Nat)(ps:List Str)(sp:Sp):Prop where
 ex:∃f fd,FnOkU P w K mg base CX k f fd ps sp∧mg x=some (.ref f)∧PySem.W.keepIn K (.ref f)=true∧Binds K fd ps []
section
variable{X:Cx}{pins:List (Addr×Obj)}{σ:St}{H:Hp}{s:Shared}
end
end L2
namespace DL
open PySem PySem.Spec L2
open PySem.W (XC)
open PyProof.Rows (envOfC)
section
variable{X:Cx}{Y:Y2}{W:XW}{x:Str}{p pos:Pos}{e:Expr}{es:List Expr}{t:TA2}{k:Nat}{ps:List Str}{sp:Sp2}
end
section
variable{P:Program}{w:World}{K:Frag}{mg:Str→Option Value}{base:Heap}
end
end DL
namespace L2
open PySem PySem.Spec PyProof.Rows PySem.Calls
section
variable{prog:Program}{w:World}{A:Around}{E:Value→Shared→Prop}{s:Shared}{I l:Addr}{its:Array Value}
end
end L2
namespace L2
open PySem PySem.Spec PyProof.Rows PySem.Calls
section
variable{X:Cx}
end
end L2
namespace DL
open PySem PySem.Spec L2
section
variable{X:Cx}{Y:Y2}{W:XW}{a:Expr}{ta:TA2}{p p2 pos pos2 spos:Pos}
noncomputable def b0e(ta:TA2):TS2:=fun E ρ δ=>ta E.xc ρ δ fun ds ρ1 δ1=>δ1=none∧match ds with | [d]=>(match d with | .lst xs=>∀p,E.rt (.ref p) (some (p,xs.reverse))|_=>False)|_=>False
end
end DL
namespace L2
open PySem PySem.Spec PyProof.Rows PySem.Calls PySem.W
section
variable{X:Cx}
noncomputable def IsMin(ns:List Int)(m:Int):Prop:=m∈ns∧∀n∈ns,m≤n
end
end L2
namespace DL
open PySem PySem.Spec L2
section
variable{K:Frag}
noncomputable def minLF:F1:=fun ds q=>match ds with | [d]=>(match seqD d with |some xs=>(match s0o xs with |some ns=>ns≠[]∧∀m,IsMin ns m→q (.int m)|none=>False)|none=>False)|_=>False
end
section
variable{X:Cx}{Y:Y2}{W:XW}{x:Str}{p apos cpos p2 pos2:Pos}
noncomputable def x1q(i:Nat):TE2:=fun _ ρ δ q=>match dicV ρ i with |some kvs=>q (.lst (kvs.map (·.2))) ρ δ |none=>False
noncomputable def t2LenD(i:Nat):TE2:=fun _ ρ δ q=>match dicV ρ i with |some kvs=>q (.int (kvs.length:Nat)) ρ δ |none=>False
end
end DL
namespace DL
open PySem PySem.Spec L2
theorem e0e:∀(n:Nat) (l:List Int),l.Nodup→(∀x∈l,0≤x∧x<(n:Int))→l.length≤n
 | 0,l,_,h=>by
  cases l with
  |nil=>exact Nat.le_refl _
  |cons a l=>have:=h a (List.mem_cons_self ..);omega
 |n+1,l,nd,h=>by
  by_cases m:(n:Int)∈l
  ·have ih:=e0e n (l.erase (n:Int)) (nd.erase _) fun x hx=>by
    have h1:=h x (List.mem_of_mem_erase hx);have h2:x≠(n:Int):=fun z=>by rw[z]at hx;exact nd.not_mem_erase hx
    omega
   rw[List.length_erase_of_mem m]at ih;omega
  ·have ih:=e0e n l nd fun x hx=>by
    have h1:=h x hx;have h2:x≠(n:Int):=fun z=>m (z▸hx)
    omega
   omega
structure DI(l:List (Key×D))(g:Int→Int→Prop):Prop where
 nd:(l.map (·.1)).Nodup
 all:∀kv∈l,∃k v:Int,kv=(.inl k,.int v)∧g k v
end DL
namespace L2
open PySem PySem.Spec PyProof.Rows PySem.Calls
section
variable{prog:Program}{w:World}{A:Around}{E:Value→Shared→Prop}{I:Addr}{fp wr:List Addr}{n:Nat}{P:Nat→Value→Prop}{St:Nat→Heap→Prop}
end
section
variable{prog:Program}{w:World}{A:Around}{E:Value→Shared→Prop}{s:Shared}
end
section
variable{X:Cx}{pos:Pos}
end
end L2
namespace DL
open PySem PySem.Spec L2
noncomputable def g2L(is:List Nat):G2:=fun d ρ=>match d with | .lst ds=>s0s is ds ρ |_=>none
end DL
namespace L2
open PySem PySem.Spec PyProof.Rows
section
variable{X:Cx}
end
end L2
namespace DL
open PySem PySem.Spec L2
noncomputable def eqL:F2:=fun d1 d2 q=>match d1,d2 with | .lst xs,.lst ys=>(xs.all m6&&ys.all m6)=true∧q (.bl (eqDs xs ys))|_,_=>False
end DL
namespace L2
open PySem PySem.Spec PyProof.Rows
section
variable{X:Cx}{pins:List (Addr×Obj)}{σ:St}{H:Hp}{s:Shared}
end
end L2
namespace DL
open PySem PySem.Spec L2
noncomputable def eqR:D→D→Option Bool
 | .tup xs,.tup ys=>if (xs.all m6&&ys.all m6)=true then some (eqDs xs ys)else none
 | .lst xs,.lst ys=>if (xs.all m6&&ys.all m6)=true then some (eqDs xs ys)else none
 |x,y=>if (m6 x&&m6 y)=true then some (eqV (toV x) (toV y))else none
noncomputable def eqRs:List D→List D→Option Bool
 | [],[]=>some true
 |x::xs,y::ys=>match eqR x y,eqRs xs ys with |some a,some b=>some (a&&b)|_,_=>none
 | [],_::_=>some false
 |_::_,[]=>some false
noncomputable def eqRF(neg:Bool):F2:=fun d1 d2 q=>match d1,d2 with
 | .lst xs,.lst ys=>(match eqRs xs ys with |some r=>q (.bl (if neg=true then !r else r))|none=>False)
 | .tup xs,.tup ys=>(match eqRs xs ys with |some r=>q (.bl (if neg=true then !r else r))|none=>False)
 |_,_=>False
end DL
namespace L2
open PySem PySem.Spec PyProof.Rows PySem.Calls
section
variable{X:Cx}
end
end L2
namespace DL
open PySem PySem.Spec L2
section
variable{X:Cx}{Y:Y2}{W:XW}{te:TE2}{K:Frag}
noncomputable def pairK(kv:Key×D):D:=.tup [keyD kv.1,kv.2]
noncomputable def x1p(te:TE2):TI2:=fun x ρ δ q=>te x ρ δ fun d ρ1 δ1=>match d with | .dwk kvs=>q (kvs.map pairK) ρ1 δ1 |_=>False
end
section
variable{K:Frag}
noncomputable def bigD(ns:List Int):Prop:=(∀n∈ns,0≤n)∧ns.sum<2^63
noncomputable def sumB:F1:=fun ds q=>match ds with | [d]=>(match seqD d with |some xs=>(match s0o xs with |some ns=>bigD ns∧q (.int ns.sum)|none=>False)|none=>False)|_=>False
end
section
variable{X:Cx}{Y:Y2}{W:XW}{e:Expr}{te:TE2}{x:Str}{pos pos':Pos}
noncomputable def t2AugM(i:Nat)(te:TE2):TS2:=fun E ρ δ=>rdV ρ i fun d1 ρ0=>te E.xc ρ0 δ fun d2 ρ1 δ1=>match d1,d2 with | .int a,.int b=>CMul a b∧E.nx (ρ1.set i (.val (.int (a*b)))) δ1 |_,_=>False
end
end DL
namespace DL
open PySem PySem.Spec L2
noncomputable def x1o:F1:=fun ds q=>match ds with | [.int i,.int j]=>CDiv i j∧q (.tup [.int (i/j),.int (i%j)])|_=>False
end DL
namespace DL
open PySem PySem.Spec L2
section
variable{X:Cx}{Y:Y2}{W:XW}{pos pos' bpos:Pos}{a b:Expr}{ta tb:TE2}{x:Str}
end
end DL
namespace L2
open PySem PySem.Spec PyProof.Rows PySem.Calls PySem.W
section
variable{X:Cx}
variable{tg:Expr}
end
end L2
namespace DL
open PySem PySem.Spec L2
section
variable{X:Cx}{Y:Y2}{W:XW}{te:TE2}{K:Frag}{tg:Expr}
end
section
variable{X:Cx}{Y:Y2}{W:XW}{x:Str}{p apos cpos p2 pos2:Pos}
end
end DL
namespace L2
open PySem PySem.Spec PyProof.Rows
open AutoSeq1 (wpAny_loadPart')
section
variable{prog:Program}{w:World}{A:Around}{E:Value→Shared→Prop}{s:Shared}
end
section
variable{prog:Program}{w:World}{A:Around}{E:Value→Shared→Prop}{s:Shared}
end
section
variable{M:Model}{A:Around}{E:Value→Shared→Prop}{s:Shared}{env:Env}
end
section
variable{X:Cx}{elts:List Expr}{x1:Nat}{tpos:Pos}
end
end L2
namespace DL
open PySem PySem.Spec L2
section
variable{X:Cx}{Y:Y2}{W:XW}{K:Frag}
variable{a e:Expr}{ta:TA2}{te:TE2}{p pos tpos kp:Pos}{elts:List Expr}{x1:Nat}
end
end DL
namespace DL
open PySem PySem.Spec L2
open PySem.W (XC)
section
variable{K:Frag}{Y:Y2}{F H:Hp}{σ:St}{ρ:En}{δ:Dk}
end
section
variable{X:Cx}{Y:Y2}{W:XW}{px pos:Pos}{target elt iter:Expr}{xs:List Str}{js:List Nat}{scope:Scope}{te:TE2}{ti:TI2}{tup:Bool}{g:TG}
variable(hc:X.calm=true)(S:CompOkM X xs js scope)(hi:PI2 X Y W target iter ti)(hg:(xs++js.map (fun j=>X.N.getD j "")).Nodup→∀C s₀ H₀ fp cl,PG (X.compM xs js scope cl C s₀ H₀ fp) target g)(gm:TgM X.K tup xs.length g)
 (ht:∀C s₀ H₀ fp cl Y',PIf2 (X.compM xs js scope cl C s₀ H₀ fp) Y' W0 [] x0v) (he:∀C s₀ H₀ fp cl Y',PE2 (X.compM xs js scope cl C s₀ H₀ fp) Y' W0 elt te)
include hc S hi hg gm ht he
end
end DL
namespace DL
open PySem PySem.Spec L2
structure Tg{α:Type}(q:α):Type where
noncomputable def t0m(q:K2)(ρ:En)(_:Tg q):D→Dk→Prop:=fun d δ=>q d ρ δ
noncomputable def x1n(x:XK2)(ρ:En)(_:Tg x):Addr→List (Str×D)→Dk→Prop:=fun C fs δ=>x C fs ρ δ
section
variable{q:K2}{x:XK2}{ρ:En}{u:Tg q}{v:Tg x}{δ:Dk}
theorem b0d{d:D}:t0m q ρ u d δ=q d ρ δ:=rfl
theorem k_int{i:Int}:t0m q ρ u (.int i) δ=q (.int i) ρ δ:=rfl
theorem k_bl{i:Bool}:t0m q ρ u (.bl i) δ=q (.bl i) ρ δ:=rfl
theorem k_str{i:Str}:t0m q ρ u (.str i) δ=q (.str i) ρ δ:=rfl
theorem k_non:t0m q ρ u .non δ=q .non ρ δ:=rfl
theorem k_lst{i:List D}:t0m q ρ u (.lst i) δ=q (.lst i) ρ δ:=rfl
theorem k_tup{i:List D}:t0m q ρ u (.tup i) δ=q (.tup i) ρ δ:=rfl
theorem k_ins{C:Addr}{fs:List (Str×D)}:t0m q ρ u (.ins C fs) δ=q (.ins C fs) ρ δ:=rfl
theorem k_ref{i:Addr}:t0m q ρ u (.ref i) δ=q (.ref i) ρ δ:=rfl
theorem k_dwk{i:List (Key×D)}:t0m q ρ u (.dwk i) δ=q (.dwk i) ρ δ:=rfl
theorem k_dic{i:List (Key×D)}:t0m q ρ u (.dic i) δ=q (.dic i) ρ δ:=rfl
theorem x_nil{C:Addr}:x1n x ρ v C [] δ=x C [] ρ δ:=rfl
theorem x_cons{C:Addr}{a:Str×D}{fs:List (Str×D)}:x1n x ρ v C (a::fs) δ=x C (a::fs) ρ δ:=rfl
theorem call_s{sp:Sp2}{t:TA2}{q:K2}:z0m sp t x ρ δ q=t x ρ δ fun ds ρ1 δ1=>sp ds δ1 (t0m q ρ1 ⟨⟩) (x1n x ρ1 ⟨⟩):=rfl
end
theorem p0s{te:TE2}{js:List Nat}{ρ:En}{q:List D→Dk→Prop}{δ:Dk}:∀{ds acc:List D} (es:List D),ds.length=es.length→acc.length+ds.length≤1000→
 (∀(i:Nat) (d e:D),ds[i]?=some d→es[i]?=some e→∀Q:D→Dk→Prop,Q e δ→te (fun _ _ _ _=>False) (.val d::capt ρ js) δ fun e _ δ1=>Q e δ1)→q (acc++es) δ→r8 te js ρ q ds acc δ
 | [],acc,[],_,_,_,fin=>by unfold r8;rw[List.append_nil]at fin;exact fin
 |d::ds,acc,e::es,hl,ha,step,fin=>by
  unfold r8;rw[List.length_cons]at ha;rw[List.length_cons,List.length_cons]at hl;exact step 0 d e rfl rfl (fun e δ1=>acc.length<1000∧r8 te js ρ q ds (acc++[e]) δ1) ⟨by omega,p0s es (by omega) (by rw[List.length_append,List.length_singleton];omega) (fun i d e h1 h2=>step (i+1) d e (by rw[List.getElem?_cons_succ];exact h1) (by rw[List.getElem?_cons_succ];exact h2)) (by rw[List.append_assoc];exact fin)⟩
theorem p0r{α:Type}{te:TE2}{js:List Nat}{ρ:En}{q:List D→Dk→Prop}{δ:Dk}(g f:α→D)(l:List α)(hl:l.length≤1000)(step:∀a∈l,∀Q:D→Dk→Prop,Q (f a) δ→te (fun _ _ _ _=>False) (.val (g a)::capt ρ js) δ fun e _ δ1=>Q e δ1)(fin:q (l.map f) δ):r8 te js ρ q (l.map g) [] δ:=
 p0s (l.map f) (by rw[List.length_map,List.length_map]) (by rw[List.length_map];show 0+_≤_;omega) (fun i d e hd he Q hQ=>by
  rw[List.getElem?_map,Option.map_eq_some_iff]at hd;obtain ⟨a,ha,rfl⟩:=hd;rw[List.getElem?_map,ha]at he;cases he;exact step a (List.mem_of_getElem? ha) Q hQ) fin
theorem forL_E{α:Type}{gt:G2}{body:TS2}{E:End2}{ρ:En}{δ:Dk}(g:α→D)(l:List α)(P:Nat→En→Dk→Prop)(h0:P 0 ρ δ)(step:∀(i:Nat) (a:α) (ρ:En) (δ:Dk) (rest:En→Dk→Prop),l[i]?=some a→P i ρ δ→(∀ ρ' δ',P (i+1) ρ' δ'→rest ρ' δ')→t0o gt body E rest (.tup [.int (i:Int),g a]) ρ δ)(fin:∀ ρ δ,P l.length ρ δ→E.nx ρ δ):forL gt body E (t0n 0 (l.map g)) ρ δ:=
 i9 P h0 (fun i d ρ δ rest hd hp hr=>by
  obtain ⟨z,hz,rfl⟩:=j7 hd;rw[List.getElem?_map,Option.map_eq_some_iff]at hz;obtain ⟨a,ha,rfl⟩:=hz;rw[Nat.zero_add];exact step i a ρ δ rest ha hp hr) (by rw[l7,List.length_map];exact fin)
end DL
namespace L2
open PySem PySem.Spec PyProof.Rows PySem.SeqAt
section
variable{X:Cx}
end
end L2
namespace DL
open PySem PySem.Spec L2
section
variable{X:Cx}{Y:Y2}{W:XW}{o e b:Expr}{es:List Expr}{ta tb:TE2}{t:TA2}{p pos apos cpos:Pos}
structure TopRow(K:Frag)(mg:Str→Option Value)(x:Str)(ds:List D):Prop where
 ex:∃a vs,mg x=some (.ref a)∧(∀H,SqT K H a vs)∧∀F,Reps K F ds vs
theorem topRow3{K:Frag}{mg:Str→Option Value}{x:Str}{a:Addr}{s1 s2 s3:Str}{t1 t2 t3:Tok}{n:Nat}{dd:Option Addr}{sl:Array (Option Value)}(hm:mg x=some (.ref a))(hk:K.lookup a=some {cls:=.type "tuple",dict:=dd,data:=.seq ⟨[.str s1 t1,.str s2 t2,.str s3 t3]⟩ n,slots:=sl}):TopRow K mg x [.str s1,.str s2,.str s3]:=
 ⟨a,[.str s1,.str s2,.str s3],hm,fun H=>.inr ⟨_,_,n,hk,rfl,rfl,by show 3≤sizeLine;decide,.cons ⟨t1,rfl⟩ (.cons ⟨t2,rfl⟩ (.cons ⟨t3,rfl⟩ .nil))⟩,fun F=>Reps.cons (rep_str.mpr rfl) (Reps.cons (rep_str.mpr rfl) (Reps.cons (rep_str.mpr rfl) Reps.nil))⟩
end
end DL
namespace L2
open PySem PySem.Spec PyProof.Rows PySem.Calls PySem.W
section
variable{X:Cx}
end
end L2
namespace DL
open PySem PySem.Spec L2
end DL
namespace L2
open PySem PySem.Spec PyProof.Rows PySem.Calls PySem.W
theorem s0m:entryFor table "dict.update.loop"=some Builtin.«dict.update.loop»:=entryFor_of_tree (by kernel_rfl)
theorem h9:plainId "dict.update.loop"=true:=by decide +kernel
theorem e0d:typeLookup (.type "list") "keys"=pure none:=by rw[typeLookup_type,builtinLookup_eq_fast];kernel_rfl
section
variable{prog:Program}{w:World}{A:Around}{E:Value→Shared→Prop}{s:Shared}
theorem e0c{a:Addr}{o:Obj}{xs:Array Value}{k:Nat}{Q:Option Value→Shared→Prop}(hx:s.heap.get? a=some o)(hc:o.cls=.type "list")(hdat:o.data=.seq xs k)(hd:o.dict=none)(hA:A.handled=none)
 (h:∀h' tk,(∀b o,s.heap.get? b=some o→h'.get? b=some o)→Q none {s with heap:=h',toks:=tk}):wpAny (model prog w) A (getAttr? (.ref a) "keys") Q E s:=by
 obtain ⟨c,dct,dat,sl⟩:=o;simp only at hc hdat hd;subst hc hdat hd;obtain ⟨hp,g,d,tk,os⟩:=s;have hT:∀tk',(⟨hp,g,d,tk',os⟩:Shared).TypeIs (.ref a) "list":=fun _=>⟨_,hx,rfl⟩
 have f1:=sub_AttributeError;have f3:=F.slot_list_getattribute.lookup;have f4:=F.slot_list_getattribute.bind (.ref a);have f5:=am_list_getattr_none;unfold getAttr? getAttrBy? getAttrBy
 repeat (any_goals (first |assumption |exact hT _ |((with_reducible show wpAny _ _ (call (Value.builtin "list.__getattribute__") _ _) _ _ _);refine call_meets F.slot_list_getattribute (hT _) am_entry_list_getattribute (F.args_list_getattribute_2 _ _) (meets_getattribute_miss_list a xs k sl _ _ e0d (by decide) (by size_fits)) ⟨hx,hA,fun h' tk' e hx'=>?_⟩)|wp_step))
 obtain ⟨t',u',he⟩:=hx'.there;show wpAny _ _ (getattributeRaised _ _ _ _ _ _ _) _ _ _;unfold getattributeRaised
 repeat (any_goals (first |assumption |wp_step))
 exact h _ _ hx'.keeps
theorem e0b{h0:Heap}{l d it:Addr}{items:Array Value}{ps:List (Int×V)}{res:Value}{R:Result→Shared→Prop}(hh:A.handled=none)(hl:h0.IsList l items)(hd0:h0.objs.size≤d)(hi0:h0.objs.size≤it)(hne:d≠it)(hlen:items.size=ps.length)
 (hps:∀(i:Nat) (p:Int×V),ps[i]?=some p→∃(a:Addr) (t:Tok) (y:Value),items[i]?=some (.ref a)∧RelV p.2 y∧IsTup h0 a #[.int p.1 t,y]) (hsz:ps.length≤1000):
 ∀(n i:Nat) (s:Shared) (tk:Tok) (kvs:List (Key×V)) (vs:List (Key×Value)),ps.length-i=n→i≤ps.length→(∀b o,h0.get? b=some o→s.heap.get? b=some o)→s.heap.IsListIter it l i→KV kvs vs→kvs.length≤i→s.heap.DictOf (h7 prog w) d vs→
 (∀h' tk vs',(∀b o,h0.get? b=some o→h'.get? b=some o)→KV ((ps.drop i).foldl (fun m p=>putK m (Sum.inl p.1) p.2) kvs) vs'→h'.DictOf (h7 prog w) d vs'→R (.ok (.ret res)) {s with heap:=h',toks:=tk})→
 codeAny (model prog w) A (.builtin "dict.update.loop" ⟨[.ref d,.ref it,.int (i:Int) tk,res],[]⟩) R s:=by
 intro n
 induction n with
 |zero=>
  intro i s tk kvs vs hn hi hk hit hkv hkl hdo hR;have e:i=ps.length:=by omega
  refine codeAny_builtin s0m ?_;rw[Around.under_plainId h9 _];unfold Builtin.«dict.update.loop»;show wpAny _ A.in1 (pyNext (.ref it) >>= _) _ _ s;have hl':s.heap.IsList l items:=by obtain ⟨o,ho,r⟩:=hl;exact ⟨o,hk _ _ ho,r⟩
  refine wpAny_bind (wpAny_pyNext_list_end (A:=A.in1) hh hit hl' (by rw[Array.getElem?_eq_none (by omega)]) fun h' eb=>?_);show wpAny _ A.in1 (Builtin.Dict.addKeywords d [] >>= _) _ _ _;refine wpAny_bind (wpAny_pure (wpAny_pure ?_));rw[e,List.drop_length]at hR;exact hR h' s.toks vs (fun b o hb=>eb b o (fun z=>absurd (Heap.lt_size hb) (Nat.not_lt.mpr (z▸hi0))) (hk b o hb)) hkv (hdo.extBut eb hne)
 |succ n ih=>
  intro i s tk kvs vs hn hi hk hit hkv hkl hdo hR;have hlt:i<ps.length:=by omega
  obtain ⟨a,t,y,e1,ry,ht⟩:=hps i _ (List.getElem?_eq_getElem hlt);refine codeAny_builtin s0m ?_;rw[Around.under_plainId h9 _];unfold Builtin.«dict.update.loop»;show wpAny _ A.in1 (pyNext (.ref it) >>= _) _ _ s;have hl':s.heap.IsList l items:=by obtain ⟨o,ho,r⟩:=hl;exact ⟨o,hk _ _ ho,r⟩
  refine wpAny_bind (wpAny_pyNext_list_item hit hl' e1 fun h1 hit1 sb=>?_);have hk1:∀b o,h0.get? b=some o→h1.get? b=some o:=fun b o hb=>(sb.2 b (fun z=>absurd (Heap.lt_size hb) (Nat.not_lt.mpr (z▸hi0)))).trans (hk b o hb)
  obtain ⟨o,ho,hc,k,hd⟩:=ht;show wpAny _ A.in1 (holding _ _ >>= _) _ _ _;refine wpAny_bind (wpAny_holding ?_);refine wpAny_bind (wpAny_tryCatch ?_);unfold Builtin.Dict.pairItems;refine wpAny_bind (wpAny_typeOf (s:={s with heap:=h1}) (T:="tuple") ⟨o,hk1 _ _ ho,hc⟩ ?_);rw[if_pos (by decide)];refine wpAny_bind (wpAny_seqItems (s:={s with heap:=h1}) (hk1 _ _ ho) hd (wpAny_pure ?_));show wpAny _ A.in1 (holding _ (dictSet d _ _)) _ _ _;refine wpAny_holding ?_;refine wpAny_dictSet_pairs (s:={s with heap:=h1}) (knd:=h7 prog w) (k:=Sum.inl (ps[i].1)) (l0o prog w _ t) (hdo.sameBut sb hne) (hsz:=Nat.le_trans (by rw[←hkv.length];omega:vs.length≤1000) (by decide)) fun h2 hdo2 sb2=>?_
  refine wpAny_pure ⟨plainId_quiet h9 _,?_⟩;have hk2:∀b o,h0.get? b=some o→h2.get? b=some o:=fun b o hb=>(sb2.2 b (fun z=>absurd (Heap.lt_size hb) (Nat.not_lt.mpr (z▸hd0)))).trans (hk1 b o hb)
  have:=ih (i+1) {s with heap:=h2,toks:=s.toks+1} 0 (putK kvs (Sum.inl ps[i].1) ps[i].2) _ (by omega) (by omega) hk2 (hit1.at fun o e=>(sb2.2 it (fun z=>hne z.symm)).trans e) (hkv.put _ ry) ?_ hdo2 fun h' tk' vs' k' kv' do'=>?_
  ·exact this
  ·unfold putK;split
   ·rw[List.length_map];omega
   ·rw[List.length_append,List.length_singleton];omega
  ·refine hR h' tk' vs' k' ?_ do';rw[List.drop_eq_getElem_cons hlt];exact kv'
theorem h0h{l:Addr}{its:Array Value}{ps:List (Int×V)}{Q:Value→Shared→Prop}(hh:A.handled=none)(hl:PlainL s.heap l its)(hlen:its.size=ps.length)
 (hps:∀(i:Nat) (p:Int×V),ps[i]?=some p→∃(a:Addr) (t:Tok) (y:Value),its[i]?=some (.ref a)∧RelV p.2 y∧IsTup s.heap a #[.int p.1 t,y]) (hsz:ps.length≤1000)
 (h:∀h' tk vs',(∀b o,s.heap.get? b=some o→h'.get? b=some o)→KV (ps.foldl (fun m p=>putK m (Sum.inl p.1) p.2) []) vs'→h'.DictOf (h7 prog w) s.heap.objs.size vs'→Q (.ref s.heap.objs.size) {s with heap:=h',toks:=tk}):
 wpAny (model prog w) A (call (.type "dict") [.ref l]) Q E s:=by
 refine callType_codes (Q₁:=fun obj s₁=>obj=.ref s.heap.objs.size∧s₁={s with heap:=s.heap.push {cls:=.type "dict",data:=.dict #[]}}) F.kt_called_dict (F.kt_typeCall_dict_1 _) F.entry_dict_init (kt_code_dict_new _ ⟨rfl,rfl⟩) ?_;rintro obj s₁ ⟨rfl,rfl⟩;have hnew:(s.heap.push {cls:=.type "dict",data:=.dict #[]}).DictOf (h7 prog w) s.heap.objs.size []:=Heap.DictOf.new s.heap;obtain ⟨o,n,ho,hc,hdn,hd⟩:=hl;have ho':=Heap.get?_push_of_some {cls:=.type "dict",data:=.dict #[]} ho;refine ⟨hnew.typeIs,F.args_dict_init_2 _ _,?_⟩;unfold Builtin.«dict.__init__»;refine wpAny_bind ?_;unfold Builtin.Dict.selfAndRest;refine wpAny_bind (wpAny_notOrdered_dict hnew.typeIs ?_);show wpAny _ _ (pure (s.heap.objs.size,[Value.ref l])) _ _ _;refine wpAny_pure ?_;show wpAny _ _ (Builtin.Dict.updateFrom "dict.__init__" s.heap.objs.size (.ref l) [] .none) _ _ _;unfold Builtin.Dict.updateFrom;refine wpAny_bind (wpAny_typeOf (T:="list") ⟨_,ho',hc⟩ ?_);rw[if_pos (by decide)];refine wpAny_bind (e0c (A:=A.in1.in1) ho' hc hd hdn hh fun h1 tk1 k1=>?_);rw[if_pos (by decide)];refine wpAny_bind (wpAny_rule ?_);refine wpAny_bind (wpAny_pyIter_list (s:={s with heap:=h1,toks:=tk1}) ⟨o,k1 _ _ ho',hc,n,hd⟩ ?_);have k2:∀b o,s.heap.get? b=some o→(h1.push {cls:=.type "list_iterator",data:=.fields #[.ref l,.int 0 0]}).get? b=some o:=fun b o e=>Heap.get?_push_of_some _ (k1 b o (Heap.get?_push_of_some _ e))
 have hd1:h1.DictOf (h7 prog w) s.heap.objs.size []:=by obtain ⟨o,es,ep,ho,r⟩:=hnew;exact ⟨o,es,ep,k1 _ _ ho,r⟩
 have lt1:s.heap.objs.size<h1.objs.size:=by obtain ⟨_,_,_,ho,_⟩:=hd1;exact Heap.lt_size ho
 refine wpAny_pure ⟨plainId_quiet h9 _,e0b (A:=A.in1) (h0:=s.heap) (l:=l) (items:=its) (ps:=ps) hh ⟨o,ho,hc,n,hd⟩ (Nat.le_refl _) (Nat.le_of_lt lt1) (Nat.ne_of_lt lt1) hlen hps hsz _ 0 _ _ [] [] rfl (Nat.zero_le _) k2 ⟨_,Heap.get?_push_size _ rfl,rfl,rfl⟩ .nil (Nat.le_refl _) (hd1.push _) fun h' tk vs' k' kv' do'=>?_⟩;exact ⟨rfl,h h' tk vs' k' kv' do'⟩
theorem k0r{d:Addr}{kvs:List (Key×Value)}{ns:List Int}{Q:Value→Shared→Prop}(hh:A.handled=none)(lo:(d==sysModules)=false)(hd:s.heap.DictOf (h7 prog w) d kvs)(hk:kvs.map (·.1)=ns.map Sum.inl)(h64:ns.length<64)
 (h:∀(h1 h':Heap) (tk:Nat) (vs':List Value) (ns':List Int) (e:Nat),(∀b o,s.heap.get? b=some o→h1.get? b=some o)→(∀b o,h1.get? b=some o→h'.get? b=some o)→h'.get? h1.objs.size=some (seqObj "list" vs'.toArray e)→IntsAre vs' ns'→ns'.Perm ns→ns'.Pairwise (·≤·)→Q (.ref h1.objs.size) {s with heap:=h',toks:=tk}):
 wpAny (model prog w) A (call (.builtin "sorted") [.ref d]) Q E s:=by
 have hkl:kvs.length=ns.length:=by have:=congrArg List.length hk;simpa using this
 obtain ⟨ep,hat⟩:=hd.dictAt;refine Calls.call_function_entry kind_sorted plain_sorted entry_sorted (args_sorted1 _) ?_;unfold Builtin.«sorted»;refine wpAny_bind (m:=checkCount "sorted" 1 1 _) (wpAny_pure ?_);refine wpAny_bind (kdu_collect (A:=A.in1) (kdl_dict (knd:=h7 prog w) (kvs:=kvs) (ep:=ep) lo) hh hat (by rw[hkl];exact Nat.le_trans (Nat.le_of_lt h64) (by decide)) fun h1 tk acc k1 ha=>?_);have hI:IntsAre acc.toList ns:=by
  have hl:acc.toList.length=ns.length:=by rw[Array.length_toList,ha.1,hkl]
  have hat:∀(j:Nat) (v:Value) (n:Int),acc.toList[j]?=some v→ns[j]?=some n→∃t,v=.int n t:=fun j v n e1 e2=>by
   obtain ⟨k,x,e3,e4⟩:=ha.2 j v (by rw[←Array.getElem?_toList];exact e1);have e5:(kvs.map (·.1))[j]?=some k:=by rw[List.getElem?_map,e3];rfl
   rw[hk,List.getElem?_map,e2]at e5;cases e5;rcases i4 (k:=Sum.inl n) (v:=v) e4 with ⟨i,t,e6,e7⟩|⟨x,t,e6,e7⟩
   ·cases e6;exact ⟨t,e7⟩
   ·cases e6
  generalize acc.toList=vs at hl hat
  clear hk hkl h64 h ha
  induction vs generalizing ns with
  |nil=>cases ns with |nil=>exact .nil |cons n ns=>cases hl
  |cons v vs ih=>
   cases ns with
   |nil=>cases hl
   |cons n ns=>
    obtain ⟨t,rfl⟩:=hat 0 v n rfl rfl;exact .cons n t (ih (Nat.succ.inj hl) fun j v n e1 e2=>hat (j+1) v n e1 e2)
 have hl:acc.toList.length=ns.length:=by rw[Array.length_toList,ha.1,hkl]
 refine wpAny_bind (wpAny_newList ?_ (by rw[hl];exact Nat.le_trans (Nat.le_of_lt h64) (by decide)));have hoL:(h1.push (seqObj "list" acc.toList.toArray 0)).get? h1.objs.size=some (seqObj "list" acc.toList.toArray 0):=Heap.get?_push_size _ rfl;show wpAny _ _ _ _ _ {s with heap:=h1.push (seqObj "list" acc.toList.toArray 0),toks:=tk};refine wpAny_bind (wpAny_holding (wpAny_call_entry slot_list_sort ⟨_,hoL,rfl⟩ entry_list_sort (list_sort_tree hoL hI (by omega) fun out ns' a1 a2 a3=>⟨_,rfl,?_⟩) (args_list_sort _)));obtain ⟨e,he⟩:=sortedHeap_at (out:=out) hoL;refine wpAny_pure ⟨_,rfl,h h1 _ tk out.toList ns' e k1 (fun b o' hb1=>?_) (by simpa using he) a1 a2 a3⟩;have hlt:=Heap.lt_size hb1;rw[sortedHeap_old (Nat.ne_of_lt hlt) (by rw[size_push'];exact Nat.lt_succ_of_lt hlt),Heap.get?_push_ne _ _ _ (Nat.ne_of_lt hlt)];exact hb1
end
noncomputable def dedZ(ks:List Int):List Int:=ks.foldl (fun m k=>if k∈m then m else m++[k]) []
theorem e0a{m:List (Key×V)}{l:List Int}{k:Int}{v:V}(h:m.map (·.1)=l.map Sum.inl):(putK m (Sum.inl k) v).map (·.1)=(if k∈l then l else l++[k]).map Sum.inl:=by
 have ha:(m.any fun kv=>decide (kv.1=Sum.inl k))=decide (k∈l):=by
  rw[Bool.eq_iff_iff,List.any_eq_true,decide_eq_true_eq];constructor
  ·rintro ⟨kv,h1,h2⟩;have:kv.1∈l.map (Sum.inl:Int→Key):=by rw[←h];exact List.mem_map.mpr ⟨kv,h1,rfl⟩
   obtain ⟨z,h3,h4⟩:=List.mem_map.mp this;rw[of_decide_eq_true h2]at h4;cases h4;exact h3
  ·intro h1;have:(Sum.inl k:Key)∈m.map (·.1):=by rw[h];exact List.mem_map.mpr ⟨k,h1,rfl⟩
   obtain ⟨kv,h3,h4⟩:=List.mem_map.mp this;exact ⟨kv,h3,decide_eq_true h4⟩
 unfold putK;rw[ha];by_cases e:k∈l
 ·rw[if_pos (decide_eq_true e),if_pos e,← h,List.map_map];apply List.map_congr_left;intro a _;show (if a.1=Sum.inl k then (a.1,v)else a).1=a.1;split<;>rfl
 ·rw[if_neg (by rw[decide_eq_false e];decide),if_neg e,List.map_append,List.map_append,h];rfl
theorem p0q:∀{ps:List (Int×V)} {m:List (Key×V)} {l:List Int},m.map (·.1)=l.map Sum.inl→(ps.foldl (fun m p=>putK m (Sum.inl p.1) p.2) m).map (·.1)=((ps.map (·.1)).foldl (fun m k=>if k∈m then m else m++[k]) l).map Sum.inl
 | [],m,l,h=>h
 |p::ps,m,l,h=>p0q (ps:=ps) (e0a h)
theorem s0l:∀{ks l:List Int},l.Nodup→(ks.foldl (fun m k=>if k∈m then m else m++[k]) l).Nodup∧(∀x,x∈ks.foldl (fun m k=>if k∈m then m else m++[k]) l↔x∈l∨x∈ks)∧(ks.foldl (fun m k=>if k∈m then m else m++[k]) l).length≤l.length+ks.length
 | [],l,h=>⟨h,fun x=>by simp,Nat.le_refl _⟩
 |k::ks,l,h=>by
  rw[List.foldl_cons];by_cases e:k∈l
  ·rw[if_pos e];obtain ⟨h1,h2,h3⟩:=s0l (ks:=ks) h;refine ⟨h1,fun x=>?_,by rw[List.length_cons];omega⟩;rw[h2,List.mem_cons];constructor
   ·rintro (h |h)
    ·exact .inl h
    ·exact .inr (.inr h)
   ·rintro (h |rfl |h)
    ·exact .inl h
    ·exact .inl e
    ·exact .inr h
  ·rw[if_neg e];obtain ⟨h1,h2,h3⟩:=s0l (ks:=ks) (l:=l++[k]) (by rw[List.nodup_append];exact ⟨h,by simp,fun a ha b hb z=>by rw[List.mem_singleton.mp hb]at z;exact e (z▸ha)⟩);refine ⟨h1,fun x=>?_,by rw[List.length_append,List.length_singleton]at h3;rw[List.length_cons];omega⟩;rw[h2,List.mem_append,List.mem_singleton,List.mem_cons,or_assoc]
theorem h0g{ks:List Int}:(dedZ ks).Nodup:=(s0l List.nodup_nil).1
theorem b0c{ks:List Int}{x:Int}:x∈dedZ ks↔x∈ks:=by have:=(s0l (ks:=ks) List.nodup_nil).2.1 x;simpa[dedZ]using this
theorem b0b{ks:List Int}:(dedZ ks).length≤ks.length:=by have:=(s0l (ks:=ks) List.nodup_nil).2.2;simpa[dedZ]using this
section
variable{X:Cx}
noncomputable def z1u(K:PySem.W.Frag):List V→Hp→VK→Prop:=fun vs H Q=>∃(a:Addr) (ps:List (Int×V)) (xs:List V),vs=[.ref a]∧Sq K false H a xs∧xs.length=ps.length∧(∀(i:Nat) (p:Int×V),ps[i]?=some p→∃b,xs[i]?=some (.ref b)∧Sq K true H b [.int p.1,p.2])∧ps.length<64∧
 ∀l,H l=none→Q (.ref l) (upd H l (.dK (ps.foldl (fun m p=>putK m (Sum.inl p.1) p.2) [])))
theorem h0f(hc:X.calm=true):y0c X (.type "dict") (z1u X.K):=by
 intro pins s σ H xs us Q I rv h;obtain ⟨a,ps,xs,rfl,hq,hl,hps,h64,q⟩:=h;obtain ⟨u,rfl,ru⟩:=rv.one;cases (show u=Value.ref a from ru);obtain ⟨its,r,pl,hz⟩:=I.list hq;have hlen:=r.length;refine h0h (I.ok.hd hc) pl (by simp;omega) (fun i p e=>?_) (Nat.le_trans (Nat.le_of_lt h64) (by decide)) fun h' tk vs' k' kv' do'=>?_
 ·obtain ⟨b,e1,e2⟩:=hps i p e;obtain ⟨its2,r2,tp,_⟩:=I.tuple e2;obtain ⟨v,e3,e4⟩:=r.get e1;cases (show v=Value.ref b from e4);cases r2 with
  |cons ra rb=>
   obtain ⟨t,rfl⟩:=ra;cases rb with
   |cons rc rd=>
    cases rd;exact ⟨b,t,_,by simpa using e3,rc,tp⟩
 ·have hm:∀{ps:List (Int×V)} {m:List (Key×V)},(ps.foldl (fun m p=>putK m (Sum.inl p.1) p.2) m).length≤m.length+ps.length:=by
   intro ps
   induction ps with
   |nil=>intro m;exact Nat.le_refl _
   |cons p ps ih=>
    intro m;have:=ih (m:=putK m (Sum.inl p.1) p.2);rw[List.foldl_cons,List.length_cons];have h2:(putK m (Sum.inl p.1) p.2).length≤m.length+1:=by
     unfold putK;split
     ·rw[List.length_map];omega
     ·rw[List.length_append,List.length_singleton];omega
    omega
  have hm:=hm (ps:=ps) (m:=[]);have hf:=I.hok.fresh (Nat.le_refl s.heap.objs.size);refine ⟨.ref s.heap.objs.size,_,I.laid (t':=tk) k' (Nat.le_refl _) (show ObjOk X.prog X.w _ h' _ (.dK _)from ⟨Nat.le_trans (Nat.le_trans hm (by simp;omega:_≤64)) (by decide),?_,vs',kv',do'⟩),rfl,q _ hf⟩;exact beq_eq_false_iff_ne.mpr (Nat.ne_of_gt I.big)
noncomputable def z1t:List V→Hp→VK→Prop:=fun vs H Q=>∃(a:Addr) (kvs:List (Key×V)) (ns:List Int),vs=[.ref a]∧Rd H a (.dK kvs)∧kvs.map (·.1)=ns.map Sum.inl∧ns.length<64∧∀l,H l=none→Q (.ref l) (upd H l (.lst ((m0z ns).map V.int)))
theorem m0y(hc:X.calm=true):y0c X (.builtin "sorted") z1t:=by
 intro pins s σ H xs us Q I rv h;obtain ⟨a,kvs,ns,rfl,rd,hk,h64,q⟩:=h;obtain ⟨u,rfl,ru⟩:=rv.one;cases (show u=Value.ref a from ru);obtain ⟨hz,lo,vs,rel,dd⟩:=dk_rd I.hok rd;have hk2:vs.map (·.1)=ns.map Sum.inl:=by rw[←hk,rel.keys]
 refine k0r (I.ok.hd hc) lo dd hk2 h64 fun h1 h' tk vs' ns' e k1 k2 he hi hp ho'=>?_
 have I1:Inv X pins σ H {s with heap:=h1}:=I.kept (t':=s.toks) k1;have es:=b0f hp ho';subst es;exact ⟨.ref h1.objs.size,_,I1.laid (t':=tk) k2 (Nat.le_refl _) (show ObjOk X.prog X.w _ _ _ (.lst ((m0z ns).map V.int))from ⟨by rw[List.length_map,hp.length_eq];exact Nat.le_trans (Nat.le_of_lt h64) (by decide),vs',e,n0a hi,he⟩),rfl,q _ (I1.hok.fresh (Nat.le_refl _))⟩
end
end L2
namespace DL
open PySem PySem.Spec L2
noncomputable def p0p:List D→Option (List (Int×D))
 | []=>some []
 | .tup [.int k,d]::xs=>(p0p xs).map ((k,d)::·)
 |_=>none
theorem y0r{α:Type}(f:α→Int)(g:α→D):∀l:List α,p0p (l.map fun a=>.tup [.int (f a),g a])=some (l.map fun a=>(f a,g a))
 | []=>rfl
 |a::l=>by rw[List.map_cons,p0p,y0r f g l];rfl
theorem k0q{K:PySem.W.Frag}{F:Hp}:∀{xs:List D} {ps:List (Int×D)} {vs:List V},p0p xs=some ps→Reps K F xs vs→∃us:List (Int×V),us.map (·.1)=ps.map (·.1)∧vs.length=us.length∧∀(i:Nat) (p:Int×V),us[i]?=some p→∃b,vs[i]?=some (.ref b)∧F b=some (.tup [.int p.1,p.2]):=by
 intro xs
 induction xs with
 |nil=>intro ps vs h r;cases h;rw[reps_nil.mp r];exact ⟨[],rfl,rfl,fun i p e=>by simp at e⟩
 |cons x xs ih=>
  intro ps vs h r;unfold p0p at h;split at h
  ·cases ‹_::_=_›
  ·rename_i k d xs' e;cases e;rw[Option.map_eq_some_iff]at h;obtain ⟨ps',h1,rfl⟩:=h;obtain ⟨v,r,rfl,r1,r2⟩:=reps_cons.mp r;obtain ⟨us,u1,u2,u3⟩:=ih h1 r2;obtain ⟨b,ws,rfl,hb,rw1⟩:=rep_tup.mp r1;obtain ⟨w1,ws',rfl,ra,rb⟩:=reps_cons.mp rw1;obtain ⟨w2,ws'',rfl,rc,rd⟩:=reps_cons.mp rb;cases reps_nil.mp rd;cases rep_int.mp ra;refine ⟨(k,w2)::us,by rw[List.map_cons,List.map_cons,u1],by rw[List.length_cons,List.length_cons,u2],fun i p e=>?_⟩;cases i with
   |zero=>cases e;exact ⟨b,rfl,hb⟩
   |succ i=>exact u3 i p e
  ·cases h
noncomputable def p0o:F1:=fun ds q=>match ds with
 | [.lst xs]=>(match p0p xs with |some ps=>ps.length<64∧q (.lst ((m0z (dedZ (ps.map (·.1)))).map D.int))|none=>False)
 |_=>False
theorem x1m{K:PySem.W.Frag}:w0y K (fun vs H Q=>z1u K vs H fun v H1=>z1t [v] H1 Q) p0o:=by
 intro Y F H σ ρ δ vs ds Q1 q I r h' k;unfold p0o at h';split at h'
 ·rename_i xs;split at h'
  ·rename_i ps e1;obtain ⟨h64,hq⟩:=h';obtain ⟨v,rfl,r1⟩:=z0f r;obtain ⟨a,ws,rfl,ha,rws⟩:=rep_lst.mp r1;obtain ⟨us,u1,u2,u3⟩:=k0q e1 rws;have ul:us.length=ps.length:=by have:=congrArg List.length u1;simpa using this
   refine ⟨a,us,ws,rfl,I.sub.sq (b:=false) (.inl (.inl ha)),u2,fun i p e=>?_,by omega,fun l hl=>?_⟩
   ·obtain ⟨b,e2,e3⟩:=u3 i p e;exact ⟨b,e2,I.sub.sq (b:=true) (.inl (.inl e3))⟩
   ·refine ⟨l,_,dedZ (us.map (·.1)),rfl,.inl (x3),p0q (l:=[]) rfl,?_,fun l2 hl2=>?_⟩
    ·have:=b0b (ks:=us.map (·.1));rw[List.length_map]at this;omega
    ·rw[u1];have I1:=I.alloc (o:=.dK (us.foldl (fun m p=>putK m (Sum.inl p.1) p.2) [])) hl;exact k _ _ _ _ (I1.alloc hl2) ((I.grow hl).trans (I1.grow hl2)) (I1.lst hl2 (s0q _)) hq
  ·exact h'.elim
 ·exact h'.elim
theorem x1l:bootBuiltins "dict"=some (.type "dict"):=by kernel_rfl
section
variable{X:Cx}{Y:Y2}{W:XW}{e:Expr}{te:TE2}{p p2 pos pos2:Pos}
theorem i0i(hc:X.calm=true)(hm:X.mg "sorted"=none)(hm2:X.mg "dict"=none)(ha:PE2 X Y W e te)(hg:Gl X "sorted":=by rfl)(hg2:Gl X "dict":=by rfl)
 (he:starEach [e] X.env=[(false,eval e X.env)]:=by exact l5 rfl) (he2:starEach [.Call (.Name "dict" p2) [e] [] pos2] X.env=[(false,eval (.Call (.Name "dict" p2) [e] [] pos2) X.env)]:=by exact l5 rfl):
 PE2 X Y W (.Call (.Name "sorted" p) [.Call (.Name "dict" p2) [e] [] pos2] [] pos) (t2Bi p0o (w5 te x0t)):=
 pe2 (p0l (m0y hc) hg hm n0c (l0l (n0z (h0f hc) hg2 hm2 x1l (v0 ha s0 he).go (by decide) (by decide) he rfl) g0i he2) (by decide) (by decide) he2 rfl) fun σ H Q h=>y1p x1m h
end
end DL
namespace HD
open PySem PySem.W PyProof.Rows PySem.Calls
noncomputable abbrev N:Value:=.none
noncomputable abbrev r(a:Nat):Value:=.ref a
noncomputable abbrev s(x:String)(t:Nat):Value:=.str (Str.ofString x) t
noncomputable abbrev i(n:Int)(t:Nat):Value:=.int n t
noncomputable abbrev b(x:Bool):Value:=.bool x
noncomputable abbrev ty(x:String):Value:=.type x
noncomputable abbrev bi(x:String):Value:=.builtin x
noncomputable abbrev ob(c:Value)(d:Data):Obj:={cls:=c,data:=d}
noncomputable abbrev tp(l:List Value):Obj:=ob (.type "tuple") (.seq ⟨l⟩)
noncomputable abbrev fl(c:Value)(l:List Value):Obj:=ob c (.fields ⟨l⟩)
noncomputable abbrev en(P:Params)(x:String)(t:Nat)(v:Value):DictEntry:=⟨PyData.keyHash P (Str.ofString x),.str (Str.ofString x) t,v⟩
noncomputable abbrev di(l:List DictEntry)(n:Nat):Obj:=ob (.type "dict") (.dict ⟨l⟩ n)
noncomputable abbrev fn(c:Value)(n q:String)(st:Stmt)(g:Nat)(m cd:Value):Obj:=
 ob c (.func {name:=Str.ofString n,qualname:=Str.ofString q,params:=L2.defArgs st,body:=.stmts (L2.defBody st),scope:=L2.defScope st,globals:=g,closure:=[],defaults:=.none,kwdefaults:=.none,pyModule:=m,code:=cd})
noncomputable abbrev co(n:String)(bs mro:List Value)(ns:Nat)(q:String)(hd hl:Bool)(subs:List Value)(sl:List (Option Value)):Obj:={cls:=.type "type",data:=.cls {name:=Str.ofString n,bases:=bs,mro:=mro,ns:=ns,qualname:=Str.ofString q,hasDict:=hd,hasDel:=hl,subclasses:=subs},slots:=⟨sl⟩}
noncomputable def x(g:Params→List Obj)(i:Nat)(P:Params):Obj:=(g P).getD i default
noncomputable def insT(t:BT):Nat→Obj→BT:=
 @BT.rec (fun _=>Nat→Obj→BT) (fun _ o=>.node o .nil .nil)
  (fun v l r ihl ihr i o=>@Bool.rec (fun _=>BT) (@Bool.rec (fun _=>BT) (.node v l (ihr (i/2-1) o)) (.node v (ihl (i/2) o) r) (Nat.beq (i%2) 1)) (.node o l r) (Nat.beq i 0)) t
noncomputable def insL(l:List Obj):Nat→BT→BT:=
 @List.rec Obj (fun _=>Nat→BT→BT) (fun _ t=>t) (fun o _ ih n t=>ih (Nat.succ n) (insT t n o)) l
noncomputable def setL(l:List (Nat×Obj)):BT→BT:=
 @List.rec (Nat×Obj) (fun _=>BT→BT) (fun t=>t) (fun p _ ih t=>ih (insT t p.1 p.2)) l
section
variable{p:Program}{w:World}{n₀:Nat}{ann:Option Value}{bb n:Nat}{st:SharedT}{l:List Stmt}{env:Env}{c:Code}{q:Pos}{B:List Frame}{rr:Option (Flow×SharedT×Code×Pos)}
theorem i6(h:PySem.W.Fast.tw10110043849684766642 PySem.W.Fast.tw14364793385576792824 p w n₀ ann bb n st ⟨(PySem.W.Fast.tw12563942051412417395 l env).wrap doneF deadEnd id id,c,q,B⟩=rr):
 segRunT treeTable p w n₀ ann bb n st (piecesOf l env c q B)=rr:=by
 unfold piecesOf;rw[PySem.W.Fast.te10110043849684766642,PySem.W.Fast.te14364793385576792824,PySem.W.Fast.te12563942051412417395];exact h
theorem turnGo{s:Shared}{t:Thread}{r:Option (Shared×Thread)}(h:PySem.W.Fast.tw15667345088766844465 PySem.W.Fast.tw14364793385576792824 p w n₀ ann n s t=r):topGo treeTable p w n₀ ann n s t=r:=by
 rw[PySem.W.Fast.te15667345088766844465,PySem.W.Fast.te14364793385576792824];exact h
theorem x1k{s:Shared}{t:Thread}{r:Option Shared}(h:PySem.W.Fast.tw14082659384304107361 PySem.W.Fast.tw14364793385576792824 p w n₀ ann n s t=r):topRun treeTable p w n₀ ann n s t=r:=by
 rw[PySem.W.Fast.te14082659384304107361,PySem.W.Fast.te14364793385576792824];exact h
theorem d0z{s:Shared}{r:Option (Flow×Shared×Code×Pos)}(h:PySem.W.Fast.tw14374325043358763698 PySem.W.Fast.tw14364793385576792824 p w n₀ ann bb n s ⟨(PySem.W.Fast.tw1066825118222455980 l env).wrap (fun _=>doneF .next) deadEnd id id,c,q,B⟩=r):
 segRun treeTable p w n₀ ann bb n s (blockOf l env c q B)=r:=by
 unfold blockOf;rw[PySem.W.Fast.te14374325043358763698,PySem.W.Fast.te14364793385576792824,PySem.W.Fast.te1066825118222455980];exact h
theorem m0x{N:Nat}{s s' r:Shared}{b b':List Stmt}{pos p' q:Pos}(e:b=b')(h:segRun treeTable p w n₀ ann 1 n s (blockOf b env c pos [topFrame q])=some (.next,s',c,p'))
 (k:topRun treeTable p w n₀ ann N s' (restOf b' env c p' [topFrame q])=some r):topRun treeTable p w n₀ ann (n+N) s ⟨denote treeTable (.body b env),c,pos,[topFrame q]⟩=some r:=by
 subst e;exact piece_block h k
end
noncomputable def FnF(K:PySem.W.Frag)(x:Str)(st:Stmt):Prop:=∃f fd,PySem.W.nsIn K mainGlobals x=some (some (.ref f))∧L2.Fun K x x st f fd
theorem FnF.at{K:PySem.W.Frag}{h:Heap}{mg:Str→Option Value}{x:Str}{st:Stmt}(F:FnF K x st)(X:K.In h)(G:h.Ns mainGlobals mg){ps:List Str}
 (b:∀(kV doc pm:Value) (an:Option Addr) (cdv ct:Value) (us:List Value),us.length=ps.length→bindArgs (PySem.W.fnOf x x (L2.defArgs st) (L2.defBody st) (L2.defScope st) .none kV doc pm an cdv ct) ⟨us,[]⟩=pure (ps.zip us)):∃f fd,L2.DefAt K mg x st ps f fd:=by
 obtain ⟨f,fd,a,u⟩:=F;exact ⟨f,fd,u,PySem.W.mg_of X G a,u.binds b⟩
noncomputable def XMkF(K:PySem.W.Frag)(C:Addr)(q:Str)(st:Stmt):Prop:=∃f fd,L2.XMk K C f∧L2.Fun K "__init__" q st f fd
noncomputable def MkF(K:PySem.W.Frag)(C:Addr)(q:Str)(st:Stmt):Prop:=∃f fd,L2.Mk K C f∧L2.Fun K "__init__" q st f fd
end HD
set_option maxHeartbeats 8000000
namespace K08
open PySem L2 DL
open PySem.W (XC)
local macro_rules | `(tactic|walk_at "dl")=>do
 let ids:=("l0a k0z Nat.reduceAdd Nat.reduceLT Nat.reduceLeDiff Nat.reduceSub Nat.zero_add n0p b0y n0o h0o f0j f0i b0x f0h n0m n0l i0t t2MV l0b n0k z0m t0h t0j t0i b0v forL r8 y0a capt List.map_cons List.map_nil t2Is t2R1 t2R2 p0j t2C t2V x0t w5 c0e f0t t2Op t2B f0r t2Or i0y i0x t2If w0b t2Bi t2Un rdV hasV seqV mutV ixQ seqD addF addG sumF b0l b0k v0y i0l p0h x0v tgD fI fI0 eqF neF eqD isNF b0z p0w isBF ixF inF lenF absF minF intF f0l p0u allF h0p subF mulF c0a modF powF ltF leF gtF geF g2N g2T s0s w0a List.getElem?_cons_zero List.getElem?_cons_succ List.set_cons_zero List.set_cons_succ List.length_cons List.length_nil List.lookup_cons if_true if_false Bool.false_eq_true Bool.not_true Bool.not_false decide_eq_true_eq if_pos ite_true ite_false true_and and_true List.cons_append List.nil_append e0h p0o".splitOn " ").toArray.map fun s=>Lean.mkIdent s.toName
 let args←ids.mapM fun i=>`(Lean.Parser.Tactic.simpLemma| $i:ident)
 `(tactic|simp only[reduceIte,↓reduceIte,$args,*])
local macro_rules | `(tactic|walk_at "dn")=>do
 let ids:=("l0a k0z Nat.reduceAdd Nat.reduceLT Nat.reduceLeDiff Nat.reduceSub Nat.zero_add n0p b0y n0o h0o f0j f0i b0x f0h n0m n0l i0t t2MV l0b n0k z0m t0h t0j t0i b0v y0a capt List.map_cons List.map_nil t2Is t2R1 t2R2 p0j t2C t2V x0t w5 c0e f0t t2Op t2B f0r t2Or i0y i0x t2If w0b t2Bi t2Un rdV hasV seqV mutV ixQ seqD addF addG sumF b0l b0k v0y i0l p0h x0v tgD fI fI0 eqF neF eqD isNF b0z p0w isBF ixF inF lenF absF minF intF f0l p0u allF h0p subF mulF c0a modF powF ltF leF gtF geF g2N g2T s0s w0a List.getElem?_cons_zero List.getElem?_cons_succ List.set_cons_zero List.set_cons_succ List.length_cons List.length_nil List.lookup_cons if_true if_false Bool.false_eq_true Bool.not_true Bool.not_false decide_eq_true_eq if_pos ite_true ite_false true_and and_true List.cons_append List.nil_append e0h p0o".splitOn " ").toArray.map fun s=>Lean.mkIdent s.toName
 let args←ids.mapM fun i=>`(Lean.Parser.Tactic.simpLemma| $i:ident)
 `(tactic|simp only[reduceIte,↓reduceIte,$args,*])
noncomputable def top(i:Nat):Stmt:=PySem.Challenge.pw_wearplan_k08_whole_several_at_once.main.body.getD i (.Pass ⟨0,0,0,0⟩)
noncomputable abbrev x0p:Stmt:=top 10
noncomputable abbrev v0w:Stmt:=top 11
noncomputable abbrev p0f:Stmt:=top 12
noncomputable abbrev b8:Stmt:=top 13
noncomputable abbrev q8:Stmt:=top 14
noncomputable abbrev d0y:Stmt:=top 19
noncomputable abbrev v0v:Stmt:=top 20
noncomputable abbrev f9:Stmt:=top 21
noncomputable abbrev v0u:Stmt:=top 27
noncomputable abbrev s0k:Stmt:=top 28
noncomputable abbrev f6:Stmt:=top 29
noncomputable abbrev x0o:Stmt:=top 30
noncomputable abbrev s0j:Stmt:=top 31
noncomputable abbrev d9:Stmt:=top 33
noncomputable abbrev z0d:Stmt:=top 34
noncomputable abbrev v0t:Stmt:=top 35
noncomputable abbrev d7:Stmt:=top 36
noncomputable abbrev x0n:Stmt:=top 37
noncomputable abbrev a8:Stmt:=top 38
noncomputable abbrev z0c:Stmt:=top 39
noncomputable abbrev o8:Stmt:=top 40
noncomputable abbrev z9:Stmt:=top 41
noncomputable abbrev v0s:Stmt:=top 42
noncomputable abbrev s0i:Stmt:=top 43
noncomputable abbrev d0x:Stmt:=top 44
noncomputable abbrev v0r:Stmt:=top 46
noncomputable abbrev v0q:Stmt:=top 47
noncomputable abbrev v0p:Stmt:=top 48
noncomputable abbrev v0o:Stmt:=top 49
noncomputable abbrev v0n:Stmt:=top 50
noncomputable abbrev v0m:Stmt:=top 51
noncomputable abbrev x0m:Stmt:=top 52
noncomputable abbrev x0l:Stmt:=top 53
noncomputable abbrev v0l:Stmt:=top 54
noncomputable abbrev z0b:Stmt:=top 55
noncomputable abbrev s_law_cost:Stmt:=top 56
noncomputable abbrev b9:Stmt:=top 57
noncomputable abbrev s_law_ways:Stmt:=top 58
noncomputable abbrev a9:Stmt:=top 59
noncomputable abbrev y9:Stmt:=top 60
noncomputable abbrev x1j:Stmt:=top 61
noncomputable abbrev z0z:Stmt:=inClass (top 2) 0
noncomputable abbrev x9:Stmt:=inClass (top 3) 0
noncomputable abbrev z0y:Stmt:=inClass (top 6) 0
noncomputable abbrev x0k:Stmt:=inClass (top 7) 0
noncomputable abbrev z0a:Stmt:=inClass (top 8) 0
noncomputable abbrev x0j:Stmt:=inClass (top 18) 0
noncomputable abbrev y0z:Stmt:=inClass (top 26) 0
structure Cs where
 W:Addr
 Part:Addr
 Works:Addr
 NoPart:Addr
 NoWorks:Addr
 NoStands:Addr
 NoRounds:Addr
 NoPlan:Addr
 Shut:Addr
 Falls:Addr
noncomputable def Cs.ds(c:Cs):List Addr:=[c.NoPart,c.NoWorks,c.NoStands,c.NoRounds,c.NoPlan,c.Shut,c.Falls]
structure Txt(K:PySem.W.Frag)(mg:Str→Option Value)(cs:Cs):Prop where
 n_ValueError:mg "ValueError"=none
 n_abs:mg "abs"=none
 n_all:mg "all"=none
 n_bool:mg "bool"=none
 n_dict:mg "dict"=none
 n_enumerate:mg "enumerate"=none
 n_int:mg "int"=none
 n_isinstance:mg "isinstance"=none
 n_len:mg "len"=none
 n_list:mg "list"=none
 n_min:mg "min"=none
 n_range:mg "range"=none
 n_sorted:mg "sorted"=none
 n_sum:mg "sum"=none
 n_tuple:mg "tuple"=none
 n_zip:mg "zip"=none
 g_GREATEST_FIRST:∃t,mg "GREATEST_FIRST"=some (.int 47 t)
 g_MOST_ROUNDS:∃t,mg "MOST_ROUNDS"=some (.int 24 t)
 g_MOST_PARTS:∃t,mg "MOST_PARTS"=some (.int 4 t)
 g_GREATEST_CALL:∃t,mg "GREATEST_CALL"=some (.int 99 t)
 g_GREATEST_SHUT:∃t,mg "GREATEST_SHUT"=some (.int 47 t)
 c_WearError:mg "WearError"=some (.ref cs.W)
 h_WearError:XHd K cs.W
 c_Part:mg "Part"=some (.ref cs.Part)
 cl_Part:ClsI K cs.Part
 kn_Part:KNo K cs.Part
 f_Part_full:NoAttr K cs.Part "full"
 f_Part_mark:NoAttr K cs.Part "mark"
 f_Part_wear:NoAttr K cs.Part "wear"
 f_Part_price:NoAttr K cs.Part "price"
 c_Works:mg "Works"=some (.ref cs.Works)
 cl_Works:ClsI K cs.Works
 kn_Works:KNo K cs.Works
 f_Works_parts:NoAttr K cs.Works "parts"
 f_Works_call:NoAttr K cs.Works "call"
 f_Works_shut:NoAttr K cs.Works "shut"
 err:∀D∈cs.ds,ErrC K cs.W D
 ne:∀D∈cs.ds,D≠cs.W
 nd:cs.ds.Nodup
 c_NoPart:mg "NoPart"=some (.ref cs.NoPart)
 h_NoPart:XHd K cs.NoPart
 x_NoPart:xcIn K cs.NoPart=true
 a_NoPart_at:NoAttr K cs.NoPart "at"
 c_NoWorks:mg "NoWorks"=some (.ref cs.NoWorks)
 h_NoWorks:XHd K cs.NoWorks
 x_NoWorks:xcIn K cs.NoWorks=true
 a_NoWorks_at:NoAttr K cs.NoWorks "at"
 c_NoStands:mg "NoStands"=some (.ref cs.NoStands)
 h_NoStands:XHd K cs.NoStands
 x_NoStands:xcIn K cs.NoStands=true
 k_NoStands:XMk0 K cs.NoStands
 c_NoRounds:mg "NoRounds"=some (.ref cs.NoRounds)
 h_NoRounds:XHd K cs.NoRounds
 x_NoRounds:xcIn K cs.NoRounds=true
 k_NoRounds:XMk0 K cs.NoRounds
 c_NoPlan:mg "NoPlan"=some (.ref cs.NoPlan)
 h_NoPlan:XHd K cs.NoPlan
 x_NoPlan:xcIn K cs.NoPlan=true
 a_NoPlan_at:NoAttr K cs.NoPlan "at"
 c_Shut:mg "Shut"=some (.ref cs.Shut)
 h_Shut:XHd K cs.Shut
 x_Shut:xcIn K cs.Shut=true
 a_Shut_round_number:NoAttr K cs.Shut "round_number"
 c_Falls:mg "Falls"=some (.ref cs.Falls)
 h_Falls:XHd K cs.Falls
 x_Falls:xcIn K cs.Falls=true
 a_Falls_round_number:NoAttr K cs.Falls "round_number"
 a_Falls_part_number:NoAttr K cs.Falls "part_number"
noncomputable def DkAt(p:Addr)(ns:List Int)(n:Nat)(δ:Dk):Prop:=∃c k:Int,δ=some (p,[.scr (ns.map D.int),.int c,.int k])∧0≤c∧0≤k∧k≤n
noncomputable def d0w:Sp2:=fun ds δ q _=>∃(ns:List Int) (k:Int),ds=[.scr (ns.map D.int),.int k]∧0≤k∧∀r:Int,0≤r→q (.int r) δ
noncomputable def d0v:Sp2:=fun ds δ q _=>∃(ns:List Int) (k m:Int),ds=[.scr (ns.map D.int),.int k,.int m]∧0≤k∧k<2^40∧0<m∧∀r:Int,0≤r→r<m→q (.int r) δ
noncomputable def d0u:Sp2:=fun ds δ q _=>∃(ns:List Int),ds=[.scr (ns.map D.int)]∧δ=none∧∀p δ',DkAt p ns 0 δ'→q (.ref p) δ'
noncomputable def m0w:Sp2:=fun ds δ q _=>∃(p:Addr) (ns:List Int) (n:Nat) (m:Int),ds=[.ref p,.int m]∧DkAt p ns n δ∧n<2^30∧0<m∧m<2^30∧∀(d:Int) δ',0≤d→d<m→DkAt p ns (n+1) δ'→q (.int d) δ'
noncomputable def d0t(d:D):Bool:=match d with | .int _=>true |_=>false
noncomputable def p0e:Sp2:=fun ds δ q _=>match ds with | [d]=>p5 d=true∧q (.bl (d0t d)) δ |_=>False
noncomputable def y0y:Sp2:=fun ds δ q _=>match ds with | [d,.int lo,.int hi]=>p5 d=true∧q (.bl (u4 d lo hi)) δ |_=>False
noncomputable def numD(d:D)(j:Int):Bool:=match d with | .int i=>decide (i=j)|_=>false
noncomputable def c0h:Sp2:=fun ds δ q _=>match ds with | [d,.int j]=>p5 d=true∧q (.bl (numD d j)) δ |_=>False
noncomputable def rowD:D→Option (List D)| .lst xs=>some xs | .tup xs=>some xs |_=>none
noncomputable def i7(d:D):Bool:=(rowD d).isSome
noncomputable def l4(d:D):Bool:=p5 d&&(match rowD d with |some xs=>xs.all p5 |none=>true)
noncomputable def w0t(d:D)(a b lo hi:Int):Bool:=match rowD d with |some xs=>decide (a≤(xs.length:Int))&&decide ((xs.length:Int)≤b)&&xs.all (u4 · lo hi)|none=>false
noncomputable def k0p:Sp2:=fun ds δ q _=>match ds with | [d]=>p5 d=true∧q (.bl (i7 d)) δ |_=>False
noncomputable def m0v:Sp2:=fun ds δ q _=>match ds with | [d,.int a,.int b,.int lo,.int hi]=>l4 d=true∧b≤900∧q (.bl (w0t d a b lo hi)) δ |_=>False
theorem v0k{α:Type}(f:α→Bool):∀xs:List α,blsD (xs.map fun e=>D.bl (f e))=some (xs.map f)
 | []=>rfl
 |x::xs=>by rw[List.map_cons,List.map_cons];unfold blsD;rw[v0k f xs];rfl
theorem all_id(xs:List Bool):xs.all id=xs.all fun b=>b:=rfl
theorem s0h:(("call":Str)=="call")=true:=by decide +kernel
theorem s0g:(("call":Str)=="full")=false:=by decide +kernel
theorem k0o:(("call":Str)="full")=False:=eq_false (by decide +kernel)
theorem s0f:(("call":Str)=="mark")=false:=by decide +kernel
theorem k0n:(("call":Str)="mark")=False:=eq_false (by decide +kernel)
theorem u0n:(("call":Str)=="parts")=false:=by decide +kernel
theorem m0u:(("call":Str)="parts")=False:=eq_false (by decide +kernel)
theorem u0m:(("call":Str)=="price")=false:=by decide +kernel
theorem m0t:(("call":Str)="price")=False:=eq_false (by decide +kernel)
theorem s0e:(("call":Str)=="shut")=false:=by decide +kernel
theorem s0d:(("call":Str)="shut")=False:=eq_false (by decide +kernel)
theorem s0c:(("call":Str)=="wear")=false:=by decide +kernel
theorem k0m:(("call":Str)="wear")=False:=eq_false (by decide +kernel)
theorem s0b:(("full":Str)=="call")=false:=by decide +kernel
theorem k0l:(("full":Str)="call")=False:=eq_false (by decide +kernel)
theorem s0a:(("full":Str)=="full")=true:=by decide +kernel
theorem r0z:(("full":Str)=="mark")=false:=by decide +kernel
theorem r0y:(("full":Str)="mark")=False:=eq_false (by decide +kernel)
theorem u0l:(("full":Str)=="parts")=false:=by decide +kernel
theorem m0s:(("full":Str)="parts")=False:=eq_false (by decide +kernel)
theorem u0k:(("full":Str)=="price")=false:=by decide +kernel
theorem u0j:(("full":Str)="price")=False:=eq_false (by decide +kernel)
theorem r0x:(("full":Str)=="shut")=false:=by decide +kernel
theorem k0k:(("full":Str)="shut")=False:=eq_false (by decide +kernel)
theorem r0w:(("full":Str)=="wear")=false:=by decide +kernel
theorem r0v:(("full":Str)="wear")=False:=eq_false (by decide +kernel)
theorem r0u:(("mark":Str)=="call")=false:=by decide +kernel
theorem k0j:(("mark":Str)="call")=False:=eq_false (by decide +kernel)
theorem r0t:(("mark":Str)=="full")=false:=by decide +kernel
theorem k0i:(("mark":Str)="full")=False:=eq_false (by decide +kernel)
theorem r0s:(("mark":Str)=="mark")=true:=by decide +kernel
theorem u0i:(("mark":Str)=="parts")=false:=by decide +kernel
theorem m0r:(("mark":Str)="parts")=False:=eq_false (by decide +kernel)
theorem u0h:(("mark":Str)=="price")=false:=by decide +kernel
theorem u0g:(("mark":Str)="price")=False:=eq_false (by decide +kernel)
theorem r0r:(("mark":Str)=="shut")=false:=by decide +kernel
theorem k0h:(("mark":Str)="shut")=False:=eq_false (by decide +kernel)
theorem r0q:(("mark":Str)=="wear")=false:=by decide +kernel
theorem r0p:(("mark":Str)="wear")=False:=eq_false (by decide +kernel)
theorem u0f:(("parts":Str)=="call")=false:=by decide +kernel
theorem u0e:(("parts":Str)="call")=False:=eq_false (by decide +kernel)
theorem u0d:(("parts":Str)=="full")=false:=by decide +kernel
theorem m0q:(("parts":Str)="full")=False:=eq_false (by decide +kernel)
theorem u0c:(("parts":Str)=="mark")=false:=by decide +kernel
theorem m0p:(("parts":Str)="mark")=False:=eq_false (by decide +kernel)
theorem w0s:(("parts":Str)=="parts")=true:=by decide +kernel
theorem w0r:(("parts":Str)=="price")=false:=by decide +kernel
theorem p0d:(("parts":Str)="price")=False:=eq_false (by decide +kernel)
theorem u0b:(("parts":Str)=="shut")=false:=by decide +kernel
theorem u0a:(("parts":Str)="shut")=False:=eq_false (by decide +kernel)
theorem t0z:(("parts":Str)=="wear")=false:=by decide +kernel
theorem m0o:(("parts":Str)="wear")=False:=eq_false (by decide +kernel)
theorem t0y:(("price":Str)=="call")=false:=by decide +kernel
theorem m0n:(("price":Str)="call")=False:=eq_false (by decide +kernel)
theorem t0x:(("price":Str)=="full")=false:=by decide +kernel
theorem m0m:(("price":Str)="full")=False:=eq_false (by decide +kernel)
theorem t0w:(("price":Str)=="mark")=false:=by decide +kernel
theorem m0l:(("price":Str)="mark")=False:=eq_false (by decide +kernel)
theorem w0q:(("price":Str)=="parts")=false:=by decide +kernel
theorem p0c:(("price":Str)="parts")=False:=eq_false (by decide +kernel)
theorem w0p:(("price":Str)=="price")=true:=by decide +kernel
theorem t0v:(("price":Str)=="shut")=false:=by decide +kernel
theorem m0k:(("price":Str)="shut")=False:=eq_false (by decide +kernel)
theorem t0u:(("price":Str)=="wear")=false:=by decide +kernel
theorem m0j:(("price":Str)="wear")=False:=eq_false (by decide +kernel)
theorem r0o:(("shut":Str)=="call")=false:=by decide +kernel
theorem k0g:(("shut":Str)="call")=False:=eq_false (by decide +kernel)
theorem r0n:(("shut":Str)=="full")=false:=by decide +kernel
theorem k0f:(("shut":Str)="full")=False:=eq_false (by decide +kernel)
theorem r0m:(("shut":Str)=="mark")=false:=by decide +kernel
theorem k0e:(("shut":Str)="mark")=False:=eq_false (by decide +kernel)
theorem t0t:(("shut":Str)=="parts")=false:=by decide +kernel
theorem m0i:(("shut":Str)="parts")=False:=eq_false (by decide +kernel)
theorem t0s:(("shut":Str)=="price")=false:=by decide +kernel
theorem m0h:(("shut":Str)="price")=False:=eq_false (by decide +kernel)
theorem r0l:(("shut":Str)=="shut")=true:=by decide +kernel
theorem r0k:(("shut":Str)=="wear")=false:=by decide +kernel
theorem k0d:(("shut":Str)="wear")=False:=eq_false (by decide +kernel)
theorem r0j:(("wear":Str)=="call")=false:=by decide +kernel
theorem k0c:(("wear":Str)="call")=False:=eq_false (by decide +kernel)
theorem r0i:(("wear":Str)=="full")=false:=by decide +kernel
theorem k0b:(("wear":Str)="full")=False:=eq_false (by decide +kernel)
theorem r0h:(("wear":Str)=="mark")=false:=by decide +kernel
theorem k0a:(("wear":Str)="mark")=False:=eq_false (by decide +kernel)
theorem t0r:(("wear":Str)=="parts")=false:=by decide +kernel
theorem m0g:(("wear":Str)="parts")=False:=eq_false (by decide +kernel)
theorem t0q:(("wear":Str)=="price")=false:=by decide +kernel
theorem t0p:(("wear":Str)="price")=False:=eq_false (by decide +kernel)
theorem r0g:(("wear":Str)=="shut")=false:=by decide +kernel
theorem j0z:(("wear":Str)="shut")=False:=eq_false (by decide +kernel)
theorem r0f:(("wear":Str)=="wear")=true:=by decide +kernel
local macro_rules | `(tactic|walk_at "fl")=>do
 let ids:=("T.cl_Part.cl T.cl_Works.cl T.f_Part_full T.f_Part_mark T.f_Part_wear T.f_Part_price T.f_Works_parts T.f_Works_call T.f_Works_shut s0h s0g s0f u0n u0m s0e s0c s0b s0a r0z u0l u0k r0x r0w r0u r0t r0s u0i u0h r0r r0q u0f u0d u0c w0s w0r u0b t0z t0y t0x t0w w0q w0p t0v t0u r0o r0n r0m t0t t0s r0l r0k r0j r0i r0h t0r t0q r0g r0f List.lookup_cons true_and".splitOn " ").toArray.map fun s=>Lean.mkIdent s.toName
 let args←ids.mapM fun i=>`(Lean.Parser.Tactic.simpLemma| $i:ident)
 `(tactic|simp only[reduceIte,↓reduceIte,$args,*])
local macro_rules | `(tactic|walk_at "ds")=>do
 let ids:=("l0a k0z Nat.reduceAdd Nat.reduceLT Nat.reduceLeDiff Nat.reduceSub Nat.zero_add y0a capt List.map_cons List.map_nil s0s List.getElem?_cons_zero List.getElem?_cons_succ List.set_cons_zero List.set_cons_succ List.length_cons List.length_nil List.lookup_cons if_true if_false Bool.false_eq_true Bool.not_true Bool.not_false decide_eq_true_eq if_pos ite_true ite_false true_and and_true List.cons_append List.nil_append T.cl_Part.cl T.cl_Works.cl T.f_Part_full T.f_Part_mark T.f_Part_wear T.f_Part_price T.f_Works_parts T.f_Works_call T.f_Works_shut s0h s0g s0f u0n u0m s0e s0c s0b s0a r0z u0l u0k r0x r0w r0u r0t r0s u0i u0h r0r r0q u0f u0d u0c w0s w0r u0b t0z t0y t0x t0w w0q w0p t0v t0u r0o r0n r0m t0t t0s r0l r0k r0j r0i r0h t0r t0q r0g r0f q0j k0o k0n m0u m0t s0d k0m k0l r0y m0s u0j k0k r0v k0j k0i m0r u0g k0h r0p u0e m0q m0p p0d u0a m0o m0n m0m m0l p0c m0k m0j k0g k0f k0e m0i m0h k0d k0c k0b k0a m0g t0p j0z".splitOn " ").toArray.map fun s=>Lean.mkIdent s.toName
 let jds:=("n0p b0y y1k t2Cont n0o h0o t2RetN f0j f0i b0x f0h n0m n0l i0t t2MV t2MV0 t2Aug l0b t2XFld n0k call_s k_int k_bl k_str k_non k_lst k_tup k_ins k_ref k_dwk k_dic x_nil x_cons t0h t0j t0i t2Exc1 t2Exc2 t2H0 t2H t2HAs t2Try noX asE b0v t2Is t2R1 t2R2 t2Comp t2OwnC p0j y1e t2C t2V x0t w5 c0e f0t t2Op t2B f0r t2And t2Or i0y t2OrV i0x t2If w0b t2Bi t2Un rdV hasV seqV mutV ixQ seqD addF addG sumF eqG neG t2Sl slF t2ON t2OI lrQ x1u t2LR x1t t2TR t2Unp sortIF b0l b0k v0y i0l p0h x0v t2BNil t2BV t2BO x1v tgD fI fI0 eqF neF eqD isNF b0z p0w isBF notBF ixF inF notInF lenF absF minF maxF intF f0l p0u allF h0p subF mulF c0a modF powF ltF leF gtF geF repF g2N g2T w0a popM e0h repTF repAF p0o neL x1r t2PutD t2GetD t2IxD dicV t2VD t2DicV t2Keys minLF x1q t2LenD b0e g2L eqL eqRF x1p sumB t2AugM x1o".splitOn " ").toArray.map fun s=>Lean.mkIdent s.toName
 let a←ids.mapM fun i=>`(Lean.Parser.Tactic.simpLemma| $i:ident)
 let b←jds.mapM fun i=>`(Lean.Parser.Tactic.simpLemma| ↓ $i:ident)
 let args:=a++b
 `(tactic|simp -dsimp -failIfUnchanged only[reduceIte,↓reduceIte,$args,*])
section
variable{P:Program}{w:World}{K:PySem.W.Frag}{mg:Str→Option Value}{base:Heap}{cs:Cs}
noncomputable abbrev z0x:List Str:=["thing"]
theorem sc_is_number:FnScope ["thing"] z0x (defScope x0p):=⟨rfl,rfl,rfl,by decide +kernel,rfl,by decide +kernel,by decide +kernel⟩
noncomputable abbrev x0i(P:Program)(w:World)(K:PySem.W.Frag)(mg:Str→Option Value)(base:Heap)(cs:Cs):Prop:=Fun2 P w K mg base "is_number" 1 z0x p0e
theorem m0f{f:Addr}{fd:FuncData}(Df:DefAt K mg "is_number" x0p z0x f fd)(T:Txt K mg cs):x0i P w K mg base cs:=by
 have nd:=sc_is_number.nd;refine def2 Df sc_is_number (fun ds δ q x h=>?_) (fun cdv A outer s H E Y hr=>⟨_,(y3 (j3 (f0p (e2_b x0b (i0v (K:=K)) T.n_isinstance a7 (v0 (e2_v 0) (v0 (c0f "int" T.n_int f0u) s0))) (f0q (e2_not (e2_b x0b (i0v (K:=K)) T.n_isinstance a7 (v0 (e2_v 0) (v0 (c0f "bool" T.n_bool y1v) s0)))))))),fun ds δ q x h=>?_⟩)
 ·unfold p0e at h;split at h
  ·rfl
  ·exact h.elim
 ·unfold p0e at h;split at h;rotate_left
  ·exact h.elim
  rename_i d;obtain ⟨hd,hq⟩:=h;rw[show l3 ["thing"] _=[.val _]from rfl];obtain ⟨t1,t2⟩:=i0s (K:=K) hd;walk_at "dl";simp only[y1d K t1 t2,ko_int K t1 t2,t1,true_and];cases d<;>first |cases hd |skip
  all_goals (walk_at "dl";exact hq)
noncomputable abbrev y0q:List Str:=["thing","least","most"]
theorem sc_is_whole:FnScope ["thing","least","most"] y0q (defScope v0w):=⟨rfl,rfl,rfl,by decide +kernel,rfl,by decide +kernel,by decide +kernel⟩
noncomputable abbrev d6(P:Program)(w:World)(K:PySem.W.Frag)(mg:Str→Option Value)(base:Heap)(cs:Cs):Prop:=Fun2 P w K mg base "is_whole" 2 y0q y0y
theorem j0y{f:Addr}{fd:FuncData}(Df:DefAt K mg "is_whole" v0w y0q f fd)(T:Txt K mg cs)(G_is_number:x0i P w K mg base cs):d6 P w K mg base cs:=by
 have nd:=sc_is_whole.nd;refine def2 Df sc_is_whole (fun ds δ q x h=>?_) (fun cdv A outer s H E Y hr=>⟨_,(y3 (j3 (f0p (g0 G_is_number (hr.mono (by decide)) r0 (v0 (e2_v 0) s0)) (f0q (c0c h0z h0z d_le d_le (e2_v 1) (e2_v 0) (e2_v 2)))))),fun ds δ q x h=>?_⟩)
 ·unfold y0y at h;split at h
  ·rfl
  ·exact h.elim
 ·unfold y0y at h;split at h;rotate_left
  ·exact h.elim
  rename_i d lo hi;obtain ⟨hd,hq⟩:=h;rw[show l3 ["thing","least","most"] _=[.val _,.val _,.val _]from rfl];walk_at "dl";simp only[p0e,hd,true_and];cases d<;>first |cases hd |skip
  all_goals first |(simp only[d0t];walk_at "dl";exact hq)|(simp only[d0t];walk_at "dl")
  simp only[u4]at hq;split
  ·rename_i h1;rw[decide_eq_true h1,Bool.true_and]at hq;exact hq
  ·rename_i h1;rw[decide_eq_false h1,Bool.false_and]at hq;exact hq
noncomputable abbrev y0p:List Str:=["_law_script","_law_k"]
theorem sc_law_cell:FnScope ["_law_script","_law_k"] y0p (defScope v0r):=⟨rfl,rfl,rfl,by decide +kernel,rfl,by decide +kernel,by decide +kernel⟩
noncomputable abbrev y0o(P:Program)(w:World)(K:PySem.W.Frag)(mg:Str→Option Value)(base:Heap)(cs:Cs):Prop:=Fun2 P w K mg base "_law_cell" 2 y0p d0w
theorem j0x{f:Addr}{fd:FuncData}(Df:DefAt K mg "_law_cell" v0r y0p f fd)(T:Txt K mg cs):y0o P w K mg base cs:=by
 have nd:=sc_law_cell.nd;refine def2 Df sc_law_cell (fun ds δ q x h=>?_) (fun cdv A outer s H E Y hr=>⟨_,(i0 (a5 (u5 q0n d_eq (j5 0 T.n_len) j0 (d4 _)) (y3 (j3 (v4 w4 b4 (v4 x0y q0k j0 (e2_v 1)) j0))) n4)
  (y3 (j3 (e2_b c0q d_abs T.n_abs bt_abs (v0 (x4 0 (v4 u0q n0r (e2_v 1) (j5 0 T.n_len))) s0))))),fun ds δ q x h=>?_⟩)
 ·unfold d0w at h;obtain ⟨ns,k,rfl,hk,hq⟩:=h;rfl
 ·unfold d0w at h;obtain ⟨ns,k,rfl,hk,hq⟩:=h;rw[show l3 ["_law_script","_law_k"] _=[.val _,.val _]from rfl];walk_at "dl";simp only[List.length_map];split
  ·rename_i h0;exact ⟨.inl ⟨by decide,by decide⟩,hq _ (by omega)⟩
  ·rename_i h0;have hlen:0<ns.length:=by omega
   refine ⟨by omega,?_⟩;obtain ⟨v,hat,hv⟩:=y1u (xs:=ns.map D.int) (k:=k) (by rw[List.length_map];exact hlen);rw[List.length_map]at hat
   obtain ⟨z,_,rfl⟩:=List.mem_map.mp hv;rw[hat];dsimp only;exact hq _ (by split<;>omega)
noncomputable abbrev y0n:List Str:=["_law_script","_law_k","_law_many"]
theorem sc_law_draw:FnScope ["_law_script","_law_k","_law_many","_law_a"] y0n (defScope v0q):=⟨rfl,rfl,rfl,by decide +kernel,rfl,by decide +kernel,by decide +kernel⟩
noncomputable abbrev v0j(P:Program)(w:World)(K:PySem.W.Frag)(mg:Str→Option Value)(base:Heap)(cs:Cs):Prop:=Fun2 P w K mg base "_law_draw" 3 y0n d0v
theorem j0w{f:Addr}{fd:FuncData}(Df:DefAt K mg "_law_draw" v0q y0n f fd)(T:Txt K mg cs)(G_law_cell:y0o P w K mg base cs):v0j P w K mg base cs:=by
 have nd:=sc_law_draw.nd;refine def2 Df sc_law_draw (fun ds δ q x h=>?_) (fun cdv A outer s H E Y hr=>⟨_,(i0 (y4 3 nd (v4 u0q n0r (v4 w4 b4 (v4 w4 b4 (v4 x0y q0k (v4 u0q n0r (g0 G_law_cell (hr.mono (by decide)) r0 (v0 (e2_v 0) (v0 (e2_v 1) s0))) j0) j0) (v4 x0y q0k (v4 x0y q0k (e2_v 1) (e2_v 1)) j0)) j0) j0))
  (i0 (y4 3 nd (v4 u0q n0r (v4 w4 b4 (v4 w4 b4 (v4 x0y q0k (e2_v 3) (e2_v 3)) (v4 x0y q0k j0 (e2_v 3))) (v4 x0y q0k (e2_v 1) j0)) j0))
  (y3 (j3 (v4 u0q n0r (v4 g0r a0d (e2_v 3) j0) (e2_v 2)))))),fun ds δ q x h=>?_⟩)
 ·unfold d0v at h;obtain ⟨ns,k,m,rfl,hk,hk2,hm,hq⟩:=h;rfl
 ·unfold d0v at h;obtain ⟨ns,k,m,rfl,hk,hk2,hm,hq⟩:=h;rw[show l3 ["_law_script","_law_k","_law_many","_law_a"] _=[.val _,.val _,.val _,.no]from rfl];walk_at "dl";refine ⟨ns,k,rfl,hk,fun c hc=>?_⟩;have h1:=Int.emod_nonneg c (b:=1000003) (by decide);have h2:=Int.emod_lt_of_pos c (b:=1000003) (by decide);refine ⟨by decide,.inl ⟨by omega,by omega⟩,.inl ⟨by omega,by omega⟩,.inr ⟨by decide,by decide⟩,by decide,?_⟩;generalize c%1000003*48271+k*k*7919+101=z;have h3:=Int.emod_nonneg z (b:=2147483647) (by decide);have h4:=Int.emod_lt_of_pos z (b:=2147483647) (by decide);refine ⟨.inl ⟨by omega,by omega⟩,.inl ⟨by decide,by decide⟩,.inl ⟨by omega,by omega⟩,by decide,⟨by decide,by decide⟩,hm,hq _ (Int.emod_nonneg _ (by omega)) (Int.emod_lt_of_pos _ hm)⟩
noncomputable abbrev y0m:List Str:=["_law_script"]
theorem sc_law_deck:FnScope ["_law_script","_law_cell_here"] y0m (defScope v0p):=⟨rfl,rfl,rfl,by decide +kernel,rfl,by decide +kernel,by decide +kernel⟩
noncomputable abbrev v0i(P:Program)(w:World)(K:PySem.W.Frag)(mg:Str→Option Value)(base:Heap)(cs:Cs):Prop:=Fun2 P w K mg base "_law_deck" 3 y0m d0u
theorem j0v{f:Addr}{fd:FuncData}(Df:DefAt K mg "_law_deck" v0p y0m f fd)(T:Txt K mg cs)(G_law_cell:y0o P w K mg base cs):v0i P w K mg base cs:=by
 have nd:=sc_law_deck.nd;refine def2 Df sc_law_deck (fun ds δ q x h=>?_) (fun cdv A outer s H E Y hr=>⟨_,(i0 (y4 1 nd (g0 G_law_cell (hr.mono (by decide)) r0 (v0 (e2_v 0) (v0 j0 s0))))
  (y3 (b0u (v0 (e2_v 0) (v0 (v4 x0y q0k (e2_v 1) (y0b o0e d_int T.n_int f0u (v0 (s0t op_ge d_ge (e2_v 1) (v4 op_pow d_pow j0 j0) (d4 _)) s0))) (v0 j0 s0)))))),fun ds δ q x h=>?_⟩)
 ·unfold d0u at h;obtain ⟨ns,rfl,rfl,hq⟩:=h;rfl
 ·unfold d0u at h;obtain ⟨ns,rfl,rfl,hq⟩:=h;rw[show l3 ["_law_script","_law_cell_here"] _=[.val _,.no]from rfl];walk_at "dl";refine ⟨ns,0,rfl,by decide,fun c hc=>?_⟩;refine ⟨⟨by decide,by decide,by decide⟩,.inr ⟨by split<;>decide,by split<;>decide⟩,rfl,fun p=>hq p _ ⟨_,_,rfl,?_,by decide,by decide⟩⟩;split<;>omega
noncomputable abbrev y0l:List Str:=["_law_deck_here","_law_many"]
theorem sc_law_take:FnScope ["_law_deck_here","_law_many","_law_digit"] y0l (defScope v0o):=⟨rfl,rfl,rfl,by decide +kernel,rfl,by decide +kernel,by decide +kernel⟩
noncomputable abbrev b6(P:Program)(w:World)(K:PySem.W.Frag)(mg:Str→Option Value)(base:Heap)(cs:Cs):Prop:=Fun2 P w K mg base "_law_take" 4 y0l m0w
theorem j0u{f:Addr}{fd:FuncData}(Df:DefAt K mg "_law_take" v0o y0l f fd)(T:Txt K mg cs)(G_law_draw:v0j P w K mg base cs):b6 P w K mg base cs:=by
 have nd:=sc_law_take.nd;refine def2 Df sc_law_take (fun ds δ q x h=>?_) (fun cdv A outer s H E Y hr=>⟨_,(i0 (a5 (u5 g0n d_gt (x4 0 j0) j0 (d4 _)) (i0 (y4 2 nd (v4 u0q n0r (x4 0 j0) (e2_v 1)))
  (i0 (l0c 0 j0 (v4 g0r a0d (x4 0 j0) (e2_v 1)))
  (y3 (j3 (e2_v 2))))) n4)
  (i0 (l0c 0 j0 (v4 w4 b4 (x4 0 j0) j0))
  (y3 (j3 (g0 G_law_draw (hr.mono (by decide)) r0 (v0 (x4 0 j0) (v0 (x4 0 j0) (v0 (e2_v 1) s0)))))))),fun ds δ q x h=>?_⟩)
 ·unfold m0w at h;obtain ⟨p,ns,n,m,rfl,hD,hn,hm,hm2,hq⟩:=h;rfl
 ·unfold m0w at h;obtain ⟨p,ns,n,m,rfl,hD,hn,hm,hm2,hq⟩:=h;rw[show l3 ["_law_deck_here","_law_many","_law_digit"] _=[.val _,.val _,.no]from rfl];obtain ⟨c,k,rfl,hc,hk,hkn⟩:=hD;walk_at "dl";split
  ·exact ⟨hm,⟨hm,by omega⟩,hq _ _ (Int.emod_nonneg _ (by omega)) (Int.emod_lt_of_pos _ hm) ⟨_,_,rfl,Int.ediv_nonneg hc (by omega),hk,by omega⟩⟩
  ·exact ⟨ns,k+1,m,rfl,by omega,by omega,hm,fun r h1 h2=>hq _ _ h1 h2 ⟨_,_,rfl,hc,by omega,by omega⟩⟩
theorem p0b{i lo hi:Int}(h1:lo≤i)(h2:i≤hi):u4 (.int i) lo hi=true:=by show (decide (lo≤i)&&decide (i≤hi))=true;rw[decide_eq_true h1,decide_eq_true h2];rfl
theorem whole_f{i lo hi:Int}(h:i<lo∨hi<i):u4 (.int i) lo hi=false:=by
 show (decide (lo≤i)&&decide (i≤hi))=false;rw[Bool.and_eq_false_iff];rcases h with h |h
 ·exact .inl (decide_eq_false (by omega))
 ·exact .inr (decide_eq_false (by omega))
noncomputable abbrev t0d:List Str:=["thing"]
theorem sc_is_row:FnScope ["thing"] t0d (defScope p0f):=⟨rfl,rfl,rfl,by decide +kernel,rfl,by decide +kernel,by decide +kernel⟩
noncomputable abbrev y0k(P:Program)(w:World)(K:PySem.W.Frag)(mg:Str→Option Value)(base:Heap)(cs:Cs):Prop:=Fun2 P w K mg base "is_row" 2 t0d k0p
theorem d0s{f:Addr}{fd:FuncData}(Df:DefAt K mg "is_row" p0f t0d f fd)(T:Txt K mg cs):y0k P w K mg base cs:=by
 have nd:=sc_is_row.nd;refine def2 Df sc_is_row (fun ds δ q x h=>?_) (fun cdv A outer s H E Y hr=>⟨_,(y3 (j3 (e2_b x0b (i0v (K:=K)) T.n_isinstance a7 (v0 (e2_v 0) (v0 (w0z (v0 (c0f "list" T.n_list l0h) (v0 (c0f "tuple" T.n_tuple b5) s0))) s0))))),fun ds δ q x h=>?_⟩)
 ·unfold k0p at h;split at h
  ·rfl
  ·exact h.elim
 ·unfold k0p at h;split at h;rotate_left
  ·exact h.elim
  rename_i d;obtain ⟨hd,hq⟩:=h;rw[show l3 ["thing"] _=[.val _]from rfl];obtain ⟨t1,t2⟩:=i0s (K:=K) hd;walk_at "dl";simp only[ko_row K t1 t2,t1,true_and];cases d
  all_goals first |exact hq |cases hd
noncomputable abbrev y7:List Str:=["thing","shortest","longest","least","most"]
theorem sc_is_whole_row:FnScope ["thing","shortest","longest","least","most"] y7 (defScope b8):=⟨rfl,rfl,rfl,by decide +kernel,rfl,by decide +kernel,by decide +kernel⟩
noncomputable abbrev v7(P:Program)(w:World)(K:PySem.W.Frag)(mg:Str→Option Value)(base:Heap)(cs:Cs):Prop:=Fun2 P w K mg base "is_whole_row" 3 y7 m0v
theorem r0e{f:Addr}{fd:FuncData}(Df:DefAt K mg "is_whole_row" b8 y7 f fd)(T:Txt K mg cs)(G_is_row:y0k P w K mg base cs)(G_is_whole:d6 P w K mg base cs):v7 P w K mg base cs:=by
 have nd:=sc_is_whole_row.nd;refine def2 Df sc_is_whole_row (fun ds δ q x h=>?_) (fun cdv A outer s H E Y hr=>⟨_,(i0 (a5 (PW2.pt (l0f (j6 (l6 (g0 G_is_row (hr.mono (by decide)) r0 (v0 (e2_v 0) s0)))) (p0x (j6 (c0b h0z h0z d_le d_le (e2_v 1) (j5 0 T.n_len) (e2_v 2)))))) (y3 (j3 h0r)) n4)
  (y3 (j3 (e2_b (x0a rfl) f0k T.n_all n0t (v0 (n5 rfl (CompOkM.of ["entry"] [3,4] rfl) (x0w (e2_v 0)) (fun nd _ _ _ _ _=>(i3 (i:=0) nd rfl (by first |exact Or.inl rfl |exact Or.inr rfl))) o5 (fun _ _ _ _ _ _=>x6) (fun _ _ _ _ _ _=>(g0 G_is_whole (hr.mono (by decide)) x0x (v0 (e2_v 0) (v0 (e2_v 1) (v0 (e2_v 2) s0)))))) s0))))),fun ds δ q x h=>?_⟩)
 ·unfold m0v at h;split at h
  ·rfl
  ·exact h.elim
 ·unfold m0v at h;split at h;rotate_left
  ·exact h.elim
  rename_i d a b lo hi;obtain ⟨ht,hb,hq⟩:=h;rw[show l3 ["thing","shortest","longest","least","most"] _=[.val _,.val _,.val _,.val _,.val _]from rfl];have hp:p5 d=true:=by unfold l4 at ht;rw[Bool.and_eq_true]at ht;exact ht.1
  walk_at "dl";simp only[k0p,hp,true_and];cases e:rowD d with
  |none=>
   have e1:i7 d=false:=by unfold i7;rw[e];rfl
   have e2:w0t d a b lo hi=false:=by unfold w0t;rw[e]
   rw[e2]at hq;simp only[e1,Bool.not_false,if_true];exact hq
  |some xs=>
   have e1:i7 d=true:=by unfold i7;rw[e];rfl
   have e3:seqD d=some xs:=by cases d<;>first |(cases e;rfl)|cases e
   have hx:∀x∈xs,p5 x=true:=by
    unfold l4 at ht;rw[Bool.and_eq_true,e]at ht;exact List.all_eq_true.mp ht.2
   unfold w0t at hq;rw[e]at hq;dsimp only at hq;simp only[e1,Bool.not_true,Bool.false_eq_true,if_false];have main:∀ ρ:En,ρ[3]?=some (.val (.int lo))→ρ[4]?=some (.val (.int hi))→(xs.length:Int)≤b→q (.bl (xs.all (u4 · lo hi))) δ→r8 (z0m y0y (w5 (t2V 0) (w5 (t2V 1) (w5 (t2V 2) x0t)))) [3,4] ρ
    (fun acc δ2=>match blsD acc with |some bs=>q (D.bl (bs.all id)) δ2 |none=>False) xs [] δ:=by
    intro ρ r3 r4 hlen hq;refine z7 (fun i acc δ'=>acc=(xs.take i).map (fun z=>D.bl (u4 z lo hi))∧δ'=δ) ⟨rfl,rfl⟩ ?_ ?_
    ·rintro i z acc δ' rest hi ⟨rfl,rfl⟩ hrest;have hl:=(List.getElem?_eq_some_iff.mp hi).1;simp only[capt,y0a,List.map_cons,List.map_nil,r3,r4];walk_at "dl";simp only[y0y,hx z (List.mem_of_getElem? hi),true_and];refine ⟨by rw[List.length_map,List.length_take];omega,hrest _ _ ⟨?_,rfl⟩⟩;rw[List.take_succ,hi,List.map_append];rfl
    ·rintro acc δ' ⟨rfl,rfl⟩;rw[List.take_length,v0k];have:(xs.map fun z=>u4 z lo hi).all id=xs.all (u4 · lo hi):=by rw[List.all_map];rfl
     dsimp only;rw[this];exact hq
   cases d<;>first |(cases e;done)|skip
   all_goals
    cases e;dsimp only;split
    ·rename_i h1;split
     ·rename_i h2;rw[Bool.not_eq_true',decide_eq_false_iff_not]at h2;rw[decide_eq_true h1,decide_eq_false h2]at hq;exact hq
     ·rename_i h2;rw[Bool.not_eq_true',decide_eq_false_iff_not,Decidable.not_not]at h2;rw[decide_eq_true h1,decide_eq_true h2]at hq;exact main _ rfl rfl h2 hq
    ·rename_i h1;rw[decide_eq_false h1]at hq;exact hq
noncomputable def p0a(cs:Cs)(full mark:Int)(ws:List Int)(price:Int):D:=.ins cs.Part [("full",.int full),("mark",.int mark),("wear",.tup (ws.map D.int)),("price",.int price)]
theorem o9{d:D}{lo hi:Int}(h:u4 d lo hi=true):∃i,d=.int i∧lo≤i∧i≤hi:=by
 cases d with
 |int i=>unfold u4 at h;rw[Bool.and_eq_true,decide_eq_true_eq,decide_eq_true_eq]at h;exact ⟨i,rfl,h.1,h.2⟩
 |_=>cases h
noncomputable def p0n(cs:Cs):Sp2:=fun ds δ q x=>match ds with
 | [a,m,w,p]=>(l4 a&&l4 m&&l4 w&&l4 p)=true∧(if u4 a 1 9=true then (match a with
  | .int i=>if u4 m 0 i=true then (if w0t w 1 6 0 9=true then (if u4 p 0 99=true then q (.ins cs.Part [("full",a),("mark",m),("wear",.tup ((rowD w).getD [])),("price",p)]) δ else x cs.NoPart [("at",.int 3)] δ)else x cs.NoPart [("at",.int 2)] δ)else x cs.NoPart [("at",.int 1)] δ
  |_=>False)else x cs.NoPart [("at",.int 0)] δ)
 |_=>False
theorem sc_Part_init:FnScope ["self","full","mark","wear","price"] ["self","full","mark","wear","price"] (defScope x0j):=⟨rfl,rfl,rfl,by decide +kernel,rfl,by decide +kernel,by decide +kernel⟩
theorem m0e{f:Addr}{fd:FuncData}(Fn:Fun K "__init__" "Part.__init__" x0j f fd)(M:Mk K cs.Part f)(bd:Binds K fd ["self","full","mark","wear","price"] [])(T:Txt K mg cs)(G_is_whole:d6 P w K mg base cs)(G_is_whole_row:v7 P w K mg base cs)(M_NoPart:MkE P w K mg base "NoPart" cs.NoPart 1 ["self","at"] (spXI cs.NoPart "at")):Make2 P w K mg base "Part" 4 (p0n cs):=by
 have nd:=sc_Part_init.nd;refine init2 Fn M T.c_Part bd sc_Part_init (fun ds δ q x h=>?_) (fun cdv A outer s H E Y hr=>⟨_,(i0 (a5 (j6 (l6 (g0 G_is_whole (hr.mono (by decide)) r0 (v0 (e2_v 1) (v0 j0 (v0 j0 s0)))))) (y3 (w6 rfl r0 M_NoPart (hr.mono (by decide)) (v0 j0 s0))) n4)
  (i0 (a5 (j6 (l6 (g0 G_is_whole (hr.mono (by decide)) r0 (v0 (e2_v 2) (v0 j0 (v0 (e2_v 1) s0)))))) (y3 (w6 rfl r0 M_NoPart (hr.mono (by decide)) (v0 j0 s0))) n4)
  (i0 (a5 (j6 (l6 (g0 G_is_whole_row (hr.mono (by decide)) r0 (v0 (e2_v 3) (v0 j0 (v0 j0 (v0 j0 (v0 j0 s0)))))))) (y3 (w6 rfl r0 M_NoPart (hr.mono (by decide)) (v0 j0 s0))) n4)
  (i0 (a5 (j6 (l6 (g0 G_is_whole (hr.mono (by decide)) r0 (v0 (e2_v 4) (v0 j0 (v0 j0 s0)))))) (y3 (w6 rfl r0 M_NoPart (hr.mono (by decide)) (v0 j0 s0))) n4)
  (i0 (j9 K 0 (e2_v 1))
  (i0 (j9 K 0 (e2_v 2))
  (i0 (j9 K 0 (y0b b3 f7 T.n_tuple b5 (v0 (e2_v 3) s0)))
  (y3 (j9 K 0 (e2_v 4)))))))))),fun ds δ q x h=>?_⟩)
 ·unfold p0n at h;split at h
  ·rfl
  ·exact h.elim
 ·unfold p0n at h;split at h;rotate_left
  ·exact h.elim
  rename_i a m v p;rw[show l3 ["full","mark","wear","price"] _=[.val _,.val _,.val _,.val _]from rfl];obtain ⟨ht,hq⟩:=h;simp only[Bool.and_eq_true]at ht;obtain ⟨⟨⟨ta,tm⟩,tv⟩,tp⟩:=ht;have pl:∀{d:D},l4 d=true→p5 d=true:=fun {d} h=>by unfold l4 at h;rw[Bool.and_eq_true]at h;exact h.1
  walk_at "dl";simp only[y0y,pl ta,true_and];cases ea:u4 a 1 9 with
  |false=>
   rw[ea]at hq;simp only[Bool.not_false,if_true];exact hq
  |true=>
   rw[ea]at hq;obtain ⟨i,rfl,i1,i2⟩:=o9 ea;simp only[Bool.not_true,Bool.false_eq_true,if_false,pl tm,true_and,m0v,pl tp,tv,if_true]at hq ⊢;cases em:u4 m 0 i with
   |false=>
    rw[em]at hq;simp only[Bool.not_false,if_true];exact hq
   |true=>
    rw[em]at hq;simp only[Bool.not_true,Bool.false_eq_true,if_false,if_true]at hq ⊢;refine ⟨by decide,?_⟩;cases ev:w0t v 1 6 0 9 with
    |false=>
     rw[ev]at hq;simp only[Bool.not_false,if_true];exact hq
    |true=>
     rw[ev]at hq;simp only[Bool.not_true,Bool.false_eq_true,if_false,if_true]at hq ⊢;cases ep:u4 p 0 99 with
     |false=>
      rw[ep]at hq;simp only[Bool.not_false,if_true];exact hq
     |true=>
      rw[ep]at hq;simp only[Bool.not_true,Bool.false_eq_true,if_false,if_true]at hq ⊢;cases v<;>first |(cases ev;done)|skip
      all_goals
       simp only[T.cl_Part.cl,T.f_Part_full,T.f_Part_mark,T.f_Part_wear,T.f_Part_price,q0j,r0y,r0v,u0j,r0p,u0g,t0p,if_false,List.length_cons,List.length_nil,true_and]
       repeat (first |exact ⟨_,rfl,hq⟩|(refine ⟨by decide,?_⟩))
noncomputable def intD:D→Int | .int i=>i |_=>0
noncomputable def risI:List Int→Bool
 |a::b::r=>decide (a<b)&&risI (b::r)
 |_=>true
noncomputable def risD(d:D)(lo hi:Int):Bool:=w0t d 0 (hi-lo+1) lo hi&&risI (((rowD d).getD []).map intD)
theorem v0h{lo hi:Int}:∀{xs:List D},xs.all (u4 · lo hi)=true→xs=(xs.map intD).map D.int
 | [],_=>rfl
 |d::xs,h=>by
  rw[List.all_cons,Bool.and_eq_true]at h;obtain ⟨i,rfl,_,_⟩:=o9 h.1;rw[List.map_cons,List.map_cons,← v0h h.2];rfl
theorem t0c(ns:List Int):(ns.map D.int).map intD=ns:=by
 rw[List.map_map];exact List.map_id _
theorem atZ{ns:List Int}{z:Int}(h0:0≤z)(h1:z<(ns.length:Int)):atI (ns.map D.int) z=some (.int (ns.getD z.toNat 0)):=by
 have hz:z=((z.toNat:Nat):Int):=by omega
 have hl:z.toNat<ns.length:=by omega
 rw[hz,z0j (v:=D.int (ns.getD z.toNat 0))]
 ·rfl
 ·rw[List.getElem?_map,List.getElem?_eq_getElem hl,List.getD_eq_getElem?_getD,List.getElem?_eq_getElem hl];rfl
theorem d0r:∀ns:List Int,((List.range (ns.length-1)).map fun j=>decide (ns.getD j 0<ns.getD (j+1) 0)).all id=risI ns
 | []=>rfl
 | [a]=>rfl
 |a::b::r=>by
  have ih:=d0r (b::r);have e:(a::b::r).length-1=(r.length)+1:=by simp
  have e2:(b::r).length-1=r.length:=by simp
  rw[e2]at ih;rw[e,List.range_succ_eq_map,List.map_cons,List.all_cons,List.map_map];unfold risI;rw[←ih];rfl
noncomputable def w0o:Sp2:=fun ds δ q _=>match ds with | [d,.int lo,.int hi]=>l4 d=true∧hi-lo+1≤900∧q (.bl (risD d lo hi)) δ |_=>False
noncomputable abbrev r6:List Str:=["thing","least","most"]
theorem sc_is_rising_row:FnScope ["thing","least","most"] r6 (defScope q8):=⟨rfl,rfl,rfl,by decide +kernel,rfl,by decide +kernel,by decide +kernel⟩
noncomputable abbrev p6(P:Program)(w:World)(K:PySem.W.Frag)(mg:Str→Option Value)(base:Heap)(cs:Cs):Prop:=Fun2 P w K mg base "is_rising_row" 4 r6 w0o
theorem t0l{f:Addr}{fd:FuncData}(Df:DefAt K mg "is_rising_row" q8 r6 f fd)(T:Txt K mg cs)(G_is_whole_row:v7 P w K mg base cs):p6 P w K mg base cs:=by
 have nd:=sc_is_rising_row.nd;refine def2 Df sc_is_rising_row (fun ds δ q x h=>?_) (fun cdv A outer s H E Y hr=>⟨_,(i0 (a5 (j6 (l6 (g0 G_is_whole_row (hr.mono (by decide)) r0 (v0 (e2_v 0) (v0 j0 (v0 (v4 w4 b4 (v4 s0x l0e (e2_v 2) (e2_v 1)) j0) (v0 (e2_v 1) (v0 (e2_v 2) s0)))))))) (y3 (j3 h0r)) n4)
  (y3 (j3 (e2_b (x0a rfl) f0k T.n_all n0t (v0 (n5 rfl (CompOkM.of ["k"] [0] rfl) (e0z T.n_range (v0 j0 (v0 (j5 0 T.n_len) s0))) (fun nd _ _ _ _ _=>(i3 (i:=0) nd rfl (by first |exact Or.inl rfl |exact Or.inr rfl))) o5 (fun _ _ _ _ _ _=>x6) (fun _ _ _ _ _ _=>(s0t z1g d_lt (x4 1 (v4 s0x l0e (e2_v 0) j0)) (x4 1 (e2_v 0)) (d4 _)))) s0))))),fun ds δ q x h=>?_⟩)
 ·unfold w0o at h;split at h
  ·rfl
  ·exact h.elim
 ·unfold w0o at h;split at h;rotate_left
  ·exact h.elim
  rename_i d lo hi;obtain ⟨ht,hb,hq⟩:=h;rw[show l3 ["thing","least","most"] _=[.val _,.val _,.val _]from rfl];walk_at "dl";simp only[m0v,ht,true_and];refine ⟨hb,?_⟩;cases e:w0t d 0 (hi-lo+1) lo hi with
  |false=>
   have er:risD d lo hi=false:=by unfold risD;rw[e];rfl
   rw[er]at hq;simp only[Bool.not_false,if_true];exact hq
  |true=>
   simp only[Bool.not_true,Bool.false_eq_true,if_false];have er:risD d lo hi=risI (((rowD d).getD []).map intD):=by unfold risD;rw[e];rfl
   rw[er]at hq;have main:∀ns:List Int,(ns.length:Int)≤900→q (.bl (risI ns)) δ→∀(c:D),seqV [.val c] none 0=some (ns.map D.int)→(∀a,c≠.ref a)→r8 (t2Op ltF (n0m 1 (t2Op subF (t2V 0) (t2C (.int 1)))) (n0m 1 (t2V 0))) [0] [.val c,.val (.int lo),.val (.int hi)]
    (fun acc δ2=>match blsD acc with |some bs=>q (D.bl (bs.all id)) δ2 |none=>False) (rngD 1 (((ns.length:Nat):Int)-1).toNat) [] δ:=by
    intro ns hl hq c hc hr;have hs:∀(ρ:En) δ',seqV (ρ++[.val c]) δ' ρ.length=some (ns.map D.int):=fun ρ δ'=>by
     unfold seqV at hc ⊢;rw[List.getElem?_append_right (Nat.le_refl _),Nat.sub_self];cases c<;>first |exact hc |exact absurd rfl (hr _)
    refine z7 (fun i acc δ'=>acc=(List.range i).map (fun j=>D.bl (decide (ns.getD j 0<ns.getD (j+1) 0)))∧δ'=δ) ⟨rfl,rfl⟩ ?_ ?_
    ·rintro i z acc δ' rest hi ⟨rfl,rfl⟩ hrest;obtain ⟨hi2,rfl⟩:=k9 hi;have hs1:=hs [.val (.int (1+(i:Int)))] δ';simp only[capt,y0a,List.map_cons,List.map_nil,List.getElem?_cons_zero];simp only[t2Op,n0m,t2V,t2C,rdV,hasV,List.getElem?_cons_zero,List.getElem?_cons_succ,fI0,true_and];simp only[List.cons_append,List.nil_append,List.length_cons,List.length_nil,Nat.zero_add]at hs1;simp only[hs1,ixQ,ltF,fI0];rw[atZ (by omega) (by omega),atZ (by omega) (by omega)];dsimp only;refine ⟨by rw[List.length_map,List.length_range];omega,hrest _ _ ⟨?_,rfl⟩⟩;rw[List.range_succ,List.map_append];have e1:(1+(i:Int)-1).toNat=i:=by omega
     have e2:(1+(i:Int)).toNat=i+1:=by omega
     rw[e1,e2];rfl
    ·rintro acc δ' ⟨rfl,rfl⟩;rw[y8,v0k];dsimp only;have e1:(((ns.length:Nat):Int)-1).toNat=ns.length-1:=by omega
     rw[e1,d0r];exact hq
   have key:∀xs:List D,rowD d=some xs→((xs.map intD).map D.int)=xs∧(xs.length:Int)≤900:=fun xs hx=>by
    unfold w0t at e;rw[hx]at e;dsimp only at e;simp only[Bool.and_eq_true,decide_eq_true_eq]at e;exact ⟨(v0h e.2).symm,by omega⟩
   have len:∀xs:List D,((xs.map intD).length:Int)=(xs.length:Int):=fun xs=>by rw[List.length_map]
   have bnd:∀xs:List D,rowD d=some xs→(-(2^62)≤(1:Int)∧(1:Int)<2^62∧-(2^62)≤((xs.length:Nat):Int)∧((xs.length:Nat):Int)<2^62):=fun xs hx=>by have:=(key xs hx).2;omega
   cases d<;>first |(cases e;done)|skip
   ·rename_i xs;obtain ⟨k1,k2⟩:=key xs rfl;refine ⟨bnd xs rfl,?_⟩;have:=main (xs.map intD) (by rw[len];exact k2) hq (.lst xs) (by rw[k1];rfl) (fun a z=>by cases z);rw[List.length_map]at this;exact this
   ·rename_i xs;obtain ⟨k1,k2⟩:=key xs rfl;refine ⟨bnd xs rfl,?_⟩;have:=main (xs.map intD) (by rw[len];exact k2) hq (.tup xs) (by rw[k1];rfl) (fun a z=>by cases z);rw[List.length_map]at this;exact this
theorem DkAt.mono{p:Addr}{ns:List Int}{n m:Nat}{δ:Dk}(h:DkAt p ns n δ)(l:n≤m):DkAt p ns m δ:=by
 obtain ⟨c,k,e,h1,h2,h3⟩:=h;exact ⟨c,k,e,h1,h2,by omega⟩
structure SpecOk(full mark:Int)(ws:List Int)(price:Int):Prop where
 f1:1≤full
 f2:full≤9
 m1:0≤mark
 m2:mark≤full
 l1:0<ws.length
 l2:ws.length≤6
 w:∀x∈ws,0≤x∧x≤9
 p1:0≤price
 p2:price≤99
noncomputable def m0d(full mark:Int)(ws:List Int)(price:Int):D:=.tup [.int full,.int mark,.tup (ws.map D.int),.int price]
noncomputable def d0q:Sp2:=fun ds δ q _=>∃p ns n,ds=[.ref p,.int 9]∧DkAt p ns n δ∧n<2^20∧∀full mark ws price δ',SpecOk full mark ws price→DkAt p ns (n+20) δ'→q (m0d full mark ws price) δ'
noncomputable abbrev y0j:List Str:=["_law_deck_here","_law_most"]
theorem sc_law_spec:FnScope ["_law_deck_here","_law_most","_law_full","_law_mark","_law_size","_law_great","_law_wear","_law_price"] y0j (defScope v0n):=⟨rfl,rfl,rfl,by decide +kernel,rfl,by decide +kernel,by decide +kernel⟩
noncomputable abbrev v0g(P:Program)(w:World)(K:PySem.W.Frag)(mg:Str→Option Value)(base:Heap)(cs:Cs):Prop:=Fun2 P w K mg base "_law_spec" 5 y0j d0q
theorem j0t{f:Addr}{fd:FuncData}(Df:DefAt K mg "_law_spec" v0n y0j f fd)(T:Txt K mg cs)(G_law_take:b6 P w K mg base cs):v0g P w K mg base cs:=by
 have nd:=sc_law_spec.nd;refine def2 Df sc_law_spec (fun ds δ q x h=>?_) (fun cdv A outer s H E Y hr=>⟨_,(i0 (y4 2 nd (v4 w4 b4 j0 (g0 G_law_take (hr.mono (by decide)) r0 (v0 (e2_v 0) (v0 (e2_v 1) s0)))))
  (i0 (y4 3 nd (v4 x0y q0k (g0 G_law_take (hr.mono (by decide)) r0 (v0 (e2_v 0) (v0 (v4 w4 b4 (e2_v 2) j0) s0))) (g0 G_law_take (hr.mono (by decide)) r0 (v0 (e2_v 0) (v0 j0 s0)))))
  (i0 (y4 4 nd (v4 w4 b4 j0 (g0 G_law_take (hr.mono (by decide)) r0 (v0 (e2_v 0) (v0 j0 s0)))))
  (i0 (y4 5 nd (v4 w4 b4 j0 (v4 x0y q0k j0 (y0b o0e d_int T.n_int f0u (v0 (s0t q0n d_eq (g0 G_law_take (hr.mono (by decide)) r0 (v0 (e2_v 0) (v0 j0 s0))) j0 (d4 _)) s0)))))
  (i0 (x1w (i:=6) rfl (CompOkM.of ["_law_k"] [0,5,2,3] rfl) (p9 T.n_range (v0 (e2_v 4) s0)) (fun nd _ _ _ _ _=>(i3 (i:=0) nd rfl (by first |exact Or.inl rfl |exact Or.inr rfl))) o5 (fun _ _ _ _ _ _=>x6) (fun _ _ _ _ _ _=>(e2_b (g0k rfl) d_min T.n_min bt_min (v0 (g0 G_law_take (hr.mono (by decide)) x0x (v0 (e2_v 1) (v0 (e2_v 2) s0))) (v0 (v4 s0x l0e (e2_v 3) (e2_v 4)) s0)))) nd)
  (i0 (a5 (u5 q0n d_eq (g0 G_law_take (hr.mono (by decide)) r0 (v0 (e2_v 0) (v0 j0 s0))) j0 (d4 _)) (y3 (l0c 6 j0 (g0 G_law_take (hr.mono (by decide)) r0 (v0 (e2_v 0) (v0 j0 s0))))) n4)
  (i0 (y4 7 nd (g0 G_law_take (hr.mono (by decide)) r0 (v0 (e2_v 0) (v0 j0 s0))))
  (i0 (a5 (u5 q0n d_eq (g0 G_law_take (hr.mono (by decide)) r0 (v0 (e2_v 0) (v0 j0 s0))) j0 (d4 _)) (y3 (y4 7 nd (g0 G_law_take (hr.mono (by decide)) r0 (v0 (e2_v 0) (v0 j0 s0))))) n4)
  (y3 (j3 (w0z (v0 (e2_v 2) (v0 (e2_v 3) (v0 (y0b b3 f7 T.n_tuple b5 (v0 (e2_v 6) s0)) (v0 (e2_v 7) s0))))))))))))))),fun ds δ q x h=>?_⟩)
 ·unfold d0q at h;obtain ⟨p,ns,n,rfl,hD,hn,hq⟩:=h;rfl
 ·unfold d0q at h;obtain ⟨p,ns,n,rfl,hD,hn,hq⟩:=h;rw[show l3 ["_law_deck_here","_law_most","_law_full","_law_mark","_law_size","_law_great","_law_wear","_law_price"] _=[.val _,.val _,.no,.no,.no,.no,.no,.no]from rfl];walk_at "dl";refine ⟨p,ns,_,9,rfl,hD,by omega,by decide,by decide,fun a0 δ0 a1 a2 hD=>?_⟩;refine ⟨p,ns,_,1+a0+1,rfl,hD,by omega,by omega,by omega,fun b0 δ1 b1 b2 hD=>?_⟩;refine ⟨p,ns,_,2,rfl,hD,by omega,by decide,by decide,fun c0 δ2 c1 c2 hD=>?_⟩;refine ⟨.inl ⟨by omega,by omega⟩,?_⟩;refine ⟨p,ns,_,6,rfl,hD,by omega,by decide,by decide,fun d0 δ3 d1 d2 hD=>?_⟩;refine ⟨p,ns,_,4,rfl,hD,by omega,by decide,by decide,fun e0 δ4 e1 e2 hD=>?_⟩;dsimp only;have hc:c0=0∨c0=1:=by omega
  have hmark:0≤b0*c0∧b0*c0≤1+a0:=by
   rcases hc with rfl |rfl
   ·rw[Int.mul_zero];omega
   ·rw[Int.mul_one];omega
  generalize b0*c0=mk at hmark;obtain ⟨g,hg,g1,g2⟩:∃g:Int,(4+6*if decide (e0=3)=true then 1 else 0)=g∧0<g∧g≤10:=⟨_,rfl,by split<;>omega,by split<;>omega⟩;refine ⟨.inl ⟨by decide,by decide⟩,⟨by omega,by omega⟩,?_⟩;rw[hg];have hsz:(rngD 0 (1+d0).toNat).length≤6:=by rw[y8];omega
  have hs0:0<(rngD 0 (1+d0).toNat).length:=by rw[y8];omega
  refine z7 (fun i acc δ'=>∃ws:List Int,acc=ws.map D.int∧ws.length=i∧(∀x∈ws,0≤x∧x≤9)∧DkAt p ns (n+5+i) δ') ⟨[],rfl,rfl,fun x hx=>(by cases hx),hD⟩ ?_ ?_
  ·rintro i d acc δ' rest hi ⟨ws,rfl,hwl,hw,hD⟩ hrest;have hlt:=(List.getElem?_eq_some_iff.mp hi).1;walk_at "dl";refine ⟨p,ns,_,g,rfl,hD,by omega,g1,by omega,fun x0 δ5 x1 x2 hD=>?_⟩;dsimp only;refine ⟨by rw[List.length_map];omega,hrest _ _ ⟨ws++[if 1+a0-mk<x0 then 1+a0-mk else x0],by rw[List.map_append];rfl,by rw[List.length_append,hwl];rfl,fun y hy=>?_,hD⟩⟩;rcases List.mem_append.mp hy with hy |hy
   ·exact hw y hy
   ·rw[List.mem_singleton.mp hy];split<;>omega
  ·rintro acc δ' ⟨ws,rfl,hwl,hw,hD⟩;refine ⟨p,ns,_,8,rfl,hD,by omega,by decide,by decide,fun x0 δ5 x1 x2 hD=>?_⟩;dsimp only;have hset:∀y:Int,0≤y→y≤9→∀x∈ws.set 0 y,0≤x∧x≤9:=fun y y1 y2 x hx=>by
    rcases List.mem_or_eq_of_mem_set hx with h |h
    ·exact hw x h
    ·rw[h];exact ⟨y1,y2⟩
   have ok:∀(us:List Int) (pr:Int),us.length=ws.length→(∀x∈us,0≤x∧x≤9)→0≤pr→pr<100→SpecOk (1+a0) mk us pr:=fun us pr h1 h2 h3 h4=>⟨by omega,by omega,hmark.1,hmark.2,by omega,by omega,h2,h3,by omega⟩
   split
   ·refine ⟨p,ns,_,10,rfl,hD,by omega,by decide,by decide,fun y0 δ6 y1 y2 hD=>?_⟩;rw[if_pos (by rw[List.length_map];omega)];dsimp only;rw[show (ws.map D.int).set 0 (.int y0)=(ws.set 0 y0).map D.int from (List.map_set).symm];refine ⟨p,ns,_,10,rfl,hD,by omega,by decide,by decide,fun z0 δ7 z1 z2 hD=>?_⟩;refine ⟨p,ns,_,3,rfl,hD,by omega,by decide,by decide,fun w0 δ8 w1 w2 hD=>?_⟩;dsimp only;split
    ·refine ⟨p,ns,_,100,rfl,hD,by omega,by decide,by decide,fun u0 δ9 u1 u2 hD=>?_⟩;dsimp only;exact hq _ _ (ws.set 0 y0) _ _ (ok _ _ List.length_set (hset y0 y1 (by omega)) u1 u2) (hD.mono (by omega))
    ·exact hq _ _ (ws.set 0 y0) _ _ (ok _ _ List.length_set (hset y0 y1 (by omega)) z1 (by omega)) (hD.mono (by omega))
   ·refine ⟨p,ns,_,10,rfl,hD,by omega,by decide,by decide,fun z0 δ7 z1 z2 hD=>?_⟩;refine ⟨p,ns,_,3,rfl,hD,by omega,by decide,by decide,fun w0 δ8 w1 w2 hD=>?_⟩;dsimp only;split
    ·refine ⟨p,ns,_,100,rfl,hD,by omega,by decide,by decide,fun u0 δ9 u1 u2 hD=>?_⟩;dsimp only;exact hq _ _ ws _ _ (ok _ _ rfl hw u1 u2) (hD.mono (by omega))
    ·exact hq _ _ ws _ _ (ok _ _ rfl hw z1 (by omega)) (hD.mono (by omega))
noncomputable def j0s(cs:Cs):Sp2:=fun ds δ q _=>∃full mark ws price,ds=[m0d full mark ws price]∧SpecOk full mark ws price∧q (p0a cs full mark ws price) δ
theorem b0a{ws:List Int}(h:∀x∈ws,0≤x∧x≤9):(ws.map D.int).all (u4 · 0 9)=true:=by
 rw[List.all_eq_true];intro d hd;obtain ⟨x,hx,rfl⟩:=List.mem_map.mp hd;unfold u4;rw[Bool.and_eq_true,decide_eq_true_eq,decide_eq_true_eq];exact h x hx
theorem v0f{ws:List Int}:(ws.map D.int).all p5=true:=by
 rw[List.all_eq_true];intro d hd;obtain ⟨x,hx,rfl⟩:=List.mem_map.mp hd;rfl
noncomputable abbrev y0i:List Str:=["_law_spec_here"]
theorem sc_law_part:FnScope ["_law_spec_here"] y0i (defScope v0m):=⟨rfl,rfl,rfl,by decide +kernel,rfl,by decide +kernel,by decide +kernel⟩
noncomputable abbrev v0e(P:Program)(w:World)(K:PySem.W.Frag)(mg:Str→Option Value)(base:Heap)(cs:Cs):Prop:=Fun2 P w K mg base "_law_part" 6 y0i (j0s cs)
theorem j0r{f:Addr}{fd:FuncData}(Df:DefAt K mg "_law_part" v0m y0i f fd)(T:Txt K mg cs)(M_Part:Make2 P w K mg base "Part" 4 (p0n cs)):v0e P w K mg base cs:=by
 have nd:=sc_law_part.nd;refine def2 Df sc_law_part (fun ds δ q x h=>?_) (fun cdv A outer s H E Y hr=>⟨_,(y3 (j3 (f0f M_Part (hr.mono (by decide)) r0 (v0 (x4 0 j0) (v0 (x4 0 j0) (v0 (x4 0 j0) (v0 (x4 0 j0) s0))))))),fun ds δ q x h=>?_⟩)
 ·unfold j0s at h;obtain ⟨full,mark,ws,price,rfl,h,hq⟩:=h;rfl
 ·unfold j0s at h;obtain ⟨full,mark,ws,price,rfl,h,hq⟩:=h;rw[show l3 ["_law_spec_here"] _=[.val _]from rfl];walk_at "dl";unfold m0d;walk_at "dl";unfold p0n;have e1:u4 (.int full) 1 9=true:=by unfold u4;rw[Bool.and_eq_true,decide_eq_true_eq,decide_eq_true_eq];exact ⟨h.f1,h.f2⟩
  have e2:u4 (.int mark) 0 full=true:=by unfold u4;rw[Bool.and_eq_true,decide_eq_true_eq,decide_eq_true_eq];exact ⟨h.m1,h.m2⟩
  have e3:u4 (.int price) 0 99=true:=by unfold u4;rw[Bool.and_eq_true,decide_eq_true_eq,decide_eq_true_eq];exact ⟨h.p1,h.p2⟩
  have e4:w0t (.tup (ws.map D.int)) 1 6 0 9=true:=by
   unfold w0t rowD;dsimp only;rw[b0a h.w,List.length_map,decide_eq_true (show (1:Int)≤(ws.length:Int)by have:=h.l1;omega),decide_eq_true (show (ws.length:Int)≤6 by have:=h.l2;omega)];rfl
  have e5:l4 (.tup (ws.map D.int))=true:=by
   unfold l4 rowD;dsimp only;rw[v0f];rfl
  simp only[e1,e2,e3,e4,e5,if_true];exact ⟨rfl,hq⟩
structure PartZ where
 full:Int
 mark:Int
 ws:List Int
 price:Int
noncomputable def r0d(cs:Cs)(p:PartZ):D:=p0a cs p.full p.mark p.ws p.price
noncomputable def POk(p:PartZ):Prop:=SpecOk p.full p.mark p.ws p.price
noncomputable def p4(cs:Cs)(ps:List PartZ)(call:Int)(shut:List Int):D:=.ins cs.Works [("parts",.tup (ps.map (r0d cs))),("call",.int call),("shut",.tup (shut.map D.int))]
noncomputable def x0h(cs:Cs):D→Bool | .ins C _=>decide (C=cs.Part)|_=>false
noncomputable def entD(cs:Cs):D→Bool | .ins C _=>decide (C=cs.Part)|d=>p5 d
noncomputable def w0n(cs:Cs)(d:D):Bool:=match rowD d with |some xs=>decide ((xs.length:Int)≤4)&&xs.all (x0h cs)|none=>false
noncomputable def w0m(cs:Cs):Sp2:=fun ds δ q _=>match ds with | [d]=>p5 d=true∧(∀x∈(rowD d).getD [],entD cs x=true)∧q (.bl (w0n cs d)) δ |_=>False
noncomputable def i0h:Sp2:=fun ds δ q _=>match ds with | [d]=>l4 d=true∧q (.bl (risD d 0 47)) δ |_=>False
noncomputable def v0d:Sp2:=fun ds δ q _=>match ds with | [d,.int m]=>l4 d=true∧m≤900∧q (.bl (risD d 0 (m-1))) δ |_=>False
theorem a0z{K:PySem.W.Frag}{mg:Str→Option Value}{cs:Cs}(T:Txt K mg cs){d:D}(h:entD cs d=true):TyD K d∧n0q K d (.ref cs.Part)=some (x0h cs d):=by
 cases d with
 |ins C fs=>
  have:C=cs.Part:=of_decide_eq_true h;subst this;exact ⟨T.cl_Part,by rw[b0i];show some true=some (decide (cs.Part=cs.Part));rw[decide_eq_true rfl]⟩
 |exc C fs=>cases h
 |ref a=>cases h
 |ty a=>cases h
 |scr a=>cases h
 |dwk a=>cases h
 |non=>exact ⟨trivial,x0q T.kn_Part rfl⟩
 |bl b=>exact ⟨trivial,x0q T.kn_Part rfl⟩
 |int b=>exact ⟨trivial,x0q T.kn_Part rfl⟩
 |str b=>exact ⟨trivial,x0q T.kn_Part rfl⟩
 |lst b=>exact ⟨trivial,x0q T.kn_Part rfl⟩
 |tup b=>exact ⟨trivial,x0q T.kn_Part rfl⟩
 |dic b=>exact ⟨trivial,x0q T.kn_Part rfl⟩
noncomputable abbrev y0h:List Str:=["thing"]
theorem sc_is_parts:FnScope ["thing"] y0h (defScope v0u):=⟨rfl,rfl,rfl,by decide +kernel,rfl,by decide +kernel,by decide +kernel⟩
noncomputable abbrev v0c(P:Program)(w:World)(K:PySem.W.Frag)(mg:Str→Option Value)(base:Heap)(cs:Cs):Prop:=Fun2 P w K mg base "is_parts" 3 y0h (w0m cs)
theorem j0q{f:Addr}{fd:FuncData}(Df:DefAt K mg "is_parts" v0u y0h f fd)(T:Txt K mg cs)(G_is_row:y0k P w K mg base cs):v0c P w K mg base cs:=by
 have nd:=sc_is_parts.nd;refine def2 Df sc_is_parts (fun ds δ q x h=>?_) (fun cdv A outer s H E Y hr=>⟨_,(i0 (a5 (PW2.pt (l0f (j6 (l6 (g0 G_is_row (hr.mono (by decide)) r0 (v0 (e2_v 0) s0)))) (p0x (u5 g0n d_gt (j5 0 T.n_len) (e0x T.g_MOST_PARTS) (d4 _))))) (y3 (j3 h0r)) n4)
  (y3 (j3 (e2_b (x0a rfl) f0k T.n_all n0t (v0 (n5 rfl (CompOkM.of ["entry"] [] rfl) (x0w (e2_v 0)) (fun nd _ _ _ _ _=>(i3 (i:=0) nd rfl (by first |exact Or.inl rfl |exact Or.inr rfl))) o5 (fun _ _ _ _ _ _=>x6) (fun _ _ _ _ _ _=>(e2_b x0b (i0v (K:=K)) T.n_isinstance a7 (v0 (e2_v 0) (v0 (e2_cl T.c_Part) s0))))) s0))))),fun ds δ q x h=>?_⟩)
 ·unfold w0m at h;split at h
  ·rfl
  ·exact h.elim
 ·unfold w0m at h;split at h;rotate_left
  ·exact h.elim
  rename_i d;obtain ⟨hp,hx,hq⟩:=h;rw[show l3 ["thing"] _=[.val _]from rfl];walk_at "dl";simp only[k0p,hp,true_and];cases e:rowD d with
  |none=>
   have e1:i7 d=false:=by unfold i7;rw[e];rfl
   have e2:w0n cs d=false:=by unfold w0n;rw[e]
   rw[e2]at hq;simp only[e1,Bool.not_false,if_true];exact hq
  |some xs=>
   have e1:i7 d=true:=by unfold i7;rw[e];rfl
   have e2:w0n cs d=(decide ((xs.length:Int)≤4)&&xs.all (x0h cs)):=by unfold w0n;rw[e]
   rw[e]at hx;simp only[Option.getD_some]at hx;rw[e2]at hq;simp only[e1,Bool.not_true,Bool.false_eq_true,if_false];have main:∀ ρ:En,(xs.length:Int)≤4→q (.bl (xs.all (x0h cs))) δ→r8 (t2Bi (h0p K) (w5 (t2V 0) (w5 (t2C (.ref cs.Part)) x0t))) [] ρ
    (fun acc δ2=>match blsD acc with |some bs=>q (D.bl (bs.all id)) δ2 |none=>False) xs [] δ:=by
    intro ρ hlen hq;refine z7 (fun i acc δ'=>acc=(xs.take i).map (fun z=>D.bl (x0h cs z))∧δ'=δ) ⟨rfl,rfl⟩ ?_ ?_
    ·rintro i z acc δ' rest hi ⟨rfl,rfl⟩ hrest;have hl:=(List.getElem?_eq_some_iff.mp hi).1;obtain ⟨t1,t2⟩:=a0z T (hx z (List.mem_of_getElem? hi));walk_at "dl";simp only[t2,t1,true_and];refine ⟨by rw[List.length_map,List.length_take];omega,hrest _ _ ⟨?_,rfl⟩⟩;rw[List.take_succ,hi,List.map_append];rfl
    ·rintro acc δ' ⟨rfl,rfl⟩;rw[List.take_length,v0k];have:(xs.map fun z=>x0h cs z).all id=xs.all (x0h cs):=by rw[List.all_map];rfl
     dsimp only;rw[this];exact hq
   cases d<;>first |(cases e;done)|skip
   all_goals
    cases e;dsimp only;split
    ·rename_i h1;rw[decide_eq_false (by omega)]at hq;exact hq
    ·rename_i h1;rw[decide_eq_true (by omega),Bool.true_and]at hq;exact main _ (by omega) hq
noncomputable abbrev w0l:List Str:=["thing"]
theorem sc_is_shut:FnScope ["thing"] w0l (defScope s0k):=⟨rfl,rfl,rfl,by decide +kernel,rfl,by decide +kernel,by decide +kernel⟩
noncomputable abbrev r0c(P:Program)(w:World)(K:PySem.W.Frag)(mg:Str→Option Value)(base:Heap)(cs:Cs):Prop:=Fun2 P w K mg base "is_shut" 5 w0l i0h
theorem h0e{f:Addr}{fd:FuncData}(Df:DefAt K mg "is_shut" s0k w0l f fd)(T:Txt K mg cs)(G_is_rising_row:p6 P w K mg base cs):r0c P w K mg base cs:=by
 have nd:=sc_is_shut.nd;refine def2 Df sc_is_shut (fun ds δ q x h=>?_) (fun cdv A outer s H E Y hr=>⟨_,(y3 (j3 (g0 G_is_rising_row (hr.mono (by decide)) r0 (v0 (e2_v 0) (v0 j0 (v0 (e0x T.g_GREATEST_SHUT) s0)))))),fun ds δ q x h=>?_⟩)
 ·unfold i0h at h;split at h
  ·rfl
  ·exact h.elim
 ·unfold i0h at h;split at h;rotate_left
  ·exact h.elim
  rename_i d;obtain ⟨ht,hq⟩:=h;rw[show l3 ["thing"] _=[.val _]from rfl];walk_at "dl";simp only[w0o];exact ⟨ht,by decide,hq⟩
noncomputable abbrev z6:List Str:=["thing","many"]
theorem sc_is_choice_among:FnScope ["thing","many"] z6 (defScope f6):=⟨rfl,rfl,rfl,by decide +kernel,rfl,by decide +kernel,by decide +kernel⟩
noncomputable abbrev y6(P:Program)(w:World)(K:PySem.W.Frag)(mg:Str→Option Value)(base:Heap)(cs:Cs):Prop:=Fun2 P w K mg base "is_choice_among" 5 z6 v0d
theorem w0k{f:Addr}{fd:FuncData}(Df:DefAt K mg "is_choice_among" f6 z6 f fd)(T:Txt K mg cs)(G_is_rising_row:p6 P w K mg base cs):y6 P w K mg base cs:=by
 have nd:=sc_is_choice_among.nd;refine def2 Df sc_is_choice_among (fun ds δ q x h=>?_) (fun cdv A outer s H E Y hr=>⟨_,(y3 (j3 (g0 G_is_rising_row (hr.mono (by decide)) r0 (v0 (e2_v 0) (v0 j0 (v0 (v4 s0x l0e (e2_v 1) j0) s0)))))),fun ds δ q x h=>?_⟩)
 ·unfold v0d at h;split at h
  ·rfl
  ·exact h.elim
 ·unfold v0d at h;split at h;rotate_left
  ·exact h.elim
  rename_i d m;obtain ⟨ht,hm,hq⟩:=h;rw[show l3 ["thing","many"] _=[.val _,.val _]from rfl];walk_at "dl";simp only[w0o];exact ⟨ht,by omega,hq⟩
noncomputable def v0b(cs:Cs):Sp2:=fun ds δ q x=>match ds with
 | [a,c,s]=>(p5 a&&l4 c&&l4 s)=true∧(∀x∈(rowD a).getD [],entD cs x=true)∧(if w0n cs a=true then (if u4 c 0 99=true then (if risD s 0 47=true then
  q (.ins cs.Works [("parts",.tup ((rowD a).getD [])),("call",c),("shut",.tup ((rowD s).getD []))]) δ else x cs.NoWorks [("at",.int 2)] δ)else x cs.NoWorks [("at",.int 1)] δ)else x cs.NoWorks [("at",.int 0)] δ)
 |_=>False
theorem sc_Works_init:FnScope ["self","parts","call","shut"] ["self","parts","call","shut"] (defScope y0z):=⟨rfl,rfl,rfl,by decide +kernel,rfl,by decide +kernel,by decide +kernel⟩
theorem o0z{f:Addr}{fd:FuncData}(Fn:Fun K "__init__" "Works.__init__" y0z f fd)(M:Mk K cs.Works f)(bd:Binds K fd ["self","parts","call","shut"] [])(T:Txt K mg cs)(G_is_parts:v0c P w K mg base cs)(G_is_whole:d6 P w K mg base cs)(G_is_shut:r0c P w K mg base cs)(M_NoWorks:MkE P w K mg base "NoWorks" cs.NoWorks 1 ["self","at"] (spXI cs.NoWorks "at")):Make2 P w K mg base "Works" 6 (v0b cs):=by
 have nd:=sc_Works_init.nd;refine init2 Fn M T.c_Works bd sc_Works_init (fun ds δ q x h=>?_) (fun cdv A outer s H E Y hr=>⟨_,(i0 (a5 (j6 (l6 (g0 G_is_parts (hr.mono (by decide)) r0 (v0 (e2_v 1) s0)))) (y3 (w6 rfl r0 M_NoWorks (hr.mono (by decide)) (v0 j0 s0))) n4)
  (i0 (a5 (j6 (l6 (g0 G_is_whole (hr.mono (by decide)) r0 (v0 (e2_v 2) (v0 j0 (v0 (e0x T.g_GREATEST_CALL) s0)))))) (y3 (w6 rfl r0 M_NoWorks (hr.mono (by decide)) (v0 j0 s0))) n4)
  (i0 (a5 (j6 (l6 (g0 G_is_shut (hr.mono (by decide)) r0 (v0 (e2_v 3) s0)))) (y3 (w6 rfl r0 M_NoWorks (hr.mono (by decide)) (v0 j0 s0))) n4)
  (i0 (j9 K 0 (y0b b3 f7 T.n_tuple b5 (v0 (e2_v 1) s0)))
  (i0 (j9 K 0 (e2_v 2))
  (y3 (j9 K 0 (y0b b3 f7 T.n_tuple b5 (v0 (e2_v 3) s0))))))))),fun ds δ q x h=>?_⟩)
 ·unfold v0b at h;split at h
  ·rfl
  ·exact h.elim
 ·unfold v0b at h;split at h;rotate_left
  ·exact h.elim
  rename_i a c v;rw[show l3 ["parts","call","shut"] _=[.val _,.val _,.val _]from rfl];obtain ⟨ht,hx,hq⟩:=h;simp only[Bool.and_eq_true]at ht;obtain ⟨⟨ta,tc⟩,ts⟩:=ht;have pl:∀{d:D},l4 d=true→p5 d=true:=fun {d} h=>by unfold l4 at h;rw[Bool.and_eq_true]at h;exact h.1
  walk_at "dl";simp only[w0m,ta,true_and];refine ⟨hx,?_⟩;cases ea:w0n cs a with
  |false=>
   rw[ea]at hq;simp only[Bool.not_false,if_true];exact hq
  |true=>
   rw[ea]at hq;simp only[Bool.not_true,Bool.false_eq_true,if_false,if_true,y0y,pl tc,true_and]at hq ⊢;cases ec:u4 c 0 99 with
   |false=>
    rw[ec]at hq;simp only[Bool.not_false,if_true];exact hq
   |true=>
    rw[ec]at hq;simp only[Bool.not_true,Bool.false_eq_true,if_false,if_true,i0h,ts,true_and]at hq ⊢;cases es:risD v 0 47 with
    |false=>
     rw[es]at hq;simp only[Bool.not_false,if_true];exact hq
    |true=>
     rw[es]at hq;simp only[Bool.not_true,Bool.false_eq_true,if_false,if_true]at hq ⊢;have rv:w0t v 0 (47-0+1) 0 47=true:=by unfold risD at es;rw[Bool.and_eq_true]at es;exact es.1
     cases a<;>first |(cases ea;done)|skip
     all_goals
      cases v<;>first |(cases rv;done)|skip
      all_goals
       simp only[T.cl_Works.cl,T.f_Works_parts,T.f_Works_call,T.f_Works_shut,q0j,u0e,u0a,s0d,if_false,List.length_cons,List.length_nil,true_and]
       repeat (first |exact ⟨_,rfl,hq⟩|(refine ⟨by decide,?_⟩))
noncomputable instance:Inhabited PartZ:=⟨⟨0,0,[],0⟩⟩
noncomputable def n8(ps:List PartZ)(call:Int)(ch:List Int):Int:=if ch=[]then 0 else call+(ch.map fun k=>(ps.getD k.toNat default).price).sum
noncomputable def chD(d:D):List Int:=((rowD d).getD []).map intD
theorem d0p{d:D}{lo hi:Int}(h:risD d lo hi=true):∃xs,rowD d=some xs∧xs=(chD d).map D.int∧(∀k∈chD d,lo≤k∧k≤hi)∧((chD d).length:Int)≤hi-lo+1∧risI (chD d)=true:=by
 unfold risD at h;rw[Bool.and_eq_true]at h;have h1:=h.1;unfold w0t at h1;cases e:rowD d with
 |none=>rw[e]at h1;cases h1
 |some xs=>
  rw[e]at h1;simp only[Bool.and_eq_true,decide_eq_true_eq]at h1;have ec:chD d=xs.map intD:=by unfold chD;rw[e];rfl
  have ex:=v0h h1.2;refine ⟨xs,rfl,by rw[ec];exact ex,fun k hk=>?_,by rw[ec,List.length_map];exact h1.1.2,h.2⟩;rw[ec]at hk;obtain ⟨y,hy,rfl⟩:=List.mem_map.mp hk;obtain ⟨i,rfl,i1,i2⟩:=o9 (List.all_eq_true.mp h1.2 y hy);exact ⟨i1,i2⟩
theorem atP{cs:Cs}{ps:List PartZ}{k:Int}(h0:0≤k)(h1:k<(ps.length:Int)):atI (ps.map (r0d cs)) k=some (r0d cs (ps.getD k.toNat default)):=by
 have hz:k=((k.toNat:Nat):Int):=by omega
 have hl:k.toNat<ps.length:=by omega
 rw[hz,z0j (v:=r0d cs (ps.getD k.toNat default))]
 ·rfl
 ·rw[List.getElem?_map,List.getElem?_eq_getElem hl,List.getD_eq_getElem?_getD,List.getElem?_eq_getElem hl];rfl
noncomputable def v0a(cs:Cs):Sp2:=fun ds δ q _=>∃ps call shut d,ds=[p4 cs ps call shut,d]∧l4 d=true∧ps.length≤4∧q (.bl (risD d 0 ((ps.length:Int)-1))) δ
noncomputable def m0c(cs:Cs):Sp2:=fun ds δ q x=>∃ps call shut d,ds=[p4 cs ps call shut,d]∧l4 d=true∧ps.length≤4∧(∀p∈ps,0≤p.price∧p.price≤99)∧
 (risD d 0 ((ps.length:Int)-1)=true→q (.int (n8 ps call (chD d))) δ)∧(risD d 0 ((ps.length:Int)-1)=false→x cs.NoPlan [("at",.int 0)] δ)
noncomputable abbrev z0w:List Str:=["works","thing"]
theorem sc_is_choice:FnScope ["works","thing"] z0w (defScope x0o):=⟨rfl,rfl,rfl,by decide +kernel,rfl,by decide +kernel,by decide +kernel⟩
noncomputable abbrev x0g(P:Program)(w:World)(K:PySem.W.Frag)(mg:Str→Option Value)(base:Heap)(cs:Cs):Prop:=Fun2 P w K mg base "is_choice" 6 z0w (v0a cs)
theorem m0b{f:Addr}{fd:FuncData}(Df:DefAt K mg "is_choice" x0o z0w f fd)(T:Txt K mg cs)(G_is_choice_among:y6 P w K mg base cs):x0g P w K mg base cs:=by
 have nd:=sc_is_choice.nd;refine def2 Df sc_is_choice (fun ds δ q x h=>?_) (fun cdv A outer s H E Y hr=>⟨_,(y3 (j3 (g0 G_is_choice_among (hr.mono (by decide)) r0 (v0 (e2_v 1) (v0 (e2_b x5 l0d T.n_len u0o (v0 (i5 K (e2_v 0)) s0)) s0))))),fun ds δ q x h=>?_⟩)
 ·unfold v0a at h;obtain ⟨ps,call,shut,d,rfl,ht,hl,hq⟩:=h;rfl
 ·unfold v0a at h;obtain ⟨ps,call,shut,d,rfl,ht,hl,hq⟩:=h;rw[show l3 ["works","thing"] _=[.val _,.val _]from rfl];walk_at "dl";simp only[p4,List.length_map]
  (walk_at "fl";try simp only[List.length_map])
  simp only[v0d];exact ⟨ht,by omega,hq⟩
noncomputable abbrev w0j:List Str:=["works","choice"]
theorem sc_cost_of:FnScope ["works","choice"] w0j (defScope s0j):=⟨rfl,rfl,rfl,by decide +kernel,rfl,by decide +kernel,by decide +kernel⟩
noncomputable abbrev w0i(P:Program)(w:World)(K:PySem.W.Frag)(mg:Str→Option Value)(base:Heap)(cs:Cs):Prop:=Fun2 P w K mg base "cost_of" 7 w0j (m0c cs)
theorem h0d{f:Addr}{fd:FuncData}(Df:DefAt K mg "cost_of" s0j w0j f fd)(T:Txt K mg cs)(G_is_choice:x0g P w K mg base cs)(M_NoPlan:MkE P w K mg base "NoPlan" cs.NoPlan 1 ["self","at"] (spXI cs.NoPlan "at")):w0i P w K mg base cs:=by
 have nd:=sc_cost_of.nd;refine def2 Df sc_cost_of (fun ds δ q x h=>?_) (fun cdv A outer s H E Y hr=>⟨_,(i0 (a5 (j6 (l6 (g0 G_is_choice (hr.mono (by decide)) r0 (v0 (e2_v 0) (v0 (e2_v 1) s0))))) (y3 (w6 rfl r0 M_NoPlan (hr.mono (by decide)) (v0 j0 s0))) n4)
  (i0 (a5 (u5 q0n d_eq (j5 1 T.n_len) j0 (d4 _)) (y3 (j3 j0)) n4)
  (y3 (j3 (v4 w4 b4 (i5 K (e2_v 0)) (e2_b (i0p rfl) d_sum T.n_sum z1w (v0 (n5 rfl (CompOkM.of ["k"] [0] rfl) (x0w (e2_v 1)) (fun nd _ _ _ _ _=>(i3 (i:=0) nd rfl (by first |exact Or.inl rfl |exact Or.inr rfl))) o5 (fun _ _ _ _ _ _=>x6) (fun _ _ _ _ _ _=>(i5 K (f0s q0a d_ix (i5 K (e2_v 1)) (e2_v 0))))) s0))))))),fun ds δ q x h=>?_⟩)
 ·unfold m0c at h;obtain ⟨ps,call,shut,d,rfl,ht,hl,hp,hq,hx⟩:=h;rfl
 ·unfold m0c at h;obtain ⟨ps,call,shut,d,rfl,ht,hl,hp,hq,hx⟩:=h;rw[show l3 ["works","choice"] _=[.val _,.val _]from rfl];walk_at "dl";refine ⟨ps,call,shut,d,rfl,ht,hl,?_⟩;cases e:risD d 0 ((ps.length:Int)-1)with
  |false=>exact hx e
  |true=>
   simp only[Bool.not_true,Bool.false_eq_true,if_false];have hq:=hq e;obtain ⟨xs,e1,e2,e3,e4,e5⟩:=d0p e;have len:(xs.length:Int)=((chD d).length:Int):=by rw[e2,List.length_map]
   have nil:xs.length=0↔chD d=[]:=by rw[e2,List.length_map];exact List.length_eq_zero_iff
   have main:∀c:D,chD d≠[]→r8 (l0b K "price" (t2Op ixF (l0b K "parts" (t2V 1)) (t2V 0))) [0] [.val (p4 cs ps call shut),.val c]
    (fun acc δ2=>match s0o acc with |some ns=>fewD ns∧q (.int (call+ns.sum)) δ2 |none=>False) xs [] δ:=by
    intro c hne;rw[e2];refine z7 (fun i acc δ'=>acc=(((chD d).take i).map fun k=>(ps.getD k.toNat default).price).map D.int∧δ'=δ) ⟨rfl,rfl⟩ ?_ ?_
    ·rintro i z acc δ' rest hi ⟨rfl,rfl⟩ hrest;rw[List.getElem?_map,Option.map_eq_some_iff]at hi;obtain ⟨k,hk,rfl⟩:=hi;have hk3:=e3 k (List.mem_of_getElem? hk);have hkl:=(List.getElem?_eq_some_iff.mp hk).1;simp only[capt,y0a,List.map_cons,List.map_nil];walk_at "dl";simp only[p4];walk_at "fl";rw[atP hk3.1 (by omega)];dsimp only;simp only[r0d,p0a];walk_at "fl";refine ⟨by rw[List.length_map,List.length_map,List.length_take];omega,hrest _ _ ⟨?_,rfl⟩⟩;rw[List.take_succ,hk,List.map_append,List.map_append];rfl
    ·rintro acc δ' ⟨rfl,rfl⟩;rw[List.length_map,List.take_length,t0g];refine ⟨⟨by rw[List.length_map];omega,fun n hn=>?_⟩,?_⟩
     ·obtain ⟨k,hk,rfl⟩:=List.mem_map.mp hn;have hk3:=e3 k hk;have hm:ps.getD k.toNat default∈ps:=by
       rw[List.getD_eq_getElem?_getD,List.getElem?_eq_getElem (show k.toNat<ps.length by omega)];exact List.getElem_mem _
      have:=hp _ hm;omega
     ·unfold n8 at hq;rw[if_neg hne]at hq;exact hq
   cases d<;>first |(cases e1;done)|skip
   all_goals
    cases e1;simp only[decide_eq_true_eq];split
    ·rename_i h0;have h1:=nil.mp (by omega);unfold n8 at hq;rw[if_pos h1]at hq;exact hq
    ·rename_i h0;simp only[p4];walk_at "fl";exact main _ (fun z=>h0 (by have:=nil.mpr z;omega))
noncomputable def j0p(ws:List Int)(r:Int):Int:=ws.getD (r%(ws.length:Int)).toNat 0
theorem d0o{ws:List Int}(r:Int)(h:0<ws.length):atI (ws.map D.int) (r%((ws.map D.int).length:Nat))=some (.int (j0p ws r)):=by
 rw[List.length_map];have h1:=Int.emod_nonneg r (b:=(ws.length:Int)) (by omega);have h2:=Int.emod_lt_of_pos r (b:=(ws.length:Int)) (by omega);unfold j0p;generalize r%(ws.length:Int)=z at h1 h2;have hz:z=((z.toNat:Nat):Int):=by omega
 rw[hz,z0j (v:=D.int (ws.getD z.toNat 0))]
 ·rfl
 ·rw[List.getElem?_map,List.getElem?_eq_getElem (show z.toNat<ws.length by omega),List.getD_eq_getElem?_getD,List.getElem?_eq_getElem (show z.toNat<ws.length by omega)];rfl
noncomputable def d0n(cs:Cs):Sp2:=fun ds δ q _=>∃full mark ws price r,ds=[p0a cs full mark ws price,.int r]∧0<ws.length∧q (.int (j0p ws r)) δ
noncomputable def w0h(cs:Cs):Sp2:=fun ds δ q _=>∃full mark ws price d,ds=[p0a cs full mark ws price,d]∧p5 d=true∧q (.bl (u4 d mark full)) δ
noncomputable def y0x(cs:Cs):Sp2:=fun ds δ q x=>∃d,ds=[d]∧p5 d=true∧(u4 d 0 47=true→q .non δ)∧(u4 d 0 47=false→x cs.NoRounds [] δ)
noncomputable abbrev i0g:List Str:=["part","round_number"]
theorem sc_loss:FnScope ["part","round_number"] i0g (defScope d0y):=⟨rfl,rfl,rfl,by decide +kernel,rfl,by decide +kernel,by decide +kernel⟩
noncomputable abbrev d0m(P:Program)(w:World)(K:PySem.W.Frag)(mg:Str→Option Value)(base:Heap)(cs:Cs):Prop:=Fun2 P w K mg base "loss" 2 i0g (d0n cs)
theorem x1i{f:Addr}{fd:FuncData}(Df:DefAt K mg "loss" d0y i0g f fd)(T:Txt K mg cs):d0m P w K mg base cs:=by
 have nd:=sc_loss.nd;refine def2 Df sc_loss (fun ds δ q x h=>?_) (fun cdv A outer s H E Y hr=>⟨_,(y3 (j3 (f0s q0a d_ix (i5 K (e2_v 0)) (v4 u0q n0r (e2_v 1) (e2_b x5 l0d T.n_len u0o (v0 (i5 K (e2_v 0)) s0)))))),fun ds δ q x h=>?_⟩)
 ·unfold d0n at h;obtain ⟨full,mark,ws,price,r,rfl,hl,hq⟩:=h;rfl
 ·unfold d0n at h;obtain ⟨full,mark,ws,price,r,rfl,hl,hq⟩:=h;rw[show l3 ["part","round_number"] _=[.val _,.val _]from rfl];walk_at "dl"
  (try simp only[p0a];walk_at "fl")
  exact ⟨by rw[List.length_map];omega,by rw[d0o r hl];exact hq⟩
noncomputable abbrev y0g:List Str:=["part","thing"]
theorem sc_is_stand:FnScope ["part","thing"] y0g (defScope v0v):=⟨rfl,rfl,rfl,by decide +kernel,rfl,by decide +kernel,by decide +kernel⟩
noncomputable abbrev u0z(P:Program)(w:World)(K:PySem.W.Frag)(mg:Str→Option Value)(base:Heap)(cs:Cs):Prop:=Fun2 P w K mg base "is_stand" 3 y0g (w0h cs)
theorem j0o{f:Addr}{fd:FuncData}(Df:DefAt K mg "is_stand" v0v y0g f fd)(T:Txt K mg cs)(G_is_whole:d6 P w K mg base cs):u0z P w K mg base cs:=by
 have nd:=sc_is_stand.nd;refine def2 Df sc_is_stand (fun ds δ q x h=>?_) (fun cdv A outer s H E Y hr=>⟨_,(y3 (j3 (g0 G_is_whole (hr.mono (by decide)) r0 (v0 (e2_v 1) (v0 (i5 K (e2_v 0)) (v0 (i5 K (e2_v 0)) s0)))))),fun ds δ q x h=>?_⟩)
 ·unfold w0h at h;obtain ⟨full,mark,ws,price,d,rfl,hd,hq⟩:=h;rfl
 ·unfold w0h at h;obtain ⟨full,mark,ws,price,d,rfl,hd,hq⟩:=h;rw[show l3 ["part","thing"] _=[.val _,.val _]from rfl];walk_at "dl"
  (try simp only[p0a];walk_at "fl")
  exact ⟨hd,hq⟩
noncomputable abbrev x8:List Str:=["first"]
theorem sc_check_first:FnScope ["first"] x8 (defScope f9):=⟨rfl,rfl,rfl,by decide +kernel,rfl,by decide +kernel,by decide +kernel⟩
noncomputable abbrev z0v(P:Program)(w:World)(K:PySem.W.Frag)(mg:Str→Option Value)(base:Heap)(cs:Cs):Prop:=Fun2 P w K mg base "check_first" 3 x8 (y0x cs)
theorem q0i{f:Addr}{fd:FuncData}(Df:DefAt K mg "check_first" f9 x8 f fd)(T:Txt K mg cs)(G_is_whole:d6 P w K mg base cs):z0v P w K mg base cs:=by
 have nd:=sc_check_first.nd;refine def2 Df sc_check_first (fun ds δ q x h=>?_) (fun cdv A outer s H E Y hr=>⟨_,(y3 (a5 (j6 (l6 (g0 G_is_whole (hr.mono (by decide)) r0 (v0 (e2_v 0) (v0 j0 (v0 (e0x T.g_GREATEST_FIRST) s0)))))) (y3 (n0j rfl r0 T.k_NoRounds T.x_NoRounds T.c_NoRounds)) n4)),fun ds δ q x h=>?_⟩)
 ·unfold y0x at h;obtain ⟨d,rfl,hd,hq,hx⟩:=h;rfl
 ·unfold y0x at h;obtain ⟨d,rfl,hd,hq,hx⟩:=h;rw[show l3 ["first"] _=[.val _]from rfl];walk_at "dl";simp only[y0y];refine ⟨hd,?_⟩;cases e:u4 d 0 47 with
  |true=>exact hq e
  |false=>exact hx e
noncomputable def badE(m:Int)(e:D):Bool:=!risD e 0 (m-1)
noncomputable def m8(m:Int)(k:Nat):List D→D
 | []=>.non
 |e::r=>if badE m e=true then .int (k:Int)else m8 m (k+1) r
noncomputable def o6(d:D)(m most:Int):D:=match rowD d with |none=>.int (-1)|some xs=>if (xs.length:Int)>most then .int (-1)else m8 m 0 xs
noncomputable def w0g(d:D):Bool:=p5 d&&(match rowD d with |some xs=>xs.all l4 |none=>true)
noncomputable def o0y:Sp2:=fun ds δ q _=>match ds with | [d,.int m,.int most]=>w0g d=true∧m≤900∧q (o6 d m most) δ |_=>False
theorem u0y{m:Int}:∀(xs:List D) (k i:Nat),(∀e∈xs.take i,badE m e=false)→i≤xs.length→m8 m k xs=m8 m (k+i) (xs.drop i)
 |xs,k,0,_,_=>by simp
 | [],k,i+1,_,hi=>by simp at hi
 |e::r,k,i+1,h,hi=>by
  have h1:=h e (by simp);rw[List.drop_succ_cons];have ih:=u0y r (k+1) i (fun z hz=>h z (by simp[hz])) (by simpa using hi);rw[show k+1+i=k+(i+1)by omega]at ih;rw[←ih];show (if badE m e=true then _ else _)=_;rw[h1,if_neg Bool.false_ne_true]
noncomputable abbrev w8:List Str:=["thing","many","most"]
theorem sc_wrong_entry:FnScope ["thing","many","most","k","entry"] w8 (defScope d9):=⟨rfl,rfl,rfl,by decide +kernel,rfl,by decide +kernel,by decide +kernel⟩
noncomputable abbrev z0u(P:Program)(w:World)(K:PySem.W.Frag)(mg:Str→Option Value)(base:Heap)(cs:Cs):Prop:=Fun2 P w K mg base "wrong_entry" 6 w8 o0y
theorem q0h{f:Addr}{fd:FuncData}(Df:DefAt K mg "wrong_entry" d9 w8 f fd)(T:Txt K mg cs)(G_is_row:y0k P w K mg base cs)(G_is_choice_among:y6 P w K mg base cs):z0u P w K mg base cs:=by
 have nd:=sc_wrong_entry.nd;refine def2 Df sc_wrong_entry (fun ds δ q x h=>?_) (fun cdv A outer s H E Y hr=>⟨_,(i0 (a5 (PW2.pt (l0f (j6 (l6 (g0 G_is_row (hr.mono (by decide)) r0 (v0 (e2_v 0) s0)))) (p0x (u5 g0n d_gt (j5 0 T.n_len) (e2_v 2) (d4 _))))) (y3 (j3 (e2_neg j0))) n4)
  (i0 (w0w PassesOwn.leaving rfl (v0z T.n_enumerate (v0 (e2_v 0) s0)) (x0z rfl (o4 (i3 (i:=3) nd rfl (by first |exact Or.inl rfl |exact Or.inr rfl)) (o4 (i3 (i:=4) nd rfl (by first |exact Or.inl rfl |exact Or.inr rfl)) e8))) (s0r (is:=[3,4]) rfl) (y3 (a5 (j6 (l6 (g0 G_is_choice_among (hr.mono (by decide)) r0 (v0 (e2_v 4) (v0 (e2_v 1) s0))))) (y3 (j3 (e2_v 3))) n4)))
  (y3 (j3 s0u)))),fun ds δ q x h=>?_⟩)
 ·unfold o0y at h;split at h
  ·rfl
  ·exact h.elim
 ·unfold o0y at h;split at h;rotate_left
  ·exact h.elim
  rename_i d m most;obtain ⟨ht,hm,hq⟩:=h;rw[show l3 ["thing","many","most","k","entry"] _=[.val _,.val _,.val _,.no,.no]from rfl];have hp:p5 d=true:=by unfold w0g at ht;rw[Bool.and_eq_true]at ht;exact ht.1
  walk_at "dn";simp only[k0p,hp,true_and];cases e:rowD d with
  |none=>
   have e1:i7 d=false:=by unfold i7;rw[e];rfl
   have e2:o6 d m most=.int (-1):=by unfold o6;rw[e]
   rw[e2]at hq;simp only[e1,Bool.not_false,if_true];exact hq
  |some xs=>
   have e1:i7 d=true:=by unfold i7;rw[e];rfl
   have e2:o6 d m most=if (xs.length:Int)>most then .int (-1)else m8 m 0 xs:=by unfold o6;rw[e]
   have hx:∀x∈xs,l4 x=true:=by
    unfold w0g at ht;rw[Bool.and_eq_true,e]at ht;exact List.all_eq_true.mp ht.2
   rw[e2]at hq;simp only[e1,Bool.not_true,Bool.false_eq_true,if_false];have main:¬((xs.length:Int)>most)→∀(E:End2),E.rt=q→(∀ ρ δ1,E.nx ρ δ1=q .non δ1)→forL (g2T [3,4]) (f0j (f0r (t2B (z0m v0d (w5 (t2V 4) (w5 (t2V 1) x0t))))) (h0o (t2V 3)) n0p) E (t0n 0 xs) [.val d,.val (.int m),.val (.int most),.no,.no] δ:=by
    intro hle E hE hN;rw[if_neg hle]at hq;refine i9 (fun i ρ δ1=>∃c3 c4,ρ=[.val d,.val (.int m),.val (.int most),c3,c4]∧δ1=δ∧∀e∈xs.take i,badE m e=false) ⟨_,_,rfl,rfl,fun e he=>(by simp at he)⟩ ?_ ?_
    ·rintro i z ρ δ1 rest hi ⟨c3,c4,rfl,rfl,hb⟩ hrest;obtain ⟨y,hy,rfl⟩:=j7 hi;have hlt:=(List.getElem?_eq_some_iff.mp hy).1;rw[Nat.zero_add];unfold t0o;walk_at "dn";simp only[v0d,hx y (List.mem_of_getElem? hy),true_and];refine ⟨hm,?_⟩;cases er:risD y 0 (m-1)with
     |true=>
      simp only[Bool.not_true,Bool.false_eq_true,if_false];refine hrest _ _ ⟨_,_,rfl,rfl,fun z hz=>?_⟩;rw[List.take_succ,hy]at hz;rcases List.mem_append.mp hz with hz |hz
      ·exact hb z hz
      ·have hz:z=y:=by simpa using hz
       subst hz;unfold badE;rw[er];rfl
     |false=>
      simp only[Bool.not_false,if_true];rw[hE];rw[u0y xs 0 i hb (Nat.le_of_lt hlt),List.drop_eq_getElem_cons hlt]at hq;unfold m8 at hq;have ey:xs[i]=y:=(List.getElem?_eq_some_iff.mp hy).2;rw[ey,show badE m y=true by unfold badE;rw[er];rfl,if_pos rfl,Nat.zero_add]at hq;exact hq
    ·rintro ρ δ1 ⟨c3,c4,rfl,rfl,hb⟩;rw[l7]at hb;rw[hN];rw[u0y xs 0 xs.length hb (Nat.le_refl _),List.drop_length]at hq;exact hq
   cases d<;>first |(cases e;done)|skip
   all_goals
    cases e;dsimp only;split
    ·rename_i h1;rw[if_pos h1]at hq;exact hq
    ·rename_i h1;exact main h1 _ rfl (fun ρ δ1=>rfl)
noncomputable def l8(cs:Cs):Sp2:=fun ds δ q x=>match ds with | [d,.int m]=>w0g d=true∧m≤900∧(o6 d m 24=.non→q .non δ)∧(∀k,o6 d m 24=.int k→x cs.NoPlan [("at",.int k)] δ)|_=>False
theorem m0a{m:Int}:∀(xs:List D) (k:Nat),m8 m k xs=.non∨∃j:Int,m8 m k xs=.int j
 | [],k=>.inl rfl
 |e::r,k=>by
  unfold m8;split
  ·exact .inr ⟨_,rfl⟩
  ·exact m0a r (k+1)
theorem a0y{d:D}{m most:Int}:o6 d m most=.non∨∃k:Int,o6 d m most=.int k:=by
 unfold o6;split
 ·exact .inr ⟨-1,rfl⟩
 ·split
  ·exact .inr ⟨-1,rfl⟩
  ·exact m0a _ 0
noncomputable abbrev j8:List Str:=["plan","many"]
theorem sc_check_plan:FnScope ["plan","many","at"] j8 (defScope z0d):=⟨rfl,rfl,rfl,by decide +kernel,rfl,by decide +kernel,by decide +kernel⟩
noncomputable abbrev i8(P:Program)(w:World)(K:PySem.W.Frag)(mg:Str→Option Value)(base:Heap)(cs:Cs):Prop:=Fun2 P w K mg base "check_plan" 7 j8 (l8 cs)
theorem o0x{f:Addr}{fd:FuncData}(Df:DefAt K mg "check_plan" z0d j8 f fd)(T:Txt K mg cs)(G_wrong_entry:z0u P w K mg base cs)(M_NoPlan:MkE P w K mg base "NoPlan" cs.NoPlan 1 ["self","at"] (spXI cs.NoPlan "at")):i8 P w K mg base cs:=by
 have nd:=sc_check_plan.nd;refine def2 Df sc_check_plan (fun ds δ q x h=>?_) (fun cdv A outer s H E Y hr=>⟨_,(i0 (y4 2 nd (g0 G_wrong_entry (hr.mono (by decide)) r0 (v0 (e2_v 0) (v0 (e2_v 1) (v0 (e0x T.g_MOST_ROUNDS) s0)))))
  (y3 (a5 (u5 g0m a0c (e2_v 2) s0u (d4 _)) (y3 (w6 rfl r0 M_NoPlan (hr.mono (by decide)) (v0 (e2_v 2) s0))) n4))),fun ds δ q x h=>?_⟩)
 ·unfold l8 at h;split at h
  ·rfl
  ·exact h.elim
 ·unfold l8 at h;split at h;rotate_left
  ·exact h.elim
  rename_i d m;obtain ⟨ht,hm,hq,hx⟩:=h;rw[show l3 ["plan","many","at"] _=[.val _,.val _,.no]from rfl];walk_at "dn";simp only[o0y,ht,true_and];refine ⟨hm,?_⟩;rcases a0y (d:=d) (m:=m) (most:=24)with e |⟨k,e⟩
  ·rw[e];exact hq e
  ·rw[e];exact hx k e
noncomputable def z0t:List PartZ→List D→Bool
 | [],[]=>true
 |p::ps,d::ds=>u4 d p.mark p.full&&z0t ps ds
 |_,_=>false
noncomputable def a6(ps:List PartZ)(d:D):Bool:=match rowD d with |none=>false |some xs=>z0t ps xs
theorem x0f:∀(ps:List PartZ) (xs:List D),xs.length=ps.length→((List.range ps.length).map fun i=>u4 (xs.getD i .non) (ps.getD i default).mark (ps.getD i default).full).all id=z0t ps xs
 | [],[],_=>rfl
 | [],_::_,h=>by simp at h
 |_::_,[],h=>by simp at h
 |p::ps,x::xs,h=>by
  have ih:=x0f ps xs (by simpa using h);rw[List.length_cons,List.range_succ_eq_map,List.map_cons,List.all_cons,List.map_map];unfold z0t;rw[←ih];rfl
theorem r0b:∀(ps:List PartZ) (xs:List D),xs.length≠ps.length→z0t ps xs=false
 | [],[],h=>absurd rfl h
 | [],_::_,_=>rfl
 |_::_,[],_=>rfl
 |p::ps,x::xs,h=>by unfold z0t;rw[r0b ps xs (by simpa using h),Bool.and_false]
noncomputable def u0x(cs:Cs):Sp2:=fun ds δ q _=>∃ps call shut d,ds=[p4 cs ps call shut,d]∧l4 d=true∧ps.length≤4∧q (.bl (a6 ps d)) δ
noncomputable def z0s(cs:Cs):Sp2:=fun ds δ q x=>∃ps call shut d,ds=[p4 cs ps call shut,d]∧l4 d=true∧ps.length≤4∧(a6 ps d=true→q .non δ)∧(a6 ps d=false→x cs.NoStands [] δ)
noncomputable abbrev z0r:List Str:=["works","thing"]
theorem sc_is_stands:FnScope ["works","thing"] z0r (defScope x0n):=⟨rfl,rfl,rfl,by decide +kernel,rfl,by decide +kernel,by decide +kernel⟩
noncomputable abbrev x0e(P:Program)(w:World)(K:PySem.W.Frag)(mg:Str→Option Value)(base:Heap)(cs:Cs):Prop:=Fun2 P w K mg base "is_stands" 4 z0r (u0x cs)
theorem l0z{f:Addr}{fd:FuncData}(Df:DefAt K mg "is_stands" x0n z0r f fd)(T:Txt K mg cs)(G_is_row:y0k P w K mg base cs)(G_is_stand:u0z P w K mg base cs):x0e P w K mg base cs:=by
 have nd:=sc_is_stands.nd;refine def2 Df sc_is_stands (fun ds δ q x h=>?_) (fun cdv A outer s H E Y hr=>⟨_,(i0 (a5 (PW2.pt (l0f (j6 (l6 (g0 G_is_row (hr.mono (by decide)) r0 (v0 (e2_v 1) s0)))) (p0x (u5 z1h d_ne (j5 1 T.n_len) (e2_b x5 l0d T.n_len u0o (v0 (i5 K (e2_v 0)) s0)) (d4 _))))) (y3 (j3 h0r)) n4)
  (y3 (j3 (e2_b (x0a rfl) f0k T.n_all n0t (v0 (n5 rfl (CompOkM.of ["part","stand"] [] rfl) (i0n T.n_zip (v0 (i5 K (e2_v 0)) (v0 (e2_v 1) s0))) (fun nd _ _ _ _ _=>(x0z rfl (o4 (i3 (i:=0) nd rfl (by first |exact Or.inl rfl |exact Or.inr rfl)) (o4 (i3 (i:=1) nd rfl (by first |exact Or.inl rfl |exact Or.inr rfl)) e8)))) (k0x (is:=[0,1]) rfl) (fun _ _ _ _ _ _=>x6) (fun _ _ _ _ _ _=>(g0 G_is_stand (hr.mono (by decide)) x0x (v0 (e2_v 0) (v0 (e2_v 1) s0))))) s0))))),fun ds δ q x h=>?_⟩)
 ·unfold u0x at h;obtain ⟨ps,call,shut,d,rfl,ht,hl,hq⟩:=h;rfl
 ·unfold u0x at h;obtain ⟨ps,call,shut,d,rfl,ht,hl,hq⟩:=h;rw[show l3 ["works","thing"] _=[.val _,.val _]from rfl];have hp:p5 d=true:=by unfold l4 at ht;rw[Bool.and_eq_true]at ht;exact ht.1
  walk_at "dn";simp only[k0p,hp,true_and];cases e:rowD d with
  |none=>
   have e1:i7 d=false:=by unfold i7;rw[e];rfl
   have e2:a6 ps d=false:=by unfold a6;rw[e]
   rw[e2]at hq;simp only[e1,Bool.not_false,if_true];exact hq
  |some xs=>
   have e1:i7 d=true:=by unfold i7;rw[e];rfl
   have e2:a6 ps d=z0t ps xs:=by unfold a6;rw[e]
   have hx:∀x∈xs,p5 x=true:=by
    unfold l4 at ht;rw[Bool.and_eq_true,e]at ht;exact List.all_eq_true.mp ht.2
   rw[e2]at hq;simp only[e1,Bool.not_true,Bool.false_eq_true,if_false]
   (try simp only[p4];walk_at "fl")
   have main:xs.length=ps.length→∀ ρ:En,compM true 2 x0v (z0m (w0h cs) (w5 (t2V 0) (w5 (t2V 1) x0t))) [] ρ
    (fun acc δ2=>match blsD acc with |some bs=>q (D.bl (bs.all id)) δ2 |none=>False) (zipD (ps.map (r0d cs)) xs) [] δ:=by
    intro hlen ρ;refine t0f (fun i acc δ'=>acc=(List.range i).map (fun i=>D.bl (u4 (xs.getD i .non) (ps.getD i default).mark (ps.getD i default).full))∧δ'=δ) ⟨rfl,rfl⟩ ?_ ?_
    ·rintro i z acc δ' rest hi ⟨rfl,rfl⟩ hrest;obtain ⟨a,b,h1,h2,rfl⟩:=w0v hi;rw[List.getElem?_map,Option.map_eq_some_iff]at h1;obtain ⟨pz,hpz,rfl⟩:=h1;have hl1:=(List.getElem?_eq_some_iff.mp hpz).1;simp only[tgD,List.length_cons,List.length_nil,Nat.zero_add,Nat.reduceAdd,if_true,capt,List.map_cons,List.map_nil,List.cons_append,List.nil_append];walk_at "dn";refine ⟨pz.full,pz.mark,pz.ws,pz.price,b,rfl,hx b (List.mem_of_getElem? h2),?_⟩;refine ⟨by rw[List.length_map,List.length_range];omega,hrest _ _ ⟨?_,rfl⟩⟩;rw[List.range_succ,List.map_append];have e3:xs.getD i .non=b:=by rw[List.getD_eq_getElem?_getD,h2];rfl
     have e4:ps.getD i default=pz:=by rw[List.getD_eq_getElem?_getD,hpz];rfl
     simp only[List.map_cons,List.map_nil,e3,e4]
    ·rintro acc δ' ⟨rfl,rfl⟩;rw[w0u,List.length_map,hlen,Nat.min_self,v0k];dsimp only;rw[x0f ps xs hlen];exact hq
   cases d<;>first |(cases e;done)|skip
   all_goals
    cases e;dsimp only;simp only[List.length_map];split
    ·rename_i h1;rw[Bool.not_eq_true',decide_eq_false_iff_not]at h1;rw[r0b ps xs (by omega)]at hq;exact hq
    ·rename_i h1;rw[Bool.not_eq_true',decide_eq_false_iff_not,Decidable.not_not]at h1;exact main (by omega) _
noncomputable abbrev u7:List Str:=["works","stands"]
theorem sc_check_stands:FnScope ["works","stands"] u7 (defScope a8):=⟨rfl,rfl,rfl,by decide +kernel,rfl,by decide +kernel,by decide +kernel⟩
noncomputable abbrev w9(P:Program)(w:World)(K:PySem.W.Frag)(mg:Str→Option Value)(base:Heap)(cs:Cs):Prop:=Fun2 P w K mg base "check_stands" 5 u7 (z0s cs)
theorem r0a{f:Addr}{fd:FuncData}(Df:DefAt K mg "check_stands" a8 u7 f fd)(T:Txt K mg cs)(G_is_stands:x0e P w K mg base cs):w9 P w K mg base cs:=by
 have nd:=sc_check_stands.nd;refine def2 Df sc_check_stands (fun ds δ q x h=>?_) (fun cdv A outer s H E Y hr=>⟨_,(y3 (a5 (j6 (l6 (g0 G_is_stands (hr.mono (by decide)) r0 (v0 (e2_v 0) (v0 (e2_v 1) s0))))) (y3 (n0j rfl r0 T.k_NoStands T.x_NoStands T.c_NoStands)) n4)),fun ds δ q x h=>?_⟩)
 ·unfold z0s at h;obtain ⟨ps,call,shut,d,rfl,ht,hl,hq,hx⟩:=h;rfl
 ·unfold z0s at h;obtain ⟨ps,call,shut,d,rfl,ht,hl,hq,hx⟩:=h;rw[show l3 ["works","stands"] _=[.val _,.val _]from rfl];walk_at "dn";refine ⟨ps,call,shut,d,rfl,ht,hl,?_⟩;cases e:a6 ps d with
  |true=>exact hq e
  |false=>exact hx e
noncomputable def RowZ(d:D)(c:List Int):Prop:=d=.tup (c.map D.int)∨d=.lst (c.map D.int)
noncomputable def behI(ps:List PartZ)(st c:List Int)(r:Int)(i:Nat):Int:=(if (i:Int)∈c then (ps.getD i default).full else st.getD i 0)-j0p (ps.getD i default).ws r
noncomputable def behZ(ps:List PartZ)(st c:List Int)(r:Int):List Int:=(List.range ps.length).map (behI ps st c r)
noncomputable def y0w(ps:List PartZ)(bs:List Int):Option Nat:=(List.range ps.length).find? fun i=>decide (bs.getD i 0<(ps.getD i default).mark)
theorem w0f{ps:List PartZ}{st c:List Int}{r:Int}:(behZ ps st c r).length=ps.length:=by unfold behZ;rw[List.length_map,List.length_range]
theorem u0w{ps:List PartZ}{st c:List Int}{r:Int}{i:Nat}(h:i<ps.length):(behZ ps st c r).getD i 0=behI ps st c r i:=by
 unfold behZ;rw[List.getD_eq_getElem?_getD,List.getElem?_map,List.getElem?_range h];rfl
theorem d0l{n i:Nat}{p:Nat→Bool}(h1:∀j<i,p j=false)(h2:i<n)(h3:p i=true):(List.range n).find? p=some i:=by
 rw[List.find?_eq_some_iff_append];refine ⟨h3,List.range i,List.range' (i+1) (n-i-1),?_,fun a ha=>by rw[h1 a (List.mem_range.mp ha)];rfl⟩;rw[List.range_eq_range',List.range_eq_range',show n=i+(1+(n-i-1))by omega,← List.range'_append_1,← List.range'_append_1];simp
theorem d0k{n:Nat}{p:Nat→Bool}(h1:∀j<n,p j=false):(List.range n).find? p=none:=by
 rw[List.find?_eq_none];intro x hx;rw[h1 x (List.mem_range.mp hx)];decide
theorem atN{ns:List Int}{i:Nat}(h:i<ns.length):atI (ns.map D.int) (i:Int)=some (.int (ns.getD i 0)):=by
 have:=atZ (ns:=ns) (z:=(i:Int)) (by omega) (by omega)
 rwa[Int.toNat_natCast]at this
theorem psAt{ps:List PartZ}{i:Nat}{pz:PartZ}(h:ps[i]?=some pz):ps.getD i default=pz:=by rw[List.getD_eq_getElem?_getD,h];rfl
inductive Out where
 |rows (l:List (List Int))
 |shut (r:Int)
 |falls (r:Int) (k:Nat)
noncomputable def goZ(ps:List PartZ)(sh:List Int):List (List Int)→Int→List Int→List (List Int)→Out
 | [],_,_,acc=>.rows acc
 |c::cs,r,st,acc=>if c≠[]∧r∈sh then .shut r else match y0w ps (behZ ps st c r)with
  |some k=>.falls r k
  |none=>goZ ps sh cs (r+1) (behZ ps st c r) (acc++[behZ ps st c r])
noncomputable def tupZ(c:List Int):D:=.tup (c.map D.int)
noncomputable def d0j(xs:List D)(css:List (List Int)):Prop:=xs.length=css.length∧∀(i:Nat) (x:D),xs[i]?=some x→∃c,css[i]?=some c∧RowZ x c
noncomputable def o0w(ps:List PartZ):Prop:=ps.length≤4∧∀p∈ps,0<p.ws.length
noncomputable def o0v(cs:Cs):Sp2:=fun ds δ q _=>∃ps call sh d c r,ds=[p4 cs ps call sh,d,.int r]∧RowZ d c∧q (.bl (decide (c≠[]∧r∈sh))) δ
noncomputable def o0u(cs:Cs):Sp2:=fun ds δ q _=>∃ps call sh st d c r,ds=[p4 cs ps call sh,tupZ st,d,.int r]∧RowZ d c∧o0w ps∧st.length=ps.length∧q (tupZ (behZ ps st c r)) δ
noncomputable def fallD:Option Nat→D |some k=>.int (k:Int)|none=>.non
noncomputable def o0t(cs:Cs):Sp2:=fun ds δ q _=>∃ps call sh bs,ds=[p4 cs ps call sh,tupZ bs]∧bs.length=ps.length∧q (fallD (y0w ps bs)) δ
noncomputable def o0s(cs:Cs):Sp2:=fun ds δ q x=>∃ps call sh st d c r,ds=[p4 cs ps call sh,tupZ st,d,.int r]∧RowZ d c∧o0w ps∧st.length=ps.length∧
 (if c≠[]∧r∈sh then x cs.Shut [("round_number",.int r)] δ else match y0w ps (behZ ps st c r)with
  |some k=>x cs.Falls [("round_number",.int r),("part_number",.int (k:Int))] δ
  |none=>q (tupZ (behZ ps st c r)) δ)
noncomputable def outQ(cs:Cs)(q:D→Dk→Prop)(x:Addr→List (Str×D)→Dk→Prop)(δ:Dk):Out→Prop
 | .rows l=>q (.tup (l.map tupZ)) δ
 | .shut r=>x cs.Shut [("round_number",.int r)] δ
 | .falls r k=>x cs.Falls [("round_number",.int r),("part_number",.int (k:Int))] δ
noncomputable def d0i(cs:Cs):Sp2:=fun ds δ q x=>∃ps call sh sd st d xs css r,ds=[p4 cs ps call sh,sd,d,.int r]∧RowZ sd st∧rowD d=some xs∧d0j xs css∧xs.length≤24∧o0w ps∧st.length=ps.length∧outQ cs q x δ (goZ ps sh css r st [st])
noncomputable abbrev h8:List Str:=["works","choice","round_number"]
theorem sc_is_shut_to:FnScope ["works","choice","round_number"] h8 (defScope z0c):=⟨rfl,rfl,rfl,by decide +kernel,rfl,by decide +kernel,by decide +kernel⟩
noncomputable abbrev y0v(P:Program)(w:World)(K:PySem.W.Frag)(mg:Str→Option Value)(base:Heap)(cs:Cs):Prop:=Fun2 P w K mg base "is_shut_to" 2 h8 (o0v cs)
theorem o0r{f:Addr}{fd:FuncData}(Df:DefAt K mg "is_shut_to" z0c h8 f fd)(T:Txt K mg cs):y0v P w K mg base cs:=by
 have nd:=sc_is_shut_to.nd;refine def2 Df sc_is_shut_to (fun ds δ q x h=>?_) (fun cdv A outer s H E Y hr=>⟨_,(y3 (j3 (f0p (s0t g0n d_gt (j5 1 T.n_len) j0 (d4 _)) (f0q (s0t z0i d_in (e2_v 2) (i5 K (e2_v 0)) rfl))))),fun ds δ q x h=>?_⟩)
 ·unfold o0v at h;obtain ⟨ps,call,sh,d,c,r,rfl,hd,hq⟩:=h;rfl
 ·unfold o0v at h;obtain ⟨ps,call,sh,d,c,r,rfl,hd,hq⟩:=h;rw[show l3 ["works","choice","round_number"] _=[.val _,.val _,.val _]from rfl];have e0:decide ((c.length:Int)>0)=decide (c≠[]):=by
   cases c with
   |nil=>rfl
   |cons a c=>simp
  have main:(if decide ((c.length:Int)>0)=true then q (.bl (decide (r∈sh))) δ else q (.bl false) δ):=by
   rw[e0];by_cases h1:c≠[]
   ·rw[if_pos (decide_eq_true h1)];rw[show decide (c≠[]∧r∈sh)=decide (r∈sh)from decide_eq_decide.mpr ⟨fun z=>z.2,fun z=>⟨h1,z⟩⟩]at hq;exact hq
   ·rw[if_neg (by rw[decide_eq_true_eq];exact h1)];rw[show decide (c≠[]∧r∈sh)=false from decide_eq_false (fun z=>h1 z.1)]at hq;exact hq
  rcases hd with rfl |rfl
  all_goals
   walk_at "dn"
   (try simp only[p4];walk_at "fl")
   simp only[List.length_map,z0e,v0x,m6,Bool.true_and,true_and]at main ⊢;simpa only[decide_eq_true_eq]using main
noncomputable abbrev n6:List Str:=["works","stands","choice","round_number"]
theorem sc_stands_behind:FnScope ["works","stands","choice","round_number","behind","k","part","stand"] n6 (defScope o8):=⟨rfl,rfl,rfl,by decide +kernel,rfl,by decide +kernel,by decide +kernel⟩
noncomputable abbrev k8(P:Program)(w:World)(K:PySem.W.Frag)(mg:Str→Option Value)(base:Heap)(cs:Cs):Prop:=Fun2 P w K mg base "stands_behind" 3 n6 (o0u cs)
theorem t0k{f:Addr}{fd:FuncData}(Df:DefAt K mg "stands_behind" o8 n6 f fd)(T:Txt K mg cs)(G_loss:d0m P w K mg base cs):k8 P w K mg base cs:=by
 have nd:=sc_stands_behind.nd;refine def2 Df sc_stands_behind (fun ds δ q x h=>?_) (fun cdv A outer s H E Y hr=>⟨_,(i0 (n0n 4 nd s0)
  (i0 (w0w PassesOwn.leaving rfl (v0z T.n_enumerate (v0 (i5 K (e2_v 0)) s0)) (x0z rfl (o4 (i3 (i:=5) nd rfl (by first |exact Or.inl rfl |exact Or.inr rfl)) (o4 (i3 (i:=6) nd rfl (by first |exact Or.inl rfl |exact Or.inr rfl)) e8))) (s0r (is:=[5,6]) rfl) (i0 (y4 7 nd (e2_if (u5 z0i d_in (e2_v 5) (e2_v 2) rfl) (i5 K (e2_v 6)) (x4 1 (e2_v 5))))
  (y3 (l9 (f0g 4 PySem.F.slot_list_append PySem.F.type_list_append z0h w0x (v0 (v4 s0x l0e (e2_v 7) (g0 G_loss (hr.mono (by decide)) r0 (v0 (e2_v 6) (v0 (e2_v 3) s0)))) s0))))))
  (y3 (j3 (y0b b3 f7 T.n_tuple b5 (v0 (e2_v 4) s0)))))),fun ds δ q x h=>?_⟩)
 ·unfold o0u at h;obtain ⟨ps,call,sh,st,d,c,r,rfl,hd,hw,hs,hq⟩:=h;rfl
 ·unfold o0u at h;obtain ⟨ps,call,sh,st,d,c,r,rfl,hd,hw,hs,hq⟩:=h;rw[show l3 ["works","stands","choice","round_number","behind","k","part","stand"] _=[.val _,.val _,.val _,.val _,.no,.no,.no,.no]from rfl];have hl:=hw.1;walk_at "dn"
  (try simp only[p4];walk_at "fl")
  refine i9 (fun i ρ δ1=>∃own c5 c6 c7,ρ=[.val (p4 cs ps call sh),.val (tupZ st),.val d,.val (.int r),.own own,c5,c6,c7]∧own=((List.range i).map (behI ps st c r)).map D.int∧δ1=δ) ⟨_,_,_,_,rfl,rfl,rfl⟩ ?_ ?_
  ·rintro i z ρ δ1 rest hi ⟨own,c5,c6,c7,rfl,rfl,rfl⟩ hrest;obtain ⟨y,hy,rfl⟩:=j7 hi;rw[List.getElem?_map,Option.map_eq_some_iff]at hy;obtain ⟨pz,hpz,rfl⟩:=hy;have hlt:=(List.getElem?_eq_some_iff.mp hpz).1;have ep:=psAt hpz;rw[Nat.zero_add];unfold t0o;rcases hd with rfl |rfl
   all_goals
    walk_at "dn";simp only[z0e,v0x,m6,Bool.true_and,true_and,decide_eq_true_eq];split
    all_goals
     rename_i h1;simp only[r0d,p0a,tupZ]
     first
      |walk_at "fl"
      |rw[atN (by omega)]
     refine ⟨rfl,pz.full,pz.mark,pz.ws,pz.price,r,rfl,hw.2 pz (List.mem_of_getElem? hpz),?_⟩;dsimp only;refine ⟨by rw[List.length_map,List.length_map,List.length_range];omega,hrest _ _ ⟨_,_,_,_,rfl,?_,rfl⟩⟩;rw[List.range_succ,List.map_append,List.map_append];show _++[D.int _]=_++[D.int (behI ps st c r i)];unfold behI;rw[ep]
     first
      |rw[if_pos h1]
      |rw[if_neg h1]
  ·rintro ρ δ1 ⟨own,c5,c6,c7,rfl,rfl,rfl⟩;rw[l7,List.length_map];walk_at "dn";exact hq
noncomputable abbrev o7:List Str:=["works","behind"]
theorem sc_first_fallen:FnScope ["works","behind","k","part"] o7 (defScope z9):=⟨rfl,rfl,rfl,by decide +kernel,rfl,by decide +kernel,by decide +kernel⟩
noncomputable abbrev v9(P:Program)(w:World)(K:PySem.W.Frag)(mg:Str→Option Value)(base:Heap)(cs:Cs):Prop:=Fun2 P w K mg base "first_fallen" 2 o7 (o0t cs)
theorem q0z{f:Addr}{fd:FuncData}(Df:DefAt K mg "first_fallen" z9 o7 f fd)(T:Txt K mg cs):v9 P w K mg base cs:=by
 have nd:=sc_first_fallen.nd;refine def2 Df sc_first_fallen (fun ds δ q x h=>?_) (fun cdv A outer s H E Y hr=>⟨_,(i0 (w0w PassesOwn.leaving rfl (v0z T.n_enumerate (v0 (i5 K (e2_v 0)) s0)) (x0z rfl (o4 (i3 (i:=2) nd rfl (by first |exact Or.inl rfl |exact Or.inr rfl)) (o4 (i3 (i:=3) nd rfl (by first |exact Or.inl rfl |exact Or.inr rfl)) e8))) (s0r (is:=[2,3]) rfl) (y3 (a5 (u5 z1g d_lt (x4 1 (e2_v 2)) (i5 K (e2_v 3)) (d4 _)) (y3 (j3 (e2_v 2))) n4)))
  (y3 (j3 s0u))),fun ds δ q x h=>?_⟩)
 ·unfold o0t at h;obtain ⟨ps,call,sh,bs,rfl,hb,hq⟩:=h;rfl
 ·unfold o0t at h;obtain ⟨ps,call,sh,bs,rfl,hb,hq⟩:=h;rw[show l3 ["works","behind","k","part"] _=[.val _,.val _,.no,.no]from rfl];walk_at "dn"
  (try simp only[p4];walk_at "fl")
  refine i9 (fun i ρ δ1=>∃c2 c3,ρ=[.val (p4 cs ps call sh),.val (tupZ bs),c2,c3]∧(∀j<i,decide (bs.getD j 0<(ps.getD j default).mark)=false)∧δ1=δ) ⟨_,_,rfl,fun j hj=>absurd hj (Nat.not_lt_zero _),rfl⟩ ?_ ?_
  ·rintro i z ρ δ1 rest hi ⟨c2,c3,rfl,hf,rfl⟩ hrest;obtain ⟨y,hy,rfl⟩:=j7 hi;rw[List.getElem?_map,Option.map_eq_some_iff]at hy;obtain ⟨pz,hpz,rfl⟩:=hy;have hlt:=(List.getElem?_eq_some_iff.mp hpz).1;have ep:=psAt hpz;rw[Nat.zero_add];unfold t0o;simp only[tupZ,r0d,p0a];walk_at "dn";rw[atN (by omega)];dsimp only;walk_at "fl";by_cases h1:bs.getD i 0<pz.mark
   ·simp only[h1,decide_true,if_true];have:y0w ps bs=some i:=d0l hf hlt (by rw[ep];exact decide_eq_true h1);rw[this]at hq;exact hq
   ·simp only[h1,decide_false,Bool.false_eq_true,if_false];refine hrest _ _ ⟨_,_,rfl,fun j hj=>?_,rfl⟩;rcases Nat.lt_succ_iff_lt_or_eq.mp hj with hj |rfl
    ·exact hf j hj
    ·rw[ep];exact decide_eq_false h1
  ·rintro ρ δ1 ⟨c2,c3,rfl,hf,rfl⟩;rw[l7,List.length_map]at hf;walk_at "dn";have:y0w ps bs=none:=d0k hf;rw[this]at hq;exact hq
noncomputable abbrev y0f:List Str:=["works","stands","choice","round_number"]
theorem sc_do_round:FnScope ["works","stands","choice","round_number","behind","fallen"] y0f (defScope v0s):=⟨rfl,rfl,rfl,by decide +kernel,rfl,by decide +kernel,by decide +kernel⟩
noncomputable abbrev u0v(P:Program)(w:World)(K:PySem.W.Frag)(mg:Str→Option Value)(base:Heap)(cs:Cs):Prop:=Fun2 P w K mg base "do_round" 4 y0f (o0s cs)
theorem j0n{f:Addr}{fd:FuncData}(Df:DefAt K mg "do_round" v0s y0f f fd)(T:Txt K mg cs)(G_is_shut_to:y0v P w K mg base cs)(G_stands_behind:k8 P w K mg base cs)(G_first_fallen:v9 P w K mg base cs)(M_Shut:MkE P w K mg base "Shut" cs.Shut 1 ["self","round_number"] (spXI cs.Shut "round_number"))(M_Falls:MkE P w K mg base "Falls" cs.Falls 1 ["self","round_number","part_number"] (c0g cs.Falls "round_number" "part_number")):u0v P w K mg base cs:=by
 have nd:=sc_do_round.nd;refine def2 Df sc_do_round (fun ds δ q x h=>?_) (fun cdv A outer s H E Y hr=>⟨_,(i0 (a5 (l6 (g0 G_is_shut_to (hr.mono (by decide)) r0 (v0 (e2_v 0) (v0 (e2_v 2) (v0 (e2_v 3) s0))))) (y3 (w6 rfl r0 M_Shut (hr.mono (by decide)) (v0 (e2_v 3) s0))) n4)
  (i0 (y4 4 nd (g0 G_stands_behind (hr.mono (by decide)) r0 (v0 (e2_v 0) (v0 (e2_v 1) (v0 (e2_v 2) (v0 (e2_v 3) s0))))))
  (i0 (y4 5 nd (g0 G_first_fallen (hr.mono (by decide)) r0 (v0 (e2_v 0) (v0 (e2_v 4) s0))))
  (i0 (a5 (u5 g0m a0c (e2_v 5) s0u (d4 _)) (y3 (f0c rfl r0 M_Falls (hr.mono (by decide)) (v0 (e2_v 3) (v0 (e2_v 5) s0)))) n4)
  (y3 (j3 (e2_v 4))))))),fun ds δ q x h=>?_⟩)
 ·unfold o0s at h;obtain ⟨ps,call,sh,st,d,c,r,rfl,hd,hw,hs,hq⟩:=h;rfl
 ·unfold o0s at h;obtain ⟨ps,call,sh,st,d,c,r,rfl,hd,hw,hs,hq⟩:=h;rw[show l3 ["works","stands","choice","round_number","behind","fallen"] _=[.val _,.val _,.val _,.val _,.no,.no]from rfl];walk_at "dn";refine ⟨ps,call,sh,d,c,r,rfl,hd,?_⟩;dsimp only;split
  ·rename_i h1;rw[if_pos (of_decide_eq_true h1)]at hq;exact hq
  ·rename_i h1;rw[if_neg (fun z=>h1 (decide_eq_true z))]at hq;refine ⟨ps,call,sh,st,d,c,r,rfl,hd,hw,hs,?_⟩;refine ⟨ps,call,sh,behZ ps st c r,rfl,w0f,?_⟩;cases e:y0w ps (behZ ps st c r)with
   |some k=>
    rw[e]at hq;exact hq
   |none=>
    rw[e]at hq;exact hq
noncomputable abbrev w0e:List Str:=["works","stands","plan","first"]
theorem sc_path_of:FnScope ["works","stands","plan","first","path","k","choice"] w0e (defScope s0i):=⟨rfl,rfl,rfl,by decide +kernel,rfl,by decide +kernel,by decide +kernel⟩
noncomputable abbrev q0y(P:Program)(w:World)(K:PySem.W.Frag)(mg:Str→Option Value)(base:Heap)(cs:Cs):Prop:=Fun2 P w K mg base "path_of" 5 w0e (d0i cs)
theorem h0c{f:Addr}{fd:FuncData}(Df:DefAt K mg "path_of" s0i w0e f fd)(T:Txt K mg cs)(G_do_round:u0v P w K mg base cs):q0y P w K mg base cs:=by
 have nd:=sc_path_of.nd;refine def2 Df sc_path_of (fun ds δ q x h=>?_) (fun cdv A outer s H E Y hr=>⟨_,(i0 (n0n 4 nd (v0 (y0b b3 f7 T.n_tuple b5 (v0 (e2_v 1) s0)) s0))
  (i0 (w0w PassesOwn.leaving rfl (v0z T.n_enumerate (v0 (e2_v 2) s0)) (x0z rfl (o4 (i3 (i:=5) nd rfl (by first |exact Or.inl rfl |exact Or.inr rfl)) (o4 (i3 (i:=6) nd rfl (by first |exact Or.inl rfl |exact Or.inr rfl)) e8))) (s0r (is:=[5,6]) rfl) (y3 (l9 (f0g 4 PySem.F.slot_list_append PySem.F.type_list_append z0h w0x (v0 (g0 G_do_round (hr.mono (by decide)) r0 (v0 (e2_v 0) (v0 (x4 4 (e2_v 5)) (v0 (e2_v 6) (v0 (v4 w4 b4 (e2_v 3) (e2_v 5)) s0))))) s0)))))
  (y3 (j3 (y0b b3 f7 T.n_tuple b5 (v0 (e2_v 4) s0)))))),fun ds δ q x h=>?_⟩)
 ·unfold d0i at h;obtain ⟨ps,call,sh,sd,st,d,xs,css,r,rfl,hsd,er,hpl,hn,hw,hs,hq⟩:=h;rfl
 ·unfold d0i at h;obtain ⟨ps,call,sh,sd,st,d,xs,css,r,rfl,hsd,er,hpl,hn,hw,hs,hq⟩:=h;rw[show l3 ["works","stands","plan","first","path","k","choice"] _=[.val _,.val _,.val _,.val _,.no,.no,.no]from rfl];have main:∀d':D,forL (g2T [5,6]) (n0o (t2MV 4 w0a (w5 (z0m (o0s cs) (w5 (t2V 0) (w5 (n0m 4 (t2V 5)) (w5 (t2V 6) (w5 (t2Op addG (t2V 3) (t2V 5)) x0t))))) x0t))) ⟨fun ρ δ2=>h0o (t2Bi p0u (w5 (t2V 4) x0t)) ⟨fun ρ' δ3=>q .non δ3,q,fun C fs _ δ3=>x C fs δ3,fun _ _=>False,fun _ _=>False⟩ ρ δ2,q,fun C fs _ δ3=>x C fs δ3,fun _ _=>False,fun _ _=>False⟩ (t0n 0 xs) [.val (p4 cs ps call sh),.val sd,.val d',.val (.int r),.own [tupZ st],.no,.no] δ:=by
   intro d';refine i9 (fun i ρ δ1=>∃acc st' c5 c6,ρ=[.val (p4 cs ps call sh),.val sd,.val d',.val (.int r),.own (acc.map tupZ),c5,c6]∧acc.length=i+1∧acc[i]?=some st'∧st'.length=ps.length∧goZ ps sh css r st [st]=goZ ps sh (css.drop i) (r+(i:Int)) st' acc∧δ1=δ) ⟨[st],st,_,_,rfl,rfl,rfl,hs,by simp,rfl⟩ ?_ ?_
   ·rintro i z ρ δ1 rest hi ⟨acc,st',c5,c6,rfl,hal,hat,hst,hgo,rfl⟩ hrest;obtain ⟨y,hy,rfl⟩:=j7 hi;have hlt:=(List.getElem?_eq_some_iff.mp hy).1;obtain ⟨c,hc,hyc⟩:=hpl.2 i y hy;have hlc:=(List.getElem?_eq_some_iff.mp hc).1;have hdrop:css.drop i=c::css.drop (i+1):=by rw[List.drop_eq_getElem_cons hlc,(List.getElem?_eq_some_iff.mp hc).2]
    rw[hdrop]at hgo;have e1:atI (acc.map tupZ) (i:Int)=some (tupZ st'):=by
     rw[z0j (v:=tupZ st') (by rw[List.getElem?_map,hat];rfl)]
    rw[Nat.zero_add];unfold t0o;walk_at "dn";rw[e1];dsimp only;refine ⟨rfl,ps,call,sh,st',y,c,r+(i:Int),rfl,hyc,hw,hst,?_⟩;rw[hgo]at hq;unfold goZ at hq;by_cases h1:c≠[]∧r+(i:Int)∈sh
    ·rw[if_pos h1]at hq ⊢;exact hq
    ·rw[if_neg h1]at hq ⊢;cases e:y0w ps (behZ ps st' c (r+(i:Int)))with
     |some k=>
      rw[e]at hq;exact hq
     |none=>
      rw[e]at hq;dsimp only at hq ⊢;refine ⟨by rw[List.length_map];omega,hrest _ _ ⟨acc++[behZ ps st' c (r+(i:Int))],behZ ps st' c (r+(i:Int)),_,_,by rw[List.map_append];rfl,by rw[List.length_append,hal];rfl,?_,w0f,?_,rfl⟩⟩
      ·rw[List.getElem?_append_right (by omega),hal,Nat.sub_self];rfl
      ·rw[hgo,goZ,if_neg h1,e];dsimp only;rw[show r+(i:Int)+1=r+((i+1:Nat):Int)by omega]
   ·rintro ρ δ1 ⟨acc,st',c5,c6,rfl,hal,hat,hst,hgo,rfl⟩;rw[l7,hpl.1,List.drop_length]at hgo;rw[hgo]at hq;walk_at "dn";exact hq
  cases d<;>first |(cases er;done)|skip
  all_goals
   cases er;rcases hsd with rfl |rfl
   all_goals
    walk_at "dn";exact main _
inductive WOut where
 |stands |rounds |plan (k:Int)|out (o:Out)
noncomputable def wOut(ps:List PartZ)(sh:List Int)(sd d fd:D):WOut:=if a6 ps sd=false then .stands else if u4 fd 0 47=false then .rounds else match o6 d (ps.length:Int) 24 with
 | .int k=>.plan k
 |_=>.out (goZ ps sh (((rowD d).getD []).map chD) (intD fd) (chD sd) [chD sd])
noncomputable def woutQ(cs:Cs)(q:D→Dk→Prop)(x:Addr→List (Str×D)→Dk→Prop)(δ:Dk):WOut→Prop
 | .stands=>x cs.NoStands [] δ
 | .rounds=>x cs.NoRounds [] δ
 | .plan k=>x cs.NoPlan [("at",.int k)] δ
 | .out o=>outQ cs q x δ o
theorem h0b{ps:List PartZ}{sd:D}(h:a6 ps sd=true):RowZ sd (chD sd)∧(chD sd).length=ps.length:=by
 have key:∀(ps:List PartZ) (xs:List D),z0t ps xs=true→xs=(xs.map intD).map D.int∧xs.length=ps.length:=by
  intro ps
  induction ps with
  |nil=>intro xs h;cases xs with |nil=>exact ⟨rfl,rfl⟩|cons a b=>cases h
  |cons p ps ih=>
   intro xs h;cases xs with
   |nil=>cases h
   |cons a b=>
    unfold z0t at h;rw[Bool.and_eq_true]at h;obtain ⟨i,rfl,_,_⟩:=o9 h.1;obtain ⟨k1,k2⟩:=ih b h.2;exact ⟨by rw[List.map_cons,List.map_cons,← k1];rfl,by rw[List.length_cons,List.length_cons,k2]⟩
 unfold a6 at h;cases e:rowD sd with
 |none=>rw[e]at h;cases h
 |some xs=>
  rw[e]at h;obtain ⟨k1,k2⟩:=key ps xs h;have ec:chD sd=xs.map intD:=by unfold chD;rw[e];rfl
  rw[ec];refine ⟨?_,by rw[List.length_map,k2]⟩;unfold RowZ;rw[←k1];cases sd<;>first |(cases e;first |exact .inl rfl |exact .inr rfl)|cases e
theorem h0a{d:D}{m:Int}(h:o6 d m 24=.non):∃xs,rowD d=some xs∧xs.length≤24∧d0j xs (((rowD d).getD []).map chD):=by
 have key:∀{xs:List D} {k:Nat},m8 m k xs=.non→∀e∈xs,risD e 0 (m-1)=true:=by
  intro xs
  induction xs with
  |nil=>intro k _ e he;cases he
  |cons x xs ih=>
   intro k h e he;unfold m8 at h;cases eb:badE m x with
   |true=>rw[eb,if_pos rfl]at h;cases h
   |false=>
    rw[eb,if_neg Bool.false_ne_true]at h;rcases List.mem_cons.mp he with rfl |he
    ·unfold badE at eb
     rwa[Bool.not_eq_false']at eb
    ·exact ih h e he
 unfold o6 at h;split at h
 ·cases h
 ·rename_i xs e;split at h
  ·cases h
  ·refine ⟨xs,e,by omega,?_⟩;rw[e];refine ⟨by rw[Option.getD_some,List.length_map],fun i x hx=>⟨chD x,by rw[Option.getD_some,List.getElem?_map,hx];rfl,?_⟩⟩;obtain ⟨ys,e1,e2,_⟩:=d0p (key h x (List.mem_of_getElem? hx));unfold RowZ;rw[←e2];cases x<;>first |(cases e1;first |exact .inl rfl |exact .inr rfl)|cases e1
noncomputable def i0f(cs:Cs):Sp2:=fun ds δ q x=>∃ps call sh sd d fd,ds=[p4 cs ps call sh,sd,d,fd]∧l4 sd=true∧w0g d=true∧p5 fd=true∧o0w ps∧woutQ cs q x δ (wOut ps sh sd d fd)
noncomputable abbrev i0e:List Str:=["works","stands","plan","first"]
theorem sc_walk:FnScope ["works","stands","plan","first"] i0e (defScope d0x):=⟨rfl,rfl,rfl,by decide +kernel,rfl,by decide +kernel,by decide +kernel⟩
noncomputable abbrev d0h(P:Program)(w:World)(K:PySem.W.Frag)(mg:Str→Option Value)(base:Heap)(cs:Cs):Prop:=Fun2 P w K mg base "walk" 8 i0e (i0f cs)
theorem x1h{f:Addr}{fd:FuncData}(Df:DefAt K mg "walk" d0x i0e f fd)(T:Txt K mg cs)(G_check_stands:w9 P w K mg base cs)(G_check_first:z0v P w K mg base cs)(G_check_plan:i8 P w K mg base cs)(G_path_of:q0y P w K mg base cs):d0h P w K mg base cs:=by
 have nd:=sc_walk.nd;refine def2 Df sc_walk (fun ds δ q x h=>?_) (fun cdv A outer s H E Y hr=>⟨_,(i0 (l9 (g0 G_check_stands (hr.mono (by decide)) r0 (v0 (e2_v 0) (v0 (e2_v 1) s0))))
  (i0 (l9 (g0 G_check_first (hr.mono (by decide)) r0 (v0 (e2_v 3) s0)))
  (i0 (l9 (g0 G_check_plan (hr.mono (by decide)) r0 (v0 (e2_v 2) (v0 (e2_b x5 l0d T.n_len u0o (v0 (i5 K (e2_v 0)) s0)) s0))))
  (y3 (j3 (g0 G_path_of (hr.mono (by decide)) r0 (v0 (e2_v 0) (v0 (e2_v 1) (v0 (e2_v 2) (v0 (e2_v 3) s0)))))))))),fun ds δ q x h=>?_⟩)
 ·unfold i0f at h;obtain ⟨ps,call,sh,sd,d,fd,rfl,h1,h2,h3,hw,hq⟩:=h;rfl
 ·unfold i0f at h;obtain ⟨ps,call,sh,sd,d,fd,rfl,h1,h2,h3,hw,hq⟩:=h;rw[show l3 ["works","stands","plan","first"] _=[.val _,.val _,.val _,.val _]from rfl];have hl:=hw.1;walk_at "dn";refine ⟨ps,call,sh,sd,rfl,h1,hl,fun es=>?_,fun es=>?_⟩;rotate_left
  ·unfold wOut at hq;rw[if_pos es]at hq;exact hq
  unfold wOut at hq;rw[if_neg (by rw[es];decide)]at hq;refine ⟨fd,rfl,h3,fun ef=>?_,fun ef=>?_⟩;rotate_left
  ·rw[if_pos ef]at hq;exact hq
  rw[if_neg (by rw[ef];decide)]at hq;simp only[p4];walk_at "fl";simp only[l8,List.length_map];refine ⟨h2,by omega,fun ep=>?_,fun k ep=>?_⟩;rotate_left
  ·rw[ep]at hq;exact hq
  rw[ep]at hq;obtain ⟨xs,e1,e2,e3⟩:=h0a ep;obtain ⟨r1,r2⟩:=h0b es;obtain ⟨i,rfl,i1,i2⟩:=o9 ef;exact ⟨ps,call,sh,sd,chD sd,d,xs,_,i,rfl,r1,e1,e3,e2,hw,r2,hq⟩
noncomputable def z0l(p:PartZ):D:=m0d p.full p.mark p.ws p.price
theorem atS{ps:List PartZ}{k:Int}(h0:0≤k)(h1:k<(ps.length:Int)):atI (ps.map z0l) k=some (z0l (ps.getD k.toNat default)):=by
 have hz:k=((k.toNat:Nat):Int):=by omega
 have hl:k.toNat<ps.length:=by omega
 rw[hz,z0j (v:=z0l (ps.getD k.toNat default))]
 ·rfl
 ·rw[List.getElem?_map,List.getElem?_eq_getElem hl,List.getD_eq_getElem?_getD,List.getElem?_eq_getElem hl];rfl
theorem atL{xs:List D}{k:Int}(h0:0≤k)(h1:k<(xs.length:Int)):∃z,atI xs k=some z∧z∈xs:=by
 have hz:k=((k.toNat:Nat):Int):=by omega
 have hl:k.toNat<xs.length:=by omega
 refine ⟨xs[k.toNat],?_,List.getElem_mem hl⟩;have:=z0j (List.getElem?_eq_getElem hl);rw[←hz]at this;exact this
noncomputable def ChOk(m:Int)(c:List Int):Prop:=(∀k∈c,0≤k∧k<m)∧risI c=true∧c.length≤m.toNat
theorem t0b:∀{c:List Int} {m:Int},risI c=true→(∀k∈c,k<m)→risI (c++[m])=true
 | [],m,_,_=>rfl
 | [a],m,_,h=>by
  show (decide (a<m)&&risI [m])=true;rw[decide_eq_true (h a (by simp))];rfl
 |a::b::r,m,hr,h=>by
  have hr':(decide (a<b)&&risI (b::r))=true:=hr;rw[Bool.and_eq_true]at hr';show (decide (a<b)&&risI ((b::r)++[m]))=true;rw[hr'.1,t0b hr'.2 fun k hk=>h k (List.mem_cons_of_mem _ hk)];rfl
theorem i0d{c:List Int}{m:Int}{d:D}(h:ChOk m c)(m0:0≤m)(hd:d=.tup (c.map D.int)∨d=.lst (c.map D.int)):l4 d=true∧risD d 0 (m-1)=true∧chD d=c:=by
 have e1:rowD d=some (c.map D.int):=by rcases hd with rfl |rfl<;>rfl
 have e2:p5 d=true:=by rcases hd with rfl |rfl<;>rfl
 have e4:chD d=c:=by unfold chD;rw[e1];exact t0c c
 refine ⟨by unfold l4;rw[e1,e2,Bool.true_and];exact v0f,?_,e4⟩;unfold risD w0t;rw[e1];have e5:(c.map D.int).all (u4 · 0 (m-1))=true:=by
  rw[List.all_eq_true];intro x hx;obtain ⟨y,hy,rfl⟩:=List.mem_map.mp hx;have:=h.1 y hy;exact p0b this.1 (by omega)
 have e6:=h.2.2;dsimp only[Option.getD_some];rw[t0c,h.2.1,e5,List.length_map,decide_eq_true (by omega),decide_eq_true (by omega)];rfl
structure ToldOk(ps:List PartZ)(call:Int)(sh:List Int):Prop where
 l:ps.length≤4
 p:∀p∈ps,POk p
 c:0≤call∧call≤99
 s:risI sh=true∧(∀k∈sh,0≤k∧k<48)∧sh.length≤48
theorem ToldOk.pr{ps:List PartZ}{call:Int}{sh:List Int}(h:ToldOk ps call sh):∀p∈ps,0≤p.price∧p.price≤99:=fun p hp=>⟨(h.p p hp).p1,(h.p p hp).p2⟩
noncomputable def u9(ps:List PartZ)(call:Int)(sh:List Int):D:=.tup [.lst (ps.map z0l),.int call,.lst (sh.map D.int)]
noncomputable def o0q:Sp2:=fun ds δ q _=>∃p ns n,ds=[.ref p,.int 4,.int 9]∧DkAt p ns n δ∧n<2^19∧∀ps call sh δ',ToldOk ps call sh→DkAt p ns (n+100) δ'→q (u9 ps call sh) δ'
noncomputable abbrev z0q:List Str:=["_law_deck_here","_law_many","_law_most"]
theorem sc_law_works:FnScope ["_law_deck_here","_law_many","_law_most","_law_specs","_law_call","_law_low","_law_shut"] z0q (defScope x0l):=⟨rfl,rfl,rfl,by decide +kernel,rfl,by decide +kernel,by decide +kernel⟩
noncomputable abbrev x0d(P:Program)(w:World)(K:PySem.W.Frag)(mg:Str→Option Value)(base:Heap)(cs:Cs):Prop:=Fun2 P w K mg base "_law_works" 6 z0q o0q
theorem l0y{f:Addr}{fd:FuncData}(Df:DefAt K mg "_law_works" x0l z0q f fd)(T:Txt K mg cs)(G_law_take:b6 P w K mg base cs)(G_law_spec:v0g P w K mg base cs):x0d P w K mg base cs:=by
 have nd:=sc_law_works.nd;refine def2 Df sc_law_works (fun ds δ q x h=>?_) (fun cdv A outer s H E Y hr=>⟨_,(i0 (p0i (i:=3) rfl (CompOkM.of ["_law_k"] [0,2] rfl) (p9 T.n_range (v0 (g0 G_law_take (hr.mono (by decide)) r0 (v0 (e2_v 0) (v0 (v4 w4 b4 (e2_v 1) j0) s0))) s0)) (fun nd _ _ _ _ _=>(i3 (i:=0) nd rfl (by first |exact Or.inl rfl |exact Or.inr rfl))) o5 (fun _ _ _ _ _ _=>x6) (fun _ _ _ _ _ _=>(g0 G_law_spec (hr.mono (by decide)) x0x (v0 (e2_v 1) (v0 (e2_v 2) s0)))) nd)
  (i0 (y4 4 nd (g0 G_law_take (hr.mono (by decide)) r0 (v0 (e2_v 0) (v0 j0 s0))))
  (i0 (a5 (u5 q0n d_eq (g0 G_law_take (hr.mono (by decide)) r0 (v0 (e2_v 0) (v0 j0 s0))) j0 (d4 _)) (y3 (y4 4 nd (g0 G_law_take (hr.mono (by decide)) r0 (v0 (e2_v 0) (v0 j0 s0))))) n4)
  (i0 (y4 5 nd (f0s q0a d_ix (p0y (v0 j0 (v0 j0 (v0 j0 (v0 j0 s0))))) (g0 G_law_take (hr.mono (by decide)) r0 (v0 (e2_v 0) (v0 j0 s0)))))
  (i0 (p0i (i:=6) rfl (CompOkM.of ["_law_number"] [5,0] rfl) (p9 T.n_range (v0 j0 s0)) (fun nd _ _ _ _ _=>(i3 (i:=0) nd rfl (by first |exact Or.inl rfl |exact Or.inr rfl))) o5 (fun _ _ _ _ _ _=>(e0p (u5 q0n d_eq (g0 G_law_take (hr.mono (by decide)) x0x (v0 (e2_v 2) (v0 j0 s0))) j0 (d4 _)))) (fun _ _ _ _ _ _=>(v4 w4 b4 (e2_v 1) (e2_v 0))) nd)
  (y3 (j3 (w0z (v0 (e2_v 3) (v0 (e2_v 4) (v0 (e2_v 6) s0))))))))))),fun ds δ q x h=>?_⟩)
 ·unfold o0q at h;obtain ⟨p,ns,n,rfl,hD,hn,hq⟩:=h;rfl
 ·unfold o0q at h;obtain ⟨p,ns,n,rfl,hD,hn,hq⟩:=h;rw[show l3 ["_law_deck_here","_law_many","_law_most","_law_specs","_law_call","_law_low","_law_shut"] _=[.val _,.val _,.val _,.no,.no,.no,.no]from rfl];walk_at "dn";refine ⟨p,ns,_,5,rfl,hD,by omega,by decide,by decide,fun m0 δ1 m1 m2 hD=>?_⟩;dsimp only;refine ⟨⟨by omega,by omega⟩,?_⟩;refine z7 (fun i acc δ'=>∃ps:List PartZ,acc=ps.map z0l∧ps.length=i∧(∀p∈ps,POk p)∧DkAt p ns (n+1+20*i) δ') ⟨[],rfl,rfl,fun x hx=>(by cases hx),hD⟩ ?_ ?_
  ·rintro i d acc δ' rest hi ⟨ps,rfl,hpl,hps,hD⟩ hrest;obtain ⟨hi2,rfl⟩:=k9 hi;simp only[capt,y0a,List.map_cons,List.map_nil,List.getElem?_cons_zero,List.getElem?_cons_succ];walk_at "dn";refine ⟨p,ns,_,rfl,hD,by omega,fun full mark ws price δ2 h hD=>?_⟩;refine ⟨by rw[List.length_map];omega,hrest _ _ ⟨ps++[⟨full,mark,ws,price⟩],by rw[List.map_append];rfl,by rw[List.length_append,hpl];rfl,fun z hz=>?_,by rw[show n+1+20*(i+1)=n+1+20*i+20 by omega];exact hD⟩⟩;rcases List.mem_append.mp hz with hz |hz
   ·exact hps z hz
   ·rw[List.mem_singleton.mp hz];exact h
  rintro acc δ' ⟨ps,rfl,hpl,hps,hD⟩;rw[y8]at hpl hD;have hp4:ps.length≤4:=by omega
  have hD:DkAt p ns (n+81) δ':=hD.mono (by omega);refine ⟨p,ns,_,12,rfl,hD,by omega,by decide,by decide,fun c0 δ2 c1 c2 hD=>?_⟩;refine ⟨p,ns,_,3,rfl,hD,by omega,by decide,by decide,fun t0 δ3 t1 t2 hD=>?_⟩;have tail:∀(call:Int) δ4,0≤call→call≤99→DkAt p ns (n+84) δ4→m0w [D.ref p,D.int 4] δ4 (fun d_1 δ2=>
   match (some [D.int 0,D.int 10,D.int 20,D.int 38]:Option (List D)),d_1 with
   |some xs,D.int i=>
    (match atI xs i with
    |some d_2=>(-2^62≤(10:Int)∧(10:Int)<2^62)∧
     compM false 1 (t2B (t2Op eqF (z0m m0w (w5 (t2V 2) (w5 (t2C (D.int 7)) x0t))) (t2C (D.int 6)))) (t2Op addG (t2V 1) (t2V 0)) [5,0]
      [Cell.val (D.ref p),Cell.val (D.int 4),Cell.val (D.int 9),Cell.val (D.lst (List.map z0l ps)),Cell.val (D.int call),Cell.val d_2,Cell.no]
      (fun acc δ2=>q (D.tup [D.lst (List.map z0l ps),D.int call,D.lst acc]) δ2) (rngD 0 (Int.toNat 10)) [] δ2
    |none=>False)
   |_,_=>False) (fun C fs δ2=>x C fs δ2):=by
   intro call δ4 k1 k2 hD;refine ⟨p,ns,_,4,rfl,hD,by omega,by decide,by decide,fun w0 δ5 w1 w2 hD=>?_⟩;obtain ⟨z,ez,hz⟩:=atL (xs:=[.int 0,.int 10,.int 20,.int 38]) w1 (by simpa using w2);have hz2:∃low:Int,z=.int low∧0≤low∧low≤38:=by
    simp only[List.mem_cons,List.not_mem_nil,or_false]at hz;rcases hz with rfl |rfl |rfl |rfl<;>exact ⟨_,rfl,by decide,by decide⟩
   obtain ⟨low,rfl,l1,l2⟩:=hz2;dsimp only;rw[ez];refine ⟨⟨by decide,by decide⟩,?_⟩;refine t0f (fun i acc δ'=>∃sh:List Int,acc=sh.map D.int∧risI sh=true∧(∀k∈sh,0≤k∧k<low+(i:Int))∧sh.length≤i∧DkAt p ns (n+85+i) δ') ⟨[],rfl,rfl,fun x hx=>(by cases hx),Nat.le_refl _,hD⟩ ?_ ?_
   ·rintro i d acc δ' rest hi ⟨sh,rfl,hs1,hs2,hs3,hD⟩ hrest;obtain ⟨hi2,rfl⟩:=k9 hi;have hi2:i<10:=hi2;simp only[tgD,capt,y0a,List.map_cons,List.map_nil,List.getElem?_cons_zero,List.getElem?_cons_succ,List.cons_append,List.nil_append];walk_at "dn";refine ⟨p,ns,_,7,rfl,hD,by omega,by decide,by decide,fun x0 δ6 x1 x2 hD=>?_⟩;dsimp only;split
    ·refine ⟨by rw[List.length_map];omega,hrest _ _ ⟨sh++[low+(0+(i:Int))],by rw[List.map_append];rfl,t0b hs1 (fun k hk=>by have:=(hs2 k hk).2;omega),fun k hk=>?_,by rw[List.length_append];show sh.length+1≤_;omega,hD⟩⟩;rcases List.mem_append.mp hk with hk |hk
     ·exact ⟨(hs2 k hk).1,by have:=(hs2 k hk).2;omega⟩
     ·rw[List.mem_singleton.mp hk];omega
    ·exact hrest _ _ ⟨sh,rfl,hs1,fun k hk=>⟨(hs2 k hk).1,by have:=(hs2 k hk).2;omega⟩,by omega,hD⟩
   ·rintro acc δ' ⟨sh,rfl,hs1,hs2,hs3,hD⟩;have e10:(rngD 0 (Int.toNat 10)).length=10:=y8;rw[e10]at hs2 hs3 hD;exact hq ps call sh _ ⟨hp4,hps,⟨k1,k2⟩,hs1,fun k hk=>⟨(hs2 k hk).1,by have:=(hs2 k hk).2;omega⟩,by omega⟩ (hD.mono (by omega))
  dsimp only;split
  ·refine ⟨p,ns,_,100,rfl,hD,by omega,by decide,by decide,fun u0 δ5 u1 u2 hD=>?_⟩;exact tail _ _ u1 (by omega) (hD.mono (by omega))
  ·exact tail _ _ c1 (by omega) (hD.mono (by omega))
noncomputable def o0p(cs:Cs)(ps:List PartZ):D:=.lst (ps.map (r0d cs))
theorem a0x{cs:Cs}{ps:List PartZ}(h:ps.length≤4):w0n cs (o0p cs ps)=true∧∀x∈(rowD (o0p cs ps)).getD [],entD cs x=true:=by
 constructor
 ·unfold w0n o0p rowD;dsimp only;rw[List.length_map,decide_eq_true (by omega),Bool.true_and,List.all_eq_true];intro x hx;obtain ⟨p,_,rfl⟩:=List.mem_map.mp hx;exact decide_eq_true rfl
 ·intro x hx;have hx:x∈ps.map (r0d cs):=hx;obtain ⟨p,_,rfl⟩:=List.mem_map.mp hx;exact decide_eq_true rfl
noncomputable def d0g(cs:Cs):Sp2:=fun ds δ q _=>∃ps call sh,ds=[u9 ps call sh]∧ToldOk ps call sh∧q (p4 cs ps call sh) δ
noncomputable abbrev y0e:List Str:=["_law_told"]
theorem sc_law_made:FnScope ["_law_told"] y0e (defScope v0l):=⟨rfl,rfl,rfl,by decide +kernel,rfl,by decide +kernel,by decide +kernel⟩
noncomputable abbrev u0u(P:Program)(w:World)(K:PySem.W.Frag)(mg:Str→Option Value)(base:Heap)(cs:Cs):Prop:=Fun2 P w K mg base "_law_made" 8 y0e (d0g cs)
theorem j0m{f:Addr}{fd:FuncData}(Df:DefAt K mg "_law_made" v0l y0e f fd)(T:Txt K mg cs)(G_law_part:v0e P w K mg base cs)(M_Works:Make2 P w K mg base "Works" 6 (v0b cs)):u0u P w K mg base cs:=by
 have nd:=sc_law_made.nd;refine def2 Df sc_law_made (fun ds δ q x h=>?_) (fun cdv A outer s H E Y hr=>⟨_,(y3 (j3 (f0f M_Works (hr.mono (by decide)) r0 (v0 (n5 rfl (CompOkM.of ["_law_spec_here"] [] rfl) (x0w (x4 0 j0)) (fun nd _ _ _ _ _=>(i3 (i:=0) nd rfl (by first |exact Or.inl rfl |exact Or.inr rfl))) o5 (fun _ _ _ _ _ _=>x6) (fun _ _ _ _ _ _=>(g0 G_law_part (hr.mono (by decide)) x0x (v0 (e2_v 0) s0)))) (v0 (x4 0 j0) (v0 (x4 0 j0) s0)))))),fun ds δ q x h=>?_⟩)
 ·unfold d0g at h;obtain ⟨ps,call,sh,rfl,h,hq⟩:=h;rfl
 ·unfold d0g at h;obtain ⟨ps,call,sh,rfl,h,hq⟩:=h;rw[show l3 ["_law_told"] _=[.val _]from rfl];walk_at "dn";unfold u9;walk_at "dn";refine z7 (fun i acc δ''=>acc=(ps.take i).map (r0d cs)∧δ''=δ) ⟨rfl,rfl⟩ ?_ ?_
  ·rintro i d acc δ'' rest hi ⟨rfl,rfl⟩ hrest;rw[List.getElem?_map,Option.map_eq_some_iff]at hi;obtain ⟨pz,hpz,rfl⟩:=hi;have hlt:=(List.getElem?_eq_some_iff.mp hpz).1;have hp4:=h.l;simp only[capt,y0a,List.map_cons,List.map_nil,List.getElem?_cons_zero,List.getElem?_cons_succ];walk_at "dn";refine ⟨pz.full,pz.mark,pz.ws,pz.price,rfl,h.p pz (List.mem_of_getElem? hpz),?_⟩;refine ⟨by rw[List.length_map,List.length_take];omega,hrest _ _ ⟨?_,rfl⟩⟩;rw[List.take_succ,hpz,List.map_append];rfl
  rintro acc δ'' ⟨rfl,rfl⟩;rw[List.length_map,List.take_length];obtain ⟨pk1,pk2⟩:=a0x (cs:=cs) (Nat.le_trans h.l (by decide));unfold o0p at pk1;have hr:=i0d (m:=48) (d:=.lst (sh.map D.int)) ⟨h.s.2.1,h.s.1,h.s.2.2⟩ (by decide) (.inr rfl);unfold v0b;refine ⟨by rw[hr.1];rfl,pk2,?_⟩;have hris:risD (.lst (sh.map D.int)) 0 47=true:=hr.2.1;rw[if_pos pk1,if_pos (p0b h.c.1 h.c.2),if_pos hris];exact hq
noncomputable def l0x(ps:List PartZ)(st c:List Int)(r:Int):D:=match y0w ps (behZ ps st c r)with |some _=>.non |none=>tupZ (behZ ps st c r)
noncomputable def j0l:Sp2:=fun ds δ q _=>∃ps sd st cd c r,ds=[.lst (ps.map z0l),sd,cd,.int r]∧RowZ sd st∧RowZ cd c∧o0w ps∧st.length=ps.length∧q (l0x ps st c r) δ
theorem x1g{ps:List PartZ}{st c:List Int}{r:Int}{i:Nat}(hi:i<ps.length)(h1:∀j<i,¬behI ps st c r j<(ps.getD j default).mark)(h2:behI ps st c r i<(ps.getD i default).mark):y0w ps (behZ ps st c r)=some i:=by
 refine d0l (fun j hj=>decide_eq_false ?_) hi (decide_eq_true ?_)
 ·rw[u0w (by omega)];exact h1 j hj
 ·rw[u0w hi];exact h2
theorem x1f{ps:List PartZ}{st c:List Int}{r:Int}(h1:∀j<ps.length,¬behI ps st c r j<(ps.getD j default).mark):y0w ps (behZ ps st c r)=none:=by
 refine d0k fun j hj=>decide_eq_false ?_
 rw[u0w hj];exact h1 j hj
noncomputable abbrev z0p:List Str:=["_law_specs","_law_stands_here","_law_chosen","_law_number"]
theorem sc_law_after:FnScope ["_law_specs","_law_stands_here","_law_chosen","_law_number","_law_found","_law_at","_law_spec_here","_law_stand","_law_left"] z0p (defScope x0m):=⟨rfl,rfl,rfl,by decide +kernel,rfl,by decide +kernel,by decide +kernel⟩
noncomputable abbrev x0c(P:Program)(w:World)(K:PySem.W.Frag)(mg:Str→Option Value)(base:Heap)(cs:Cs):Prop:=Fun2 P w K mg base "_law_after" 2 z0p j0l
theorem l0w{f:Addr}{fd:FuncData}(Df:DefAt K mg "_law_after" x0m z0p f fd)(T:Txt K mg cs):x0c P w K mg base cs:=by
 have nd:=sc_law_after.nd;refine def2 Df sc_law_after (fun ds δ q x h=>?_) (fun cdv A outer s H E Y hr=>⟨_,(i0 (n0n 4 nd s0)
  (i0 (w0w PassesOwn.leaving rfl (v0z T.n_enumerate (v0 (e2_v 0) s0)) (x0z rfl (o4 (i3 (i:=5) nd rfl (by first |exact Or.inl rfl |exact Or.inr rfl)) (o4 (i3 (i:=6) nd rfl (by first |exact Or.inl rfl |exact Or.inr rfl)) e8))) (s0r (is:=[5,6]) rfl) (i0 (y4 7 nd (e2_if (u5 z0i d_in (e2_v 5) (e2_v 2) rfl) (x4 6 j0) (x4 1 (e2_v 5))))
  (i0 (y4 8 nd (v4 s0x l0e (e2_v 7) (f0s q0a d_ix (x4 6 j0) (v4 u0q n0r (e2_v 3) (e2_b x5 l0d T.n_len u0o (v0 (x4 6 j0) s0))))))
  (i0 (a5 (u5 z1g d_lt (e2_v 8) (x4 6 j0) (d4 _)) (y3 (j3 s0u)) n4)
  (y3 (l9 (f0g 4 PySem.F.slot_list_append PySem.F.type_list_append z0h w0x (v0 (e2_v 8) s0))))))))
  (y3 (j3 (y0b b3 f7 T.n_tuple b5 (v0 (e2_v 4) s0)))))),fun ds δ q x h=>?_⟩)
 ·unfold j0l at h;obtain ⟨ps,sd,st,cd,c,r,rfl,hsd,hcd,hw,hs,hq⟩:=h;rfl
 ·unfold j0l at h;obtain ⟨ps,sd,st,cd,c,r,rfl,hsd,hcd,hw,hs,hq⟩:=h;rw[show l3 ["_law_specs","_law_stands_here","_law_chosen","_law_number","_law_found","_law_at","_law_spec_here","_law_stand","_law_left"] _=[.val _,.val _,.val _,.val _,.no,.no,.no,.no,.no]from rfl];have hl:=hw.1;walk_at "dn";refine i9 (fun i ρ δ1=>∃own c5 c6 c7 c8,ρ=[.val (.lst (ps.map z0l)),.val sd,.val cd,.val (.int r),.own own,c5,c6,c7,c8]∧own=((List.range i).map (behI ps st c r)).map D.int∧(∀j<i,¬behI ps st c r j<(ps.getD j default).mark)∧δ1=δ) ⟨_,_,_,_,_,rfl,rfl,fun j hj=>absurd hj (Nat.not_lt_zero _),rfl⟩ ?_ ?_
  ·rintro i z ρ δ1 rest hi ⟨own,c5,c6,c7,c8,rfl,rfl,hno,rfl⟩ hrest;obtain ⟨y,hy,rfl⟩:=j7 hi;rw[List.getElem?_map,Option.map_eq_some_iff]at hy;obtain ⟨pz,hpz,rfl⟩:=hy;have hlt:=(List.getElem?_eq_some_iff.mp hpz).1;have ep:=psAt hpz;have hwl:=hw.2 pz (List.mem_of_getElem? hpz);rw[Nat.zero_add];unfold t0o;have hb:behI ps st c r i=(if (i:Int)∈c then pz.full else st.getD i 0)-j0p pz.ws r:=by unfold behI;rw[ep]
   rcases hcd with rfl |rfl
   all_goals
    rcases hsd with rfl |rfl
    all_goals
     walk_at "dn";simp only[z0e,v0x,m6,Bool.true_and,true_and,decide_eq_true_eq];split
     all_goals
      rename_i h1
      first |rw[if_pos h1]at hb |rw[if_neg h1]at hb
      simp only[z0l,m0d]
      try rw[atN (by omega)]
      walk_at "dn";refine ⟨by rw[List.length_map];omega,?_⟩;rw[d0o r hwl];dsimp only;rw[←hb];split
      ·rename_i h2;have e:=x1g hlt hno (by rw[ep];exact h2);unfold l0x at hq;rw[e]at hq;exact hq
      ·rename_i h2;refine ⟨rfl,by rw[List.length_map,List.length_map,List.length_range];omega,hrest _ _ ⟨_,_,_,_,_,rfl,?_,fun j hj=>?_,rfl⟩⟩
       ·rw[List.range_succ,List.map_append,List.map_append];rfl
       ·rcases Nat.lt_succ_iff_lt_or_eq.mp hj with hj |rfl
        ·exact hno j hj
        ·rw[ep];exact h2
  ·rintro ρ δ1 ⟨own,c5,c6,c7,c8,rfl,rfl,hno,rfl⟩;rw[l7,List.length_map]at hno ⊢;have e:=x1f hno;unfold l0x at hq;rw[e]at hq;walk_at "dn";exact hq
noncomputable def a0w:Sp2:=fun ds δ q _=>∃ps call sh sd st cd c r,ds=[u9 ps call sh,sd,cd,.int r]∧RowZ sd st∧RowZ cd c∧o0w ps∧st.length=ps.length∧q (match y0w ps (behZ ps st c r)with |some k=>.int (k:Int)|none=>.int (-1)) δ
structure StOk(ps:List PartZ)(st:List Int):Prop where
 l:st.length=ps.length
 b:∀i<ps.length,(ps.getD i default).mark≤st.getD i 0∧st.getD i 0≤(ps.getD i default).full
theorem StOk.std{ps:List PartZ}{st:List Int}{d:D}(h:StOk ps st)(hd:RowZ d st):a6 ps d=true∧l4 d=true∧chD d=st:=by
 have e1:rowD d=some (st.map D.int):=by rcases hd with rfl |rfl<;>rfl
 have e2:p5 d=true:=by rcases hd with rfl |rfl<;>rfl
 refine ⟨?_,by unfold l4;rw[e1,e2,Bool.true_and];exact v0f,by unfold chD;rw[e1];exact t0c st⟩;unfold a6;rw[e1];dsimp only;rw[←x0f ps _ (by rw[List.length_map];exact h.l),List.all_eq_true];intro b hb;obtain ⟨i,hi,rfl⟩:=List.mem_map.mp hb;have hi:=List.mem_range.mp hi;have:=h.b i hi;have e3:(st.map D.int).getD i .non=.int (st.getD i 0):=by
  have hl:i<st.length:=by rw[h.l];exact hi
  rw[List.getD_eq_getElem?_getD,List.getD_eq_getElem?_getD,List.getElem?_map,List.getElem?_eq_getElem hl];rfl
 rw[e3];exact p0b this.1 this.2
noncomputable def q0x:Sp2:=fun ds δ q _=>∃p ns n ps,ds=[.ref p,.lst (ps.map z0l)]∧DkAt p ns n δ∧n<2^20∧ps.length≤4∧(∀p∈ps,POk p)∧∀st δ',StOk ps st→DkAt p ns (n+5) δ'→q (tupZ st) δ'
noncomputable abbrev f8:List Str:=["_law_deck_here","_law_specs"]
theorem sc_law_stands:FnScope ["_law_deck_here","_law_specs"] f8 (defScope z0b):=⟨rfl,rfl,rfl,by decide +kernel,rfl,by decide +kernel,by decide +kernel⟩
noncomputable abbrev y0u(P:Program)(w:World)(K:PySem.W.Frag)(mg:Str→Option Value)(base:Heap)(cs:Cs):Prop:=Fun2 P w K mg base "_law_stands" 5 f8 q0x
theorem o0o{f:Addr}{fd:FuncData}(Df:DefAt K mg "_law_stands" z0b f8 f fd)(T:Txt K mg cs)(G_law_take:b6 P w K mg base cs):y0u P w K mg base cs:=by
 have nd:=sc_law_stands.nd;refine def2 Df sc_law_stands (fun ds δ q x h=>?_) (fun cdv A outer s H E Y hr=>⟨_,(i0 (a5 (u5 q0n d_eq (g0 G_law_take (hr.mono (by decide)) r0 (v0 (e2_v 0) (v0 j0 s0))) j0 (d4 _)) (y3 (j3 (y0b b3 f7 T.n_tuple b5 (v0 (n5 rfl (CompOkM.of ["_law_spec_here"] [] rfl) (x0w (e2_v 1)) (fun nd _ _ _ _ _=>(i3 (i:=0) nd rfl (by first |exact Or.inl rfl |exact Or.inr rfl))) o5 (fun _ _ _ _ _ _=>x6) (fun _ _ _ _ _ _=>(x4 0 j0))) s0)))) n4)
  (y3 (j3 (y0b b3 f7 T.n_tuple b5 (v0 (n5 rfl (CompOkM.of ["_law_spec_here"] [0] rfl) (x0w (e2_v 1)) (fun nd _ _ _ _ _=>(i3 (i:=0) nd rfl (by first |exact Or.inl rfl |exact Or.inr rfl))) o5 (fun _ _ _ _ _ _=>x6) (fun _ _ _ _ _ _=>(v4 w4 b4 (x4 0 j0) (g0 G_law_take (hr.mono (by decide)) x0x (v0 (e2_v 1) (v0 (v4 w4 b4 (v4 s0x l0e (x4 0 j0) (x4 0 j0)) j0) s0)))))) s0))))),fun ds δ q x h=>?_⟩)
 ·unfold q0x at h;obtain ⟨p,ns,n,ps,rfl,hD,hn,hl,hp,hq⟩:=h;rfl
 ·unfold q0x at h;obtain ⟨p,ns,n,ps,rfl,hD,hn,hl,hp,hq⟩:=h;rw[show l3 ["_law_deck_here","_law_specs"] _=[.val _,.val _]from rfl];walk_at "dn";refine ⟨p,ns,_,2,rfl,hD,by omega,by decide,by decide,fun a0 δ0 a1 a2 hD=>?_⟩;dsimp only;split
  ·refine e0f (fun d=>match d with | .tup (f::_)=>f |_=>.non) (by rw[List.length_map];omega) (fun d hd Q hQ=>?_) ?_
   ·obtain ⟨pz,hpz,rfl⟩:=List.mem_map.mp hd;simp only[z0l,m0d]at hQ ⊢;walk_at "dn";exact hQ
   ·have e:(ps.map z0l).map (fun d=>match d with | .tup (f::_)=>f |_=>.non)=(ps.map (·.full)).map D.int:=by
     rw[List.map_map,List.map_map];rfl
    rw[e];refine hq _ _ ⟨by rw[List.length_map],fun i hi=>?_⟩ (hD.mono (by omega));have e2:(ps.map (·.full)).getD i 0=(ps.getD i default).full:=by
     rw[List.getD_eq_getElem?_getD,List.getD_eq_getElem?_getD,List.getElem?_map,List.getElem?_eq_getElem hi];rfl
    rw[e2];have hm:ps.getD i default∈ps:=by rw[List.getD_eq_getElem?_getD,List.getElem?_eq_getElem hi];exact List.getElem_mem _
    have:=hp _ hm;exact ⟨this.m2,Int.le_refl _⟩
  ·refine p0t (fun i δ'=>DkAt p ns (n+1+i) δ') (fun i d e=>∃s:Int,e=.int s∧(ps.getD i default).mark≤s∧s≤(ps.getD i default).full) (by rw[List.length_map];omega) hD (fun i d δ' hi hD Q hQ=>?_) (fun acc δ' h1 h2 hD=>?_)
   ·rw[List.getElem?_map,Option.map_eq_some_iff]at hi;obtain ⟨pz,hpz,rfl⟩:=hi;have hlt:=(List.getElem?_eq_some_iff.mp hpz).1;have ep:=psAt hpz;have hk:=hp pz (List.mem_of_getElem? hpz);have k1:=hk.m2;have k2:=hk.f2;have k3:=hk.m1;simp only[z0l,m0d,capt,y0a,List.map_cons,List.map_nil,List.getElem?_cons_zero,List.getElem?_cons_succ];walk_at "dn";refine ⟨p,ns,_,pz.full-pz.mark+1,rfl,hD,by omega,by omega,by omega,fun b0 δ1 b1 b2 hD=>?_⟩;dsimp only;exact hQ _ _ ⟨_,rfl,by rw[ep];omega,by rw[ep];omega⟩ hD
   ·rw[List.length_map]at h1 hD;have e:acc=(acc.map intD).map D.int:=by
     rw[List.map_map]
     conv=>lhs;rw[←List.map_id acc]
     refine List.map_congr_left fun z hz=>?_
     obtain ⟨i,hi,rfl⟩:=List.mem_iff_getElem.mp hz;have hi2:i<ps.length:=by omega
     obtain ⟨s,es,_⟩:=h2 i (z0l ps[i]) acc[i] (by rw[List.getElem?_map,List.getElem?_eq_getElem hi2];rfl) (List.getElem?_eq_getElem hi);rw[es];rfl
    rw[e];refine hq (acc.map intD) _ ⟨by rw[List.length_map,h1],fun i hi=>?_⟩ (hD.mono (by omega));obtain ⟨s,es,s1,s2⟩:=h2 i (z0l ps[i]) acc[i] (by rw[List.getElem?_map,List.getElem?_eq_getElem hi];rfl) (List.getElem?_eq_getElem (by omega));have e9:(acc.map intD).getD i 0=s:=by rw[List.getD_eq_getElem?_getD,List.getElem?_map,List.getElem?_eq_getElem (by omega),es];rfl
    rw[e9];exact ⟨s1,s2⟩
theorem j0k{tc:TT2}{js:List Nat}{ρ:En}{q:List D→Dk→Prop}{m:Nat}{δ:Dk}(I:Nat→Dk→Prop)(hm:m≤900)(h0:I 0 δ)
 (step:∀(i:Nat) (δ':Dk),i<m→I i δ'→∀Q:Bool→En→Dk→Prop,(∀b ρ1 δ1,ρ1[0]?=some (.val (.int (i:Int)))→I (i+1) δ1→Q b ρ1 δ1)→tc (fun _ _ _ _=>False) (.val (.int (i:Int))::capt ρ js) δ' Q)
 (fin:∀c δ',ChOk (m:Int) c→I m δ'→q (c.map D.int) δ'):compM false 1 tc (t2V 0) js ρ q (rngD 0 m) [] δ:=by
 refine t0f (fun i acc δ'=>∃c:List Int,acc=c.map D.int∧risI c=true∧(∀k∈c,0≤k∧k<(i:Int))∧c.length≤i∧I i δ') ⟨[],rfl,rfl,fun x hx=>(by cases hx),Nat.le_refl _,h0⟩ ?_ ?_
 ·rintro i d acc δ' rest hi ⟨c,rfl,c1,c2,c3,hI⟩ hrest;obtain ⟨hi2,rfl⟩:=k9 hi;rw[Int.zero_add];show tc _ (.val (.int (i:Int))::capt ρ js) δ' _;refine step i δ' hi2 hI _ fun b ρ1 δ1 hρ hI1=>?_
  cases b with
  |false=>exact hrest _ _ ⟨c,rfl,c1,fun k hk=>⟨(c2 k hk).1,by have:=(c2 k hk).2;omega⟩,by omega,hI1⟩
  |true=>
   rw[if_pos rfl];simp only[t2V,rdV,hρ];refine ⟨by rw[List.length_map];omega,hrest _ _ ⟨c++[(i:Int)],by rw[List.map_append];rfl,t0b c1 fun k hk=>(c2 k hk).2,fun k hk=>?_,by rw[List.length_append];show c.length+1≤_;omega,hI1⟩⟩;rcases List.mem_append.mp hk with hk |hk
   ·exact ⟨(c2 k hk).1,by have:=(c2 k hk).2;omega⟩
   ·rw[List.mem_singleton.mp hk];omega
 ·rintro acc δ' ⟨c,rfl,c1,c2,c3,hI⟩;rw[y8]at c2 c3 hI;exact fin c δ' ⟨c2,c1,by omega⟩ hI
theorem d0f{m:Int}:ChOk m []:=⟨fun k hk=>(by cases hk),rfl,Nat.zero_le _⟩
noncomputable def m5(ps:List PartZ):List (List Int)→Int→List Int→List (List Int)
 | [],_,_=>[]
 |c::cs,r,st=>behZ ps st c r::m5 ps cs (r+1) (behZ ps st c r)
theorem w0d{ps:List PartZ}:∀{css:List (List Int)} {r:Int} {st:List Int},(m5 ps css r st).length=css.length
 | [],_,_=>rfl
 |c::cs,r,st=>by rw[m5,List.length_cons,List.length_cons,w0d]
theorem a0v{ps:List PartZ}{sh:List Int}:∀{css:List (List Int)} {r:Int} {st:List Int} {acc l:List (List Int)},goZ ps sh css r st acc=.rows l→l=acc++m5 ps css r st
 | [],r,st,acc,l,h=>by rw[goZ]at h;cases h;simp[m5]
 |c::cs,r,st,acc,l,h=>by
  rw[goZ]at h;split at h
  ·cases h
  ·split at h
   ·cases h
   ·rw[a0v h,m5];simp
noncomputable def okZ(ps:List PartZ)(sh:List Int)(c:List Int)(r:Int)(st:List Int):Prop:=¬(c≠[]∧r∈sh)∧y0w ps (behZ ps st c r)=none
noncomputable def q0w(ps:List PartZ)(sh:List Int):List (List Int)→Int→List Int→Prop
 | [],_,_=>True
 |c::cs,r,st=>okZ ps sh c r st∧q0w ps sh cs (r+1) (behZ ps st c r)
noncomputable def endZ(ps:List PartZ):List (List Int)→Int→List Int→List Int
 | [],_,st=>st
 |c::cs,r,st=>endZ ps cs (r+1) (behZ ps st c r)
theorem d0e{ps:List PartZ}{sh:List Int}:∀{css:List (List Int)} {r:Int} {st:List Int} {acc:List (List Int)},q0w ps sh css r st→goZ ps sh css r st acc=.rows (acc++m5 ps css r st)
 | [],r,st,acc,_=>by rw[goZ,m5];simp
 |c::cs,r,st,acc,h=>by
  obtain ⟨⟨h1,h2⟩,h3⟩:=h;rw[goZ,if_neg h1,h2];dsimp only;rw[d0e h3,m5];simp
theorem l0v{ps:List PartZ}{sh:List Int}{c:List Int}:∀{css:List (List Int)} {r:Int} {st:List Int},q0w ps sh css r st→okZ ps sh c (r+(css.length:Int)) (endZ ps css r st)→q0w ps sh (css++[c]) r st∧endZ ps (css++[c]) r st=behZ ps (endZ ps css r st) c (r+(css.length:Int))
 | [],r,st,_,h=>by
  simp only[List.length_nil,Int.natCast_zero,Int.add_zero,endZ]at h ⊢;exact ⟨⟨h,trivial⟩,rfl⟩
 |d::cs,r,st,h,h2=>by
  have e:r+((d::cs).length:Int)=r+1+(cs.length:Int):=by rw[List.length_cons];omega
  rw[e]at h2 ⊢;obtain ⟨k1,k2⟩:=l0v (css:=cs) (r:=r+1) h.2 h2;exact ⟨⟨h.1,k1⟩,k2⟩
theorem d0d{ps:List PartZ}:∀{css:List (List Int)} {r:Int} {st:List Int},st.length=ps.length→(endZ ps css r st).length=ps.length
 | [],_,_,h=>h
 |c::cs,r,st,h=>by rw[endZ];exact d0d (css:=cs) w0f
noncomputable def q0v:Sp2:=fun ds δ q _=>∃p ns n ps call sh st first rounds,ds=[.ref p,u9 ps call sh,tupZ st,.int first,.int rounds]∧DkAt p ns n δ∧n<2^20∧ToldOk ps call sh∧st.length=ps.length∧(0≤rounds∧rounds≤24)∧
 ∀(css:List (List Int)) δ',(css.length:Int)≤rounds→(∀c∈css,ChOk (ps.length:Int) c)→q0w ps sh css first st→DkAt p ns (n+200) δ'→q (.lst (css.map tupZ)) δ'
theorem ToldOk.wears{ps:List PartZ}{call:Int}{sh:List Int}(h:ToldOk ps call sh):o0w ps:=⟨h.l,fun p hp=>(h.p p hp).l1⟩
theorem wears1{ps:List PartZ}{pz:PartZ}(h:o0w ps)(hp:pz∈ps):o0w [pz]:=⟨by show 1≤4;decide,fun p hp'=>by rw[List.mem_singleton.mp hp'];exact h.2 pz hp⟩
noncomputable def holdT:TS2:=fun E ρ δ=>∃c0 ps call sh c2 first c4 css st' k c7 cho c10,ρ=[c0,.val (u9 ps call sh),c2,.val (.int first),c4,.own (css.map tupZ),.val (tupZ st'),.val (.int k),c7,.val (.lst (cho.map D.int)),c10]∧ToldOk ps call sh∧st'.length=ps.length∧css.length<900∧
 (match y0w ps (behZ ps st' cho (first+k))with
 |some _=>E.rt (.lst (css.map tupZ)) δ
 |none=>∀c10,E.nx [c0,.val (u9 ps call sh),c2,.val (.int first),c4,.own ((css++[cho]).map tupZ),.val (tupZ (behZ ps st' cho (first+k))),.val (.int k),c7,.val (.lst (cho.map D.int)),c10] δ)
noncomputable abbrev v8:List Str:=["_law_deck_here","_law_told","_law_stands_here","_law_first","_law_rounds"]
theorem sc_law_holding:FnScope ["_law_deck_here","_law_told","_law_stands_here","_law_first","_law_rounds","_law_plan","_law_here","_law_k","_law_alone","_law_chosen","_law_left"] v8 (defScope a9):=⟨rfl,rfl,rfl,by decide +kernel,rfl,by decide +kernel,by decide +kernel⟩
noncomputable abbrev z0o(P:Program)(w:World)(K:PySem.W.Frag)(mg:Str→Option Value)(base:Heap)(cs:Cs):Prop:=Fun2 P w K mg base "_law_holding" 6 v8 q0v
theorem q0g{f:Addr}{fd:FuncData}(Df:DefAt K mg "_law_holding" a9 v8 f fd)(T:Txt K mg cs)(G_law_take:b6 P w K mg base cs)(G_law_after:x0c P w K mg base cs):z0o P w K mg base cs:=by
 have nd:=sc_law_holding.nd;refine def2 Df sc_law_holding (fun ds δ q x h=>?_) (fun cdv A outer s H E Y hr=>⟨_,(i0 (n0n 5 nd s0)
  (i0 (y4 6 nd (e2_v 2))
  (i0 (w0w PassesOwn.leaving rfl (p9 T.n_range (v0 (e2_v 4) s0)) (i3 (i:=7) nd rfl (by first |exact Or.inl rfl |exact Or.inr rfl)) (e0y (i:=7)) (i0 (y4 8 nd (n5 rfl (CompOkM.of ["_law_spec_here","_law_stand"] [3,7] rfl) (i0n T.n_zip (v0 (x4 1 j0) (v0 (e2_v 6) s0))) (fun nd _ _ _ _ _=>(x0z rfl (o4 (i3 (i:=0) nd rfl (by first |exact Or.inl rfl |exact Or.inr rfl)) (o4 (i3 (i:=1) nd rfl (by first |exact Or.inl rfl |exact Or.inr rfl)) e8)))) (k0x (is:=[0,1]) rfl) (fun _ _ _ _ _ _=>x6) (fun _ _ _ _ _ _=>(g0 G_law_after (hr.mono (by decide)) x0x (v0 (p0y (v0 (e2_v 0) s0)) (v0 (p0y (v0 (e2_v 1) s0)) (v0 (w0z s0) (v0 (v4 w4 b4 (e2_v 2) (e2_v 3)) s0))))))))
  (i0 (p0i (i:=9) rfl (CompOkM.of ["_law_at"] [8,0] rfl) (p9 T.n_range (v0 (j5 8 T.n_len) s0)) (fun nd _ _ _ _ _=>(i3 (i:=0) nd rfl (by first |exact Or.inl rfl |exact Or.inr rfl))) o5 (fun _ _ _ _ _ _=>(e0p (PW2.pt (l0f (u5 a0l d_isN (x4 1 (e2_v 0)) s0u (d4 _)) (p0x (u5 q0n d_eq (g0 G_law_take (hr.mono (by decide)) x0x (v0 (e2_v 2) (v0 j0 s0))) j0 (d4 _))))))) (fun _ _ _ _ _ _=>(e2_v 0)) nd)
  (i0 (a5 (u5 z0i d_in (v4 w4 b4 (e2_v 3) (e2_v 7)) (x4 1 j0) rfl) (y3 (y4 9 nd (p0y s0))) n4)
  (k0s (t':=holdT) (i0 (y4 10 nd (g0 G_law_after (hr.mono (by decide)) r0 (v0 (x4 1 j0) (v0 (e2_v 6) (v0 (e2_v 9) (v0 (v4 w4 b4 (e2_v 3) (e2_v 7)) s0))))))
  (i0 (a5 (u5 a0l d_isN (e2_v 10) s0u (d4 _)) (y3 (j3 (e2_v 5))) n4)
  (i0 (l9 (f0g 5 PySem.F.slot_list_append PySem.F.type_list_append z0h w0x (v0 (y0b b3 f7 T.n_tuple b5 (v0 (e2_v 9) s0)) s0)))
  (y3 (y4 6 nd (e2_v 10)))))) (by
   rintro E ρ δ ⟨c0,ps,call,sh,c2,first,c4,css,st',k,c7,cho,c10,rfl,h,hst,hl,hq⟩;have e1:(css++[cho]).map tupZ=css.map tupZ++[.tup (cho.map D.int)]:=by rw[List.map_append];rfl
   rw[e1]at hq;unfold u9 at hq ⊢;walk_at "dn";refine ⟨ps,_,st',_,cho,first+k,rfl,.inl rfl,.inr rfl,h.wears,hst,?_⟩;unfold l0x;cases e:y0w ps (behZ ps st' cho (first+k))with
   |some j=>
    rw[e]at hq;exact hq
   |none=>
    rw[e]at hq;unfold tupZ at hq ⊢;walk_at "dn";exact ⟨rfl,by rw[List.length_map];omega,hq _⟩))))))
  (y3 (j3 (e2_v 5)))))),fun ds δ q x h=>?_⟩)
 ·unfold q0v at h;obtain ⟨p,ns,n,ps,call,sh,st,first,rounds,rfl,hD,hn,h,hs,hr,hq⟩:=h;rfl
 ·unfold q0v at h;obtain ⟨p,ns,n,ps,call,sh,st,first,rounds,rfl,hD,hn,h,hs,hr,hq⟩:=h;rw[show l3 ["_law_deck_here","_law_told","_law_stands_here","_law_first","_law_rounds","_law_plan","_law_here","_law_k","_law_alone","_law_chosen","_law_left"] _=[.val _,.val _,.val _,.val _,.val _,.no,.no,.no,.no,.no,.no]from rfl];have hl:=h.l;have hw:=h.wears;unfold u9;walk_at "dn";refine ⟨⟨by omega,by omega⟩,?_⟩;refine i9 (fun i ρ δ1=>∃(css:List (List Int)) (c7 c8 c9 c10:Cell),ρ=[.val (.ref p),.val (u9 ps call sh),.val (tupZ st),.val (.int first),.val (.int rounds),.own (css.map tupZ),.val (tupZ (endZ ps css first st)),c7,c8,c9,c10]∧css.length=i∧(∀c∈css,ChOk (ps.length:Int) c)∧q0w ps sh css first st∧DkAt p ns (n+5*i) δ1) ⟨[],_,_,_,_,rfl,rfl,fun c hc=>(by cases hc),trivial,hD⟩ ?_ ?_
  ·rintro i z ρ δ1 rest hi ⟨css,c7,c8,c9,c10,rfl,rfl,hcs,hho,hD⟩ hrest;obtain ⟨hi2,rfl⟩:=k9 hi;rw[Int.zero_add];have hel:=d0d (css:=css) (r:=first) hs;generalize est:endZ ps css first st=st' at hel
   have fin:∀cho c8 c10 δ' n',n'≤n+5*css.length+5→ChOk (ps.length:Int) cho→¬(cho≠[]∧first+(css.length:Int)∈sh)→DkAt p ns n' δ'→holdT ⟨rest,q,fun C fs _ δ3=>x C fs δ3,fun ρ' δ3=>q (.lst []) δ3,rest⟩ [.val (.ref p),.val (u9 ps call sh),.val (tupZ st),.val (.int first),.val (.int rounds),.own (css.map tupZ),.val (tupZ st'),.val (.int (css.length:Int)),c8,.val (.lst (cho.map D.int)),c10] δ':=fun cho c8 c10 δ' n' hn' h1 h2 h3=>by
    refine ⟨_,ps,call,sh,_,first,_,css,st',_,_,cho,_,rfl,h,hel,by omega,?_⟩;cases e:y0w ps (behZ ps st' cho (first+(css.length:Int)))with
    |some j=>exact hq css _ (by omega) hcs hho (h3.mono (by omega))
    |none=>
     intro c10;obtain ⟨k1,k2⟩:=l0v hho (c:=cho) ⟨h2,by rw[est];exact e⟩;refine hrest _ _ ⟨css++[cho],_,_,_,_,by rw[k2,est],by rw[List.length_append];rfl,fun c hc=>?_,k1,h3.mono (by omega)⟩;rcases List.mem_append.mp hc with hc |hc
     ·exact hcs c hc
     ·rw[List.mem_singleton.mp hc];exact h1
   unfold t0o;simp only[u9,tupZ]at fin ⊢;walk_at "dn";refine n0b (fun d=>match d with | .tup [s,.int t]=>(match s with | .tup [.int f,.int m,.tup w,.int pr]=>l0x [⟨f,m,w.map intD,pr⟩] [t] [] (first+(css.length:Int))|_=>.non)|_=>.non) (by rw[w0u,List.length_map];omega) (fun d hd Q hQ=>?_) ?_
   ·obtain ⟨j,hj⟩:=List.mem_iff_getElem?.mp hd;obtain ⟨a,b,h1,h2,rfl⟩:=w0v hj;rw[List.getElem?_map,Option.map_eq_some_iff]at h1 h2;obtain ⟨pz,hpz,rfl⟩:=h1;obtain ⟨t,ht,rfl⟩:=h2;simp only[z0l,m0d,t0c]at hQ;refine ⟨_,rfl,?_⟩;simp only[capt,y0a,List.map_cons,List.map_nil,List.getElem?_cons_zero,List.getElem?_cons_succ,List.cons_append,List.nil_append];walk_at "dn";exact ⟨[pz],_,[t],_,[],_,rfl,.inr rfl,.inl rfl,wears1 hw (List.mem_of_getElem? hpz),rfl,hQ⟩
   ·generalize hal:(zipD (ps.map z0l) (st'.map D.int)).map _=al;have hall:al.length=ps.length:=by rw[←hal,List.length_map,w0u,List.length_map,List.length_map,hel,Nat.min_self]
    rw[hall];refine ⟨⟨by omega,by omega⟩,?_⟩;refine j0k (fun i δ'=>DkAt p ns (n+5*css.length+i) δ') (by omega) hD (fun i δ' hi hD Q hQ=>?_) (fun c' δ' hc' hD=>?_)
    ·obtain ⟨a,ea⟩:∃a,al[i]?=some a:=⟨al[i],List.getElem?_eq_getElem (by omega)⟩;simp only[capt,y0a,List.map_cons,List.map_nil,List.getElem?_cons_zero,List.getElem?_cons_succ];walk_at "dn";rw[z0j ea];dsimp only;split
     ·exact hQ _ _ _ rfl (hD.mono (by omega))
     ·refine ⟨p,ns,_,5,rfl,hD,by omega,by decide,by decide,fun b0 δ2 b1 b2 hD=>?_⟩;exact hQ _ _ _ rfl hD
    ·simp only[z0e,v0x,m6,Bool.true_and,true_and,decide_eq_true_eq];split
     ·exact fin [] _ _ _ _ (by omega) d0f (fun z=>z.1 rfl) hD
     ·rename_i hns;exact fin c' _ _ _ _ (by omega) hc' (fun z=>hns z.2) hD
  ·rintro ρ δ1 ⟨css,c7,c8,c9,c10,rfl,hcl,hcs,hho,hD⟩;rw[y8]at hcl hD;walk_at "dn";exact hq css _ (by omega) hcs hho (hD.mono (by omega))
theorem a0u{ps:List PartZ}{call:Int}{e:D}(hl:ps.length≤4)(hp:∀p∈ps,0≤p.price∧p.price≤99)(hc:0≤call∧call≤99)(hr:risD e 0 ((ps.length:Int)-1)=true):-(2^40)≤n8 ps call (chD e)∧n8 ps call (chD e)≤2^40:=by
 obtain ⟨xs,e1,e2,e3,e4,e5⟩:=d0p hr;unfold n8;split
 ·decide
 ·have hb:∀ks:List Int,(∀k∈ks,0≤k∧k≤(ps.length:Int)-1)→0≤(ks.map fun k=>(ps.getD k.toNat default).price).sum∧(ks.map fun k=>(ps.getD k.toNat default).price).sum≤99*(ks.length:Int):=by
   intro ks
   induction ks with
   |nil=>intro _;simp
   |cons k ks ih=>
    intro h;have h1:=ih fun z hz=>h z (List.mem_cons_of_mem _ hz)
    have h2:=h k List.mem_cons_self;have hm:ps.getD k.toNat default∈ps:=by
     rw[List.getD_eq_getElem?_getD,List.getElem?_eq_getElem (show k.toNat<ps.length by omega)];exact List.getElem_mem _
    have h3:=hp _ hm;rw[List.map_cons,List.sum_cons,List.length_cons];omega
  have:=hb (chD e) e3;omega
noncomputable def u0t(cs:Cs):Sp2:=fun ds δ q _=>∃ps call shut d xs,ds=[p4 cs ps call shut,d]∧rowD d=some xs∧ps.length≤4∧(∀p∈ps,0≤p.price∧p.price≤99)∧(0≤call∧call≤99)∧xs.length≤24∧(∀e∈xs,l4 e=true∧risD e 0 ((ps.length:Int)-1)=true)∧q (.int (xs.map fun e=>n8 ps call (chD e)).sum) δ
noncomputable abbrev v6:List Str:=["works","plan"]
theorem sc_costs_together:FnScope ["works","plan"] v6 (defScope d7):=⟨rfl,rfl,rfl,by decide +kernel,rfl,by decide +kernel,by decide +kernel⟩
noncomputable abbrev b7(P:Program)(w:World)(K:PySem.W.Frag)(mg:Str→Option Value)(base:Heap)(cs:Cs):Prop:=Fun2 P w K mg base "costs_together" 8 v6 (u0t cs)
theorem u0s{f:Addr}{fd:FuncData}(Df:DefAt K mg "costs_together" d7 v6 f fd)(T:Txt K mg cs)(G_cost_of:w0i P w K mg base cs):b7 P w K mg base cs:=by
 have nd:=sc_costs_together.nd;refine def2 Df sc_costs_together (fun ds δ q x h=>?_) (fun cdv A outer s H E Y hr=>⟨_,(y3 (j3 (e2_b (i0p rfl) d_sum T.n_sum z1w (v0 (n5 rfl (CompOkM.of ["choice"] [0] rfl) (x0w (e2_v 1)) (fun nd _ _ _ _ _=>(i3 (i:=0) nd rfl (by first |exact Or.inl rfl |exact Or.inr rfl))) o5 (fun _ _ _ _ _ _=>x6) (fun _ _ _ _ _ _=>(g0 G_cost_of (hr.mono (by decide)) x0x (v0 (e2_v 1) (v0 (e2_v 0) s0))))) s0)))),fun ds δ q x h=>?_⟩)
 ·unfold u0t at h;obtain ⟨ps,call,shut,d,xs,rfl,er,hl,hp,hc,hn,hx,hq⟩:=h;rfl
 ·unfold u0t at h;obtain ⟨ps,call,shut,d,xs,rfl,er,hl,hp,hc,hn,hx,hq⟩:=h;rw[show l3 ["works","plan"] _=[.val _,.val _]from rfl];have main:∀c:D,r8 (z0m (m0c cs) (w5 (t2V 1) (w5 (t2V 0) x0t))) [0] [.val (p4 cs ps call shut),.val c]
   (fun acc δ2=>match s0o acc with |some ns=>fewD ns∧q (.int ns.sum) δ2 |none=>False) xs [] δ:=by
   intro c;refine z7 (fun i acc δ'=>acc=((xs.take i).map fun e=>n8 ps call (chD e)).map D.int∧δ'=δ) ⟨rfl,rfl⟩ ?_ ?_
   ·rintro i z acc δ' rest hi ⟨rfl,rfl⟩ hrest;have hlt:=(List.getElem?_eq_some_iff.mp hi).1;have hz:=hx z (List.mem_of_getElem? hi);simp only[capt,y0a,List.map_cons,List.map_nil];walk_at "dn";refine ⟨ps,call,shut,z,rfl,hz.1,hl,hp,fun _=>?_,fun z2=>by rw[hz.2]at z2;cases z2⟩;refine ⟨by rw[List.length_map,List.length_map,List.length_take];omega,hrest _ _ ⟨?_,rfl⟩⟩;rw[List.take_succ,hi,List.map_append,List.map_append];rfl
   ·rintro acc δ' ⟨rfl,rfl⟩;rw[List.take_length,t0g];refine ⟨⟨by rw[List.length_map];omega,fun n hn=>?_⟩,hq⟩;obtain ⟨z,hz,rfl⟩:=List.mem_map.mp hn;exact a0u hl hp hc (hx z hz).2
  cases d<;>first |(cases er;done)|skip
  all_goals
   cases er;walk_at "dn";exact main _
noncomputable def i0c(ps:List PartZ)(call:Int)(d:D):Int:=(((rowD d).getD []).map fun e=>n8 ps call (chD e)).sum
theorem p0m{m:Int}:∀{xs:List D} {k:Nat},m8 m k xs=.non→∀e∈xs,risD e 0 (m-1)=true
 | [],_,_,e,he=>by cases he
 |x::xs,k,h,e,he=>by
  unfold m8 at h;cases eb:badE m x with
  |true=>rw[eb,if_pos rfl]at h;cases h
  |false=>
   rw[eb,if_neg Bool.false_ne_true]at h;rcases List.mem_cons.mp he with rfl |he
   ·unfold badE at eb
    rwa[Bool.not_eq_false']at eb
   ·exact p0m h e he
theorem d0c{d:D}{m:Int}(h:o6 d m 24=.non):∃xs,rowD d=some xs∧xs.length≤24∧∀e∈xs,risD e 0 (m-1)=true:=by
 unfold o6 at h;split at h
 ·cases h
 ·rename_i xs e;split at h
  ·cases h
  ·exact ⟨xs,e,by omega,p0m h⟩
noncomputable def o0n(cs:Cs):Sp2:=fun ds δ q x=>∃ps call shut d,ds=[p4 cs ps call shut,d]∧w0g d=true∧ps.length≤4∧(∀p∈ps,0≤p.price∧p.price≤99)∧(0≤call∧call≤99)∧
 (o6 d (ps.length:Int) 24=.non→q (.int (i0c ps call d)) δ)∧(∀k,o6 d (ps.length:Int) 24=.int k→x cs.NoPlan [("at",.int k)] δ)
noncomputable abbrev y0d:List Str:=["works","plan"]
theorem sc_price_of:FnScope ["works","plan"] y0d (defScope v0t):=⟨rfl,rfl,rfl,by decide +kernel,rfl,by decide +kernel,by decide +kernel⟩
noncomputable abbrev u0r(P:Program)(w:World)(K:PySem.W.Frag)(mg:Str→Option Value)(base:Heap)(cs:Cs):Prop:=Fun2 P w K mg base "price_of" 9 y0d (o0n cs)
theorem j0j{f:Addr}{fd:FuncData}(Df:DefAt K mg "price_of" v0t y0d f fd)(T:Txt K mg cs)(G_check_plan:i8 P w K mg base cs)(G_costs_together:b7 P w K mg base cs):u0r P w K mg base cs:=by
 have nd:=sc_price_of.nd;refine def2 Df sc_price_of (fun ds δ q x h=>?_) (fun cdv A outer s H E Y hr=>⟨_,(i0 (l9 (g0 G_check_plan (hr.mono (by decide)) r0 (v0 (e2_v 1) (v0 (e2_b x5 l0d T.n_len u0o (v0 (i5 K (e2_v 0)) s0)) s0))))
  (y3 (j3 (g0 G_costs_together (hr.mono (by decide)) r0 (v0 (e2_v 0) (v0 (e2_v 1) s0)))))),fun ds δ q x h=>?_⟩)
 ·unfold o0n at h;obtain ⟨ps,call,shut,d,rfl,ht,hl,hp,hc,hq,hx⟩:=h;rfl
 ·unfold o0n at h;obtain ⟨ps,call,shut,d,rfl,ht,hl,hp,hc,hq,hx⟩:=h;rw[show l3 ["works","plan"] _=[.val _,.val _]from rfl];walk_at "dn";simp only[p4,List.length_map]
  (walk_at "fl";try simp only[List.length_map])
  simp only[l8];refine ⟨ht,by omega,fun e=>?_,hx⟩;obtain ⟨xs,e1,e2,e3⟩:=d0c e;refine ⟨ps,call,shut,d,xs,rfl,e1,hl,hp,hc,e2,fun z hz=>⟨?_,e3 z hz⟩,?_⟩
  ·unfold w0g at ht;rw[Bool.and_eq_true,e1]at ht;exact List.all_eq_true.mp ht.2 z hz
  ·have:=hq e;unfold i0c at this;rw[e1]at this;exact this
noncomputable def choD(css:List (List Int)):List D:=css.map fun c=>D.tup (c.map D.int)
noncomputable def ChoD(m:Int)(y:D):Prop:=∃c,ChOk m c∧y=.tup (c.map D.int)
noncomputable def q0u:Sp2:=fun ds δ q _=>∃m:Int,ds=[.int m]∧0≤m∧m≤4∧∀ys:List D,(∀y∈ys,ChoD m y)→0<ys.length→ys.length≤16→q (.lst ys) δ
noncomputable abbrev u8:List Str:=["_law_many"]
theorem sc_law_choices:FnScope ["_law_many","_law_found","_law_number"] u8 (defScope b9):=⟨rfl,rfl,rfl,by decide +kernel,rfl,by decide +kernel,by decide +kernel⟩
noncomputable abbrev z0n(P:Program)(w:World)(K:PySem.W.Frag)(mg:Str→Option Value)(base:Heap)(cs:Cs):Prop:=Fun2 P w K mg base "_law_choices" 2 u8 q0u
theorem q0f{f:Addr}{fd:FuncData}(Df:DefAt K mg "_law_choices" b9 u8 f fd)(T:Txt K mg cs):z0n P w K mg base cs:=by
 have nd:=sc_law_choices.nd;refine def2 Df sc_law_choices (fun ds δ q x h=>?_) (fun cdv A outer s H E Y hr=>⟨_,(i0 (y4 1 nd (p0y (v0 (w0z s0) s0)))
  (i0 (w0w PassesOwn.leaving rfl (p9 T.n_range (v0 (e2_v 0) s0)) (i3 (i:=2) nd rfl (by first |exact Or.inl rfl |exact Or.inr rfl)) (e0y (i:=2)) (y3 (y4 1 nd (v4 w4 b4 (e2_v 1) (n5 rfl (CompOkM.of ["_law_chosen"] [2] rfl) (x0w (e2_v 1)) (fun nd _ _ _ _ _=>(i3 (i:=0) nd rfl (by first |exact Or.inl rfl |exact Or.inr rfl))) o5 (fun _ _ _ _ _ _=>x6) (fun _ _ _ _ _ _=>(v4 w4 b4 (e2_v 0) (w0z (v0 (e2_v 1) s0)))))))))
  (y3 (j3 (e2_b (k0t hr.units2) d_sort T.n_sorted n0c (v0 (e2_v 1) s0)))))),fun ds δ q x h=>?_⟩)
 ·unfold q0u at h;obtain ⟨m,rfl,m1,m2,hq⟩:=h;rfl
 ·unfold q0u at h;obtain ⟨m,rfl,m1,m2,hq⟩:=h;rw[show l3 ["_law_many","_law_found","_law_number"] _=[.val _,.no,.no]from rfl];walk_at "dn";refine ⟨⟨by omega,by omega⟩,?_⟩;refine i9 (fun i ρ δ'=>∃(css:List (List Int)) (c2:Cell),ρ=[.val (.int m),.val (.lst (choD css)),c2]∧δ'=δ∧(∀c∈css,ChOk (i:Int) c)∧css.length=2^i∧i≤4∧css[0]?=some []) ⟨[[]],_,rfl,rfl,?_,rfl,by decide,rfl⟩ ?_ ?_
  ·intro c hc;rw[List.mem_singleton.mp hc];exact ⟨fun k hk=>(by cases hk),rfl,Nat.zero_le _⟩
  ·rintro i d ρ δ' rest hi ⟨css,c2,rfl,rfl,hc,hl,hi4,h0⟩ hrest;obtain ⟨hi2,rfl⟩:=k9 hi;unfold t0o;walk_at "dn";have hle:css.length≤8:=by
    rw[hl];have:i≤3:=by omega
    exact Nat.le_trans (Nat.pow_le_pow_right (by decide) this) (by decide)
   refine z7 (fun j acc δ1=>acc=choD ((css.take j).map (·++[(i:Int)]))∧δ1=δ') ⟨rfl,rfl⟩ ?_ ?_
   ·rintro j z acc δ1 rest' hj ⟨rfl,rfl⟩ hrest';have hz:(css.map fun c=>D.tup (c.map D.int))[j]?=some z:=hj;rw[List.getElem?_map,Option.map_eq_some_iff]at hz;obtain ⟨c,hcj,rfl⟩:=hz;have hlt:=(List.getElem?_eq_some_iff.mp hcj).1;have hcl:=(hc c (List.mem_of_getElem? hcj)).2.2;simp only[capt,y0a,List.map_cons,List.map_nil,List.getElem?_cons_zero,List.getElem?_cons_succ];walk_at "dn";refine ⟨by rw[List.length_map];omega,?_⟩;refine ⟨by unfold choD;rw[List.length_map,List.length_map,List.length_take];omega,hrest' _ _ ⟨?_,rfl⟩⟩;rw[List.take_succ,hcj,List.map_append];unfold choD;rw[List.map_append];show _++[D.tup (c.map D.int++[.int (0+(i:Int))])]=_++[D.tup ((c++[(i:Int)]).map D.int)];rw[List.map_append,Int.zero_add];rfl
   ·rintro acc δ1 ⟨rfl,rfl⟩;have el:(choD css).length=css.length:=by unfold choD;rw[List.length_map]
    rw[el,List.take_length];have ea:choD css++choD (css.map (·++[(i:Int)]))=choD (css++css.map (·++[(i:Int)])):=by unfold choD;rw[List.map_append]
    refine ⟨by unfold choD;simp only[List.length_map];omega,?_⟩;rw[ea];refine hrest _ _ ⟨_,_,rfl,rfl,fun c hcm=>?_,by rw[List.length_append,List.length_map,hl,Nat.pow_succ];omega,by omega,by rw[List.getElem?_append_left (List.getElem?_eq_some_iff.mp h0).1];exact h0⟩;rcases List.mem_append.mp hcm with hcm |hcm
    ·obtain ⟨h1,h2,h3⟩:=hc c hcm;exact ⟨fun k hk=>⟨(h1 k hk).1,by have:=(h1 k hk).2;omega⟩,h2,by omega⟩
    ·obtain ⟨c0,hc0,rfl⟩:=List.mem_map.mp hcm;obtain ⟨h1,h2,h3⟩:=hc c0 hc0;refine ⟨fun k hk=>?_,t0b h2 fun k hk=>(h1 k hk).2,by rw[List.length_append];show c0.length+1≤_;omega⟩;rcases List.mem_append.mp hk with hk |hk
     ·exact ⟨(h1 k hk).1,by have:=(h1 k hk).2;omega⟩
     ·rw[List.mem_singleton.mp hk];omega
  ·rintro ρ δ' ⟨css,c2,rfl,rfl,hc,hl,hi4,h0⟩;rw[y8]at hc hl hi4;walk_at "dn";have em:((m.toNat:Nat):Int)=m:=by omega
   rw[em]at hc;have hl16:css.length≤16:=by rw[hl];exact Nat.le_trans (Nat.pow_le_pow_right (by decide) hi4) (by decide)
   have h0l:=(List.getElem?_eq_some_iff.mp h0).1;have el:(choD css).length=css.length:=by unfold choD;rw[List.length_map]
   refine ⟨by omega,fun x hx=>?_,fun x hx=>?_,fun ys py=>hq ys (fun y hy=>?_) (by rw[py.length_eq];omega) (by rw[py.length_eq];omega)⟩
   ·obtain ⟨c,_,rfl⟩:=List.mem_map.mp hx;exact ⟨c,rfl⟩
   ·unfold choD at hx;rw[List.getElem?_map,h0]at hx;cases hx;rfl
   ·obtain ⟨c,hcm,rfl⟩:=List.mem_map.mp (py.mem_iff.mp hy);exact ⟨c,hc c hcm,rfl⟩
theorem z1s:∀{l:List Int},l.Nodup→l.Pairwise (·≤·)→risI l=true
 | [],_,_=>rfl
 | [a],_,_=>rfl
 |a::b::r,h1,h2=>by
  rw[List.pairwise_cons]at h2;rw[List.nodup_cons]at h1;show (decide (a<b)&&risI (b::r))=true;have:=h2.1 b List.mem_cons_self;have ne:a≠b:=fun z=>h1.1 (z▸List.mem_cons_self)
  rw[decide_eq_true (by omega),z1s h1.2 h2.2];rfl
theorem d0b:∀{l:List Int} {a:Int},risI (a::l)=true→(∀x∈l,a<x)∧risI l=true
 | [],a,_=>⟨fun x hx=>(by cases hx),rfl⟩
 |b::r,a,h=>by
  have h':(decide (a<b)&&risI (b::r))=true:=h;rw[Bool.and_eq_true,decide_eq_true_eq]at h';refine ⟨fun x hx=>?_,h'.2⟩;rcases List.mem_cons.mp hx with rfl |hx
  ·exact h'.1
  ·have:=(d0b h'.2).1 x hx;omega
theorem q0t:∀{l:List Int},risI l=true→l.Nodup
 | [],_=>List.nodup_nil
 |a::l,h=>List.nodup_cons.mpr ⟨fun z=>by have:=(d0b h).1 a z;omega,q0t (d0b h).2⟩
noncomputable def uniZ(ks:List Int):List Int:=m0z (dedZ ks)
theorem uni_mem{ks:List Int}{x:Int}:x∈uniZ ks↔x∈ks:=by
 unfold uniZ m0z;rw[List.mem_mergeSort,b0c]
theorem d0a{ks:List Int}{m:Int}(h:∀k∈ks,0≤k∧k<m):ChOk m (uniZ ks):=by
 have hp:(uniZ ks).Perm (dedZ ks):=List.mergeSort_perm _ _;have nd:(uniZ ks).Nodup:=hp.nodup_iff.mpr h0g;have so:(uniZ ks).Pairwise (·≤·):=(List.pairwise_mergeSort (le:=fun (a b:Int)=>decide (a≤b)) (fun a b c h1 h2=>decide_eq_true (Int.le_trans (of_decide_eq_true h1) (of_decide_eq_true h2))) (fun a b=>by rw[Bool.or_eq_true,decide_eq_true_eq,decide_eq_true_eq];exact Int.le_total a b) (dedZ ks)).imp fun h=>of_decide_eq_true h
 refine ⟨fun k hk=>h k (uni_mem.mp hk),z1s nd so,e0e m.toNat _ nd fun x hx=>?_⟩;have:=h x (uni_mem.mp hx);omega
theorem q0s{f:Int→Int}:∀{c l:List Int},c.Nodup→(∀x∈c,x∈l)→(∀x∈l,0≤f x)→(c.map f).sum≤(l.map f).sum
 | [],l,_,hs,h=>by
  clear hs
  induction l with
  |nil=>exact Int.le_refl _
  |cons a l ih=>
   have h1:=h a List.mem_cons_self;have h2:=ih fun x hx=>h x (List.mem_cons_of_mem _ hx)
   rw[List.map_cons,List.sum_cons];show (0:Int)≤_;have:(0:Int)≤(l.map f).sum:=h2;omega
 |a::c,l,nd,hs,h=>by
  rw[List.nodup_cons]at nd;have hp:=List.perm_cons_erase (hs a List.mem_cons_self);have e:(l.map f).sum=f a+((l.erase a).map f).sum:=by
   have:=(hp.map f);have h2:∀{u v:List Int},u.Perm v→u.sum=v.sum:=by
    intro u v huv
    induction huv with
    |nil=>rfl
    |cons x _ ih=>rw[List.sum_cons,List.sum_cons,ih]
    |swap x y l=>rw[List.sum_cons,List.sum_cons,List.sum_cons,List.sum_cons];omega
    |trans _ _ h1 h2=>rw[h1,h2]
   rw[h2 this,List.map_cons,List.sum_cons]
  have ih:=q0s (f:=f) (l:=l.erase a) nd.2 (fun x hx=>(List.mem_erase_of_ne (show x≠a from fun z=>nd.1 (by rw[←z];exact hx))).mpr (hs x (List.mem_cons_of_mem _ hx))) fun x hx=>h x (List.mem_of_mem_erase hx)
  rw[List.map_cons,List.sum_cons,e];omega
theorem a0t{ps:List PartZ}{call:Int}{sh c:List Int}(h:ToldOk ps call sh)(hc:∀k∈c,0≤k∧k<(ps.length:Int)):∀k∈c,0≤(ps.getD k.toNat default).price:=fun k hk=>by
 have h2:=hc k hk;have hm:ps.getD k.toNat default∈ps:=by
  rw[List.getD_eq_getElem?_getD,List.getElem?_eq_getElem (show k.toNat<ps.length by omega)];exact List.getElem_mem _
 exact (h.pr _ hm).1
theorem a0s{ps:List PartZ}{call:Int}{sh c c':List Int}(h:ToldOk ps call sh)(hc:ChOk (ps.length:Int) c)(hc':ChOk (ps.length:Int) c')(hs:∀x∈c,x∈c'):n8 ps call c≤n8 ps call c':=by
 have hn:=q0s (f:=fun k=>(ps.getD k.toNat default).price) (q0t hc.2.1) hs (a0t h hc'.1);have h0:=q0s (f:=fun k=>(ps.getD k.toNat default).price) (c:=[]) List.nodup_nil (fun x hx=>by cases hx) (a0t h hc'.1);have hcl:=h.c.1;unfold n8;by_cases e:c=[]
 ·rw[if_pos e];split
  ·exact Int.le_refl _
  ·have:(0:Int)≤(c'.map fun k=>(ps.getD k.toNat default).price).sum:=h0;omega
 ·rw[if_neg e,if_neg (fun z=>by
   cases c with
   |nil=>exact e rfl
   |cons a c=>have:=hs a List.mem_cons_self;rw[z]at this;cases this)]
  omega
theorem a0r{ps:List PartZ}{call:Int}{sh a b:List Int}(h:ToldOk ps call sh)(ha:ChOk (ps.length:Int) a)(hb:ChOk (ps.length:Int) b):n8 ps call (uniZ (a++b))≤n8 ps call a+n8 ps call b:=by
 have hk:∀k∈a++b,0≤k∧k<(ps.length:Int):=fun k hk=>(List.mem_append.mp hk).elim (ha.1 k) (hb.1 k)
 have hu:=d0a hk;have hn:=q0s (f:=fun k=>(ps.getD k.toNat default).price) (q0t hu.2.1) (fun x hx=>uni_mem.mp hx) (a0t h hk);have h0:∀{c:List Int},ChOk (ps.length:Int) c→(0:Int)≤(c.map fun k=>(ps.getD k.toNat default).price).sum:=fun hc=>q0s (f:=fun k=>(ps.getD k.toNat default).price) (c:=[]) List.nodup_nil (fun x hx=>by cases hx) (a0t h hc.1)
 have ha0:=h0 ha;have hb0:=h0 hb;have hcl:=h.c.1;rw[List.map_append,List.sum_append]at hn;have e0:uniZ (a++b)=[]↔a=[]∧b=[]:=by
  constructor
  ·intro z;constructor
   ·cases a with
    |nil=>rfl
    |cons x a=>have:=uni_mem (ks:=x::a++b) (x:=x);rw[z]at this;exact absurd (this.mpr (by simp)) (by simp)
   ·cases b with
    |nil=>rfl
    |cons x b=>have:=uni_mem (ks:=a++x::b) (x:=x);rw[z]at this;exact absurd (this.mpr (by simp)) (by simp)
  ·rintro ⟨rfl,rfl⟩;exact List.eq_nil_iff_forall_not_mem.mpr fun x hx=>by have:=uni_mem.mp hx;simp at this
 unfold n8;by_cases e1:a=[]
 ·by_cases e2:b=[]
  ·rw[if_pos e1,if_pos e2,if_pos (e0.mpr ⟨e1,e2⟩)];decide
  ·rw[if_pos e1,if_neg e2,if_neg (fun z=>e2 (e0.mp z).2)];subst e1;rw[List.map_nil,List.sum_nil]at hn;omega
 ·by_cases e2:b=[]
  ·rw[if_neg e1,if_pos e2,if_neg (fun z=>e1 (e0.mp z).1)];subst e2;rw[List.map_nil,List.sum_nil]at hn;omega
  ·rw[if_neg e1,if_neg e2,if_neg (fun z=>e1 (e0.mp z).1)];omega
noncomputable def LeL(n:Nat)(a b:List Int):Prop:=∀i<n,a.getD i 0≤b.getD i 0
noncomputable def FullB(ps:List PartZ)(a:List Int):Prop:=∀i<ps.length,a.getD i 0≤(ps.getD i default).full
noncomputable def o0m(ps:List PartZ)(sh:List Int):List (List Int)→List (List Int)→Int→Prop
 | [],[],_=>True
 |c::cs,d::ds,r=>ChOk (ps.length:Int) d∧(∀x∈c,x∈d)∧¬(d≠[]∧r∈sh)∧o0m ps sh cs ds (r+1)
 |_,_,_=>False
theorem x1e{ws:List Int}(h:∀x∈ws,0≤x∧x≤9)(r:Int):0≤j0p ws r:=by
 unfold j0p;rw[List.getD_eq_getElem?_getD];cases e:ws[(r%(ws.length:Int)).toNat]? with
 |none=>exact Int.le_refl _
 |some x=>exact (h x (List.mem_of_getElem? e)).1
theorem l0u{ps:List PartZ}{sh:List Int}(hp:∀p∈ps,POk p):∀{css dss:List (List Int)} {r:Int} {st st':List Int},o0m ps sh css dss r→q0w ps sh css r st→LeL ps.length st st'→FullB ps st'→q0w ps sh dss r st'∧∀(i:Nat) (a b:List Int),(m5 ps css r st)[i]?=some a→(m5 ps dss r st')[i]?=some b→LeL ps.length a b
 | [],[],r,st,st',_,_,_,_=>⟨trivial,fun i a b h=>by simp[m5]at h⟩
 |c::cs,d::ds,r,st,st',hm,hh,hl,hf=>by
  obtain ⟨m1,m2,m3,m4⟩:=hm;obtain ⟨⟨o1,o2⟩,hh⟩:=hh;have hps:∀i<ps.length,POk (ps.getD i default):=fun i hi=>hp _ (by rw[List.getD_eq_getElem?_getD,List.getElem?_eq_getElem hi];exact List.getElem_mem _)
  have hb:∀i<ps.length,behI ps st c r i≤behI ps st' d r i∧behI ps st' d r i≤(ps.getD i default).full:=fun i hi=>by
   have h1:=hl i hi;have h2:=hf i hi;have h3:=x1e (hps i hi).w r;unfold behI;by_cases e:(i:Int)∈c
   ·rw[if_pos e,if_pos (m2 _ e)];omega
   ·rw[if_neg e];split<;>omega
  have hl':LeL ps.length (behZ ps st c r) (behZ ps st' d r):=fun i hi=>by rw[u0w hi,u0w hi];exact (hb i hi).1
  have hf':FullB ps (behZ ps st' d r):=fun i hi=>by rw[u0w hi];exact (hb i hi).2
  have hfall:y0w ps (behZ ps st' d r)=none:=by
   unfold y0w at o2 ⊢;rw[List.find?_eq_none]at o2 ⊢;intro i hi z;have h1:=hl' i (List.mem_range.mp hi);have h2:=of_decide_eq_true z;exact o2 i hi (decide_eq_true (by omega))
  obtain ⟨k1,k2⟩:=l0u hp m4 hh hl' hf';refine ⟨⟨⟨m3,hfall⟩,k1⟩,fun i a b h1 h2=>?_⟩;rw[m5]at h1 h2;cases i with
  |zero=>cases h1;cases h2;exact hl'
  |succ i=>exact k2 i a b h1 h2
 | [],d::ds,r,st,st',h,_,_,_=>h.elim
 |c::cs,[],r,st,st',h,_,_,_=>h.elim
theorem o0l{ps:List PartZ}{sh:List Int}:∀{css dss:List (List Int)} {r:Int},o0m ps sh css dss r→css.length=dss.length
 | [],[],_,_=>rfl
 |c::cs,d::ds,r,h=>by rw[List.length_cons,List.length_cons,o0l h.2.2.2]
 | [],d::ds,r,h=>h.elim
 |c::cs,[],r,h=>h.elim
theorem c0z{ps:List PartZ}{sh:List Int}:∀{css dss:List (List Int)} {r:Int},o0m ps sh css dss r→∀d∈dss,ChOk (ps.length:Int) d
 | [],[],_,_,d,hd=>by cases hd
 |c::cs,e::ds,r,h,d,hd=>by
  rcases List.mem_cons.mp hd with rfl |hd
  ·exact h.1
  ·exact c0z h.2.2.2 d hd
 | [],d::ds,r,h,_,_=>h.elim
 |c::cs,[],r,h,_,_=>h.elim
theorem l0t{ps:List PartZ}{call:Int}{sh:List Int}(ht:ToldOk ps call sh):∀{css dss:List (List Int)} {r:Int},o0m ps sh css dss r→(∀c∈css,ChOk (ps.length:Int) c)→(css.map (n8 ps call)).sum≤(dss.map (n8 ps call)).sum
 | [],[],_,_,_=>Int.le_refl _
 |c::cs,d::ds,r,h,hc=>by
  rw[List.map_cons,List.map_cons,List.sum_cons,List.sum_cons];have h1:=a0s ht (hc c List.mem_cons_self) h.1 h.2.1;have h2:=l0t ht h.2.2.2 fun c hm=>hc c (List.mem_cons_of_mem _ hm)
  omega
 | [],d::ds,r,h,_=>h.elim
 |c::cs,[],r,h,_=>h.elim
theorem l0s{ps:List PartZ}{sh:List Int}{c d:List Int}:∀{css dss:List (List Int)} {r:Int},o0m ps sh css dss r→ChOk (ps.length:Int) d→(∀x∈c,x∈d)→¬(d≠[]∧r+(css.length:Int)∈sh)→o0m ps sh (css++[c]) (dss++[d]) r
 | [],[],r,_,h1,h2,h3=>⟨h1,h2,by simpa using h3,trivial⟩
 |a::cs,b::ds,r,h,h1,h2,h3=>⟨h.1,h.2.1,h.2.2.1,l0s h.2.2.2 h1 h2 (by rw[show r+1+(cs.length:Int)=r+((a::cs).length:Int)by rw[List.length_cons];omega];exact h3)⟩
 | [],d::ds,r,h,_,_,_=>h.elim
 |c::cs,[],r,h,_,_,_=>h.elim
theorem l0r{ps:List PartZ}{sh:List Int}:∀{css:List (List Int)} {r:Int} {st:List Int},q0w ps sh css r st→∀(i:Nat) (c:List Int),css[i]?=some c→r+(i:Int)∈sh→c=[]
 | [],r,st,_,i,c,h,_=>by simp at h
 |d::cs,r,st,ho,0,c,h,hs=>by
  simp only[List.getElem?_cons_zero,Option.some.injEq]at h;subst h;cases d with
  |nil=>rfl
  |cons a d=>exact absurd ⟨fun z=>(by cases z),by simpa using hs⟩ ho.1.1
 |d::cs,r,st,ho,i+1,c,h,hs=>l0r (css:=cs) (r:=r+1) ho.2 i c (by simpa using h) (by rw[show r+1+(i:Int)=r+((i+1:Nat):Int)by omega];exact hs)
theorem q0r{ps:List PartZ}:∀{css:List (List Int)} {r:Int} {st a:List Int},st.length=ps.length→a∈m5 ps css r st→a.length=ps.length
 | [],r,st,a,hl,h=>by simp[m5]at h
 |c::cs,r,st,a,hl,h=>by
  rw[m5]at h;rcases List.mem_cons.mp h with rfl |h
  ·exact w0f
  ·exact q0r (css:=cs) w0f h
noncomputable def c0y(cs:Cs):Sp2:=fun ds δ q _=>∃ps call sh ys i j,ds=[p4 cs ps call sh,.lst ys,.int i,.int j]∧ToldOk ps call sh∧(∀y∈ys,ChoD (ps.length:Int) y)∧(0≤i∧i<(ys.length:Int))∧(0≤j∧j<(ys.length:Int))∧q (.bl true) δ
noncomputable abbrev m7:List Str:=["_law_works_here","_law_menu","_law_one","_law_other"]
theorem sc_law_together:FnScope ["_law_works_here","_law_menu","_law_one","_law_other","_law_both"] m7 (defScope y9):=⟨rfl,rfl,rfl,by decide +kernel,rfl,by decide +kernel,by decide +kernel⟩
noncomputable abbrev s9(P:Program)(w:World)(K:PySem.W.Frag)(mg:Str→Option Value)(base:Heap)(cs:Cs):Prop:=Fun2 P w K mg base "_law_together" 8 m7 (c0y cs)
theorem q0q{f:Addr}{fd:FuncData}(Df:DefAt K mg "_law_together" y9 m7 f fd)(T:Txt K mg cs)(G_cost_of:w0i P w K mg base cs):s9 P w K mg base cs:=by
 have nd:=sc_law_together.nd;refine def2 Df sc_law_together (fun ds δ q x h=>?_) (fun cdv A outer s H E Y hr=>⟨_,(i0 (y4 4 nd (i0i rfl T.n_sorted T.n_dict (n5 rfl (CompOkM.of ["_law_number"] [] rfl) (x0w (v4 w4 b4 (y0b u0p a0a T.n_list l0h (v0 (x4 1 (e2_v 2)) s0)) (y0b u0p a0a T.n_list l0h (v0 (x4 1 (e2_v 3)) s0)))) (fun nd _ _ _ _ _=>(i3 (i:=0) nd rfl (by first |exact Or.inl rfl |exact Or.inr rfl))) o5 (fun _ _ _ _ _ _=>x6) (fun _ _ _ _ _ _=>(w0z (v0 (e2_v 0) (v0 j0 s0)))))))
  (y3 (j3 (s0t h0z d_le (g0 G_cost_of (hr.mono (by decide)) r0 (v0 (e2_v 0) (v0 (e2_v 4) s0))) (v4 w4 b4 (g0 G_cost_of (hr.mono (by decide)) r0 (v0 (e2_v 0) (v0 (x4 1 (e2_v 2)) s0))) (g0 G_cost_of (hr.mono (by decide)) r0 (v0 (e2_v 0) (v0 (x4 1 (e2_v 3)) s0)))) (d4 _))))),fun ds δ q x h=>?_⟩)
 ·unfold c0y at h;obtain ⟨ps,call,sh,ys,i,j,rfl,h,hy,hi,hj,hq⟩:=h;rfl
 ·unfold c0y at h;obtain ⟨ps,call,sh,ys,i,j,rfl,h,hy,hi,hj,hq⟩:=h;rw[show l3 ["_law_works_here","_law_menu","_law_one","_law_other","_law_both"] _=[.val _,.val _,.val _,.val _,.no]from rfl];obtain ⟨z1,e1,hz1⟩:=atL hi.1 hi.2;obtain ⟨z2,e2,hz2⟩:=atL hj.1 hj.2;obtain ⟨a,ha,rfl⟩:=hy z1 hz1;obtain ⟨b,hb,rfl⟩:=hy z2 hz2;have hl:=h.l;walk_at "ds";rw[e1];walk_at "ds";rw[e2];walk_at "ds";have hab:∀k∈a++b,0≤k∧k<(ps.length:Int):=fun k hk=>(List.mem_append.mp hk).elim (ha.1 k) (hb.1 k)
  have hu:=d0a hab;have cost:∀(d:D) (c:List Int),ChOk (ps.length:Int) c→RowZ d c→∀(Q:D→Dk→Prop) (X:Addr→List (Str×D)→Dk→Prop),Q (.int (n8 ps call c)) δ→m0c cs [p4 cs ps call sh,d] δ Q X:=fun d c hc hd Q X hQ=>by
   obtain ⟨r1,r2,r3⟩:=i0d hc (by omega) hd;exact ⟨ps,call,sh,d,rfl,r1,hl,h.pr,fun _=>by rw[r3];exact hQ,fun z=>by rw[r2]at z;cases z⟩
  have hal:=ha.2.2;have hbl:=hb.2.2;refine ⟨by rw[List.length_map,List.length_map];omega,?_⟩;rw[←List.map_append];refine p0r D.int (fun k=>.tup [.int k,.int 1]) (a++b) (by rw[List.length_append];omega) (fun k hk Q hQ=>?_) ?_
  ·walk_at "ds";exact hQ
  rw[y0r (fun k=>k) (fun _=>.int 1)];dsimp only;rw[List.map_map,show ((fun x:Int×D=>x.1)∘fun k:Int=>(k,D.int 1))=id from rfl,List.map_id,List.length_map,List.length_append];refine ⟨by omega,cost _ _ hu (.inr rfl) _ _ ?_⟩;walk_at "ds";rw[e1];walk_at "ds";refine cost _ _ ha (.inl rfl) _ _ ?_;walk_at "ds";rw[e2];walk_at "ds";refine cost _ _ hb (.inl rfl) _ _ ?_;walk_at "ds";have:=a0r h ha hb;rw[decide_eq_true this];exact hq
theorem o0k{m:Int}{d:D}{xs:List D}{css:List (List Int)}(m0:0≤m)(er:rowD d=some xs)(hn:xs.length≤24)(hp:d0j xs css)(hc:∀c∈css,ChOk m c):w0g d=true∧o6 d m 24=.non∧((rowD d).getD []).map chD=css:=by
 have hpd:p5 d=true:=by cases d<;>first |rfl |cases er
 have key:∀x∈xs,l4 x=true∧risD x 0 (m-1)=true:=fun x hx=>by
  obtain ⟨i,hi⟩:=List.mem_iff_getElem?.mp hx;obtain ⟨c,h1,h2⟩:=hp.2 i x hi;have:=i0d (hc c (List.mem_of_getElem? h1)) m0 h2;exact ⟨this.1,this.2.1⟩
 have none:∀{xs:List D} {k:Nat},(∀e∈xs,risD e 0 (m-1)=true)→m8 m k xs=.non:=by
  intro xs
  induction xs with
  |nil=>intro k h;rfl
  |cons x xs ih=>
   intro k h;unfold m8 badE;rw[h x List.mem_cons_self,if_neg (by decide)];exact ih fun e he=>h e (List.mem_cons_of_mem _ he)
 refine ⟨?_,?_,?_⟩
 ·unfold w0g;rw[er,hpd,Bool.true_and];dsimp only;rw[List.all_eq_true];exact fun y hy=>(key y hy).1
 ·unfold o6;rw[er];dsimp only;rw[if_neg (by omega)];exact none fun e he=>(key e he).2
 ·rw[er,Option.getD_some];apply List.ext_getElem?;intro i;rw[List.getElem?_map];cases e1:xs[i]? with
  |none=>
   rw[List.getElem?_eq_none_iff]at e1;rw[List.getElem?_eq_none (by have:=hp.1;omega)];rfl
  |some x=>
   obtain ⟨c,h1,h2⟩:=hp.2 i x e1;rw[h1];show some (chD x)=some c;rw[(i0d (hc c (List.mem_of_getElem? h1)) m0 h2).2.2]
theorem a0q{ps:List PartZ}{sh st:List Int}{sd d:D}{xs:List D}{css:List (List Int)}{first:Int}(hs:StOk ps st)(hsd:RowZ sd st)(er:rowD d=some xs)(hn:xs.length≤24)(hp:d0j xs css)(hc:∀c∈css,ChOk (ps.length:Int) c)(hf:0≤first∧first≤47):
 wOut ps sh sd d (.int first)=.out (goZ ps sh css first st [st]):=by
 obtain ⟨s1,s2,s3⟩:=hs.std hsd;obtain ⟨p1,p2,p3⟩:=o0k (by omega) er hn hp hc;unfold wOut;rw[s1,if_neg (by decide),p0b hf.1 hf.2,if_neg (by decide),p2,s3,p3];rfl
theorem x1d{css:List (List Int)}:d0j (css.map tupZ) css:=⟨List.length_map _,fun i x hx=>by
 rw[List.getElem?_map,Option.map_eq_some_iff]at hx;obtain ⟨c,hc,rfl⟩:=hx;exact ⟨c,hc,.inl rfl⟩⟩
noncomputable def lwT1(cs:Cs):TS2:=fun E ρ δ=>∃c0 p ns n ps call sh st first rounds,ρ=[c0,.val (.ref p),.val (u9 ps call sh),.val (p4 cs ps call sh),.val (tupZ st),.val (.int first),.val (.int rounds),.no,.no,.no,.no,.no,.no,.no,.no,.no,.no]∧DkAt p ns n δ∧n≤300∧ToldOk ps call sh∧StOk ps st∧(0≤first∧first≤47)∧(0≤rounds∧rounds≤24)∧∀ δ',E.rt (.bl true) δ'
noncomputable def lwT2(cs:Cs):TS2:=fun E ρ δ=>∃c0 p ns n ps call sh st first c6 css ys dss c10 c11 c12,ρ=[c0,.val (.ref p),.val (u9 ps call sh),.val (p4 cs ps call sh),.val (tupZ st),.val (.int first),c6,.val (.lst (css.map tupZ)),.val (.lst ys),.own (dss.map tupZ),c10,c11,c12,.no,.no,.no,.no]∧DkAt p ns n δ∧n≤700∧ToldOk ps call sh∧StOk ps st∧(0≤first∧first≤47)∧css.length≤24∧(∀c∈css,ChOk (ps.length:Int) c)∧q0w ps sh css first st∧o0m ps sh css dss first∧(∀y∈ys,ChoD (ps.length:Int) y)∧0<ys.length∧ys.length≤16∧∀ δ',E.rt (.bl true) δ'
noncomputable abbrev c0x:List Str:=["_law_script"]
theorem sc_law:FnScope ["_law_script","_law_deck_here","_law_told","_law_works_here","_law_stands_here","_law_first","_law_rounds","_law_plan","_law_menu","_law_more","_law_k","_law_chosen","_law_added","_law_low","_law_high","_law_one","_law_other"] c0x (defScope x1j):=⟨rfl,rfl,rfl,by decide +kernel,rfl,by decide +kernel,by decide +kernel⟩
theorem ok_law{f:Addr}{fd:FuncData}(Df:DefAt K mg "law" x1j c0x f fd)(T:Txt K mg cs)(G_law_deck:v0i P w K mg base cs)(G_law_works:x0d P w K mg base cs)(G_law_made:u0u P w K mg base cs)(G_law_stands:y0u P w K mg base cs)(G_law_take:b6 P w K mg base cs)(G_law_holding:z0o P w K mg base cs)(G_law_choices:z0n P w K mg base cs)(G_walk:d0h P w K mg base cs)(G_price_of:u0r P w K mg base cs)(G_law_together:s9 P w K mg base cs):FnOk P w K mg base (CX1 P w) 12 f fd c0x (upF K h0n):=by
 have nd:=sc_law.nd;refine def2F Df sc_law (fun ds δ q x h=>?_) (fun cdv A outer s H E Y hr=>⟨_,(i0 (y4 1 nd (g0 G_law_deck (hr.mono (by decide)) r0 (v0 (e2_v 0) s0)))
  (i0 (y4 2 nd (g0 G_law_works (hr.mono (by decide)) r0 (v0 (e2_v 1) (v0 j0 (v0 j0 s0)))))
  (i0 (y4 3 nd (g0 G_law_made (hr.mono (by decide)) r0 (v0 (e2_v 2) s0)))
  (i0 (y4 4 nd (g0 G_law_stands (hr.mono (by decide)) r0 (v0 (e2_v 1) (v0 (x4 2 j0) s0))))
  (i0 (y4 5 nd (f0s q0a d_ix (p0y (v0 j0 (v0 j0 (v0 (g0 G_law_take (hr.mono (by decide)) r0 (v0 (e2_v 1) (v0 j0 s0))) s0)))) (g0 G_law_take (hr.mono (by decide)) r0 (v0 (e2_v 1) (v0 j0 s0)))))
  (i0 (y4 6 nd (g0 G_law_take (hr.mono (by decide)) r0 (v0 (e2_v 1) (v0 j0 s0))))
  (i0 (a5 (u5 q0n d_eq (g0 G_law_take (hr.mono (by decide)) r0 (v0 (e2_v 1) (v0 j0 s0))) j0 (d4 _)) (y3 (y4 6 nd (v4 w4 b4 j0 (g0 G_law_take (hr.mono (by decide)) r0 (v0 (e2_v 1) (v0 j0 s0)))))) n4)
  (k0s (t':=(lwT1 cs)) (i0 (y4 7 nd (g0 G_law_holding (hr.mono (by decide)) r0 (v0 (e2_v 1) (v0 (e2_v 2) (v0 (e2_v 4) (v0 (e2_v 5) (v0 (e2_v 6) s0)))))))
  (i0 (y4 8 nd (g0 G_law_choices (hr.mono (by decide)) r0 (v0 (e2_b x5 l0d T.n_len u0o (v0 (x4 2 j0) s0)) s0)))
  (i0 (n0n 9 nd s0)
  (i0 (w0w PassesOwn.leaving rfl (v0z T.n_enumerate (v0 (e2_v 7) s0)) (x0z rfl (o4 (i3 (i:=10) nd rfl (by first |exact Or.inl rfl |exact Or.inr rfl)) (o4 (i3 (i:=11) nd rfl (by first |exact Or.inl rfl |exact Or.inr rfl)) e8))) (s0r (is:=[10,11]) rfl) (i0 (y4 12 nd (x4 8 (g0 G_law_take (hr.mono (by decide)) r0 (v0 (e2_v 1) (v0 (j5 8 T.n_len) s0)))))
  (i0 (a5 (u5 z0i d_in (v4 w4 b4 (e2_v 5) (e2_v 10)) (x4 2 j0) rfl) (y3 (y4 12 nd (w0z s0))) n4)
  (y3 (l9 (f0g 9 PySem.F.slot_list_append PySem.F.type_list_append z0h w0x (v0 (y0b b3 f7 T.n_tuple b5 (v0 (i0i rfl T.n_sorted T.n_dict (n5 rfl (CompOkM.of ["_law_number"] [] rfl) (x0w (v4 w4 b4 (e2_v 11) (e2_v 12))) (fun nd _ _ _ _ _=>(i3 (i:=0) nd rfl (by first |exact Or.inl rfl |exact Or.inr rfl))) o5 (fun _ _ _ _ _ _=>x6) (fun _ _ _ _ _ _=>(w0z (v0 (e2_v 0) (v0 j0 s0)))))) s0)) s0)))))))
  (k0s (t':=(lwT2 cs)) (i0 (y4 13 nd (g0 G_walk (hr.mono (by decide)) r0 (v0 (e2_v 3) (v0 (e2_v 4) (v0 (e2_v 7) (v0 (e2_v 5) s0))))))
  (i0 (y4 14 nd (g0 G_walk (hr.mono (by decide)) r0 (v0 (e2_v 3) (v0 (e2_v 4) (v0 (e2_v 9) (v0 (e2_v 5) s0))))))
  (i0 (w0w PassesOwn.leaving rfl (i0n T.n_zip (v0 (e2_v 13) (v0 (e2_v 14) s0))) (x0z rfl (o4 (i3 (i:=15) nd rfl (by first |exact Or.inl rfl |exact Or.inr rfl)) (o4 (i3 (i:=16) nd rfl (by first |exact Or.inl rfl |exact Or.inr rfl)) e8))) (s0r (is:=[15,16]) rfl) (y3 (a5 (j6 (l6 (e2_b (x0a rfl) f0k T.n_all n0t (v0 (n5 rfl (CompOkM.of ["_law_less","_law_greater"] [] rfl) (i0n T.n_zip (v0 (e2_v 15) (v0 (e2_v 16) s0))) (fun nd _ _ _ _ _=>(x0z rfl (o4 (i3 (i:=0) nd rfl (by first |exact Or.inl rfl |exact Or.inr rfl)) (o4 (i3 (i:=1) nd rfl (by first |exact Or.inl rfl |exact Or.inr rfl)) e8)))) (k0x (is:=[0,1]) rfl) (fun _ _ _ _ _ _=>x6) (fun _ _ _ _ _ _=>(s0t h0z d_le (e2_v 0) (e2_v 1) (d4 _)))) s0)))) (y3 (j3 h0r)) n4)))
  (i0 (a5 (PW2.pt (l0f (u5 z1h d_ne (j5 13 T.n_len) (v4 w4 b4 (j5 7 T.n_len) j0) (d4 _)) (l0f (u5 z1h d_ne (j5 14 T.n_len) (j5 13 T.n_len) (d4 _)) (p0x (u5 g0n d_gt (g0 G_price_of (hr.mono (by decide)) r0 (v0 (e2_v 3) (v0 (e2_v 7) s0))) (g0 G_price_of (hr.mono (by decide)) r0 (v0 (e2_v 3) (v0 (e2_v 9) s0))) (d4 _)))))) (y3 (j3 h0r)) n4)
  (y3 (j3 (g0 G_law_together (hr.mono (by decide)) r0 (v0 (e2_v 3) (v0 (e2_v 8) (v0 (g0 G_law_take (hr.mono (by decide)) r0 (v0 (e2_v 1) (v0 (j5 8 T.n_len) s0))) (v0 (g0 G_law_take (hr.mono (by decide)) r0 (v0 (e2_v 1) (v0 (j5 8 T.n_len) s0))) s0))))))))))) (by
   rintro E ρ δ ⟨c0,p,ns,n,ps,call,sh,st,first,c6,css,ys,dss,c10,c11,c12,rfl,hD,hn,h,hs,hf,hcl,hc,hh,hm,hy,hy0,hy1,hq⟩;have hd:=c0z hm;have hml:=o0l hm;obtain ⟨hh2,hle⟩:=l0u h.p hm hh (st':=st) (fun i hi=>Int.le_refl _) (fun i hi=>(hs.b i hi).2);have walks:∀(ess:List (List Int)),ess.length≤24→(∀c∈ess,ChOk (ps.length:Int) c)→q0w ps sh ess first st→∀(Q:D→Dk→Prop) (X:Addr→List (Str×D)→Dk→Prop),Q (.tup ((st::m5 ps ess first st).map tupZ)) δ→i0f cs [p4 cs ps call sh,tupZ st,.lst (ess.map tupZ),.int first] δ Q X:=fun ess hl hc hh Q X hQ=>by
    obtain ⟨s1,s2,s3⟩:=hs.std (d:=tupZ st) (.inl rfl);obtain ⟨p1,p2,p3⟩:=o0k (d:=.lst (ess.map tupZ)) (by omega) rfl (by rw[List.length_map];exact hl) (x1d (css:=ess)) hc;refine ⟨ps,call,sh,_,_,_,rfl,s2,p1,rfl,h.wears,?_⟩;rw[a0q (sd:=tupZ st) (d:=.lst (ess.map tupZ)) (xs:=ess.map tupZ) hs (.inl rfl) rfl (by rw[List.length_map];exact hl) (x1d (css:=ess)) hc hf,d0e hh];exact hQ
   walk_at "ds";refine walks css hcl hc hh _ _ ?_;rw[b0d];walk_at "ds";refine walks dss (by omega) hd hh2 _ _ ?_;rw[b0d];walk_at "ds";have price:∀(ess:List (List Int)),ess.length≤24→(∀c∈ess,ChOk (ps.length:Int) c)→∀(δ:Dk) (Q:D→Dk→Prop) (X:Addr→List (Str×D)→Dk→Prop),Q (.int (ess.map (n8 ps call)).sum) δ→o0n cs [p4 cs ps call sh,.lst (ess.map tupZ)] δ Q X:=fun ess hl hc δ Q X hQ=>by
    obtain ⟨p1,p2,p3⟩:=o0k (d:=.lst (ess.map tupZ)) (by omega) rfl (by rw[List.length_map];exact hl) (x1d (css:=ess)) hc;refine ⟨ps,call,sh,_,rfl,p1,h.l,h.pr,h.c,fun _=>?_,fun k z=>by rw[p2]at z;cases z⟩;have e:i0c ps call (.lst (ess.map tupZ))=(ess.map (n8 ps call)).sum:=by
     unfold i0c;rw[show (fun e:D=>n8 ps call (chD e))=(n8 ps call)∘chD from rfl,← List.map_map,p3]
    rw[e];exact hQ
   have rows:∀(i:Nat) (u v:D),(tupZ st::(m5 ps css first st).map tupZ)[i]?=some u→(tupZ st::(m5 ps dss first st).map tupZ)[i]?=some v→∃a b,u=tupZ a∧v=tupZ b∧a.length=ps.length∧b.length=ps.length∧LeL ps.length a b:=by
    intro i u v h1 h2;cases i with
    |zero=>cases h1;cases h2;exact ⟨st,st,rfl,rfl,hs.l,hs.l,fun i hi=>Int.le_refl _⟩
    |succ i=>
     rw[List.getElem?_cons_succ,List.getElem?_map,Option.map_eq_some_iff]at h1 h2;obtain ⟨a,e1,rfl⟩:=h1;obtain ⟨b,e2,rfl⟩:=h2;exact ⟨a,b,rfl,rfl,q0r hs.l (List.mem_of_getElem? e1),q0r hs.l (List.mem_of_getElem? e2),hle i a b e1 e2⟩
   refine i9 (fun i ρ δ1=>∃c15 c16,ρ=[c0,.val (.ref p),.val (u9 ps call sh),.val (p4 cs ps call sh),.val (tupZ st),.val (.int first),c6,.val (.lst (css.map tupZ)),.val (.lst ys),.val (.lst (dss.map tupZ)),c10,c11,c12,.val (.tup (tupZ st::(m5 ps css first st).map tupZ)),.val (.tup (tupZ st::(m5 ps dss first st).map tupZ)),c15,c16]∧DkAt p ns n δ1) ⟨_,_,rfl,hD⟩ ?_ ?_
   ·rintro i z ρ δ1 rest hi ⟨c15,c16,rfl,hD⟩ hrest;obtain ⟨u,v,h1,h2,rfl⟩:=w0v hi;obtain ⟨a,b,rfl,rfl,ha,hb,hab⟩:=rows i u v h1 h2;unfold t0o;simp only[tupZ]at hrest ⊢;walk_at "ds";refine n0b (fun _=>.bl true) (by rw[w0u,List.length_map,List.length_map];have:=h.l;omega) (fun d hd Q hQ=>?_) ?_
    ·obtain ⟨j,hj⟩:=List.mem_iff_getElem?.mp hd;obtain ⟨u,v,h1,h2,rfl⟩:=w0v hj;rw[List.getElem?_map,Option.map_eq_some_iff]at h1 h2;obtain ⟨x1,e1,rfl⟩:=h1;obtain ⟨y1,e2,rfl⟩:=h2;refine ⟨_,rfl,?_⟩;simp only[capt,List.map_cons,List.map_nil,List.cons_append,List.nil_append];walk_at "ds";have h3:=hab j (by have:=(List.getElem?_eq_some_iff.mp e1).1;omega);rw[List.getD_eq_getElem?_getD,List.getD_eq_getElem?_getD,e1,e2]at h3;rw[decide_eq_true (show x1≤y1 from h3)];exact hQ
    ·generalize zipD (a.map D.int) (b.map D.int)=zs;rw[v0k (fun _:D=>true) zs];have e2:(zs.map fun _=>true).all id=true:=by rw[List.all_eq_true];intro b hb;obtain ⟨_,_,rfl⟩:=List.mem_map.mp hb;rfl
     dsimp only;rw[e2];exact hrest _ _ ⟨_,_,rfl,hD⟩
   ·rintro ρ δ1 ⟨c15,c16,rfl,hD⟩;walk_at "ds";have g1:((((m5 ps css first st).map tupZ).length+1:Nat):Int)=((css.map tupZ).length:Int)+1:=by rw[List.length_map,List.length_map,w0d];rfl
    have g2:((((m5 ps dss first st).map tupZ).length+1:Nat):Int)=((((m5 ps css first st).map tupZ).length+1:Nat):Int):=by rw[List.length_map,List.length_map,w0d,w0d,hml]
    rw[if_neg (by rw[decide_eq_true g1];decide),if_neg (by rw[decide_eq_true g2];decide)];refine price css hcl hc _ _ _ ?_;walk_at "ds";refine price dss (by omega) hd _ _ _ ?_;walk_at "ds";have hco:=l0t h hm hc;rw[if_neg (by omega)];walk_at "ds";refine ⟨p,ns,_,_,rfl,hD,by omega,by omega,by omega,fun a0 δ2 a1 a2 hD=>?_⟩;walk_at "ds";refine ⟨p,ns,_,_,rfl,hD,by omega,by omega,by omega,fun b0 δ3 b1 b2 hD=>?_⟩;walk_at "ds";exact ⟨ps,call,sh,ys,_,_,rfl,h,hy,⟨a1,a2⟩,⟨b1,b2⟩,hq _⟩)))))) (by
   rintro E ρ δ ⟨c0,p,ns,n,ps,call,sh,st,first,rounds,rfl,hD,hn,h,hs,hf,hr,hq⟩;unfold u9;walk_at "ds";have hl:=h.l;refine ⟨p,ns,_,ps,call,sh,st,first,rounds,rfl,hD,by omega,h,hs.l,hr,fun css δ1 hcl hc hh hD=>?_⟩;walk_at "ds";rw[List.length_map];refine ⟨_,rfl,by omega,by omega,fun ys hy hy0 hy1=>?_⟩;walk_at "ds";refine forL_E tupZ css (fun i ρ δ1=>∃dss c10 c11 c12,ρ=[c0,.val (.ref p),.val (u9 ps call sh),.val (p4 cs ps call sh),.val (tupZ st),.val (.int first),.val (.int rounds),.val (.lst (css.map tupZ)),.val (.lst ys),.own (dss.map tupZ),c10,c11,c12,.no,.no,.no,.no]∧o0m ps sh (css.take i) dss first∧DkAt p ns (n+200+i) δ1) ⟨[],_,_,_,rfl,trivial,hD⟩ ?_ ?_
   ·rintro i c ρ δ1 rest hi ⟨dss,c10,c11,c12,rfl,hm,hD⟩ hrest;have hlt:=(List.getElem?_eq_some_iff.mp hi).1;unfold t0o u9;walk_at "ds";refine ⟨p,ns,_,_,rfl,hD,by omega,by omega,by omega,fun a0 δ2 a1 a2 hD=>?_⟩;obtain ⟨z,ez,hz⟩:=atL a1 a2;obtain ⟨b,hb,rfl⟩:=hy z hz;have hci:=hc c (List.mem_of_getElem? hi);have hdl:dss.length=i:=by have:=o0l hm;rw[List.length_take]at this;omega
    have key:∀(b:List Int) (ρ':En) (Q:List D→Dk→Prop),ChOk (ps.length:Int) b→Q ((c++b).map fun k=>D.tup [.int k,.int 1]) δ2→r8 (f0t (w5 (t2V 0) (w5 (t2C (D.int 1)) x0t))) [] ρ' Q (c.map D.int++b.map D.int) [] δ2:=fun b ρ' Q hb hQ=>by
     rw[←List.map_append];have h1:=hci.2.2;have h2:=hb.2.2;refine p0r D.int (fun k=>.tup [.int k,.int 1]) (c++b) (by rw[List.length_append];omega) (fun k hk Q hQ=>?_) hQ;walk_at "ds";exact hQ
    have fin:∀(b:List Int) (c12:Cell),ChOk (ps.length:Int) b→(first+(i:Int)∈sh→b=[])→rest [c0,.val (.ref p),.val (u9 ps call sh),.val (p4 cs ps call sh),.val (tupZ st),.val (.int first),.val (.int rounds),.val (.lst (css.map tupZ)),.val (.lst ys),.own (dss.map tupZ++[D.tup ((m0z (dedZ (((c++b).map fun k=>(k,D.int 1)).map fun x=>x.1))).map D.int)]),.val (.int (i:Int)),.val (tupZ c),c12,.no,.no,.no,.no] δ2:=by
     intro b c12 hb hsb;have hr2:=hrest _ δ2 ⟨dss++[uniZ (c++b)],.val (.int (i:Int)),.val (tupZ c),c12,rfl,?_,hD⟩
     ·rw[List.map_map,show ((fun x:Int×D=>x.1)∘fun k:Int=>(k,D.int 1))=id from rfl,List.map_id];rw[List.map_append]at hr2;exact hr2
     ·rw[List.take_succ,hi];refine l0s hm (d0a fun k hk=>(List.mem_append.mp hk).elim (hci.1 k) (hb.1 k)) (fun x hx=>uni_mem.mpr (List.mem_append_left _ hx)) ?_;rintro ⟨z1,z2⟩;rw[List.length_take,Nat.min_eq_left (by omega)]at z2;have e1:=l0r hh i c hi z2;have e2:=hsb z2;subst e1 e2;exact z1 (List.eq_nil_iff_forall_not_mem.mpr fun x hx=>by have:=uni_mem.mp hx;simp at this)
    have hl1:=hci.2.2;have hl2:=hb.2.2;simp only[u9,tupZ]at fin ⊢;walk_at "ds";rw[ez];walk_at "ds";simp only[z0e,v0x,m6,Bool.true_and,true_and,decide_eq_true_eq,List.length_map];split
    ·rename_i hs1;refine ⟨rfl,by omega,key [] _ _ d0f ?_⟩;rw[y0r (fun k=>k) (fun _=>.int 1)];exact ⟨by rw[List.length_map,List.append_nil];omega,by omega,fin [] _ d0f fun _=>rfl⟩
    ·rename_i hs1;refine ⟨rfl,by omega,key b _ _ hb ?_⟩;rw[y0r (fun k=>k) (fun _=>.int 1)];exact ⟨by rw[List.length_map,List.length_append];omega,by omega,fin b _ hb fun z=>absurd z hs1⟩
   ·rintro ρ δ1 ⟨dss,c10,c11,c12,rfl,hm,hD⟩;rw[List.take_length]at hm;exact ⟨_,p,ns,_,ps,call,sh,st,first,_,css,ys,dss,_,_,_,rfl,hD,by omega,h,hs,hf,by omega,hc,hh,hm,hy,hy0,hy1,hq⟩))))))))),fun ds δ q x h=>?_⟩)
 ·unfold h0n at h;obtain ⟨ns,rfl,hl,rfl,hq⟩:=h;rfl
 ·unfold h0n at h;obtain ⟨ns,rfl,hl,rfl,hq⟩:=h;rw[show l3 ["_law_script","_law_deck_here","_law_told","_law_works_here","_law_stands_here","_law_first","_law_rounds","_law_plan","_law_menu","_law_more","_law_k","_law_chosen","_law_added","_law_low","_law_high","_law_one","_law_other"] _=[.val _,.no,.no,.no,.no,.no,.no,.no,.no,.no,.no,.no,.no,.no,.no,.no,.no]from rfl];walk_at "ds";refine ⟨ns,rfl,rfl,fun p δ0 hD=>?_⟩;walk_at "ds";refine ⟨p,ns,_,rfl,hD,by decide,fun ps call sh δ1 h hD=>?_⟩;unfold u9;walk_at "ds";refine ⟨ps,call,sh,rfl,h,?_⟩;rw[b0d];walk_at "ds";refine ⟨p,ns,_,ps,rfl,hD,by decide,h.l,h.p,fun st δ2 hs hD=>?_⟩;rw[b0d];walk_at "ds";refine ⟨p,ns,_,48,rfl,hD,by decide,by decide,by decide,fun a0 δ3 a1 a2 hD=>?_⟩;walk_at "ds";refine ⟨p,ns,_,3,rfl,hD,by decide,by decide,by decide,fun b0 δ4 b1 b2 hD=>?_⟩;obtain ⟨z,ez,hz⟩:=atL (xs:=[.int 0,.int 47,.int a0]) b1 (by simpa using b2);have hz2:∃first:Int,z=.int first∧0≤first∧first≤47:=by
   simp only[List.mem_cons,List.not_mem_nil,or_false]at hz;rcases hz with rfl |rfl |rfl
   ·exact ⟨0,rfl,by decide,by decide⟩
   ·exact ⟨47,rfl,by decide,by decide⟩
   ·exact ⟨a0,rfl,a1,by omega⟩
  obtain ⟨first,rfl,f1,f2⟩:=hz2;walk_at "ds";rw[ez];walk_at "ds";refine ⟨p,ns,_,11,rfl,hD,by decide,by decide,by decide,fun c0 δ5 c1 c2 hD=>?_⟩;walk_at "ds";refine ⟨p,ns,_,4,rfl,hD,by decide,by decide,by decide,fun d0 δ6 d1 d2 hD=>?_⟩;walk_at "ds";split
  ·refine ⟨p,ns,_,12,rfl,hD,by decide,by decide,by decide,fun e0 δ7 e1 e2 hD=>?_⟩;walk_at "ds";exact ⟨_,p,ns,_,ps,call,sh,st,first,_,rfl,hD,by decide,h,hs,⟨f1,f2⟩,⟨by omega,by omega⟩,hq⟩
  ·walk_at "ds";exact ⟨_,p,ns,_,ps,call,sh,st,first,_,rfl,hD,by decide,h,hs,⟨f1,f2⟩,⟨by omega,by omega⟩,hq⟩
theorem q0e:FnScope ["self","at"] ["self","at"] (defScope z0z):=⟨rfl,rfl,rfl,by decide +kernel,rfl,by decide +kernel,by decide +kernel⟩
theorem q0d{f C:Addr}{fd:FuncData}(F:Fun K "__init__" "NoPart.__init__" z0z f fd)(xc:XC K C)(n0:NoAttr K C "at"):FnOk P w K mg base CX0 1 f fd ["self","at"] (spXI C "at"):=by
 refine F.ok q0e (fun vs H Q E h=>?_) (fun cdv A outer s H vs Q E hr h=>⟨_,w0c (g0a (pv 0) (pv 1) rfl),?_⟩)
 ·obtain ⟨x,v,rfl,_⟩:=h;rfl
 ·obtain ⟨x,v,rfl,hx,q⟩:=h;exact ⟨_,rfl,_,rfl,x,C,rfl,hx,xc,n0,fun d hd hne=>q d hd hne⟩
theorem q0p:FnScope ["self","at"] ["self","at"] (defScope x9):=⟨rfl,rfl,rfl,by decide +kernel,rfl,by decide +kernel,by decide +kernel⟩
theorem q0o{f C:Addr}{fd:FuncData}(F:Fun K "__init__" "NoWorks.__init__" x9 f fd)(xc:XC K C)(n0:NoAttr K C "at"):FnOk P w K mg base CX0 1 f fd ["self","at"] (spXI C "at"):=by
 refine F.ok q0p (fun vs H Q E h=>?_) (fun cdv A outer s H vs Q E hr h=>⟨_,w0c (g0a (pv 0) (pv 1) rfl),?_⟩)
 ·obtain ⟨x,v,rfl,_⟩:=h;rfl
 ·obtain ⟨x,v,rfl,hx,q⟩:=h;exact ⟨_,rfl,_,rfl,x,C,rfl,hx,xc,n0,fun d hd hne=>q d hd hne⟩
theorem q0c:FnScope ["self","at"] ["self","at"] (defScope z0y):=⟨rfl,rfl,rfl,by decide +kernel,rfl,by decide +kernel,by decide +kernel⟩
theorem q0b{f C:Addr}{fd:FuncData}(F:Fun K "__init__" "NoPlan.__init__" z0y f fd)(xc:XC K C)(n0:NoAttr K C "at"):FnOk P w K mg base CX0 1 f fd ["self","at"] (spXI C "at"):=by
 refine F.ok q0c (fun vs H Q E h=>?_) (fun cdv A outer s H vs Q E hr h=>⟨_,w0c (g0a (pv 0) (pv 1) rfl),?_⟩)
 ·obtain ⟨x,v,rfl,_⟩:=h;rfl
 ·obtain ⟨x,v,rfl,hx,q⟩:=h;exact ⟨_,rfl,_,rfl,x,C,rfl,hx,xc,n0,fun d hd hne=>q d hd hne⟩
theorem l0q:FnScope ["self","round_number"] ["self","round_number"] (defScope x0k):=⟨rfl,rfl,rfl,by decide +kernel,rfl,by decide +kernel,by decide +kernel⟩
theorem l0p{f C:Addr}{fd:FuncData}(F:Fun K "__init__" "Shut.__init__" x0k f fd)(xc:XC K C)(n0:NoAttr K C "round_number"):FnOk P w K mg base CX0 1 f fd ["self","round_number"] (spXI C "round_number"):=by
 refine F.ok l0q (fun vs H Q E h=>?_) (fun cdv A outer s H vs Q E hr h=>⟨_,w0c (g0a (pv 0) (pv 1) rfl),?_⟩)
 ·obtain ⟨x,v,rfl,_⟩:=h;rfl
 ·obtain ⟨x,v,rfl,hx,q⟩:=h;exact ⟨_,rfl,_,rfl,x,C,rfl,hx,xc,n0,fun d hd hne=>q d hd hne⟩
theorem o0j:FnScope ["self","round_number","part_number"] ["self","round_number","part_number"] (defScope z0a):=⟨rfl,rfl,rfl,by decide +kernel,rfl,by decide +kernel,by decide +kernel⟩
theorem o0i{f C:Addr}{fd:FuncData}(F:Fun K "__init__" "Falls.__init__" z0a f fd)(xc:XC K C)(n0:NoAttr K C "round_number")(n1:NoAttr K C "part_number"):FnOk P w K mg base CX0 1 f fd ["self","round_number","part_number"] (c0g C "round_number" "part_number"):=by
 refine F.ok o0j (fun vs H Q E h=>?_) (fun cdv A outer s H vs Q E hr h=>⟨_,j0g (g0a (pv 0) (pv 1) rfl) (w0c (ps_x1 (pv 0) (pv 2) rfl)),?_⟩)
 ·obtain ⟨x,v,u,rfl,_⟩:=h;rfl
 ·obtain ⟨x,v,u,rfl,hx,q⟩:=h;refine ⟨_,rfl,_,rfl,x,C,rfl,hx,xc,n0,fun d hd hne=>?_⟩;exact ⟨_,rfl,_,rfl,x,C,d,_,rfl,x3,by rw[o0 hne,x3],hne,by show 1<1000;decide,xc,n1,q d hd hne⟩
@[elab_as_elim] theorem el0{α:Type}{motive:List α→Prop}(us:List α)(hl:us.length=0)(h:motive []):motive us:=match us,hl with
 | [],_=>h
@[elab_as_elim] theorem el1{α:Type}{motive:List α→Prop}(us:List α)(hl:us.length=1)(h:∀a,motive [a]):motive us:=match us,hl with
 | [a],_=>h a
@[elab_as_elim] theorem el2{α:Type}{motive:List α→Prop}(us:List α)(hl:us.length=2)(h:∀a b,motive [a,b]):motive us:=match us,hl with
 | [a,b],_=>h a b
@[elab_as_elim] theorem el3{α:Type}{motive:List α→Prop}(us:List α)(hl:us.length=3)(h:∀a b c,motive [a,b,c]):motive us:=match us,hl with
 | [a,b,c],_=>h a b c
@[elab_as_elim] theorem el4{α:Type}{motive:List α→Prop}(us:List α)(hl:us.length=4)(h:∀a b c d,motive [a,b,c,d]):motive us:=match us,hl with
 | [a,b,c,d],_=>h a b c d
@[elab_as_elim] theorem el5{α:Type}{motive:List α→Prop}(us:List α)(hl:us.length=5)(h:∀a b c d e,motive [a,b,c,d,e]):motive us:=match us,hl with
 | [a,b,c,d,e],_=>h a b c d e
@[elab_as_elim] theorem el6{α:Type}{motive:List α→Prop}(us:List α)(hl:us.length=6)(h:∀a b c d e f,motive [a,b,c,d,e,f]):motive us:=match us,hl with
 | [a,b,c,d,e,f],_=>h a b c d e f
@[elab_as_elim] theorem el7{α:Type}{motive:List α→Prop}(us:List α)(hl:us.length=7)(h:∀a b c d e f g,motive [a,b,c,d,e,f,g]):motive us:=match us,hl with
 | [a,b,c,d,e,f,g],_=>h a b c d e f g
@[elab_as_elim] theorem el8{α:Type}{motive:List α→Prop}(us:List α)(hl:us.length=8)(h:∀a b c d e f g i,motive [a,b,c,d,e,f,g,i]):motive us:=match us,hl with
 | [a,b,c,d,e,f,g,i],_=>h a b c d e f g i
theorem all_mk{l:PySem.W.OpenLaw}{w:World}{K:PySem.W.Frag}{h:Heap}{mg:Str→Option Value}{fa:Addr}{cs:Cs}(X:K.In h)(G:h.Ns mainGlobals mg)(hfa:mg "law"=some (.ref fa))(T:Txt K mg cs)(h_is_number:HD.FnF K "is_number" x0p)(h_is_whole:HD.FnF K "is_whole" v0w)(h_is_row:HD.FnF K "is_row" p0f)(h_is_whole_row:HD.FnF K "is_whole_row" b8)(h_is_rising_row:HD.FnF K "is_rising_row" q8)(h_loss:HD.FnF K "loss" d0y)(h_is_stand:HD.FnF K "is_stand" v0v)(h_check_first:HD.FnF K "check_first" f9)(h_is_parts:HD.FnF K "is_parts" v0u)(h_is_shut:HD.FnF K "is_shut" s0k)(h_is_choice_among:HD.FnF K "is_choice_among" f6)(h_is_choice:HD.FnF K "is_choice" x0o)(h_cost_of:HD.FnF K "cost_of" s0j)(h_wrong_entry:HD.FnF K "wrong_entry" d9)(h_check_plan:HD.FnF K "check_plan" z0d)(h_price_of:HD.FnF K "price_of" v0t)(h_costs_together:HD.FnF K "costs_together" d7)(h_is_stands:HD.FnF K "is_stands" x0n)(h_check_stands:HD.FnF K "check_stands" a8)(h_is_shut_to:HD.FnF K "is_shut_to" z0c)(h_stands_behind:HD.FnF K "stands_behind" o8)(h_first_fallen:HD.FnF K "first_fallen" z9)(h_do_round:HD.FnF K "do_round" v0s)(h_path_of:HD.FnF K "path_of" s0i)(h_walk:HD.FnF K "walk" d0x)(h_law_cell:HD.FnF K "_law_cell" v0r)(h_law_draw:HD.FnF K "_law_draw" v0q)(h_law_deck:HD.FnF K "_law_deck" v0p)(h_law_take:HD.FnF K "_law_take" v0o)(h_law_spec:HD.FnF K "_law_spec" v0n)(h_law_part:HD.FnF K "_law_part" v0m)(h_law_after:HD.FnF K "_law_after" x0m)(h_law_works:HD.FnF K "_law_works" x0l)(h_law_made:HD.FnF K "_law_made" v0l)(h_law_stands:HD.FnF K "_law_stands" z0b)(h_law_choices:HD.FnF K "_law_choices" b9)(h_law_holding:HD.FnF K "_law_holding" a9)(h_law_together:HD.FnF K "_law_together" y9)(h_law:HD.FnF K "law" x1j)(x_NoPart:HD.XMkF K cs.NoPart "NoPart.__init__" z0z)(x_NoWorks:HD.XMkF K cs.NoWorks "NoWorks.__init__" x9)(x_NoPlan:HD.XMkF K cs.NoPlan "NoPlan.__init__" z0y)(x_Shut:HD.XMkF K cs.Shut "Shut.__init__" x0k)(x_Falls:HD.XMkF K cs.Falls "Falls.__init__" z0a)(o_Part:HD.MkF K cs.Part "Part.__init__" x0j)(o_Works:HD.MkF K cs.Works "Works.__init__" y0z):
 ∃fd:FuncData,(∀(s:Shared) (v:Value),BindsTo s fd ⟨[v],[]⟩ [("_law_script",v)])∧∀base:Heap,K.In base→base.Ns mainGlobals mg→FnOk l.prog w K mg base (CX1 l.prog w) 12 fa fd c0x (upF K h0n):=by
 obtain ⟨f_is_number,d_is_number,D_is_number⟩:=h_is_number.at X G (ps:=z0x) fun _ _ _ _ _ _ us hl=>el1 us hl (fun _=>rfl)
 obtain ⟨f_is_whole,d_is_whole,D_is_whole⟩:=h_is_whole.at X G (ps:=y0q) fun _ _ _ _ _ _ us hl=>el3 us hl (fun _ _ _=>rfl)
 obtain ⟨f_is_row,d_is_row,D_is_row⟩:=h_is_row.at X G (ps:=t0d) fun _ _ _ _ _ _ us hl=>el1 us hl (fun _=>rfl)
 obtain ⟨f_is_whole_row,d_is_whole_row,D_is_whole_row⟩:=h_is_whole_row.at X G (ps:=y7) fun _ _ _ _ _ _ us hl=>el5 us hl (fun _ _ _ _ _=>rfl)
 obtain ⟨f_is_rising_row,d_is_rising_row,D_is_rising_row⟩:=h_is_rising_row.at X G (ps:=r6) fun _ _ _ _ _ _ us hl=>el3 us hl (fun _ _ _=>rfl)
 obtain ⟨f_loss,d_loss,D_loss⟩:=h_loss.at X G (ps:=i0g) fun _ _ _ _ _ _ us hl=>el2 us hl (fun _ _=>rfl)
 obtain ⟨f_is_stand,d_is_stand,D_is_stand⟩:=h_is_stand.at X G (ps:=y0g) fun _ _ _ _ _ _ us hl=>el2 us hl (fun _ _=>rfl)
 obtain ⟨f_check_first,d_check_first,D_check_first⟩:=h_check_first.at X G (ps:=x8) fun _ _ _ _ _ _ us hl=>el1 us hl (fun _=>rfl)
 obtain ⟨f_is_parts,d_is_parts,D_is_parts⟩:=h_is_parts.at X G (ps:=y0h) fun _ _ _ _ _ _ us hl=>el1 us hl (fun _=>rfl)
 obtain ⟨f_is_shut,d_is_shut,D_is_shut⟩:=h_is_shut.at X G (ps:=w0l) fun _ _ _ _ _ _ us hl=>el1 us hl (fun _=>rfl)
 obtain ⟨f_is_choice_among,d_is_choice_among,D_is_choice_among⟩:=h_is_choice_among.at X G (ps:=z6) fun _ _ _ _ _ _ us hl=>el2 us hl (fun _ _=>rfl)
 obtain ⟨f_is_choice,d_is_choice,D_is_choice⟩:=h_is_choice.at X G (ps:=z0w) fun _ _ _ _ _ _ us hl=>el2 us hl (fun _ _=>rfl)
 obtain ⟨f_cost_of,d_cost_of,D_cost_of⟩:=h_cost_of.at X G (ps:=w0j) fun _ _ _ _ _ _ us hl=>el2 us hl (fun _ _=>rfl)
 obtain ⟨f_wrong_entry,d_wrong_entry,D_wrong_entry⟩:=h_wrong_entry.at X G (ps:=w8) fun _ _ _ _ _ _ us hl=>el3 us hl (fun _ _ _=>rfl)
 obtain ⟨f_check_plan,d_check_plan,D_check_plan⟩:=h_check_plan.at X G (ps:=j8) fun _ _ _ _ _ _ us hl=>el2 us hl (fun _ _=>rfl)
 obtain ⟨f_price_of,d_price_of,D_price_of⟩:=h_price_of.at X G (ps:=y0d) fun _ _ _ _ _ _ us hl=>el2 us hl (fun _ _=>rfl)
 obtain ⟨f_costs_together,d_costs_together,D_costs_together⟩:=h_costs_together.at X G (ps:=v6) fun _ _ _ _ _ _ us hl=>el2 us hl (fun _ _=>rfl)
 obtain ⟨f_is_stands,d_is_stands,D_is_stands⟩:=h_is_stands.at X G (ps:=z0r) fun _ _ _ _ _ _ us hl=>el2 us hl (fun _ _=>rfl)
 obtain ⟨f_check_stands,d_check_stands,D_check_stands⟩:=h_check_stands.at X G (ps:=u7) fun _ _ _ _ _ _ us hl=>el2 us hl (fun _ _=>rfl)
 obtain ⟨f_is_shut_to,d_is_shut_to,D_is_shut_to⟩:=h_is_shut_to.at X G (ps:=h8) fun _ _ _ _ _ _ us hl=>el3 us hl (fun _ _ _=>rfl)
 obtain ⟨f_stands_behind,d_stands_behind,D_stands_behind⟩:=h_stands_behind.at X G (ps:=n6) fun _ _ _ _ _ _ us hl=>el4 us hl (fun _ _ _ _=>rfl)
 obtain ⟨f_first_fallen,d_first_fallen,D_first_fallen⟩:=h_first_fallen.at X G (ps:=o7) fun _ _ _ _ _ _ us hl=>el2 us hl (fun _ _=>rfl)
 obtain ⟨f_do_round,d_do_round,D_do_round⟩:=h_do_round.at X G (ps:=y0f) fun _ _ _ _ _ _ us hl=>el4 us hl (fun _ _ _ _=>rfl)
 obtain ⟨f_path_of,d_path_of,D_path_of⟩:=h_path_of.at X G (ps:=w0e) fun _ _ _ _ _ _ us hl=>el4 us hl (fun _ _ _ _=>rfl)
 obtain ⟨f_walk,d_walk,D_walk⟩:=h_walk.at X G (ps:=i0e) fun _ _ _ _ _ _ us hl=>el4 us hl (fun _ _ _ _=>rfl)
 obtain ⟨f_law_cell,d_law_cell,D_law_cell⟩:=h_law_cell.at X G (ps:=y0p) fun _ _ _ _ _ _ us hl=>el2 us hl (fun _ _=>rfl)
 obtain ⟨f_law_draw,d_law_draw,D_law_draw⟩:=h_law_draw.at X G (ps:=y0n) fun _ _ _ _ _ _ us hl=>el3 us hl (fun _ _ _=>rfl)
 obtain ⟨f_law_deck,d_law_deck,D_law_deck⟩:=h_law_deck.at X G (ps:=y0m) fun _ _ _ _ _ _ us hl=>el1 us hl (fun _=>rfl)
 obtain ⟨f_law_take,d_law_take,D_law_take⟩:=h_law_take.at X G (ps:=y0l) fun _ _ _ _ _ _ us hl=>el2 us hl (fun _ _=>rfl)
 obtain ⟨f_law_spec,d_law_spec,D_law_spec⟩:=h_law_spec.at X G (ps:=y0j) fun _ _ _ _ _ _ us hl=>el2 us hl (fun _ _=>rfl)
 obtain ⟨f_law_part,d_law_part,D_law_part⟩:=h_law_part.at X G (ps:=y0i) fun _ _ _ _ _ _ us hl=>el1 us hl (fun _=>rfl)
 obtain ⟨f_law_after,d_law_after,D_law_after⟩:=h_law_after.at X G (ps:=z0p) fun _ _ _ _ _ _ us hl=>el4 us hl (fun _ _ _ _=>rfl)
 obtain ⟨f_law_works,d_law_works,D_law_works⟩:=h_law_works.at X G (ps:=z0q) fun _ _ _ _ _ _ us hl=>el3 us hl (fun _ _ _=>rfl)
 obtain ⟨f_law_made,d_law_made,D_law_made⟩:=h_law_made.at X G (ps:=y0e) fun _ _ _ _ _ _ us hl=>el1 us hl (fun _=>rfl)
 obtain ⟨f_law_stands,d_law_stands,D_law_stands⟩:=h_law_stands.at X G (ps:=f8) fun _ _ _ _ _ _ us hl=>el2 us hl (fun _ _=>rfl)
 obtain ⟨f_law_choices,d_law_choices,D_law_choices⟩:=h_law_choices.at X G (ps:=u8) fun _ _ _ _ _ _ us hl=>el1 us hl (fun _=>rfl)
 obtain ⟨f_law_holding,d_law_holding,D_law_holding⟩:=h_law_holding.at X G (ps:=v8) fun _ _ _ _ _ _ us hl=>el5 us hl (fun _ _ _ _ _=>rfl)
 obtain ⟨f_law_together,d_law_together,D_law_together⟩:=h_law_together.at X G (ps:=m7) fun _ _ _ _ _ _ us hl=>el4 us hl (fun _ _ _ _=>rfl)
 obtain ⟨f_law,d_law,D_law⟩:=h_law.at X G (ps:=c0x) fun _ _ _ _ _ _ us hl=>el1 us hl (fun _=>rfl)
 obtain ⟨fi_NoPart,fd_NoPart,m_NoPart,F_NoPart⟩:=x_NoPart;have M_NoPart:∀base,MkE l.prog w K mg base "NoPart" cs.NoPart 1 ["self","at"] (spXI cs.NoPart "at"):=fun base=>⟨⟨fi_NoPart,_,m_NoPart,q0d F_NoPart (T.err _ (List.mem_of_getElem? (show cs.ds[0]?=some cs.NoPart from rfl))).xc T.a_NoPart_at,F_NoPart.binds (ps:=["self","at"]) fun _ _ _ _ _ _ us hl=>el2 us hl (fun _ _=>rfl)⟩,T.c_NoPart⟩
 obtain ⟨fi_NoWorks,fd_NoWorks,m_NoWorks,F_NoWorks⟩:=x_NoWorks;have M_NoWorks:∀base,MkE l.prog w K mg base "NoWorks" cs.NoWorks 1 ["self","at"] (spXI cs.NoWorks "at"):=fun base=>⟨⟨fi_NoWorks,_,m_NoWorks,q0o F_NoWorks (T.err _ (List.mem_of_getElem? (show cs.ds[1]?=some cs.NoWorks from rfl))).xc T.a_NoWorks_at,F_NoWorks.binds (ps:=["self","at"]) fun _ _ _ _ _ _ us hl=>el2 us hl (fun _ _=>rfl)⟩,T.c_NoWorks⟩
 obtain ⟨fi_NoPlan,fd_NoPlan,m_NoPlan,F_NoPlan⟩:=x_NoPlan;have M_NoPlan:∀base,MkE l.prog w K mg base "NoPlan" cs.NoPlan 1 ["self","at"] (spXI cs.NoPlan "at"):=fun base=>⟨⟨fi_NoPlan,_,m_NoPlan,q0b F_NoPlan (T.err _ (List.mem_of_getElem? (show cs.ds[4]?=some cs.NoPlan from rfl))).xc T.a_NoPlan_at,F_NoPlan.binds (ps:=["self","at"]) fun _ _ _ _ _ _ us hl=>el2 us hl (fun _ _=>rfl)⟩,T.c_NoPlan⟩
 obtain ⟨fi_Shut,fd_Shut,m_Shut,F_Shut⟩:=x_Shut;have M_Shut:∀base,MkE l.prog w K mg base "Shut" cs.Shut 1 ["self","round_number"] (spXI cs.Shut "round_number"):=fun base=>⟨⟨fi_Shut,_,m_Shut,l0p F_Shut (T.err _ (List.mem_of_getElem? (show cs.ds[5]?=some cs.Shut from rfl))).xc T.a_Shut_round_number,F_Shut.binds (ps:=["self","round_number"]) fun _ _ _ _ _ _ us hl=>el2 us hl (fun _ _=>rfl)⟩,T.c_Shut⟩
 obtain ⟨fi_Falls,fd_Falls,m_Falls,F_Falls⟩:=x_Falls;have M_Falls:∀base,MkE l.prog w K mg base "Falls" cs.Falls 1 ["self","round_number","part_number"] (c0g cs.Falls "round_number" "part_number"):=fun base=>⟨⟨fi_Falls,_,m_Falls,o0i F_Falls (T.err _ (List.mem_of_getElem? (show cs.ds[6]?=some cs.Falls from rfl))).xc T.a_Falls_round_number T.a_Falls_part_number,F_Falls.binds (ps:=["self","round_number","part_number"]) fun _ _ _ _ _ _ us hl=>el3 us hl (fun _ _ _=>rfl)⟩,T.c_Falls⟩
 obtain ⟨fi_Part,fd_Part,m_Part,F_Part⟩:=o_Part;obtain ⟨fi_Works,fd_Works,m_Works,F_Works⟩:=o_Works;have G_law_cell:∀base,y0o l.prog w K mg base cs:=fun base=>j0x D_law_cell T
 have G_law_deck:∀base,v0i l.prog w K mg base cs:=fun base=>j0v D_law_deck T (G_law_cell base)
 have G_law_draw:∀base,v0j l.prog w K mg base cs:=fun base=>j0w D_law_draw T (G_law_cell base)
 have G_law_take:∀base,b6 l.prog w K mg base cs:=fun base=>j0u D_law_take T (G_law_draw base)
 have G_law_spec:∀base,v0g l.prog w K mg base cs:=fun base=>j0t D_law_spec T (G_law_take base)
 have G_law_works:∀base,x0d l.prog w K mg base cs:=fun base=>l0y D_law_works T (G_law_take base) (G_law_spec base)
 have G_is_number:∀base,x0i l.prog w K mg base cs:=fun base=>m0f D_is_number T
 have G_is_whole:∀base,d6 l.prog w K mg base cs:=fun base=>j0y D_is_whole T (G_is_number base)
 have G_is_row:∀base,y0k l.prog w K mg base cs:=fun base=>d0s D_is_row T
 have G_is_whole_row:∀base,v7 l.prog w K mg base cs:=fun base=>r0e D_is_whole_row T (G_is_row base) (G_is_whole base)
 have M_Part:∀base,Make2 l.prog w K mg base "Part" 4 (p0n cs):=fun base=>m0e F_Part m_Part (F_Part.binds (ps:=["self","full","mark","wear","price"]) fun _ _ _ _ _ _ us hl=>el5 us hl (fun _ _ _ _ _=>rfl)) T (G_is_whole base) (G_is_whole_row base) (M_NoPart base)
 have G_law_part:∀base,v0e l.prog w K mg base cs:=fun base=>j0r D_law_part T (M_Part base)
 have G_is_parts:∀base,v0c l.prog w K mg base cs:=fun base=>j0q D_is_parts T (G_is_row base)
 have G_is_rising_row:∀base,p6 l.prog w K mg base cs:=fun base=>t0l D_is_rising_row T (G_is_whole_row base)
 have G_is_shut:∀base,r0c l.prog w K mg base cs:=fun base=>h0e D_is_shut T (G_is_rising_row base)
 have M_Works:∀base,Make2 l.prog w K mg base "Works" 6 (v0b cs):=fun base=>o0z F_Works m_Works (F_Works.binds (ps:=["self","parts","call","shut"]) fun _ _ _ _ _ _ us hl=>el4 us hl (fun _ _ _ _=>rfl)) T (G_is_parts base) (G_is_whole base) (G_is_shut base) (M_NoWorks base)
 have G_law_made:∀base,u0u l.prog w K mg base cs:=fun base=>j0m D_law_made T (G_law_part base) (M_Works base)
 have G_law_stands:∀base,y0u l.prog w K mg base cs:=fun base=>o0o D_law_stands T (G_law_take base)
 have G_law_after:∀base,x0c l.prog w K mg base cs:=fun base=>l0w D_law_after T
 have G_law_holding:∀base,z0o l.prog w K mg base cs:=fun base=>q0g D_law_holding T (G_law_take base) (G_law_after base)
 have G_law_choices:∀base,z0n l.prog w K mg base cs:=fun base=>q0f D_law_choices T
 have G_is_stand:∀base,u0z l.prog w K mg base cs:=fun base=>j0o D_is_stand T (G_is_whole base)
 have G_is_stands:∀base,x0e l.prog w K mg base cs:=fun base=>l0z D_is_stands T (G_is_row base) (G_is_stand base)
 have G_check_stands:∀base,w9 l.prog w K mg base cs:=fun base=>r0a D_check_stands T (G_is_stands base)
 have G_check_first:∀base,z0v l.prog w K mg base cs:=fun base=>q0i D_check_first T (G_is_whole base)
 have G_is_choice_among:∀base,y6 l.prog w K mg base cs:=fun base=>w0k D_is_choice_among T (G_is_rising_row base)
 have G_wrong_entry:∀base,z0u l.prog w K mg base cs:=fun base=>q0h D_wrong_entry T (G_is_row base) (G_is_choice_among base)
 have G_check_plan:∀base,i8 l.prog w K mg base cs:=fun base=>o0x D_check_plan T (G_wrong_entry base) (M_NoPlan base)
 have G_is_shut_to:∀base,y0v l.prog w K mg base cs:=fun base=>o0r D_is_shut_to T
 have G_loss:∀base,d0m l.prog w K mg base cs:=fun base=>x1i D_loss T
 have G_stands_behind:∀base,k8 l.prog w K mg base cs:=fun base=>t0k D_stands_behind T (G_loss base)
 have G_first_fallen:∀base,v9 l.prog w K mg base cs:=fun base=>q0z D_first_fallen T
 have G_do_round:∀base,u0v l.prog w K mg base cs:=fun base=>j0n D_do_round T (G_is_shut_to base) (G_stands_behind base) (G_first_fallen base) (M_Shut base) (M_Falls base)
 have G_path_of:∀base,q0y l.prog w K mg base cs:=fun base=>h0c D_path_of T (G_do_round base)
 have G_walk:∀base,d0h l.prog w K mg base cs:=fun base=>x1h D_walk T (G_check_stands base) (G_check_first base) (G_check_plan base) (G_path_of base)
 have G_is_choice:∀base,x0g l.prog w K mg base cs:=fun base=>m0b D_is_choice T (G_is_choice_among base)
 have G_cost_of:∀base,w0i l.prog w K mg base cs:=fun base=>h0d D_cost_of T (G_is_choice base) (M_NoPlan base)
 have G_costs_together:∀base,b7 l.prog w K mg base cs:=fun base=>u0s D_costs_together T (G_cost_of base)
 have G_price_of:∀base,u0r l.prog w K mg base cs:=fun base=>j0j D_price_of T (G_check_plan base) (G_costs_together base)
 have G_law_together:∀base,s9 l.prog w K mg base cs:=fun base=>q0q D_law_together T (G_cost_of base)
 obtain ⟨_,_,_,_,_,_,_,_,_,rfl,_,_⟩:=D_law.F.ex;have e:=hfa.symm.trans D_law.m;cases e;exact ⟨_,fun s v=>.of_eq rfl,fun base _ _=>ok_law D_law T (G_law_deck base) (G_law_works base) (G_law_made base) (G_law_stands base) (G_law_take base) (G_law_holding base) (G_law_choices base) (G_walk base) (G_price_of base) (G_law_together base)⟩
end
end K08
namespace HD08
open PySem PySem.W PyProof.Rows PySem.Calls HD
open K08 (top)
noncomputable abbrev PW:Program:=PySem.Challenge.pw_wearplan_k08_whole_several_at_once
noncomputable def env:Env:=⟨PW.main.scope,mainNs,mainNs,[],Str.empty,none,(r 13),some 14,0⟩
noncomputable def cE:Code:=.body (behindTheImports PW) env
noncomputable abbrev fp:Pos:=⟨0,0,0,0⟩
noncomputable abbrev BB:List Frame:=[topFrame fp]
noncomputable def life:Life:={}
noncomputable def drawn:Drawn:={}
noncomputable def o11_0(P:Params):Obj:=tp []
noncomputable def o12_0(P:Params):Obj:=fl N []
noncomputable def o13_0(P:Params):Obj:=fl (ty "code") [(s "<module>" 182),(s "<module>" 183),(s "/claim/cut.py" 184),(i 1 0),(i 0 0),(i 0 0),(i 0 0),(i 0 0),(r 11),(b false),(i 181 0),(r 12),N,N,N,N,(i 185 0),(i 1 0),(s "/claim/cut.py" 186)]
noncomputable def o14_0(P:Params):Obj:={cls:=(ty "frame"),slots:=⟨[some (r 13),some (r 3),some (r 3),none,some (s "__main__" 164),none,some (r 0)]⟩}
noncomputable def t0(P:Params):BT:=(.node (boot_o_0 P) (.node (boot_o_1 P) (.node (boot_o_3 P) (.node (boot_o_7 P) .nil .nil) (.node (o11_0 P) .nil .nil)) (.node (boot_o_5 P) (.node (boot_o_9 P) .nil .nil) (.node (o13_0 P) .nil .nil))) (.node (boot_o_2 P) (.node (boot_o_4 P) (.node (boot_o_8 P) .nil .nil) (.node (o12_0 P) .nil .nil)) (.node (boot_o_6 P) (.node (boot_o_10 P) .nil .nil) (.node (o14_0 P) .nil .nil))))
theorem pre(w:World)(os:OsState):topGo treeTable PW w 11 (some (r 6)) 12 ⟨boot_heap w.params,⟨[]⟩,boot_drawn,boot_toks,os⟩ (topStub PW)=some ((SharedT.abs ⟨t0 w.params,15,life,⟨[]⟩,drawn,187,os⟩),⟨denote treeTable cE,cE,⟨0,0,0,0⟩,BB⟩):=turnGo (by rw[PySem.W.Fast.te11892475500146522536,PySem.W.Fast.te14364793385576792824];kernel_rfl)
theorem blk(w:World)(os:OsState):segRun treeTable PW w 11 (some (r 6)) 1 1 (SharedT.abs ⟨t0 w.params,15,life,⟨[]⟩,drawn,187,os⟩) (blockOf (behindTheImports PW) env cE ⟨0,0,0,0⟩ BB)=some (.next,(SharedT.abs ⟨t0 w.params,15,life,⟨[]⟩,drawn,187,os⟩),cE,⟨0,0,0,0⟩):=d0z (by kernel_rfl)
noncomputable def sts1:List Stmt:=[top 0,top 1]
noncomputable def e3_0(P:Params):List DictEntry:=[en P "__name__" 165 (s "wearplan.errors" 187),en P "__doc__" 166 N,en P "__package__" 167 N,en P "__loader__" 168 (bi "__main__.__loader__#opaque"),en P "__spec__" 169 N,en P "__annotations__" 170 (r 6),en P "__builtins__" 171 (r 4),en P "__file__" 173 (s "/claim/cut.py" 172),en P "__cached__" 174 N,en P "WearError" 206 (r 24)]
noncomputable def o3_0(P:Params):Obj:=di (e3_0 P) 10
noncomputable def e12_1(P:Params):List Value:=[(i 2 0),(i 0 0),(r 20)]
noncomputable def o12_1(P:Params):Obj:=fl N (e12_1 P)
noncomputable def g1(P:Params):List Obj:=[tp [(ty "ValueError")],fl (ty "builtin_function_or_method") [(bi "type.__prepare__"),(ty "type")],di [en P "__module__" 196 (s "wearplan.errors" 187),en P "__qualname__" 198 (s "WearError" 197),en P "__firstlineno__" 200 (i 2 199),en P "__static_attributes__" 201 (r 22)] 4,tp [],fl N [],fl (ty "code") [(s "WearError" 191),(s "WearError" 192),(s "/claim/cut.py" 193),(i 2 0),(i 0 0),(i 0 0),(i 0 0),(i 0 0),(r 18),(b false),(i 181 0),(r 19),N,N,N,N,(i 194 0),(i 2 0),(s "/claim/cut.py" 195)],{cls:=(ty "frame"),slots:=⟨[some (r 20),some (r 3),some (r 17),none,some (s "wearplan.errors" 187),none,some (r 0)]⟩},tp [],di [en P "__module__" 196 (s "wearplan.errors" 187),en P "__firstlineno__" 200 (i 2 199),en P "__static_attributes__" 201 (r 22),en P "__weakref__" 203 (r 25),en P "__doc__" 204 N] 3,co "WearError" [(ty "ValueError")] [(r 24),(ty "ValueError"),(ty "Exception"),(ty "BaseException"),(ty "object")] 23 "WearError" true false [] [some (r 15),none,some (s "WearError" 189),some (s "WearError" 197),some (bi "ValueError.__new__"),some (b true)],fl (ty "getset_descriptor") [(s "__weakref__" 202),(r 24),(bi "ExceptionGroup.__weakref__"),N],fl (ty "super") [(r 24),(r 24),(r 24)],fl (ty "builtin_function_or_method") [(bi "object.__init_subclass__"),(r 24)]]
noncomputable def t1(P:Params):BT:=insL (g1 P) 15 (setL [(3,o3_0 P),(12,o12_1 P)] (t0 P))
theorem pc1(w:World)(os:OsState):segRun treeTable PW w 11 (some (r 6)) 1 196 (SharedT.abs ⟨t0 w.params,15,life,⟨[]⟩,drawn,187,os⟩) (piecesOf sts1 env cE ⟨0,0,0,0⟩ BB)=some (.next,(SharedT.abs ⟨t1 w.params,28,life,⟨[]⟩,drawn,207,os⟩),cE,⟨2,0,3,8⟩):=segRun_of (i6 (by kernel_rfl))
noncomputable def sts2:List Stmt:=[top 2]
noncomputable def e3_1(P:Params):List DictEntry:=(e3_0 P)++[en P "NoPart" 231 (r 44)]
noncomputable def o3_1(P:Params):Obj:=di (e3_1 P) 11
noncomputable def e12_2(P:Params):List Value:=e12_1 P++[(i 4 0),(i 0 0),(r 33)]
noncomputable def o12_2(P:Params):Obj:=fl N (e12_2 P)
noncomputable def o24_1(P:Params):Obj:=co "WearError" [(ty "ValueError")] [(r 24),(ty "ValueError"),(ty "Exception"),(ty "BaseException"),(ty "object")] 23 "WearError" true false [(r 44)] [some (r 15),none,some (s "WearError" 189),some (s "WearError" 197),some (bi "ValueError.__new__"),some (b true)]
noncomputable def g2(P:Params):List Obj:=[tp [(r 24)],fl (ty "builtin_function_or_method") [(bi "type.__prepare__"),(ty "type")],di [en P "__module__" 214 (s "wearplan.errors" 187),en P "__qualname__" 216 (s "NoPart" 215),en P "__firstlineno__" 218 (i 4 217),en P "__init__" 226 (r 41),en P "__static_attributes__" 228 (r 42)] 5,tp [],fl N [(i 6 0),(i 4 0),(r 40)],fl (ty "code") [(s "NoPart" 209),(s "NoPart" 210),(s "/claim/cut.py" 211),(i 4 0),(i 0 0),(i 0 0),(i 0 0),(i 0 0),(r 31),(b false),(i 181 0),(r 32),N,N,N,N,(i 212 0),(i 4 0),(s "/claim/cut.py" 213)],{cls:=(ty "frame"),slots:=⟨[some (r 33),some (r 3),some (r 30),none,some (s "wearplan.errors" 187),none,some (r 0)]⟩},tp [],fl N [],tp [(s "self" 222),(s "at" 223)],tp [],fn N "__init__" "NoPart.__init__" (L2.inClass (top 2) 0) 0 N N,fl (ty "code") [(s "__init__" 219),(s "NoPart.__init__" 220),(s "/claim/cut.py" 221),(i 6 0),(i 2 0),(i 0 0),(i 0 0),(i 3 0),(r 35),(b true),(i 181 0),(r 36),N,(r 37),(r 38),(r 39),(i 224 0),(i 6 0),(s "/claim/cut.py" 225)],fn (ty "function") "__init__" "NoPart.__init__" (L2.inClass (top 2) 0) 3 (s "wearplan.errors" 187) (r 40),tp [(s "at" 227)],di [en P "__module__" 214 (s "wearplan.errors" 187),en P "__firstlineno__" 218 (i 4 217),en P "__init__" 226 (r 41),en P "__static_attributes__" 228 (r 42),en P "__doc__" 229 N] 2,co "NoPart" [(r 24)] [(r 44),(r 24),(ty "ValueError"),(ty "Exception"),(ty "BaseException"),(ty "object")] 43 "NoPart" true false [] [some (r 28),none,some (s "NoPart" 207),some (s "NoPart" 215),some (bi "ValueError.__new__"),some (b true)],fl (ty "super") [(r 44),(r 44),(r 44)],fl (ty "builtin_function_or_method") [(bi "object.__init_subclass__"),(r 44)]]
noncomputable def t2(P:Params):BT:=insL (g2 P) 28 (setL [(3,o3_1 P),(12,o12_2 P),(24,o24_1 P)] (t1 P))
theorem pc2(w:World)(os:OsState):segRun treeTable PW w 11 (some (r 6)) 1 246 (SharedT.abs ⟨t1 w.params,28,life,⟨[]⟩,drawn,207,os⟩) (piecesOf sts2 env cE ⟨2,0,3,8⟩ BB)=some (.next,(SharedT.abs ⟨t2 w.params,47,life,⟨[]⟩,drawn,232,os⟩),cE,⟨4,0,7,20⟩):=segRun_of (i6 (by kernel_rfl))
noncomputable def sts3:List Stmt:=[top 3]
noncomputable def e3_2(P:Params):List DictEntry:=(e3_1 P)++[en P "NoWorks" 256 (r 63)]
noncomputable def o3_2(P:Params):Obj:=di (e3_2 P) 12
noncomputable def e12_3(P:Params):List Value:=e12_2 P++[(i 8 0),(i 0 0),(r 52)]
noncomputable def o12_3(P:Params):Obj:=fl N (e12_3 P)
noncomputable def o24_2(P:Params):Obj:=co "WearError" [(ty "ValueError")] [(r 24),(ty "ValueError"),(ty "Exception"),(ty "BaseException"),(ty "object")] 23 "WearError" true false [(r 44),(r 63)] [some (r 15),none,some (s "WearError" 189),some (s "WearError" 197),some (bi "ValueError.__new__"),some (b true)]
noncomputable def g3(P:Params):List Obj:=[tp [(r 24)],fl (ty "builtin_function_or_method") [(bi "type.__prepare__"),(ty "type")],di [en P "__module__" 239 (s "wearplan.errors" 187),en P "__qualname__" 241 (s "NoWorks" 240),en P "__firstlineno__" 243 (i 8 242),en P "__init__" 251 (r 60),en P "__static_attributes__" 253 (r 61)] 5,tp [],fl N [(i 10 0),(i 4 0),(r 59)],fl (ty "code") [(s "NoWorks" 234),(s "NoWorks" 235),(s "/claim/cut.py" 236),(i 8 0),(i 0 0),(i 0 0),(i 0 0),(i 0 0),(r 50),(b false),(i 181 0),(r 51),N,N,N,N,(i 237 0),(i 8 0),(s "/claim/cut.py" 238)],{cls:=(ty "frame"),slots:=⟨[some (r 52),some (r 3),some (r 49),none,some (s "wearplan.errors" 187),none,some (r 0)]⟩},tp [],fl N [],tp [(s "self" 247),(s "at" 248)],tp [],fn N "__init__" "NoWorks.__init__" (L2.inClass (top 3) 0) 0 N N,fl (ty "code") [(s "__init__" 244),(s "NoWorks.__init__" 245),(s "/claim/cut.py" 246),(i 10 0),(i 2 0),(i 0 0),(i 0 0),(i 3 0),(r 54),(b true),(i 181 0),(r 55),N,(r 56),(r 57),(r 58),(i 249 0),(i 10 0),(s "/claim/cut.py" 250)],fn (ty "function") "__init__" "NoWorks.__init__" (L2.inClass (top 3) 0) 3 (s "wearplan.errors" 187) (r 59),tp [(s "at" 252)],di [en P "__module__" 239 (s "wearplan.errors" 187),en P "__firstlineno__" 243 (i 8 242),en P "__init__" 251 (r 60),en P "__static_attributes__" 253 (r 61),en P "__doc__" 254 N] 2,co "NoWorks" [(r 24)] [(r 63),(r 24),(ty "ValueError"),(ty "Exception"),(ty "BaseException"),(ty "object")] 62 "NoWorks" true false [] [some (r 47),none,some (s "NoWorks" 232),some (s "NoWorks" 240),some (bi "ValueError.__new__"),some (b true)],fl (ty "super") [(r 63),(r 63),(r 63)],fl (ty "builtin_function_or_method") [(bi "object.__init_subclass__"),(r 63)]]
noncomputable def t3(P:Params):BT:=insL (g3 P) 47 (setL [(3,o3_2 P),(12,o12_3 P),(24,o24_2 P)] (t2 P))
theorem pc3(w:World)(os:OsState):segRun treeTable PW w 11 (some (r 6)) 1 246 (SharedT.abs ⟨t2 w.params,47,life,⟨[]⟩,drawn,232,os⟩) (piecesOf sts3 env cE ⟨4,0,7,20⟩ BB)=some (.next,(SharedT.abs ⟨t3 w.params,66,life,⟨[]⟩,drawn,257,os⟩),cE,⟨8,0,11,20⟩):=segRun_of (i6 (by kernel_rfl))
noncomputable def sts4:List Stmt:=[top 4]
noncomputable def e3_3(P:Params):List DictEntry:=(e3_2 P)++[en P "NoStands" 272 (r 75)]
noncomputable def o3_3(P:Params):Obj:=di (e3_3 P) 13
noncomputable def e12_4(P:Params):List Value:=e12_3 P++[(i 12 0),(i 0 0),(r 71)]
noncomputable def o12_4(P:Params):Obj:=fl N (e12_4 P)
noncomputable def o24_3(P:Params):Obj:=co "WearError" [(ty "ValueError")] [(r 24),(ty "ValueError"),(ty "Exception"),(ty "BaseException"),(ty "object")] 23 "WearError" true false [(r 44),(r 63),(r 75)] [some (r 15),none,some (s "WearError" 189),some (s "WearError" 197),some (bi "ValueError.__new__"),some (b true)]
noncomputable def g4(P:Params):List Obj:=[tp [(r 24)],fl (ty "builtin_function_or_method") [(bi "type.__prepare__"),(ty "type")],di [en P "__module__" 264 (s "wearplan.errors" 187),en P "__qualname__" 266 (s "NoStands" 265),en P "__firstlineno__" 268 (i 12 267),en P "__static_attributes__" 269 (r 73)] 4,tp [],fl N [],fl (ty "code") [(s "NoStands" 259),(s "NoStands" 260),(s "/claim/cut.py" 261),(i 12 0),(i 0 0),(i 0 0),(i 0 0),(i 0 0),(r 69),(b false),(i 181 0),(r 70),N,N,N,N,(i 262 0),(i 12 0),(s "/claim/cut.py" 263)],{cls:=(ty "frame"),slots:=⟨[some (r 71),some (r 3),some (r 68),none,some (s "wearplan.errors" 187),none,some (r 0)]⟩},tp [],di [en P "__module__" 264 (s "wearplan.errors" 187),en P "__firstlineno__" 268 (i 12 267),en P "__static_attributes__" 269 (r 73),en P "__doc__" 270 N] 2,co "NoStands" [(r 24)] [(r 75),(r 24),(ty "ValueError"),(ty "Exception"),(ty "BaseException"),(ty "object")] 74 "NoStands" true false [] [some (r 66),none,some (s "NoStands" 257),some (s "NoStands" 265),some (bi "ValueError.__new__"),some (b true)],fl (ty "super") [(r 75),(r 75),(r 75)],fl (ty "builtin_function_or_method") [(bi "object.__init_subclass__"),(r 75)]]
noncomputable def t4(P:Params):BT:=insL (g4 P) 66 (setL [(3,o3_3 P),(12,o12_4 P),(24,o24_3 P)] (t3 P))
theorem pc4(w:World)(os:OsState):segRun treeTable PW w 11 (some (r 6)) 1 214 (SharedT.abs ⟨t3 w.params,66,life,⟨[]⟩,drawn,257,os⟩) (piecesOf sts4 env cE ⟨8,0,11,20⟩ BB)=some (.next,(SharedT.abs ⟨t4 w.params,78,life,⟨[]⟩,drawn,273,os⟩),cE,⟨12,0,13,8⟩):=segRun_of (i6 (by kernel_rfl))
noncomputable def sts5:List Stmt:=[top 5]
noncomputable def e3_4(P:Params):List DictEntry:=(e3_3 P)++[en P "NoRounds" 288 (r 87)]
noncomputable def o3_4(P:Params):Obj:=di (e3_4 P) 14
noncomputable def e12_5(P:Params):List Value:=e12_4 P++[(i 14 0),(i 0 0),(r 83)]
noncomputable def o12_5(P:Params):Obj:=fl N (e12_5 P)
noncomputable def o24_4(P:Params):Obj:=co "WearError" [(ty "ValueError")] [(r 24),(ty "ValueError"),(ty "Exception"),(ty "BaseException"),(ty "object")] 23 "WearError" true false [(r 44),(r 63),(r 75),(r 87)] [some (r 15),none,some (s "WearError" 189),some (s "WearError" 197),some (bi "ValueError.__new__"),some (b true)]
noncomputable def g5(P:Params):List Obj:=[tp [(r 24)],fl (ty "builtin_function_or_method") [(bi "type.__prepare__"),(ty "type")],di [en P "__module__" 280 (s "wearplan.errors" 187),en P "__qualname__" 282 (s "NoRounds" 281),en P "__firstlineno__" 284 (i 14 283),en P "__static_attributes__" 285 (r 85)] 4,tp [],fl N [],fl (ty "code") [(s "NoRounds" 275),(s "NoRounds" 276),(s "/claim/cut.py" 277),(i 14 0),(i 0 0),(i 0 0),(i 0 0),(i 0 0),(r 81),(b false),(i 181 0),(r 82),N,N,N,N,(i 278 0),(i 14 0),(s "/claim/cut.py" 279)],{cls:=(ty "frame"),slots:=⟨[some (r 83),some (r 3),some (r 80),none,some (s "wearplan.errors" 187),none,some (r 0)]⟩},tp [],di [en P "__module__" 280 (s "wearplan.errors" 187),en P "__firstlineno__" 284 (i 14 283),en P "__static_attributes__" 285 (r 85),en P "__doc__" 286 N] 2,co "NoRounds" [(r 24)] [(r 87),(r 24),(ty "ValueError"),(ty "Exception"),(ty "BaseException"),(ty "object")] 86 "NoRounds" true false [] [some (r 78),none,some (s "NoRounds" 273),some (s "NoRounds" 281),some (bi "ValueError.__new__"),some (b true)],fl (ty "super") [(r 87),(r 87),(r 87)],fl (ty "builtin_function_or_method") [(bi "object.__init_subclass__"),(r 87)]]
noncomputable def t5(P:Params):BT:=insL (g5 P) 78 (setL [(3,o3_4 P),(12,o12_5 P),(24,o24_4 P)] (t4 P))
theorem pc5(w:World)(os:OsState):segRun treeTable PW w 11 (some (r 6)) 1 214 (SharedT.abs ⟨t4 w.params,78,life,⟨[]⟩,drawn,273,os⟩) (piecesOf sts5 env cE ⟨12,0,13,8⟩ BB)=some (.next,(SharedT.abs ⟨t5 w.params,90,life,⟨[]⟩,drawn,289,os⟩),cE,⟨14,0,15,8⟩):=segRun_of (i6 (by kernel_rfl))
noncomputable def sts6:List Stmt:=[top 6]
noncomputable def e3_5(P:Params):List DictEntry:=(e3_4 P)++[en P "NoPlan" 313 (r 106)]
noncomputable def o3_5(P:Params):Obj:=di (e3_5 P) 15
noncomputable def e12_6(P:Params):List Value:=e12_5 P++[(i 16 0),(i 0 0),(r 95)]
noncomputable def o12_6(P:Params):Obj:=fl N (e12_6 P)
noncomputable def o24_5(P:Params):Obj:=co "WearError" [(ty "ValueError")] [(r 24),(ty "ValueError"),(ty "Exception"),(ty "BaseException"),(ty "object")] 23 "WearError" true false [(r 44),(r 63),(r 75),(r 87),(r 106)] [some (r 15),none,some (s "WearError" 189),some (s "WearError" 197),some (bi "ValueError.__new__"),some (b true)]
noncomputable def g6(P:Params):List Obj:=[tp [(r 24)],fl (ty "builtin_function_or_method") [(bi "type.__prepare__"),(ty "type")],di [en P "__module__" 296 (s "wearplan.errors" 187),en P "__qualname__" 298 (s "NoPlan" 297),en P "__firstlineno__" 300 (i 16 299),en P "__init__" 308 (r 103),en P "__static_attributes__" 310 (r 104)] 5,tp [],fl N [(i 18 0),(i 4 0),(r 102)],fl (ty "code") [(s "NoPlan" 291),(s "NoPlan" 292),(s "/claim/cut.py" 293),(i 16 0),(i 0 0),(i 0 0),(i 0 0),(i 0 0),(r 93),(b false),(i 181 0),(r 94),N,N,N,N,(i 294 0),(i 16 0),(s "/claim/cut.py" 295)],{cls:=(ty "frame"),slots:=⟨[some (r 95),some (r 3),some (r 92),none,some (s "wearplan.errors" 187),none,some (r 0)]⟩},tp [],fl N [],tp [(s "self" 304),(s "at" 305)],tp [],fn N "__init__" "NoPlan.__init__" (L2.inClass (top 6) 0) 0 N N,fl (ty "code") [(s "__init__" 301),(s "NoPlan.__init__" 302),(s "/claim/cut.py" 303),(i 18 0),(i 2 0),(i 0 0),(i 0 0),(i 3 0),(r 97),(b true),(i 181 0),(r 98),N,(r 99),(r 100),(r 101),(i 306 0),(i 18 0),(s "/claim/cut.py" 307)],fn (ty "function") "__init__" "NoPlan.__init__" (L2.inClass (top 6) 0) 3 (s "wearplan.errors" 187) (r 102),tp [(s "at" 309)],di [en P "__module__" 296 (s "wearplan.errors" 187),en P "__firstlineno__" 300 (i 16 299),en P "__init__" 308 (r 103),en P "__static_attributes__" 310 (r 104),en P "__doc__" 311 N] 2,co "NoPlan" [(r 24)] [(r 106),(r 24),(ty "ValueError"),(ty "Exception"),(ty "BaseException"),(ty "object")] 105 "NoPlan" true false [] [some (r 90),none,some (s "NoPlan" 289),some (s "NoPlan" 297),some (bi "ValueError.__new__"),some (b true)],fl (ty "super") [(r 106),(r 106),(r 106)],fl (ty "builtin_function_or_method") [(bi "object.__init_subclass__"),(r 106)]]
noncomputable def t6(P:Params):BT:=insL (g6 P) 90 (setL [(3,o3_5 P),(12,o12_6 P),(24,o24_5 P)] (t5 P))
theorem pc6(w:World)(os:OsState):segRun treeTable PW w 11 (some (r 6)) 1 246 (SharedT.abs ⟨t5 w.params,90,life,⟨[]⟩,drawn,289,os⟩) (piecesOf sts6 env cE ⟨14,0,15,8⟩ BB)=some (.next,(SharedT.abs ⟨t6 w.params,109,life,⟨[]⟩,drawn,314,os⟩),cE,⟨16,0,19,20⟩):=segRun_of (i6 (by kernel_rfl))
noncomputable def sts7:List Stmt:=[top 7]
noncomputable def e3_6(P:Params):List DictEntry:=(e3_5 P)++[en P "Shut" 338 (r 125)]
noncomputable def o3_6(P:Params):Obj:=di (e3_6 P) 16
noncomputable def e12_7(P:Params):List Value:=e12_6 P++[(i 20 0),(i 0 0),(r 114)]
noncomputable def o12_7(P:Params):Obj:=fl N (e12_7 P)
noncomputable def o24_6(P:Params):Obj:=co "WearError" [(ty "ValueError")] [(r 24),(ty "ValueError"),(ty "Exception"),(ty "BaseException"),(ty "object")] 23 "WearError" true false [(r 44),(r 63),(r 75),(r 87),(r 106),(r 125)] [some (r 15),none,some (s "WearError" 189),some (s "WearError" 197),some (bi "ValueError.__new__"),some (b true)]
noncomputable def g7(P:Params):List Obj:=[tp [(r 24)],fl (ty "builtin_function_or_method") [(bi "type.__prepare__"),(ty "type")],di [en P "__module__" 321 (s "wearplan.errors" 187),en P "__qualname__" 323 (s "Shut" 322),en P "__firstlineno__" 325 (i 20 324),en P "__init__" 333 (r 122),en P "__static_attributes__" 335 (r 123)] 5,tp [],fl N [(i 22 0),(i 4 0),(r 121)],fl (ty "code") [(s "Shut" 316),(s "Shut" 317),(s "/claim/cut.py" 318),(i 20 0),(i 0 0),(i 0 0),(i 0 0),(i 0 0),(r 112),(b false),(i 181 0),(r 113),N,N,N,N,(i 319 0),(i 20 0),(s "/claim/cut.py" 320)],{cls:=(ty "frame"),slots:=⟨[some (r 114),some (r 3),some (r 111),none,some (s "wearplan.errors" 187),none,some (r 0)]⟩},tp [],fl N [],tp [(s "self" 329),(s "round_number" 330)],tp [],fn N "__init__" "Shut.__init__" (L2.inClass (top 7) 0) 0 N N,fl (ty "code") [(s "__init__" 326),(s "Shut.__init__" 327),(s "/claim/cut.py" 328),(i 22 0),(i 2 0),(i 0 0),(i 0 0),(i 3 0),(r 116),(b true),(i 181 0),(r 117),N,(r 118),(r 119),(r 120),(i 331 0),(i 22 0),(s "/claim/cut.py" 332)],fn (ty "function") "__init__" "Shut.__init__" (L2.inClass (top 7) 0) 3 (s "wearplan.errors" 187) (r 121),tp [(s "round_number" 334)],di [en P "__module__" 321 (s "wearplan.errors" 187),en P "__firstlineno__" 325 (i 20 324),en P "__init__" 333 (r 122),en P "__static_attributes__" 335 (r 123),en P "__doc__" 336 N] 2,co "Shut" [(r 24)] [(r 125),(r 24),(ty "ValueError"),(ty "Exception"),(ty "BaseException"),(ty "object")] 124 "Shut" true false [] [some (r 109),none,some (s "Shut" 314),some (s "Shut" 322),some (bi "ValueError.__new__"),some (b true)],fl (ty "super") [(r 125),(r 125),(r 125)],fl (ty "builtin_function_or_method") [(bi "object.__init_subclass__"),(r 125)]]
noncomputable def t7(P:Params):BT:=insL (g7 P) 109 (setL [(3,o3_6 P),(12,o12_7 P),(24,o24_6 P)] (t6 P))
theorem pc7(w:World)(os:OsState):segRun treeTable PW w 11 (some (r 6)) 1 246 (SharedT.abs ⟨t6 w.params,109,life,⟨[]⟩,drawn,314,os⟩) (piecesOf sts7 env cE ⟨16,0,19,20⟩ BB)=some (.next,(SharedT.abs ⟨t7 w.params,128,life,⟨[]⟩,drawn,339,os⟩),cE,⟨20,0,23,40⟩):=segRun_of (i6 (by kernel_rfl))
noncomputable def sts8:List Stmt:=[top 8,top 9,top 10,top 11,top 12,top 13,top 14]
noncomputable def e3_7(P:Params):List DictEntry:=((e3_6 P).set 0 (en P "__name__" 165 (s "wearplan.signs" 366)))++[en P "Falls" 365 (r 144),en P "is_number" 374 (r 153),en P "is_whole" 383 (r 160),en P "is_row" 390 (r 167),en P "is_whole_row" 396 (r 172),en P "is_rising_row" 402 (r 177)]
noncomputable def o3_7(P:Params):Obj:=di (e3_7 P) 22
noncomputable def e12_8(P:Params):List Value:=e12_7 P++[(i 24 0),(i 0 0),(r 133),(i 30 0),(i 0 0),(r 152),(i 32 0),(i 0 0),(r 159),(i 34 0),(i 0 0),(r 166),(i 36 0),(i 0 0),(r 171),(i 40 0),(i 0 0),(r 176)]
noncomputable def o12_8(P:Params):Obj:=fl N (e12_8 P)
noncomputable def x1c(P:Params):Obj:=co "WearError" [(ty "ValueError")] [(r 24),(ty "ValueError"),(ty "Exception"),(ty "BaseException"),(ty "object")] 23 "WearError" true false [(r 44),(r 63),(r 75),(r 87),(r 106),(r 125),(r 144)] [some (r 15),none,some (s "WearError" 189),some (s "WearError" 197),some (bi "ValueError.__new__"),some (b true)]
noncomputable def g8(P:Params):List Obj:=(tp [(r 24)]::fl (ty "builtin_function_or_method") [(bi "type.__prepare__"),(ty "type")]::di [en P "__module__" 346 (s "wearplan.errors" 187),en P "__qualname__" 348 (s "Falls" 347),en P "__firstlineno__" 350 (i 24 349),en P "__init__" 359 (r 141),en P "__static_attributes__" 362 (r 142)] 5::tp []::fl N [(i 26 0),(i 4 0),(r 140)]::fl (ty "code") [(s "Falls" 341),(s "Falls" 342),(s "/claim/cut.py" 343),(i 24 0),(i 0 0),(i 0 0),(i 0 0),(i 0 0),(r 131),(b false),(i 181 0),(r 132),N,N,N,N,(i 344 0),(i 24 0),(s "/claim/cut.py" 345)]::{cls:=(ty "frame"),slots:=⟨[some (r 133),some (r 3),some (r 130),none,some (s "wearplan.errors" 187),none,some (r 0)]⟩}::tp []::fl N []::tp [(s "self" 354),(s "round_number" 355),(s "part_number" 356)]::tp []::fn N "__init__" "Falls.__init__" (L2.inClass (top 8) 0) 0 N N::fl (ty "code") [(s "__init__" 351),(s "Falls.__init__" 352),(s "/claim/cut.py" 353),(i 26 0),(i 3 0),(i 0 0),(i 0 0),(i 3 0),(r 135),(b true),(i 181 0),(r 136),N,(r 137),(r 138),(r 139),(i 357 0),(i 26 0),(s "/claim/cut.py" 358)]::fn (ty "function") "__init__" "Falls.__init__" (L2.inClass (top 8) 0) 3 (s "wearplan.errors" 187) (r 140)::tp [(s "part_number" 360),(s "round_number" 361)]::di [en P "__module__" 346 (s "wearplan.errors" 187),en P "__firstlineno__" 350 (i 24 349),en P "__init__" 359 (r 141),en P "__static_attributes__" 362 (r 142),en P "__doc__" 363 N] 2::co "Falls" [(r 24)] [(r 144),(r 24),(ty "ValueError"),(ty "Exception"),(ty "BaseException"),(ty "object")] 143 "Falls" true false [] [some (r 128),none,some (s "Falls" 339),some (s "Falls" 347),some (bi "ValueError.__new__"),some (b true)]::fl (ty "super") [(r 144),(r 144),(r 144)]::fl (ty "builtin_function_or_method") [(bi "object.__init_subclass__"),(r 144)]::tp []::fl N []::tp [(s "thing" 371)]::tp []::fn N "is_number" "is_number" (top 10) 0 N N::fl (ty "code") [(s "is_number" 368),(s "is_number" 369),(s "/claim/cut.py" 370),(i 30 0),(i 1 0),(i 0 0),(i 0 0),(i 3 0),(r 147),(b true),(i 181 0),(r 148),N,(r 149),(r 150),(r 151),(i 372 0),(i 30 0),(s "/claim/cut.py" 373)]::fn (ty "function") "is_number" "is_number" (top 10) 3 (s "wearplan.signs" 366) (r 152)::tp []::fl N []::tp [(s "thing" 378),(s "least" 379),(s "most" 380)]::tp []::fn N "is_whole" "is_whole" (top 11) 0 N N::fl (ty "code") [(s "is_whole" 375),(s "is_whole" 376),(s "/claim/cut.py" 377),(i 32 0),(i 3 0),(i 0 0),(i 0 0),(i 3 0),(r 154),(b true),(i 181 0),(r 155),N,(r 156),(r 157),(r 158),(i 381 0),(i 32 0),(s "/claim/cut.py" 382)]::fn (ty "function") "is_whole" "is_whole" (top 11) 3 (s "wearplan.signs" 366) (r 159)::tp []::fl N []::tp [(s "thing" 387)]::tp []::fn N "is_row" "is_row" (top 12) 0 N N::fl (ty "code") [(s "is_row" 384),(s "is_row" 385),(s "/claim/cut.py" 386),(i 34 0),(i 1 0),(i 0 0),(i 0 0),(i 3 0),(r 161),(b true),(i 181 0),(r 162),N,(r 163),(r 164),(r 165),(i 388 0),(i 34 0),(s "/claim/cut.py" 389)]::fn (ty "function") "is_row" "is_row" (top 12) 3 (s "wearplan.signs" 366) (r 166)::tp []::fl N []::fn N "is_whole_row" "is_whole_row" (top 13) 0 N N::fl (ty "code") [(s "is_whole_row" 391),(s "is_whole_row" 392),(s "/claim/cut.py" 393),(i 36 0),(i 5 0),(i 0 0),(i 0 0),(i 3 0),(r 168),(b true),(i 181 0),(r 169),N,N,N,(r 170),(i 394 0),(i 36 0),(s "/claim/cut.py" 395)]::fn (ty "function") "is_whole_row" "is_whole_row" (top 13) 3 (s "wearplan.signs" 366) (r 171)::tp []::fl N []::fn N "is_rising_row" "is_rising_row" (top 14) 0 N N::fl (ty "code") [(s "is_rising_row" 397),(s "is_rising_row" 398),(s "/claim/cut.py" 399),(i 40 0),(i 3 0),(i 0 0),(i 0 0),(i 3 0),(r 173),(b true),(i 181 0),(r 174),N,N,N,(r 175),(i 400 0),(i 40 0),(s "/claim/cut.py" 401)]::fn (ty "function") "is_rising_row" "is_rising_row" (top 14) 3 (s "wearplan.signs" 366) (r 176):: [])
noncomputable def t8(P:Params):BT:=insL (g8 P) 128 (setL [(3,o3_7 P),(12,o12_8 P),(24,x1c P)] (t7 P))
theorem pc8(w:World)(os:OsState):segRun treeTable PW w 11 (some (r 6)) 1 398 (SharedT.abs ⟨t7 w.params,128,life,⟨[]⟩,drawn,339,os⟩) (piecesOf sts8 env cE ⟨20,0,23,40⟩ BB)=some (.next,(SharedT.abs ⟨t8 w.params,178,life,⟨[]⟩,drawn,403,os⟩),cE,⟨40,0,43,71⟩):=segRun_of (i6 (by kernel_rfl))
noncomputable def sts9:List Stmt:=[top 15,top 16,top 17,top 18,top 19,top 20,top 21,top 22,top 23,top 24,top 25]
noncomputable def e3_8(P:Params):List DictEntry:=((e3_7 P).set 0 (en P "__name__" 165 (s "wearplan.works" 467)))++[en P "GREATEST_FIRST" 406 (i 47 405),en P "MOST_ROUNDS" 408 (i 24 407),en P "Part" 443 (r 194),en P "loss" 451 (r 205),en P "is_stand" 459 (r 212),en P "check_first" 466 (r 219),en P "MOST_PARTS" 470 (i 4 469),en P "GREATEST_CALL" 472 (i 99 471),en P "GREATEST_SHUT" 474 (i 47 473)]
noncomputable def o3_8(P:Params):Obj:=di (e3_8 P) 31
noncomputable def e12_9(P:Params):List Value:=e12_8 P++[(i 47 0),(i 0 0),(r 183),(i 62 0),(i 0 0),(r 204),(i 64 0),(i 0 0),(r 211),(i 66 0),(i 0 0),(r 218)]
noncomputable def o12_9(P:Params):Obj:=fl N (e12_9 P)
noncomputable def g9(P:Params):List Obj:=(tp []::fl (ty "builtin_function_or_method") [(bi "type.__prepare__"),(ty "type")]::di [en P "__module__" 416 (s "wearplan.parts" 403),en P "__qualname__" 418 (s "Part" 417),en P "__firstlineno__" 420 (i 47 419),en P "__init__" 431 (r 191),en P "__static_attributes__" 436 (r 192)] 5::tp []::fl N [(i 49 0),(i 4 0),(r 190)]::fl (ty "code") [(s "Part" 411),(s "Part" 412),(s "/claim/cut.py" 413),(i 47 0),(i 0 0),(i 0 0),(i 0 0),(i 0 0),(r 181),(b false),(i 181 0),(r 182),N,N,N,N,(i 414 0),(i 47 0),(s "/claim/cut.py" 415)]::{cls:=(ty "frame"),slots:=⟨[some (r 183),some (r 3),some (r 180),none,some (s "wearplan.parts" 403),none,some (r 0)]⟩}::tp []::fl N []::tp [(s "self" 424),(s "full" 425),(s "mark" 426),(s "wear" 427),(s "price" 428)]::tp []::fn N "__init__" "Part.__init__" (L2.inClass (top 18) 0) 0 N N::fl (ty "code") [(s "__init__" 421),(s "Part.__init__" 422),(s "/claim/cut.py" 423),(i 49 0),(i 5 0),(i 0 0),(i 0 0),(i 3 0),(r 185),(b true),(i 181 0),(r 186),N,(r 187),(r 188),(r 189),(i 429 0),(i 49 0),(s "/claim/cut.py" 430)]::fn (ty "function") "__init__" "Part.__init__" (L2.inClass (top 18) 0) 3 (s "wearplan.parts" 403) (r 190)::tp [(s "full" 432),(s "mark" 433),(s "price" 434),(s "wear" 435)]::di [en P "__module__" 416 (s "wearplan.parts" 403),en P "__firstlineno__" 420 (i 47 419),en P "__init__" 431 (r 191),en P "__static_attributes__" 436 (r 192),en P "__dict__" 438 (r 195),en P "__weakref__" 440 (r 196),en P "__doc__" 441 N] 4::co "Part" [(ty "object")] [(r 194),(ty "object")] 193 "Part" true false [] [none,none,some (s "Part" 409),some (s "Part" 417),some (bi "object.__new__"),some (b true)]::fl (ty "getset_descriptor") [(s "__dict__" 437),(r 194),(bi "function.__dict__"),(bi "function.__dict__#set")]::fl (ty "getset_descriptor") [(s "__weakref__" 439),(r 194),(bi "ExceptionGroup.__weakref__"),N]::fl (ty "super") [(r 194),(r 194),(r 194)]::fl (ty "builtin_function_or_method") [(bi "object.__init_subclass__"),(r 194)]::tp []::fl N []::tp [(s "part" 447),(s "round_number" 448)]::tp []::fn N "loss" "loss" (top 19) 0 N N::fl (ty "code") [(s "loss" 444),(s "loss" 445),(s "/claim/cut.py" 446),(i 62 0),(i 2 0),(i 0 0),(i 0 0),(i 3 0),(r 199),(b true),(i 181 0),(r 200),N,(r 201),(r 202),(r 203),(i 449 0),(i 62 0),(s "/claim/cut.py" 450)]::fn (ty "function") "loss" "loss" (top 19) 3 (s "wearplan.parts" 403) (r 204)::tp []::fl N []::tp [(s "part" 455),(s "thing" 456)]::tp []::fn N "is_stand" "is_stand" (top 20) 0 N N::fl (ty "code") [(s "is_stand" 452),(s "is_stand" 453),(s "/claim/cut.py" 454),(i 64 0),(i 2 0),(i 0 0),(i 0 0),(i 3 0),(r 206),(b true),(i 181 0),(r 207),N,(r 208),(r 209),(r 210),(i 457 0),(i 64 0),(s "/claim/cut.py" 458)]::fn (ty "function") "is_stand" "is_stand" (top 20) 3 (s "wearplan.parts" 403) (r 211)::tp []::fl N []::tp [(s "first" 463)]::tp []::fn N "check_first" "check_first" (top 21) 0 N N::fl (ty "code") [(s "check_first" 460),(s "check_first" 461),(s "/claim/cut.py" 462),(i 66 0),(i 1 0),(i 0 0),(i 0 0),(i 3 0),(r 213),(b true),(i 181 0),(r 214),N,(r 215),(r 216),(r 217),(i 464 0),(i 66 0),(s "/claim/cut.py" 465)]::fn (ty "function") "check_first" "check_first" (top 21) 3 (s "wearplan.parts" 403) (r 218):: [])
noncomputable def t9(P:Params):BT:=insL (g9 P) 178 (setL [(3,o3_8 P),(12,o12_9 P)] (t8 P))
theorem pc9(w:World)(os:OsState):segRun treeTable PW w 11 (some (r 6)) 1 381 (SharedT.abs ⟨t8 w.params,178,life,⟨[]⟩,drawn,403,os⟩) (piecesOf sts9 env cE ⟨40,0,43,71⟩ BB)=some (.next,(SharedT.abs ⟨t9 w.params,220,life,⟨[]⟩,drawn,475,os⟩),cE,⟨72,0,72,13⟩):=segRun_of (i6 (by kernel_rfl))
noncomputable def sts10:List Stmt:=[top 26,top 27,top 28,top 29,top 30,top 31,top 32]
noncomputable def e3_9(P:Params):List DictEntry:=((e3_8 P).set 0 (en P "__name__" 165 (s "wearplan.walks" 543)))++[en P "Works" 507 (r 236),en P "is_parts" 513 (r 245),en P "is_shut" 520 (r 252),en P "is_choice_among" 528 (r 259),en P "is_choice" 536 (r 266),en P "cost_of" 542 (r 271)]
noncomputable def o3_9(P:Params):Obj:=di (e3_9 P) 37
noncomputable def z1r(P:Params):List Value:=e12_9 P++[(i 73 0),(i 0 0),(r 225),(i 85 0),(i 0 0),(r 244),(i 89 0),(i 0 0),(r 251),(i 91 0),(i 0 0),(r 258),(i 93 0),(i 0 0),(r 265),(i 95 0),(i 0 0),(r 270)]
noncomputable def o12_10(P:Params):Obj:=fl N (z1r P)
noncomputable def g10(P:Params):List Obj:=(tp []::fl (ty "builtin_function_or_method") [(bi "type.__prepare__"),(ty "type")]::di [en P "__module__" 482 (s "wearplan.works" 467),en P "__qualname__" 484 (s "Works" 483),en P "__firstlineno__" 486 (i 73 485),en P "__init__" 496 (r 233),en P "__static_attributes__" 500 (r 234)] 5::tp []::fl N [(i 75 0),(i 4 0),(r 232)]::fl (ty "code") [(s "Works" 477),(s "Works" 478),(s "/claim/cut.py" 479),(i 73 0),(i 0 0),(i 0 0),(i 0 0),(i 0 0),(r 223),(b false),(i 181 0),(r 224),N,N,N,N,(i 480 0),(i 73 0),(s "/claim/cut.py" 481)]::{cls:=(ty "frame"),slots:=⟨[some (r 225),some (r 3),some (r 222),none,some (s "wearplan.works" 467),none,some (r 0)]⟩}::tp []::fl N []::tp [(s "self" 490),(s "parts" 491),(s "call" 492),(s "shut" 493)]::tp []::fn N "__init__" "Works.__init__" (L2.inClass (top 26) 0) 0 N N::fl (ty "code") [(s "__init__" 487),(s "Works.__init__" 488),(s "/claim/cut.py" 489),(i 75 0),(i 4 0),(i 0 0),(i 0 0),(i 3 0),(r 227),(b true),(i 181 0),(r 228),N,(r 229),(r 230),(r 231),(i 494 0),(i 75 0),(s "/claim/cut.py" 495)]::fn (ty "function") "__init__" "Works.__init__" (L2.inClass (top 26) 0) 3 (s "wearplan.works" 467) (r 232)::tp [(s "call" 497),(s "parts" 498),(s "shut" 499)]::di [en P "__module__" 482 (s "wearplan.works" 467),en P "__firstlineno__" 486 (i 73 485),en P "__init__" 496 (r 233),en P "__static_attributes__" 500 (r 234),en P "__dict__" 502 (r 237),en P "__weakref__" 504 (r 238),en P "__doc__" 505 N] 4::co "Works" [(ty "object")] [(r 236),(ty "object")] 235 "Works" true false [] [none,none,some (s "Works" 475),some (s "Works" 483),some (bi "object.__new__"),some (b true)]::fl (ty "getset_descriptor") [(s "__dict__" 501),(r 236),(bi "function.__dict__"),(bi "function.__dict__#set")]::fl (ty "getset_descriptor") [(s "__weakref__" 503),(r 236),(bi "ExceptionGroup.__weakref__"),N]::fl (ty "super") [(r 236),(r 236),(r 236)]::fl (ty "builtin_function_or_method") [(bi "object.__init_subclass__"),(r 236)]::tp []::fl N []::fn N "is_parts" "is_parts" (top 27) 0 N N::fl (ty "code") [(s "is_parts" 508),(s "is_parts" 509),(s "/claim/cut.py" 510),(i 85 0),(i 1 0),(i 0 0),(i 0 0),(i 3 0),(r 241),(b true),(i 181 0),(r 242),N,N,N,(r 243),(i 511 0),(i 85 0),(s "/claim/cut.py" 512)]::fn (ty "function") "is_parts" "is_parts" (top 27) 3 (s "wearplan.works" 467) (r 244)::tp []::fl N []::tp [(s "thing" 517)]::tp []::fn N "is_shut" "is_shut" (top 28) 0 N N::fl (ty "code") [(s "is_shut" 514),(s "is_shut" 515),(s "/claim/cut.py" 516),(i 89 0),(i 1 0),(i 0 0),(i 0 0),(i 3 0),(r 246),(b true),(i 181 0),(r 247),N,(r 248),(r 249),(r 250),(i 518 0),(i 89 0),(s "/claim/cut.py" 519)]::fn (ty "function") "is_shut" "is_shut" (top 28) 3 (s "wearplan.works" 467) (r 251)::tp []::fl N []::tp [(s "thing" 524),(s "many" 525)]::tp []::fn N "is_choice_among" "is_choice_among" (top 29) 0 N N::fl (ty "code") [(s "is_choice_among" 521),(s "is_choice_among" 522),(s "/claim/cut.py" 523),(i 91 0),(i 2 0),(i 0 0),(i 0 0),(i 3 0),(r 253),(b true),(i 181 0),(r 254),N,(r 255),(r 256),(r 257),(i 526 0),(i 91 0),(s "/claim/cut.py" 527)]::fn (ty "function") "is_choice_among" "is_choice_among" (top 29) 3 (s "wearplan.works" 467) (r 258)::tp []::fl N []::tp [(s "works" 532),(s "thing" 533)]::tp []::fn N "is_choice" "is_choice" (top 30) 0 N N::fl (ty "code") [(s "is_choice" 529),(s "is_choice" 530),(s "/claim/cut.py" 531),(i 93 0),(i 2 0),(i 0 0),(i 0 0),(i 3 0),(r 260),(b true),(i 181 0),(r 261),N,(r 262),(r 263),(r 264),(i 534 0),(i 93 0),(s "/claim/cut.py" 535)]::fn (ty "function") "is_choice" "is_choice" (top 30) 3 (s "wearplan.works" 467) (r 265)::tp []::fl N []::fn N "cost_of" "cost_of" (top 31) 0 N N::fl (ty "code") [(s "cost_of" 537),(s "cost_of" 538),(s "/claim/cut.py" 539),(i 95 0),(i 2 0),(i 0 0),(i 0 0),(i 3 0),(r 267),(b true),(i 181 0),(r 268),N,N,N,(r 269),(i 540 0),(i 95 0),(s "/claim/cut.py" 541)]::fn (ty "function") "cost_of" "cost_of" (top 31) 3 (s "wearplan.works" 467) (r 270):: [])
noncomputable def t10(P:Params):BT:=insL (g10 P) 220 (setL [(3,o3_9 P),(12,o12_10 P)] (t9 P))
theorem pc10(w:World)(os:OsState):segRun treeTable PW w 11 (some (r 6)) 1 377 (SharedT.abs ⟨t9 w.params,220,life,⟨[]⟩,drawn,475,os⟩) (piecesOf sts10 env cE ⟨72,0,72,13⟩ BB)=some (.next,(SharedT.abs ⟨t10 w.params,272,life,⟨[]⟩,drawn,545,os⟩),cE,⟨101,0,101,8⟩):=segRun_of (i6 (by kernel_rfl))
noncomputable def sts11:List Stmt:=[top 33,top 34,top 35,top 36,top 37,top 38,top 39,top 40,top 41,top 42,top 43,top 44,top 45]
noncomputable def e3_10(P:Params):List DictEntry:=((e3_9 P).set 0 (en P "__name__" 165 (s "law_wearplan_k08_whole_several_at_once" 661)))++[en P "wrong_entry" 555 (r 278),en P "check_plan" 564 (r 285),en P "price_of" 572 (r 292),en P "costs_together" 578 (r 297),en P "is_stands" 584 (r 302),en P "check_stands" 592 (r 309),en P "is_shut_to" 601 (r 316),en P "stands_behind" 615 (r 323),en P "first_fallen" 625 (r 330),en P "do_round" 637 (r 337),en P "path_of" 650 (r 344),en P "walk" 660 (r 351)]
noncomputable def o3_10(P:Params):Obj:=di (e3_10 P) 49
noncomputable def z1q(P:Params):List Value:=z1r P++[(i 102 0),(i 0 0),(r 277),(i 109 0),(i 0 0),(r 284),(i 113 0),(i 0 0),(r 291),(i 116 0),(i 0 0),(r 296),(i 118 0),(i 0 0),(r 301),(i 122 0),(i 0 0),(r 308),(i 125 0),(i 0 0),(r 315),(i 127 0),(i 0 0),(r 322),(i 133 0),(i 0 0),(r 329),(i 138 0),(i 0 0),(r 336),(i 146 0),(i 0 0),(r 343),(i 151 0),(i 0 0),(r 350)]
noncomputable def o12_11(P:Params):Obj:=fl N (z1q P)
noncomputable def g11(P:Params):List Obj:=(tp []::fl N []::tp [(s "thing" 548),(s "many" 549),(s "most" 550),(s "k" 551),(s "entry" 552)]::tp []::fn N "wrong_entry" "wrong_entry" (top 33) 0 N N::fl (ty "code") [(s "wrong_entry" 545),(s "wrong_entry" 546),(s "/claim/cut.py" 547),(i 102 0),(i 3 0),(i 0 0),(i 0 0),(i 3 0),(r 272),(b true),(i 181 0),(r 273),N,(r 274),(r 275),(r 276),(i 553 0),(i 102 0),(s "/claim/cut.py" 554)]::fn (ty "function") "wrong_entry" "wrong_entry" (top 33) 3 (s "wearplan.walks" 543) (r 277)::tp []::fl N []::tp [(s "plan" 559),(s "many" 560),(s "at" 561)]::tp []::fn N "check_plan" "check_plan" (top 34) 0 N N::fl (ty "code") [(s "check_plan" 556),(s "check_plan" 557),(s "/claim/cut.py" 558),(i 109 0),(i 2 0),(i 0 0),(i 0 0),(i 3 0),(r 279),(b true),(i 181 0),(r 280),N,(r 281),(r 282),(r 283),(i 562 0),(i 109 0),(s "/claim/cut.py" 563)]::fn (ty "function") "check_plan" "check_plan" (top 34) 3 (s "wearplan.walks" 543) (r 284)::tp []::fl N []::tp [(s "works" 568),(s "plan" 569)]::tp []::fn N "price_of" "price_of" (top 35) 0 N N::fl (ty "code") [(s "price_of" 565),(s "price_of" 566),(s "/claim/cut.py" 567),(i 113 0),(i 2 0),(i 0 0),(i 0 0),(i 3 0),(r 286),(b true),(i 181 0),(r 287),N,(r 288),(r 289),(r 290),(i 570 0),(i 113 0),(s "/claim/cut.py" 571)]::fn (ty "function") "price_of" "price_of" (top 35) 3 (s "wearplan.walks" 543) (r 291)::tp []::fl N []::fn N "costs_together" "costs_together" (top 36) 0 N N::fl (ty "code") [(s "costs_together" 573),(s "costs_together" 574),(s "/claim/cut.py" 575),(i 116 0),(i 2 0),(i 0 0),(i 0 0),(i 3 0),(r 293),(b true),(i 181 0),(r 294),N,N,N,(r 295),(i 576 0),(i 116 0),(s "/claim/cut.py" 577)]::fn (ty "function") "costs_together" "costs_together" (top 36) 3 (s "wearplan.walks" 543) (r 296)::tp []::fl N []::fn N "is_stands" "is_stands" (top 37) 0 N N::fl (ty "code") [(s "is_stands" 579),(s "is_stands" 580),(s "/claim/cut.py" 581),(i 118 0),(i 2 0),(i 0 0),(i 0 0),(i 3 0),(r 298),(b true),(i 181 0),(r 299),N,N,N,(r 300),(i 582 0),(i 118 0),(s "/claim/cut.py" 583)]::fn (ty "function") "is_stands" "is_stands" (top 37) 3 (s "wearplan.walks" 543) (r 301)::tp []::fl N []::tp [(s "works" 588),(s "stands" 589)]::tp []::fn N "check_stands" "check_stands" (top 38) 0 N N::fl (ty "code") [(s "check_stands" 585),(s "check_stands" 586),(s "/claim/cut.py" 587),(i 122 0),(i 2 0),(i 0 0),(i 0 0),(i 3 0),(r 303),(b true),(i 181 0),(r 304),N,(r 305),(r 306),(r 307),(i 590 0),(i 122 0),(s "/claim/cut.py" 591)]::fn (ty "function") "check_stands" "check_stands" (top 38) 3 (s "wearplan.walks" 543) (r 308)::tp []::fl N []::tp [(s "works" 596),(s "choice" 597),(s "round_number" 598)]::tp []::fn N "is_shut_to" "is_shut_to" (top 39) 0 N N::fl (ty "code") [(s "is_shut_to" 593),(s "is_shut_to" 594),(s "/claim/cut.py" 595),(i 125 0),(i 3 0),(i 0 0),(i 0 0),(i 3 0),(r 310),(b true),(i 181 0),(r 311),N,(r 312),(r 313),(r 314),(i 599 0),(i 125 0),(s "/claim/cut.py" 600)]::fn (ty "function") "is_shut_to" "is_shut_to" (top 39) 3 (s "wearplan.walks" 543) (r 315)::tp []::fl N []::tp [(s "works" 605),(s "stands" 606),(s "choice" 607),(s "round_number" 608),(s "behind" 609),(s "k" 610),(s "part" 611),(s "stand" 612)]::tp []::fn N "stands_behind" "stands_behind" (top 40) 0 N N::fl (ty "code") [(s "stands_behind" 602),(s "stands_behind" 603),(s "/claim/cut.py" 604),(i 127 0),(i 4 0),(i 0 0),(i 0 0),(i 3 0),(r 317),(b true),(i 181 0),(r 318),N,(r 319),(r 320),(r 321),(i 613 0),(i 127 0),(s "/claim/cut.py" 614)]::fn (ty "function") "stands_behind" "stands_behind" (top 40) 3 (s "wearplan.walks" 543) (r 322)::tp []::fl N []::tp [(s "works" 619),(s "behind" 620),(s "k" 621),(s "part" 622)]::tp []::fn N "first_fallen" "first_fallen" (top 41) 0 N N::fl (ty "code") [(s "first_fallen" 616),(s "first_fallen" 617),(s "/claim/cut.py" 618),(i 133 0),(i 2 0),(i 0 0),(i 0 0),(i 3 0),(r 324),(b true),(i 181 0),(r 325),N,(r 326),(r 327),(r 328),(i 623 0),(i 133 0),(s "/claim/cut.py" 624)]::fn (ty "function") "first_fallen" "first_fallen" (top 41) 3 (s "wearplan.walks" 543) (r 329)::tp []::fl N []::tp [(s "works" 629),(s "stands" 630),(s "choice" 631),(s "round_number" 632),(s "behind" 633),(s "fallen" 634)]::tp []::fn N "do_round" "do_round" (top 42) 0 N N::fl (ty "code") [(s "do_round" 626),(s "do_round" 627),(s "/claim/cut.py" 628),(i 138 0),(i 4 0),(i 0 0),(i 0 0),(i 3 0),(r 331),(b true),(i 181 0),(r 332),N,(r 333),(r 334),(r 335),(i 635 0),(i 138 0),(s "/claim/cut.py" 636)]::fn (ty "function") "do_round" "do_round" (top 42) 3 (s "wearplan.walks" 543) (r 336)::tp []::fl N []::tp [(s "works" 641),(s "stands" 642),(s "plan" 643),(s "first" 644),(s "path" 645),(s "k" 646),(s "choice" 647)]::tp []::fn N "path_of" "path_of" (top 43) 0 N N::fl (ty "code") [(s "path_of" 638),(s "path_of" 639),(s "/claim/cut.py" 640),(i 146 0),(i 4 0),(i 0 0),(i 0 0),(i 3 0),(r 338),(b true),(i 181 0),(r 339),N,(r 340),(r 341),(r 342),(i 648 0),(i 146 0),(s "/claim/cut.py" 649)]::fn (ty "function") "path_of" "path_of" (top 43) 3 (s "wearplan.walks" 543) (r 343)::tp []::fl N []::tp [(s "works" 654),(s "stands" 655),(s "plan" 656),(s "first" 657)]::tp []::fn N "walk" "walk" (top 44) 0 N N::fl (ty "code") [(s "walk" 651),(s "walk" 652),(s "/claim/cut.py" 653),(i 151 0),(i 4 0),(i 0 0),(i 0 0),(i 3 0),(r 345),(b true),(i 181 0),(r 346),N,(r 347),(r 348),(r 349),(i 658 0),(i 151 0),(s "/claim/cut.py" 659)]::fn (ty "function") "walk" "walk" (top 44) 3 (s "wearplan.walks" 543) (r 350):: [])
noncomputable def t11(P:Params):BT:=insL (g11 P) 272 (setL [(3,o3_10 P),(12,o12_11 P)] (t10 P))
theorem pc11(w:World)(os:OsState):segRun treeTable PW w 11 (some (r 6)) 1 386 (SharedT.abs ⟨t10 w.params,272,life,⟨[]⟩,drawn,545,os⟩) (piecesOf sts11 env cE ⟨101,0,101,8⟩ BB)=some (.next,(SharedT.abs ⟨t11 w.params,352,life,⟨[]⟩,drawn,663,os⟩),cE,⟨156,0,156,8⟩):=segRun_of (i6 (by kernel_rfl))
noncomputable def sts12:List Stmt:=[top 46,top 47,top 48,top 49,top 50,top 51,top 52,top 53,top 54,top 55,top 56,top 57,top 58]
noncomputable def e3_11(P:Params):List DictEntry:=(e3_10 P)++[en P "_law_cell" 670 (r 358),en P "_law_draw" 680 (r 365),en P "_law_deck" 688 (r 372),en P "_law_take" 697 (r 379),en P "_law_spec" 703 (r 384),en P "_law_part" 710 (r 391),en P "_law_after" 725 (r 398),en P "_law_works" 731 (r 403),en P "_law_made" 737 (r 408),en P "_law_stands" 743 (r 413),en P "_law_cost" 749 (r 418),en P "_law_choices" 755 (r 423),en P "_law_ways" 767 (r 430)]
noncomputable def o3_11(P:Params):Obj:=di (e3_11 P) 62
noncomputable def z1p(P:Params):List Value:=z1q P++[(i 157 0),(i 0 0),(r 357),(i 161 0),(i 0 0),(r 364),(i 165 0),(i 0 0),(r 371),(i 168 0),(i 0 0),(r 378),(i 175 0),(i 0 0),(r 383),(i 187 0),(i 0 0),(r 390),(i 189 0),(i 0 0),(r 397),(i 198 0),(i 0 0),(r 402),(i 206 0),(i 0 0),(r 407),(i 208 0),(i 0 0),(r 412),(i 212 0),(i 0 0),(r 417),(i 216 0),(i 0 0),(r 422),(i 221 0),(i 0 0),(r 429)]
noncomputable def o12_12(P:Params):Obj:=fl N (z1p P)
noncomputable def g12(P:Params):List Obj:=(tp []::fl N []::tp [(s "_law_script" 666),(s "_law_k" 667)]::tp []::fn N "_law_cell" "_law_cell" (top 46) 0 N N::fl (ty "code") [(s "_law_cell" 663),(s "_law_cell" 664),(s "/claim/cut.py" 665),(i 157 0),(i 2 0),(i 0 0),(i 0 0),(i 3 0),(r 352),(b true),(i 181 0),(r 353),N,(r 354),(r 355),(r 356),(i 668 0),(i 157 0),(s "/claim/cut.py" 669)]::fn (ty "function") "_law_cell" "_law_cell" (top 46) 3 (s "law_wearplan_k08_whole_several_at_once" 661) (r 357)::tp []::fl N []::tp [(s "_law_script" 674),(s "_law_k" 675),(s "_law_many" 676),(s "_law_a" 677)]::tp []::fn N "_law_draw" "_law_draw" (top 47) 0 N N::fl (ty "code") [(s "_law_draw" 671),(s "_law_draw" 672),(s "/claim/cut.py" 673),(i 161 0),(i 3 0),(i 0 0),(i 0 0),(i 3 0),(r 359),(b true),(i 181 0),(r 360),N,(r 361),(r 362),(r 363),(i 678 0),(i 161 0),(s "/claim/cut.py" 679)]::fn (ty "function") "_law_draw" "_law_draw" (top 47) 3 (s "law_wearplan_k08_whole_several_at_once" 661) (r 364)::tp []::fl N []::tp [(s "_law_script" 684),(s "_law_cell_here" 685)]::tp []::fn N "_law_deck" "_law_deck" (top 48) 0 N N::fl (ty "code") [(s "_law_deck" 681),(s "_law_deck" 682),(s "/claim/cut.py" 683),(i 165 0),(i 1 0),(i 0 0),(i 0 0),(i 3 0),(r 366),(b true),(i 181 0),(r 367),N,(r 368),(r 369),(r 370),(i 686 0),(i 165 0),(s "/claim/cut.py" 687)]::fn (ty "function") "_law_deck" "_law_deck" (top 48) 3 (s "law_wearplan_k08_whole_several_at_once" 661) (r 371)::tp []::fl N []::tp [(s "_law_deck_here" 692),(s "_law_many" 693),(s "_law_digit" 694)]::tp []::fn N "_law_take" "_law_take" (top 49) 0 N N::fl (ty "code") [(s "_law_take" 689),(s "_law_take" 690),(s "/claim/cut.py" 691),(i 168 0),(i 2 0),(i 0 0),(i 0 0),(i 3 0),(r 373),(b true),(i 181 0),(r 374),N,(r 375),(r 376),(r 377),(i 695 0),(i 168 0),(s "/claim/cut.py" 696)]::fn (ty "function") "_law_take" "_law_take" (top 49) 3 (s "law_wearplan_k08_whole_several_at_once" 661) (r 378)::tp []::fl N []::fn N "_law_spec" "_law_spec" (top 50) 0 N N::fl (ty "code") [(s "_law_spec" 698),(s "_law_spec" 699),(s "/claim/cut.py" 700),(i 175 0),(i 2 0),(i 0 0),(i 0 0),(i 3 0),(r 380),(b true),(i 181 0),(r 381),N,N,N,(r 382),(i 701 0),(i 175 0),(s "/claim/cut.py" 702)]::fn (ty "function") "_law_spec" "_law_spec" (top 50) 3 (s "law_wearplan_k08_whole_several_at_once" 661) (r 383)::tp []::fl N []::tp [(s "_law_spec_here" 707)]::tp []::fn N "_law_part" "_law_part" (top 51) 0 N N::fl (ty "code") [(s "_law_part" 704),(s "_law_part" 705),(s "/claim/cut.py" 706),(i 187 0),(i 1 0),(i 0 0),(i 0 0),(i 3 0),(r 385),(b true),(i 181 0),(r 386),N,(r 387),(r 388),(r 389),(i 708 0),(i 187 0),(s "/claim/cut.py" 709)]::fn (ty "function") "_law_part" "_law_part" (top 51) 3 (s "law_wearplan_k08_whole_several_at_once" 661) (r 390)::tp []::fl N []::tp [(s "_law_specs" 714),(s "_law_stands_here" 715),(s "_law_chosen" 716),(s "_law_number" 717),(s "_law_found" 718),(s "_law_at" 719),(s "_law_spec_here" 720),(s "_law_stand" 721),(s "_law_left" 722)]::tp []::fn N "_law_after" "_law_after" (top 52) 0 N N::fl (ty "code") [(s "_law_after" 711),(s "_law_after" 712),(s "/claim/cut.py" 713),(i 189 0),(i 4 0),(i 0 0),(i 0 0),(i 3 0),(r 392),(b true),(i 181 0),(r 393),N,(r 394),(r 395),(r 396),(i 723 0),(i 189 0),(s "/claim/cut.py" 724)]::fn (ty "function") "_law_after" "_law_after" (top 52) 3 (s "law_wearplan_k08_whole_several_at_once" 661) (r 397)::tp []::fl N []::fn N "_law_works" "_law_works" (top 53) 0 N N::fl (ty "code") [(s "_law_works" 726),(s "_law_works" 727),(s "/claim/cut.py" 728),(i 198 0),(i 3 0),(i 0 0),(i 0 0),(i 3 0),(r 399),(b true),(i 181 0),(r 400),N,N,N,(r 401),(i 729 0),(i 198 0),(s "/claim/cut.py" 730)]::fn (ty "function") "_law_works" "_law_works" (top 53) 3 (s "law_wearplan_k08_whole_several_at_once" 661) (r 402)::tp []::fl N []::fn N "_law_made" "_law_made" (top 54) 0 N N::fl (ty "code") [(s "_law_made" 732),(s "_law_made" 733),(s "/claim/cut.py" 734),(i 206 0),(i 1 0),(i 0 0),(i 0 0),(i 3 0),(r 404),(b true),(i 181 0),(r 405),N,N,N,(r 406),(i 735 0),(i 206 0),(s "/claim/cut.py" 736)]::fn (ty "function") "_law_made" "_law_made" (top 54) 3 (s "law_wearplan_k08_whole_several_at_once" 661) (r 407)::tp []::fl N []::fn N "_law_stands" "_law_stands" (top 55) 0 N N::fl (ty "code") [(s "_law_stands" 738),(s "_law_stands" 739),(s "/claim/cut.py" 740),(i 208 0),(i 2 0),(i 0 0),(i 0 0),(i 3 0),(r 409),(b true),(i 181 0),(r 410),N,N,N,(r 411),(i 741 0),(i 208 0),(s "/claim/cut.py" 742)]::fn (ty "function") "_law_stands" "_law_stands" (top 55) 3 (s "law_wearplan_k08_whole_several_at_once" 661) (r 412)::tp []::fl N []::fn N "_law_cost" "_law_cost" (top 56) 0 N N::fl (ty "code") [(s "_law_cost" 744),(s "_law_cost" 745),(s "/claim/cut.py" 746),(i 212 0),(i 2 0),(i 0 0),(i 0 0),(i 3 0),(r 414),(b true),(i 181 0),(r 415),N,N,N,(r 416),(i 747 0),(i 212 0),(s "/claim/cut.py" 748)]::fn (ty "function") "_law_cost" "_law_cost" (top 56) 3 (s "law_wearplan_k08_whole_several_at_once" 661) (r 417)::tp []::fl N []::fn N "_law_choices" "_law_choices" (top 57) 0 N N::fl (ty "code") [(s "_law_choices" 750),(s "_law_choices" 751),(s "/claim/cut.py" 752),(i 216 0),(i 1 0),(i 0 0),(i 0 0),(i 3 0),(r 419),(b true),(i 181 0),(r 420),N,N,N,(r 421),(i 753 0),(i 216 0),(s "/claim/cut.py" 754)]::fn (ty "function") "_law_choices" "_law_choices" (top 57) 3 (s "law_wearplan_k08_whole_several_at_once" 661) (r 422)::tp []::fl N []::tp [(s "_law_told" 759),(s "_law_stands_here" 760),(s "_law_number" 761),(s "_law_found" 762),(s "_law_chosen" 763),(s "_law_left" 764)]::tp []::fn N "_law_ways" "_law_ways" (top 58) 0 N N::fl (ty "code") [(s "_law_ways" 756),(s "_law_ways" 757),(s "/claim/cut.py" 758),(i 221 0),(i 3 0),(i 0 0),(i 0 0),(i 3 0),(r 424),(b true),(i 181 0),(r 425),N,(r 426),(r 427),(r 428),(i 765 0),(i 221 0),(s "/claim/cut.py" 766)]::fn (ty "function") "_law_ways" "_law_ways" (top 58) 3 (s "law_wearplan_k08_whole_several_at_once" 661) (r 429):: [])
noncomputable def t12(P:Params):BT:=insL (g12 P) 352 (setL [(3,o3_11 P),(12,o12_12 P)] (t11 P))
theorem pc12(w:World)(os:OsState):segRun treeTable PW w 11 (some (r 6)) 1 380 (SharedT.abs ⟨t11 w.params,352,life,⟨[]⟩,drawn,663,os⟩) (piecesOf sts12 env cE ⟨156,0,156,8⟩ BB)=some (.next,(SharedT.abs ⟨t12 w.params,431,life,⟨[]⟩,drawn,768,os⟩),cE,⟨221,0,227,21⟩):=segRun_of (i6 (by kernel_rfl))
noncomputable def sts13:List Stmt:=[top 59,top 60,top 61]
noncomputable def e3_12(P:Params):List DictEntry:=(e3_11 P)++[en P "_law_holding" 773 (r 435),en P "_law_together" 779 (r 440),en P "law" 785 (r 445)]
noncomputable def x1b(P:Params):Obj:=di (e3_12 P) 65
noncomputable def e12_13(P:Params):List Value:=z1p P++[(i 228 0),(i 0 0),(r 434),(i 242 0),(i 0 0),(r 439),(i 245 0),(i 0 0),(r 444)]
noncomputable def z1o(P:Params):Obj:=fl N (e12_13 P)
noncomputable def g13(P:Params):List Obj:=[tp [],fl N [],fn N "_law_holding" "_law_holding" (top 59) 0 N N,fl (ty "code") [(s "_law_holding" 768),(s "_law_holding" 769),(s "/claim/cut.py" 770),(i 228 0),(i 5 0),(i 0 0),(i 0 0),(i 3 0),(r 431),(b true),(i 181 0),(r 432),N,N,N,(r 433),(i 771 0),(i 228 0),(s "/claim/cut.py" 772)],fn (ty "function") "_law_holding" "_law_holding" (top 59) 3 (s "law_wearplan_k08_whole_several_at_once" 661) (r 434),tp [],fl N [],fn N "_law_together" "_law_together" (top 60) 0 N N,fl (ty "code") [(s "_law_together" 774),(s "_law_together" 775),(s "/claim/cut.py" 776),(i 242 0),(i 4 0),(i 0 0),(i 0 0),(i 3 0),(r 436),(b true),(i 181 0),(r 437),N,N,N,(r 438),(i 777 0),(i 242 0),(s "/claim/cut.py" 778)],fn (ty "function") "_law_together" "_law_together" (top 60) 3 (s "law_wearplan_k08_whole_several_at_once" 661) (r 439),tp [],fl N [],fn N "law" "law" (top 61) 0 N N,fl (ty "code") [(s "law" 780),(s "law" 781),(s "/claim/cut.py" 782),(i 245 0),(i 1 0),(i 0 0),(i 0 0),(i 3 0),(r 441),(b true),(i 181 0),(r 442),N,N,N,(r 443),(i 783 0),(i 245 0),(s "/claim/cut.py" 784)],fn (ty "function") "law" "law" (top 61) 3 (s "law_wearplan_k08_whole_several_at_once" 661) (r 444)]
noncomputable def t13(P:Params):BT:=insL (g13 P) 431 (setL [(3,x1b P),(12,z1o P)] (t12 P))
theorem pc13(w:World)(os:OsState):segRun treeTable PW w 11 (some (r 6)) 1 79 (SharedT.abs ⟨t12 w.params,431,life,⟨[]⟩,drawn,768,os⟩) (piecesOf sts13 env cE ⟨221,0,227,21⟩ BB)=some (.next,(SharedT.abs ⟨t13 w.params,446,life,⟨[]⟩,drawn,786,os⟩),cE,⟨245,0,269,138⟩):=segRun_of (i6 (by kernel_rfl))
noncomputable def HF(P:Params):Heap:=⟨⟨[(boot_o_0 P),(boot_o_1 P),(boot_o_2 P),(x1b P),(boot_o_4 P),(boot_o_5 P),(boot_o_6 P),(boot_o_7 P),(boot_o_8 P),(boot_o_9 P),(boot_o_10 P),(o11_0 P),(z1o P),(o13_0 P),(o14_0 P)]++(((g1 P).set 9 (x1c P))++((g2 P)++((g3 P)++((g4 P)++((g5 P)++((g6 P)++((g7 P)++((g8 P)++((g9 P)++((g10 P)++((g11 P)++((g12 P)++((g13 P))))))))))))))⟩,life⟩
theorem fin(w:World)(os:OsState):topRun treeTable PW w 11 (some (r 6)) 2 (SharedT.abs ⟨t13 w.params,446,life,⟨[]⟩,drawn,786,os⟩) (restOf [] env cE ⟨245,0,269,138⟩ BB)=some ⟨HF w.params,⟨[]⟩,drawn,786,os⟩:=piece_nil (x1k (by kernel_rfl))
theorem x1a:behindTheImports PW=(sts1++(sts2++(sts3++(sts4++(sts5++(sts6++(sts7++(sts8++(sts9++(sts10++(sts11++(sts12++(sts13++[]))))))))))))):=by kernel_rfl
theorem run(w:World)(os:OsState):topRun treeTable PW w 11 (some (r 6)) (12+(1+(196+(246+(246+(214+(214+(246+(246+(398+(381+(377+(386+(380+(79+2))))))))))))))) ⟨boot_heap w.params,⟨[]⟩,boot_drawn,boot_toks,os⟩ (topStub PW)=some ⟨HF w.params,⟨[]⟩,drawn,786,os⟩:=
 go_top (pre w os) (m0x x1a (blk w os) (piece_app (pc1 w os) (piece_app (pc2 w os) (piece_app (pc3 w os) (piece_app (pc4 w os) (piece_app (pc5 w os) (piece_app (pc6 w os) (piece_app (pc7 w os) (piece_app (pc8 w os) (piece_app (pc9 w os) (piece_app (pc10 w os) (piece_app (pc11 w os) (piece_app (pc12 w os) (piece_app (pc13 w os) (fin w os)))))))))))))))
noncomputable def K(P:Params):Frag:=((nat_lit 2,boot_o_2 P)::(nat_lit 3,x1b P)::(nat_lit 15,x g1 0 P)::(nat_lit 22,x g1 7 P)::(nat_lit 23,x g1 8 P)::(nat_lit 24,x1c P)::(nat_lit 25,x g1 10 P)::(nat_lit 28,x g2 0 P)::(nat_lit 35,x g2 7 P)::(nat_lit 37,x g2 9 P)::(nat_lit 38,x g2 10 P)::(nat_lit 40,x g2 12 P)::(nat_lit 41,x g2 13 P)::(nat_lit 42,x g2 14 P)::(nat_lit 43,x g2 15 P)::(nat_lit 44,x g2 16 P)::(nat_lit 47,x g3 0 P)::(nat_lit 54,x g3 7 P)::(nat_lit 56,x g3 9 P)::(nat_lit 57,x g3 10 P)::(nat_lit 59,x g3 12 P)::(nat_lit 60,x g3 13 P)::(nat_lit 61,x g3 14 P)::(nat_lit 62,x g3 15 P)::(nat_lit 63,x g3 16 P)::(nat_lit 66,x g4 0 P)::(nat_lit 73,x g4 7 P)::(nat_lit 74,x g4 8 P)::(nat_lit 75,x g4 9 P)::(nat_lit 78,x g5 0 P)::(nat_lit 85,x g5 7 P)::(nat_lit 86,x g5 8 P)::(nat_lit 87,x g5 9 P)::(nat_lit 90,x g6 0 P)::(nat_lit 97,x g6 7 P)::(nat_lit 99,x g6 9 P)::(nat_lit 100,x g6 10 P)::(nat_lit 102,x g6 12 P)::(nat_lit 103,x g6 13 P)::(nat_lit 104,x g6 14 P)::(nat_lit 105,x g6 15 P)::(nat_lit 106,x g6 16 P)::(nat_lit 109,x g7 0 P)::(nat_lit 116,x g7 7 P)::(nat_lit 118,x g7 9 P)::(nat_lit 119,x g7 10 P)::(nat_lit 121,x g7 12 P)::(nat_lit 122,x g7 13 P)::(nat_lit 123,x g7 14 P)::(nat_lit 124,x g7 15 P)::(nat_lit 125,x g7 16 P)::(nat_lit 128,x g8 0 P)::(nat_lit 135,x g8 7 P)::(nat_lit 137,x g8 9 P)::(nat_lit 138,x g8 10 P)::(nat_lit 140,x g8 12 P)::(nat_lit 141,x g8 13 P)::(nat_lit 142,x g8 14 P)::(nat_lit 143,x g8 15 P)::(nat_lit 144,x g8 16 P)::(nat_lit 147,x g8 19 P)::(nat_lit 149,x g8 21 P)::(nat_lit 150,x g8 22 P)::(nat_lit 152,x g8 24 P)::(nat_lit 153,x g8 25 P)::(nat_lit 154,x g8 26 P)::(nat_lit 156,x g8 28 P)::(nat_lit 157,x g8 29 P)::(nat_lit 159,x g8 31 P)::(nat_lit 160,x g8 32 P)::(nat_lit 161,x g8 33 P)::(nat_lit 163,x g8 35 P)::(nat_lit 164,x g8 36 P)::(nat_lit 166,x g8 38 P)::(nat_lit 167,x g8 39 P)::(nat_lit 168,x g8 40 P)::(nat_lit 171,x g8 43 P)::(nat_lit 172,x g8 44 P)::(nat_lit 173,x g8 45 P)::(nat_lit 176,x g8 48 P)::(nat_lit 177,x g8 49 P)::(nat_lit 185,x g9 7 P)::(nat_lit 187,x g9 9 P)::(nat_lit 188,x g9 10 P)::(nat_lit 190,x g9 12 P)::(nat_lit 191,x g9 13 P)::(nat_lit 192,x g9 14 P)::(nat_lit 193,x g9 15 P)::(nat_lit 194,x g9 16 P)::(nat_lit 195,x g9 17 P)::(nat_lit 196,x g9 18 P)::(nat_lit 199,x g9 21 P)::(nat_lit 201,x g9 23 P)::(nat_lit 202,x g9 24 P)::(nat_lit 204,x g9 26 P)::(nat_lit 205,x g9 27 P)::(nat_lit 206,x g9 28 P)::(nat_lit 208,x g9 30 P)::(nat_lit 209,x g9 31 P)::(nat_lit 211,x g9 33 P)::(nat_lit 212,x g9 34 P)::(nat_lit 213,x g9 35 P)::(nat_lit 215,x g9 37 P)::(nat_lit 216,x g9 38 P)::(nat_lit 218,x g9 40 P)::(nat_lit 219,x g9 41 P)::(nat_lit 227,x g10 7 P)::(nat_lit 229,x g10 9 P)::(nat_lit 230,x g10 10 P)::(nat_lit 232,x g10 12 P)::(nat_lit 233,x g10 13 P)::(nat_lit 234,x g10 14 P)::(nat_lit 235,x g10 15 P)::(nat_lit 236,x g10 16 P)::(nat_lit 237,x g10 17 P)::(nat_lit 238,x g10 18 P)::(nat_lit 241,x g10 21 P)::(nat_lit 244,x g10 24 P)::(nat_lit 245,x g10 25 P)::(nat_lit 246,x g10 26 P)::(nat_lit 248,x g10 28 P)::(nat_lit 249,x g10 29 P)::(nat_lit 251,x g10 31 P)::(nat_lit 252,x g10 32 P)::(nat_lit 253,x g10 33 P)::(nat_lit 255,x g10 35 P)::(nat_lit 256,x g10 36 P)::(nat_lit 258,x g10 38 P)::(nat_lit 259,x g10 39 P)::(nat_lit 260,x g10 40 P)::(nat_lit 262,x g10 42 P)::(nat_lit 263,x g10 43 P)::(nat_lit 265,x g10 45 P)::(nat_lit 266,x g10 46 P)::(nat_lit 267,x g10 47 P)::(nat_lit 270,x g10 50 P)::(nat_lit 271,x g10 51 P)::(nat_lit 272,x g11 0 P)::(nat_lit 274,x g11 2 P)::(nat_lit 275,x g11 3 P)::(nat_lit 277,x g11 5 P)::(nat_lit 278,x g11 6 P)::(nat_lit 279,x g11 7 P)::(nat_lit 281,x g11 9 P)::(nat_lit 282,x g11 10 P)::(nat_lit 284,x g11 12 P)::(nat_lit 285,x g11 13 P)::(nat_lit 286,x g11 14 P)::(nat_lit 288,x g11 16 P)::(nat_lit 289,x g11 17 P)::(nat_lit 291,x g11 19 P)::(nat_lit 292,x g11 20 P)::(nat_lit 293,x g11 21 P)::(nat_lit 296,x g11 24 P)::(nat_lit 297,x g11 25 P)::(nat_lit 298,x g11 26 P)::(nat_lit 301,x g11 29 P)::(nat_lit 302,x g11 30 P)::(nat_lit 303,x g11 31 P)::(nat_lit 305,x g11 33 P)::(nat_lit 306,x g11 34 P)::(nat_lit 308,x g11 36 P)::(nat_lit 309,x g11 37 P)::(nat_lit 310,x g11 38 P)::(nat_lit 312,x g11 40 P)::(nat_lit 313,x g11 41 P)::(nat_lit 315,x g11 43 P)::(nat_lit 316,x g11 44 P)::(nat_lit 317,x g11 45 P)::(nat_lit 319,x g11 47 P)::(nat_lit 320,x g11 48 P)::(nat_lit 322,x g11 50 P)::(nat_lit 323,x g11 51 P)::(nat_lit 324,x g11 52 P)::(nat_lit 326,x g11 54 P)::(nat_lit 327,x g11 55 P)::(nat_lit 329,x g11 57 P)::(nat_lit 330,x g11 58 P)::(nat_lit 331,x g11 59 P)::(nat_lit 333,x g11 61 P)::(nat_lit 334,x g11 62 P)::(nat_lit 336,x g11 64 P)::(nat_lit 337,x g11 65 P)::(nat_lit 338,x g11 66 P)::(nat_lit 340,x g11 68 P)::(nat_lit 341,x g11 69 P)::(nat_lit 343,x g11 71 P)::(nat_lit 344,x g11 72 P)::(nat_lit 345,x g11 73 P)::(nat_lit 347,x g11 75 P)::(nat_lit 348,x g11 76 P)::(nat_lit 350,x g11 78 P)::(nat_lit 351,x g11 79 P)::(nat_lit 352,x g12 0 P)::(nat_lit 354,x g12 2 P)::(nat_lit 355,x g12 3 P)::(nat_lit 357,x g12 5 P)::(nat_lit 358,x g12 6 P)::(nat_lit 359,x g12 7 P)::(nat_lit 361,x g12 9 P)::(nat_lit 362,x g12 10 P)::(nat_lit 364,x g12 12 P)::(nat_lit 365,x g12 13 P)::(nat_lit 366,x g12 14 P)::(nat_lit 368,x g12 16 P)::(nat_lit 369,x g12 17 P)::(nat_lit 371,x g12 19 P)::(nat_lit 372,x g12 20 P)::(nat_lit 373,x g12 21 P)::(nat_lit 375,x g12 23 P)::(nat_lit 376,x g12 24 P)::(nat_lit 378,x g12 26 P)::(nat_lit 379,x g12 27 P)::(nat_lit 380,x g12 28 P)::(nat_lit 383,x g12 31 P)::(nat_lit 384,x g12 32 P)::(nat_lit 385,x g12 33 P)::(nat_lit 387,x g12 35 P)::(nat_lit 388,x g12 36 P)::(nat_lit 390,x g12 38 P)::(nat_lit 391,x g12 39 P)::(nat_lit 392,x g12 40 P)::(nat_lit 394,x g12 42 P)::(nat_lit 395,x g12 43 P)::(nat_lit 397,x g12 45 P)::(nat_lit 398,x g12 46 P)::(nat_lit 399,x g12 47 P)::(nat_lit 402,x g12 50 P)::(nat_lit 403,x g12 51 P)::(nat_lit 404,x g12 52 P)::(nat_lit 407,x g12 55 P)::(nat_lit 408,x g12 56 P)::(nat_lit 409,x g12 57 P)::(nat_lit 412,x g12 60 P)::(nat_lit 413,x g12 61 P)::(nat_lit 419,x g12 67 P)::(nat_lit 422,x g12 70 P)::(nat_lit 423,x g12 71 P)::(nat_lit 431,x g13 0 P)::(nat_lit 434,x g13 3 P)::(nat_lit 435,x g13 4 P)::(nat_lit 436,x g13 5 P)::(nat_lit 439,x g13 8 P)::(nat_lit 440,x g13 9 P)::(nat_lit 441,x g13 10 P)::(nat_lit 444,x g13 13 P)::(nat_lit 445,x g13 14 P):: [])
noncomputable def as:List Addr:=(nat_lit 2::nat_lit 3::nat_lit 15::nat_lit 22::nat_lit 23::nat_lit 24::nat_lit 25::nat_lit 28::nat_lit 35::nat_lit 37::nat_lit 38::nat_lit 40::nat_lit 41::nat_lit 42::nat_lit 43::nat_lit 44::nat_lit 47::nat_lit 54::nat_lit 56::nat_lit 57::nat_lit 59::nat_lit 60::nat_lit 61::nat_lit 62::nat_lit 63::nat_lit 66::nat_lit 73::nat_lit 74::nat_lit 75::nat_lit 78::nat_lit 85::nat_lit 86::nat_lit 87::nat_lit 90::nat_lit 97::nat_lit 99::nat_lit 100::nat_lit 102::nat_lit 103::nat_lit 104::nat_lit 105::nat_lit 106::nat_lit 109::nat_lit 116::nat_lit 118::nat_lit 119::nat_lit 121::nat_lit 122::nat_lit 123::nat_lit 124::nat_lit 125::nat_lit 128::nat_lit 135::nat_lit 137::nat_lit 138::nat_lit 140::nat_lit 141::nat_lit 142::nat_lit 143::nat_lit 144::nat_lit 147::nat_lit 149::nat_lit 150::nat_lit 152::nat_lit 153::nat_lit 154::nat_lit 156::nat_lit 157::nat_lit 159::nat_lit 160::nat_lit 161::nat_lit 163::nat_lit 164::nat_lit 166::nat_lit 167::nat_lit 168::nat_lit 171::nat_lit 172::nat_lit 173::nat_lit 176::nat_lit 177::nat_lit 185::nat_lit 187::nat_lit 188::nat_lit 190::nat_lit 191::nat_lit 192::nat_lit 193::nat_lit 194::nat_lit 195::nat_lit 196::nat_lit 199::nat_lit 201::nat_lit 202::nat_lit 204::nat_lit 205::nat_lit 206::nat_lit 208::nat_lit 209::nat_lit 211::nat_lit 212::nat_lit 213::nat_lit 215::nat_lit 216::nat_lit 218::nat_lit 219::nat_lit 227::nat_lit 229::nat_lit 230::nat_lit 232::nat_lit 233::nat_lit 234::nat_lit 235::nat_lit 236::nat_lit 237::nat_lit 238::nat_lit 241::nat_lit 244::nat_lit 245::nat_lit 246::nat_lit 248::nat_lit 249::nat_lit 251::nat_lit 252::nat_lit 253::nat_lit 255::nat_lit 256::nat_lit 258::nat_lit 259::nat_lit 260::nat_lit 262::nat_lit 263::nat_lit 265::nat_lit 266::nat_lit 267::nat_lit 270::nat_lit 271::nat_lit 272::nat_lit 274::nat_lit 275::nat_lit 277::nat_lit 278::nat_lit 279::nat_lit 281::nat_lit 282::nat_lit 284::nat_lit 285::nat_lit 286::nat_lit 288::nat_lit 289::nat_lit 291::nat_lit 292::nat_lit 293::nat_lit 296::nat_lit 297::nat_lit 298::nat_lit 301::nat_lit 302::nat_lit 303::nat_lit 305::nat_lit 306::nat_lit 308::nat_lit 309::nat_lit 310::nat_lit 312::nat_lit 313::nat_lit 315::nat_lit 316::nat_lit 317::nat_lit 319::nat_lit 320::nat_lit 322::nat_lit 323::nat_lit 324::nat_lit 326::nat_lit 327::nat_lit 329::nat_lit 330::nat_lit 331::nat_lit 333::nat_lit 334::nat_lit 336::nat_lit 337::nat_lit 338::nat_lit 340::nat_lit 341::nat_lit 343::nat_lit 344::nat_lit 345::nat_lit 347::nat_lit 348::nat_lit 350::nat_lit 351::nat_lit 352::nat_lit 354::nat_lit 355::nat_lit 357::nat_lit 358::nat_lit 359::nat_lit 361::nat_lit 362::nat_lit 364::nat_lit 365::nat_lit 366::nat_lit 368::nat_lit 369::nat_lit 371::nat_lit 372::nat_lit 373::nat_lit 375::nat_lit 376::nat_lit 378::nat_lit 379::nat_lit 380::nat_lit 383::nat_lit 384::nat_lit 385::nat_lit 387::nat_lit 388::nat_lit 390::nat_lit 391::nat_lit 392::nat_lit 394::nat_lit 395::nat_lit 397::nat_lit 398::nat_lit 399::nat_lit 402::nat_lit 403::nat_lit 404::nat_lit 407::nat_lit 408::nat_lit 409::nat_lit 412::nat_lit 413::nat_lit 419::nat_lit 422::nat_lit 423::nat_lit 431::nat_lit 434::nat_lit 435::nat_lit 436::nat_lit 439::nat_lit 440::nat_lit 441::nat_lit 444::nat_lit 445:: [])
noncomputable def Q:Program:={PW with main:={PW.main with body:=(top 1::top 2::top 3::top 4::top 5::top 6::top 7::top 8::top 10::top 11::top 12::top 13::top 14::top 16::top 17::top 18::top 19::top 20::top 21::top 23::top 24::top 25::top 26::top 27::top 28::top 29::top 30::top 31::top 33::top 34::top 35::top 36::top 37::top 38::top 39::top 40::top 41::top 42::top 43::top 44::top 46::top 47::top 48::top 49::top 50::top 51::top 52::top 53::top 54::top 55::top 56::top 57::top 58::top 59::top 60::top 61:: [])}}
noncomputable abbrev HK:Hook:=kHook K as (fun _=>by kernel_rfl)
noncomputable abbrev RR:RowW:=OpenRow.toRowW (OpenLaw.row PySem.Challenge.rw_wearplan_k08_whole_several_at_once)
noncomputable abbrev Xt(s:Shared):Bool:=xlAt Q [] s&&recOk (RowW.records RR) s
theorem w1z(w:World):((boot_heap w.params).isNs mainGlobals&&(Array.mk ([]:List GenState)).size==0,(boot_heap w.params).objs.size,(boot_heap w.params).nsMap mainGlobals "__annotations__")=(true,11,some (.ref 6)):=by kernel_rfl
theorem look1(w:World)(os:OsState):(staticsOk (importedModules PW.main.body) (boot_heap w.params) (HF w.params)&&namesBound PW (HF w.params)&&gensDone (⟨HF w.params,⟨[]⟩,drawn,786,os⟩:Shared)&&laidKept (boot_heap w.params) (HF w.params))=true:=by kernel_rfl
theorem look2(w:World)(os:OsState):openSeen Q [] (importedModules PW.main.body) Xt true (⟨HF w.params,⟨[]⟩,drawn,786,os⟩:Shared)=openGood Q []:=by
 rw[PySem.W.Fast.te4187177175401517315,PySem.W.Fast.te5923862056798008813];kernel_rfl
theorem look3(w:World)(os:OsState):HK.obs (⟨HF w.params,⟨[]⟩,drawn,786,os⟩:Shared)=HK.val w:=by kernel_rfl
theorem g0z:opening PW=plainProg PW.main.scope.names:=by kernel_rfl
theorem a0p(s:Shared):fenceModules? PW s=some s:=by kernel_rfl
theorem left:LeftO PW Q [] Xt HK.obs HK.val 7318:=
 LeftO.of_pieces (boot_open g0z (by decide) a0p) w1z run (by decide) fun w=>funext fun os=>Prod.ext (look1 w os) (Prod.ext (look2 w os) (look3 w os))
theorem ws:OpenLaw.wellSaid PySem.Challenge.rw_wearplan_k08_whole_several_at_once=true:=by
 rw[PySem.W.Fast.te9446332074065402090];kernel_rfl
end HD08
local macro_rules
 | `(tactic|walk_at "n0")=>`(tactic|exact PySem.W.mg_none_of (by assumption) (by assumption) (by k_is))
 | `(tactic|walk_at "n1")=>`(tactic|exact ⟨_,PySem.W.mg_of (by assumption) (by assumption) (by k_is)⟩)
 | `(tactic|walk_at "n2")=>`(tactic|exact PySem.W.mg_of (by assumption) (by assumption) (by k_is))
 | `(tactic|walk_at "tr")=>`(tactic|exact DL.topRow3 (PySem.W.mg_of (by assumption) (by assumption) (by k_is)) (by k_is))
 | `(tactic|walk_at "hd")=>`(tactic|exact ⟨by k_is,by kernel_rfl,by k_is⟩)
 | `(tactic|walk_at "ci")=>`(tactic|exact ⟨⟨by k_is,by k_is,by k_is,by k_is⟩,by k_is,by k_is,by k_is,by k_is⟩)
 | `(tactic|walk_at "kn")=>`(tactic|exact ⟨by kernel_rfl,by kernel_rfl,by kernel_rfl,by kernel_rfl,by kernel_rfl,by kernel_rfl,by kernel_rfl⟩)
 | `(tactic|walk_at "na")=>`(tactic|(unfold L2.NoAttr;k_is))
 | `(tactic|walk_at "kr")=>`(tactic|kernel_rfl)
 | `(tactic|walk_at "x0")=>`(tactic|exact ⟨by kernel_rfl,by k_is⟩)
 | `(tactic|walk_at "er")=>`(tactic|exact ⟨by kernel_rfl,by k_is,⟨by kernel_rfl,by k_is,by k_is,by k_is,by k_is,by k_is,by k_is,by k_is⟩⟩)
 | `(tactic|walk_at "ff")=>`(tactic|exact ⟨_,_,by k_is,⟨⟨_,_,_,_,_,_,_,_,_,rfl,by k_is,by k_is⟩,by k_is⟩⟩)
 | `(tactic|walk_at "xm")=>`(tactic|exact ⟨_,_,⟨by kernel_rfl,by k_is,by k_is,by k_is⟩,⟨⟨_,_,_,_,_,_,_,_,_,rfl,by k_is,by k_is⟩,by k_is⟩⟩)
 | `(tactic|walk_at "mk")=>`(tactic|exact ⟨_,_,⟨by k_is,by k_is,by k_is,by k_is⟩,⟨⟨_,_,_,_,_,_,_,_,_,rfl,by k_is,by k_is⟩,by k_is⟩⟩)
open PySem PySem.W PyProof.Rows
set_option maxRecDepth 100000 in
set_option maxHeartbeats 0 in
theorem PySem.Challenge.cw_wearplan_k08_whole_several_at_once_holds : PySem.Challenge.rw_wearplan_k08_whole_several_at_once.Holds := by
 w_on
 refine holds_law HD08.ws fun said=>?_
 refine holds_open (r:=OpenLaw.row PySem.Challenge.rw_wearplan_k08_whole_several_at_once) (q:=HD08.Q) (loose:=[]) (Xt:=HD08.Xt) (XP:=XL HD08.Q []) (Yf:=HD08.HK.obs) (Ya:=HD08.HK.val) (YP:=InK HD08.K) (N:=7318) HD08.left (Hook.of HD08.HK) (Hook.keeps HD08.HK) (fun s e=>xl_of s (Bool.and_eq_true_iff.mp e).1) XL.keeps (by rfl) (by rfl) (by rfl) (fun s e=>recFacts_of (Bool.and_eq_true_iff.mp e).2) (by rfl) said (by decide +kernel) ⟨rfl,rfl,rfl,rfl,rfl,by decide +kernel⟩ ?hw ?hc
 (case hw=>w_witness2)
 k_fill
 refine DL.walk2 (l:=PySem.Challenge.rw_wearplan_k08_whole_several_at_once) (k:=12) (x:="_law_script") rfl rfl ⟨rfl,by decide,by decide⟩ (fun w h Y=>(show (HD08.K w.params).In h from Y)) fun w mg fa h KX G hmg=>?_
 have T:K08.Txt (HD08.K w.params) mg ⟨24,194,236,44,63,75,87,106,125,144⟩:=⟨by walk_at "n0",by walk_at "n0",by walk_at "n0",by walk_at "n0",by walk_at "n0",by walk_at "n0",by walk_at "n0",by walk_at "n0",by walk_at "n0",by walk_at "n0",by walk_at "n0",by walk_at "n0",by walk_at "n0",by walk_at "n0",by walk_at "n0",by walk_at "n0",by walk_at "n1",by walk_at "n1",by walk_at "n1",by walk_at "n1",by walk_at "n1",by walk_at "n2",by walk_at "hd",by walk_at "n2",by walk_at "ci",by walk_at "kn",by walk_at "na",by walk_at "na",by walk_at "na",by walk_at "na",by walk_at "n2",by walk_at "ci",by walk_at "kn",by walk_at "na",by walk_at "na",by walk_at "na",List.forall_mem_cons.mpr ⟨by walk_at "er",List.forall_mem_cons.mpr ⟨by walk_at "er",List.forall_mem_cons.mpr ⟨by walk_at "er",List.forall_mem_cons.mpr ⟨by walk_at "er",List.forall_mem_cons.mpr ⟨by walk_at "er",List.forall_mem_cons.mpr ⟨by walk_at "er",List.forall_mem_cons.mpr ⟨by walk_at "er",List.forall_mem_nil _⟩⟩⟩⟩⟩⟩⟩,by decide,by decide,by walk_at "n2",by walk_at "hd",by walk_at "kr",by walk_at "na",by walk_at "n2",by walk_at "hd",by walk_at "kr",by walk_at "na",by walk_at "n2",by walk_at "hd",by walk_at "kr",by walk_at "x0",by walk_at "n2",by walk_at "hd",by walk_at "kr",by walk_at "x0",by walk_at "n2",by walk_at "hd",by walk_at "kr",by walk_at "na",by walk_at "n2",by walk_at "hd",by walk_at "kr",by walk_at "na",by walk_at "n2",by walk_at "hd",by walk_at "kr",by walk_at "na",by walk_at "na"⟩;exact K08.all_mk KX G hmg T (by walk_at "ff") (by walk_at "ff") (by walk_at "ff") (by walk_at "ff") (by walk_at "ff") (by walk_at "ff") (by walk_at "ff") (by walk_at "ff") (by walk_at "ff") (by walk_at "ff") (by walk_at "ff") (by walk_at "ff") (by walk_at "ff") (by walk_at "ff") (by walk_at "ff") (by walk_at "ff") (by walk_at "ff") (by walk_at "ff") (by walk_at "ff") (by walk_at "ff") (by walk_at "ff") (by walk_at "ff") (by walk_at "ff") (by walk_at "ff") (by walk_at "ff") (by walk_at "ff") (by walk_at "ff") (by walk_at "ff") (by walk_at "ff") (by walk_at "ff") (by walk_at "ff") (by walk_at "ff") (by walk_at "ff") (by walk_at "ff") (by walk_at "ff") (by walk_at "ff") (by walk_at "ff") (by walk_at "ff") (by walk_at "ff") (by walk_at "xm") (by walk_at "xm") (by walk_at "xm") (by walk_at "xm") (by walk_at "xm") (by walk_at "mk") (by walk_at "mk")
