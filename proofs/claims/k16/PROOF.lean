import PyProof.Rows.All
import Wide.All
import OpenK.AllK
import Wide.FinOn
import Lean
import PyProof.EqAt
import PyProof.EqKinds
import PyProof.TupleCall
import PyProof.CollectIter
import PyProof.TupleOfStr
import PyProof.TupleOfSeq
import PySem.Challenge.RW_wearplan_k16_single_least
set_option compiler.extract_closed false
set_option bootstrap.genMatcherCode false
set_option genSizeOf false
set_option genSizeOfSpec false
set_option linter.all false
set_option linter.unusedVariables false
open PyProof.Rows in
local macro_rules | `(tactic| walk_at "v3")=>`(tactic| first | exact Or.inl rfl | exact Or.inr (Or.inl rfl) | exact Or.inr (Or.inr rfl))
open PyProof.Rows in
local macro_rules | `(tactic| walk_at "v2")=>`(tactic| first | exact Or.inl rfl | exact Or.inr rfl)
open PyProof.Rows in
local macro_rules | `(tactic| walk_at "v1")=>`(tactic| first | exact .inl rfl | exact .inr rfl)
set_option Elab.async false
set_option maxRecDepth 100000
namespace L2
open PySem PySem.Spec PyProof.Rows
noncomputable abbrev Key:=Sum Int Str
noncomputable def l0p:Key→Value→Bool
  | .inl k,v=>Value.isInt k v
  | .inr x,v=>Value.isStrOf x v
noncomputable def keyH (w:World):Key→Int
  | .inl k=>hashInt k
  | .inr x=>hashStr w x
theorem l5:∀ {k:Key} {v:Value},l0p k v=true→(∃ i t,k=Sum.inl i∧v=Value.int i t)∨(∃ x t,k=Sum.inr x∧v=Value.str x t)
  | .inl i,v,h=>by
    obtain ⟨t,e⟩:=Value.isInt_shape (k:=i) (v:=v) h
    exact .inl ⟨i,t,rfl,e⟩
  | .inr x,v,h=>by
    obtain ⟨t,e⟩:=Value.isStrOf_shape (x:=x) (v:=v) h
    exact .inr ⟨x,t,rfl,e⟩
theorem k0o (i:Int) (t:Tok):l0p (.inl i) (.int i t)=true:=by simp [l0p,Value.isInt]
theorem k0n (x:Str) (t:Tok):l0p (.inr x) (.str x t)=true:=by simp [l0p,Value.isStrOf]
theorem key_ll (a b:Int):decide ((Sum.inl a:Key)=Sum.inl b)=(a == b):=by
  by_cases e:a=b
  · subst e; simp
  · have h:¬ (Sum.inl a:Key)=Sum.inl b:=fun q=>e (Sum.inl.inj q)
    rw [decide_eq_false h]
    exact (beq_eq_false_iff_ne.mpr e).symm
theorem key_rr (a b:Str):decide ((Sum.inr a:Key)=Sum.inr b)=decide (a=b):=by
  by_cases e:a=b
  · subst e; simp
  · have h:¬ (Sum.inr a:Key)=Sum.inr b:=fun q=>e (Sum.inr.inj q)
    rw [decide_eq_false h,decide_eq_false e]
theorem key_lr (a:Int) (b:Str):decide ((Sum.inl a:Key)=Sum.inr b)=false:=decide_eq_false (fun q=>nomatch q)
theorem key_rl (a:Str) (b:Int):decide ((Sum.inr a:Key)=Sum.inl b)=false:=decide_eq_false (fun q=>nomatch q)
noncomputable def v4 (prog:Program) (w:World):PySem.KeyKind prog w Key where
  is:=l0p
  hash:=keyH w
  inj:=fun v a b ha hb=>by
    rcases l5 ha with ⟨i,t,rfl,rfl⟩ | ⟨x,t,rfl,rfl⟩
    · rcases l5 hb with ⟨j,u,rfl,e⟩ | ⟨y,u,rfl,e⟩
      · injection e with e1 _; rw [e1]
      · exact nomatch e
    · rcases l5 hb with ⟨j,u,rfl,e⟩ | ⟨y,u,rfl,e⟩
      · exact nomatch e
      · injection e with e1 _; rw [e1]
  byValue:=fun k v h=>by
    rcases l5 h with ⟨i,t,rfl,rfl⟩ | ⟨x,t,rfl,rfl⟩ <;> rfl
  pyHash:=fun hv h=>by
    rcases l5 hv with ⟨i,t,rfl,rfl⟩ | ⟨x,t,rfl,rfl⟩
    · exact wpAny_pyHash_int h
    · exact wpAny_pyHash_str h
  eqBool:=fun hu hv h=>by
    rcases l5 hu with ⟨i,t,rfl,rfl⟩ | ⟨x,t,rfl,rfl⟩
    · rcases l5 hv with ⟨j,u,rfl,rfl⟩ | ⟨y,u,rfl,rfl⟩
      · rw [key_ll] at h; exact wpAny_eqBool_int h
      · rw [key_lr] at h; exact SeqAt.EqAt.int_str i t y u _ _ _ _ h
    · rcases l5 hv with ⟨j,u,rfl,rfl⟩ | ⟨y,u,rfl,rfl⟩
      · rw [key_rl] at h; exact SeqAt.EqAt.str_int x t j u _ _ _ _ h
      · rw [key_rr] at h; exact wpAny_eqBool_str h
  «strs»:=fun k x t v h=>by
    rcases l5 h with ⟨i,u,rfl,e⟩ | ⟨y,u,rfl,e⟩
    · exact nomatch e
    · injection e with e1 _
      subst e1
      cases v <;> rfl
theorem p0e (prog:Program) (w:World) (i:Int) (t:Tok):(v4 prog w).is (.inl i) (.int i t)=true:=k0o i t
theorem p0d (prog:Program) (w:World) (x:Str) (t:Tok):(v4 prog w).is (.inr x) (.str x t)=true:=k0n x t
end L2
namespace L2
open PySem PySem.Spec PyProof.Rows
inductive V where
  | non | bl (b:Bool) | int (i:Int) | str (x:Str) | byt (b:Array UInt8) | flt (b:UInt64) | ref (a:Addr) | ty (n:String)
  deriving DecidableEq
noncomputable def RelV:V→Value→Prop
  | .non,u=>u=Value.none
  | .bl b,u=>u=Value.bool b
  | .int i,u=>∃ t,u=Value.int i t
  | .str x,u=>∃ t,u=Value.str x t
  | .byt b,u=>∃ t,u=Value.bytes b t
  | .flt b,u=>∃ t,u=Value.float b t
  | .ref a,u=>u=Value.ref a
  | .ty n,u=>u=Value.type n
noncomputable abbrev Vals:List V→List Value→Prop:=Paired RelV
theorem Vals.length {xs:List V} {us:List Value} (r:Vals xs us):xs.length=us.length:=Paired.length r
theorem Vals.get:∀ {xs:List V} {us:List Value} {i:Nat} {x:V},Vals xs us→xs[i]?=some x→∃ u,us[i]?=some u∧RelV x u
  | _,_,_,_,.nil,e=>by simp at e
  | _,_,0,_,.cons r _,e=>by simp at e; subst e; exact ⟨_,rfl,r⟩
  | _,_,i + 1,x,.cons _ t,e=>by
    obtain ⟨u,h1,h2⟩:=Vals.get (i:=i) (x:=x) t (by simpa using e)
    exact ⟨u,by simpa using h1,h2⟩
theorem Vals.append:∀ {xs ys:List V} {us ws:List Value},Vals xs us→Vals ys ws→Vals (xs++ys) (us++ws)
  | _,_,_,_,.nil,s=>s
  | _,_,_,_,.cons r t,s=>.cons r (Vals.append t s)
theorem Vals.take:∀ {xs:List V} {us:List Value} (n:Nat),Vals xs us→Vals (xs.take n) (us.take n)
  | _,_,0,_=>.nil
  | _,_,_ + 1,.nil=>.nil
  | _,_,n + 1,.cons r t=>.cons r (Vals.take n t)
theorem Vals.drop:∀ {xs:List V} {us:List Value} (n:Nat),Vals xs us→Vals (xs.drop n) (us.drop n)
  | _,_,0,r=>r
  | _,_,_ + 1,.nil=>.nil
  | _,_,n + 1,.cons _ t=>Vals.drop n t
noncomputable def RelO:Option V→Option Value→Prop
  | some v,some u=>RelV v u
  | none,none=>True
  | _,_=>False
noncomputable def KV {κ:Type}:List (κ×V)→List (κ×Value)→Prop:=Paired fun (p:κ×V) (q:κ×Value)=>p.1=q.1∧RelV p.2 q.2
noncomputable def kV:Key→V
  | .inl i=>.int i
  | .inr x=>.str x
inductive HO where
  | lst (xs:List V)
  | tup (xs:List V)
  | dK (kvs:List (Key×V)) | dT (kvs:List (List Key×V))
  | set (S:Int→Bool) (n:Nat)
  | ins (C dx:Addr) (fs:List (Str×V))
  | own (x:Addr)
  | xd (fs:List (Str×V))
  | met (f x:Addr)
  | rng (lo hi:Int)
  | frz (o:Obj) (u:HO)
  | tbl (ps:Array Value)
  | ext (φ:Heap→Prop)
noncomputable abbrev Hp:=Addr→Option HO
noncomputable def upd (H:Hp) (a:Addr) (o:HO):Hp:=fun b=>if b=a then some o else H b
theorem o3 {H:Hp} {a:Addr} {o:HO}:upd H a o a=some o:=by unfold upd; rw [if_pos rfl]
theorem y0 {H:Hp} {a b:Addr} {o:HO} (h:b≠a):upd H a o b=H b:=by unfold upd; rw [if_neg h]
theorem k0m {H:Hp} {a:Addr} {o u:HO}:upd (upd H a o) a u=upd H a u:=by
  funext b; unfold upd; split <;> rfl
theorem ne_of {H:Hp} {a b:Addr} {o u:HO} (h:H a=some o) (h':H b=some u) (d:o≠u):a≠b:=by
  intro e; subst e; rw [h] at h'; exact d (Option.some.inj h')
theorem u0 {H:Hp} {a b:Addr} {o:HO} (h:H a=some o) (h':H b=none):a≠b:=by
  intro e; subst e; rw [h] at h'; cases h'
section
variable (P:Program) (w:World)
noncomputable def ObjOk (H:Hp) (h:Heap) (a:Addr):HO→Prop
  | .lst xs=>xs.length≤sizeLine∧∃ (its:List Value) (n:Nat),Vals xs its∧h.get? a=some { cls:=.type "list",data:=.seq its.toArray n }
  | .tup xs=>xs.length≤sizeLine∧∃ its:List Value,Vals xs its∧IsTup h a its.toArray
  | .dK kvs=>kvs.length≤sizeLine∧(a == sysModules)=false∧∃ vs,KV kvs vs∧h.DictOf (v4 P w) a vs
  | .dT kvs=>kvs.length≤sizeLine∧(a == sysModules)=false∧∃ xs:List (List Key×Addr×Value),
      Paired (fun (p:List Key×V) (q:List Key×Addr×Value)=>p.1=q.1∧H q.2.1=some (.tup (p.1.map kV))∧RelV p.2 q.2.2) kvs xs ∧
      ∃ o es ep,h.get? a=some o∧o.ExactDict∧o.data=.dict es ep∧es.toList=xs.map (entryOfKey (tupleKind (v4 P w)))∧(xs.map (·.1)).Nodup
  | .set S n=>h.SetOf (intKind P w) a S n
  | .ins C dx fs=>H dx=some (.own a)∧fs.length≤1000∧dx≠a∧h.get? a=some (PySem.W.instObj C dx) ∧
      ∃ mA,h.Ns1 dx mA∧(∀ f,RelO (fs.lookup f) (mA f))∧PySem.Within mA (fs.map (·.1))
  | .own _=>∃ o,h.get? a=some o
  | .xd fs=>∃ mA,h.Ns1 a mA∧∀ f,RelO (fs.lookup f) (mA f)
  | .rng lo hi=>∃ t u v,h.get? a=some { cls:=.type "range",data:=.fields #[.int lo t,.int hi u,.int 1 v] }
  | .frz o u=>h.get? a=some o∧ObjOk H h a u
  | .tbl ps=>h.get? a=some { cls:=.none,data:=.fields ps }
  | .met f x=>h.get? a=some (PySem.W.methodObj (.ref f) (.ref x))
  | .ext φ=>φ h∧(∃ o,h.get? a=some o)∧∀ h1 h2:Heap,φ h1→(∀ o,h1.get? a=some o→h2.get? a=some o)→φ h2
noncomputable def HOk (H:Hp) (h:Heap):Prop:=∀ a o,H a=some o→ObjOk P w H h a o
end
section
variable {P:Program} {w:World} {H H':Hp} {h h':Heap} {a:Addr} {o:HO}
theorem ObjOk.lt (x:ObjOk P w H h a o):a < h.objs.size:=by
  cases o with
  | lst xs=>obtain ⟨_,_,_,_,e⟩:=x; exact Heap.lt_size e
  | tup xs=>obtain ⟨_,_,_,p⟩:=x; exact p.lt
  | dK kvs=>obtain ⟨_,_,_,_,o,_,_,e,_⟩:=x; exact Heap.lt_size e
  | dT kvs=>obtain ⟨_,_,_,_,o,_,_,e,_⟩:=x; exact Heap.lt_size e
  | set S n=>obtain ⟨o,_,_,_,e,_⟩:=x; exact Heap.lt_size e
  | ins C dx fs=>obtain ⟨_,_,_,e,_⟩:=x; exact Heap.lt_size e
  | own y=>obtain ⟨_,e⟩:=x; exact Heap.lt_size e
  | xd fs=>obtain ⟨_,⟨_,_,_,e,_⟩,_⟩:=x; exact Heap.lt_size e
  | rng lo hi=>obtain ⟨_,_,_,e⟩:=x; exact Heap.lt_size e
  | frz ob u=>obtain ⟨e,_⟩:=x; exact Heap.lt_size e
  | tbl ps=>exact Heap.lt_size (show h.get? a=some _ from x)
  | met f y=>exact Heap.lt_size (show h.get? a=some _ from x)
  | ext φ=>obtain ⟨_,⟨_,e⟩,_⟩:=x; exact Heap.lt_size e
theorem Paired.mapP {α β:Type} {F G:α→β→Prop}:∀ {l₁:List α} {l₂:List β},Paired F l₁ l₂→(∀ a b,F a b→G a b)→Paired G l₁ l₂
  | _,_,.nil,_=>.nil
  | _,_,.cons r t,f=>.cons (f _ _ r) (Paired.mapP t f)
theorem ObjOk.stay (x:ObjOk P w H h a o) (k:∀ b u,(b=a∨H b=some (.own a))→h.get? b=some u→h'.get? b=some u)
    (ho:∀ b,H b=some (.own a)→H' b=some (.own a)) (ht:∀ b xs,H b=some (.tup xs)→H' b=some (.tup xs)):ObjOk P w H' h' a o:=by
  induction o with
  | lst xs=>obtain ⟨z,its,n,r,e⟩:=x; exact ⟨z,its,n,r,k _ _ (.inl rfl) e⟩
  | tup xs=>obtain ⟨z,its,r,ob,e,c⟩:=x; exact ⟨z,its,r,ob,k _ _ (.inl rfl) e,c⟩
  | dK kvs=>obtain ⟨z,y,vs,r,ob,es,ep,e,c⟩:=x; exact ⟨z,y,vs,r,ob,es,ep,k _ _ (.inl rfl) e,c⟩
  | dT kvs =>
    obtain ⟨z,y,xs,r,ob,es,ep,e,c⟩:=x
    exact ⟨z,y,xs,Paired.mapP r fun p q z=>⟨z.1,ht _ _ z.2.1,z.2.2⟩,ob,es,ep,k _ _ (.inl rfl) e,c⟩
  | set S n=>obtain ⟨ob,es,ep,t,e,c⟩:=x; exact ⟨ob,es,ep,t,k _ _ (.inl rfl) e,c⟩
  | ins C dx fs =>
    obtain ⟨d,z,ne,e,mA,⟨od,es,ep,e2,c⟩,r⟩:=x
    exact ⟨ho _ d,z,ne,k _ _ (.inl rfl) e,mA,⟨od,es,ep,k _ _ (.inr d) e2,c⟩,r⟩
  | own y=>obtain ⟨ob,e⟩:=x; exact ⟨ob,k _ _ (.inl rfl) e⟩
  | xd fs=>obtain ⟨mA,⟨od,es,ep,e,c⟩,r⟩:=x; exact ⟨mA,⟨od,es,ep,k _ _ (.inl rfl) e,c⟩,r⟩
  | rng lo hi=>obtain ⟨t,u,v,e⟩:=x; exact ⟨t,u,v,k _ _ (.inl rfl) e⟩
  | frz ob u ih=>obtain ⟨e,q⟩:=x; exact ⟨k _ _ (.inl rfl) e,ih q⟩
  | tbl ps =>
    have e:h.get? a=some { cls:=.none,data:=.fields ps }:=x
    show h'.get? a=some { cls:=.none,data:=.fields ps }
    exact k a _ (.inl rfl) e
  | met f y =>
    have e:h.get? a=some (PySem.W.methodObj (.ref f) (.ref y)):=x
    show h'.get? a=some (PySem.W.methodObj (.ref f) (.ref y))
    exact k a _ (.inl rfl) e
  | ext φ=>obtain ⟨p,⟨o,e⟩,st⟩:=x; exact ⟨st _ _ p fun o q=>k _ _ (.inl rfl) q,⟨o,k _ _ (.inl rfl) e⟩,st⟩
theorem HOk.lt (x:HOk P w H h) (e:H a=some o):a < h.objs.size:=(x a o e).lt
theorem HOk.fresh (x:HOk P w H h) (e:h.objs.size≤a):H a=none:=by
  cases q:H a with
  | none=>rfl
  | some u=>exact absurd (Nat.lt_of_lt_of_le (x.lt q) e) (Nat.lt_irrefl _)
theorem HOk.kept (x:HOk P w H h) (k:∀ b u,h.get? b=some u→h'.get? b=some u):HOk P w H h':=fun a o e =>
  (x a o e).stay (fun b u _ q=>k b u q) (fun _ q=>q) fun _ _ q=>q
theorem HOk.laid (x:HOk P w H h) (k:∀ b u,h.get? b=some u→h'.get? b=some u) (hp:h.objs.size≤a) (new:ObjOk P w (upd H a o) h' a o):HOk P w (upd H a o) h':=fun b u e=>by
  have hn:=x.fresh hp
  by_cases hb:b=a
  · subst hb; rw [o3] at e; cases e; exact new
  · rw [y0 hb] at e
    exact (x b u e).stay (fun c v _ q=>k c v q) (fun c q=>by rw [y0 (u0 q hn)]; exact q) fun c xs q=>by rw [y0 (u0 q hn)]; exact q
end
noncomputable def Rd (H:Hp) (a:Addr) (u:HO):Prop:=H a=some u∨∃ o,H a=some (.frz o u)
theorem Rd.ok {P:Program} {w:World} {H:Hp} {h:Heap} {a:Addr} {u:HO} (r:Rd H a u) (x:HOk P w H h):ObjOk P w H h a u:=by
  rcases r with r | ⟨o,r⟩
  · exact x a u r
  · obtain ⟨_,q⟩:=x a _ r
    exact q
noncomputable def Mut:Option HO→Prop
  | some (.lst _)=>True
  | some (.dK _)=>True
  | some (.dT _)=>True
  | some (.set _ _)=>True
  | some (.ins _ _ _)=>True
  | some (.ext _)=>True
  | _=>False
section
variable {P:Program} {w:World} {H:Hp} {h h':Heap} {x e:Addr} {o':HO}
theorem HOk.write (ok:HOk P w H h) (mu:Mut (H x)) (he:e=x∨H e=some (.own x)) (k:∀ b u,b≠e→h.get? b=some u→h'.get? b=some u) (heo:∃ u,h'.get? e=some u)
    (new:ObjOk P w (upd H x o') h' x o'):HOk P w (upd H x o') h':=fun b u q=>by
  have nown:∀ c y,H c=some (.own y)→c≠x:=fun c y r z=>by subst z; rw [r] at mu; exact mu
  have ntup:∀ c xs,H c=some (.tup xs)→c≠x:=fun c xs r z=>by subst z; rw [r] at mu; exact mu
  by_cases hb:b=x
  · subst hb; rw [o3] at q; cases q; exact new
  · rw [y0 hb] at q
    by_cases hbe:b=e
    · have q':H b=some (.own x):=by
        rcases he with z | z
        · exact absurd (hbe.trans z) hb
        · rw [hbe]; exact z
      rw [q] at q'; cases q'
      obtain ⟨v,hv⟩:=heo
      exact ⟨v,by rw [hbe]; exact hv⟩
    · refine (ok b u q).stay (fun c v hc r=>k c v ?_ r) (fun c r=>by rw [y0 (nown c b r)]; exact r) fun c xs r=>by rw [y0 (ntup c xs r)]; exact r
      rcases hc with rfl | hc
      · exact hbe
      · rintro rfl
        rcases he with z | z
        · exact nown c b hc z
        · rw [hc] at z; cases z; exact hb rfl
end
structure Un (fs ex:List Addr) (H H':Hp) (h h':Heap):Prop where
  keep:∀ b o,h.get? b=some o→H b=none→b ∉ fs→b ∉ ex→h'.get? b=some o
  slot:∀ b o,h.get? b=some o→H b=none→b∈fs→b ∉ ex→∃ sl,h'.get? b=some { o with slots:=sl }
  free:∀ b o,h.get? b=some o→H b=none→b ∉ ex→H' b=none
  there:∀ b o,h.get? b=some o→b ∉ ex→∃ o',h'.get? b=some o'
  tups:∀ b xs,H b=some (.tup xs)→H' b=some (.tup xs)
  frzs:∀ b o u,H b=some (.frz o u)→H' b=some (.frz o u)
  tbls:∀ b ps,H b=some (.tbl ps)→∃ more,H' b=some (.tbl (ps++more))
section
variable {fs fs' ex ex':List Addr} {H H1 H2:Hp} {h h1 h2 h':Heap} {a x e:Addr} {o:HO}
theorem Un.any (u:Un fs ex H H1 h h1) {b:Addr} {ob:Obj} (q:h.get? b=some ob) (n:H b=none) (hx:b ∉ ex):∃ sl,h1.get? b=some { ob with slots:=sl }:=by
  by_cases hb:b∈fs
  · exact u.slot b ob q n hb hx
  · exact ⟨ob.slots,u.keep b ob q n hb hx⟩
theorem Un.kept (k:∀ b u,h.get? b=some u→h'.get? b=some u):Un fs ex H H h h' :=
  ⟨fun b ob q _ _ _=>k b ob q,fun b ob q _ _ _=>⟨ob.slots,k b ob q⟩,fun _ _ _ n _=>n,fun b ob q _=>⟨ob,k b ob q⟩,fun _ _ q=>q,fun _ _ _ q=>q,fun _ ps q=>⟨#[],by rw [q]; simp⟩⟩
theorem Un.refl:Un fs ex H H h h:=Un.kept fun _ _ q=>q
theorem Un.laid (k:∀ b u,h.get? b=some u→h'.get? b=some u) (hp:h.objs.size≤a) (hn:H a=none):Un fs ex H (upd H a o) h h' where
  keep:=fun b u q _ _ _=>k b u q
  slot:=fun b u q _ _ _=>⟨u.slots,k b u q⟩
  free:=fun b u q n _=>by rw [y0 (Nat.ne_of_lt (Nat.lt_of_lt_of_le (Heap.lt_size q) hp))]; exact n
  there:=fun b u q _=>⟨u,k b u q⟩
  tups:=fun b xs q=>by rw [y0 (u0 q hn)]; exact q
  frzs:=fun b u xs q=>by rw [y0 (u0 q hn)]; exact q
  tbls:=fun b ps q=>⟨#[],by rw [y0 (u0 q hn),q]; simp⟩
theorem Un.write (mu:Mut (H x)) (he:e=x∨H e=some (.own x)) (k:∀ b u,b≠e→h.get? b=some u→h'.get? b=some u) (heo:∃ u,h'.get? e=some u):Un fs ex H (upd H x o) h h':=by
  have hx:∀ b,H b=none→b≠x:=fun b n z=>by subst z; rw [n] at mu; exact mu
  have hb:∀ b,H b=none→b≠e:=fun b n z=>by
    subst z
    rcases he with r | r
    · exact hx b n r
    · rw [n] at r; cases r
  have hm:∀ b u,H b=some u→¬ Mut (some u)→b≠x:=fun b u q nm z=>by subst z; rw [q] at mu; exact nm mu
  refine ⟨fun b u q n _ _=>k b u (hb b n) q,fun b u q n _ _=>⟨u.slots,k b u (hb b n) q⟩,fun b u q n _=>by rw [y0 (hx b n)]; exact n,fun b u q _=>?_,
    fun b xs q=>by rw [y0 (hm b _ q fun z=>z)]; exact q,fun b u xs q=>by rw [y0 (hm b _ q fun z=>z)]; exact q,fun b ps q=>⟨#[],by rw [y0 (hm b _ q fun z=>z),q]; simp⟩⟩
  by_cases hbe:b=e
  · subst hbe; exact heo
  · exact ⟨u,k b u hbe q⟩
end
noncomputable def trk (h:Heap) (H:Hp):List Addr:=(List.range h.objs.size).filter fun a=>(H a).isSome
noncomputable def hidT (h:Heap) (H:Hp):Heap:=PySem.W.hideAll h (trk h H)
theorem k0l (h:Heap) (H:Hp):(hidT h H).objs.size=h.objs.size:=PySem.W.hideAll_size _ _
theorem g0f {h:Heap} {H:Hp} {b:Addr} {o:Obj} (e:h.get? b=some o) (n:H b=none):(hidT h H).get? b=some o :=
  PySem.W.hideAll_get _ e fun hm=>by
    have q:(H b).isSome=true:=(List.mem_filter.mp hm).2
    rw [n] at q; simp at q
theorem b0v {h:Heap} {H:Hp} {b:Addr} {o:Obj} (e:(hidT h H).get? b=some o):h.get? b=some o∧H b=none:=by
  have e':h.get? b=some o:=PySem.W.of_hideAll (trk h H) e
  refine ⟨e',?_⟩
  cases q:H b with
  | none=>rfl
  | some x =>
    have hm:b∈trk h H:=List.mem_filter.mpr ⟨List.mem_range.mpr (Heap.lt_size e'),by simp [q]⟩
    have z:(hidT h H).get? b=none:=PySem.W.hideAll_none (trk h H) hm
    rw [z] at e; cases e
noncomputable def b0u (g h:Heap) (L:Addr):List (Addr×Obj):=(List.range h.objs.size).filterMap fun a=>if a=L∨(g.get? a).isSome=true then none else (h.get? a).map fun o=>(a,o)
noncomputable def rest (g h:Heap) (L d:Addr):List (Addr×Obj):=(b0u g h L).filter fun p=>decide (p.1≠d)
end L2
namespace L2
open PySem PySem.Spec PyProof.Rows
structure Mod (K:PySem.W.Frag) (mg:Str→Option Value) (base:Heap):Prop where
  kin:K.In base
  glob:base.Ns mainGlobals mg
  blt:∃ mb,base.Ns builtinsNs mb∧∀ x:Str,x ≠ "__name__" → mb x=bootBuiltins x
  nolimit:base.NoLimit
structure Cx where
  prog:Program
  w:World
  K:PySem.W.Frag
  mg:Str→Option Value
  base:Heap
  A:Around
  N:List Str
  s₀:Shared
  H₀:Hp
  env:Env
  outer:List Env
  stack:List Env
  ex:List Addr
  fn:Str→Bool
  calm:Bool
  pn:List (Addr×Obj)
  xe:Value→Shared→Prop
noncomputable def frs (l:List Env):List Addr:=l.filterMap (·.frame)
noncomputable abbrev Cx.fs (X:Cx):List Addr:=frs X.outer
noncomputable def Vis (sc:Scope) (x:Str):Prop:=sc.names.lookup x=some .local∨sc.names.lookup x=some .cell∨sc.names.lookup x=some .free
noncomputable def Loc (sc:Scope) (x:Str):Prop:=sc.names.lookup x=some .local∨sc.names.lookup x=some .cell
noncomputable def Look (env:Env) (h:Heap) (m:Str→Option Value) (x:Str) (u:Value):Prop :=
  (env.kindOf x=some .local∧m x=some u)∨((env.kindOf x=some .cell∨env.kindOf x=some .free)∧∃ c,env.cells.lookup x=some c∧h.IsCell c (some u))
structure Cx.Ok (X:Cx):Prop where
  mod:Mod X.K X.mg X.base
  kind:X.env.scope.kind=.function
  glob:X.env.globals=mainGlobals
  blt:X.env.builtins=builtinsNs
  above:X.s₀.heap.objs.size≤X.env.locals
  inj:∀ x y c,X.env.cells.lookup x=some c→X.env.cells.lookup y=some c→x=y
  has:∀ x,(X.env.kindOf x=some .cell∨X.env.kindOf x=some .free)→∃ c,X.env.cells.lookup x=some c
  cab:∀ x c,X.fn x=true→X.env.cells.lookup x=some c→X.s₀.heap.objs.size≤c
  hd:X.calm=true→X.A.handled=none
  frames:X.A.frames=some X.stack
  stk:X.stack=X.outer∨(X.stack=X.env :: X.outer∧X.env.frame=some X.env.locals)
  exf:∀ b∈X.ex,b≠X.env.locals∧∀ x c,X.env.cells.lookup x=some c→c≠b
  bs:∀ b o,X.base.get? b=some o→X.s₀.heap.get? b=some o∧X.H₀ b=none
  bsz:X.base.objs.size≤X.s₀.heap.objs.size
  noex:∀ b o,X.base.get? b=some o→b ∉ X.ex
  exfs:∀ b∈X.ex,b ∉ X.fs
  funs:X.s₀.heap.FunFrames X.base X.outer
  frf:∀ b∈X.fs,X.H₀ b=none
structure Inv (X:Cx) (pins:List (Addr×Obj)) (σ:List (Option V)) (H:Hp) (s:Shared):Prop where
  ok:X.Ok
  os:s.os=X.s₀.os
  bare:AllBare s.gens
  base:Un X.fs X.ex X.H₀ H X.s₀.heap s.heap
  loc:∃ m,s.heap.Ns X.env.locals m∧∀ (i:Nat) (x:Str) (v:V),X.N[i]?=some x→σ[i]?=some (some v)→Vis X.env.scope x→∃ u,RelV v u∧Look X.env s.heap m x u
  cell:∀ x c,X.env.cells.lookup x=some c→∃ v,s.heap.IsCell c v
  free:H X.env.locals=none
  freeC:∀ x c,X.env.cells.lookup x=some c→H c=none
  pin:∀ p∈X.pn++pins,s.heap.get? p.1=some p.2∧H p.1=none∧p.1≠X.env.locals∧p.1 ∉ X.fs∧∀ v,p.2.data≠.cell v
  hok:HOk X.prog X.w H s.heap
  len:σ.length=X.N.length
section
variable {X:Cx} {pins:List (Addr×Obj)} {σ:List (Option V)} {H H':Hp} {s:Shared} {h':Heap}
theorem Cx.Ok.nofr (ok:X.Ok) {b:Addr} {o:Obj} (e:X.base.get? b=some o):b ∉ X.fs:=fun hb=>by
  have:=(ok.funs.mem hb).1
  rw [e] at this; cases this
theorem Inv.bs (I:Inv X pins σ H s):∀ b o,X.base.get? b=some o→s.heap.get? b=some o∧H b=none:=fun b o e =>
  ⟨I.base.keep b o (I.ok.bs b o e).1 (I.ok.bs b o e).2 (I.ok.nofr e) (I.ok.noex b o e),I.base.free b o (I.ok.bs b o e).1 (I.ok.bs b o e).2 (I.ok.noex b o e)⟩
theorem Inv.bk (I:Inv X pins σ H s):∀ b o,X.base.get? b=some o→s.heap.get? b=some o:=fun b o e=>(I.bs b o e).1
theorem Inv.mod (I:Inv X pins σ H s):Mod X.K X.mg X.base:=I.ok.mod
theorem Inv.kIn (I:Inv X pins σ H s):X.K.In s.heap:=I.ok.mod.kin.keeps I.bk
theorem Inv.fr (I:Inv X pins σ H s):∃ m,Fr X.base X.env.locals s.heap m :=
  let ⟨m,hn,_⟩:=I.loc
  ⟨m,hn,I.bk,Nat.le_trans I.ok.bsz I.ok.above⟩
theorem Inv.lt (I:Inv X pins σ H s):X.env.locals < s.heap.objs.size:=let ⟨_,hn,_⟩:=I.loc; hn.lt
theorem Inv.sz (I:Inv X pins σ H s):X.s₀.heap.objs.size≤s.heap.objs.size:=Nat.le_trans I.ok.above (Nat.le_of_lt I.lt)
theorem Inv.nofs (I:Inv X pins σ H s) {a:Addr} (h:s.heap.objs.size≤a):a ∉ X.fs:=fun hb=>by
  obtain ⟨_,o,ho,_⟩:=I.ok.funs.mem hb
  exact absurd (Nat.lt_of_lt_of_le (Heap.lt_size ho) (Nat.le_trans I.sz h)) (Nat.lt_irrefl _)
theorem Inv.cne (I:Inv X pins σ H s):∀ x c,X.env.cells.lookup x=some c→c≠X.env.locals:=fun x c e z=>by
  obtain ⟨v,o,ho,hd⟩:=I.cell x c e
  obtain ⟨m,⟨o',es,ep,ho',hd',_⟩,_⟩:=I.loc
  rw [z,ho'] at ho; cases ho; rw [hd'] at hd; cases hd
theorem Inv.funs (I:Inv X pins σ H s):s.heap.FunFrames X.base X.outer:=by
  have all:∀ (l:List Env),(∀ b∈frs l,b∈X.fs)→X.s₀.heap.FunFrames X.base l→s.heap.FunFrames X.base l:=by
    intro l
    induction l with
    | nil=>intro _ _; trivial
    | cons env r ih =>
      intro hs hl
      obtain ⟨hk,⟨L,o,hf,hn,ho,hd⟩,hr⟩:=hl
      have hL:L∈X.fs:=hs L (by unfold frs; rw [List.filterMap_cons,hf]; exact List.mem_cons_self)
      obtain ⟨sl,e⟩:=I.base.slot L o ho (I.ok.frf L hL) hL fun z=>I.ok.exfs L z hL
      exact ⟨hk,⟨L,_,hf,hn,e,hd⟩,ih (fun b hb=>hs b (by unfold frs; rw [List.filterMap_cons,hf]; exact List.mem_cons_of_mem _ hb)) hr⟩
  exact all X.outer (fun _ hb=>hb) I.ok.funs
theorem Inv.stack (I:Inv X pins σ H s):s.heap.FunFrames X.base X.stack:=by
  rcases I.ok.stk with e | ⟨e,hf⟩
  · rw [e]; exact I.funs
  · rw [e]
    obtain ⟨m,hn,_⟩:=I.loc
    refine .cons (by rw [I.ok.kind]; decide) hf hn ?_ I.funs
    exact Heap.get?_none_of_le (Nat.le_trans I.ok.bsz I.ok.above)
theorem Inv.stkSub (I:Inv X pins σ H s):∀ b∈frs X.stack,b∈X.env.locals :: X.fs:=fun b hb=>by
  rcases I.ok.stk with e | ⟨e,hf⟩
  · rw [e] at hb; exact List.mem_cons_of_mem _ hb
  · rw [e] at hb
    unfold frs at hb
    rw [List.filterMap_cons,hf] at hb
    exact hb
theorem Inv.stkFree (I:Inv X pins σ H s):∀ b∈frs X.stack,H b=none:=fun b hb=>by
  rcases List.mem_cons.mp (I.stkSub b hb) with e | hb
  · rw [e]; exact I.free
  · obtain ⟨_,o,ho,_⟩:=I.ok.funs.mem hb
    exact I.base.free b o ho (I.ok.frf b hb) fun z=>I.ok.exfs b z hb
theorem Inv.step {g':Array GenState} {t':Nat} {d':Drawn} {ch:List Addr} (I:Inv X pins σ H s)
    (hch:∀ b∈ch,(b∈X.ex∨X.s₀.heap.objs.size≤b)∧b≠X.env.locals∧(∀ x c,X.env.cells.lookup x=some c→c≠b)∧∀ p∈X.pn++pins,p.1≠b)
    (keep:∀ b o,b≠X.env.locals→b ∉ X.fs→b ∉ ch→s.heap.get? b=some o→H b=none→h'.get? b=some o)
    (slot:∀ b o,b≠X.env.locals→b∈X.fs→b ∉ ch→s.heap.get? b=some o→H b=none→∃ sl,h'.get? b=some { o with slots:=sl }) (free:∀ b o,b ∉ ch→s.heap.get? b=some o→H b=none→H' b=none)
    (there:∀ b o,b ∉ ch→s.heap.get? b=some o→∃ o',h'.get? b=some o')
    (tups:∀ b xs,H b=some (.tup xs)→H' b=some (.tup xs)) (frzs:∀ b o u,H b=some (.frz o u)→H' b=some (.frz o u)) (tbls:∀ b ps,H b=some (.tbl ps)→∃ more,H' b=some (.tbl (ps++more)))
    (ns:∀ m,s.heap.Ns X.env.locals m→h'.Ns X.env.locals m) (hok:HOk X.prog X.w H' h') (hg:AllBare g') :
    Inv X pins σ H' { s with heap:=h',gens:=g',drawn:=d',toks:=t' }:=by
  have neL:∀ b o,X.s₀.heap.get? b=some o→b≠X.env.locals:=fun b o e=>Nat.ne_of_lt (Nat.lt_of_lt_of_le (Heap.lt_size e) I.ok.above)
  have neC:∀ b o,X.s₀.heap.get? b=some o→b ∉ X.ex→b ∉ ch:=fun b o e hx hb=>by
    rcases (hch b hb).1 with z | z
    · exact hx z
    · exact absurd (Nat.lt_of_lt_of_le (Heap.lt_size e) z) (Nat.lt_irrefl _)
  have cellK:∀ x c,X.env.cells.lookup x=some c→∀ v,s.heap.IsCell c v→h'.IsCell c v:=fun x c e v ⟨o,ho,hd⟩=>by
    have nch:c ∉ ch:=fun z=>(hch c z).2.2.1 x c e rfl
    by_cases hc:c∈X.fs
    · obtain ⟨sl,q⟩:=slot c o (I.cne x c e) hc nch ho (I.freeC x c e)
      exact ⟨_,q,hd⟩
    · exact ⟨o,keep c o (I.cne x c e) hc nch ho (I.freeC x c e),hd⟩
  refine ⟨I.ok,I.os,hg,⟨fun b o e n hb hx=>?_,fun b o e n hb hx=>?_,fun b o e n hx=>?_,fun b o e hx=>?_,fun b xs e=>tups b xs (I.base.tups b xs e),fun b o xs e=>frzs b o xs (I.base.frzs b o xs e),fun b ps e=>?_⟩,?_,fun x c e=>?_,?_,fun x c e=>?_,fun p hp=>?_,hok,I.len⟩
  · exact keep b o (neL b o e) hb (neC b o e hx) (I.base.keep b o e n hb hx) (I.base.free b o e n hx)
  · obtain ⟨sl,e1⟩:=I.base.slot b o e n hb hx
    obtain ⟨sl',e2⟩:=slot b _ (neL b o e) hb (neC b o e hx) e1 (I.base.free b o e n hx)
    exact ⟨sl',e2⟩
  · obtain ⟨o',e1⟩:=I.base.there b o e hx
    exact free b o' (neC b o e hx) e1 (I.base.free b o e n hx)
  · obtain ⟨o',e1⟩:=I.base.there b o e hx
    exact there b o' (neC b o e hx) e1
  · obtain ⟨m1,e1⟩:=I.base.tbls b ps e
    obtain ⟨m2,e2⟩:=tbls b _ e1
    exact ⟨m1++m2,by rw [e2,Array.append_assoc]⟩
  · obtain ⟨m,hn,hl⟩:=I.loc
    refine ⟨m,ns m hn,fun i x v e1 e2 e3=>?_⟩
    obtain ⟨u,r,l⟩:=hl i x v e1 e2 e3
    refine ⟨u,r,?_⟩
    rcases l with l | ⟨k,c,e,z⟩
    · exact .inl l
    · exact .inr ⟨k,c,e,cellK x c e _ z⟩
  · obtain ⟨v,z⟩:=I.cell x c e
    exact ⟨v,cellK x c e v z⟩
  · obtain ⟨m,⟨o,_,_,ho,_⟩,_⟩:=I.loc
    exact free _ o (fun z=>(hch _ z).2.1 rfl) ho I.free
  · obtain ⟨v,o,ho,hd⟩:=I.cell x c e
    exact free c o (fun z=>(hch c z).2.2.1 x c e rfl) ho (I.freeC x c e)
  · obtain ⟨e,n,ne,nf,d⟩:=I.pin p hp
    have nch:p.1 ∉ ch:=fun z=>(hch p.1 z).2.2.2 p hp rfl
    exact ⟨keep p.1 p.2 ne nf nch e n,free p.1 p.2 nch e n,ne,nf,d⟩
theorem Inv.un {t':Nat} (I:Inv X pins σ H s) (u:Un X.fs [] H H' s.heap h') (hok:HOk X.prog X.w H' h'):Inv X pins σ H' { s with heap:=h',toks:=t' }:=by
  obtain ⟨m,⟨o,es,ep,ho,r⟩,_⟩:=id I.loc
  obtain ⟨sl,hL⟩:=u.any ho I.free (by simp)
  exact I.step (g':=s.gens) (d':=s.drawn) (ch:=[]) (fun _ z=>nomatch z) (fun b o _ hb _ e n=>u.keep b o e n hb (by simp)) (fun b o _ hb _ e n=>u.slot b o e n hb (by simp)) (fun b o _ e n=>u.free b o e n (by simp)) (fun b o _ e=>u.there b o e (by simp)) u.tups u.frzs u.tbls (fun m' hm=>by
    obtain ⟨o',es',ep',ho',r'⟩:=hm
    rw [ho] at ho'; cases ho'
    exact ⟨_,es',ep',hL,r'⟩) hok I.bare
theorem Inv.call {g':Array GenState} {t':Nat} {d':Drawn} {ch:List Addr} (I:Inv X pins σ H s) (u:Un (frs X.stack) ch H H' s.heap h') (hok:HOk X.prog X.w H' h') (hg:AllBare g')
    (hch:∀ b∈ch,(b∈X.ex∨X.s₀.heap.objs.size≤b)∧b≠X.env.locals∧(∀ x c,X.env.cells.lookup x=some c→c≠b)∧∀ p∈X.pn++pins,p.1≠b) :
    Inv X pins σ H' { s with heap:=h',gens:=g',drawn:=d',toks:=t' }:=by
  obtain ⟨m,⟨o,es,ep,ho,r⟩,_⟩:=id I.loc
  obtain ⟨sl,hL⟩:=u.any ho I.free fun z=>(hch _ z).2.1 rfl
  exact I.step (ch:=ch) hch (fun b o hL hb hc e n=>u.keep b o e n (fun z=>(List.mem_cons.mp (I.stkSub b z)).elim hL hb) hc) (fun b o _ _ hc e n=>u.any e n hc) (fun b o hc e n=>u.free b o e n hc) (fun b o hc e=>u.there b o e hc) u.tups u.frzs u.tbls (fun m' hm=>by
    obtain ⟨o',es',ep',ho',r'⟩:=hm
    rw [ho] at ho'; cases ho'
    exact ⟨_,es',ep',hL,r'⟩) hok hg
theorem Inv.turned {t':Nat} {it:Addr} (I:Inv X pins σ H s) (k:∀ b o,b≠it→s.heap.get? b=some o→h'.get? b=some o) (hn:H it=none) (hL:it≠X.env.locals)
    (h1:it∈X.ex∨X.s₀.heap.objs.size≤it) (h2:∀ x c,X.env.cells.lookup x=some c→c≠it) (h3:∀ p∈X.pn++pins,p.1≠it):Inv X pins σ H { s with heap:=h',toks:=t' }:=by
  have nit:∀ b u,H b=some u→b≠it:=fun b u e z=>by rw [z,hn] at e; cases e
  refine I.step (g':=s.gens) (d':=s.drawn) (ch:=[it]) (fun b hb=>?_) (fun b o _ _ hc e _=>k b o (fun z=>hc (by simp [z])) e) (fun b o _ _ hc e _=>⟨o.slots,k b o (fun z=>hc (by simp [z])) e⟩) (fun _ _ _ _ n=>n)
    (fun b o hc e=>⟨o,k b o (fun z=>hc (by simp [z])) e⟩) (fun _ _ e=>e) (fun _ _ _ e=>e) (fun b ps e=>⟨#[],by rw [e]; simp⟩) (fun m hm=>?_) (fun b u e=>?_) I.bare
  · have e:b=it:=by simpa using hb
    subst e
    exact ⟨h1,hL,h2,h3⟩
  · obtain ⟨o,es,ep,ho,r⟩:=hm
    exact ⟨o,es,ep,k _ o (Ne.symm hL) ho,r⟩
  · refine (I.hok b u e).stay (fun c v hc q=>k c v ?_ q) (fun _ q=>q) fun _ _ q=>q
    rcases hc with z | z
    · rw [z]; exact nit b u e
    · exact nit c _ z
theorem Inv.tok (I:Inv X pins σ H s) (t:Nat):Inv X pins σ H { s with toks:=t }:=I.un (h':=s.heap) (t':=t) Un.refl I.hok
theorem Inv.kept {t':Nat} (I:Inv X pins σ H s) (k:∀ b u,s.heap.get? b=some u→h'.get? b=some u):Inv X pins σ H { s with heap:=h',toks:=t' }:=I.un (Un.kept k) (I.hok.kept k)
theorem Inv.laid {a:Addr} {o:HO} {t':Nat} (I:Inv X pins σ H s) (k:∀ b u,s.heap.get? b=some u→h'.get? b=some u) (hp:s.heap.objs.size≤a) (new:ObjOk X.prog X.w (upd H a o) h' a o) :
    Inv X pins σ (upd H a o) { s with heap:=h',toks:=t' }:=I.un (Un.laid k hp (I.hok.fresh hp)) (I.hok.laid k hp new)
theorem Inv.write {x e:Addr} {o:HO} {t':Nat} (I:Inv X pins σ H s) (mu:Mut (H x)) (he:e=x∨H e=some (.own x)) (k:∀ b u,b≠e→s.heap.get? b=some u→h'.get? b=some u) (heo:∃ u,h'.get? e=some u)
    (new:ObjOk X.prog X.w (upd H x o) h' x o):Inv X pins σ (upd H x o) { s with heap:=h',toks:=t' }:=I.un (Un.write mu he k heo) (I.hok.write mu he k heo new)
theorem Inv.weak {σ':List (Option V)} (I:Inv X pins σ H s) (hl:σ'.length=σ.length) (w:∀ (i:Nat) v,σ'[i]?=some (some v)→σ[i]?=some (some v)):Inv X pins σ' H s :=
  ⟨I.ok,I.os,I.bare,I.base,let ⟨m,hn,hl'⟩:=I.loc; ⟨m,hn,fun i x v e1 e2 e3=>hl' i x v e1 (w i v e2) e3⟩,I.cell,I.free,I.freeC,I.pin,I.hok,hl.trans I.len⟩
theorem Inv.pins_of {pins':List (Addr×Obj)} (I:Inv X pins σ H s) (h:∀ p∈pins',s.heap.get? p.1=some p.2∧H p.1=none∧p.1≠X.env.locals∧p.1 ∉ X.fs∧∀ v,p.2.data≠.cell v):Inv X pins' σ H s :=
  ⟨I.ok,I.os,I.bare,I.base,I.loc,I.cell,I.free,I.freeC,fun p hp=>(List.mem_append.mp hp).elim (fun z=>I.pin p (List.mem_append_left _ z)) (h p),I.hok,I.len⟩
theorem s0w {N:List Str} (hN:N.Nodup) {i j:Nat} {x:Str} (a:N[i]?=some x) (b:N[j]?=some x):i=j:=by
  obtain ⟨h1,e1⟩:=List.getElem?_eq_some_iff.mp a
  obtain ⟨h2,e2⟩:=List.getElem?_eq_some_iff.mp b
  exact (List.getElem_inj hN).mp (e1.trans e2.symm)
theorem r0o {M:Model} {A:Around} {E:Value→Shared→Prop} {i:Nat} {x:Str} {v:V} {u:Value} {Q:Unit→Shared→Prop} (I:Inv X pins σ H s) (hN:X.N.Nodup) (hi:X.N[i]?=some x) (hx:Loc X.env.scope x) (r:RelV v u)
    (h:∀ s',Inv X pins (σ.set i (some v)) H s'→(∃ a,Heap.SameBut a s.heap s'.heap∧(a=X.env.locals∨X.env.cells.lookup x=some a))→Q () s') (hf:X.fn x=true∨X.env.scope.names.lookup x=some .local:=by first | exact .inl rfl | exact .inr rfl | assumption):wpAny M A (storeName X.env x u) Q E s:=by
  obtain ⟨m,hn,hl⟩:=id I.loc
  have hcls:(X.env.scope.kind == .class || (X.env.scope.kind == .module && X.env.locals != X.env.globals))=false:=by rw [I.ok.kind]; rfl
  have hiσ:i < σ.length:=by rw [I.len]; exact (List.getElem?_eq_some_iff.mp hi).1
  have cne:=I.cne
  have tracked:∀ {a:Addr} {h':Heap},(∃ o,s.heap.get? a=some o∧H a=none)→Heap.SameBut a s.heap h'→HOk X.prog X.w H h':=fun {a h'} ha hs b ob e=>by
    obtain ⟨_,_,hfree⟩:=ha
    refine (I.hok b ob e).stay (fun c w' hc q=>(hs.2 c ?_).trans q) (fun _ q=>q) fun _ _ q=>q
    rintro rfl
    rcases hc with rfl | hc
    · rw [hfree] at e; cases e
    · rw [hfree] at hc; cases hc
  rcases hx with hk | hk
  · refine wpAny_storeName_local hk hn (fun h' hn' hs=>?_) hcls
    obtain ⟨oL,_,_,hoL,_⟩:=id hn
    refine h _ ⟨I.ok,I.os,I.bare,⟨fun b o e n hb hx=>?_,fun b o e n hb hx=>?_,I.base.free,fun b o e hx=>?_,I.base.tups,I.base.frzs,I.base.tbls⟩,⟨_,hn',fun j y v' e1 e2 e3=>?_⟩,fun y c e=>?_,I.free,I.freeC,fun p hp=>?_,tracked ⟨oL,hoL,I.free⟩ hs,by simpa using I.len⟩ ⟨_,hs,.inl rfl⟩
    · exact (hs.2 b (Nat.ne_of_lt (Nat.lt_of_lt_of_le (Heap.lt_size e) I.ok.above))).trans (I.base.keep b o e n hb hx)
    · obtain ⟨sl,e1⟩:=I.base.slot b o e n hb hx
      exact ⟨sl,(hs.2 b (Nat.ne_of_lt (Nat.lt_of_lt_of_le (Heap.lt_size e) I.ok.above))).trans e1⟩
    · obtain ⟨o',e1⟩:=I.base.there b o e hx
      exact ⟨o',(hs.2 b (Nat.ne_of_lt (Nat.lt_of_lt_of_le (Heap.lt_size e) I.ok.above))).trans e1⟩
    · by_cases hj:j=i
      · subst hj
        rw [hi] at e1; cases e1
        rw [List.getElem?_set_self hiσ] at e2
        cases e2
        exact ⟨u,r,.inl ⟨hk,by simp⟩⟩
      · rw [List.getElem?_set_ne (Ne.symm hj)] at e2
        obtain ⟨u',r',q⟩:=hl j y v' e1 e2 e3
        refine ⟨u',r',?_⟩
        rcases q with ⟨k,e⟩ | ⟨k,c,e,z⟩
        · refine .inl ⟨k,?_⟩
          have:y≠x:=fun e=>hj (s0w hN e1 (e ▸ hi))
          simp [this,e]
        · exact .inr ⟨k,c,e,z.sameBut hs (cne y c e)⟩
    · obtain ⟨w',z⟩:=I.cell y c e
      exact ⟨w',z.sameBut hs (cne y c e)⟩
    · obtain ⟨e,n,ne,nf,d⟩:=I.pin p hp
      exact ⟨(hs.2 p.1 ne).trans e,n,ne,nf,d⟩
  · have hfn:X.fn x=true:=by
      rcases hf with z | z
      · exact z
      · rw [z] at hk; cases hk
    obtain ⟨c,hc⟩:=I.ok.has x (.inl hk)
    obtain ⟨w',z⟩:=I.cell x c hc
    refine wpAny_storeName_cell I.ok.kind hk hc z (fun h' hc' hs=>?_)
    obtain ⟨oc,hoc,hocd⟩:=id z
    refine h { s with heap:=h' } ⟨I.ok,I.os,I.bare,⟨fun b o e n hb hx=>?_,fun b o e n hb hx=>?_,I.base.free,fun b o e hx=>?_,I.base.tups,I.base.frzs,I.base.tbls⟩,⟨m,hn.sameBut hs (Ne.symm (cne x c hc)),fun j y v' e1 e2 e3=>?_⟩,fun y c' e=>?_,I.free,I.freeC,fun p hp=>?_,tracked ⟨oc,hoc,I.freeC x c hc⟩ hs,by simpa using I.len⟩ ⟨c,hs,.inr hc⟩
    · exact (hs.2 b (Nat.ne_of_lt (Nat.lt_of_lt_of_le (Heap.lt_size e) (I.ok.cab x c hfn hc)))).trans (I.base.keep b o e n hb hx)
    · obtain ⟨sl,e1⟩:=I.base.slot b o e n hb hx
      exact ⟨sl,(hs.2 b (Nat.ne_of_lt (Nat.lt_of_lt_of_le (Heap.lt_size e) (I.ok.cab x c hfn hc)))).trans e1⟩
    · obtain ⟨o',e1⟩:=I.base.there b o e hx
      exact ⟨o',(hs.2 b (Nat.ne_of_lt (Nat.lt_of_lt_of_le (Heap.lt_size e) (I.ok.cab x c hfn hc)))).trans e1⟩
    · by_cases hj:j=i
      · subst hj
        rw [hi] at e1; cases e1
        rw [List.getElem?_set_self hiσ] at e2
        cases e2
        exact ⟨u,r,.inr ⟨.inl hk,c,hc,hc'⟩⟩
      · rw [List.getElem?_set_ne (Ne.symm hj)] at e2
        obtain ⟨u',r',q⟩:=hl j y v' e1 e2 e3
        refine ⟨u',r',?_⟩
        rcases q with q | ⟨k,c',e,z'⟩
        · exact .inl q
        · refine .inr ⟨k,c',e,z'.sameBut hs ?_⟩
          rintro rfl
          exact hj (s0w hN e1 (I.ok.inj _ _ _ e hc ▸ hi))
    · by_cases hcc:c'=c
      · subst hcc; exact ⟨_,hc'⟩
      · obtain ⟨w2,z2⟩:=I.cell y c' e
        exact ⟨w2,z2.sameBut hs hcc⟩
    · obtain ⟨e,n,ne,nf,d⟩:=I.pin p hp
      refine ⟨(hs.2 p.1 ?_).trans e,n,ne,nf,d⟩
      intro q
      rw [q,hoc] at e
      have q':oc=p.2:=Option.some.inj e
      exact d w' (by rw [← q']; exact hocd)
theorem v0w {M:Model} {A:Around} {E:Value→Shared→Prop} {i:Nat} {x:Str} {v:V} {u:Value} {Q:Unit→Shared→Prop} (I:Inv X pins σ H s) (hN:X.N.Nodup) (hi:X.N[i]?=some x) (hx:Loc X.env.scope x) (r:RelV v u)
    (h:∀ s',Inv X pins (σ.set i (some v)) H s'→Q () s') (hf:X.fn x=true∨X.env.scope.names.lookup x=some .local:=by first | exact .inl rfl | exact .inr rfl | assumption):wpAny M A (storeName X.env x u) Q E s :=
  r0o I hN hi hx r (fun s' I' _=>h s' I') hf
theorem Inv.call' {s':Shared} {ch:List Addr} (I:Inv X pins σ H s) (ho:s'.os=s.os) (u:Un (frs X.stack) ch H H' s.heap s'.heap) (hok:HOk X.prog X.w H' s'.heap) (hg:AllBare s'.gens)
    (hch:∀ b∈ch,(b∈X.ex∨X.s₀.heap.objs.size≤b)∧b≠X.env.locals∧(∀ x c,X.env.cells.lookup x=some c→c≠b)∧∀ p∈X.pn++pins,p.1≠b):Inv X pins σ H' s':=by
  obtain ⟨h',g',d',t',o'⟩:=s'
  have e:o'=s.os:=ho
  subst e
  exact I.call (g':=g') (t':=t') (d':=d') u hok hg hch
end
noncomputable abbrev XK:=Value→Option Addr→Hp→Prop
noncomputable abbrev St:=List (Option V)
noncomputable abbrev VK:=V→Hp→Prop
noncomputable abbrev TE:=St→Hp→VK→Prop
noncomputable abbrev TT:=St→Hp→(Bool→Hp→Prop)→Prop
noncomputable abbrev TA:=St→Hp→(List V→Hp→Prop)→Prop
structure Ends where
  nx:St→Hp→Prop
  rt:VK
  bk:St→Hp→Prop:=fun _ _=>False
  ct:St→Hp→Prop:=fun _ _=>False
noncomputable abbrev TS:=Ends→St→Hp→Prop
noncomputable def EP (X:Cx) (pins:List (Addr×Obj)) (σ:St) (Q:VK) (u:Value) (s':Shared):Prop:=∃ v H',Inv X pins σ H' s'∧RelV v u∧Q v H'
noncomputable def TP (X:Cx) (pins:List (Addr×Obj)) (σ:St) (Q:Bool→Hp→Prop) (b:Bool) (s':Shared):Prop:=∃ H',Inv X pins σ H' s'∧Q b H'
noncomputable def AP (X:Cx) (pins:List (Addr×Obj)) (σ:St) (Q:List V→Hp→Prop) (us:List Value) (s':Shared):Prop:=∃ vs H',Inv X pins σ H' s'∧Vals vs us∧Q vs H'
noncomputable def SP (X:Cx) (pins:List (Addr×Obj)) (D:Ends) (f:Flow) (s':Shared):Prop :=
  match f with
  | .next=>∃ σ' H',Inv X pins σ' H' s'∧D.nx σ' H'
  | .brk=>∃ σ' H',Inv X pins σ' H' s'∧D.bk σ' H'
  | .cont=>∃ σ' H',Inv X pins σ' H' s'∧D.ct σ' H'
  | .ret u=>∃ v σ' H',Inv X pins σ' H' s'∧RelV v u∧D.rt v H'
noncomputable def PE (X:Cx) (e:Expr) (t:TE):Prop :=
  ∀ (pins:List (Addr×Obj)) (s:Shared) (σ:St) (H:Hp) (Q:VK),Inv X pins σ H s→t σ H Q→wpAny (model X.prog X.w) X.A (eval e X.env) (EP X pins σ Q) X.xe s
noncomputable def PT (X:Cx) (e:Expr) (t:TT):Prop :=
  ∀ (pins:List (Addr×Obj)) (s:Shared) (σ:St) (H:Hp) (Q:Bool→Hp→Prop),Inv X pins σ H s→t σ H Q→wpAny (model X.prog X.w) X.A (isTrue e X.env (eval e X.env)) (TP X pins σ Q) X.xe s
noncomputable def PW (X:Cx) (e:Expr) (t:TT):Prop :=
  ∀ (whole:Sem Value) (pins:List (Addr×Obj)) (s:Shared) (σ:St) (H:Hp) (Q:Bool→Hp→Prop),Inv X pins σ H s→t σ H Q→wpAny (model X.prog X.w) X.A (isTrue e X.env whole) (TP X pins σ Q) X.xe s
theorem PW.pt {X:Cx} {e:Expr} {t:TT} (h:PW X e t):PT X e t:=h _
noncomputable def PA (X:Cx) (es:List Expr) (t:TA):Prop :=
  ∀ (pos:Pos) (pins:List (Addr×Obj)) (s:Shared) (σ:St) (H:Hp) (Q:List V→Hp→Prop),Inv X pins σ H s→t σ H Q→wpAny (model X.prog X.w) X.A (spliced (backTo pos (starEach es X.env))) (AP X pins σ Q) X.xe s
noncomputable def PS (X:Cx) (st:Stmt) (t:TS):Prop :=
  ∀ (pins:List (Addr×Obj)) (s:Shared) (σ:St) (H:Hp) (D:Ends),Inv X pins σ H s→t D σ H→wpAny (model X.prog X.w) X.A (exec st X.env) (SP X pins D) X.xe s
noncomputable def PSs (X:Cx) (st:List Stmt) (t:TS):Prop :=
  ∀ (pins:List (Addr×Obj)) (s:Shared) (σ:St) (H:Hp) (D:Ends),Inv X pins σ H s→t D σ H→wpAny (model X.prog X.w) X.A (execs st X.env) (SP X pins D) X.xe s
theorem thn {α:Type} {t:Sem α} {Q Q':α→Shared→Prop} {M:Model} {A:Around} {E:Value→Shared→Prop} {s:Shared} (h:wpAny M A t Q E s) (hQ:∀ a s,Q a s→Q' a s):wpAny M A t Q' E s:=wpAny_mono h hQ fun _ _ x=>x
end L2
namespace L2
open PySem PySem.Spec PyProof.Rows
section
variable {X:Cx}
theorem bin {a b:Expr} {ta tb:TE} (ha:PE X a ta) (hb:PE X b tb) {pins:List (Addr×Obj)} {s:Shared} {σ:St} {H:Hp} {R:V→V→Hp→Prop} (I:Inv X pins σ H s) (h:ta σ H fun x H1=>tb σ H1 fun y H2=>R x y H2)
    {α:Type} {Q:α→Shared→Prop} {f:Value→Value→Sem α}
    (hf:∀ v u s2 x y H2,Inv X pins σ H2 s2→RelV x v→RelV y u→R x y H2→wpAny (model X.prog X.w) X.A (f v u) Q X.xe s2) :
    wpAny (model X.prog X.w) X.A (eval a X.env) (fun v s₁=>wpAny (model X.prog X.w) X.A (eval b X.env) (fun u s₂=>wpAny (model X.prog X.w) X.A (f v u) Q X.xe s₂) X.xe s₁) X.xe s:=by
  refine thn (ha pins s σ H _ I h) fun v s1 ⟨x,H1,I1,r1,q1⟩=>?_
  refine thn (hb pins s1 σ H1 _ I1 q1) fun u s2 ⟨y,H2,I2,r2,q2⟩=>?_
  exact hf v u s2 x y H2 I2 r1 r2 q2
noncomputable def tVar (i:Nat):TE:=fun σ H Q=>∃ v,σ[i]?=some (some v)∧Q v H
noncomputable def tC (v:V):TE:=fun _ H Q=>Q v H
theorem u7 {i:Nat} {x:Str} {pos:Pos} (hN:X.N[i]?=some x) (hv:Vis X.env.scope x) (hd:(x == ("__debug__" : Str))=false:=by decide) (hcd:(x == ("__classdict__" : Str))=false:=by decide):PE X (.Name x pos) (tVar i):=by
  intro pins s σ H Q I h
  obtain ⟨v,e,h⟩:=h
  obtain ⟨m,hn,hl⟩:=I.loc
  obtain ⟨u,r,l⟩:=hl i x v hN e hv
  have fin:EP X pins σ Q u s:=⟨v,H,I,r,h⟩
  rcases l with ⟨hk,hm⟩ | ⟨hk,c,hc,hcell⟩
  · exact wpAny_Name (wpAny_loadName_local I.ok.kind hk hn hm fin) hd
  · rcases hk with hk | hk
    · exact wpAny_Name (wpAny_loadName_cell I.ok.kind hk hc hcell fin) hd
    · exact wpAny_Name (wpAny_loadName_free I.ok.kind hk hc hcell fin hcd) hd
theorem d0s {i j pos}:PE X (.Constant (.int i) j pos) (tC (.int i)):=fun _ _ _ H _ I h=>wpAny_Constant_int ⟨.int i,H,I.tok _,⟨_,rfl⟩,h⟩
theorem pe_bl {b j pos}:PE X (.Constant (.bool b) j pos) (tC (.bl b)):=fun _ _ _ H _ I h=>Constant_bool ⟨.bl b,H,I,rfl,h⟩
theorem pe_non {j pos}:PE X (.Constant .none j pos) (tC .non):=fun _ _ _ H _ I h=>Constant_none ⟨.non,H,I,rfl,h⟩
theorem pe_str {x j pos}:PE X (.Constant (.str x) j pos) (tC (.str x)):=fun _ _ _ H _ I h=>Calls.Constant_str ⟨.str x,H,I.tok _,⟨_,rfl⟩,h⟩
noncomputable def Gl (X:Cx) (x:Str):Prop:=X.env.kindOf x=some .globalImplicit
theorem z0u {E:Value→Shared→Prop} {pins:List (Addr×Obj)} {s:Shared} {σ:St} {H:Hp} {x:Str} {u:Value} {pos:Pos} {Q:Value→Shared→Prop} (I:Inv X pins σ H s) (hg:Gl X x) (hm:X.mg x=some u) (h:Q u s)
    (hd:(x == ("__debug__" : Str))=false:=by decide):wpAny (model X.prog X.w) X.A (eval (.Name x pos) X.env) Q E s :=
  Calls.Name_function_global I.ok.kind hg (Calls.loadGlobal_global (by rw [I.ok.glob]; exact I.mod.glob.keeps I.bk) hm h) hd
theorem o8 {E:Value→Shared→Prop} {pins:List (Addr×Obj)} {s:Shared} {σ:St} {H:Hp} {x:Str} {u:Value} {pos:Pos} {Q:Value→Shared→Prop} (I:Inv X pins σ H s) (hg:Gl X x) (hm:X.mg x=none) (hv:bootBuiltins x=some u) (h:Q u s)
    (hn:x ≠ "__name__" := by decide) (hd:(x == ("__debug__" : Str))=false:=by decide):wpAny (model X.prog X.w) X.A (eval (.Name x pos) X.env) Q E s:=by
  obtain ⟨mb,h1,h2⟩:=I.mod.blt
  exact Calls.Name_function_global I.ok.kind hg (Calls.loadGlobal_builtin (by rw [I.ok.glob]; exact I.mod.glob.keeps I.bk) hm (by rw [I.ok.blt]; exact h1.keeps I.bk) ((h2 x hn).trans hv) h) hd
theorem k0k {x:Str} {v:V} {u:Value} {pos:Pos} (hg:Gl X x) (hm:X.mg x=some u) (r:RelV v u) (hd:(x == ("__debug__" : Str))=false:=by decide):PE X (.Name x pos) (tC v) :=
  fun _ _ _ H _ I h=>z0u I hg hm ⟨v,H,I,r,h⟩ hd
theorem b0t {x:Str} {v:V} {u:Value} {pos:Pos} (hg:Gl X x) (hm:X.mg x=none) (hv:bootBuiltins x=some u) (r:RelV v u) (hn:x ≠ "__name__" := by decide) (hd:(x == ("__debug__" : Str))=false:=by decide):PE X (.Name x pos) (tC v) :=
  fun _ _ _ H _ I h=>o8 I hg hm hv ⟨v,H,I,r,h⟩ hn hd
variable {a b:Expr} {ta tb:TE} {pos:Pos}
noncomputable def PC (X:Cx) (op:CmpOp) (a b:Expr) (t:TE):Prop :=
  ∀ (pins:List (Addr×Obj)) (s:Shared) (σ:St) (H:Hp) (Q:VK),Inv X pins σ H s→t σ H Q →
    wpAny (model X.prog X.w) X.A (eval a X.env) (fun v s₁=>wpAny (model X.prog X.w) X.A (eval b X.env) (fun u s₂=>wpAny (model X.prog X.w) X.A (compareOp op v u) (EP X pins σ Q) X.xe s₂) X.xe s₁) X.xe s
theorem g0e (b:Expr) {op:CmpOp} (h:op≠.In) (h2:op≠.NotIn):behindInMarks op b=false:=by
  have e1:(op == CmpOp.In)=false:=by cases op <;> first | rfl | exact absurd rfl h
  have e2:(op == CmpOp.NotIn)=false:=by cases op <;> first | rfl | exact absurd rfl h2
  cases b <;> simp [behindInMarks,e1,e2]
noncomputable def tB (t:TE):TT:=fun σ H Q=>t σ H fun x H1=>∃ c,x=.bl c∧Q c H1
theorem pt_cmp {op:CmpOp} {t:TE} (h:PC X op a b t) (h1:behindInMarks op b=false:=by first | exact g0e _ (by decide) (by decide) | rfl):PT X (.Compare a [op] [b] pos) (tB t):=by
  intro pins s σ H Q I hw
  refine wpAny_isTrue_Compare1 (thn (h pins s σ H _ I hw) fun v s1 h1=>thn h1 fun u s2 h2=>thn h2 fun c s3 ⟨x,H1,I1,r1,q1⟩=>?_) h1
  obtain ⟨d,rfl,q⟩:=q1
  cases r1
  exact wpAny_truthy_bool ⟨H1,I1,q⟩
theorem pt_val {e:Expr} {t:TE} (h:PE X e t) (he:∀ whole,isTrue e X.env whole=(do let v ← whole; standAt e.pos; holding [v] (truthy v)):=by intro _; rfl):PT X e (tB t):=by
  intro pins s σ H Q I hw
  refine isTrue_plain (thn (h pins s σ H _ I hw) fun v s1 ⟨x,H1,I1,r1,q1⟩=>?_) (he _)
  obtain ⟨d,rfl,q⟩:=q1
  cases r1
  exact wpAny_truthy_bool ⟨H1,I1,q⟩
variable {tA tB':TT} {rest:List Expr}
noncomputable def tAnd (t u:TT):TT:=fun σ H Q=>t σ H fun c H1=>if c=true then u σ H1 Q else Q false H1
noncomputable def tOr (t u:TT):TT:=fun σ H Q=>t σ H fun c H1=>if c=true then Q true H1 else u σ H1 Q
noncomputable def tNot (t:TT):TT:=fun σ H Q=>t σ H fun c H1=>Q (!c) H1
theorem b0s (ha:PT X a tA):PW X (.BoolOp .And [a] pos) tA:=by
  intro wh pins s σ H Q I h
  refine isTrue_and (thn (ha pins s σ H Q I h) fun c s1 e=>?_)
  cases c with
  | true=>exact isTrue_and_nil e
  | false=>exact e
theorem pw_or1 (ha:PT X a tA):PW X (.BoolOp .Or [a] pos) tA:=by
  intro wh pins s σ H Q I h
  refine isTrue_or (thn (ha pins s σ H Q I h) fun c s1 e=>?_)
  cases c with
  | false=>exact isTrue_or_nil e
  | true=>exact e
theorem pw_and (ha:PT X a tA) (hb:PW X (.BoolOp .And (b :: rest) pos) tB'):PW X (.BoolOp .And (a :: b :: rest) pos) (tAnd tA tB'):=by
  intro wh pins s σ H Q I h
  refine isTrue_and (thn (ha pins s σ H _ I h) fun c s1 ⟨H1,I1,q1⟩=>?_)
  cases c with
  | true=>exact hb wh pins s1 σ H1 Q I1 q1
  | false=>exact ⟨H1,I1,q1⟩
theorem pw_or (ha:PT X a tA) (hb:PW X (.BoolOp .Or (b :: rest) pos) tB'):PW X (.BoolOp .Or (a :: b :: rest) pos) (tOr tA tB'):=by
  intro wh pins s σ H Q I h
  refine isTrue_or (thn (ha pins s σ H _ I h) fun c s1 ⟨H1,I1,q1⟩=>?_)
  cases c with
  | true=>exact ⟨H1,I1,q1⟩
  | false=>exact hb wh pins s1 σ H1 Q I1 q1
theorem pt_not (ha:PT X a tA):PT X (.UnaryOp .Not a pos) (tNot tA):=by
  intro pins s σ H Q I h
  exact isTrue_not (ha pins s σ H (fun c H1=>Q (!c) H1) I h)
noncomputable def tAndV (ta tb:TE):TE:=fun σ H Q=>ta σ H fun x H1=>∃ c,x=.bl c∧if c=true then tb σ H1 Q else Q (.bl false) H1
noncomputable def tNotV (ta:TE):TE:=fun σ H Q=>ta σ H fun x H1=>∃ c,x=.bl c∧Q (.bl (!c)) H1
theorem pe_one {op} {t:TE} (h:PE X a t):PE X (.BoolOp op [a] pos) t:=fun pins s σ H Q I hw=>BoolOp_one (h pins s σ H Q I hw)
theorem pe_and (ha:PE X a ta) (hb:PE X (.BoolOp .And (b :: rest) pos) tb):PE X (.BoolOp .And (a :: b :: rest) pos) (tAndV ta tb):=by
  intro pins s σ H Q I h
  refine BoolOp_and (thn (ha pins s σ H _ I h) fun v s1 ⟨x,H1,I1,r1,q1⟩=>?_)
  obtain ⟨c,rfl,q1⟩:=q1
  cases r1
  refine wpAny_truthy_bool ?_
  cases c with
  | true=>exact hb pins s1 σ H1 Q I1 q1
  | false=>exact ⟨.bl false,H1,I1,rfl,q1⟩
theorem pe_not (ha:PE X a ta):PE X (.UnaryOp .Not a pos) (tNotV ta):=by
  intro pins s σ H Q I h
  refine UnaryOp_ (thn (ha pins s σ H _ I h) fun v s1 ⟨x,H1,I1,r1,q1⟩=>?_)
  obtain ⟨c,rfl,q1⟩:=q1
  cases r1
  exact not_of (wpAny_truthy_bool ⟨.bl (!c),H1,I1,rfl,q1⟩)
noncomputable def tIf (t:TT) (ta tb:TE):TE:=fun σ H Q=>t σ H fun c H1=>if c=true then ta σ H1 Q else tb σ H1 Q
theorem g0d {c:Expr} (hc:PT X c tA) (ha:PE X a ta) (hb:PE X b tb):PE X (.IfExp c a b pos) (tIf tA ta tb):=by
  intro pins s σ H Q I h
  refine wpAny_IfExp (thn (hc pins s σ H _ I h) fun d s1 ⟨H1,I1,q1⟩=>?_)
  cases d with
  | true=>exact ha pins s1 σ H1 Q I1 q1
  | false=>exact hb pins s1 σ H1 Q I1 q1
end
end L2
namespace L2
open PySem PySem.Spec PyProof.Rows
noncomputable def SqL (K:PySem.W.Frag) (H:Hp) (a:Addr) (xs:List V):Prop :=
  Rd H a (.lst xs) ∨
    ∃ (o:Obj) (its:Array Value) (n:Nat),K.lookup a=some o∧o.cls=.type "list" ∧ o.dict=none∧o.data=.seq its n∧its.size≤sizeLine∧Vals xs its.toList
noncomputable def SqT (K:PySem.W.Frag) (H:Hp) (a:Addr) (xs:List V):Prop :=
  Rd H a (.tup xs) ∨
    ∃ (o:Obj) (its:Array Value) (n:Nat),K.lookup a=some o∧o.cls=.type "tuple" ∧ o.data=.seq its n∧its.size≤sizeLine∧Vals xs its.toList
noncomputable def absV:Value→Option V
  | .none=>some .non
  | .bool b=>some (.bl b)
  | .int i _=>some (.int i)
  | .str x _=>some (.str x)
  | .bytes b _=>some (.byt b)
  | .float b _=>some (.flt b)
  | .ref a=>some (.ref a)
  | .type n=>some (.ty n)
  | _=>none
theorem RelV.abs {x:V} {u:Value} (r:RelV x u):absV u=some x:=by
  cases x with
  | non=>cases r; rfl
  | bl _=>cases r; rfl
  | int _=>obtain ⟨t,rfl⟩:=r; rfl
  | str _=>obtain ⟨t,rfl⟩:=r; rfl
  | byt _=>obtain ⟨t,rfl⟩:=r; rfl
  | flt _=>obtain ⟨t,rfl⟩:=r; rfl
  | ref _=>cases r; rfl
  | ty _=>cases r; rfl
theorem RelV.inj {x y:V} {u:Value} (r:RelV x u) (q:RelV y u):x=y:=Option.some.inj (r.abs.symm.trans q.abs)
theorem Vals.inj:∀ {xs ys:List V} {us:List Value},Vals xs us→Vals ys us→xs=ys
  | _,_,_,.nil,.nil=>rfl
  | _,_,_,.cons r t,.cons r' t'=>by rw [r.inj r',Vals.inj t t']
section
variable {X:Cx} {pins:List (Addr×Obj)} {σ:St} {H:Hp} {s:Shared} {a:Addr} {xs ys:List V}
theorem SqL.of {K:PySem.W.Frag} (h:H a=some (.lst xs)):SqL K H a xs:=.inl (.inl h)
theorem SqT.of {K:PySem.W.Frag} (h:H a=some (.tup xs)):SqT K H a xs:=.inl (.inl h)
theorem Inv.list (I:Inv X pins σ H s) (h:SqL X.K H a xs):∃ its:List Value,Vals xs its∧PlainL s.heap a its.toArray∧xs.length≤sizeLine:=by
  rcases h with h | ⟨o,its,n,hk,hc,hd,hs,hz,r⟩
  · obtain ⟨z,its,n,r,e⟩:=h.ok I.hok
    exact ⟨its,r,⟨_,n,e,rfl,rfl,rfl⟩,z⟩
  · refine ⟨its.toList,r,⟨o,n,I.kIn a o hk,hc,hd,by simpa using hs⟩,?_⟩
    have e:=r.length
    simp only [Array.length_toList] at e
    omega
theorem Inv.tuple (I:Inv X pins σ H s) (h:SqT X.K H a xs):∃ its:List Value,Vals xs its∧IsTup s.heap a its.toArray∧xs.length≤sizeLine:=by
  rcases h with h | ⟨o,its,n,hk,hc,hs,hz,r⟩
  · obtain ⟨z,its,r,p⟩:=h.ok I.hok
    exact ⟨its,r,p,z⟩
  · refine ⟨its.toList,r,⟨o,I.kIn a o hk,hc,n,by simpa using hs⟩,?_⟩
    have e:=r.length
    simp only [Array.length_toList] at e
    omega
theorem Inv.list_inj (I:Inv X pins σ H s) (h:SqL X.K H a xs) (h':SqL X.K H a ys):xs=ys:=by
  obtain ⟨its,r,⟨o,n,e,_,_,d⟩,_⟩:=I.list h
  obtain ⟨its',r',⟨o',n',e',_,_,d'⟩,_⟩:=I.list h'
  rw [e] at e'; cases e'
  rw [d] at d'
  injection d' with d1 _
  have:its=its':=by simpa using congrArg Array.toList d1
  subst this
  exact r.inj r'
theorem Inv.tuple_inj (I:Inv X pins σ H s) (h:SqT X.K H a xs) (h':SqT X.K H a ys):xs=ys:=by
  obtain ⟨its,r,⟨o,e,_,n,d⟩,_⟩:=I.tuple h
  obtain ⟨its',r',⟨o',e',_,n',d'⟩,_⟩:=I.tuple h'
  rw [e] at e'; cases e'
  rw [d] at d'
  injection d' with d1 _
  have:its=its':=by simpa using congrArg Array.toList d1
  subst this
  exact r.inj r'
end
noncomputable abbrev Cx.wish (X:Cx) (E:Value→Shared→Prop):Cx:={ X with xe:=E }
noncomputable abbrev Cx.nox (X:Cx):Cx:=X.wish fun _ _=>False
theorem Cx.Ok.wish {X:Cx} (ok:X.Ok) (E:Value→Shared→Prop):(X.wish E).Ok :=
  ⟨ok.mod,ok.kind,ok.glob,ok.blt,ok.above,ok.inj,ok.has,ok.cab,ok.hd,ok.frames,ok.stk,ok.exf,ok.bs,ok.bsz,ok.noex,ok.exfs,ok.funs,ok.frf⟩
theorem Cx.Ok.unwish {X:Cx} {E:Value→Shared→Prop} (ok:(X.wish E).Ok):X.Ok :=
  ⟨ok.mod,ok.kind,ok.glob,ok.blt,ok.above,ok.inj,ok.has,ok.cab,ok.hd,ok.frames,ok.stk,ok.exf,ok.bs,ok.bsz,ok.noex,ok.exfs,ok.funs,ok.frf⟩
section
variable {X:Cx} {pins:List (Addr×Obj)} {σ:St} {H:Hp} {s:Shared} {E:Value→Shared→Prop}
theorem Inv.wish (I:Inv X pins σ H s) (E:Value→Shared→Prop):Inv (X.wish E) pins σ H s:=⟨I.ok.wish E,I.os,I.bare,I.base,I.loc,I.cell,I.free,I.freeC,I.pin,I.hok,I.len⟩
theorem Inv.unwish (I:Inv (X.wish E) pins σ H s):Inv X pins σ H s:=⟨I.ok.unwish,I.os,I.bare,I.base,I.loc,I.cell,I.free,I.freeC,I.pin,I.hok,I.len⟩
theorem SP.unwish {D:Ends} {f:Flow} {s':Shared} (h:SP (X.wish E) pins D f s'):SP X pins D f s':=by
  cases f with
  | next=>obtain ⟨σ',H',I,q⟩:=h; exact ⟨σ',H',I.unwish,q⟩
  | brk=>obtain ⟨σ',H',I,q⟩:=h; exact ⟨σ',H',I.unwish,q⟩
  | cont=>obtain ⟨σ',H',I,q⟩:=h; exact ⟨σ',H',I.unwish,q⟩
  | ret u=>obtain ⟨v,σ',H',I,r,q⟩:=h; exact ⟨v,σ',H',I.unwish,r,q⟩
theorem PSs.nox {st:List Stmt} {t:TS} (h:PSs X.nox st t):PSs X st t:=fun pins s σ H D I hw =>
  wpAny_mono (h pins s σ H D (I.wish _) hw) (fun _ _ q=>q.unwish) fun _ _ z=>False.elim z
end
section
variable {X:Cx} {st:Stmt} {rest:List Stmt} {t u:TS} {e:Expr} {te:TE} {pos:Pos}
noncomputable def tNext:TS:=fun D σ H=>D.nx σ H
noncomputable def tSeq (t u:TS):TS:=fun D σ H=>t { D with nx:=u D } σ H
theorem b0r:PSs X [] tNext:=fun _ _ σ H _ I h=>wpAny_execs_nil ⟨σ,H,I,h⟩
theorem n0b (h1:PS X st t) (h2:PSs X rest u):PSs X (st :: rest) (tSeq t u):=by
  intro pins s σ H D I h
  refine wpAny_execs_cons (thn (h1 pins s σ H { D with nx:=u D } I h) fun f s1 q=>?_)
  cases f with
  | next =>
    obtain ⟨σ',H',I',q⟩:=q
    exact h2 pins s1 σ' H' D I' q
  | ret v=>exact q
  | brk=>exact q
  | cont=>exact q
theorem z0t (h1:PS X st t):PSs X [st] t:=by
  intro pins s σ H D I h
  refine wpAny_execs_cons (thn (h1 pins s σ H D I h) fun f s1 q=>?_)
  cases f with
  | next=>exact wpAny_execs_nil q
  | ret v=>exact q
  | brk=>exact q
  | cont=>exact q
theorem Inv.quiet {pins:List (Addr×Obj)} {σ:St} {H:Hp} {s:Shared} (I:Inv X pins σ H s):interactive X.env=false:=by simp [interactive,I.ok.kind]
noncomputable def tDrop (te:TE):TS:=fun D σ H=>te σ H fun _ H1=>D.nx σ H1
theorem b0q (he:PE X e te) (hs:swapsWith e none pos.line X.env=pure false:=by rfl):PS X (.Expr e pos) (tDrop te):=by
  intro pins s σ H D I h
  exact wpAny_Expr_any (thn (he pins s σ H _ I h) fun v s1 ⟨x,H1,I1,r1,q1⟩=>⟨σ,H1,I1,q1⟩) I.quiet hs
noncomputable def tRet (te:TE):TS:=fun D σ H=>te σ H D.rt
theorem d0r (he:PE X e te):PS X (.Return (some e) pos) (tRet te):=by
  intro pins s σ H D I h
  exact wpAny_Return_some (thn (he pins s σ H _ I h) fun v s1 ⟨x,H1,I1,r1,q1⟩=>⟨x,σ,H1,I1,r1,q1⟩)
noncomputable def tIfS (c:TT) (t u:TS):TS:=fun D σ H=>c σ H fun b H1=>if b=true then t D σ H1 else u D σ H1
theorem ps_if {c:Expr} {a b:List Stmt} {tc:TT} (hc:PT X c tc) (ha:PSs X a t) (hb:PSs X b u):PS X (.If c a b pos) (tIfS tc t u):=by
  intro pins s σ H D I h
  refine wpAny_If (thn (hc pins s σ H _ I h) fun d s1 ⟨H1,I1,q1⟩=>?_)
  cases d with
  | true=>exact ha pins s1 σ H1 D I1 q1
  | false=>exact hb pins s1 σ H1 D I1 q1
end
noncomputable abbrev TG:=V→St→Hp→(St→Hp→Prop)→Prop
noncomputable abbrev TGs:=List V→St→Hp→(St→Hp→Prop)→Prop
noncomputable def PG (X:Cx) (target:Expr) (t:TG):Prop :=
  ∀ (pins:List (Addr×Obj)) (s:Shared) (σ:St) (H:Hp) (v:V) (u:Value) (Q:St→Hp→Prop),Inv X pins σ H s→RelV v u→t v σ H Q →
    wpAny (model X.prog X.w) X.A (assign target X.env u) (fun _ s'=>∃ σ' H',Inv X pins σ' H' s'∧Q σ' H') X.xe s
noncomputable def PGs (X:Cx) (ts:List Expr) (t:TGs):Prop :=
  ∀ (pins:List (Addr×Obj)) (s:Shared) (σ:St) (H:Hp) (vs:List V) (us:List Value) (Q:St→Hp→Prop),Inv X pins σ H s→Vals vs us→t vs σ H Q →
    wpAny (model X.prog X.w) X.A (assignInOrder ((assignEach ts X.env).map (·.2)) us) (fun _ s'=>∃ σ' H',Inv X pins σ' H' s'∧Q σ' H') X.xe s
section
variable {X:Cx} {pos:Pos}
noncomputable def p0c (i:Nat):TG:=fun v σ H Q=>Q (σ.set i (some v)) H
theorem n4 {i:Nat} {x:Str} (hN:X.N.Nodup) (hi:X.N[i]?=some x) (hx:Loc X.env.scope x) (hf:X.fn x=true∨X.env.scope.names.lookup x=some .local:=by first | exact .inl rfl | exact .inr rfl | assumption):PG X (.Name x pos) (p0c i):=by
  intro pins s σ H v u Q I r h
  exact wpAny_assign_Name (v0w I hN hi hx r (fun s' I'=>⟨_,H,I',h⟩) hf)
noncomputable def gNil:TGs:=fun vs σ H Q=>vs=[]∧Q σ H
noncomputable def gCons (t:TG) (u:TGs):TGs:=fun vs σ H Q=>∃ v r,vs=v :: r∧t v σ H fun σ' H'=>u r σ' H' Q
theorem x0i:PGs X [] gNil:=by
  intro pins s σ H vs us Q I r h
  obtain ⟨e,h⟩:=h
  subst e
  cases r
  exact assignInOrder_nil ⟨σ,H,I,h⟩
theorem w5 {e:Expr} {es:List Expr} {t:TG} {u:TGs} (h1:PG X e t) (h2:PGs X es u)
    (hs:(assignEach (e :: es) X.env).map (·.2)=assign e X.env :: (assignEach es X.env).map (·.2):=by rfl):PGs X (e :: es) (gCons t u):=by
  intro pins s σ H vs us Q I r h
  obtain ⟨v,vr,e1,h⟩:=h
  subst e1
  cases r with
  | cons r rr =>
    rw [hs]
    refine assignInOrder_cons (thn (h1 pins s σ H _ _ _ I r h) fun _ s1 ⟨σ1,H1,I1,q1⟩=>?_)
    exact h2 pins s1 σ1 H1 _ _ Q I1 rr q1
noncomputable def gTup (K:PySem.W.Frag) (n:Nat) (t:TGs):TG:=fun v σ H Q=>∃ a xs,v=.ref a∧SqT K H a xs∧xs.length=n∧t xs σ H Q
theorem n0a {es:List Expr} {k:Nat} {t:TGs} {n:Nat} (hc:X.calm=true) (h:PGs X es t)
    (hn:(assignEach es X.env).length=n:=by rfl) (hst:(assignEach es X.env).findIdx? (·.1)=none:=by rfl):PG X (.Tuple es k pos) (gTup X.K n t):=by
  intro pins s σ H v u Q I r hw
  obtain ⟨a,xs,e1,hq,hl,hw⟩:=hw
  subst e1
  cases r
  obtain ⟨its,rv,ht,hz⟩:=I.tuple hq
  refine assign_Tuple_tuple (I.ok.hd hc) ht (by simp [hn,← hl,rv.length]) hst fun h' hx=>?_
  have I1:Inv X pins σ H { s with heap:=h' }:=I.kept (t':=s.toks) fun b o e=>hx b o (Nat.ne_of_lt (Heap.lt_size e)) e
  exact h pins _ σ H xs _ Q I1 (by simpa using rv) hw
noncomputable def tAsg (te:TE) (g:TG):TS:=fun D σ H=>te σ H fun x H1=>g x σ H1 D.nx
theorem ps_asg {tg e:Expr} {te:TE} {g:TG} (he:PE X e te) (hg:PG X tg g) (hs:swapsWithSole [tg] e pos.line X.env=pure false:=by rfl) (hw:swappedStores [tg] e X.env=pure none:=by rfl)
    (h1:(assignEach [tg] X.env).map (·.2)=[assign tg X.env]:=by rfl):PS X (.Assign [tg] e pos) (tAsg te g):=by
  intro pins s σ H D I h
  refine wpAny_Assign_stores (thn (he pins s σ H _ I h) fun v s1 ⟨x,H1,I1,r1,q1⟩=>?_) hs hw
  rw [h1]
  exact thn (hg pins s1 σ H1 x v _ I1 r1 q1) fun _ s2 q=>q
theorem k0j {i:Nat} {x:Str} {e:Expr} {te:TE} {pos':Pos} (hN:X.N.Nodup) (hi:X.N[i]?=some x) (hx:Loc X.env.scope x) (he:PE X e te) (hs:swapsWith e (some (.Name x pos')) pos.line X.env=pure false:=by rfl) (hf:X.fn x=true∨X.env.scope.names.lookup x=some .local:=by first | exact .inl rfl | exact .inr rfl | assumption) :
    PS X (.Assign [.Name x pos'] e pos) (tAsg te (p0c i)):=by
  intro pins s σ H D I h
  refine wpAny_Assign_Name (thn (he pins s σ H _ I h) fun v s1 ⟨y,H1,I1,r1,q1⟩=>?_) hs
  exact v0w I1 hN hi hx r1 (fun s2 I2=>⟨_,H1,I2,q1⟩) hf
end
section
variable {X:Cx} {pos:Pos}
noncomputable def tWhile (c:TT) (tb:TS):TS:=fun D σ H=>∃ W:Nat→St→Hp→Prop,(∃ m,W m σ H)∧∀ m σ H,W m σ H →
  c σ H fun b H1=>if b=true then ∃ N:St→Hp→Prop,(∀ σ' H',N σ' H'→∃ m',m' < m∧W m' σ' H')∧tb { D with nx:=N,ct:=N,bk:=D.nx } σ H1 else D.nx σ H1
theorem g0c {c:Expr} {body:List Stmt} {tc:TT} {tb:TS} (hp:PassesOwn (model X.prog X.w) X.A X.env X.xe) (hc:PT X c tc) (hb:PSs X body tb):PS X (.While c body [] pos) (tWhile tc tb):=by
  intro pins s σ H D I h
  obtain ⟨W,⟨m0,w0⟩,turn⟩:=h
  refine wpAny_While (codeAny_whileLoop (fun n s'=>∃ σ' H',Inv X pins σ' H' s'∧W n σ' H') ?_ m0 ⟨σ,H,I,w0⟩)
  rintro n s1 ⟨σ1,H1,I1,w1⟩
  refine wpAny_passesOwn hp (thn (hc pins s1 σ1 H1 _ I1 (turn n σ1 H1 w1)) fun b s2 ⟨H2,I2,q2⟩=>?_)
  cases b with
  | true =>
    obtain ⟨N,hN,q2⟩:=q2
    rw [if_pos rfl]
    refine wpAny_passesOwn hp (thn (hb pins s2 σ1 H2 _ I2 q2) fun f s3 q3=>?_)
    cases f with
    | next =>
      obtain ⟨σ3,H3,I3,n3⟩:=q3
      obtain ⟨m',hm,w3⟩:=hN σ3 H3 n3
      exact ⟨m',hm,σ3,H3,I3,w3⟩
    | cont =>
      obtain ⟨σ3,H3,I3,n3⟩:=q3
      obtain ⟨m',hm,w3⟩:=hN σ3 H3 n3
      exact ⟨m',hm,σ3,H3,I3,w3⟩
    | brk=>exact q3
    | ret v=>exact q3
  | false =>
    rw [if_neg Bool.false_ne_true]
    exact wpAny_execs_nil ⟨σ1,H2,I2,q2⟩
end
structure It where
  go:Nat→Hp→Prop
  yld:Nat→Hp→V→Hp→Prop
  stop:Nat→Hp→Prop
noncomputable def FpOk (X:Cx) (pins:List (Addr×Obj)) (H:Hp) (b:Addr):Prop :=
  H b=none∧b≠X.env.locals∧b ∉ X.fs∧(b∈X.ex∨X.s₀.heap.objs.size≤b)∧(∀ x c,X.env.cells.lookup x=some c→c≠b)∧∀ p∈X.pn++pins,p.1≠b
theorem Inv.fpOk {X:Cx} {pins:List (Addr×Obj)} {σ:St} {H H':Hp} {s:Shared} {b:Addr} (I:Inv X pins σ H s) (hb:s.heap.objs.size≤b) (hn:H' b=none):FpOk X pins H' b:=by
  refine ⟨hn,Nat.ne_of_gt (Nat.lt_of_lt_of_le I.lt hb),I.nofs hb,.inr (Nat.le_trans I.sz hb),fun x c e z=>?_,fun p hp z=>?_⟩
  · obtain ⟨v,q⟩:=I.cell x c e
    exact absurd (Nat.lt_of_lt_of_le q.lt (by rw [z]; exact hb)) (Nat.lt_irrefl _)
  · exact absurd (Nat.lt_of_lt_of_le (Heap.lt_size (I.pin p hp).1) (by rw [z]; exact hb)) (Nat.lt_irrefl _)
structure Turn (P:Program) (w:World) (K:PySem.W.Frag) (tg:Expr) (J:It) (fp:List Addr) (it:Addr) (tn:Nat→Heap→Prop):Prop where
  mem:it∈fp
  obj:∀ i h,tn i h→∀ b∈fp,∃ o,h.get? b=some o∧∀ v,o.data≠.cell v
  keep:∀ i h h',tn i h→(∀ b∈fp,∀ o,h.get? b=some o→h'.get? b=some o)→tn i h'
  item:∀ (X:Cx),X.prog=P→X.w=w→X.K=K→X.calm=true→∀ (i:Nat) (pins:List (Addr×Obj)) (s:Shared) (σ:St) (H:Hp) (E:Value→Shared→Prop),Inv X pins σ H s→(∀ b∈fp,FpOk X pins H b)→tn i s.heap→J.go i H →
    wpAny (model P w) X.A (pyNext (.ref it)) (fun r s1=>∃ u,r=some u ∧
      wpAny (model P w) X.A (letOwnedTupleGo tg (.ref it) u) (fun _ s2=>∃ x H',Inv X pins σ H' s2∧RelV x u∧J.yld i H x H'∧tn (i + 1) s2.heap∧∀ b∈fp,H' b=none) E s1) E s
  done:∀ (X:Cx),X.prog=P→X.w=w→X.K=K→X.calm=true→∀ (i:Nat) (pins:List (Addr×Obj)) (s:Shared) (σ:St) (H:Hp) (E:Value→Shared→Prop),Inv X pins σ H s→(∀ b∈fp,FpOk X pins H b)→tn i s.heap→J.stop i H →
    wpAny (model P w) X.A (pyNext (.ref it)) (fun r s1=>r=none∧Inv X pins σ H s1) E s
  self:∀ (A:Around) (i:Nat) (s:Shared) (Q:Value→Shared→Prop) (E:Value→Shared→Prop),tn i s.heap→Q (.ref it) s→wpAny (model P w) A (pyIter (.ref it)) Q E s
noncomputable abbrev TI:=St→Hp→(It→Hp→Prop)→Prop
noncomputable def PIE (X:Cx) (pins:List (Addr×Obj)) (σ:St) (tg:Expr) (R:It→Hp→Prop) (itv:Value) (s2:Shared):Prop :=
  ∃ (it:Addr) (fp:List Addr) (tn:Nat→Heap→Prop) (J:It) (H':Hp),itv=.ref it∧Inv X pins σ H' s2∧Turn X.prog X.w X.K tg J fp it tn∧tn 0 s2.heap∧(∀ b∈fp,FpOk X pins H' b)∧R J H'
noncomputable def PI (X:Cx) (tg iter:Expr) (wi:TI):Prop :=
  ∀ (pins:List (Addr×Obj)) (s:Shared) (σ:St) (H:Hp) (R:It→Hp→Prop),Inv X pins σ H s→wi σ H R →
    wpAny (model X.prog X.w) X.A (eval iter X.env) (fun v s1=>wpAny (model X.prog X.w) X.A (pyIter v) (PIE X pins σ tg R) X.xe s1) X.xe s
theorem k0i {M:Model} {A:Around} {E:Value→Shared→Prop} {s:Shared} {tg:Expr} {it:Addr} {u:Value} {o:Obj} {n:String} {vs:Array Value} {Q:Unit→Shared→Prop} (ho:s.heap.get? it=some o) (hc:o.cls=.type n) (hd:o.data=.fields vs)
    (hn:["enumerate","zip","dict_itemiterator","dict_reverseitemiterator","odict_iterator","itertools.zip_longest","itertools.pairwise"].contains n=false) (hQ:Q () s):wpAny M A (letOwnedTupleGo tg (.ref it) u) Q E s:=by
  unfold letOwnedTupleGo
  cases tg <;> first
    | exact wpAny_pure hQ
    | (cases u <;> first
        | exact wpAny_pure hQ
        | (refine wpAny_bind (wpAny_load ho ?_)
           rw [hc,hd]
           show wpAny M A (if (["enumerate","zip","dict_itemiterator","dict_reverseitemiterator","odict_iterator","itertools.zip_longest","itertools.pairwise"].contains n && vs[0]? == some (rawInt _))=true then _ else _) Q E s
           rw [if_neg (by intro h; rw [hn,Bool.false_and] at h; cases h)]
           exact wpAny_pure hQ))
noncomputable def Itl (K:PySem.W.Frag) (a:Addr):It :=
  ⟨fun i H=>∃ xs x,SqL K H a xs∧xs[i]?=some x,fun i H x H'=>H'=H∧∀ xs,SqL K H a xs→xs[i]?=some x,fun i H=>∃ xs,SqL K H a xs∧xs.length≤i⟩
noncomputable def Itt (K:PySem.W.Frag) (a:Addr):It :=
  ⟨fun i H=>∃ xs x,SqT K H a xs∧xs[i]?=some x,fun i H x H'=>H'=H∧∀ xs,SqT K H a xs→xs[i]?=some x,fun i H=>∃ xs,SqT K H a xs∧xs.length≤i⟩
noncomputable def Itr (lo:Int) (n:Nat):It:=⟨fun i _=>i < n,fun i H x H'=>H'=H∧x=.int (lo + i),fun i _=>n≤i⟩
theorem k0h {P:Program} {w:World} {K:PySem.W.Frag} {tg:Expr} (a it:Addr):Turn P w K tg (Itl K a) [it] it (fun i h=>h.IsListIter it a i) where
  mem:=by simp
  obj:=fun i h st b hb=>by
    have e:b=it:=by simpa using hb
    subst e
    obtain ⟨o,e,c,d⟩:=st
    exact ⟨o,e,fun v z=>by rw [d] at z; cases z⟩
  keep:=fun i h h' st k=>st.at fun o e=>k it (by simp) o e
  item:=by
    intro X hP hw hK hc i pins s σ H E I hf st hg
    subst hP hw hK
    obtain ⟨xs,x,hq,hx⟩:=hg
    obtain ⟨its,rv,p,hz⟩:=I.list hq
    obtain ⟨u,hu,ru⟩:=rv.get hx
    obtain ⟨f0,f1,f2,f3,f4,f5⟩:=hf it (by simp)
    refine wpAny_pyNext_list_item st p.isList (x:=u) (by simpa using hu) fun h' st' sb=>?_
    have I1:Inv X pins σ H { s with heap:=h' }:=I.turned (t':=s.toks) (fun b o hb e=>(sb.2 b hb).trans e) f0 f1 f3 f4 f5
    obtain ⟨o,e,c,d⟩:=id st'
    exact ⟨u,rfl,k0i (s:={ s with heap:=h' }) e c d (by decide) ⟨x,H,I1,ru,⟨rfl,fun ys hy=>by rw [I.list_inj hy hq]; exact hx⟩,st',fun b hb=>(hf b hb).1⟩⟩
  done:=by
    intro X hP hw hK hc i pins s σ H E I hf st hg
    subst hP hw hK
    obtain ⟨xs,hq,hx⟩:=hg
    obtain ⟨its,rv,p,hz⟩:=I.list hq
    obtain ⟨f0,f1,f2,f3,f4,f5⟩:=hf it (by simp)
    have hl:=rv.length
    exact wpAny_pyNext_list_end (I.ok.hd hc) st p.isList (by simp; omega) fun h' eb=>⟨rfl,I.turned (t':=s.toks) (fun b o hb e=>eb b o hb e) f0 f1 f3 f4 f5⟩
  self:=fun _ _ _ _ _ st h=>wpAny_pyIter_listiter st h
theorem l0o {P:Program} {w:World} {K:PySem.W.Frag} {tg:Expr} (a it:Addr):Turn P w K tg (Itt K a) [it] it (fun i h=>h.IsTupleIter it a i) where
  mem:=by simp
  obj:=fun i h st b hb=>by
    have e:b=it:=by simpa using hb
    subst e
    obtain ⟨o,e,c,d⟩:=st
    exact ⟨o,e,fun v z=>by rw [d] at z; cases z⟩
  keep:=fun i h h' st k=>st.at fun o e=>k it (by simp) o e
  item:=by
    intro X hP hw hK hc i pins s σ H E I hf st hg
    subst hP hw hK
    obtain ⟨xs,x,hq,hx⟩:=hg
    obtain ⟨its,rv,p,hz⟩:=I.tuple hq
    obtain ⟨u,hu,ru⟩:=rv.get hx
    obtain ⟨f0,f1,f2,f3,f4,f5⟩:=hf it (by simp)
    refine wpAny_pyNext_tuple_item st (show s.heap.IsTuple a its.toArray from p) (x:=u) (by simpa using hu) fun h' st' sb=>?_
    have I1:Inv X pins σ H { s with heap:=h' }:=I.turned (t':=s.toks) (fun b o hb e=>(sb.2 b hb).trans e) f0 f1 f3 f4 f5
    obtain ⟨o,e,c,d⟩:=id st'
    exact ⟨u,rfl,k0i (s:={ s with heap:=h' }) e c d (by decide) ⟨x,H,I1,ru,⟨rfl,fun ys hy=>by rw [I.tuple_inj hy hq]; exact hx⟩,st',fun b hb=>(hf b hb).1⟩⟩
  done:=by
    intro X hP hw hK hc i pins s σ H E I hf st hg
    subst hP hw hK
    obtain ⟨xs,hq,hx⟩:=hg
    obtain ⟨its,rv,p,hz⟩:=I.tuple hq
    obtain ⟨f0,f1,f2,f3,f4,f5⟩:=hf it (by simp)
    have hl:=rv.length
    exact wpAny_pyNext_tuple_end (I.ok.hd hc) st (show s.heap.IsTuple a its.toArray from p) (by simp; omega) fun h' eb=>⟨rfl,I.turned (t':=s.toks) (fun b o hb e=>eb b o hb e) f0 f1 f3 f4 f5⟩
  self:=fun _ _ _ _ _ st h=>wpAny_pyIter_tupleiter st h
theorem l0n {P:Program} {w:World} {K:PySem.W.Frag} {tg:Expr} (it:Addr) (lo:Int) (n:Nat):Turn P w K tg (Itr lo n) [it] it (fun i h=>IsRangeIter h it (lo + (i:Nat) * 1) ((n:Int) - (i:Nat)) 1) where
  mem:=by simp
  obj:=fun i h st b hb=>by
    have e:b=it:=by simpa using hb
    subst e
    exact ⟨_,st,fun v z=>by
      have z':Data.fields _=Data.cell v:=z
      cases z'⟩
  keep:=fun i h h' st k=>k it (by simp) _ st
  item:=by
    intro X hP hw hK hc i pins s σ H E I hf st hg
    subst hP hw hK
    obtain ⟨f0,f1,f2,f3,f4,f5⟩:=hf it (by simp)
    have W:=Walks.range (prog:=X.prog) (w:=X.w) (I.ok.hd hc) it lo 1 n
    refine W.item i s _ _ hg st fun v h' tk hv st' kk=>?_
    obtain ⟨t,rfl⟩:=hv
    have I1:Inv X pins σ H { s with heap:=h',toks:=tk }:=I.turned (fun b o hb e=>kk b o (by simpa using hb) e) f0 f1 f3 f4 f5
    refine ⟨_,rfl,k0i (s:={ s with heap:=h',toks:=tk }) (n := "range_iterator") st' rfl rfl (by decide) ⟨.int (lo + i),H,I1,⟨t,?_⟩,⟨rfl,rfl⟩,st',fun b hb=>(hf b hb).1⟩⟩
    rw [Int.mul_one]
  done:=by
    intro X hP hw hK hc i pins s σ H E I hf st hg
    subst hP hw hK
    obtain ⟨f0,f1,f2,f3,f4,f5⟩:=hf it (by simp)
    exact wpAny_pyNext_range_end (I.ok.hd hc) st (by have:n≤i:=hg; omega) fun h' eb=>⟨rfl,I.turned (t':=s.toks) (fun b o hb e=>eb b o hb e) f0 f1 f3 f4 f5⟩
  self:=fun _ _ _ _ _ st h=>wpAny_pyIter_rangeiter st h
end L2
namespace L2
open PySem PySem.Spec PyProof.Rows
section
variable {X:Cx} {tg:Expr}
theorem m0z {pins:List (Addr×Obj)} {σ:St} {H:Hp} {s:Shared} {R:It→Hp→Prop} {E:Value→Shared→Prop} {lo hi:Int} {t u v:Tok} {tk:Nat} (I:Inv X pins σ H s) (h1:-(2 ^ 62)≤lo) (h2:lo < 2 ^ 62) (h3:-(2 ^ 62)≤hi) (h4:hi < 2 ^ 62)
    (q:R (Itr lo (hi - lo).toNat) H):wpAny (model X.prog X.w) X.A (pyIter (.ref s.heap.objs.size)) (PIE X pins σ tg R) E { s with heap:=s.heap.push { cls:=.type "range",data:=.fields #[.int lo t,.int hi u,.int 1 v] },toks:=tk }:=by
  refine wpAny_pyIter_range (IsRange.new ..) (small_one h1 h2 h3 h4) ?_
  have I1:Inv X pins σ H { s with heap:=s.heap.push { cls:=.type "range",data:=.fields #[.int lo t,.int hi u,.int 1 v] },toks:=tk }:=I.kept fun b o e=>Heap.get?_push_of_some _ e
  refine ⟨(s.heap.push { cls:=.type "range",data:=.fields #[.int lo t,.int hi u,.int 1 v] }).objs.size,[(s.heap.push { cls:=.type "range",data:=.fields #[.int lo t,.int hi u,.int 1 v] }).objs.size],_,_,H,rfl,
    I1.kept (t':=tk) fun b o e=>Heap.get?_push_of_some _ e,l0n _ lo (hi - lo).toNat,?_,fun b hb=>?_,q⟩
  · have e1:lo + ((0:Nat):Int) * 1=lo:=by simp
    have e2:(((hi - lo).toNat:Nat):Int) - ((0:Nat):Int)=Builtin.Range.rangeSize lo hi 1:=by rw [rangeSize_one]; split <;> omega
    show IsRangeIter _ _ (lo + ((0:Nat):Int) * 1) ((((hi - lo).toNat:Nat):Int) - ((0:Nat):Int)) 1
    rw [e1,e2]
    exact Heap.get?_push_size _ rfl
  · have e:b=(s.heap.push { cls:=.type "range",data:=.fields #[.int lo t,.int hi u,.int 1 v] }).objs.size:=by simpa using hb
    subst e
    exact I1.fpOk (Nat.le_refl _) (I1.hok.fresh (Nat.le_refl _))
noncomputable def iRng1 (ta:TA):TI:=fun σ H R=>ta σ H fun vs H1=>∃ j:Int,vs=[.int j]∧-(2 ^ 62)≤j∧j < 2 ^ 62∧R (Itr 0 j.toNat) H1
noncomputable def iRng2 (ta:TA):TI:=fun σ H R=>ta σ H fun vs H1=>∃ i j:Int,vs=[.int i,.int j]∧(-(2 ^ 62)≤i∧i < 2 ^ 62∧-(2 ^ 62)≤j∧j < 2 ^ 62)∧R (Itr i (j - i).toNat) H1
theorem k0g {a:Expr} {ta:TA} {p pos:Pos} (hg:Gl X "range") (hm:X.mg "range" = none) (ha:PA X [a] ta) (hs:starEach [a] X.env=[(false,eval a X.env)]:=by rfl):PI X tg (.Call (.Name "range" p) [a] [] pos) (iRng1 ta):=by
  intro pins s σ H R I h
  refine Call_ (o8 I hg hm boot_range (PyProof.Rows.callWith_type1 (thn (ha pos pins s σ H _ I h) fun us s1 ⟨vs,H1,I1,r1,q1⟩=>?_) hs rfl))
  obtain ⟨j,e,q1,q2,q⟩:=q1
  subst e
  cases r1 with
  | cons r rr =>
    cases rr
    obtain ⟨t,rfl⟩:=r
    exact call_range_1 (m0z I1 (by omega) (by omega) q1 q2 (by simpa using q))
theorem k0f {a b:Expr} {ta:TA} {p pos:Pos} (hg:Gl X "range") (hm:X.mg "range" = none) (ha:PA X [a,b] ta) (hs:starEach [a,b] X.env=[(false,eval a X.env),(false,eval b X.env)]:=by rfl) (hs2:starEach [b] X.env=[(false,eval b X.env)]:=by rfl) :
    PI X tg (.Call (.Name "range" p) [a,b] [] pos) (iRng2 ta):=by
  intro pins s σ H R I h
  refine Call_ (o8 I hg hm boot_range (PyProof.Rows.callWith_type1 (thn (ha pos pins s σ H _ I h) fun us s1 ⟨vs,H1,I1,r1,q1⟩=>?_) (by rw [hs,hs2]) (by rw [hs2]; rfl)))
  obtain ⟨i,j,e,⟨q1,q2,q3,q4⟩,q⟩:=q1
  subst e
  cases r1 with
  | cons r rr =>
    cases rr with
    | cons r' rr =>
      cases rr
      obtain ⟨t,rfl⟩:=r
      obtain ⟨t',rfl⟩:=r'
      exact call_range_2 (m0z I1 q1 q2 q3 q4 q)
noncomputable def tFor (wi:TI) (g:TG) (tb:TS):TS:=fun D σ H=>wi σ H fun J H1=>∃ W:Nat→Nat→St→Hp→Prop,(∃ m,W 0 m σ H1)∧∀ i m σ H,W i m σ H →
  (J.stop i H∧D.nx σ H)∨(J.go i H∧∃ N:St→Hp→Prop,(∀ σ' H',N σ' H'→∃ m',m' < m∧W (i + 1) m' σ' H')∧∀ x H',J.yld i H x H'→g x σ H' fun σ2 H2=>tb { D with nx:=N,ct:=N,bk:=D.nx } σ2 H2)
noncomputable def r0n (fp:List Addr) (h:Heap):List (Addr×Obj):=fp.filterMap fun b=>(h.get? b).map fun o=>(b,o)
theorem y0z {fp:List Addr} {h:Heap} {b:Addr} {o:Obj} (hb:b∈fp) (e:h.get? b=some o):(b,o)∈r0n fp h:=List.mem_filterMap.mpr ⟨b,hb,by rw [e]; rfl⟩
theorem k0e {fp:List Addr} {h:Heap} {p:Addr×Obj} (hp:p∈r0n fp h):p.1∈fp∧h.get? p.1=some p.2:=by
  obtain ⟨b,hb,e⟩:=List.mem_filterMap.mp hp
  cases q:h.get? b with
  | none=>rw [q] at e; cases e
  | some o =>
    rw [q] at e
    have e':(b,o)=p:=Option.some.inj e
    subst e'
    exact ⟨hb,q⟩
theorem Inv.pinned {pins:List (Addr×Obj)} {σ:St} {H:Hp} {s:Shared} {fp:List Addr} (I:Inv X pins σ H s) (hf:∀ b∈fp,FpOk X pins H b) (ho:∀ b∈fp,∃ o,s.heap.get? b=some o∧∀ v,o.data≠.cell v):Inv X (pins++r0n fp s.heap) σ H s :=
  I.pins_of fun p hp=>(List.mem_append.mp hp).elim (fun z=>I.pin p (List.mem_append_right _ z)) fun z=>by
    obtain ⟨hb,e⟩:=k0e z
    obtain ⟨f0,f1,f2,_⟩:=hf p.1 hb
    obtain ⟨o,e',d⟩:=ho p.1 hb
    rw [e] at e'; cases e'
    exact ⟨e,f0,f1,f2,d⟩
theorem Inv.unpinned {pins pl:List (Addr×Obj)} {σ:St} {H:Hp} {s:Shared} (I:Inv X (pins++pl) σ H s):Inv X pins σ H s:=I.pins_of fun p hp=>I.pin p (List.mem_append_right _ (List.mem_append_left _ hp))
theorem ps_for {iter:Expr} {body:List Stmt} {wi:TI} {g:TG} {tb:TS} {pos:Pos} (hp:PassesOwn (model X.prog X.w) X.A X.env X.xe) (hc:X.calm=true) (hi:PI X tg iter wi) (hg:PG X tg g) (hb:PSs X body tb)
    (hs:∀ x,foldedSetIterable iter X.env x=pure x:=by intro _; rfl):PS X (.For tg iter body [] pos) (tFor wi g tb):=by
  intro pins s σ H D I h
  refine wpAny_For (thn (hi pins s σ H _ I h) fun v s1 h1=>thn h1 fun itv s2 h2=>?_) hs
  obtain ⟨it,fp,tn,J,H2,e,I2,T,st2,f2,W,⟨m0,w0⟩,turn⟩:=h2
  subst e
  have stat:∀ {H':Hp},(∀ b∈fp,H' b=none)→∀ b∈fp,FpOk X pins H' b:=fun hn b hb=>⟨hn b hb,(f2 b hb).2⟩
  refine codeAny_forLoop_any (fun n s'=>∃ i σ' H',Inv X pins σ' H' s'∧tn i s'.heap∧(∀ b∈fp,H' b=none)∧W i n σ' H') ?_ m0 ⟨0,σ,H2,I2,st2,fun b hb=>(f2 b hb).1,w0⟩
  rintro n s3 ⟨i,σ3,H3,I3,st3,fr3,w3⟩
  rcases turn i n σ3 H3 w3 with ⟨stop,qn⟩ | ⟨go,N,hN,step⟩
  · refine wpAny_passesOwn hp (thn (T.done X rfl rfl rfl hc i pins s3 σ3 H3 X.xe I3 (stat fr3) st3 stop) fun r s4 ⟨hr,I4⟩=>?_)
    subst hr
    exact wpAny_execs_nil ⟨σ3,H3,I4,qn⟩
  · refine wpAny_passesOwn hp (thn (T.item X rfl rfl rfl hc i pins s3 σ3 H3 X.xe I3 (stat fr3) st3 go) fun r s4 ⟨u,hr,h4⟩=>?_)
    subst hr
    refine wpAny_passesOwn hp (thn h4 fun _ s5 ⟨x,H5,I5,r5,y5,st5,fr5⟩=>?_)
    have I5':=I5.pinned (stat fr5) (T.obj _ _ st5)
    refine wpAny_passesOwn hp (thn (hg _ s5 σ3 H5 x u _ I5' r5 (step x H5 y5)) fun _ s6 ⟨σ6,H6,I6,q6⟩=>?_)
    refine wpAny_passesOwn hp (thn (hb _ s6 σ6 H6 _ I6 q6) fun f s7 q7=>?_)
    have again:∀ {σ7:St} {H7:Hp},Inv X (pins++r0n fp s5.heap) σ7 H7 s7→N σ7 H7→∃ m,m < n∧∃ i σ' H',Inv X pins σ' H' s7∧tn i s7.heap∧(∀ b∈fp,H' b=none)∧W i m σ' H':=fun {σ7 H7} I7 n7=>by
      obtain ⟨m',hm,w7⟩:=hN σ7 H7 n7
      refine ⟨m',hm,i + 1,σ7,H7,I7.unpinned,T.keep _ _ _ st5 fun b hb o e=>(I7.pin (b,o) (List.mem_append_right _ (List.mem_append_right _ (y0z hb e)))).1,fun b hb=>?_,w7⟩
      obtain ⟨o,e,d⟩:=T.obj _ _ st5 b hb
      exact (I7.pin (b,o) (List.mem_append_right _ (List.mem_append_right _ (y0z hb e)))).2.1
    cases f with
    | next=>obtain ⟨σ7,H7,I7,n7⟩:=q7; exact again I7 n7
    | cont=>obtain ⟨σ7,H7,I7,n7⟩:=q7; exact again I7 n7
    | brk=>obtain ⟨σ7,H7,I7,q7⟩:=q7; exact ⟨σ7,H7,I7.unpinned,q7⟩
    | ret v=>obtain ⟨x7,σ7,H7,I7,r7,q7⟩:=q7; exact ⟨x7,σ7,H7,I7.unpinned,r7,q7⟩
end
end L2
namespace L2
open PySem PySem.Spec PyProof.Rows
noncomputable abbrev R2:=V→V→Hp→VK→Prop
noncomputable def OpR (X:Cx) (f:Value→Value→Sem Value) (r:R2):Prop :=
  ∀ (pins:List (Addr×Obj)) (s:Shared) (σ:St) (H:Hp) (x y:V) (v u:Value) (Q:VK),Inv X pins σ H s→RelV x v→RelV y u→r x y H Q →
    wpAny (model X.prog X.w) X.A (f v u) (EP X pins σ Q) X.xe s
noncomputable def UnR (X:Cx) (f:Value→Sem Value) (r:V→Hp→VK→Prop):Prop :=
  ∀ (pins:List (Addr×Obj)) (s:Shared) (σ:St) (H:Hp) (x:V) (v:Value) (Q:VK),Inv X pins σ H s→RelV x v→r x H Q →
    wpAny (model X.prog X.w) X.A (f v) (EP X pins σ Q) X.xe s
noncomputable def x0h (X:Cx) (f:Value) (r:List V→Hp→VK→Prop):Prop :=
  ∀ (pins:List (Addr×Obj)) (s:Shared) (σ:St) (H:Hp) (xs:List V) (us:List Value) (Q:VK),Inv X pins σ H s→Vals xs us→r xs H Q →
    wpAny (model X.prog X.w) X.A (call f us) (EP X pins σ Q) X.xe s
noncomputable def tOp (r:R2) (ta tb:TE):TE:=fun σ H Q=>ta σ H fun x H1=>tb σ H1 fun y H2=>r x y H2 Q
noncomputable def tUn (r:V→Hp→VK→Prop) (ta:TE):TE:=fun σ H Q=>ta σ H fun x H1=>r x H1 Q
noncomputable def rI (C:Int→Int→Prop) (g:Int→Int→V):R2:=fun x y H Q=>∃ i j,x=.int i∧y=.int j∧C i j∧Q (g i j) H
noncomputable def rI0 (g:Int→Int→V):R2:=fun x y H Q=>∃ i j,x=.int i∧y=.int j∧Q (g i j) H
noncomputable def rU (g:Int→V):V→Hp→VK→Prop:=fun x H Q=>∃ i,x=.int i∧Q (g i) H
section
variable {X:Cx} {a b c:Expr} {ta tb tc:TE} {pos:Pos}
theorem binT (ha:PE X a ta) (hb:PE X b tb) {pins:List (Addr×Obj)} {s:Shared} {σ:St} {H:Hp} {R:V→V→Hp→Prop} (I:Inv X pins σ H s)
    (h:ta σ H fun x H1=>tb σ H1 fun y H2=>R x y H2) {Q:Value→Shared→Prop} {f:Value→Value→Sem Value}
    (hf:∀ v u s2 x y H2,Inv X pins σ H2 s2→RelV x v→RelV y u→R x y H2→wpAny (model X.prog X.w) X.A (f v u) Q X.xe s2) :
    wpAny (model X.prog X.w) X.A (eval a X.env) (fun v s₁=>wpAny (model X.prog X.w) X.A (eval b X.env) (fun u s₂=>wpAny (model X.prog X.w) X.A (f v u) Q X.xe s₂) X.xe s₁) X.xe s:=by
  refine thn (ha pins s σ H _ I h) fun v s1 ⟨x,H1,I1,r1,q1⟩=>?_
  refine thn (hb pins s1 σ H1 _ I1 q1) fun u s2 ⟨y,H2,I2,r2,q2⟩=>?_
  exact hf v u s2 x y H2 I2 r1 r2 q2
theorem pe_op {op:Operator} {r:R2} (ho:OpR X (binaryOp op) r) (ha:PE X a ta) (hb:PE X b tb):PE X (.BinOp a op b pos) (tOp r ta tb):=by
  intro pins s σ H Q I h
  exact wpAny_BinOp (binT ha hb I h fun v u s2 x y H2 I2 rx ry q=>ho pins s2 σ H2 x y v u Q I2 rx ry q)
theorem pe_un {op:UnaryOp} {r:V→Hp→VK→Prop} (ho:UnR X (unaryOp op) r) (ha:PE X a ta):PE X (.UnaryOp op a pos) (tUn r ta):=by
  intro pins s σ H Q I h
  exact UnaryOp_ (thn (ha pins s σ H _ I h) fun v s1 ⟨x,H1,I1,r1,q1⟩=>ho pins s1 σ H1 x v Q I1 r1 q1)
theorem opI {f:Value→Value→Sem Value} {C:Int→Int→Prop} {g:Int→Int→Int}
    (rule:∀ (i j:Int) (t u:Tok) (s:Shared) (Q:Value→Shared→Prop) (E:Value→Shared→Prop),C i j→Q (.int (g i j) s.toks) { s with toks:=s.toks + 1 }→wpAny (model X.prog X.w) X.A (f (.int i t) (.int j u)) Q E s) :
    OpR X f (rI C fun i j=>.int (g i j)):=by
  intro pins s σ H x y v u Q I rx ry h
  obtain ⟨i,j,rfl,rfl,hc,q⟩:=h
  obtain ⟨t,rfl⟩:=rx
  obtain ⟨t',rfl⟩:=ry
  exact rule i j t t' s _ _ hc ⟨.int (g i j),H,I.tok _,⟨_,rfl⟩,q⟩
theorem opI0 {f:Value→Value→Sem Value} {g:Int→Int→Int}
    (rule:∀ (i j:Int) (t u:Tok) (s:Shared) (Q:Value→Shared→Prop) (E:Value→Shared→Prop),Q (.int (g i j) s.toks) { s with toks:=s.toks + 1 }→wpAny (model X.prog X.w) X.A (f (.int i t) (.int j u)) Q E s) :
    OpR X f (rI0 fun i j=>.int (g i j)):=by
  intro pins s σ H x y v u Q I rx ry h
  obtain ⟨i,j,rfl,rfl,q⟩:=h
  obtain ⟨t,rfl⟩:=rx
  obtain ⟨t',rfl⟩:=ry
  exact rule i j t t' s _ _ ⟨.int (g i j),H,I.tok _,⟨_,rfl⟩,q⟩
theorem opB0 {f:Value→Value→Sem Value} {g:Int→Int→Bool}
    (rule:∀ (i j:Int) (t u:Tok) (s:Shared) (Q:Value→Shared→Prop) (E:Value→Shared→Prop),Q (.bool (g i j)) s→wpAny (model X.prog X.w) X.A (f (.int i t) (.int j u)) Q E s) :
    OpR X f (rI0 fun i j=>.bl (g i j)):=by
  intro pins s σ H x y v u Q I rx ry h
  obtain ⟨i,j,rfl,rfl,q⟩:=h
  obtain ⟨t,rfl⟩:=rx
  obtain ⟨t',rfl⟩:=ry
  exact rule i j t t' s _ _ ⟨.bl (g i j),H,I,rfl,q⟩
noncomputable def CDiv (i j:Int):Prop:=0 < j∧j < 1073741824
noncomputable def CPow (i j:Int):Prop:=0≤j∧j≤1000000∧i.natAbs < 2 ^ 64
noncomputable def CMul (i j:Int):Prop:=(-(2 ^ 64) < i∧i < 2 ^ 64)∨(-(2 ^ 64) < j∧j < 2 ^ 64)
theorem CMul.ok {i j:Int} (h:CMul i j):IntMulOk i j:=by
  rcases h with ⟨h1,h2⟩ | ⟨h1,h2⟩
  · exact .of_left (intBits_le_64 h1 h2)
  · exact .of_right (intBits_le_64 h1 h2)
theorem op_add:OpR X (binaryOp .Add) (rI0 fun i j=>.int (i + j)):=opI0 fun _ _ _ _ _ _ _ q=>add_int q
theorem x0t:OpR X (binaryOp .Sub) (rI0 fun i j=>.int (i - j)):=opI0 fun _ _ _ _ _ _ _ q=>sub_int q
theorem w0j:OpR X (binaryOp .Mult) (rI CMul fun i j=>.int (i * j)):=opI fun _ _ _ _ _ _ _ hc q=>mul_int q hc.ok
theorem x0g:OpR X (binaryOp .FloorDiv) (rI CDiv fun i j=>.int (i / j)):=opI fun i j _ _ _ _ _ hc q=>by
  have h1:(0:Int) < j:=hc.1
  have h2:j < 1073741824:=hc.2
  exact floordiv_int (by omega) (by rw [Int.fdiv_eq_ediv_of_nonneg i (by omega)]; exact q) (.inl (PyProof.noPylong_small (by omega)))
theorem d4:OpR X (binaryOp .Mod) (rI (fun _ j=>0 < j) fun i j=>.int (i % j)):=opI fun i j _ _ _ _ _ hc q=>by
  have h1:(0:Int) < j:=hc
  exact mod_int' (by omega) (by rw [Int.fmod_eq_emod_of_nonneg i (by omega)]; exact q)
theorem d0q:OpR X (binaryOp .Pow) (rI CPow fun i j=>.int (i ^ j.toNat)):=opI fun _ _ _ _ _ _ _ hc q=>pow_int_small hc.1 hc.2.1 hc.2.2 q
theorem unI {f:Value→Sem Value} {g:Int→Int}
    (rule:∀ (i:Int) (t:Tok) (s:Shared) (Q:Value→Shared→Prop) (E:Value→Shared→Prop),Q (.int (g i) s.toks) { s with toks:=s.toks + 1 }→wpAny (model X.prog X.w) X.A (f (.int i t)) Q E s) :
    UnR X f (rU fun i=>.int (g i)):=by
  intro pins s σ H x v Q I rx h
  obtain ⟨i,rfl,q⟩:=h
  obtain ⟨t,rfl⟩:=rx
  exact rule i t s _ _ ⟨.int (g i),H,I.tok _,⟨_,rfl⟩,q⟩
theorem un_neg:UnR X (unaryOp .USub) (rU fun i=>.int (-i)):=unI fun _ _ _ _ _ q=>neg_int q
end
noncomputable def scal:V→V→Bool
  | .non,.non=>true | .non,.int _=>true | .int _,.non=>true | .non,.bl _=>true | .bl _,.non=>true | .non,.str _=>true | .str _,.non=>true
  | .int _,.int _=>true | .bl _,.bl _=>true | .str _,.str _=>true | .byt _,.byt _=>true
  | .int _,.str _=>true | .str _,.int _=>true | .bl _,.str _=>true | .str _,.bl _=>true
  | _,_=>false
noncomputable def rEq:R2:=fun x y H Q=>scal x y=true∧Q (.bl (decide (x=y))) H
noncomputable def rNe:R2:=fun x y H Q=>scal x y=true∧Q (.bl (!decide (x=y))) H
theorem k0d {i j:Int}:decide (V.int i=V.int j)=(i == j):=by
  rw [Bool.eq_iff_iff]
  simp
theorem d0p {i j:Bool}:decide (V.bl i=V.bl j)=(i == j):=by
  rw [Bool.eq_iff_iff]
  simp
theorem k0c {i j:Str}:decide (V.str i=V.str j)=(i == j):=by
  rw [Bool.eq_iff_iff]
  simp
theorem k0b {i j:Array UInt8}:decide (V.byt i=V.byt j)=(i.toList == j.toList):=by
  rw [Bool.eq_iff_iff]
  cases i
  cases j
  simp
section
variable {X:Cx} {a b c:Expr} {ta tb tc:TE} {pos:Pos}
theorem b4 {pins:List (Addr×Obj)} {σ:St} {H:Hp} {s:Shared} {Q:VK} {k k':Bool} (I:Inv X pins σ H s) (q:Q (.bl k) H) (e:k=k'):EP X pins σ Q (.bool k') s:=by
  subst e
  exact ⟨.bl k,H,I,rfl,q⟩
theorem op_eq:OpR X (compareOp .Eq) rEq:=by
  intro pins s σ H x y v u Q I rx ry h
  obtain ⟨hs,q⟩:=h
  cases x with
  | non =>
    cases rx
    cases y with
    | non=>cases ry; exact PySem.EqNone.eq_none_none (b4 I q (by simp))
    | bl j=>cases ry; exact PySem.EqNone.eq_none_bool (b4 I q (by simp))
    | int j=>obtain ⟨t',rfl⟩:=ry; exact PySem.EqNone.eq_none_int (b4 I q (by simp))
    | str j=>obtain ⟨t',rfl⟩:=ry; exact PySem.EqNone.eq_none_str (b4 I q (by simp))
    | _=>exact absurd (show false=true from hs) Bool.false_ne_true
  | bl i =>
    cases rx
    cases y with
    | non=>cases ry; exact PySem.EqNone.eq_bool_none (b4 I q (by simp))
    | bl j=>cases ry; exact eq_bool (b4 I q d0p)
    | str j=>obtain ⟨t',rfl⟩:=ry; exact PySem.EqMixed.eq_bool_str (b4 I q (by simp))
    | _=>exact absurd (show false=true from hs) Bool.false_ne_true
  | int i =>
    obtain ⟨t,rfl⟩:=rx
    cases y with
    | non=>cases ry; exact PySem.EqNone.eq_int_none (b4 I q (by simp))
    | int j=>obtain ⟨t',rfl⟩:=ry; exact eq_int (b4 I q k0d)
    | str j=>obtain ⟨t',rfl⟩:=ry; exact PySem.EqMixed.eq_int_str (b4 I q (by simp))
    | _=>exact absurd (show false=true from hs) Bool.false_ne_true
  | str i =>
    obtain ⟨t,rfl⟩:=rx
    cases y with
    | non=>cases ry; exact PySem.EqNone.eq_str_none (b4 I q (by simp))
    | bl j=>cases ry; exact PySem.EqMixed.eq_str_bool (b4 I q (by simp))
    | int j=>obtain ⟨t',rfl⟩:=ry; exact PySem.EqMixed.eq_str_int (b4 I q (by simp))
    | str j=>obtain ⟨t',rfl⟩:=ry; exact eq_str (b4 I q k0c)
    | _=>exact absurd (show false=true from hs) Bool.false_ne_true
  | byt i =>
    obtain ⟨t,rfl⟩:=rx
    cases y with
    | byt j=>obtain ⟨t',rfl⟩:=ry; exact PySem.W.eq_bytes (b4 I q k0b)
    | _=>exact absurd (show false=true from hs) Bool.false_ne_true
  | _=>cases y <;> exact absurd (show false=true from hs) Bool.false_ne_true
theorem op_ne:OpR X (compareOp .NotEq) rNe:=by
  intro pins s σ H x y v u Q I rx ry h
  obtain ⟨hs,q⟩:=h
  cases x with
  | non =>
    cases rx
    cases y with
    | non=>cases ry; exact PySem.EqNone.ne_none_none (b4 I q (by simp))
    | bl j=>cases ry; exact PySem.EqNone.ne_none_bool (b4 I q (by simp))
    | int j=>obtain ⟨t',rfl⟩:=ry; exact PySem.EqNone.ne_none_int (b4 I q (by simp))
    | str j=>obtain ⟨t',rfl⟩:=ry; exact PySem.EqNone.ne_none_str (b4 I q (by simp))
    | _=>exact absurd (show false=true from hs) Bool.false_ne_true
  | bl i =>
    cases rx
    cases y with
    | non=>cases ry; exact PySem.EqNone.ne_bool_none (b4 I q (by simp))
    | bl j=>cases ry; exact ne_bool (b4 I q (congrArg not d0p))
    | str j=>obtain ⟨t',rfl⟩:=ry; exact PySem.EqMixed.ne_bool_str (b4 I q (by simp))
    | _=>exact absurd (show false=true from hs) Bool.false_ne_true
  | int i =>
    obtain ⟨t,rfl⟩:=rx
    cases y with
    | non=>cases ry; exact PySem.EqNone.ne_int_none (b4 I q (by simp))
    | int j=>obtain ⟨t',rfl⟩:=ry; exact ne_int (b4 I q (congrArg not k0d))
    | str j=>obtain ⟨t',rfl⟩:=ry; exact PySem.EqMixed.ne_int_str (b4 I q (by simp))
    | _=>exact absurd (show false=true from hs) Bool.false_ne_true
  | str i =>
    obtain ⟨t,rfl⟩:=rx
    cases y with
    | non=>cases ry; exact PySem.EqNone.ne_str_none (b4 I q (by simp))
    | bl j=>cases ry; exact PySem.EqMixed.ne_str_bool (b4 I q (by simp))
    | int j=>obtain ⟨t',rfl⟩:=ry; exact PySem.EqMixed.ne_str_int (b4 I q (by simp))
    | str j=>obtain ⟨t',rfl⟩:=ry; exact ne_str (b4 I q (congrArg not k0c))
    | _=>exact absurd (show false=true from hs) Bool.false_ne_true
  | byt i =>
    obtain ⟨t,rfl⟩:=rx
    cases y with
    | byt j=>obtain ⟨t',rfl⟩:=ry; exact PySem.W.ne_bytes (b4 I q (congrArg not k0b))
    | _=>exact absurd (show false=true from hs) Bool.false_ne_true
  | _=>cases y <;> exact absurd (show false=true from hs) Bool.false_ne_true
theorem p0b:OpR X (compareOp .Lt) (rI0 fun i j=>.bl (decide (i < j))):=opB0 fun _ _ _ _ _ _ _ q=>lt_int q
theorem g0b:OpR X (compareOp .LtE) (rI0 fun i j=>.bl (decide (i≤j))):=opB0 fun _ _ _ _ _ _ _ q=>le_int q
theorem op_gt:OpR X (compareOp .Gt) (rI0 fun i j=>.bl (decide (j < i))):=opB0 fun _ _ _ _ _ _ _ q=>gt_int q
theorem b0p:OpR X (compareOp .GtE) (rI0 fun i j=>.bl (decide (j≤i))):=opB0 fun _ _ _ _ _ _ _ q=>ge_int q
theorem op_isN:OpR X (compareOp .Is) (fun x y H Q=>y=.non∧Q (.bl (decide (x=.non))) H):=by
  intro pins s σ H x y v u Q I rx ry h
  obtain ⟨rfl,q⟩:=h
  cases ry
  refine is_none_gen (b4 I q ?_)
  cases x <;> first
    | (cases rx; rfl)
    | (obtain ⟨t,rfl⟩:=rx; rfl)
theorem k0a:OpR X (compareOp .IsNot) (fun x y H Q=>y=.non∧Q (.bl (!decide (x=.non))) H):=by
  intro pins s σ H x y v u Q I rx ry h
  obtain ⟨rfl,q⟩:=h
  cases ry
  refine isnot_none_gen (b4 I q ?_)
  cases x <;> first
    | (cases rx; rfl)
    | (obtain ⟨t,rfl⟩:=rx; rfl)
theorem z5 (b:Expr) {op:CmpOp} (h:op≠.In:=by decide) (h2:op≠.NotIn:=by decide):behindInMarks op b=false:=by
  have e1:(op == CmpOp.In)=false:=by cases op <;> first | rfl | exact absurd rfl h
  have e2:(op == CmpOp.NotIn)=false:=by cases op <;> first | rfl | exact absurd rfl h2
  cases b <;> simp [behindInMarks,e1,e2]
theorem b0o {op:CmpOp} {r:R2} (ho:OpR X (compareOp op) r) (ha:PE X a ta) (hb:PE X b tb) (hm:behindInMarks op b=false):PE X (.Compare a [op] [b] pos) (tOp r ta tb):=by
  intro pins s σ H Q I h
  exact wpAny_Compare1 (binT ha hb I h fun v u s2 x y H2 I2 rx ry q=>ho pins s2 σ H2 x y v u Q I2 rx ry q) hm
noncomputable def tTest (t:TE):TT:=fun σ H Q=>t σ H fun x H'=>∃ k,x=.bl k∧Q k H'
theorem b0n {op:CmpOp} {r:R2} (ho:OpR X (compareOp op) r) (ha:PE X a ta) (hb:PE X b tb) (hm:behindInMarks op b=false):PT X (.Compare a [op] [b] pos) (tTest (tOp r ta tb)):=by
  intro pins s σ H Q I h
  refine wpAny_isTrue_Compare1 (thn (ha pins s σ H _ I h) fun v s1 ⟨x,H1,I1,r1,q1⟩=>thn (hb pins s1 σ H1 _ I1 q1) fun u s2 ⟨y,H2,I2,r2,q2⟩ =>
    thn (ho pins s2 σ H2 x y v u _ I2 r1 r2 q2) fun c s3 ⟨z,H3,I3,r3,k,e,q3⟩=>?_) hm
  subst e
  cases r3
  exact wpAny_truthy_bool ⟨H3,I3,q3⟩
noncomputable def j0z (r r':R2) (ta tb tc:TE):TE:=fun σ H Q=>ta σ H fun x H1=>tb σ H1 fun y H2=>r x y H2 fun z H3=>∃ k,z=.bl k ∧
  (if k=true then tc σ H3 fun w' H4=>r' y w' H4 Q else Q (.bl false) H3)
theorem g0a {op op':CmpOp} {r r':R2} (ho:OpR X (compareOp op) r) (ho':OpR X (compareOp op') r') (ha:PE X a ta) (hb:PE X b tb) (hc:PE X c tc)
    (hm:lastMarks [op,op'] [b,c]=false:=by with_unfolding_all rfl):PE X (.Compare a [op,op'] [b,c] pos) (j0z r r' ta tb tc):=by
  intro pins s σ H Q I h
  refine Compare_chain (thn (ha pins s σ H _ I h) fun v s1 ⟨x,H1,I1,r1,q1⟩=>chain_link (thn (hb pins s1 σ H1 _ I1 q1) fun u s2 ⟨y,H2,I2,r2,q2⟩ =>
    thn (ho pins s2 σ H2 x y v u _ I2 r1 r2 q2) fun d s3 ⟨z,H3,I3,r3,k,e,q3⟩=>?_)) hm
  subst e
  cases r3
  refine wpAny_truthy_bool ?_
  cases k with
  | false=>exact ite_ff ⟨.bl false,H3,I3,rfl,q3⟩
  | true=>exact ite_tt (chain_last (thn (hc pins s3 σ H3 _ I3 q3) fun w' s4 ⟨z',H4,I4,r4,q4⟩=>ho' pins s4 σ H4 y z' u w' Q I4 r2 r4 q4))
theorem f0z {op op':CmpOp} {r r':R2} (ho:OpR X (compareOp op) r) (ho':OpR X (compareOp op') r') (ha:PE X a ta) (hb:PE X b tb) (hc:PE X c tc)
    (hm:lastMarks [op,op'] [b,c]=false:=by with_unfolding_all rfl):PT X (.Compare a [op,op'] [b,c] pos) (tTest (j0z r r' ta tb tc)):=by
  intro pins s σ H Q I h
  refine isTrue_chain (thn (ha pins s σ H _ I h) fun v s1 ⟨x,H1,I1,r1,q1⟩=>test_link (thn (hb pins s1 σ H1 _ I1 q1) fun u s2 ⟨y,H2,I2,r2,q2⟩ =>
    thn (ho pins s2 σ H2 x y v u _ I2 r1 r2 q2) fun d s3 ⟨z,H3,I3,r3,k,e,q3⟩=>?_)) hm
  subst e
  cases r3
  refine wpAny_truthy_bool ?_
  cases k with
  | false =>
    obtain ⟨k',e',q'⟩:=q3
    cases e'
    exact ite_ff ⟨H3,I3,q'⟩
  | true =>
    refine ite_tt (test_last (thn (hc pins s3 σ H3 _ I3 q3) fun w' s4 ⟨z',H4,I4,r4,q4⟩=>thn (ho' pins s4 σ H4 y z' u w' _ I4 r2 r4 q4) fun d' s5 ⟨z2,H5,I5,r5,k2,e2,q5⟩=>?_))
    subst e2
    cases r5
    exact wpAny_truthy_bool ⟨H5,I5,q5⟩
theorem m0y:(sizeLine:Nat) < 2 ^ 63:=by rw [sizeLine_eq]; decide
theorem j0y {x:V} {us:List Value} (r:Vals [x] us):∃ u,us=[u]∧RelV x u:=by
  cases r with
  | cons r1 r2=>cases r2; exact ⟨_,rfl,r1⟩
theorem vals2 {x y:V} {us:List Value} (r:Vals [x,y] us):∃ u w',us=[u,w']∧RelV x u∧RelV y w':=by
  cases r with
  | cons r1 r2 =>
    cases r2 with
    | cons r3 r4=>cases r4; exact ⟨_,_,rfl,r1,r3⟩
theorem f0y:x0h X (.builtin "abs") (fun xs H Q=>∃ i,xs=[.int i]∧Q (.int (if i < 0 then -i else i)) H):=by
  intro pins s σ H xs us Q I r h
  obtain ⟨i,rfl,q⟩:=h
  obtain ⟨u,rfl,t,rfl⟩:=j0y r
  exact call_abs_int fun u tk=>⟨.int (if i < 0 then -i else i),H,I.tok _,⟨_,rfl⟩,q⟩
theorem j0x (hc:X.calm=true):x0h X (.builtin "min") (fun xs H Q=>∃ i j,xs=[.int i,.int j]∧Q (.int (if j < i then j else i)) H):=by
  intro pins s σ H xs us Q I r h
  obtain ⟨i,j,rfl,q⟩:=h
  obtain ⟨u,w',rfl,⟨t,rfl⟩,⟨t',rfl⟩⟩:=vals2 r
  refine min_two_ints (I.ok.hd hc) fun h' tk k=>⟨_,H,I.kept k,?_,q⟩
  by_cases hj:j < i
  · rw [if_pos hj,if_pos hj]; exact ⟨_,rfl⟩
  · rw [if_neg hj,if_neg hj]; exact ⟨_,rfl⟩
end
end L2
namespace L2
open PySem PySem.Spec PyProof.Rows
structure ObjM (h:Heap) (x dx C:Addr) (mA:Str→Option Value):Prop where
  obj:h.get? x=some (PySem.W.instObj C dx)
  ns:h.Ns1 dx mA
  ne:dx≠x
theorem lookIn_ns {h:Heap} {dx:Addr} {mA:Str→Option Value} (n:h.Ns1 dx mA):∃ od,h.get? dx=some od∧∀ name,PySem.W.lookIn name od=some (mA name):=by
  obtain ⟨o,es,ep,ho,hd,hk,_,hm⟩:=n
  refine ⟨o,ho,fun name=>?_⟩
  have e:=hm name
  unfold nsFind findBy at e
  rw [← Array.find?_toList] at e
  unfold PySem.W.lookIn
  rw [hd]
  dsimp only
  split
  · rename_i y q
    rw [q] at e
    exact congrArg some e
  · rename_i q
    rw [q] at e
    have a:es.toList.any (·.refKey)=false:=by
      rw [List.any_eq_false]
      intro y hy
      obtain ⟨z,t,hkey⟩:=hk y (Array.mem_toList_iff.mp hy)
      simp [DictEntry.refKey,hkey]
    have a':¬ es.toList.any (·.refKey)=true:=by rw [a]; exact Bool.false_ne_true
    rw [if_neg a']
    exact congrArg some e
theorem ObjM.look {h:Heap} {x dx C:Addr} {mA:Str→Option Value} (I:ObjM h x dx C mA):∃ od,PySem.W.InstAt h x (PySem.W.instObj C dx) C (some od)∧∀ name,PySem.W.lookIn name od=some (mA name) :=
  let ⟨od,ho,hl⟩:=lookIn_ns I.ns
  ⟨od,⟨I.obj,rfl,rfl,ho⟩,hl⟩
section
variable {prog:Program} {w:World} {A:Around} {E:Value→Shared→Prop} {s:Shared} {K:PySem.W.Frag} {x dx C f:Addr} {mA:Str→Option Value} {name:Str} {v:Value}
theorem b0m {expr:Bool} {Q:Value→Shared→Prop} (X:K.In s.heap) (I:ObjM s.heap x dx C mA) (hg:PySem.W.plainGet K C name=true) (hh:PySem.W.hasDictIn K C=true)
    (ha:PySem.W.findIn K (.ref C) name=some none) (hv:mA name=some v) (hv':PySem.W.handedIn v=true) (h:Q v { s with toks:=s.toks + 1 }) :
    wpAny (model prog w) A (getAttr (.ref x) name expr) Q E s:=by
  obtain ⟨od,J,hl⟩:=I.look
  exact PySem.W.get_value X J (PySem.W.plainGet_of hg).1 (PySem.W.findObj_own hh ha rfl (by rw [hl,hv])) hv' h
theorem b0l {ns:List Str} {Q:Unit→Shared→Prop} (X:K.In s.heap) (I:ObjM s.heap x dx C mA)
    (hs:PySem.W.findIn K (.ref C) "__setattr__" = some (some (.builtin "object.__setattr__"))) (hp:PySem.W.plainOver K C=true) (ht:PySem.W.takerIn K C name=some none) (hh:PySem.W.hasDictIn K C=true)
    (hw:PySem.Within mA ns) (hsz:ns.length≤sizeLine)
    (h:∀ h',ObjM h' x dx C (fun y=>if y=name then some v else mA y)→Heap.SameBut dx s.heap h'→Q () { s with heap:=h',toks:=s.toks + 2 }) :
    wpAny (model prog w) A (setAttr (.ref x) name v) Q E s:=by
  obtain ⟨od,J,hl⟩:=I.look
  refine PySem.W.set_plain X J hs (PySem.W.osa_open (s:={ s with toks:=s.toks + 1 }) (r:=none) X J hp ht fun b=>?_)
  obtain ⟨cd,hc,hd'⟩:=PySem.W.any_some hh
  have hx:s.heap.get? x=some ⟨.ref C,some dx,.plain,#[]⟩:=I.obj
  refine wpAny_bind (wpAny_pure (wpAny_bind (wpAny_bind (wpAny_loadPart hx (wpAny_bind (PySem.W.Looks.here (s:={ s with toks:=s.toks + 1 }) (PySem.W.looks_clsIn X hc) ?_))))))
  rw [hd']
  refine wpAny_pure (a:=some dx) (wpAny_bind (wpAny_pure (wpAny_bind ?_)))
  refine wpAny_nsSet1 (s:={ s with toks:=s.toks + 1 }) I.ns fun h' hn2 hs2=>?_
  obtain ⟨oD,esD,epD,hoD,hdD,hcD⟩:=hn2.count (PySem.Within.cons name v hw)
  refine wpAny_bind (wpAny_lookBehind hoD (by rw [hdD]; exact pastItsLine_dict (Nat.le_trans hcD (by rw [List.length_cons]; omega))) ?_)
  exact wpAny_pure (h _ ⟨(hs2.2 _ (Ne.symm I.ne)).trans I.obj,hn2,I.ne⟩ hs2)
theorem f0x {R:Result→Shared→Prop} {vs:List Value} {kw:List (Str×Value)} (X:K.In s.heap) (hm:PySem.W.makesIn K C=true)
    (hi:PySem.W.findIn K (.ref C) "__init__" = some (some (.ref f))) (hf:PySem.W.typeIn K (.ref f)=some (.type "function"))
    (h:codeAny (model prog w) (A.under (.builtin "type.__call__" ⟨.ref C :: vs,kw⟩)) (.call (.ref f) ⟨.ref (s.heap.objs.size + 1) :: vs,kw⟩) (PySem.W.InitBack (s.heap.objs.size + 1) R)
      { s with heap:=(s.heap.push PySem.W.emptyDict).push (PySem.W.instObj C s.heap.objs.size) }) :
    codeAny (model prog w) A (.call (.ref C) ⟨vs,kw⟩) R s:=by
  obtain ⟨hh,g,d,t,os⟩:=s
  exact PySem.W.make_core (PySem.W.makes_of X hm) (PySem.W.looks_findIn X hi) (fun self=>PySem.W.bind_fn X self hf) (.inl rfl) h
end
noncomputable def putF (f:Str) (v:V):List (Str×V)→List (Str×V)
  | []=>[(f,v)]
  | (g,x) :: r=>if g=f then (g,v) :: r else (g,x) :: putF f v r
theorem x9 (f g:Str) (v:V):∀ fs:List (Str×V),(putF f v fs).lookup g=if g=f then some v else fs.lookup g
  | []=>by
    show List.lookup g [(f,v)]=_
    by_cases h:g=f
    · have hb:(g == f)=true:=beq_iff_eq.mpr h
      simp only [List.lookup,hb,if_pos h]
    · have hb:(g == f)=false:=beq_eq_false_iff_ne.mpr h
      simp only [List.lookup,hb,if_neg h]
  | (k,x) :: r=>by
    have ih:=x9 f g v r
    rw [show putF f v ((k,x) :: r)=(if k=f then (k,v) :: r else (k,x) :: putF f v r) from rfl]
    by_cases hk:k=f
    · rw [if_pos hk]
      by_cases h:g=k
      · have hb:(g == k)=true:=beq_iff_eq.mpr h
        simp only [List.lookup,hb,if_pos (h.trans hk)]
      · have hb:(g == k)=false:=beq_eq_false_iff_ne.mpr h
        simp only [List.lookup,hb,if_neg (fun e:g=f=>h (e.trans hk.symm))]
    · rw [if_neg hk]
      by_cases h:g=k
      · have hb:(g == k)=true:=beq_iff_eq.mpr h
        simp only [List.lookup,hb,if_neg (fun e:g=f=>hk (h.symm.trans e))]
      · have hb:(g == k)=false:=beq_eq_false_iff_ne.mpr h
        simp only [List.lookup,hb]
        exact ih
theorem z0s (f:Str) (v:V):∀ fs:List (Str×V),f∈(putF f v fs).map (·.1)∧∀ g,g∈fs.map (·.1)→g∈(putF f v fs).map (·.1)
  | []=>⟨by simp [putF],fun g h=>by simp at h⟩
  | (k,x) :: r=>by
    obtain ⟨i1,i2⟩:=z0s f v r
    rw [show putF f v ((k,x) :: r)=(if k=f then (k,v) :: r else (k,x) :: putF f v r) from rfl]
    by_cases hk:k=f
    · rw [if_pos hk]
      subst hk
      exact ⟨by simp,fun g h=>by simpa using h⟩
    · rw [if_neg hk]
      refine ⟨?_,fun g h=>?_⟩
      · rw [List.map_cons]
        exact List.mem_cons_of_mem _ i1
      · rw [List.map_cons] at h ⊢
        rcases List.mem_cons.mp h with e | e
        · exact List.mem_cons.mpr (.inl e)
        · exact List.mem_cons_of_mem _ (i2 g e)
theorem v0l (f:Str) (v:V):∀ fs:List (Str×V),(putF f v fs).length≤fs.length + 1
  | []=>by simp [putF]
  | (k,x) :: r=>by
    have ih:=v0l f v r
    rw [show putF f v ((k,x) :: r)=(if k=f then (k,v) :: r else (k,x) :: putF f v r) from rfl]
    by_cases hk:k=f
    · rw [if_pos hk,List.length_cons,List.length_cons]; omega
    · rw [if_neg hk,List.length_cons,List.length_cons]; omega
theorem RelO.some_of {v:V} {o:Option Value} (r:RelO (some v) o):∃ u,o=some u∧RelV v u:=by
  cases o with
  | none=>exact (show False from r).elim
  | some u=>exact ⟨u,rfl,r⟩
theorem j0w {v:V} {u:Value} (r:RelV v u):PySem.W.handedIn u=true:=by
  cases v with
  | non=>cases (show u=Value.none from r); rfl
  | bl b=>cases (show u=Value.bool b from r); rfl
  | int i=>obtain ⟨t,e⟩:=(show ∃ t,u=Value.int i t from r); cases e; rfl
  | str x=>obtain ⟨t,e⟩:=(show ∃ t,u=Value.str x t from r); cases e; rfl
  | byt b=>obtain ⟨t,e⟩:=(show ∃ t,u=Value.bytes b t from r); cases e; rfl
  | flt b=>obtain ⟨t,e⟩:=(show ∃ t,u=Value.float b t from r); cases e; rfl
  | ref a=>cases (show u=Value.ref a from r); rfl
  | ty n=>cases (show u=Value.type n from r); rfl
section
variable {P:Program} {w:World} {H H':Hp} {h h':Heap} {a C dx:Addr} {fs fs':List (Str×V)}
theorem p0a (hok:HOk P w H h) (e:H a=some (.ins C dx fs)):∃ mA,ObjM h a dx C mA∧(∀ f,RelO (fs.lookup f) (mA f))∧PySem.Within mA (fs.map (·.1))∧fs.length≤1000∧H dx=some (.own a):=by
  obtain ⟨d,z,ne,ob,mA,n,r,q⟩:=(show ObjOk P w H h a (.ins C dx fs) from hok a _ e)
  exact ⟨mA,⟨ob,n,ne⟩,r,q,z,d⟩
end
structure Cls (K:PySem.W.Frag) (C:Addr):Prop where
  pg:PySem.W.plainGet K C Str.empty=true
  hd:PySem.W.hasDictIn K C=true
  po:PySem.W.plainOver K C=true
  sa:PySem.W.findIn K (.ref C) "__setattr__" = some (some (.builtin "object.__setattr__"))
theorem Cls.get {K:PySem.W.Frag} {C:Addr} (c:Cls K C) (f:Str):PySem.W.plainGet K C f=true:=c.pg
noncomputable def NoAttr (K:PySem.W.Frag) (C:Addr) (f:Str):Prop:=PySem.W.findIn K (.ref C) f=some none
theorem NoAttr.taker {K:PySem.W.Frag} {C:Addr} {f:Str} (n:NoAttr K C f):PySem.W.takerIn K C f=some none:=by
  unfold PySem.W.takerIn
  rw [show PySem.W.findIn K (.ref C) f=some none from n]
  rfl
structure Con (K:PySem.W.Frag) (C:Addr) (f:Str) (v:V) (u:Value):Prop where
  at_:PySem.W.findIn K (.ref C) f=some (some u)
  rel:RelV v u
  get:PySem.W.specialIn K u "__get__" = some none
  cp:PySem.W.copiedNames.contains f=false
structure Meth (K:PySem.W.Frag) (C:Addr) (m:Str) (f:Addr):Prop where
  at_:PySem.W.findIn K (.ref C) m=some (some (.ref f))
  fn:PySem.W.isFn K (.ref f)=true
  kp:PySem.W.keepIn K (.ref f)=true
section
variable {X:Cx} {pins:List (Addr×Obj)} {σ:St} {H:Hp} {s:Shared} {a C dx:Addr} {fs:List (Str×V)} {f:Str} {v:V} {A:Around} {E:Value→Shared→Prop}
theorem l0m {b:Bool} {Q:Value→Shared→Prop} (I:Inv X pins σ H s) (e:H a=some (.ins C dx fs)) (c:Cls X.K C) (n:NoAttr X.K C f) (l:fs.lookup f=some v)
    (h:∀ u s',Inv X pins σ H s'→RelV v u→Q u s'):wpAny (model X.prog X.w) A (getAttr (.ref a) f b) Q E s:=by
  obtain ⟨mA,O,r,_,_,_⟩:=p0a I.hok e
  obtain ⟨u,hu,ru⟩:=RelO.some_of (v:=v) (o:=mA f) (by rw [← l]; exact r f)
  exact b0m I.kIn O (c.get f) c.hd n hu (j0w ru) (h u _ (I.tok _) ru)
theorem l0l {y:V} {u:Value} {Q:Unit→Shared→Prop} (I:Inv X pins σ H s) (e:H a=some (.ins C dx fs)) (c:Cls X.K C) (n:NoAttr X.K C f) (hl:fs.length < 1000) (ry:RelV y u)
    (h:∀ s',Inv X pins σ (upd H a (.ins C dx (putF f y fs))) s'→Q () s'):wpAny (model X.prog X.w) A (setAttr (.ref a) f u) Q E s:=by
  obtain ⟨mA,O,r,wi,_,ho⟩:=p0a I.hok e
  have hz:(fs.map (·.1)).length≤sizeLine:=by rw [List.length_map,sizeLine_eq]; omega
  refine b0l I.kIn O c.sa c.po n.taker c.hd wi hz fun h' O' sb=>h _ ?_
  have hd:∃ o,h'.get? dx=some o:=let ⟨o,_,_,e',_⟩:=O'.ns; ⟨o,e'⟩
  refine I.write (x:=a) (e:=dx) (by rw [e]; exact True.intro) (.inr ho) (fun b q hb z=>(sb.2 b hb).trans z) hd ?_
  refine ⟨by rw [y0 O.ne]; exact ho,?_,O.ne,O'.obj,_,O'.ns,fun g=>?_,fun g hg=>?_⟩
  · have:=v0l f y fs; omega
  · show RelO ((putF f y fs).lookup g) (if g=f then some u else mA g)
    rw [x9]
    by_cases q:g=f
    · rw [if_pos q,if_pos q]; exact ry
    · rw [if_neg q,if_neg q]; exact r g
  · by_cases q:g=f
    · rw [q]; exact (z0s f y fs).1
    · refine (z0s f y fs).2 g (wi g fun z=>hg ?_)
      show (if g=f then some u else mA g)=none
      rw [if_neg q]; exact z
theorem Inv.made (I:Inv X pins σ H s):Inv X pins σ (upd (upd H s.heap.objs.size (.own (s.heap.objs.size + 1))) (s.heap.objs.size + 1) (.ins C s.heap.objs.size []))
    { s with heap:=(s.heap.push PySem.W.emptyDict).push (PySem.W.instObj C s.heap.objs.size) }:=by
  have e1:(s.heap.push PySem.W.emptyDict).get? s.heap.objs.size=some PySem.W.emptyDict:=Heap.get?_push_size s.heap rfl
  have e2:((s.heap.push PySem.W.emptyDict).push (PySem.W.instObj C s.heap.objs.size)).get? (s.heap.objs.size + 1)=some (PySem.W.instObj C s.heap.objs.size):=by
    have:=Heap.get?_push_size (s.heap.push PySem.W.emptyDict) (o:=PySem.W.instObj C s.heap.objs.size) rfl
    rwa [Heap.size_push] at this
  have e3:(s.heap.push PySem.W.emptyDict).Ns s.heap.objs.size (fun _=>none):=⟨PySem.W.emptyDict,#[],_,e1,rfl,(fun e he=>absurd he (by simp)),fun _=>rfl⟩
  have I1:=I.laid (a:=s.heap.objs.size) (o:=.own (s.heap.objs.size + 1)) (h':=s.heap.push PySem.W.emptyDict) (t':=s.toks) (fun b u q=>Heap.get?_push_of_some _ q) (Nat.le_refl _) ⟨_,e1⟩
  refine I1.laid (a:=s.heap.objs.size + 1) (o:=.ins C s.heap.objs.size []) (t':=s.toks) (fun b u q=>Heap.get?_push_of_some _ q) (Nat.le_of_eq (Heap.size_push _ _)) ?_
  have ne:s.heap.objs.size≠s.heap.objs.size + 1:=Nat.ne_of_lt (Nat.lt_succ_self _)
  refine ⟨by rw [y0 ne,o3],Nat.zero_le _,ne,e2,fun _=>none,(Heap.Ns1.of_empty e3).at fun o q=>Heap.get?_push_of_some _ q,fun _=>True.intro,fun y hy=>absurd rfl hy⟩
theorem b0k {prog:Program} {w:World} {env:Env} {e:Expr} {f:Str} {pos:Pos} {s:Shared} {Q:Value→Shared→Prop} (hb:attributeBase e f env (eval e env)=eval e env)
    (h:wpAny (model prog w) A (eval e env) (fun o s₁=>wpAny (model prog w) A (getAttr o f true) Q E s₁) E s):wpAny (model prog w) A (eval (.Attribute e f pos) env) Q E s :=
  Attribute_any_ h (by rw [arm_eval_Attribute,hb])
end
noncomputable def tFld (K:PySem.W.Frag) (ta:TE) (f:Str):TE:=fun σ H Q=>ta σ H fun x H1=>∃ a C dx fs v,x=.ref a∧H1 a=some (.ins C dx fs)∧Cls K C∧NoAttr K C f∧fs.lookup f=some v∧Q v H1
noncomputable def sFld (K:PySem.W.Frag) (ta tv:TE) (f:Str):TS:=fun D σ H=>tv σ H fun y H1=>ta σ H1 fun x H2=>∃ a C dx fs,x=.ref a∧H2 a=some (.ins C dx fs)∧Cls K C∧NoAttr K C f∧fs.length < 1000 ∧
  D.nx σ (upd H2 a (.ins C dx (putF f y fs)))
section
variable {X:Cx} {o e value:Expr} {f:Str} {pos pos' tpos:Pos} {ta tv:TE}
theorem pe_fld (he:PE X e ta) (hb:attributeBase e f X.env (eval e X.env)=eval e X.env):PE X (.Attribute e f pos) (tFld X.K ta f):=by
  intro pins s σ H Q I h
  refine b0k hb (thn (he pins s σ H _ I h) fun u s1 ⟨x,H1,I1,rx,a,C,dx,fs,v,ex,ea,c,n,l,q⟩=>?_)
  subst ex
  obtain rfl:u=Value.ref a:=rx
  exact l0m I1 ea c n l fun u' s2 I2 ru=>⟨v,H1,I2,ru,q⟩
theorem ps_fld (ha:PE X o ta) (hv:PE X value tv) (hs:swapsWith value (some (.Attribute o f pos')) pos.line X.env=pure false):PS X (.Assign [.Attribute o f pos'] value pos) (sFld X.K ta tv f):=by
  intro pins s σ H D I h
  refine plainObj_wpAny_Assign_Attribute (thn (hv pins s σ H _ I h) fun u s1 ⟨y,H1,I1,ry,q⟩=>thn (ha pins s1 σ H1 _ I1 q) fun ov s2 ⟨x,H2,I2,rx,a,C,dx,fs,ex,ea,c,n,l,q2⟩=>?_) hs
  subst ex
  obtain rfl:ov=Value.ref a:=rx
  exact l0l I2 ea c n l ry fun s3 I3=>⟨σ,_,I3,q2⟩
end
section
variable {X:Cx} {pins:List (Addr×Obj)} {σ:St} {H:Hp} {s:Shared} {A:Around} {E:Value→Shared→Prop} {Q:Value→Shared→Prop} {c:Value} {b:Bool}
inductive TyOf (K:PySem.W.Frag) (H:Hp):V→Value→Prop where
  | non:TyOf K H .non (.type "NoneType")
  | bl (x:Bool):TyOf K H (.bl x) (.type "bool")
  | int (i:Int):TyOf K H (.int i) (.type "int")
  | str (x:Str):TyOf K H (.str x) (.type "str")
  | flt (x:UInt64):TyOf K H (.flt x) (.type "float")
  | lst {a:Addr} {xs:List V} (e:H a=some (.lst xs)):TyOf K H (.ref a) (.type "list")
  | frz {a:Addr} {o:Obj} {xs:List V} (e:H a=some (.frz o (.lst xs))):TyOf K H (.ref a) (.type "list")
  | tup {a:Addr} {xs:List V} (e:H a=some (.tup xs)):TyOf K H (.ref a) (.type "tuple")
  | dK {a:Addr} {kvs:List (Key×V)} (e:H a=some (.dK kvs)):TyOf K H (.ref a) (.type "dict")
  | dT {a:Addr} {kvs:List (List Key×V)} (e:H a=some (.dT kvs)):TyOf K H (.ref a) (.type "dict")
  | ins {a C dx:Addr} {fs:List (Str×V)} (e:H a=some (.ins C dx fs)) (cl:Cls K C) (ha:PySem.W.findIn K (.ref C) "__class__" = some (some (.builtin "object.__class__")))
      (hn:PySem.W.specialIn K (.builtin "object.__class__") "__get__" = some (some (.builtin "getset_descriptor.__get__"))) (htk:PySem.W.takesIn K (.builtin "object.__class__")=some true)
      (hm:PySem.W.mroIn K C (.type "object")=some true):TyOf K H (.ref a) (.ref C)
end
end L2
namespace L2
open PySem PySem.Spec PyProof.Rows
structure Room (k:Nat) (A:Around):Prop where
  hd:A.handled=none
  dp:A.depth + 3 * k + 5 < recursionLimit
  un:A.units + 16 * k + 200 < cLine
theorem Room.mono {j k:Nat} {A:Around} (r:Room k A) (h:j≤k):Room j A:=⟨r.hd,by have:=r.dp; omega,by have:=r.un; omega⟩
theorem Room.deeper {k:Nat} {A:Around} (r:Room (k + 1) A) (env:Env):Room k (A.deeper env) :=
  ⟨r.hd,by have:=r.dp; show A.depth + 1 + 3 * k + 5 < _; omega,by have:=r.un; show A.units + 3 + 16 * k + 200 < _; omega⟩
theorem l0k {A:Around} {C:Addr} {us:List Value} {kw:List (Str×Value)}:(A.under (.builtin "type.__call__" ⟨.ref C :: us,kw⟩)).depth=A.depth + 1:=by
  first | rfl | simp [Around.under,Code.weight,Code.isCreation,Code.isGuard,Code.isCaller,Code.frames,Code.isFrame,guardIds]
theorem l0j {A:Around} {C:Addr} {us:List Value} {kw:List (Str×Value)}:(A.under (.builtin "type.__call__" ⟨.ref C :: us,kw⟩)).units=A.units + 1:=by
  first | rfl | simp [Around.under,Code.cUnits,Code.frames,Code.isFrame]
theorem Room.make {k:Nat} {A:Around} (r:Room (k + 1) A) (C:Addr) (us:List Value) (kw:List (Str×Value)):Room k (A.under (.builtin "type.__call__" ⟨.ref C :: us,kw⟩)) :=
  ⟨r.hd,by have:=r.dp; rw [l0k]; omega,by have:=r.un; rw [l0j]; omega⟩
theorem Room.depth {k:Nat} {A:Around} (r:Room k A):A.depth < recursionLimit:=by have:=r.dp; omega
theorem Room.units0 {k:Nat} {A:Around} (r:Room k A):A.units < cLine:=by have:=r.un; omega
noncomputable def tNil:TA:=fun _ H Q=>Q [] H
noncomputable def tCons (ta:TE) (tr:TA):TA:=fun σ H Q=>ta σ H fun x H1=>tr σ H1 fun xs H2=>Q (x :: xs) H2
section
variable {X:Cx} {e:Expr} {es:List Expr} {te:TE} {t:TA} {pos:Pos}
theorem j0v:PA X [] tNil:=fun _ _ _ _ H Q I h=>Calls.spliced_nil ⟨[],H,I,.nil,h⟩
theorem o0z (ha:PE X e te) (hr:PA X es t) (hs:starEach (e :: es) X.env=(false,eval e X.env) :: starEach es X.env:=by rfl):PA X (e :: es) (tCons te t):=by
  intro pos pins s σ H Q I h
  rw [hs]
  show wpAny _ _ (spliced ((false,eval e X.env) :: backTo pos (starEach es X.env))) _ _ s
  refine Calls.spliced_cons (thn (ha pins s σ H _ I h) fun u s1 ⟨x,H1,I1,r1,q1⟩=>?_)
  exact thn (hr pos pins s1 σ H1 _ I1 q1) fun us s2 ⟨xs,H2,I2,r2,q2⟩=>⟨x :: xs,H2,I2,.cons r1 r2,q2⟩
noncomputable def tTup (t:TA):TE:=fun σ H Q=>t σ H fun xs H1=>xs.length≤sizeLine∧∀ p,H1 p=none→Q (.ref p) (upd H1 p (.tup xs))
noncomputable def tLst (t:TA):TE:=fun σ H Q=>t σ H fun xs H1=>xs.length≤sizeLine∧∀ p,H1 p=none→Q (.ref p) (upd H1 p (.lst xs))
theorem pe_tup {x1} (h:PA X es t):PE X (.Tuple es x1 pos) (tTup t):=by
  intro pins s σ H Q I hq
  refine wpAny_Tuple_spliced (thn (h pos pins s σ H _ I hq) fun us s1 ⟨xs,H1,I1,r,z,q⟩=>⟨by rw [← r.length]; exact z,?_⟩)
  have hf:H1 s1.heap.objs.size=none:=I1.hok.fresh (Nat.le_refl _)
  refine ⟨.ref s1.heap.objs.size,upd H1 s1.heap.objs.size (.tup xs),I1.laid (t':=s1.toks) (fun b u e=>Heap.get?_push_of_some _ e) (Nat.le_refl _) ?_,rfl,q _ hf⟩
  exact ⟨z,us,r,⟨_,Heap.get?_push_size _ rfl,rfl,_,rfl⟩⟩
theorem d0o (h:PA X es t):PE X (.List es pos) (tLst t):=by
  intro pins s σ H Q I hq
  refine wpAny_List_spliced (thn (h pos pins s σ H _ I hq) fun us s1 ⟨xs,H1,I1,r,z,q⟩=>⟨by rw [← r.length]; exact z,?_⟩)
  have hf:H1 s1.heap.objs.size=none:=I1.hok.fresh (Nat.le_refl _)
  refine ⟨.ref s1.heap.objs.size,upd H1 s1.heap.objs.size (.lst xs),I1.laid (t':=s1.toks) (fun b u e=>Heap.get?_push_of_some _ e) (Nat.le_refl _) ?_,rfl,q _ hf⟩
  exact ⟨z,us,0,r,Heap.get?_push_size _ rfl⟩
end
noncomputable abbrev Sp:=List V→Hp→VK→XK→Prop
noncomputable abbrev CXT:=List Env→Hp→Shared→XK→Value→Shared→Prop
structure Env0 (P:Program) (w:World) (K:PySem.W.Frag) (mg:Str→Option Value) (base:Heap) (A:Around) (outer:List Env) (s:Shared) (H:Hp):Prop where
  frames:A.frames=some outer
  mod:Mod K mg base
  bs:∀ b o,base.get? b=some o→s.heap.get? b=some o∧H b=none
  bsz:base.objs.size≤s.heap.objs.size
  funs:s.heap.FunFrames base outer
  frf:∀ b∈frs outer,H b=none
  hok:HOk P w H s.heap
  bare:AllBare s.gens
noncomputable def CE (outer:List Env) (P:Program) (w:World) (H:Hp) (s:Shared) (Q:VK) (u:Value) (s':Shared):Prop :=
  ∃ v H',s'.os=s.os∧AllBare s'.gens∧Un (frs outer) [] H H' s.heap s'.heap∧HOk P w H' s'.heap∧RelV v u∧Q v H'
noncomputable def CR (CX:CXT) (outer:List Env) (P:Program) (w:World) (H:Hp) (s:Shared) (Q:VK) (E:XK) (r:Result) (s':Shared):Prop :=
  match r with
  | .ok (.ret u)=>CE outer P w H s Q u s'
  | .ok _=>False
  | .error e=>CX outer H s E e s'
structure FnOk (P:Program) (w:World) (K:PySem.W.Frag) (mg:Str→Option Value) (base:Heap) (CX:CXT) (k:Nat) (f:Addr) (fd:FuncData) (ps:List Str) (sp:Sp):Prop where
  len:∀ vs H Q E,sp vs H Q E→vs.length=ps.length
  run:∀ (A:Around) (outer:List Env) (s:Shared) (H:Hp) (args:Args) (us:List Value) (vs:List V) (Q:VK) (E:XK),Room k A→Env0 P w K mg base A outer s H→BindsTo s fd args (ps.zip us)→Vals vs us→sp vs H Q E →
    codeAny (model P w) A (.call (.ref f) args) (CR CX outer P w H s Q E) s
theorem Env0.make {P:Program} {w:World} {K:PySem.W.Frag} {mg:Str→Option Value} {base:Heap} {A:Around} {outer:List Env} {s:Shared} {H:Hp} (e:Env0 P w K mg base A outer s H) (C:Addr) (us:List Value) (kw:List (Str×Value)) :
    Env0 P w K mg base (A.under (.builtin "type.__call__" ⟨.ref C :: us,kw⟩)) outer s H:=⟨by first | exact e.frames | (simpa [Around.under,Code.envs,Code.isFrame,pushEnvs] using e.frames),e.mod,e.bs,e.bsz,e.funs,e.frf,e.hok,e.bare⟩
section
variable {X:Cx} {pins:List (Addr×Obj)} {σ:St} {H:Hp} {s s':Shared}
theorem Inv.env0 (I:Inv X pins σ H s):Env0 X.prog X.w X.K X.mg X.base X.A X.stack s H :=
  ⟨I.ok.frames,I.ok.mod,I.bs,Nat.le_trans I.ok.bsz I.sz,I.stack,I.stkFree,I.hok,I.bare⟩
theorem Inv.after {Q:VK} {u:Value} (I:Inv X pins σ H s) (h:CE X.stack X.prog X.w H s Q u s'):EP X pins σ Q u s':=by
  obtain ⟨v,H',os,bare,un,hok,r,q⟩:=h
  obtain ⟨hh,g,d,t,os'⟩:=s'
  obtain rfl:os'=s.os:=os
  exact ⟨v,H',I.call (h':=hh) (g':=g) (d':=d) (t':=t) (ch:=[]) un hok bare (fun b z=>absurd z (by simp)),r,q⟩
end
noncomputable def Binds (K:PySem.W.Frag) (fd:FuncData) (ps:List Str) (ds:List Value):Prop :=
  ∀ (s:Shared) (us:List Value),K.In s.heap→(us++ds).length=ps.length→BindsTo s fd ⟨us,[]⟩ (ps.zip (us++ds))
theorem Binds.all {K:PySem.W.Frag} {fd:FuncData} {ps:List Str} (h:∀ us:List Value,us.length=ps.length→bindArgs fd ⟨us,[]⟩=pure (ps.zip us)):Binds K fd ps []:=fun s us _ hl=>by
  rw [List.append_nil] at hl ⊢
  exact .of_eq (h us hl)
noncomputable def d0n (CX:CXT) (X:Cx) (E:XK):Prop:=∀ (pins:List (Addr×Obj)) (σ:St) (H:Hp) (s:Shared) (e:Value) (s':Shared),Inv X pins σ H s→CX X.stack H s E e s'→X.xe e s'
section
variable {X:Cx} {CX:CXT} {k:Nat} {f C:Addr} {fd:FuncData} {ps:List Str} {sp:Sp} {dvs:List V} {ds:List Value} {E:XK} {x m:Str} {p pos apos:Pos} {e o:Expr} {es:List Expr} {ta:TE} {t:TA}
structure Mk (K:PySem.W.Frag) (C f:Addr):Prop where
  makes:PySem.W.makesIn K C=true
  init:PySem.W.findIn K (.ref C) "__init__" = some (some (.ref f))
  fn:PySem.W.isFn K (.ref f)=true
  kp:PySem.W.keepIn K (.ref C)=true
end
section
variable {X:Cx} {CX:CXT} {k:Nat} {f C:Addr} {fd:FuncData} {ps ks:List Str} {sp:Sp} {E:XK} {x m:Str} {p pos apos kpos:Pos} {e o:Expr} {es:List Expr} {kws:List Keyword} {te ta:TE} {t tk:TA} {nm:Option Str}
structure KBinds (K:PySem.W.Frag) (fd:FuncData) (ps ks:List Str) (g:List Value→List Value→List Value) (gV:List V→List V→List V):Prop where
  to:∀ (s:Shared) (us ws:List Value),K.In s.heap→(g us ws).length=ps.length→BindsTo s fd ⟨us,ks.zip ws⟩ (ps.zip (g us ws))
  rel:∀ {vs:List V} {us:List Value} {zs:List V} {ws:List Value},Vals vs us→Vals zs ws→Vals (gV vs zs) (g us ws)
variable {g:List Value→List Value→List Value} {gV:List V→List V→List V}
end
structure FnScope (N P:List Str) (sc:Scope):Prop where
  kind:sc.kind=.function
  co:sc.isCoroutine=false
  gen:sc.isGenerator=false
  nd:N.Nodup
  pre:N.take P.length=P
  par:∀ x∈P,sc.names.lookup x=some .local∨sc.names.lookup x=some .cell
  nofree:∀ y∈sc.names,y.2≠.free
theorem r0m {kindOf:Str→Option NameKind} {x:Str}:∀ {binds:List (Str×Value)} {m:Str→Option Value},(∀ v,(x,v) ∉ binds)→bindL kindOf binds m x=m x
  | [],_,_=>rfl
  | (n,v) :: r,m,h=>by
    unfold bindL
    rw [r0m fun w hw=>h w (List.mem_cons_of_mem _ hw)]
    split
    · have:x≠n:=by rintro rfl; exact h v List.mem_cons_self
      simp [this]
    · rfl
theorem r0l {kindOf:Str→Option NameKind} {x:Str}:∀ {binds:List (Str×Value)} {m:Str→Option Value},(∀ v,(x,v) ∉ binds)→bindC kindOf binds m x=m x
  | [],_,_=>rfl
  | (n,v) :: r,m,h=>by
    unfold bindC
    rw [r0l fun w hw=>h w (List.mem_cons_of_mem _ hw)]
    split
    · rfl
    · have:x≠n:=by rintro rfl; exact h v List.mem_cons_self
      simp [this]
theorem r0k {kindOf:Str→Option NameKind} {x:Str} {v:Value}:∀ {P:List Str} {vs:List Value} {i:Nat} {m:Str→Option Value},P.Nodup→P[i]?=some x→vs[i]?=some v→kindOf x=some .local →
    bindL kindOf (P.zip vs) m x=some v
  | [],_,_,_,_,h,_,_=>by simp at h
  | _ :: _,[],_,_,_,_,h,_=>by simp at h
  | p :: P,w :: vs,0,m,nd,h1,h2,hk=>by
    simp at h1 h2; subst h1; subst h2
    show bindL kindOf ((p,w) :: P.zip vs) m p=_
    unfold bindL
    rw [r0m fun v hv=>(List.nodup_cons.mp nd).1 (List.of_mem_zip hv).1,if_pos hk]
    simp
  | p :: P,w :: vs,i + 1,m,nd,h1,h2,hk=>by
    show bindL kindOf ((p,w) :: P.zip vs) m x=_
    unfold bindL
    exact r0k (i:=i) (List.nodup_cons.mp nd).2 (by simpa using h1) (by simpa using h2) hk
theorem r0j {kindOf:Str→Option NameKind} {x:Str} {v:Value}:∀ {P:List Str} {vs:List Value} {i:Nat} {m:Str→Option Value},P.Nodup→P[i]?=some x→vs[i]?=some v→kindOf x≠some .local →
    bindC kindOf (P.zip vs) m x=some v
  | [],_,_,_,_,h,_,_=>by simp at h
  | _ :: _,[],_,_,_,_,h,_=>by simp at h
  | p :: P,w :: vs,0,m,nd,h1,h2,hk=>by
    simp at h1 h2; subst h1; subst h2
    show bindC kindOf ((p,w) :: P.zip vs) m p=_
    unfold bindC
    rw [r0l fun v hv=>(List.nodup_cons.mp nd).1 (List.of_mem_zip hv).1,if_neg hk]
    simp
  | p :: P,w :: vs,i + 1,m,nd,h1,h2,hk=>by
    show bindC kindOf ((p,w) :: P.zip vs) m x=_
    unfold bindC
    exact r0j (i:=i) (List.nodup_cons.mp nd).2 (by simpa using h1) (by simpa using h2) hk
noncomputable def start (N:List Str) (vs:List V):St:=vs.map some++List.replicate (N.length - vs.length) none
noncomputable def cxOf (CX:CXT) (P:Program) (w:World) (K:PySem.W.Frag) (mg:Str→Option Value) (base:Heap) (N:List Str) (qual:Str) (scope:Scope) (f:Addr) (cd:Value) (A:Around) (outer:List Env) (s:Shared) (H:Hp) (E:XK):Cx where
  prog:=P
  w:=w
  K:=K
  mg:=mg
  base:=base
  A:=A.deeper (envOfC qual scope s.heap.objs.size f cd)
  N:=N
  s₀:=s
  H₀:=H
  env:=envOfC qual scope s.heap.objs.size f cd
  outer:=outer
  stack:=envOfC qual scope s.heap.objs.size f cd :: outer
  ex:=[]
  calm:=true
  fn:=fun _=>true
  pn:=[]
  xe:=fun e s'=>wpAny (model P w) (A.deeper (envOfC qual scope s.heap.objs.size f cd)) (leaving (envOfC qual scope s.heap.objs.size f cd) e) (fun _ s''=>CX outer H s E e s'') (fun e' s''=>CX outer H s E e' s'') s'
theorem m0x {sc:Scope} {n:Nat} {x:Str} (h:sc.names.lookup x=some .cell):∃ c,(cellsFrom n sc.names []).lookup x=some c:=by
  have q:=PySem.W.cellsFrom_some sc.names n [] (.inl h)
  exact Option.isSome_iff_exists.mp q
theorem r0i {CX:CXT} {P:Program} {w:World} {K:PySem.W.Frag} {mg:Str→Option Value} {base:Heap} {N ps:List Str} {qual:Str} {scope:Scope} {f:Addr} {cd:Value} {A:Around} {outer:List Env} {s s1:Shared} {H:Hp} {E:XK} {us:List Value} {vs:List V}
    (S:FnScope N ps scope) (hd:A.handled=none) (e0:Env0 P w K mg base A outer s H) (hl:vs.length=ps.length) (r:Vals vs us)
    (x:InCallC s s.heap.objs.size (bindL (envOfC qual scope s.heap.objs.size f cd).kindOf (ps.zip us) fun _=>none) (cellsFrom (s.heap.objs.size + 1) scope.names []) (bindC (envOfC qual scope s.heap.objs.size f cd).kindOf (ps.zip us) fun _=>none) s1) :
    Inv (cxOf CX P w K mg base N qual scope f cd A outer s H E) [] (start N vs) H s1:=by
  have hpl:ps.length≤N.length:=by have:=congrArg List.length S.pre; rw [List.length_take] at this; omega
  obtain ⟨h1,tk,rfl,hk⟩:=x.done
  have noA:∀ b:Addr,b ∉ (cxOf CX P w K mg base N qual scope f cd A outer s H E).ex:=fun b z=>absurd (show b∈([]:List Addr) from z) (by simp)
  refine ⟨⟨e0.mod,S.kind,rfl,rfl,Nat.le_refl _,fun y z c h1 h2=>?_,fun y hy=>?_,fun y c _ h=>?_,fun _=>hd,Around.frames_deeper e0.frames,.inr ⟨rfl,rfl⟩,fun b z=>absurd z (noA b),e0.bs,e0.bsz,fun b _ _=>noA b,fun b z=>absurd z (noA b),e0.funs,e0.frf⟩,
    rfl,e0.bare,Un.kept hk,⟨_,x.toInCall.ns,fun i y v h1 h2 h3=>?_⟩,fun y c h=>⟨_,x.cell y c h⟩,e0.hok.fresh (Nat.le_refl _),fun y c h=>?_,fun p hp=>absurd (show p∈([]:List (Addr×Obj)) from hp) (by simp),e0.hok.kept hk,?_⟩
  · exact name_of_addr x.apart (PySem.mem_of_lookup h1) (PySem.mem_of_lookup h2)
  · have hy:scope.names.lookup y=some .cell∨scope.names.lookup y=some .free:=hy
    rcases hy with hy | hy
    · exact m0x hy
    · exact absurd rfl (S.nofree _ (PySem.mem_of_lookup hy))
  · exact Nat.le_of_lt (x.above y c (PySem.mem_of_lookup h))
  · have hi:i < vs.length:=by
      unfold start at h2
      by_cases hi:i < vs.length
      · exact hi
      · rw [List.getElem?_append_right (by simpa using hi)] at h2
        rw [List.getElem?_replicate] at h2
        split at h2 <;> cases h2
    have ha:vs[i]?=some v:=by
      unfold start at h2
      rw [List.getElem?_append_left (by simpa using hi),List.getElem?_map] at h2
      cases e:vs[i]? with
      | none=>rw [e] at h2; cases h2
      | some a=>rw [e] at h2; cases h2; rfl
    obtain ⟨u,hu,rv⟩:=r.get ha
    have hp:ps[i]?=some y:=by
      rw [← S.pre,List.getElem?_take_of_lt (by omega)]; exact h1
    have ndP:ps.Nodup:=by rw [← S.pre]; exact S.nd.sublist (List.take_sublist _ _)
    refine ⟨u,rv,?_⟩
    rcases S.par y (List.mem_of_getElem? hp) with k | k
    · exact .inl ⟨k,r0k ndP hp hu k⟩
    · obtain ⟨c,e⟩:=m0x (n:=s.heap.objs.size + 1) k
      refine .inr ⟨.inl k,c,e,?_⟩
      have q:=x.cell y c e
      rw [r0j ndP hp hu (by show scope.names.lookup y≠_; rw [k]; decide)] at q
      exact q
  · exact e0.hok.fresh (Nat.le_of_lt (x.above y c (PySem.mem_of_lookup h)))
  · unfold start
    show _=N.length
    rw [List.length_append,List.length_map,List.length_replicate]
    omega
theorem fn_of {CX:CXT} {P:Program} {w:World} {K:PySem.W.Frag} {mg:Str→Option Value} {base:Heap} {k:Nat} {f:Addr} {name qual:Str} {params:Arguments} {body:List Stmt} {scope:Scope} {dV kV doc pm cdv ct oc:Value} {an od:Option Addr}
    {osl:Array (Option Value)} {N ps:List Str} {sp:Sp} (lk:K.lookup f=some ⟨oc,od,.func (PySem.W.fnOf name qual params body scope dV kV doc pm an cdv ct),osl⟩) (hcd:PySem.W.codeIn K cdv qual=true) (S:FnScope N ps scope)
    (len:∀ vs H Q E,sp vs H Q E→vs.length=ps.length)
    (hbody:∀ (A:Around) (outer:List Env) (s:Shared) (H:Hp) (vs:List V) (Q:VK) (E:XK),Room k (A.deeper (envOfC qual scope s.heap.objs.size f cdv))→sp vs H Q E →
      ∃ t,PSs (cxOf CX P w K mg base N qual scope f cdv A outer s H E) body t∧t { nx:=fun _ H'=>Q .non H',rt:=Q } (start N vs) H) :
    FnOk P w K mg base CX (k + 1) f (PySem.W.fnOf name qual params body scope dV kV doc pm an cdv ct) ps sp:=by
  refine ⟨len,fun A outer s H args us vs Q E hr e0 hb r hsp=>?_⟩
  have hl:=len _ _ _ _ hsp
  have KX:K.In s.heap:=e0.mod.kin.keeps fun b o e=>(e0.bs b o e).1
  have lim:s.heap.NoLimit:=e0.mod.nolimit.keeps fun b o e=>(e0.bs b o e).1
  have hkind:∀ y∈ps.zip us,scope.names.lookup y.1=some .local∨(scope.names.lookup y.1=some .cell∧((cellsFrom (s.heap.objs.size + 1) scope.names []).lookup y.1).isSome=true):=fun ⟨n,v⟩ hy=>by
    rcases S.par n (List.of_mem_zip hy).1 with q | q
    · exact .inl q
    · exact .inr ⟨q,PySem.W.cellsFrom_some _ _ _ (.inl q)⟩
  refine codeAny_call_function hr.depth (KX _ _ lk) rfl S.co S.gen rfl (PySem.W.codeRec_of KX hcd) (hb _ _ _ _ ?_)
  refine wpAny_newFunctionEnv_cells S.kind hkind fun env he s1 x=>?_
  subst he
  refine ⟨lim.keeps x.toInCall.keep,codeAny_func ?_⟩
  obtain ⟨t,ht,hq⟩:=hbody A outer s H vs Q E (hr.deeper _) hsp
  have I:Inv (cxOf CX P w K mg base N qual scope f cdv A outer s H E) [] (start N vs) H s1:=r0i S hr.hd e0 hl r x
  refine wpAny_mono (ht [] s1 (start N vs) H _ I hq) (fun fl s' hs=>?_) fun e s' hs=>hs
  have fin:∀ {σ':St} {H':Hp} {v:V} {u:Value},Inv (cxOf CX P w K mg base N qual scope f cdv A outer s H E) [] σ' H' s'→RelV v u→Q v H'→CE outer P w H s Q u s' :=
    fun {σ' H' v u} J rv q=>⟨v,H',J.os,J.bare,J.base,J.hok,rv,q⟩
  cases fl with
  | ret u =>
    obtain ⟨v,σ',H',J,rv,q⟩:=hs
    exact fin J rv q
  | next =>
    obtain ⟨σ',H',J,q⟩:=hs
    exact fin (v:=V.non) (u:=Value.none) J rfl q
  | brk =>
    obtain ⟨_,_,_,q⟩:=hs
    exact False.elim q
  | cont =>
    obtain ⟨_,_,_,q⟩:=hs
    exact False.elim q
end L2
namespace L2
open PySem PySem.Spec PyProof.Rows
section
variable {X:Cx} {x:Str} {p pos:Pos} {e:Expr} {es:List Expr} {t:TA} {id T:String} {r:List V→Hp→VK→Prop}
noncomputable def tCB (r:List V→Hp→VK→Prop) (t:TA):TE:=fun σ H Q=>t σ H fun vs H1=>r vs H1 Q
theorem s0v (hc:x0h X (.builtin id) r) (hg:Gl X x) (hm:X.mg x=none) (hv:bootBuiltins x=some (.builtin id)) (ha:PA X (e :: es) t) (hn:x ≠ "__name__" := by decide) (hdb:(x == ("__debug__" : Str))=false:=by decide)
    (he:starEach (e :: es) X.env=(false,eval e X.env) :: starEach es X.env:=by rfl) (hpl:(backTo pos (starEach es X.env)).any (·.1)=false:=by rfl):PE X (.Call (.Name x p) (e :: es) [] pos) (tCB r t):=by
  intro pins s σ H Q I h
  refine wpAny_Call_Name_kw (o8 I hg hm hv ?_ hn hdb)
  exact PyProof.Rows.callWith_builtin1 (thn (ha pos pins s σ H _ I h) fun us s1 ⟨vs,H1,I1,r1,q1⟩=>hc pins s1 σ H1 vs us Q I1 r1 q1) he hpl
theorem j0u (hc:x0h X (.type T) r) (hg:Gl X x) (hm:X.mg x=none) (hv:bootBuiltins x=some (.type T)) (ha:PA X (e :: es) t) (hn:x ≠ "__name__" := by decide) (hdb:(x == ("__debug__" : Str))=false:=by decide)
    (he:starEach (e :: es) X.env=(false,eval e X.env) :: starEach es X.env:=by rfl) (hpl:(backTo pos (starEach es X.env)).any (·.1)=false:=by rfl):PE X (.Call (.Name x p) (e :: es) [] pos) (tCB r t):=by
  intro pins s σ H Q I h
  refine wpAny_Call_Name_kw (o8 I hg hm hv ?_ hn hdb)
  exact PyProof.Rows.callWith_type1 (thn (ha pos pins s σ H _ I h) fun us s1 ⟨vs,H1,I1,r1,q1⟩=>hc pins s1 σ H1 vs us Q I1 r1 q1) he hpl
end
end L2
namespace HT
open PySem PyProof.Rows
section
open PySem.SeqAt
open PySem.AutoSeq1 (wpAny_loadPart')
open PySem.MeetsSeq PySem.MeetsSeq2 PySem.MeetsSeq3
end
section
variable {prog:Program} {w:World} {A:Around} {E:Value→Shared→Prop} {s:Shared}
theorem cat_tup {t b:Addr} {vs ws:List Value} {Q:Value→Shared→Prop} (ht:IsTup s.heap t vs.toArray) (hb:IsTup s.heap b ws.toArray) (hv:vs≠[])
    (h1:ws=[]→Q (.ref t) s) (h2:ws≠[]→Q (.ref s.heap.objs.size) { s with heap:=s.heap.push { cls:=.type "tuple",data:=.seq (vs++ws).toArray } })
    (hsz:vs.length + ws.length≤sizeLine):wpAny (model prog w) A (binaryOp .Add (.ref t) (.ref b)) Q E s:=by
  obtain ⟨⟨cls,dd,data,sl⟩,ho,hc,n,hd⟩:=id ht
  obtain ⟨⟨cls2,dd2,data2,sl2⟩,ho2,hc2,n2,hd2⟩:=id hb
  simp only at hc hd hc2 hd2
  subst hc hd hc2 hd2
  have e:vs.toArray++ws.toArray=(vs++ws).toArray:=by simp
  by_cases hw:ws=[]
  · exact concat_meets ⟨_,ho,rfl⟩ ⟨_,ho2,rfl⟩ noFill_tuple_add seq_tuple_add PySem.F.slot_tuple_add PySem.F.entry_tuple_add (PySem.F.args_tuple_add_2 _ _)
      (tuple_addW1 t b vs.toArray ws.toArray n n2 dd dd2 sl sl2 (by simpa using hv) (by simp [hw])) ⟨ho,ho2,h1 hw⟩
  · refine concat_meets ⟨_,ho,rfl⟩ ⟨_,ho2,rfl⟩ noFill_tuple_add seq_tuple_add PySem.F.slot_tuple_add PySem.F.entry_tuple_add (PySem.F.args_tuple_add_2 _ _)
      (tuple_addW2 t b vs.toArray ws.toArray n n2 dd dd2 sl sl2 (by simpa using hv) (by simpa using hw) (by rw [List.size_toArray,List.size_toArray]; exact hsz)) ⟨ho,ho2,?_⟩
    rw [e]
    exact h2 hw
noncomputable def sIx (n d:Nat):Option Int→Nat
  | none=>d
  | some v=>if v < 0 then (v + (n:Int)).toNat else min v.toNat n
theorem sIx_none (n d:Nat):sIx n d none=d:=rfl
theorem sIx_nat (n d k:Nat):sIx n d (some (k:Int))=min k n:=by
  show (if (k:Int) < 0 then ((k:Int) + (n:Int)).toNat else min (k:Int).toNat n)=min k n
  rw [if_neg (by omega),Int.toNat_natCast]
theorem sIx_le (n d:Nat) (hd:d≤n) (o:Option Int):sIx n d o≤n:=by
  cases o with
  | none=>exact hd
  | some v =>
    show (if v < 0 then (v + (n:Int)).toNat else min v.toNat n)≤n
    by_cases hv:v < 0
    · rw [if_pos hv]; omega
    · rw [if_neg hv]; exact Nat.min_le_right _ _
theorem j0t (v:Int) (n d:Nat):(if v < 0 then max (v + (n:Int)) 0 else min v (n:Int))=((sIx n d (some v):Nat):Int):=by
  show (if v < 0 then max (v + (n:Int)) 0 else min v (n:Int))=(((if v < 0 then (v + (n:Int)).toNat else min v.toNat n):Nat):Int)
  by_cases hv:v < 0
  · simp only [if_pos hv]; omega
  · simp only [if_neg hv]; omega
theorem l0i (lo hi:Option Int) (n:Nat):Builtin.Slice.sliceAdjust lo hi 1 (n:Int)=(((sIx n 0 lo:Nat):Int),((sIx n n hi:Nat):Int)):=by
  have h1:¬ ((1:Int) < 0):=by omega
  unfold Builtin.Slice.sliceAdjust
  simp only [h1,if_false]
  refine Prod.ext ?_ ?_
  · cases lo with
    | none=>rfl
    | some v=>exact j0t v n 0
  · cases hi with
    | none=>rfl
    | some v=>exact j0t v n n
theorem l0h (i j:Nat):Builtin.Slice.slicePlaces (i:Int) (j:Int) 1=j - i:=by
  unfold Builtin.Slice.slicePlaces
  have h1:(1:Int) > 0:=by omega
  simp only [h1,if_true,Int.ediv_one]
  split <;> omega
theorem t0n {v:Value} {o:Option Int} {Q:Option Int→Shared→Prop} (p:IsPart v o) (h:Q o s):wpAny (model prog w) A (Builtin.Slice.slicePartIndex v) Q E s:=by
  cases p with
  | none=>exact slicePart_none h
  | int i t=>exact slicePart_int h
theorem w0e {sl:Addr} {vl vu:Value} {lo hi:Option Int} {n:Nat} {Q:Int×Int×Nat→Shared→Prop} (hs:s.heap.IsSliceOf sl vl vu .none) (pl:IsPart vl lo) (pu:IsPart vu hi)
    (h:Q (((sIx n 0 lo:Nat):Int),1,sIx n n hi - sIx n 0 lo) s):wpAny (model prog w) A (Builtin.Slice.sliceApplied (.ref sl) (pure (n:Int))) Q E s:=by
  obtain ⟨os,hos,hcs,hds⟩:=id hs
  unfold Builtin.Slice.sliceApplied Builtin.Slice.sliceFields
  refine wpAny_bind (wpAny_bind (wpAny_field hos hds (x:=vl) rfl (wpAny_bind (wpAny_field hos hds (x:=vu) rfl (wpAny_bind (wpAny_field hos hds (x:=.none) rfl (wpAny_pure ?_)))))))
  refine wpAny_bind (slicePart_none ?_)
  show wpAny _ _ (if ((1:Int) == 0)=true then _ else _) _ _ s
  rw [if_neg (by decide)]
  refine wpAny_bind (t0n pl (wpAny_bind (t0n pu (wpAny_bind (wpAny_pure ?_)))))
  show wpAny _ _ (match Builtin.Slice.sliceAdjust lo hi 1 (n:Int) with | (lo,hi)=>pure (lo,(1:Int),Builtin.Slice.slicePlaces lo hi 1)) _ _ s
  rw [l0i lo hi n]
  show wpAny _ _ (pure (((sIx n 0 lo:Nat):Int),(1:Int),Builtin.Slice.slicePlaces ((sIx n 0 lo:Nat):Int) ((sIx n n hi:Nat):Int) 1)) _ _ s
  rw [l0h]
  exact wpAny_pure h
theorem f0w (xs:Array Value) (i k:Nat):((List.range k).filterMap fun (m:Nat)=>xs[((i:Int) + (m:Int) * 1).toNat]?).toArray=((xs.toList.drop i).take k).toArray:=by
  have e:(fun (m:Nat)=>xs[((i:Int) + (m:Int) * 1).toNat]?)=fun m=>xs[i + m]?:=by
    funext m
    have:((i:Int) + (m:Int) * 1).toNat=i + m:=by omega
    rw [this]
  rw [e]
  have:=pick_run xs i k
  rw [List.filterMap_map] at this
  have e2:((fun x=>xs[x]?) ∘ fun x=>i + x)=fun m=>xs[i + m]?:=rfl
  rw [e2] at this
  rw [this]
theorem getItem_tuple_cut {t sl:Addr} {items:Array Value} {vl vu:Value} {lo hi:Option Int} {Q:Value→Shared→Prop} (ht:IsTup s.heap t items) (hs:s.heap.IsSliceOf sl vl vu .none) (pl:IsPart vl lo) (pu:IsPart vu hi)
    (hw:¬ (sIx items.size 0 lo=0∧sIx items.size items.size hi=items.size))
    (h:Q (.ref s.heap.objs.size) { s with heap:=s.heap.push { cls:=.type "tuple",data:=.seq ((items.toList.drop (sIx items.size 0 lo)).take (sIx items.size items.size hi - sIx items.size 0 lo)).toArray } })
    (hsz:items.size≤sizeLine):wpAny (model prog w) A (getItem (.ref t) (.ref sl)) Q E s:=by
  have htake:sizeOk (.seq ((items.toList.drop (sIx items.size 0 lo)).take (sIx items.size items.size hi - sIx items.size 0 lo)).toArray):=by
    show ((items.toList.drop (sIx items.size 0 lo)).take (sIx items.size items.size hi - sIx items.size 0 lo)).toArray.size≤sizeLine
    rw [List.size_toArray,List.length_take,List.length_drop,Array.length_toList]
    omega
  have hj:sIx items.size items.size hi≤items.size:=sIx_le _ _ (Nat.le_refl _) hi
  obtain ⟨os,hos,hcs,hds⟩:=id hs
  have hTs:s.TypeIs (.ref sl) "slice" := ⟨os,hos,hcs⟩
  unfold getItem
  try with_reducible refine wpAny_holding ?_
  first | refine wpAny_bind (wpAny_pure ?_) | skip
  refine wpAny_bind (wpAny_sequenceKey ht.typeIs (by decide) ?_)
  refine wpAny_bind (wpAny_callSpecial?_slot (name:=Str.ofString "__getitem__") ht.typeIs PyProof.Rows.slot_tuple_getitem
    (wpAny_call_entry PyProof.Rows.slot_tuple_getitem ht.typeIs entry_tuple_getitem ?_ (args_tuple_getitem _ _)))
  show wpAny _ _ (Builtin.Tuple.tupleItemsOf (.ref t) >>= _) _ _ s
  refine wpAny_bind (tupleItemsOf_ ht ?_)
  refine wpAny_bind (wpAny_typeOf hTs ?_)
  rw [if_pos (by decide)]
  refine wpAny_bind (w0e hs pl pu ?_)
  have hno:¬ ((((sIx items.size 0 lo:Nat):Int) == 0 && (1:Int) == 1 && (sIx items.size items.size hi - sIx items.size 0 lo) == items.size)=true):=by
    intro q
    rw [Bool.and_eq_true,Bool.and_eq_true] at q
    have q1:((sIx items.size 0 lo:Nat):Int)=0:=eq_of_beq q.1.1
    have q2:sIx items.size items.size hi - sIx items.size 0 lo=items.size:=eq_of_beq q.2
    exact hw ⟨by omega,by omega⟩
  show wpAny _ _ (if (((sIx items.size 0 lo:Nat):Int) == 0 && (1:Int) == 1 && (sIx items.size items.size hi - sIx items.size 0 lo) == items.size)=true then _ else _) _ _ s
  rw [if_neg hno,f0w]
  first
    | exact wpAny_bind (m:=Builtin.Tuple.tupleExact _) (wpAny_newObj_type (wpAny_pure ⟨_,rfl,wpAny_pure h⟩) htake)
    | exact wpAny_bind (m:=Builtin.Tuple.tupleExact _) (wpAny_newObj_type (wpAny_bind (wpAny_pure (wpAny_pure ⟨_,rfl,wpAny_pure h⟩))) htake)
    | exact wpAny_bind (wpAny_bind (m:=Builtin.Tuple.tupleExact _) (wpAny_newObj_type (wpAny_pure (wpAny_pure ⟨_,rfl,wpAny_pure h⟩)) htake))
    | exact wpAny_bind (wpAny_bind (m:=Builtin.Tuple.tupleExact _) (wpAny_newObj_type (wpAny_pure ⟨_,rfl,wpAny_pure h⟩) htake))
end
end HT
namespace L2
open PySem PySem.Spec PyProof.Rows
noncomputable abbrev TO:=St→Hp→(Option Int→Hp→Prop)→Prop
noncomputable def PO (X:Cx) (e:Option Expr) (t:TO):Prop :=
  ∀ (pins:List (Addr×Obj)) (s:Shared) (σ:St) (H:Hp) (Q:Option Int→Hp→Prop),Inv X pins σ H s→t σ H Q →
    wpAny (model X.prog X.w) X.A (evalPart e X.env) (fun u s'=>∃ o H',Inv X pins σ H' s'∧IsPart u o∧Q o H') X.xe s
noncomputable def b0j:TO:=fun _ H Q=>Q none H
noncomputable def tPart (t:TE):TO:=fun σ H Q=>t σ H fun x H1=>∃ i,x=.int i∧Q (some i) H1
section
variable {X:Cx} {e:Expr} {te:TE} {lo hi:Option Expr} {tl th:TO} {pos p2:Pos}
theorem b0i:PO X none b0j:=by
  intro pins s σ H Q I h
  rw [evalPart_none]
  exact wpAny_pure ⟨none,H,I,.none,h⟩
theorem b0h (h:PE X e te):PO X (some e) (tPart te):=by
  intro pins s σ H Q I hw
  rw [evalPart_some]
  refine thn (h pins s σ H _ I hw) fun u s1 ⟨x,H1,I1,r1,q1⟩=>?_
  obtain ⟨i,rfl,q⟩:=q1
  obtain ⟨t,rfl⟩:=r1
  exact ⟨some i,H1,I1,.int i t,q⟩
noncomputable def SlR (X:Cx) (r:V→Option Int→Option Int→Hp→VK→Prop):Prop :=
  ∀ (pins:List (Addr×Obj)) (s:Shared) (σ:St) (H:Hp) (x:V) (v vl vu:Value) (lo hi:Option Int) (sl:Addr) (Q:VK),Inv X pins σ H s→RelV x v→s.heap.IsSliceOf sl vl vu .none→IsPart vl lo→IsPart vu hi→r x lo hi H Q →
    ∃ T id,typeLookup (.type T) "__getitem__" = pure (some (.builtin id))∧s.TypeIs v T∧wpAny (model X.prog X.w) X.A (getItem v (.ref sl)) (EP X pins σ Q) X.xe s
theorem SlR.or {r r':V→Option Int→Option Int→Hp→VK→Prop} (h:SlR X r) (h':SlR X r'):SlR X (fun x lo hi H Q=>r x lo hi H Q∨r' x lo hi H Q):=by
  intro pins s σ H x v vl vu lo hi sl Q I rx hs pl pu q
  rcases q with q | q
  · exact h pins s σ H x v vl vu lo hi sl Q I rx hs pl pu q
  · exact h' pins s σ H x v vl vu lo hi sl Q I rx hs pl pu q
noncomputable def tSl (r:V→Option Int→Option Int→Hp→VK→Prop) (te:TE) (tl th:TO):TE:=fun σ H Q=>te σ H fun x H1=>tl σ H1 fun l H2=>th σ H2 fun u H3=>r x l u H3 Q
theorem f0v {r:V→Option Int→Option Int→Hp→VK→Prop} (hr:SlR X r) (he:PE X e te) (hl:PO X lo tl) (hu:PO X hi th):PE X (.Subscript e (.Slice lo hi none p2) pos) (tSl r te tl th):=by
  intro pins s σ H Q I h
  refine Subscript_ (thn (he pins s σ H _ I h) fun v s1 ⟨x,H1,I1,r1,q1⟩=>?_)
  refine wpAny_Slice (thn (hl pins s1 σ H1 _ I1 q1) fun vl s2 ⟨l,H2,I2,pl,q2⟩=>thn (hu pins s2 σ H2 _ I2 q2) fun vu s3 ⟨u,H3,I3,pu,q3⟩=>?_)
  rw [evalPart_none]
  refine wpAny_pure ?_
  have I4:Inv X pins σ H3 { s3 with heap:=s3.heap.push { cls:=.type "slice",data:=.fields #[vl,vu,.none] } }:=I3.kept (t':=s3.toks) fun b ob q=>Heap.get?_push_of_some _ q
  obtain ⟨T,id,hT,ht,hg⟩:=hr pins { s3 with heap:=s3.heap.push { cls:=.type "slice",data:=.fields #[vl,vu,.none] } } σ H3 x v vl vu l u s3.heap.objs.size Q I4 r1 (Heap.IsSliceOf.new ..) pl pu q3
  show wpAny (model X.prog X.w) X.A (subscriptTail e (.Slice lo hi none p2) v (.ref s3.heap.objs.size)) (EP X pins σ Q) X.xe { s3 with heap:=s3.heap.push { cls:=.type "slice",data:=.fields #[vl,vu,.none] } }
  exact tail_any (ops:=[.ref s3.heap.objs.size,v]) ht hT hg (by with_unfolding_all rfl)
noncomputable def cutV (xs:List V) (lo hi:Option Int):List V:=(xs.drop (HT.sIx xs.length 0 lo)).take (HT.sIx xs.length xs.length hi - HT.sIx xs.length 0 lo)
theorem v0k (xs:List V) (lo hi:Option Int):(cutV xs lo hi).length≤xs.length:=by
  unfold cutV
  rw [List.length_take,List.length_drop]
  omega
noncomputable def rSlT (K:PySem.W.Frag):V→Option Int→Option Int→Hp→VK→Prop:=fun x lo hi H Q=>∃ a xs,x=.ref a∧SqT K H a xs ∧
  ¬ (HT.sIx xs.length 0 lo=0∧HT.sIx xs.length xs.length hi=xs.length)∧∀ p,H p=none→Q (.ref p) (upd H p (.tup (cutV xs lo hi)))
theorem sl_tup:SlR X (rSlT X.K):=by
  intro pins s σ H x v vl vu lo hi sl Q I rx hs pl pu h
  obtain ⟨a,xs,rfl,hx,hw,q⟩:=h
  cases rx
  obtain ⟨its,r,ht,hz⟩:=I.tuple hx
  have hlen:its.toArray.size=xs.length:=by rw [List.size_toArray]; exact r.length.symm
  refine ⟨"tuple",_,PyProof.Rows.slot_tuple_getitem.lookup,ht.typeIs,?_⟩
  refine HT.getItem_tuple_cut ht hs pl pu (by rw [hlen]; exact hw) ?_ (by rw [hlen]; exact hz)
  rw [hlen]
  refine ⟨.ref s.heap.objs.size,_,I.laid (t':=s.toks) (o:=.tup (cutV xs lo hi)) (fun b ob q=>Heap.get?_push_of_some _ q) (Nat.le_refl _) ?_,rfl,q _ (I.hok.fresh (Nat.le_refl _))⟩
  exact ⟨Nat.le_trans (v0k xs lo hi) hz,_,(r.drop (HT.sIx xs.length 0 lo)).take (HT.sIx xs.length xs.length hi - HT.sIx xs.length 0 lo),IsTup.new _ _⟩
noncomputable def rCatT (K:PySem.W.Frag):R2:=fun x y H Q=>∃ a b xs ys,x=.ref a∧y=.ref b∧SqT K H a xs∧SqT K H b ys∧xs≠[]∧xs.length + ys.length≤sizeLine ∧
  (ys=[]→Q (.ref a) H)∧(ys≠[]→∀ p,H p=none→Q (.ref p) (upd H p (.tup (xs++ys))))
theorem Vals.nil_iff {xs:List V} {us:List Value} (r:Vals xs us):us=[] ↔ xs=[]:=by
  cases r with
  | nil=>simp
  | cons _ _=>simp
theorem b0g:OpR X (binaryOp .Add) (rCatT X.K):=by
  intro pins s σ H x y v u Q I rx ry h
  obtain ⟨a,b,xs,ys,rfl,rfl,ha,hb,hx,hz,q1,q2⟩:=h
  cases rx
  cases ry
  obtain ⟨its,r1,p1,_⟩:=I.tuple ha
  obtain ⟨its2,r2,p2,_⟩:=I.tuple hb
  refine HT.cat_tup p1 p2 (fun z=>hx (r1.nil_iff.mp z)) (fun z=>⟨.ref a,H,I,rfl,q1 (r2.nil_iff.mp z)⟩) (fun z=>?_) (by rw [← r1.length,← r2.length]; exact hz)
  refine ⟨.ref s.heap.objs.size,_,I.laid (t':=s.toks) (o:=.tup (xs++ys)) (fun b ob q=>Heap.get?_push_of_some _ q) (Nat.le_refl _) ?_,rfl,q2 (fun w=>z (r2.nil_iff.mpr w)) _ (I.hok.fresh (Nat.le_refl _))⟩
  exact ⟨by rw [List.length_append]; exact hz,_,r1.append r2,IsTup.new _ _⟩
end
end L2
namespace L2
open PySem PySem.Spec PyProof.Rows
noncomputable def ixN (n:Nat) (i:Int):Option Nat:=if 0≤i then (if i < n then some i.toNat else none) else if -(n:Int)≤i then some (i + n).toNat else none
noncomputable def atI {α:Type} (xs:List α) (i:Int):Option α:=(ixN xs.length i).bind fun j=>xs[j]?
theorem b0f {n:Nat} {i:Int} {j:Nat} (h:ixN n i=some j):seqIndex? i n=some j∧j < n∧-(n:Int)≤i∧i < n:=by
  unfold ixN at h
  by_cases h0:0≤i
  · rw [if_pos h0] at h
    by_cases h1:i < n
    · rw [if_pos h1] at h
      have e:i.toNat=j:=Option.some.inj h
      exact ⟨by rw [seqIndex_of h0 h1,e],by omega,by omega,h1⟩
    · rw [if_neg h1] at h; cases h
  · rw [if_neg h0] at h
    by_cases h1:-(n:Int)≤i
    · rw [if_pos h1] at h
      have e:(i + n).toNat=j:=Option.some.inj h
      exact ⟨by rw [seqIndex_neg (by omega) h1,e],by omega,h1,by omega⟩
    · rw [if_neg h1] at h; cases h
theorem o0y {α:Type} {xs:List α} {i:Int} {v:α} (h:atI xs i=some v):∃ j,seqIndex? i xs.length=some j∧xs[j]?=some v∧j < xs.length∧-(xs.length:Int)≤i∧i < xs.length:=by
  unfold atI at h
  cases e:ixN xs.length i with
  | none=>rw [e] at h; cases h
  | some j =>
    rw [e] at h
    obtain ⟨h1,h2,h3,h4⟩:=b0f e
    exact ⟨j,h1,h,h2,h3,h4⟩
theorem s0u {α:Type} {xs:List α} {j:Nat} {v:α} (h:xs[j]?=some v):atI xs (j:Int)=some v:=by
  have hj:j < xs.length:=(List.getElem?_eq_some_iff.mp h).1
  have e:ixN xs.length (j:Int)=some j:=by
    unfold ixN
    rw [if_pos (by omega),if_pos (by omega)]; simp
  unfold atI; rw [e]; exact h
noncomputable def o0x (b:Expr):Prop:=∀ o i,subscripted b false o i=operate [o,i] (getItem o i)
noncomputable def IxR (X:Cx) (r:R2):Prop :=
  ∀ (value slice:Expr) (pins:List (Addr×Obj)) (s:Shared) (σ:St) (H:Hp) (x y:V) (v u:Value) (Q:VK),Inv X pins σ H s→RelV x v→RelV y u→r x y H Q →
    subscripted slice false v u=operate [v,u] (getItem v u)→wpAny (model X.prog X.w) X.A (subscriptTail value slice v u) (EP X pins σ Q) X.xe s
noncomputable def MtR (X:Cx) (id:String) (r:V→List V→Hp→VK→Prop):Prop :=
  ∀ (pins:List (Addr×Obj)) (s:Shared) (σ:St) (H:Hp) (x:V) (xs:List V) (v:Value) (us:List Value) (Q:VK),Inv X pins σ H s→RelV x v→Vals xs us→r x xs H Q →
    wpAny (model X.prog X.w) X.A (call (.builtin id) (v :: us)) (EP X pins σ Q) X.xe s
section
variable {X:Cx} {a b:Expr} {ta tb:TE} {pos:Pos}
theorem IxR.or {r r':R2} (h:IxR X r) (h':IxR X r'):IxR X (fun x y H Q=>r x y H Q∨r' x y H Q):=by
  intro value slice pins s σ H x y v u Q I rx ry q hs
  rcases q with q | q
  · exact h value slice pins s σ H x y v u Q I rx ry q hs
  · exact h' value slice pins s σ H x y v u Q I rx ry q hs
theorem pe_ix {r:R2} (hr:IxR X r) (ha:PE X a ta) (hb:PE X b tb) (hs:o0x b):PE X (.Subscript a b pos) (tOp r ta tb):=by
  intro pins s σ H Q I h
  exact Subscript_ (binT ha hb I h fun v u s2 x y H2 I2 rx ry q=>hr a b pins s2 σ H2 x y v u Q I2 rx ry q (hs _ _))
noncomputable def rIxL (K:PySem.W.Frag):R2:=fun x y H Q=>∃ p xs i v,x=.ref p∧y=.int i∧SqL K H p xs∧atI xs i=some v∧Q v H
noncomputable def rIxT (K:PySem.W.Frag):R2:=fun x y H Q=>∃ p xs i v,x=.ref p∧y=.int i∧SqT K H p xs∧atI xs i=some v∧Q v H
noncomputable def rIxS:R2:=fun x y H Q=>∃ z i c,x=.str z∧y=.int i∧z.length≤sizeLine∧atI z.cps.toList i=some c∧Q (.str ⟨#[c]⟩) H
theorem ix_list:IxR X (rIxL X.K):=by
  intro value slice pins s σ H x y v u Q I rx ry h hs
  obtain ⟨p,xs,i,z,rfl,rfl,hq,he,q⟩:=h
  cases rx
  obtain ⟨t,rfl⟩:=ry
  obtain ⟨its,r,pl,hz⟩:=I.list hq
  obtain ⟨j,h1,h2,h3,h4,h5⟩:=o0y he
  obtain ⟨w,ew,rw'⟩:=r.get h2
  have hl:=r.length
  have hn:=m0y
  have fin:EP X pins σ Q w s:=⟨z,H,I,rw',q⟩
  by_cases h0:0≤i
  · have hj:i.toNat=j:=by
      rw [seqIndex_of h0 h5] at h1
      exact Option.some.inj h1
    exact item_listR pl.isList h0 (by omega) (by rw [hj]; simpa using ew) fin hs
  · have hj:(i + (its.toArray.size:Int)).toNat=j:=by
      rw [seqIndex_neg (by omega) h4] at h1
      rw [List.size_toArray,← hl]
      exact Option.some.inj h1
    exact subscriptTail_builtinR (x:=w) pl.isList.typeIs slot_list_getitem.lookup
      (wpAny_getItem_list_neg (Q:=fun r s'=>r=w∧EP X pins σ Q r s') pl.isList (by omega) (by rw [List.size_toArray] <;> omega) (by omega) (by rw [hj]; simpa using ew) ⟨rfl,fin⟩) hs
theorem ix_tup:IxR X (rIxT X.K):=by
  intro value slice pins s σ H x y v u Q I rx ry h hs
  obtain ⟨p,xs,i,z,rfl,rfl,hq,he,q⟩:=h
  cases rx
  obtain ⟨t,rfl⟩:=ry
  obtain ⟨its,r,pl,hz⟩:=I.tuple hq
  obtain ⟨j,h1,h2,h3,h4,h5⟩:=o0y he
  obtain ⟨w,ew,rw'⟩:=r.get h2
  have hl:=r.length
  have hn:=m0y
  have fin:EP X pins σ Q w s:=⟨z,H,I,rw',q⟩
  exact subscriptTail_builtinR (x:=w) pl.typeIs slot_tuple_getitem.lookup
    (getItem_tuple (j:=j) (Q:=fun r s'=>r=w∧EP X pins σ Q r s') pl (by omega) (by omega) (by rw [List.size_toArray,← hl]; exact h1) (by simpa using ew) ⟨rfl,fin⟩) hs
theorem ix_str:IxR X rIxS:=by
  intro value slice pins s σ H x y v u Q I rx ry h hs
  obtain ⟨z,i,c,rfl,rfl,hz,he,q⟩:=h
  obtain ⟨t,rfl⟩:=rx
  obtain ⟨t',rfl⟩:=ry
  obtain ⟨j,h1,h2,h3,h4,h5⟩:=o0y he
  have hl:z.cps.toList.length=z.length:=by simp [Str.length]
  rw [hl] at h1 h4 h5
  have hn:=m0y
  exact tail_any (typeIs_str s z t) slot_str_getitem.lookup (getItem_str (c:=c) (by
    have e1:decide (i < -(2 ^ 63:Int))=false:=decide_eq_false (by omega)
    have e2:decide (i ≥ 2 ^ 63)=false:=decide_eq_false (by omega)
    rw [e1,e2,Bool.or_false]) (by rw [h1]; simpa using h2) ⟨.str ⟨#[c]⟩,H,I.tok _,⟨_,rfl⟩,q⟩) hs
noncomputable def rIx (K:PySem.W.Frag):R2:=fun x y H Q=>rIxL K x y H Q∨rIxT K x y H Q∨rIxS x y H Q
theorem r0h:IxR X (rIx X.K):=ix_list.or (ix_tup.or ix_str)
theorem r0g (lo hi:Option Int) (n:Nat):(sliceBounds lo hi none n).1=((HT.sIx n 0 lo:Nat):Int)∧(sliceBounds lo hi none n).2.1=((HT.sIx n n hi:Nat):Int)∧(sliceBounds lo hi none n).2.2=1:=by
  refine ⟨?_,?_,rfl⟩
  · cases lo with
    | none=>simp [sliceBounds,HT.sIx]
    | some i =>
      simp only [sliceBounds,HT.sIx,Option.getD_none,show (1:Int) > 0 by decide,if_true]
      by_cases h:i < 0
      · simp only [h,if_true] <;> omega
      · simp only [h,if_false] <;> omega
  · cases hi with
    | none=>simp [sliceBounds,HT.sIx]
    | some i =>
      simp only [sliceBounds,HT.sIx,Option.getD_none,show (1:Int) > 0 by decide,if_true]
      by_cases h:i < 0
      · simp only [h,if_true] <;> omega
      · simp only [h,if_false] <;> omega
theorem s0t (its:List Value) (lo hi:Option Int):slicePick its.toArray lo hi none=((its.drop (HT.sIx its.length 0 lo)).take (HT.sIx its.length its.length hi - HT.sIx its.length 0 lo)).toArray:=by
  obtain ⟨h1,h2,h3⟩:=r0g lo hi its.toArray.size
  unfold slicePick
  rw [h1,h2,h3]
  simp only [sliceRange_one,pick_run,List.size_toArray] <;> rfl
noncomputable def rSlL (K:PySem.W.Frag):V→Option Int→Option Int→Hp→VK→Prop:=fun x lo hi H Q=>∃ a xs,x=.ref a∧SqL K H a xs∧∀ p,H p=none→Q (.ref p) (upd H p (.lst (cutV xs lo hi)))
theorem b0e:SlR X (rSlL X.K):=by
  intro pins s σ H x v vl vu lo hi sl Q I rx hs pl pu h
  obtain ⟨a,xs,rfl,hx,q⟩:=h
  cases rx
  obtain ⟨its,r,ht,hz⟩:=I.list hx
  have hlen:=r.length
  refine ⟨"list",_,slot_list_getitem.lookup,ht.isList.typeIs,?_⟩
  refine wpAny_getItem_list_slice ht.isList hs pl pu .none (by simp) ?_ (by rw [List.size_toArray] <;> omega)
  rw [s0t,← hlen]
  refine ⟨.ref s.heap.objs.size,_,I.laid (t':=s.toks) (o:=.lst (cutV xs lo hi)) (fun b ob q=>Heap.get?_push_of_some _ q) (Nat.le_refl _) ?_,rfl,q _ (I.hok.fresh (Nat.le_refl _))⟩
  exact ⟨Nat.le_trans (v0k xs lo hi) hz,_,0,(r.drop (HT.sIx xs.length 0 lo)).take (HT.sIx xs.length xs.length hi - HT.sIx xs.length 0 lo),Heap.get?_push_size _ rfl⟩
noncomputable def w9:V→Bool
  | .non=>true
  | .bl _=>true
  | .int _=>true
  | .str _=>true
  | _=>false
noncomputable def eqV:V→V→Bool
  | .non,.non=>true
  | .bl a,.bl b=>a == b
  | .bl a,.int b=>(if a then 1 else 0) == b
  | .int a,.bl b=>a == (if b then 1 else 0)
  | .int a,.int b=>a == b
  | .str a,.str b=>a == b
  | _,_=>false
theorem d0m {A:Around} {s:Shared} {y x:V} {u v:Value} (ry:RelV y u) (rx:RelV x v) (fy:w9 y=true) (fx:w9 x=true):SeqAt.EqAt A s u v (eqV y x):=by
  cases y with
  | non =>
    cases ry
    cases x with
    | non=>cases rx; exact SeqAt.EqAt.same _
    | bl b=>cases rx; exact SeqAt.EqAt.none_bool b
    | int b=>obtain ⟨t,rfl⟩:=rx; exact SeqAt.EqAt.none_int b t
    | str b=>obtain ⟨t,rfl⟩:=rx; exact SeqAt.EqAt.none_str b t
    | _=>exact absurd (show false=true from fx) Bool.false_ne_true
  | bl a =>
    cases ry
    cases x with
    | non=>cases rx; exact SeqAt.EqAt.bool_none a
    | bl b=>cases rx; exact SeqAt.EqAt.bool_bool a b
    | int b=>obtain ⟨t,rfl⟩:=rx; exact SeqAt.EqAt.bool_int a b t
    | str b=>obtain ⟨t,rfl⟩:=rx; exact SeqAt.EqAt.bool_str a b t
    | _=>exact absurd (show false=true from fx) Bool.false_ne_true
  | int a =>
    obtain ⟨t',rfl⟩:=ry
    cases x with
    | non=>cases rx; exact SeqAt.EqAt.int_none a t'
    | bl b=>cases rx; exact SeqAt.EqAt.int_bool a t' b
    | int b=>obtain ⟨t,rfl⟩:=rx; exact SeqAt.EqAt.int_int a t' b t
    | str b=>obtain ⟨t,rfl⟩:=rx; exact SeqAt.EqAt.int_str a t' b t
    | _=>exact absurd (show false=true from fx) Bool.false_ne_true
  | str a =>
    obtain ⟨t',rfl⟩:=ry
    cases x with
    | non=>cases rx; exact SeqAt.EqAt.str_none a t'
    | bl b=>cases rx; exact SeqAt.EqAt.str_bool a t' b
    | int b=>obtain ⟨t,rfl⟩:=rx; exact SeqAt.EqAt.str_int a t' b t
    | str b=>obtain ⟨t,rfl⟩:=rx; exact SeqAt.EqAt.str_str a t' b t
    | _=>exact absurd (show false=true from fx) Bool.false_ne_true
  | _=>exact absurd (show false=true from fy) Bool.false_ne_true
noncomputable def eqU (x:V) (u:Value):Bool:=match u with
  | .none=>eqV .non x
  | .bool b=>eqV (.bl b) x
  | .int i _=>eqV (.int i) x
  | .str z _=>eqV (.str z) x
  | _=>false
theorem j0s {x y:V} {u:Value} (r:RelV y u) (f:w9 y=true):eqU x u=eqV y x:=by
  cases y with
  | non=>cases r; rfl
  | bl b=>cases r; rfl
  | int i=>obtain ⟨t,rfl⟩:=r; rfl
  | str z=>obtain ⟨t,rfl⟩:=r; rfl
  | _=>exact absurd (show false=true from f) Bool.false_ne_true
theorem v0j {x:V}:∀ {xs:List V} {us:List Value},Vals xs us→xs.all w9=true→us.any (eqU x)=xs.any fun y=>eqV y x
  | _,_,.nil,_=>rfl
  | y :: xs,u :: us,.cons r t,f=>by
    rw [List.all_cons,Bool.and_eq_true] at f
    rw [List.any_cons,List.any_cons,j0s r f.1,v0j t f.2]
theorem y0y {A:Around} {s:Shared} {x:V} {v:Value} (rx:RelV x v) (fx:w9 x=true):∀ {xs:List V} {us:List Value},Vals xs us→xs.all w9=true→∀ u∈us,SeqAt.EqAt A s u v (eqU x u)
  | _,_,.nil,_=>fun u hu=>by cases hu
  | y :: xs,u :: us,.cons r t,f=>fun u' hu=>by
    rw [List.all_cons,Bool.and_eq_true] at f
    rcases List.mem_cons.mp hu with rfl | hu
    · rw [j0s r f.1]; exact d0m r rx f.1 fx
    · exact y0y rx fx t f.2 u' hu
noncomputable def inV (x:V) (xs:List V):Bool:=xs.any fun y=>eqV y x
noncomputable def rIn (K:PySem.W.Frag) (neg:Bool):R2:=fun x y H Q=>∃ p xs,y=.ref p∧(SqL K H p xs∨SqT K H p xs)∧w9 x=true∧xs.all w9=true∧Q (.bl (if neg then !inV x xs else inV x xs)) H
theorem j0r:OpR X (compareOp .In) (rIn X.K false):=by
  intro pins s σ H x y v u Q I rx ry h
  obtain ⟨p,xs,rfl,hq,fx,fs,q⟩:=h
  cases ry
  rcases hq with hq | hq
  · obtain ⟨its,r,pl,hz⟩:=I.list hq
    refine SeqAt.in_listAt (eqU x) pl.isList (fun w hw=>y0y rx fx r fs w (by simpa using hw)) ⟨.bl _,H,I,rfl,?_⟩
    rw [show its.toArray.any (eqU x)=its.any (eqU x) by simp,v0j r fs]
    exact q
  · obtain ⟨its,r,pl,hz⟩:=I.tuple hq
    refine SeqAt.in_tupleAt (eqU x) pl (fun w hw=>y0y rx fx r fs w (by simpa using hw)) ⟨.bl _,H,I,rfl,?_⟩
    rw [show its.toArray.any (eqU x)=its.any (eqU x) by simp,v0j r fs]
    exact q
theorem r0f:OpR X (compareOp .NotIn) (rIn X.K true):=by
  intro pins s σ H x y v u Q I rx ry h
  obtain ⟨p,xs,rfl,hq,fx,fs,q⟩:=h
  cases ry
  rcases hq with hq | hq
  · obtain ⟨its,r,pl,hz⟩:=I.list hq
    refine SeqAt.notIn_listAt (eqU x) pl.isList (fun w hw=>y0y rx fx r fs w (by simpa using hw)) ⟨.bl _,H,I,rfl,?_⟩
    rw [show its.toArray.any (eqU x)=its.any (eqU x) by simp,v0j r fs]
    exact q
  · obtain ⟨its,r,pl,hz⟩:=I.tuple hq
    refine SeqAt.notIn_tupleAt (eqU x) pl (fun w hw=>y0y rx fx r fs w (by simpa using hw)) ⟨.bl _,H,I,rfl,?_⟩
    rw [show its.toArray.any (eqU x)=its.any (eqU x) by simp,v0j r fs]
    exact q
theorem z0r:x0h X (.builtin "len") (fun xs H Q=>∃ p ys,xs=[.ref p]∧(SqL X.K H p ys∨SqT X.K H p ys)∧Q (.int ys.length) H):=by
  intro pins s σ H xs us Q I r h
  obtain ⟨p,ys,rfl,hq,q⟩:=h
  obtain ⟨u,rfl,rx⟩:=j0y r
  cases rx
  have hn:=m0y
  rcases hq with hq | hq
  · obtain ⟨its,r',pl,hz⟩:=I.list hq
    have hlen:=r'.length
    exact Calls.call_len_list pl.isList (by simp only [List.size_toArray] <;> omega) ⟨.int ys.length,H,I.tok _,⟨s.toks + 1,by rw [List.size_toArray,hlen]⟩,q⟩
  · obtain ⟨its,r',pl,hz⟩:=I.tuple hq
    have hlen:=r'.length
    exact len_tuple pl (by simp only [List.size_toArray] <;> omega) ⟨.int ys.length,H,I.tok _,⟨s.toks + 1,by rw [List.size_toArray,hlen]⟩,q⟩
theorem p6:x0h X (.type "list") (fun xs H Q=>∃ p ys,xs=[.ref p]∧(SqL X.K H p ys∨SqT X.K H p ys)∧∀ l,H l=none→Q (.ref l) (upd H l (.lst ys))):=by
  intro pins s σ H xs us Q I r h
  obtain ⟨p,ys,rfl,hq,q⟩:=h
  obtain ⟨u,rfl,rx⟩:=j0y r
  cases rx
  have fin:∀ (its:List Value),Vals ys its→ys.length≤sizeLine→∀ (h':Heap) (c':Nat),(∀ b o',s.heap.get? b=some o'→h'.get? b=some o') →
      h'.get? s.heap.objs.size=some { cls:=.type "list",dict:=none,data:=.seq its.toArray c',slots:=#[] }→EP X pins σ Q (.ref s.heap.objs.size) { s with heap:=h' }:=fun its r' hz h' c' kp e =>
    ⟨.ref s.heap.objs.size,_,I.laid (t':=s.toks) kp (Nat.le_refl _) (show ObjOk X.prog X.w _ h' _ (.lst ys) from ⟨hz,its,c',r',e⟩),rfl,q _ (I.hok.fresh (Nat.le_refl _))⟩
  rcases hq with hq | hq
  · obtain ⟨its,r',pl,hz⟩:=I.list hq
    have hlen:=r'.length
    obtain ⟨o,ho,hc,n,hd⟩:=pl.isList
    exact call_list_seq p (.inl rfl) ho hc hd (fun h' c' kp e=>fin its r' hz h' c' kp e) (by simp only [List.size_toArray] <;> omega)
  · obtain ⟨its,r',pl,hz⟩:=I.tuple hq
    have hlen:=r'.length
    obtain ⟨o,ho,hc,n,hd⟩:=pl
    exact call_list_seq p (.inr rfl) ho hc hd (fun h' c' kp e=>fin its r' hz h' c' kp e) (by simp only [List.size_toArray] <;> omega)
theorem o7:x0h X (.type "tuple") (fun xs H Q=>∃ p ys,xs=[.ref p]∧((SqL X.K H p ys∧∀ l,H l=none→Q (.ref l) (upd H l (.tup ys)))∨(SqT X.K H p ys∧Q (.ref p) H))):=by
  intro pins s σ H xs us Q I r h
  obtain ⟨p,ys,rfl,h⟩:=h
  obtain ⟨u,rfl,rx⟩:=j0y r
  cases rx
  rcases h with ⟨hq,q⟩ | ⟨hq,q⟩
  · obtain ⟨its,r',pl,hz⟩:=I.list hq
    have hlen:=r'.length
    refine call_tuple_list pl.isList (fun h' kp=>?_) (by simp only [List.size_toArray] <;> omega)
    have I1:Inv X pins σ H { s with heap:=h' }:=I.kept (t':=s.toks) kp
    have I2:Inv X pins σ (upd H h'.objs.size (.tup ys)) { s with heap:=h'.push { cls:=.type "tuple",data:=.seq its.toArray } } :=
      I1.laid (t':=s.toks) (fun b o e=>Heap.get?_push_of_some _ e) (Nat.le_refl _) (show ObjOk X.prog X.w _ _ _ (.tup ys) from ⟨hz,its,r',IsTup.new _ _⟩)
    exact ⟨.ref h'.objs.size,_,I2,rfl,q _ (I1.hok.fresh (Nat.le_refl _))⟩
  · obtain ⟨its,r',pl,hz⟩:=I.tuple hq
    exact call_tuple_same pl ⟨.ref p,H,I,rfl,q⟩
noncomputable def tyV (K:PySem.W.Frag) (T:String) (x:V) (H:Hp):Prop:=match x with
  | .str _=>T = "str"
  | .int _=>T = "int"
  | .ref p=>(T = "list" ∧ ∃ xs,SqL K H p xs)∨(T = "tuple" ∧ ∃ o,K.lookup p=some o∧o.cls=.type "tuple" ∧ o.dict=none) ∨
      (T = "dict" ∧ ((∃ kvs,H p=some (.dK kvs))∨∃ kvs,H p=some (.dT kvs)))∨(T = "set" ∧ ∃ S n,H p=some (.set S n))
  | _=>False
theorem d0l {pins:List (Addr×Obj)} {σ:St} {H:Hp} {s:Shared} {T:String} {x:V} {v:Value} (I:Inv X pins σ H s) (r:RelV x v) (ty:tyV X.K T x H) :
    s.TypeIs v T∧∀ a,v=.ref a→∃ ob,s.heap.get? a=some ob∧ob.dict=none:=by
  cases x with
  | str z =>
    obtain ⟨t,rfl⟩:=r
    cases (show T = "str" from ty)
    exact ⟨typeIs_str s z t,fun _ e=>nomatch e⟩
  | int i =>
    obtain ⟨t,rfl⟩:=r
    cases (show T = "int" from ty)
    exact ⟨typeIs_int s i t,fun _ e=>nomatch e⟩
  | ref p =>
    cases r
    rcases ty with ⟨rfl,xs,hq⟩ | ⟨rfl,o,hk,hc,hd⟩ | ⟨rfl,hk⟩ | ⟨rfl,S,n,hk⟩
    · obtain ⟨its,_,pl,_⟩:=I.list hq
      refine ⟨pl.isList.typeIs,fun a e=>?_⟩
      cases e
      obtain ⟨o,n,e,c,hd,_⟩:=pl
      exact ⟨o,e,hd⟩
    · refine ⟨⟨o,I.kIn p o hk,hc⟩,fun a e=>?_⟩
      cases e
      exact ⟨o,I.kIn _ o hk,hd⟩
    · have z:∃ o,s.heap.get? p=some o∧o.ExactDict:=by
        rcases hk with ⟨kvs,hk⟩ | ⟨kvs,hk⟩
        · obtain ⟨_,_,_,_,o,_,_,e,ex,_⟩:=I.hok p _ hk
          exact ⟨o,e,ex⟩
        · obtain ⟨_,_,_,_,o,_,_,e,ex,_⟩:=I.hok p _ hk
          exact ⟨o,e,ex⟩
      obtain ⟨o,e,ex⟩:=z
      refine ⟨⟨o,e,ex.1⟩,fun a e2=>?_⟩
      cases e2
      exact ⟨o,e,ex.2.1⟩
    · obtain ⟨o,_,_,_,e,ex,_⟩:=I.hok p _ hk
      refine ⟨⟨o,e,ex.1⟩,fun a e2=>?_⟩
      cases e2
      exact ⟨o,e,ex.2.1⟩
  | _=>exact False.elim ty
noncomputable def tBM0 (K:PySem.W.Frag) (T:String) (r:V→List V→Hp→VK→Prop) (to:TE):TE:=fun σ H Q=>to σ H fun x H1=>tyV K T x H1∧r x [] H1 Q
noncomputable def tBM (K:PySem.W.Frag) (T:String) (r:V→List V→Hp→VK→Prop) (to:TE) (t:TA):TE:=fun σ H Q=>to σ H fun x H1=>tyV K T x H1∧t σ H1 fun xs H2=>r x xs H2 Q
variable {o e:Expr} {es:List Expr} {to:TE} {t:TA} {name:Str} {apos cpos:Pos} {T id:String} {r:V→List V→Hp→VK→Prop}
theorem pe_bm0 (pa:PlainAttrs T) (slot:Slot T name id) (hty:typeOf (.builtin id)=pure (.type "method_descriptor")) (hm:MtR X id r) (ho:PE X o to)
    (hbase:attributeBase o name X.env (eval o X.env)=eval o X.env:=by rfl) (hline:(apos.endLine == cpos.line)=true:=by rfl):PE X (.Call (.Attribute o name apos) [] [] cpos) (tBM0 X.K T r to):=by
  intro pins s σ H Q I h
  refine wpAny_Call_method0_late hbase hline (thn (ho pins s σ H _ I h) fun v s1 ⟨x,H1,I1,r1,ty,q1⟩=>?_)
  obtain ⟨h1,h2⟩:=d0l I1 r1 ty
  exact ⟨T,id,pa,slot,hty,h1,h2,Calls.callWith_builtin rfl (PySem.evalArgs_none (hm pins s1 σ H1 x [] v [] Q I1 r1 .nil q1))⟩
theorem pe_bm (pa:PlainAttrs T) (slot:Slot T name id) (hty:typeOf (.builtin id)=pure (.type "method_descriptor")) (hm:MtR X id r) (ho:PE X o to) (ha:PA X (e :: es) t)
    (hbase:attributeBase o name X.env (eval o X.env)=eval o X.env:=by rfl)
    (hfew:((backTo cpos (starEach (e :: es) X.env)).all (fun x=>!x.1) && (backToKw cpos (keywordEach [] X.env)).all (fun x=>x.1.isSome)
      && decide ((e :: es).length + ([]:List Keyword).length + (if ([]:List Keyword).isEmpty then 0 else 1) < 30))=true:=by rfl)
    (hline:(apos.endLine == cpos.line)=true:=by rfl) (hs:starEach (e :: es) X.env=(false,eval e X.env) :: starEach es X.env:=by rfl) (hplain:(backTo cpos (starEach es X.env)).any (·.1)=false:=by rfl) :
    PE X (.Call (.Attribute o name apos) (e :: es) [] cpos) (tBM X.K T r to t):=by
  intro pins s σ H Q I h
  refine wpAny_Call_method_late hbase hfew hline rfl (thn (ho pins s σ H _ I h) fun v s1 ⟨x,H1,I1,r1,ty,q1⟩=>?_)
  obtain ⟨h1,h2⟩:=d0l I1 r1 ty
  refine ⟨T,id,pa,slot,hty,h1,h2,?_⟩
  have hA:=ha cpos pins s1 σ H1 _ I1 q1
  rw [hs] at hA ⊢
  refine Calls.callWith_builtin (by show (false || (backTo cpos (starEach es X.env)).any (·.1))=false; rw [hplain] <;> rfl) (Calls.evalArgs_plain ?_)
  exact thn hA fun us s2 ⟨vs,H2,I2,r2,q2⟩=>hm pins s2 σ H2 x vs v us Q I2 r1 r2 q2
end
end L2
namespace L2
open PySem PySem.Spec PyProof.Rows
noncomputable def MtM (X:Cx) (id:String) (r:V→List V→Hp→VK→Prop):Prop :=
  ∀ (pins:List (Addr×Obj)) (s:Shared) (σ:St) (H:Hp) (x:V) (xs:List V) (v:Value) (us:List Value) (Q:VK),Inv X pins σ H s→RelV x v→Vals xs us→r x xs H Q →
    wpAny (model X.prog X.w) X.A (call (.builtin id) (v :: us)) (EP X pins σ Q) X.xe s
theorem Vals.one:∀ {x:V} {us:List Value},Vals [x] us→∃ u,us=[u]∧RelV x u
  | _,_,.cons r .nil=>⟨_,rfl,r⟩
theorem Vals.two:∀ {x y:V} {us:List Value},Vals [x,y] us→∃ u v,us=[u,v]∧RelV x u∧RelV y v
  | _,_,_,.cons r (.cons q .nil)=>⟨_,_,rfl,r,q⟩
theorem Vals.zero:∀ {us:List Value},Vals [] us→us=[]
  | _,.nil=>rfl
theorem Vals.dropLast {xs:List V} {us:List Value} (h:Vals xs us):Vals xs.dropLast us.dropLast:=by
  induction h with
  | nil=>exact .nil
  | cons r t ih =>
    cases t with
    | nil=>exact .nil
    | cons q t'=>exact .cons r ih
theorem Vals.rep {xs:List V} {us:List Value} (h:Vals xs us):∀ k:Nat,Vals (List.replicate k xs).flatten (List.replicate k us).flatten
  | 0=>.nil
  | k + 1=>by
    rw [List.replicate_succ,List.replicate_succ,List.flatten_cons,List.flatten_cons]
    exact Vals.append h (Vals.rep h k)
theorem l0g {α:Type} (l:List α):l.eraseIdx (l.length - 1)=l.dropLast:=by
  induction l with
  | nil=>rfl
  | cons a r ih =>
    cases r with
    | nil=>rfl
    | cons b r =>
      have e:(a :: b :: r).length - 1=((b :: r).length - 1) + 1:=by
        have h1:(a :: b :: r).length=r.length + 2:=rfl
        have h2:(b :: r).length=r.length + 1:=rfl
        omega
      rw [e,List.eraseIdx_cons_succ,ih]
      all_goals rfl
theorem r0e (its:List Value):∀ (k:Nat) (acc:List Value),
    List.foldl (fun x1 x2=>x1++x2) acc.toArray (List.replicate k its.toArray)=(acc++(List.replicate k its).flatten).toArray
  | 0,acc=>by simp
  | k + 1,acc=>by
    have e:acc.toArray++its.toArray=(acc++its).toArray:=by simp
    have e2:(acc++its)++(List.replicate k its).flatten=acc++(List.replicate (k + 1) its).flatten:=by
      rw [List.replicate_succ,List.flatten_cons,List.append_assoc]
    rw [← e2,← r0e its k (acc++its),← e,List.replicate_succ,List.foldl_cons]
section
variable {X:Cx} {pins:List (Addr×Obj)} {σ:St} {H:Hp} {s:Shared} {l b:Addr} {xs ys zs:List V}
theorem Inv.lset {its its':List Value} {n:Nat} {f:Array Value→Array Value} {t':Nat} (I:Inv X pins σ H s) (hH:H l=some (.lst xs))
    (e:s.heap.get? l=some { cls:=.type "list",data:=.seq its.toArray n }) (hf:f its.toArray=its'.toArray) (hv:Vals ys its') (hz:ys.length≤sizeLine) :
    Inv X pins σ (upd H l (.lst ys)) { s with heap:=s.heap.update l (Obj.mapSeq f),toks:=t' }:=by
  have q:=PySem.IsL.update e f
  rw [hf] at q
  refine I.write (x:=l) (e:=l) (by rw [hH]; exact trivial) (.inl rfl) (fun b' u hb hu=>(Heap.get?_update_other s.heap (Obj.mapSeq f) (Ne.symm hb)).trans hu) ⟨_,q⟩ ?_
  exact ⟨hz,its',_,hv,q⟩
theorem Inv.lnew {its:List Value} {t':Nat} (I:Inv X pins σ H s) (hv:Vals ys its) (hz:ys.length≤sizeLine) :
    Inv X pins σ (upd H s.heap.objs.size (.lst ys)) { s with heap:=s.heap.push { cls:=.type "list",data:=.seq its.toArray },toks:=t' } :=
  I.laid (fun _ _ q=>Heap.get?_push_of_some _ q) (Nat.le_refl _) ⟨hz,its,0,hv,Heap.get?_push_size _ rfl⟩
theorem Inv.fresh (I:Inv X pins σ H s):H s.heap.objs.size=none:=I.hok.fresh (Nat.le_refl _)
theorem Inv.lstM (I:Inv X pins σ H s) (hH:H l=some (.lst xs)):xs.length≤sizeLine∧∃ (its:List Value) (n:Nat),Vals xs its∧xs.length=its.length∧s.heap.get? l=some { cls:=.type "list",data:=.seq its.toArray n }:=by
  obtain ⟨z,its,n,r,e⟩:=I.hok l _ hH
  exact ⟨z,its,n,r,r.length,e⟩
theorem f0u {n:Nat} (h:n≤sizeLine):Builtin.List.listTooLong n=false:=by
  unfold Builtin.List.listTooLong
  exact decide_eq_false (by omega)
end
section
variable {X:Cx}
noncomputable def j0q:V→List V→Hp→VK→Prop:=fun x vs H Q=>∃ l xs y,x=.ref l∧vs=[y]∧H l=some (.lst xs)∧xs.length < sizeLine∧Q .non (upd H l (.lst (xs++[y])))
theorem z8:MtM X "list.append" j0q:=by
  intro pins s σ H x vs v us Q I rx rv h
  obtain ⟨l,xs,y,rfl,rfl,hH,hz,q⟩:=h
  cases rx
  obtain ⟨u,rfl,ru⟩:=rv.one
  obtain ⟨z,its,n,r,hl,e⟩:=I.lstM hH
  refine call_meets F.slot_list_append ⟨_,e,rfl⟩ F.entry_list_append (F.args_list_append_2 _ _) (PySem.list_append l its.toArray n u (by rw [List.size_toArray]; omega)) ⟨e,?_⟩
  refine ⟨.non,_,I.lset (its':=its++[u]) hH e (by simp) (r.append (.cons ru .nil)) ?_,rfl,q⟩
  rw [List.length_append,List.length_singleton]
  omega
noncomputable def rPop:V→List V→Hp→VK→Prop:=fun x vs H Q=>∃ l xs y,x=.ref l∧vs=[]∧H l=some (.lst xs)∧xs[xs.length - 1]?=some y∧Q y (upd H l (.lst xs.dropLast))
theorem d0k:MtM X "list.pop" rPop:=by
  intro pins s σ H x vs v us Q I rx rv h
  obtain ⟨l,xs,y,rfl,rfl,hH,hy,q⟩:=h
  cases rx
  have hus:=rv.zero
  subst hus
  obtain ⟨z,its,n,r,hl,e⟩:=I.lstM hH
  obtain ⟨u,hu,ru⟩:=r.get hy
  have hy':its.toArray[its.toArray.size - 1]?=some u:=by
    show its.toArray[its.length - 1]?=some u
    rw [← Array.getElem?_toList,← hl]
    exact hu
  refine call_meets F.slot_list_pop ⟨_,e,rfl⟩ F.entry_list_pop (F.args_list_pop_1 _) (MeetsSeq.list_pop_last l its.toArray n u hy' (by rw [List.size_toArray]; omega)) ⟨e,?_⟩
  refine ⟨y,_,I.lset (its':=its.dropLast) hH e ?_ r.dropLast ?_,ru,q⟩
  · show its.toArray.eraseIdxIfInBounds (its.toArray.size - 1)=its.dropLast.toArray
    rw [List.size_toArray,List.eraseIdxIfInBounds_toArray,l0g]
  · rw [List.length_dropLast]
    omega
noncomputable def rCat:R2:=fun x y H Q=>∃ l b xs zs,x=.ref l∧y=.ref b∧H l=some (.lst xs)∧H b=some (.lst zs)∧xs.length + zs.length≤sizeLine∧∀ p,H p=none→Q (.ref p) (upd H p (.lst (xs++zs)))
theorem op_cat:OpR X (binaryOp .Add) rCat:=by
  intro pins s σ H x y v u Q I rx ry h
  obtain ⟨l,b,xs,zs,rfl,rfl,hH,hB,hz,q⟩:=h
  cases rx
  cases ry
  obtain ⟨z,its,n,r,hl,e⟩:=I.lstM hH
  obtain ⟨z2,its2,n2,r2,hl2,e2⟩:=I.lstM hB
  refine PySem.P.add_list e e2 ?_ (by rw [List.size_toArray,List.size_toArray]; omega)
  have ea:its.toArray++its2.toArray=(its++its2).toArray:=by simp
  rw [ea]
  exact ⟨.ref _,_,I.lnew (t':=s.toks) (r.append r2) (by rw [List.length_append]; omega),rfl,q _ I.fresh⟩
noncomputable def rRep:R2:=fun x y H Q=>∃ l k xs,x=.ref l∧y=.int k∧H l=some (.lst xs)∧-(2 ^ 63)≤k∧k < 2 ^ 63∧xs.length * k.toNat≤sizeLine ∧
  ∀ p,H p=none→Q (.ref p) (upd H p (.lst (List.replicate k.toNat xs).flatten))
theorem b0d {α:Type} (xs:List α) (k:Nat):(List.replicate k xs).flatten.length=k * xs.length:=by
  induction k with
  | zero=>simp
  | succ k ih=>rw [List.replicate_succ,List.flatten_cons,List.length_append,ih,Nat.succ_mul,Nat.add_comm]
theorem d0j:OpR X (binaryOp .Mult) rRep:=by
  intro pins s σ H x y v u Q I rx ry h
  obtain ⟨l,k,xs,rfl,rfl,hH,h1,h2,hz,q⟩:=h
  cases rx
  obtain ⟨t,rfl⟩:=ry
  obtain ⟨z,its,n,r,hl,e⟩:=I.lstM hH
  have hlen:its.toArray.size * k.toNat≤sizeLine:=by rw [List.size_toArray,← hl]; exact hz
  have hcap:¬ its.toArray.size * k.toNat > (2 ^ 63 - 1) / 8:=by
    have:(sizeLine:Nat)≤(2 ^ 63 - 1) / 8:=by decide
    omega
  have hfit:¬ (!Builtin.List.listFitsIndex k)=true:=by
    rw [fitsIndex_both h1 h2]
    exact Bool.false_ne_true
  have hlong:¬ Builtin.List.listTooLong (its.toArray.size * k.toNat)=true:=by
    rw [f0u hlen]
    exact Bool.false_ne_true
  have hnew:List.foldl (fun x1 x2=>x1++x2) #[] (List.replicate (if its.toArray.isEmpty=true then 0 else k.toNat) its.toArray)=(List.replicate k.toNat its).flatten.toArray:=by
    have f0:∀ m:Nat,List.foldl (fun x1 x2=>x1++x2) #[] (List.replicate m its.toArray)=(List.replicate m its).flatten.toArray:=fun m=>by
      have:=r0e its m []
      rw [List.nil_append] at this
      exact this
    rw [f0]
    cases its with
    | nil=>simp
    | cons a r'=>rw [if_neg (by simp)]
  refine wpAny_binaryOp_repeat_ref (T := "list") (U := "int") (by decide) ⟨_,e,rfl⟩ (fun s'=>typeIs_int s' k t) noFill_list_mul F.fills_int_mul F.slot_int_rmul repeat_list F.slot_int_index.lookup
    (call_meets F.slot_int_rmul (typeIs_int s k t) F.entry_int_rmul (F.args_int_rmul_2 _ _) (int___rmul___int_list k t l its.toArray n)
      ⟨e,rfl,⟨_,e,rfl⟩,call_meets F.slot_list_mul ⟨_,e,rfl⟩ F.entry_list_mul (F.args_list_mul_2 _ _) (AutoListH.list___mul___list_int_3 l its.toArray n k t hfit hcap hlong) ⟨e,?_⟩⟩)
  rw [hnew]
  exact ⟨.ref _,_,I.lnew (t':=s.toks) (r.rep k.toNat) (by rw [b0d,Nat.mul_comm]; exact hz),rfl,q _ I.fresh⟩
end
section
variable {prog:Program} {w:World} {A:Around} {E:Value→Shared→Prop} {s:Shared}
set_option maxRecDepth 100000 in
end
section
variable {X:Cx}
end
end L2
namespace Att
open PySem PySem.W PySem.Calls PyProof.Rows
theorem v0i {P:Params} {h:Heap}:∀ (ns:List Int) (vs:List Value),WellAll P h vs (ns.map WData.int)→IntsAre vs ns:=by
  intro ns
  induction ns with
  | nil =>
    intro vs w
    rw [List.map_nil] at w
    cases w
    exact .nil
  | cons n ns ih =>
    intro vs w
    rw [List.map_cons] at w
    cases w with
    | cons a b =>
      cases a
      exact .cons _ _ (ih _ b)
theorem j0p {l:OpenLaw} {n:Nat} (hn:l.most=some n) {P:Params} {h:Heap} {args:List WData} {vals:List Value}
    (hpre:l.row.toRowW.claim.pre args=true) (hwl:WellAll P h vals args) :
    ∃ a vs ns,vals=[Value.ref a]∧args=[WData.list (ns.map WData.int)]∧h.get? a=some { cls:=.type "list",data:=.seq vs.toArray }∧IntsAre vs ns∧ns.length≤n:=by
  have hsh:WShape.hasAll [] args [.list .int]=true:=(pre_splitW hpre).1
  have hc:l.pre.holds [] { args:=args }=true:=(pre_splitW hpre).2
  obtain ⟨d,r,rfl,h1,h2⟩:=hasAllW_cons hsh
  obtain rfl:=hasAllW_nil h2
  obtain ⟨xs,rfl,h3⟩:=hasW_list h1
  obtain ⟨ns,rfl⟩:=items_int h3
  have hlen:ns.length≤n:=by
    unfold OpenLaw.pre at hc
    have h4:(WTm.not (.lt (.lit (.int (n:Int))) (.len (.arg 0)))).holds [] { args:=[.list (ns.map .int)] }=true:=by
      have h4:=(holds_andW hc).1
      rw [hn] at h4
      exact h4
    have h5:=condW_of h4 (w_not (w_lt w_lit (w_len_list (w_arg rfl))))
    rw [List.length_map] at h5
    refine Nat.le_of_not_lt fun q=>?_
    have q':(n:Int) < ((ns.length:Nat):Int):=by omega
    first
      | (rw [decide_eq_true q'] at h5; exact absurd h5 (by decide))
      | (simp at h5; omega)
  cases hwl with
  | cons w1 w2 =>
    cases w2
    cases w1 with
    | list ho hall=>exact ⟨_,_,ns,rfl,rfl,ho,v0i ns _ hall,hlen⟩
theorem j0o (l:OpenLaw) (args:List WData):l.row.toRowW.claim.post args (.bool true) args=true :=
  postW_of (r:=l.row.toRowW) (X:=(true == true))
    (show WShape.has [] (.bool true) .bool=true by first | rfl | decide | simp [WShape.has,WShape.arms,WShape.armsAll])
    (show (WTm.eq .res (.lit (.bool true))).value [] { args:=args,res:=some (.bool true),after:=args }=some (.bool (true == true)) from w_eq_bool (w_res rfl) w_lit) rfl
theorem attach_call {l:OpenLaw} {n:Nat} {q:Program} {loose:List Str} {XP:(Str→Option Value)→Heap→Prop} {YP:World→Heap→Prop} {d:DefRec}
    (hn:l.most=some n) (hdf:d.params.defaults=[])
    (call:∀ (w:World) (s₀ s₁:Shared) (mg mb:Str→Option Value) (fa:Addr) (o:Obj) (pm cd doc:Value) (a:Addr) (vs:List Value) (ns:List Int),
      Ground q loose [] XP w s₀ mg mb s₁.heap→YP w s₁.heap →
      s₁.heap.get? fa=some o→o.data=.func (docDef d.name d.params d.body d.scope pm cd doc)→s₁.heap.CodeRec cd d.name→mg d.name=some (.ref fa) →
      s₁.heap.get? a=some { cls:=.type "list",data:=.seq vs.toArray }→IntsAre vs ns→ns.length≤n→s₁.gens=#[] →
      codeAny (model l.prog w) callerA (.call (.ref fa) ⟨[.ref a],[]⟩) (fun r s'=>r=.ok (.ret (.bool true))∧OldK s₁.heap s'.heap∧s'.os=s₁.os∧AllBare s'.gens) s₁) :
    WalkO q loose XP YP l.row.toRowW d [] (fun f vs=>PySem.call f vs):=by
  intro w s₀ s₁ mg mb G Y fa o pm cd doc dV kV ho hd hcd hD hmg hg args vals as hpre hlay hrd hwl hlo
  obtain rfl:dV=.none:=Dflts.none hD hdf
  obtain rfl:kV=.none:=Dflts.noKw hD
  obtain ⟨a,vs,ns,rfl,rfl,hobj,hints,hlen⟩:=j0p hn hpre hwl
  refine enter_call (codeAny_mono (call w s₀ s₁ mg mb fa o pm cd doc a vs ns G Y ho (fd_plain hd) hcd hmg hobj hints hlen hg) fun r s' hq=>?_)
  obtain ⟨rfl,h2,h3,h4⟩:=hq
  exact ⟨.inl ⟨.bool true,.bool true,[],rfl,fun _=>rfl,.bool true,j0o l _,fun _=>⟨List.Pairwise.nil,fun _ hm=>(nomatch hm)⟩⟩,h2,h3,h4⟩
section
variable {prog:Program} {w:World} {A:Around} {E:Value→Shared→Prop} {s:Shared} {K:Frag}
noncomputable def ledger (h:Heap) (L d:Addr):List (Addr×Obj):=(List.range h.objs.size).filterMap fun a=>if a=L∨a=d then none else (h.get? a).map fun o=>(a,o)
end
end Att
namespace L2
open PySem PySem.Spec PyProof.Rows
theorem r0d:∀ {vs:List Value} {ns:List Int},IntsAre vs ns→Vals (ns.map V.int) vs
  | _,_,.nil=>.nil
  | _,_,.cons n t h=>.cons ⟨t,rfl⟩ (r0d h)
noncomputable def Only (H:Hp):Prop:=∀ b,H b=none∨∃ o xs,H b=some (.frz o (.lst xs))
theorem f0t {P:Program} {w:World} {K:PySem.W.Frag} {mg mb:Str→Option Value} {CX:CXT} {k:Nat} {fa a:Addr} {fd:FuncData} {x:Str} {sp:Sp} {s₁:Shared} {vs:List Value} {ns:List Int}
    (KX:K.In s₁.heap) (hns:s₁.heap.Ns mainGlobals mg) (hb:s₁.heap.Ns builtinsNs mb) (hbb:∀ x:Str,x ≠ "__name__" → mb x=bootBuiltins x) (hlim:s₁.heap.NoLimit) (hg:s₁.gens=#[])
    (ha:s₁.heap.get? a=some { cls:=.type "list",data:=.seq vs.toArray }) (hi:IntsAre vs ns) (hl:ns.length≤sizeLine) (hr:Room k callerA)
    (F:∀ base:Heap,K.In base→base.Ns mainGlobals mg→FnOk P w K mg base CX k fa fd [x] sp) (hbind:∀ (s:Shared) (u:Value),BindsTo s fd ⟨[u],[]⟩ [(x,u)])
    (hsp:∀ H:Hp,Only H→SqL K H a (ns.map V.int)→sp [.ref a] H (fun v _=>v=.bl true) fun _ _ _=>False)
    (hCX:∀ H e s',CX [] H s₁ (fun _ _ _=>False) e s'→False) :
    codeAny (model P w) callerA (.call (.ref fa) ⟨[.ref a],[]⟩) (fun r s'=>r=.ok (.ret (.bool true))∧OldK s₁.heap s'.heap∧s'.os=s₁.os∧AllBare s'.gens) s₁:=by
  have rv:=r0d hi
  have lenV:=hi.length
  have core:∀ H:Hp,Only H→SqL K H a (ns.map V.int)→HOk P w H s₁.heap→(∀ b,H b≠none→b=a)→(H a≠none→K.lookup a=none) →
      codeAny (model P w) callerA (.call (.ref fa) ⟨[.ref a],[]⟩) (fun r s'=>r=.ok (.ret (.bool true))∧OldK s₁.heap s'.heap∧s'.os=s₁.os∧AllBare s'.gens) s₁:=by
    intro H hO hS hok hA hK
    have base_of:∀ {b:Addr} {o:Obj},s₁.heap.get? b=some o→H b=none→(hidT s₁.heap H).get? b=some o:=fun e n=>g0f e n
    have noA:∀ {b:Addr} {o:Obj} {es:Array DictEntry} {ep:Nat},s₁.heap.get? b=some o→o.data=.dict es ep→H b=none:=fun {b o es ep} e d=>by
      cases q:H b with
      | none=>rfl
      | some u =>
        have e':b=a:=hA b (by rw [q]; simp)
        subst e'
        rw [ha] at e; cases e
        have d':Data.seq vs.toArray _=Data.dict es ep:=d
        cases d'
    have nsK:∀ {b:Addr} {m:Str→Option Value},s₁.heap.Ns b m→(hidT s₁.heap H).Ns b m:=fun {b m} ⟨o,es,ep,e,d,r⟩=>⟨o,es,ep,base_of e (noA e d),d,r⟩
    have hKb:K.In (hidT s₁.heap H):=fun b o e=>base_of (KX b o e) (by
      cases q:H b with
      | none=>rfl
      | some u =>
        have e':b=a:=hA b (by rw [q]; simp)
        subst e'
        rw [hK (by rw [q]; simp)] at e; cases e)
    have hM:Mod K mg (hidT s₁.heap H):=⟨hKb,nsK hns,⟨mb,nsK hb,hbb⟩,let ⟨mc,h1,h2⟩:=hlim; ⟨mc,nsK h1,h2⟩⟩
    have e0:Env0 P w K mg (hidT s₁.heap H) callerA [] s₁ H:=⟨rfl,hM,fun b o e=>b0v e,Nat.le_of_eq (k0l _ _),trivial,fun b hb=>absurd (show b∈([]:List Addr) from hb) (by simp),hok,.of_eq hg⟩
    refine codeAny_mono ((F _ hKb (nsK hns)).run callerA [] s₁ H ⟨[.ref a],[]⟩ [.ref a] [.ref a] _ _ hr e0 (hbind s₁ (.ref a)) (.cons rfl .nil) (hsp H hO hS)) fun r s' h=>?_
    cases r with
    | error e=>exact (hCX H e s' h).elim
    | ok fl =>
      cases fl with
      | next=>exact False.elim h
      | brk=>exact False.elim h
      | cont=>exact False.elim h
      | ret u =>
        obtain ⟨v,H',os,bare,un,hok',r',q⟩:=h
        have q':v=.bl true:=q
        subst q'
        obtain rfl:u=Value.bool true:=r'
        refine ⟨rfl,OldK.of_keep fun b o e=>?_,os,bare⟩
        cases q:H b with
        | none=>exact un.keep b o e q (by intro z; exact absurd (show b∈([]:List Addr) from z) (by simp)) (by simp)
        | some u =>
          rcases hO b with z | ⟨ob,xs,z⟩
          · rw [q] at z; cases z
          · have z2:=un.frzs b ob _ z
            obtain ⟨e1,_⟩:=hok b _ z
            obtain ⟨e2,_⟩:=hok' b _ z2
            rw [e] at e1; cases e1
            exact e2
  cases hk:K.lookup a with
  | some o =>
    have e:=KX a o hk
    rw [ha] at e
    cases e
    refine core (fun _=>none) (fun _=>.inl rfl) (.inr ⟨_,vs.toArray,_,hk,rfl,rfl,rfl,by rw [List.size_toArray,lenV]; exact hl,by simpa using rv⟩) (fun b u z=>by have z':(none:Option HO)=some u:=z; cases z') (fun b z=>absurd rfl z) fun z=>absurd rfl z
  | none =>
    refine core (fun b=>if b=a then some (.frz { cls:=.type "list",data:=.seq vs.toArray } (.lst (ns.map V.int))) else none) (fun b=>?_) (.inl (.inr ⟨{ cls:=.type "list",data:=.seq vs.toArray },if_pos rfl⟩)) (fun b u z=>?_) (fun b z=>?_) fun _=>hk
    · by_cases hb:b=a
      · exact .inr ⟨_,_,if_pos hb⟩
      · exact .inl (if_neg hb)
    · by_cases hb:b=a
      · have z':=(if_pos hb).symm.trans z
        cases z'
        subst hb
        exact ⟨ha,by rw [List.length_map]; exact hl,vs,_,rv,ha⟩
      · have z':=(if_neg hb).symm.trans z
        cases z'
    · by_cases hb:b=a
      · exact hb
      · exact absurd (if_neg hb) z
end L2
namespace L2
open PySem PySem.Spec PyProof.Rows
noncomputable abbrev KOf {K:PySem.W.Frag} {h:Heap} (_:K.In h):PySem.W.Frag:=K
theorem walk_of {l:PySem.W.OpenLaw} {n k:Nat} {q:Program} {loose:List Str} {XP:(Str→Option Value)→Heap→Prop} {YP:World→Heap→Prop} {d:DefRec} {K:Params→PySem.W.Frag} {CX:World→CXT} {sp:World→Sp} {x:Str}
    (hn:l.most=some n) (hn2:n≤sizeLine) (hdf:d.params.defaults=[]) (hr:Room k callerA)
    (hY:∀ (w:World) (h:Heap),YP w h→(K w.params).In h)
    (F:∀ (w:World) (mg:Str→Option Value) (fa:Addr) (h:Heap),(K w.params).In h→h.Ns mainGlobals mg→mg d.name=some (.ref fa) →
      ∃ fd:FuncData,(∀ (s:Shared) (u:Value),BindsTo s fd ⟨[u],[]⟩ [(x,u)]) ∧
        ∀ base:Heap,(K w.params).In base→base.Ns mainGlobals mg→FnOk l.prog w (K w.params) mg base (CX w) k fa fd [x] (sp w))
    (hsp:∀ (w:World) (H:Hp) (a:Addr) (ns:List Int),ns.length≤n→Only H→SqL (K w.params) H a (ns.map V.int)→sp w [.ref a] H (fun v _=>v=.bl true) fun _ _ _=>False)
    (hCX:∀ (w:World) (H:Hp) (s:Shared) (e:Value) (s':Shared),CX w [] H s (fun _ _ _=>False) e s'→False) :
    PySem.W.WalkO q loose XP YP l.row.toRowW d [] (fun f vs=>PySem.call f vs):=by
  refine Att.attach_call hn hdf fun w s₀ s₁ mg mb fa o pm cd doc a vs ns G Y ho hd hcd hmg hobj hints hlen hg=>?_
  have KX:=hY w _ Y
  obtain ⟨fd,hb,hF⟩:=F w mg fa _ KX G.T.g hmg
  exact f0t KX G.T.g G.T.b G.T.builtins G.T.nolimit hg hobj hints (Nat.le_trans hlen hn2) hr hF hb (fun H hO hS=>hsp w H a ns hlen hO hS) fun H e s'=>hCX w H s₁ e s'
end L2
namespace L2
open PySem PySem.Spec PyProof.Rows
noncomputable def inClass (s:Stmt) (j:Nat):Stmt:=match s with
  | .ClassDef _ _ _ body _ _ _ _ _ _ _=>body.getD j (.Pass ⟨0,0,0,0⟩)
  | _=>.Pass ⟨0,0,0,0⟩
noncomputable def defArgs (s:Stmt):Arguments:=match s with
  | .FunctionDef _ a _ _ _ _ _ _ _ _=>a
  | _=>{ posonlyargs:=[],args:=[],vararg:=none,kwonlyargs:=[],kw_defaults:=[],kwarg:=none,defaults:=[] }
noncomputable def defBody (s:Stmt):List Stmt:=match s with
  | .FunctionDef _ _ b _ _ _ _ _ _ _=>b
  | _=>[]
noncomputable def defScope (s:Stmt):Scope:=match s with
  | .FunctionDef _ _ _ _ _ _ sc _ _ _=>sc
  | _=>{ kind:=.function,names:=[],isGenerator:=false,isCoroutine:=false }
noncomputable abbrev CX0:CXT:=fun _ _ _ _ _ _=>False
noncomputable abbrev E0:XK:=fun _ _ _=>False
theorem pass0 {X:Cx}:d0n CX0 X E0:=fun _ _ _ _ _ _ _ h=>h.elim
structure Fun (K:PySem.W.Frag) (x qual:Str) (st:Stmt) (f:Addr) (fd:FuncData):Prop where
  ex:∃ (oc:Value) (od:Option Addr) (kV doc pm:Value) (an:Option Addr) (cdv ct:Value) (osl:Array (Option Value)),
    fd=PySem.W.fnOf x qual (defArgs st) (defBody st) (defScope st) .none kV doc pm an cdv ct∧K.lookup f=some ⟨oc,od,.func fd,osl⟩∧PySem.W.codeIn K cdv qual=true
  kp:PySem.W.keepIn K (.ref f)=true
section
variable {P:Program} {w:World} {K:PySem.W.Frag} {mg:Str→Option Value} {base:Heap}
theorem Fun.ok {x qual:Str} {st:Stmt} {f:Addr} {fd:FuncData} {N ps:List Str} {k:Nat} {sp:Sp} (F:Fun K x qual st f fd) (S:FnScope N ps (defScope st)) (len:∀ vs H Q E,sp vs H Q E→vs.length=ps.length)
    (hbody:∀ (cdv:Value) (A:Around) (outer:List Env) (s:Shared) (H:Hp) (vs:List V) (Q:VK) (E:XK),Room k (A.deeper (envOfC qual (defScope st) s.heap.objs.size f cdv))→sp vs H Q E →
      ∃ t,PSs (cxOf CX0 P w K mg base N qual (defScope st) f cdv A outer s H E).nox (defBody st) t∧t { nx:=fun _ H'=>Q .non H',rt:=Q } (start N vs) H):FnOk P w K mg base CX0 (k + 1) f fd ps sp:=by
  obtain ⟨oc,od,kV,doc,pm,an,cdv,ct,osl,rfl,lk,hcd⟩:=F.ex
  refine fn_of lk hcd S len fun A outer s H vs Q E hr hsp=>?_
  obtain ⟨t,h,q⟩:=hbody cdv A outer s H vs Q E hr hsp
  exact ⟨t,h.nox,q⟩
theorem Fun.binds {x qual:Str} {st:Stmt} {f:Addr} {fd:FuncData} {ps:List Str} (F:Fun K x qual st f fd)
    (h:∀ (kV doc pm:Value) (an:Option Addr) (cdv ct:Value) (us:List Value),us.length=ps.length→bindArgs (PySem.W.fnOf x qual (defArgs st) (defBody st) (defScope st) .none kV doc pm an cdv ct) ⟨us,[]⟩=pure (ps.zip us)):Binds K fd ps []:=by
  obtain ⟨oc,od,kV,doc,pm,an,cdv,ct,osl,rfl,lk,hcd⟩:=F.ex
  exact .all (h kV doc pm an cdv ct)
end
section
variable {X:Cx}
theorem pv (i:Nat) {x:Str} {pos:Pos} (hN:X.N[i]?=some x:=by rfl) (hv:Vis X.env.scope x:=by walk_at "v3") (hd:(x == ("__debug__" : Str))=false:=by decide)
    (hcd:(x == ("__classdict__" : Str))=false:=by decide):PE X (.Name x pos) (tVar i):=u7 hN hv hd hcd
end
noncomputable def Same (H H':Hp):Prop:=∀ b o,H b=some o→H' b=some o
theorem Same.refl (H:Hp):Same H H:=fun _ _ h=>h
theorem Same.trans {H H1 H2:Hp} (a:Same H H1) (b:Same H1 H2):Same H H2:=fun c o h=>b c o (a c o h)
theorem Same.free {H H':Hp} (e:Same H H') {l:Addr} (h:H' l=Option.none):H l=Option.none:=by
  cases q:H l with
  | none=>rfl
  | some o =>
    rw [e l o q] at h
    cases h
end L2
namespace L2
open PySem PySem.Spec PyProof.Rows
section
variable {κ:Type} [DecidableEq κ]
noncomputable def valV (kvs:List (κ×V)) (k:κ):Option V:=(kvs.find? fun kv=>decide (kv.1=k)).map (·.2)
noncomputable def putK (kvs:List (κ×V)) (k:κ) (v:V):List (κ×V) :=
  if (kvs.any fun kv=>decide (kv.1=k))=true then kvs.map (fun kv=>if kv.1=k then (kv.1,v) else kv) else kvs++[(k,v)]
theorem v0v {p:κ×V} {r:List (κ×V)} {k:κ} (e:p.1=k):valV (p :: r) k=some p.2:=by simp [valV,List.find?_cons,e]
theorem v0u {p:κ×V} {r:List (κ×V)} {k:κ} (e:¬ p.1=k):valV (p :: r) k=valV r k:=by simp [valV,List.find?_cons,e]
theorem m0w (k:κ):∀ kvs:List (κ×V),(kvs.any fun kv=>decide (kv.1=k))=(valV kvs k).isSome
  | []=>rfl
  | p :: r=>by
    rw [List.any_cons]
    by_cases e:p.1=k
    · simp only [v0v e,decide_eq_true e,Bool.true_or,Option.isSome_some]
    · rw [v0u e,decide_eq_false e,Bool.false_or]; exact m0w k r
theorem y0o (kvs:List (κ×V)) (k:κ) (v:V):(putK kvs k v).length≤kvs.length + 1:=by
  unfold putK
  split
  · rw [List.length_map]; omega
  · rw [List.length_append,List.length_cons,List.length_nil]; omega
theorem RelO.isSome_eq {o:Option V} {u:Option Value} (r:RelO o u):o.isSome=u.isSome:=by
  cases o with
  | none=>cases u with
    | none=>rfl
    | some _=>exact (show False from r).elim
  | some _=>cases u with
    | none=>exact (show False from r).elim
    | some _=>rfl
theorem RelO.getD {o:Option V} {u:Option Value} {d:V} {d':Value} (r:RelO o u) (rd:RelV d d'):RelV (o.getD d) (u.getD d'):=by
  cases o with
  | none=>cases u with
    | none=>exact rd
    | some _=>exact (show False from r).elim
  | some _=>cases u with
    | none=>exact (show False from r).elim
    | some _=>exact r
theorem KV.val {kvs:List (κ×V)} {vs:List (κ×Value)} (r:KV kvs vs) (k:κ):RelO (valV kvs k) (valueAt vs k):=by
  unfold KV at r
  induction r with
  | nil=>exact True.intro
  | @cons p q ps qs h t ih =>
    obtain ⟨h1,h2⟩:=h
    by_cases e:p.1=k
    · have e':q.1=k:=h1.symm.trans e
      have b:valueAt (q :: qs) k=some q.2:=by simp [valueAt,List.find?_cons,e']
      rw [v0v e,b]; exact h2
    · have e':¬ q.1=k:=fun z=>e (h1.trans z)
      have b:valueAt (q :: qs) k=valueAt qs k:=by simp [valueAt,List.find?_cons,e']
      rw [v0u e,b]; exact ih
theorem KV.any {kvs:List (κ×V)} {vs:List (κ×Value)} (r:KV kvs vs) (k:κ):(kvs.any fun kv=>decide (kv.1=k))=vs.any fun kv=>decide (kv.1=k):=by
  unfold KV at r
  induction r with
  | nil=>rfl
  | cons h t ih=>rw [List.any_cons,List.any_cons,ih,h.1]
theorem KV.repl {kvs:List (κ×V)} {vs:List (κ×Value)} (r:KV kvs vs) (k:κ) {y:V} {u:Value} (ry:RelV y u) :
    KV (kvs.map fun kv=>if kv.1=k then (kv.1,y) else kv) (vs.map fun kv=>if kv.1=k then (kv.1,u) else kv):=by
  unfold KV at r ⊢
  induction r with
  | nil=>exact .nil
  | @cons p q ps qs h t ih =>
    rw [List.map_cons,List.map_cons]
    refine .cons ?_ ih
    obtain ⟨h1,h2⟩:=h
    by_cases e:p.1=k
    · rw [if_pos e,if_pos (h1.symm.trans e)]; exact ⟨h1,ry⟩
    · rw [if_neg e,if_neg (fun z=>e (h1.trans z))]; exact ⟨h1,h2⟩
theorem KV.put {kvs:List (κ×V)} {vs:List (κ×Value)} (r:KV kvs vs) (k:κ) {y:V} {u:Value} (ry:RelV y u):KV (putK kvs k y) (stored vs k u):=by
  unfold putK stored
  rw [r.any k]
  by_cases e:(vs.any fun kv=>decide (kv.1=k))=true
  · rw [if_pos e,if_pos e]; exact r.repl k ry
  · rw [if_neg e,if_neg e]; exact Paired.snoc r ⟨rfl,ry⟩
theorem KV.keys {kvs:List (κ×V)} {vs:List (κ×Value)} (r:KV kvs vs):kvs.map (·.1)=vs.map (·.1):=by
  unfold KV at r
  induction r with
  | nil=>rfl
  | cons h t ih=>rw [List.map_cons,List.map_cons,ih,h.1]
theorem KV.length {kvs:List (κ×V)} {vs:List (κ×Value)} (r:KV kvs vs):kvs.length=vs.length:=Paired.length r
end
theorem j0n {P:Program} {w:World} {k:Key} {u:Value} (r:RelV (kV k) u):(v4 P w).is k u=true:=by
  cases k with
  | inl i=>obtain ⟨t,e⟩:=(show ∃ t,u=Value.int i t from r); subst e; exact p0e P w i t
  | inr x=>obtain ⟨t,e⟩:=(show ∃ t,u=Value.str x t from r); subst e; exact p0d P w x t
theorem r0c {P:Program} {w:World}:∀ {ks:List Key} {us:List Value},Vals (ks.map kV) us→ItemsAre (v4 P w) ks us
  | [],_,r=>by rw [List.map_nil] at r; cases r; exact .nil
  | k :: ks,_,r=>by
    rw [List.map_cons] at r
    cases r with
    | cons h t=>exact .cons (j0n h) (r0c t)
noncomputable abbrev KT (H:Hp):List (List Key×V)→List (List Key×Addr×Value)→Prop:=Paired fun p q=>p.1=q.1∧H q.2.1=some (.tup (p.1.map kV))∧RelV p.2 q.2.2
theorem KT.val {H:Hp} {kvs:List (List Key×V)} {xs:List (List Key×Addr×Value)} (r:KT H kvs xs) (k:List Key):RelO (valV kvs k) ((atKey xs k).map (·.2)):=by
  induction r with
  | nil=>exact True.intro
  | @cons p q ps qs h t ih =>
    obtain ⟨h1,_,h2⟩:=h
    by_cases e:p.1=k
    · have e':q.1=k:=h1.symm.trans e
      have b:atKey (q :: qs) k=some q.2:=by simp [atKey,List.find?_cons,e']
      rw [v0v e,b]; exact h2
    · have e':¬ q.1=k:=fun z=>e (h1.trans z)
      have b:atKey (q :: qs) k=atKey qs k:=by simp [atKey,List.find?_cons,e']
      rw [v0u e,b]; exact ih
theorem KT.repl {H:Hp} {kvs:List (List Key×V)} {xs:List (List Key×Addr×Value)} (r:KT H kvs xs) (k:List Key) {y:V} {u:Value} (ry:RelV y u) :
    KT H (kvs.map fun kv=>if kv.1=k then (kv.1,y) else kv) (xs.map (putAt k u)):=by
  induction r with
  | nil=>exact .nil
  | @cons p q ps qs h t ih =>
    rw [List.map_cons,List.map_cons]
    refine .cons ?_ ih
    obtain ⟨h1,h2,h3⟩:=h
    unfold putAt
    by_cases e:p.1=k
    · rw [if_pos e,if_pos (h1.symm.trans e)]; exact ⟨h1,h2,ry⟩
    · rw [if_neg e,if_neg (fun z=>e (h1.trans z))]; exact ⟨h1,h2,h3⟩
theorem KT.put {H:Hp} {kvs:List (List Key×V)} {xs:List (List Key×Addr×Value)} (r:KT H kvs xs) (k:List Key) {b:Addr} {y:V} {u:Value} (hb:H b=some (.tup (k.map kV))) (ry:RelV y u) :
    KT H (putK kvs k y) (storedH xs k b u):=by
  have e:(kvs.any fun kv=>decide (kv.1=k))=(atKey xs k).isSome:=by
    rw [m0w,(r.val k).isSome_eq,Option.isSome_map]
  unfold putK storedH
  rw [e]
  by_cases q:(atKey xs k).isSome=true
  · rw [if_pos q,if_pos q]; exact r.repl k ry
  · rw [if_neg q,if_neg q]; exact Paired.snoc r ⟨rfl,hb,ry⟩
theorem KT.keeps {H H':Hp} {kvs:List (List Key×V)} {xs:List (List Key×Addr×Value)} (r:KT H kvs xs) (ht:∀ b ys,H b=some (.tup ys)→H' b=some (.tup ys)):KT H' kvs xs :=
  Paired.mapP r fun _ _ z=>⟨z.1,ht _ _ z.2.1,z.2.2⟩
section
variable {P:Program} {w:World} {H:Hp} {h:Heap} {a:Addr}
theorem rd_of {u:HO} (ok:HOk P w H h) (e:Rd H a u):ObjOk P w H h a u:=e.ok ok
theorem u0f {kvs:List (Key×V)} (ok:HOk P w H h) (e:Rd H a (.dK kvs)):kvs.length≤sizeLine∧(a == sysModules)=false∧∃ vs,KV kvs vs∧h.DictOf (v4 P w) a vs :=
  show ObjOk P w H h a (.dK kvs) from rd_of ok e
theorem dk_of {kvs:List (Key×V)} (ok:HOk P w H h) (e:H a=some (.dK kvs)):kvs.length≤sizeLine∧(a == sysModules)=false∧∃ vs,KV kvs vs∧h.DictOf (v4 P w) a vs:=u0f ok (.inl e)
theorem m0v {ks:List Key} (ok:HOk P w H h) (e:H a=some (.tup (ks.map kV))):(tupleKind (v4 P w)).is h ks a:=by
  obtain ⟨_,its,r,o,h1,h2,n,h3⟩:=(show ObjOk P w H h a (.tup (ks.map kV)) from ok a _ e)
  exact ⟨o,its.toArray,n,h1,h2,h3,by simpa using r0c r⟩
theorem j0m {kvs:List (List Key×V)} (ok:HOk P w H h) (e:Rd H a (.dT kvs)):kvs.length≤sizeLine∧(a == sysModules)=false ∧
    ∃ xs,KT H kvs xs∧h.DictOfH (tupleKind (v4 P w)) a xs:=by
  obtain ⟨z,y,xs,r,o,es,ep,h1,h2,h3,h4,h5⟩:=(show ObjOk P w H h a (.dT kvs) from rd_of ok e)
  refine ⟨z,y,xs,r,o,es,ep,h1,h2,h3,h4,fun x hx=>?_,h5⟩
  have all:∀ {l:List (List Key×V)} {m:List (List Key×Addr×Value)},KT H l m→∀ x∈m,(tupleKind (v4 P w)).is h x.1 x.2.1:=by
    intro l m q
    induction q with
    | nil=>intro x hx; exact nomatch hx
    | @cons p q ps qs hq t ih =>
      intro x hx
      rcases List.mem_cons.mp hx with e | hx
      · subst e
        exact m0v ok (by rw [← hq.1]; exact hq.2.1)
      · exact ih x hx
  exact all r x hx
theorem dt_of {kvs:List (List Key×V)} (ok:HOk P w H h) (e:H a=some (.dT kvs)):kvs.length≤sizeLine∧(a == sysModules)=false ∧
    ∃ xs,KT H kvs xs∧h.DictOfH (tupleKind (v4 P w)) a xs:=j0m ok (.inl e)
end
noncomputable def DGet (H:Hp) (a:Addr) (y:V) (r:Option V):Prop :=
  (∃ kvs k,Rd H a (.dK kvs)∧y=kV k∧r=valV kvs k)∨∃ kvs k b,Rd H a (.dT kvs)∧y=.ref b∧H b=some (.tup (k.map kV))∧r=valV kvs k
noncomputable def DPut (H:Hp) (a:Addr) (y v:V) (H':Hp):Prop :=
  (∃ kvs k,H a=some (.dK kvs)∧y=kV k∧kvs.length < sizeLine∧H'=upd H a (.dK (putK kvs k v))) ∨
  ∃ kvs k b,H a=some (.dT kvs)∧y=.ref b∧H b=some (.tup (k.map kV))∧kvs.length < sizeLine∧H'=upd H a (.dT (putK kvs k v))
theorem DPut.k {H:Hp} {a:Addr} {kvs:List (Key×V)} {k:Key} {v:V} (e:H a=some (.dK kvs)) (hl:kvs.length < sizeLine):DPut H a (kV k) v (upd H a (.dK (putK kvs k v))):=.inl ⟨kvs,k,e,rfl,hl,rfl⟩
section
variable {X:Cx} {pins:List (Addr×Obj)} {σ:St} {H:Hp} {s:Shared} {a:Addr} {y v:V} {u r:Value} {o:Option V} {A:Around} {E:Value→Shared→Prop}
theorem Inv.big (I:Inv X pins σ H s):sysModules < s.heap.objs.size:=by
  have h:mainGlobals < s.heap.objs.size:=(I.mod.glob.keeps I.bk).lt
  exact Nat.lt_trans (by decide) h
theorem j0l {Q:Value→Shared→Prop} (hu:A.units + 1 < cLine) (I:Inv X pins σ H s) (g:DGet H a y (some v)) (ry:RelV y u) (h:∀ w' s',Inv X pins σ H s'→RelV v w'→Q w' s') :
    wpAny (model X.prog X.w) A (getItem (.ref a) u) Q E s:=by
  rcases g with ⟨kvs,k,e,ey,l⟩ | ⟨kvs,k,b,e,ey,eb,l⟩
  · subst ey
    obtain ⟨z,hd,vs,rel,dd⟩:=u0f I.hok e
    obtain ⟨w',hw,rw'⟩:=RelO.some_of (v:=v) (o:=valueAt vs k) (by rw [l]; exact rel.val k)
    exact wpAny_getItem_of (j0n ry) dd.mapOf hw (h w' _ (I.tok _) rw')
  · subst ey
    cases (show u=Value.ref b from ry)
    obtain ⟨z,hd,xs,rel,dd⟩:=j0m I.hok e
    obtain ⟨w',hw,rw'⟩:=RelO.some_of (v:=v) (o:=(atKey xs k).map (·.2)) (by rw [l]; exact rel.val k)
    obtain ⟨p,hp,hp2⟩:=Option.map_eq_some_iff.mp hw
    refine wpAny_getItem_heap (tupleKind_room_in1 hu) (m0v I.hok eb) dd hp ?_
    rw [hp2]
    exact h w' _ (I.tok _) rw'
theorem s0s {h':Heap} {t':Nat} {ob:HO} (I:Inv X pins σ H s) (mu:Mut (H a)) (hs:Heap.SameBut a s.heap h') (he:∃ q,h'.get? a=some q) (new:ObjOk X.prog X.w (upd H a ob) h' a ob) :
    Inv X pins σ (upd H a ob) { s with heap:=h',toks:=t' } :=
  I.write (x:=a) (e:=a) mu (.inl rfl) (fun b q hb z=>(hs.2 b hb).trans z) he new
theorem d0i {P:Program} {w:World} {H':Hp} {h':Heap} {kvs:List (Key×V)} {vs:List (Key×Value)} (z:kvs.length≤sizeLine) (hd:(a == sysModules)=false) (rel:KV kvs vs) (dd:h'.DictOf (v4 P w) a vs) :
    ObjOk P w H' h' a (.dK kvs):=⟨z,hd,vs,rel,dd⟩
theorem j0k {H':Hp} {Q:Unit→Shared→Prop} (hu:A.units + 1 < cLine) (I:Inv X pins σ H s) (g:DPut H a y v H') (ry:RelV y u) (rv:RelV v r) (h:∀ s',Inv X pins σ H' s'→Q () s') :
    wpAny (model X.prog X.w) A (setItem (.ref a) u r) Q E s:=by
  rcases g with ⟨kvs,k,e,ey,l,eH⟩ | ⟨kvs,k,b,e,ey,eb,l,eH⟩
  · subst ey eH
    obtain ⟨z,hd,vs,rel,dd⟩:=dk_of I.hok e
    have hz:vs.length≤sizeLine:=by rw [← rel.length]; exact z
    have hl:(putK kvs k v).length≤sizeLine:=by have:=y0o kvs k v; omega
    refine wpAny_setItem_pairs (hsz:=hz) (j0n ry) dd fun h' dd' hs=>h _ ?_
    have he:∃ q,h'.get? a=some q:=let ⟨q,_,_,hq,_⟩:=dd'; ⟨q,hq⟩
    exact s0s I (by rw [e]; exact True.intro) hs he (d0i hl hd (rel.put k rv) dd')
  · subst ey eH
    cases (show u=Value.ref b from ry)
    obtain ⟨z,hd,xs,rel,dd⟩:=dt_of I.hok e
    have hz:xs.length≤sizeLine:=by rw [← Paired.length rel]; exact z
    have hl:(putK kvs k v).length≤sizeLine:=by have:=y0o kvs k v; omega
    refine wpAny_setItem_heap (hsz:=hz) (tupleKind_room_in1 hu) (m0v I.hok eb) dd fun h' dd' hs=>h _ ?_
    obtain ⟨q,es,ep,hq,h2,h3,h4,_,h5⟩:=dd'
    refine s0s I (by rw [e]; exact True.intro) hs ⟨q,hq⟩ ⟨hl,hd,_,(rel.put k eb rv).keeps fun c ys ec=>?_,q,es,ep,hq,h2,h3,h4,h5⟩
    rw [y0 (ne_of ec e (fun z=>nomatch z))]
    exact ec
end
section
variable {X:Cx} {pins:List (Addr×Obj)} {σ:St} {H:Hp} {s:Shared} {a:Addr} {kvs:List (Key×V)} {k:Key} {u:Value} {A:Around} {E:Value→Shared→Prop}
theorem d_len {Q:Value→Shared→Prop} (I:Inv X pins σ H s) (e:Rd H a (.dK kvs)) (h:∀ t s',Inv X pins σ H s'→Q (.int kvs.length t) s'):wpAny (model X.prog X.w) A (call (.builtin "len") [.ref a]) Q E s:=by
  obtain ⟨z,hd,vs,rel,dd⟩:=u0f I.hok e
  refine call_len_dict hd dd (by rw [← rel.length]; rw [sizeLine_eq] at z; omega) ?_
  rw [← rel.length]
  exact h _ _ (I.tok _)
end
noncomputable def NoSl (i:Expr):Prop:=∀ ov iv,subscripted i false ov iv=operate [ov,iv] (getItem ov iv)
theorem b0c {prog:Program} {w:World} {A:Around} {E:Value→Shared→Prop} {s:Shared} {env:Env} {value slice:Expr} {pos:Pos} {T id:String} {Q:Value→Shared→Prop}
    (hl:typeLookup (.type T) "__getitem__" = pure (some (.builtin id))) (hs:NoSl slice)
    (h:wpAny (model prog w) A (eval value env) (fun o s₁=>wpAny (model prog w) A (eval slice env) (fun i s₂=>s₂.TypeIs o T∧wpAny (model prog w) A (getItem o i) Q E s₂) E s₁) E s) :
    wpAny (model prog w) A (eval (.Subscript value slice pos) env) Q E s:=by
  refine Subscript_ (wpAny_mono h (fun o s₁ h₁=>wpAny_mono h₁ (fun i s₂ h₂=>?_) fun _ _ x=>x) fun _ _ x=>x)
  obtain ⟨hT,h₂⟩:=h₂
  unfold subscriptTail
  refine wpAny_bind ?_
  rw [getitemInPython_of_ne hT.not_modules]
  refine wpAny_bind (wpAny_specialOf hT hl ?_)
  have fin:wpAny (model prog w) A (subscripted slice false o i) (fun r s₃=>wpAny (model prog w) A (letTemporaryGo value o r >>= fun _=>pure r) Q E s₃) E s₂:=by
    rw [hs o i]
    exact wpAny_operating (wpAny_mono h₂ (fun r s₃ h₃=>wpAny_bind (wpAny_letTemporaryGo (wpAny_pure h₃))) fun _ _ x=>x)
  first
    | exact wpAny_pure (wpAny_bind fin)
    | exact wpAny_bind (wpAny_pure (wpAny_bind fin))
    | exact wpAny_bind fin
theorem o0w {X:Cx} {pins:List (Addr×Obj)} {σ:St} {H:Hp} {s:Shared} {a:Addr} {y:V} {o:Option V} (I:Inv X pins σ H s) (g:DGet H a y o):s.TypeIs (.ref a) "dict" := by
  rcases g with ⟨kvs,k,e,_,_⟩ | ⟨kvs,k,b,e,_,_,_⟩
  · obtain ⟨_,_,vs,_,dd⟩:=u0f I.hok e
    exact dd.typeIs
  · obtain ⟨_,_,xs,_,dd⟩:=j0m I.hok e
    exact dd.typeIs
noncomputable def tDGet (td ty:TE):TE:=fun σ H Q=>td σ H fun x H1=>ty σ H1 fun y H2=>∃ a v,x=.ref a∧DGet H2 a y (some v)∧Q v H2
noncomputable def sDPut (td ty tv:TE):TS:=fun D σ H=>tv σ H fun v H1=>td σ H1 fun x H2=>ty σ H2 fun y H3=>∃ a H4,x=.ref a∧DPut H3 a y v H4∧D.nx σ H4
section
variable {X:Cx} {o i e value:Expr} {pos pos' tpos:Pos} {td ty tv:TE}
theorem b0b (hu:X.A.units + 1 < cLine) (ho:PE X o td) (hi:PE X i ty) (hs:NoSl i):PE X (.Subscript o i pos) (tDGet td ty):=by
  intro pins s σ H Q I h
  refine b0c PySem.F.slot_dict_getitem.lookup hs (thn (ho pins s σ H _ I h) fun u s1 ⟨x,H1,I1,rx,q1⟩=>thn (hi pins s1 σ H1 _ I1 q1) fun iv s2 ⟨y,H2,I2,ry,a,v,ex,g,q2⟩=>?_)
  subst ex
  obtain rfl:u=Value.ref a:=rx
  exact ⟨o0w I2 g,j0l hu I2 g ry fun w' s3 I3 rw'=>⟨v,H2,I3,rw',q2⟩⟩
theorem b0a (hu:X.A.units + 1 < cLine) (ho:PE X o td) (hi:PE X i ty) (hv:PE X value tv) (hs:swapsWith value (some (.Subscript o i pos')) pos.line X.env=pure false) :
    PS X (.Assign [.Subscript o i pos'] value pos) (sDPut td ty tv):=by
  intro pins s σ H D I h
  refine wpAny_Assign_Subscript (thn (hv pins s σ H _ I h) fun r s1 ⟨v,H1,I1,rv,q1⟩=>thn (ho pins s1 σ H1 _ I1 q1) fun u s2 ⟨x,H2,I2,rx,q2⟩=>thn (hi pins s2 σ H2 _ I2 q2) fun iv s3 ⟨y,H3,I3,ry,a,H4,ex,g,q3⟩=>?_) hs
  subst ex
  obtain rfl:u=Value.ref a:=rx
  exact j0k hu I3 g ry rv fun s4 I4=>⟨σ,H4,I4,q3⟩
end
theorem m0u {P:Program} {w:World} {H:Hp} (h:Heap) (hb:sysModules < h.objs.size):ObjOk P w H (h.push { cls:=.type "dict",data:=.dict #[] }) h.objs.size (.dK []) :=
  ⟨Nat.zero_le _,beq_eq_false_iff_ne.mpr (Ne.symm (Nat.ne_of_lt hb)),[],.nil,Heap.DictOf.new h⟩
noncomputable def tDNewK:TE:=fun _ H Q=>∀ p,H p=none→Q (.ref p) (upd H p (.dK []))
section
variable {X:Cx} {pos:Pos}
theorem m0t:PE X (.Dict [] [] pos) tDNewK:=fun pins s σ H Q I h =>
  wpAny_Dict_empty ⟨.ref s.heap.objs.size,_,I.laid (a:=s.heap.objs.size) (o:=.dK []) (t':=s.toks) (fun _ _ q=>Heap.get?_push_of_some _ q) (Nat.le_refl _) (m0u s.heap I.big),rfl,h _ (I.hok.fresh (Nat.le_refl _))⟩
end
noncomputable def j0j:List (TE×TE)→St→Hp→(List (V×V)→Hp→Prop)→Prop
  | [],_,H,Q=>Q [] H
  | (tk,tv) :: r,σ,H,Q=>tk σ H fun x H1=>tv σ H1 fun y H2=>j0j r σ H2 fun ps H3=>Q ((x,y) :: ps) H3
noncomputable abbrev VV:List (V×V)→List (Value×Value)→Prop:=Paired fun p q=>RelV p.1 q.1∧RelV p.2 q.2
noncomputable def PPs (X:Cx) (pos:Pos) (keys:List (Option Expr)) (values:List Expr) (trs:List (TE×TE)):Prop :=
  ∀ (pins:List (Addr×Obj)) (s:Shared) (σ:St) (H:Hp) (Q:List (V×V)→Hp→Prop),Inv X pins σ H s→j0j trs σ H Q →
    wpAny (model X.prog X.w) X.A (evalPairs (pairTrees keys values X.env pos)) (fun vs s'=>∃ ps H',Inv X pins σ H' s'∧VV ps vs∧Q ps H') X.xe s
theorem a0z {X:Cx} {pos:Pos}:PPs X pos [] [] []:=fun pins s σ H Q I h=>pairTrees_nil_walk ⟨[],H,I,.nil,h⟩
theorem f0s {X:Cx} {pos:Pos} {k v:Expr} {ks:List (Option Expr)} {vs:List Expr} {tk tv:TE} {trs:List (TE×TE)} (hk:PE X k tk) (hv:PE X v tv) (hr:PPs X pos ks vs trs) :
    PPs X pos (some k :: ks) (v :: vs) ((tk,tv) :: trs):=fun pins s σ H Q I h =>
  pairTrees_cons_walk (thn (hk pins s σ H _ I h) fun u s1 ⟨x,H1,I1,rx,q1⟩=>thn (hv pins s1 σ H1 _ I1 q1) fun w2 s2 ⟨y,H2,I2,ry,q2⟩ =>
    thn (hr pins s2 σ H2 _ I2 q2) fun ws s3 ⟨ps,H3,I3,rel,q3⟩=>⟨(x,y) :: ps,H3,I3,.cons ⟨rx,ry⟩ rel,q3⟩)
noncomputable def r0b (kvs more:List (Key×V)):List (Key×V):=more.foldl (fun acc kv=>putK acc kv.1 kv.2) kvs
theorem KV.merge:∀ {more:List (Key×V)} {rs:List (Key×Value)} {kvs:List (Key×V)} {vs:List (Key×Value)},KV more rs→KV kvs vs→KV (r0b kvs more) (merged vs rs):=by
  intro more rs kvs vs r
  unfold KV at r
  induction r generalizing kvs vs with
  | nil=>intro q; exact q
  | @cons p q ps qs h t ih =>
    intro r0
    have e:KV (putK kvs p.1 p.2) (stored vs q.1 q.2):=by
      have:=r0.put p.1 h.2
      rw [← h.1]; exact this
    exact ih e
theorem x0s:∀ (more kvs:List (Key×V)),(r0b kvs more).length≤kvs.length + more.length
  | [],kvs=>by show kvs.length≤kvs.length + 0; omega
  | p :: r,kvs=>by
    have h1:=x0s r (putK kvs p.1 p.2)
    have h2:=y0o kvs p.1 p.2
    show (r0b (putK kvs p.1 p.2) r).length≤_
    rw [List.length_cons]; omega
theorem t0m {P:Program} {w:World}:∀ {kvs:List (Key×V)} {ws:List (Value×Value)},VV (kvs.map fun kv=>(kV kv.1,kv.2)) ws→∃ rs,Carries (v4 P w) ws rs∧KV kvs rs
  | [],_,r=>by rw [List.map_nil] at r; cases r; exact ⟨[],True.intro,.nil⟩
  | p :: kvs,_,r=>by
    rw [List.map_cons] at r
    cases r with
    | @cons a b as bs h t =>
      obtain ⟨rs,c,q⟩:=t0m (P:=P) (w:=w) t
      obtain ⟨b1,b2⟩:=b
      exact ⟨(p.1,b2) :: rs,⟨j0n h.1,rfl,c⟩,.cons ⟨rfl,h.2⟩ q⟩
noncomputable def tDisp (trs:List (TE×TE)):TE:=fun σ H Q=>∀ p,H p=none→j0j trs σ (upd H p (.dK [])) fun ps H2=>H2 p=some (.dK [])∧∃ kvs:List (Key×V),ps=kvs.map (fun kv=>(kV kv.1,kv.2))∧kvs.length≤15∧Q (.ref p) (upd H2 p (.dK (r0b [] kvs)))
theorem a0y {X:Cx} {pos:Pos} {keys:List (Option Expr)} {values:List Expr} {trs:List (TE×TE)} (h:PPs X pos keys values trs) (hall:keys.all (·.isSome)=true) (hl:keys.length=values.length) (h0:keys≠[])
    (h15:keys.length≤15):PE X (.Dict keys values pos) (tDisp trs):=by
  intro pins s σ H Q I q
  have hn:=I.hok.fresh (Nat.le_refl s.heap.objs.size)
  have I1:=I.laid (a:=s.heap.objs.size) (o:=.dK []) (h':=s.heap.push { cls:=.type "dict",data:=.dict #[] }) (t':=s.toks) (fun _ _ q=>Heap.get?_push_of_some _ q) (Nat.le_refl _) (m0u s.heap I.big)
  refine wpAny_Dict_walk (knd:=v4 X.prog X.w) hall hl h0 h15 (thn (h pins _ σ _ _ I1 (q _ hn)) fun ws s2 ⟨ps,H2,I2,rel,e,kvs,ep,lk,q2⟩=>?_)
  subst ep
  obtain ⟨rs,c,rk⟩:=t0m (P:=X.prog) (w:=X.w) rel
  obtain ⟨z,hd,vs0,r0,dd⟩:=dk_of I2.hok e
  cases r0
  refine ⟨rs,c,dd,fun h' dd' hs=>⟨.ref s.heap.objs.size,_,?_,rfl,q2⟩⟩
  have hz:(r0b [] kvs).length≤sizeLine:=by
    have h1:=x0s kvs []
    rw [List.length_nil] at h1
    rw [sizeLine_eq]; omega
  have he:∃ q,h'.get? s.heap.objs.size=some q:=let ⟨q,_,_,hq,_⟩:=dd'; ⟨q,hq⟩
  exact s0s I2 (by rw [e]; exact True.intro) hs he (d0i hz hd (rk.merge .nil) dd')
structure M1 (X:Cx) (o:Expr) (m:Str) (apos:Pos) (e:Expr) (cpos:Pos):Prop where
  base:attributeBase o m X.env (eval o X.env)=eval o X.env
  few:((backTo cpos (starEach [e] X.env)).all (fun x=>!x.1) && (backToKw cpos (keywordEach [] X.env)).all (fun x=>x.1.isSome)
    && decide (([e]:List Expr).length + ([]:List Keyword).length + (if ([]:List Keyword).isEmpty then 0 else 1) < 30))=true
  line:(apos.endLine == cpos.line)=true
  trees:backTo cpos (starEach [e] X.env)=[(false,eval e X.env)]
structure M2 (X:Cx) (o:Expr) (m:Str) (apos:Pos) (e f:Expr) (cpos:Pos):Prop where
  base:attributeBase o m X.env (eval o X.env)=eval o X.env
  few:((backTo cpos (starEach [e,f] X.env)).all (fun x=>!x.1) && (backToKw cpos (keywordEach [] X.env)).all (fun x=>x.1.isSome)
    && decide (([e,f]:List Expr).length + ([]:List Keyword).length + (if ([]:List Keyword).isEmpty then 0 else 1) < 30))=true
  line:(apos.endLine == cpos.line)=true
  trees:backTo cpos (starEach [e,f] X.env)=[(false,eval e X.env),(false,eval f X.env)]
noncomputable def IsD (H:Hp) (a:Addr):Prop:=(∃ kvs,Rd H a (.dK kvs))∨∃ kvs,Rd H a (.dT kvs)
theorem r0a {X:Cx} {pins:List (Addr×Obj)} {σ:St} {H:Hp} {s:Shared} {a:Addr} (I:Inv X pins σ H s) (d:IsD H a) :
    s.TypeIs (.ref a) "dict" ∧ (∀ b,Value.ref a=.ref b→∃ ob,s.heap.get? b=some ob∧ob.dict=none)∧(a == sysModules)=false:=by
  rcases d with ⟨kvs,e⟩ | ⟨kvs,e⟩
  · obtain ⟨_,hd,vs,_,dd⟩:=u0f I.hok e
    refine ⟨dd.typeIs,fun b q=>?_,hd⟩
    cases q
    obtain ⟨ob,_,_,h1,h2,_⟩:=dd
    exact ⟨ob,h1,h2.2.1⟩
  · obtain ⟨_,hd,xs,_,dd⟩:=j0m I.hok e
    refine ⟨dd.typeIs,fun b q=>?_,hd⟩
    cases q
    obtain ⟨ob,_,_,h1,h2,_⟩:=dd
    exact ⟨ob,h1,h2.2.1⟩
section
variable {X:Cx} {pins:List (Addr×Obj)} {σ:St} {H:Hp} {s:Shared} {a:Addr} {y d:V} {u r:Value} {o:Option V} {A:Around} {E:Value→Shared→Prop}
theorem d_get2 {Q:Value→Shared→Prop} (hu:A.units + 1 < cLine) (I:Inv X pins σ H s) (g:DGet H a y o) (ry:RelV y u) (rd:RelV d r) (h:∀ w' s',Inv X pins σ H s'→RelV (o.getD d) w'→Q w' s') :
    wpAny (model X.prog X.w) A (call (.builtin "dict.get") [.ref a,u,r]) Q E s:=by
  rcases g with ⟨kvs,k,e,ey,l⟩ | ⟨kvs,k,b,e,ey,eb,l⟩
  · subst ey
    obtain ⟨z,hd,vs,rel,dd⟩:=u0f I.hok e
    refine call_meetsIn PySem.F.slot_dict_get dd.typeIs PySem.F.entry_dict_get (PySem.F.args_dict_get_3 _ _ _) (meets_dict_get_default (v4 X.prog X.w) a (j0n ry) hd r) ⟨_,dd.mapOf,h _ _ (I.tok _) ?_⟩
    rw [l]
    exact (rel.val k).getD rd
  · subst ey
    cases (show u=Value.ref b from ry)
    obtain ⟨z,hd,xs,rel,dd⟩:=j0m I.hok e
    refine call_meetsIn PySem.F.slot_dict_get dd.typeIs PySem.F.entry_dict_get (PySem.F.args_dict_get_3 _ _ _) (meetsH_dict_get_default (tupleKind (v4 X.prog X.w)) a b hd r) ⟨tupleKind_room_in1 hu,k,xs,m0v I.hok eb,dd,h _ _ (I.tok _) ?_⟩
    rw [l]
    exact (rel.val k).getD rd
end
noncomputable def tDGet2 (td ty tx:TE):TE:=fun σ H Q=>td σ H fun x H1=>∃ a,x=.ref a∧IsD H1 a∧ty σ H1 fun y H2=>tx σ H2 fun z H3=>∃ o,DGet H3 a y o∧Q (o.getD z) H3
section
variable {X:Cx} {o e f:Expr} {apos cpos:Pos} {td ty tx:TE}
theorem f0r (hu:X.A.units + 1 < cLine) (ho:PE X o td) (he:PE X e ty) (hf:PE X f tx) (m:M2 X o "get" apos e f cpos):PE X (.Call (.Attribute o "get" apos) [e,f] [] cpos) (tDGet2 td ty tx):=by
  intro pins s σ H Q I h
  refine wpAny_Call_method m.base m.few m.line PySem.F.plainAttrs_dict PySem.F.slot_dict_get PySem.F.type_dict_get (thn (ho pins s σ H _ I h) fun u s1 ⟨x,H1,I1,rx,a,ex,d,q1⟩=>?_)
  subst ex
  obtain rfl:u=Value.ref a:=rx
  obtain ⟨t1,t2,_⟩:=r0a I1 d
  refine ⟨t1,t2,?_⟩
  rw [m.trees]
  refine Calls.callWith_builtin rfl (Calls.evalArgs_plain (Calls.spliced_cons (thn (he pins s1 σ H1 _ I1 q1) fun iv s2 ⟨y,H2,I2,ry,q2⟩ =>
    Calls.spliced_cons (thn (hf pins s2 σ H2 _ I2 q2) fun fv s3 ⟨z,H3,I3,rz,ov,g,q3⟩=>Calls.spliced_nil ?_))))
  exact d_get2 hu I3 g ry rz fun w' s4 I4 rw'=>⟨_,H3,I4,rw',q3⟩
end
section
variable {X:Cx} {pins:List (Addr×Obj)} {σ:St} {H:Hp} {s:Shared} {a:Addr} {kvs:List (Key×V)} {A:Around} {E:Value→Shared→Prop}
end
section
variable {X:Cx} {pins:List (Addr×Obj)} {σ:St} {H:Hp} {s:Shared} {a:Addr} {y:V} {u:Value} {A:Around} {E:Value→Shared→Prop}
end
end L2
set_option maxHeartbeats 4000000
namespace PySem.W
open PySem PySem.Calls PyProof.Rows Builtin Builtin.ObjectAttr Builtin.Getset_descriptor
section
variable {prog:Program} {w:World} {A:Around} {E:Value→Shared→Prop} {R:Result→Shared→Prop} {h:Heap} {g:Array GenState} {d:Drawn} {t:Nat} {os:OsState}
variable {nm q:Str} {C N:Addr} {bs bm bmB:List Value} {hdct:Bool} {sn:List Str} {sub:List Value} {ab:Bool} {col:Option Bool} {dd:Option Addr} {k0 k1 k2 k3 k5:Option Value} {B newId initId:String}
noncomputable abbrev xObj (C t:Addr):Obj:={ cls:=.ref C,data:=.fields #[.ref t,.none,.none,.none,.bool false,.none] }
noncomputable abbrev xTup (rest:List Value):Obj:={ cls:=.type "tuple",data:=.seq rest.toArray }
theorem type_call_x (F:ExcBaseFacts B newId initId bmB) (T:OwnTail h bmB bm) {rest:List Value} {f:Addr}
    (hC:h.get? C=some (excClassObj nm q C N bs bm hdct sn sub ab col dd k0 k1 k2 k3 k5 newId))
    (hi:Looks (model prog w) h (typeLookup (.ref C) "__init__") (some (.ref f))) (hb:∀ self,Looks (model prog w) h (bindSpecial (.ref f) self) (.ref f,[self]))
    (hq:codeAny (model prog w) (A.under (.builtin "type.__call__" ⟨.ref C :: rest,[]⟩)) (.call (.ref f) ⟨.ref (h.objs.size + 1) :: rest,[]⟩) (InitBack (h.objs.size + 1) R) ⟨(h.push (xTup rest)).push (xObj C h.objs.size),g,d,t,os⟩)
    (hrest:rest.length≤sizeLine) :
    codeAny (model prog w) A (.call (.ref C) ⟨rest,[]⟩) R ⟨h,g,d,t,os⟩:=by
  have f1:=tc_lookup
  have f2:=tc_bind (.ref C)
  have hT:(⟨h,g,d,t,os⟩:Shared).TypeIs (.ref C) "type" := ⟨_,hC,rfl⟩
  refine codeAny_of_tree ?_
  show wpAny _ _ (callAny (.ref C) _) _ _ _
  repeat (any_goals (first | assumption | with_reducible refine wpAny_loadPart_at hC ?_ | wp_step))
  refine ⟨rfl,?_⟩
  refine codeAny_call_builtin_at (Code.quiet_builtin _ (by decide +kernel)) entry_typeCall (wpAny_check_type_call_sub hC ?_)
  repeat (first | with_reducible refine wpAny_loadPart_at hC ?_ | with_reducible refine wpAny_madeBy_exc hC ?_ | wp_step)
  refine codeAny_call_builtin_code (Code.quiet_builtin _ F.quiet) (wpAny_check_new_subT F T hC ?_)
  refine codeAny_exc_new_subT F T hC ?_ hrest
  show wpAny _ _ _ _ _ _
  have k:∀ b o,h.get? b=some o→((h.push (xTup rest)).push (xObj C h.objs.size)).get? b=some o:=fun b o e=>Heap.get?_push_of_some _ (Heap.get?_push_of_some _ e)
  have hC₁:=k _ _ hC
  have hget:((h.push (xTup rest)).push (xObj C h.objs.size)).get? (h.objs.size + 1)=some (xObj C h.objs.size):=by heap_get
  have hcC:(Value.ref C :: bm).contains (.ref C)=true:=by simp
  have i1:=hi.keeps k
  have b1:=(hb (.ref (h.objs.size + 1))).keeps k
  unfold isInstance
  repeat (first | with_reducible refine wpAny_loadPart_at hget ?_ | (with_reducible refine wpAny_isSubtype_exc hC₁ ?_; rw [hcC]) | wp_step)
  refine wpAny_isSubtype_exc hC₁ ?_
  rw [hcC]
  have t1:Looks (model prog w) ((h.push (xTup rest)).push (xObj C h.objs.size)) (typeOf (.ref (h.objs.size + 1))) (.ref C):=(Looks.ld hget).andThen .now
  unfold callSpecial? specialOf
  simp only [Bool.not_true,Bool.false_eq_true,if_false]
  refine wpAny_bind (wpAny_holding (wpAny_bind (wpAny_bind (t1.at (i1.at ?_)))))
  dsimp only
  refine wpAny_holding (wpAny_bind (b1.at (wpAny_bind (wpAny_call (codeAny_mono hq fun r s' z=>?_)))))
  rcases r with e | (v | _ | _ | _) <;> first | exact z | exact z.elim | skip
  obtain ⟨rfl,z⟩:=z
  exact wpAny_pure (wpAny_pure z)
theorem type_call_x0 (F:ExcBaseFacts B newId initId bmB) (T:OwnTail h bmB bm) {mN:Str→Option Value} {Q:Value→Shared→Prop}
    (hC:h.get? C=some (excClassObj nm q C N bs bm hdct sn sub ab col dd k0 k1 k2 k3 k5 newId)) (hn:h.Ns N mN) (hni:mN "__init__" = none)
    (hq:∀ h' t2,(∀ b o,h.get? b=some o→h'.get? b=some o)→h'.get? (h.objs.size + 1)=some (xObj C t2)→Q (.ref (h.objs.size + 1)) ⟨h',g,d,t,os⟩) :
    wpAny (model prog w) A (call (.ref C) []) Q E ⟨h,g,d,t,os⟩:=by
  have f1:=tc_lookup
  have f2:=tc_bind (.ref C)
  have hT:(⟨h,g,d,t,os⟩:Shared).TypeIs (.ref C) "type" := ⟨_,hC,rfl⟩
  refine wpAny_call (codeAny_of_tree ?_)
  show wpAny _ _ (callAny (.ref C) _) _ _ _
  repeat (any_goals (first | assumption | with_reducible refine wpAny_loadPart_at hC ?_ | wp_step))
  refine ⟨rfl,?_⟩
  refine codeAny_call_builtin_at (Code.quiet_builtin _ (by decide +kernel)) entry_typeCall (wpAny_check_type_call_sub hC ?_)
  repeat (first | with_reducible refine wpAny_loadPart_at hC ?_ | with_reducible refine wpAny_madeBy_exc hC ?_ | wp_step)
  refine codeAny_call_builtin_code (Code.quiet_builtin _ F.quiet) (wpAny_check_new_subT F T hC ?_)
  refine codeAny_exc_new_subT F T hC ?_ (by decide)
  show wpAny _ _ _ _ _ _
  have k:∀ b o,h.get? b=some o→((h.push (xTup [])).push (xObj C h.objs.size)).get? b=some o:=fun b o e=>Heap.get?_push_of_some _ (Heap.get?_push_of_some _ e)
  have hC₁:=k _ _ hC
  have hn₁:((h.push (xTup [])).push (xObj C h.objs.size)).Ns N mN:=let ⟨o,es,ep,e,r⟩:=hn; ⟨o,es,ep,k _ _ e,r⟩
  have hget:((h.push (xTup [])).push (xObj C h.objs.size)).get? (h.objs.size + 1)=some (xObj C h.objs.size):=by heap_get
  have hcC:(Value.ref C :: bm).contains (.ref C)=true:=by simp
  have T₁:=T.keeps k
  unfold isInstance
  repeat (first | with_reducible refine wpAny_loadPart_at hget ?_ | (with_reducible refine wpAny_isSubtype_exc hC₁ ?_; rw [hcC]) | wp_step)
  refine wpAny_isSubtype_exc hC₁ ?_
  rw [hcC]
  have t1:Looks (model prog w) ((h.push (xTup [])).push (xObj C h.objs.size)) (typeOf (.ref (h.objs.size + 1))) (.ref C):=(Looks.ld hget).andThen .now
  unfold callSpecial? specialOf
  simp only [Bool.not_true,Bool.false_eq_true,if_false]
  refine wpAny_bind (wpAny_holding (wpAny_bind (wpAny_bind (t1.at (wpAny_typeLookup_tail hC₁ hn₁ T₁ F.mroIs F.init.lookup ?_)))))
  rw [hni]
  dsimp only
  refine wpAny_holding (wpAny_bind (wpAny_of_eq (F.init.bind _) ?_))
  refine wpAny_bind (wpAny_call (codeAny_call_builtin F.init.plain F.initEntry (wpAny_check_init_subT F T₁ hC₁ hget rfl ?_)))
  wp_walk
  refine hq _ (h.objs.size + 2) (fun b o hb=>?_) ?_
  · rw [Heap.get?_update_other _ _ (Nat.ne_of_gt (Nat.lt_succ_of_lt (Heap.lt_size hb)))]
    exact Heap.get?_push_of_some _ (k b o hb)
  · rw [Heap.get?_update_self _ (Heap.get?_push_of_some _ hget) rfl]
    simp only [Heap.size_push]
    rfl
end
end PySem.W
namespace PySem.W
open PySem PySem.Calls PyProof.Rows Builtin Builtin.ObjectAttr Builtin.Getset_descriptor
noncomputable abbrev veMro:List Value:=[.type "ValueError",.type "Exception",.type "BaseException",.type "object"]
noncomputable def m0s:List Value→Bool
  | .ref _ :: r=>m0s r
  | l=>l == veMro
theorem q0z (self:Value):∀ {l:List Value},m0s l=true→refuseLoop self "__setattr__" l=pure ()
  | .ref c :: r,e=>by rw [refuseLoop_ref]; exact q0z self (l:=r) e
  | [],e=>by cases e
  | .type n :: r,e=>by
    have e':(Value.type n :: r)=veMro:=beq_iff_eq.mp e
    rw [e']; exact PySem.F.store_ValueError.passes self
  | .none :: r,e=>by cases (beq_iff_eq.mp e:(Value.none :: r)=veMro)
  | .bool _ :: r,e=>by cases (beq_iff_eq.mp e:(Value.bool _ :: r)=veMro)
  | .int _ _ :: r,e=>by cases (beq_iff_eq.mp e:(Value.int _ _ :: r)=veMro)
  | .str _ _ :: r,e=>by cases (beq_iff_eq.mp e:(Value.str _ _ :: r)=veMro)
  | .bytes _ _ :: r,e=>by cases (beq_iff_eq.mp e:(Value.bytes _ _ :: r)=veMro)
  | .float _ _ :: r,e=>by cases (beq_iff_eq.mp e:(Value.float _ _ :: r)=veMro)
  | .builtin _ :: r,e=>by cases (beq_iff_eq.mp e:(Value.builtin _ :: r)=veMro)
  | .notImplemented :: r,e=>by cases (beq_iff_eq.mp e:(Value.notImplemented :: r)=veMro)
  | .ellipsis :: r,e=>by cases (beq_iff_eq.mp e:(Value.ellipsis :: r)=veMro)
theorem d0h:∀ {l:List Value} {b:Value},m0s l=true→veMro.contains b=true→l.contains b=true
  | .ref c :: r,b,e,q=>by rw [List.contains_cons,d0h (l:=r) e q,Bool.or_true]
  | [],b,e,q=>by cases e
  | .type n :: r,b,e,q=>by rw [(beq_iff_eq.mp e:(Value.type n :: r)=veMro)]; exact q
  | .none :: r,_,e,_=>by cases (beq_iff_eq.mp e:(Value.none :: r)=veMro)
  | .bool _ :: r,_,e,_=>by cases (beq_iff_eq.mp e:(Value.bool _ :: r)=veMro)
  | .int _ _ :: r,_,e,_=>by cases (beq_iff_eq.mp e:(Value.int _ _ :: r)=veMro)
  | .str _ _ :: r,_,e,_=>by cases (beq_iff_eq.mp e:(Value.str _ _ :: r)=veMro)
  | .bytes _ _ :: r,_,e,_=>by cases (beq_iff_eq.mp e:(Value.bytes _ _ :: r)=veMro)
  | .float _ _ :: r,_,e,_=>by cases (beq_iff_eq.mp e:(Value.float _ _ :: r)=veMro)
  | .builtin _ :: r,_,e,_=>by cases (beq_iff_eq.mp e:(Value.builtin _ :: r)=veMro)
  | .notImplemented :: r,_,e,_=>by cases (beq_iff_eq.mp e:(Value.notImplemented :: r)=veMro)
  | .ellipsis :: r,_,e,_=>by cases (beq_iff_eq.mp e:(Value.ellipsis :: r)=veMro)
structure XC (K:Frag) (C:Addr):Prop where
  over:(clsIn K C).any (fun cd=>m0s cd.mro)=true
  sa:findIn K (.ref C) "__setattr__" = some (some (.builtin "object.__setattr__"))
  ga:findIn K (.ref C) "__getattribute__" = some (some (.builtin "BaseException.__getattribute__"))
  gh:findIn K (.ref C) "__getattr__" = some none
  hd:hasDictIn K C=true
  ca:findIn K (.ref C) "__class__" = some (some (.builtin "object.__class__"))
  cg:specialIn K (.builtin "object.__class__") "__get__" = some (some (.builtin "getset_descriptor.__get__"))
  ct:takesIn K (.builtin "object.__class__")=some true
section
variable {prog:Program} {w:World} {A:Around} {E:Value→Shared→Prop} {K:Frag} {C x:Addr} {s:Shared} {R:Result→Shared→Prop}
theorem XC.mro (c:XC K C) {b:Value} (hb:veMro.contains b=true):mroIn K C b=some true:=by
  obtain ⟨cd,hc,ho⟩:=any_some c.over
  have ne:cd.mro.isEmpty=false:=by cases q:cd.mro with | nil=>rw [q] at ho; cases ho | cons _ _=>rfl
  unfold mroIn; rw [hc,Option.bind_some,if_neg (by rw [ne]; decide),d0h ho hb]
theorem osa_x {ox:Obj} {od:Option Obj} {name:Str} {tk:Tok} {v:Value} {r:Option Value} (X:K.In s.heap) (I:InstAt s.heap x ox C od) (c:XC K C) (ht:takerIn K C name=some r)
    (h:∀ b,wpAny (model prog w) A.in1 (match r with | some a=>setByDescriptor a (.ref x) v | none=>storeInOwnDict (.ref x) (.ref C) (.str name tk) name v b)
      (fun fin s'=>match fin with | .done f=>R (.ok f) s' | .again c'=>c'.quiet=true∧codeAny (model prog w) A c' R s') (fun e s'=>R (.error e) s') s) :
    codeAny (model prog w) A (.call (.builtin "object.__setattr__") ⟨[.ref x,.str name tk,v],[]⟩) R s:=by
  have SF:=PySem.F.store_object
  obtain ⟨cd,hc,ho⟩:=any_some c.over
  have sub:Looks (model prog w) s.heap (isInstance (.ref x) (.type "object")) true:=I.type.andThen (looks_mroIn X (c.mro (by decide)))
  refine codeAny_call_builtin SF.slot.plain SF.entry (@check_slot (model prog w) _ _ s "object.__setattr__" "object" "__setattr__" (.ref x) [.str name tk,v] [] _ SF.kind SF.split sub (SF.args (.ref x) (.str name tk) v) ?_)
  obtain ⟨attr,ha,hr⟩:=Option.bind_eq_some_iff.mp ht
  have hm:Looks (model prog w) s.heap (mroOf (.ref C)) cd.mro:=(looks_clsIn X hc).andThen .now
  have L3:Looks (model prog w) s.heap (storeTaker? attr) r:=by
    cases attr with
    | none=>cases hr; exact .now
    | some a =>
      obtain ⟨b,hb,rfl⟩:=Option.map_eq_some_iff.mp hr
      refine (looks_takesIn X hb).andThen ?_
      cases b <;> exact .now
  rw [osa_eq,refuse_eq]
  refine wpAny_bind (wpAny_bind (I.type.here (wpAny_bind (hm.here ?_))))
  rw [q0z _ ho]
  refine wpAny_pure (wpAny_bind (I.type.here (wpAny_bind ((looks_findIn X ha).here (wpAny_bind (L3.here ?_))))))
  exact h _
theorem set_x0 {name:Str} {v:Value} {Q:Unit→Shared→Prop} {vs:Array Value} (X:K.In s.heap) (c:XC K C) (hx:s.heap.get? x=some ⟨.ref C,none,.fields vs,#[]⟩) (ht:takerIn K C name=some none)
    (h:∀ h',h'.get? x=some ⟨.ref C,some s.heap.objs.size,.fields vs,#[]⟩→h'.Ns1 s.heap.objs.size (fun y=>if y=name then some v else none) →
      (∀ b o,b≠x→s.heap.get? b=some o→h'.get? b=some o)→Q () { s with heap:=h',toks:=s.toks + 2 }) :
    wpAny (model prog w) A (setAttr (.ref x) name v) Q E s:=by
  have J:InstAt s.heap x ⟨.ref C,none,.fields vs,#[]⟩ C none:=⟨hx,rfl,rfl,trivial⟩
  refine set_plain X J c.sa (osa_x (s:={ s with toks:=s.toks + 1 }) (r:=none) X J c ht fun b=>?_)
  obtain ⟨cd,hc,hd'⟩:=any_some c.hd
  obtain ⟨hp,g,d,t,os⟩:=s
  refine wpAny_bind (wpAny_pure (wpAny_bind (wpAny_bind (wpAny_loadPart hx (wpAny_bind (Looks.here (s:=⟨hp,g,d,t + 1,os⟩) (looks_clsIn X hc) ?_))))))
  rw [hd']
  have hx₁:(hp.push { cls:=.type "dict",data:=.dict #[] }).get? x=some ⟨.ref C,none,.fields vs,#[]⟩:=Heap.get?_push_of_some _ hx
  have hxs:x≠hp.objs.size:=Nat.ne_of_lt (Heap.lt_size hx)
  show wpAny _ _ (alloc { cls:=.type "dict",data:=.dict #[] } >>= fun d=>update x (fun o=>{ cls:=o.cls,dict:=some d,data:=o.data,slots:=o.slots }) >>= fun _=>dictMade (.ref C) x d) _ _ _
  refine wpAny_bind (wpAny_alloc' ?_)
  refine wpAny_bind (wpAny_update' hx₁ ?_)
  refine wpAny_pure ?_
  have hgd:((hp.push { cls:=.type "dict",data:=.dict #[] }).update x fun o=>{ cls:=o.cls,dict:=some hp.objs.size,data:=o.data,slots:=o.slots }).get? hp.objs.size
      = some { cls:=.type "dict",data:=.dict #[] } :=
    (Heap.get?_update_ne _ _ _ _ hxs.symm).trans (Heap.get?_push_at rfl rfl)
  have hnd:((hp.push { cls:=.type "dict",data:=.dict #[] }).update x fun o=>{ cls:=o.cls,dict:=some hp.objs.size,data:=o.data,slots:=o.slots }).Ns hp.objs.size (fun _=>none) :=
    ⟨_,#[],_,hgd,rfl,fun e he=>absurd he (by simp),fun _=>rfl⟩
  show wpAny _ _ (storeInDict hp.objs.size (.str name t) name v) _ _ _
  unfold storeInDict newKeyGuard
  refine wpAny_bind (wpAny_pure (wpAny_bind (wpAny_nsSet1 (Heap.Ns1.of_empty hnd) fun h' hn' hs=>?_)))
  obtain ⟨oD,esD,epD,hoD,hdD,hcD⟩:=hn'.count (Within.cons name v Within.nil)
  refine wpAny_bind (wpAny_lookBehind hoD (by rw [hdD]; exact pastItsLine_dict (Nat.le_trans hcD (by rw [List.length_cons,List.length_nil,sizeLine_eq]; omega))) ?_)
  refine wpAny_pure (h h' ?_ hn' fun b o hb e=>?_)
  · refine (hs.2 x hxs).trans (Heap.get?_update_self _ hx₁ rfl)
  · exact (hs.2 b (Nat.ne_of_lt (Heap.lt_size e))).trans ((Heap.get?_update_ne _ _ _ _ hb).trans (Heap.get?_push_of_some _ e))
theorem set_x1 {name:Str} {v:Value} {Q:Unit→Shared→Prop} {vs:Array Value} {dx:Addr} {mA:Str→Option Value} {ns:List Str} (X:K.In s.heap) (c:XC K C) (hx:s.heap.get? x=some ⟨.ref C,some dx,.fields vs,#[]⟩) (hne:dx≠x)
    (hn:s.heap.Ns1 dx mA) (ht:takerIn K C name=some none) (hw:PySem.Within mA ns) (hsz:ns.length < sizeLine)
    (h:∀ h',h'.Ns1 dx (fun y=>if y=name then some v else mA y)→Heap.SameBut dx s.heap h'→Q () { s with heap:=h',toks:=s.toks + 2 }) :
    wpAny (model prog w) A (setAttr (.ref x) name v) Q E s:=by
  obtain ⟨od,ho,hl⟩:=L2.lookIn_ns hn
  have J:InstAt s.heap x ⟨.ref C,some dx,.fields vs,#[]⟩ C (some od):=⟨hx,rfl,rfl,ho⟩
  refine set_plain X J c.sa (osa_x (s:={ s with toks:=s.toks + 1 }) (r:=none) X J c ht fun b=>?_)
  obtain ⟨cd,hc,hd'⟩:=any_some c.hd
  refine wpAny_bind (wpAny_pure (wpAny_bind (wpAny_bind (wpAny_loadPart hx (wpAny_bind (Looks.here (s:={ s with toks:=s.toks + 1 }) (looks_clsIn X hc) ?_))))))
  rw [hd']
  refine wpAny_pure (a:=some dx) (wpAny_bind (wpAny_pure (wpAny_bind ?_)))
  refine wpAny_nsSet1 (s:={ s with toks:=s.toks + 1 }) hn fun h' hn2 hs2=>?_
  obtain ⟨oD,esD,epD,hoD,hdD,hcD⟩:=hn2.count (PySem.Within.cons name v hw)
  refine wpAny_bind (wpAny_lookBehind hoD (by rw [hdD]; exact pastItsLine_dict (Nat.le_trans hcD (by rw [List.length_cons]; omega))) ?_)
  exact wpAny_pure (h _ hn2 hs2)
theorem f0q:builtinKind "BaseException.__getattribute__" = some .slot:=by decide +kernel
theorem j0i:splitId "BaseException.__getattribute__" = some ("BaseException","__getattribute__"):=by decide +kernel
theorem bga_slot:Slot "ValueError" "__getattribute__" "BaseException.__getattribute__" :=
  .of (owner := "BaseException") (n := "__getattribute__") (by rw [typeLookup_type,builtinLookup_eq_fast]; kernel_rfl) (by decide +kernel) (by decide +kernel) (by decide +kernel)
    (by first | exact .inl (by decide +kernel) | exact .inr (by decide +kernel)) (by rw [isSubtype_type]; kernel_rfl)
theorem a0x {ox:Obj} {od:Option Obj} {name:Str} {fill expr:Bool} {r:Found} {t:Tok} {Q:Value→Shared→Prop} (X:K.In s.heap) (I:InstAt s.heap x ox C od) (c:XC K C)
    (hf:findObj K C od name=some r)
    (h:wpAny (model prog w) A.in1 (match r with | .value v=>ret v | .bind g a=>bindTo g a (.ref x) (.ref C) | .missing=>unsupported "") (fun fin s'=>∃ v,fin=.done (.ret v)∧wpAny (model prog w) A (handedOut v) Q E s') (fun _ _=>False) s)
    (hr:r≠.missing):wpAny (model prog w) A (getAttrBy (.ref x) (.str name t) fill expr) Q E s:=by
  obtain ⟨hp,g,d,tk,os⟩:=s
  have L0:=I.type (M:=model prog w)
  have L1:=looks_findIn (M:=model prog w) X c.ga
  have LG:=looks_findIn (M:=model prog w) X c.gh
  have L2:=looks_find (M:=model prog w) X I hf
  have hx0:(expr && onTheHeap (Value.builtin "BaseException.__getattribute__"))=false:=by cases expr <;> rfl
  have hx2:(Value.builtin "BaseException.__getattribute__" == Value.builtin "object.__getattribute__")=false:=by decide +kernel
  have hx1:(onTheHeap (Value.ref C) && Value.builtin "BaseException.__getattribute__" == Value.builtin "object.__getattribute__")=false:=by rw [hx2]; rfl
  have sub:Looks (model prog w) hp (isInstance (.ref x) (.type "BaseException")) true:=I.type.andThen (looks_mroIn X (c.mro (by decide)))
  have hbnd:=bga_slot.bind (.ref x)
  unfold getAttrBy
  refine wpAny_holding (wpAny_bind (L0.at (wpAny_bind (L1.at ?_))))
  dsimp only
  rw [if_neg (by rw [hx1]; decide)]
  unfold getAttrByItsOwn hookBefore
  rw [if_pos (show onTheHeap (Value.ref C)=true from rfl)]
  refine wpAny_bind (LG.at (wpAny_bind (wpAny_attempt (wpAny_holding ?_))))
  unfold callGetattribute
  rw [if_neg (by rw [hx0]; decide)]
  unfold boundAndCalled
  rw [hbnd]
  refine wpAny_bind (wpAny_pure ?_)
  refine wpAny_call (codeAny_call_builtin bga_slot.plain F.entry_bexc_ga (@check_slot (model prog w) _ _ ⟨hp,g,d,tk,os⟩ "BaseException.__getattribute__" "BaseException" "__getattribute__" (.ref x) [.str name t] [] _ f0q j0i sub (F.args_bexc_ga (.ref x) (.str name t)) ?_))
  refine wpAny_bind (wpAny_pure (wpAny_bind (wpAny_pure (wpAny_bind (L0.at (wpAny_bind (L2.at ?_)))))))
  cases r with
  | value v =>
    refine wpAny_mono h (fun fin s' z=>?_) fun _ _ z=>z.elim
    obtain ⟨v,rfl,z⟩:=z
    exact z
  | bind g a =>
    refine wpAny_mono h (fun fin s' z=>?_) fun _ _ z=>z.elim
    obtain ⟨v,rfl,z⟩:=z
    exact z
  | missing=>exact absurd rfl hr
theorem cls_x {ox:Obj} {od:Option Obj} {Q:Option Value→Shared→Prop} (X:K.In s.heap) (I:InstAt s.heap x ox C od) (c:XC K C) (h:Q (some (.ref C)) { s with toks:=s.toks + 1 }) :
    wpAny (model prog w) A (getAttr? (.ref x) "__class__") Q E s:=by
  have hf:findObj K C od "__class__" = some (.bind (.builtin "getset_descriptor.__get__") (.builtin "object.__class__")):=by
    obtain ⟨cd,hc,_⟩:=any_some c.hd
    unfold findObj
    rw [hc,Option.bind_some,c.ca,Option.bind_some]
    show ((specialIn K (.builtin "object.__class__") "__get__").bind _)=_
    rw [c.cg,Option.bind_some]
    show ((takesIn K (.builtin "object.__class__")).bind _)=_
    rw [c.ct]
    rfl
  unfold getAttr? getAttrBy?
  refine wpAny_bind (wpAny_mkText (wpAny_bind (wpAny_attempt (a0x (s:={ s with toks:=s.toks + 1 }) X I c hf ?_ (fun q=>by cases q)))))
  show wpAny _ _ (holding [_] (call (.builtin "getset_descriptor.__get__") [.builtin "object.__class__",.ref x,.ref C]) >>= ret) _ _ _
  refine wpAny_bind (wpAny_holding (wpAny_call (class_get (s:={ s with toks:=s.toks + 1 }) X I (c.mro (by decide)) (wpAny_pure ⟨_,rfl,?_⟩))))
  exact handed_on rfl (wpAny_pure h)
theorem kitx_x {ox:Obj} {od:Option Obj} (c:XC K C):KitX K (.ref x) (.ref C) (fun h=>InstAt h x ox C od) where
  ty:=fun _ _ _ I=>I.type
  it:=fun _ _ X _=>by
    obtain ⟨cdD,hcD,_⟩:=any_some c.hd
    unfold clsIn at hcD
    split at hcD
    · rename_i c' d' cd' sl' ho
      intro A' Q' E' s' k q
      unfold isType loadHead
      exact wpAny_bind (wpAny_loadPart (k _ _ (X _ _ ho)) (wpAny_pure q))
    · cases hcD
  ne:=fun h tp dd its n sl X htp=>by
    obtain ⟨cdD,hcD,_⟩:=any_some c.hd
    refine Bool.eq_false_iff.mpr fun q=>?_
    have e:C=tp:=Value.ref.inj (beq_iff_eq.mp q)
    subst e
    unfold clsIn at hcD
    split at hcD
    · rename_i c' d' cd' sl' ho
      have z:=(X _ _ ho).symm.trans htp
      cases z
    · cases hcD
  ca:=fun X I k=>cls_x X I c k
end
end PySem.W
namespace L2
open PySem PySem.Spec PyProof.Rows
open PySem.W (XC)
noncomputable def XO (fr:Bool) (x C:Addr) (od:Option Addr):HO:=.ext fun h=>∃ o vs,h.get? x=some o∧o.cls=.ref C∧o.dict=od∧o.data=.fields vs∧(fr=true→o.slots=#[]∧vs[1]?=some .none)
noncomputable def XD (dx:Addr) (fs:List (Str×V)):HO:=.ext fun h=>∃ mA,h.Ns1 dx mA∧(∀ f,RelO (fs.lookup f) (mA f))∧PySem.Within mA (fs.map (·.1))
theorem XO.ok {P:Program} {w:World} {H:Hp} {h:Heap} {fr:Bool} {x C:Addr} {od:Option Addr} (hx:∃ o vs,h.get? x=some o∧o.cls=.ref C∧o.dict=od∧o.data=.fields vs∧(fr=true→o.slots=#[]∧vs[1]?=some .none)):ObjOk P w H h x (XO fr x C od):=by
  refine ⟨hx,?_,fun h1 h2 q k=>?_⟩
  · obtain ⟨o,_,e,_⟩:=hx
    exact ⟨o,e⟩
  · obtain ⟨o,vs,e,r⟩:=q
    exact ⟨o,vs,k o e,r⟩
theorem XD.ok {P:Program} {w:World} {H:Hp} {h:Heap} {dx:Addr} {fs:List (Str×V)} (hx:∃ mA,h.Ns1 dx mA∧(∀ f,RelO (fs.lookup f) (mA f))∧PySem.Within mA (fs.map (·.1))):ObjOk P w H h dx (XD dx fs):=by
  refine ⟨hx,?_,fun h1 h2 q k=>?_⟩
  · obtain ⟨mA,⟨o,es,ep,e,_⟩,_⟩:=hx
    exact ⟨o,e⟩
  · obtain ⟨mA,⟨o,es,ep,e,r⟩,z⟩:=q
    exact ⟨mA,⟨o,es,ep,k o e,r⟩,z⟩
theorem ObjOk.there {P:Program} {w:World} {H:Hp} {h:Heap} {a:Addr} {o:HO} (x:ObjOk P w H h a o):∃ u,h.get? a=some u:=by
  cases o with
  | lst xs=>obtain ⟨_,_,_,_,e⟩:=x; exact ⟨_,e⟩
  | tup xs=>obtain ⟨_,_,_,o,e,_⟩:=x; exact ⟨_,e⟩
  | dK kvs=>obtain ⟨_,_,_,_,o,_,_,e,_⟩:=x; exact ⟨_,e⟩
  | dT kvs=>obtain ⟨_,_,_,_,o,_,_,e,_⟩:=x; exact ⟨_,e⟩
  | set S n=>obtain ⟨o,_,_,_,e,_⟩:=x; exact ⟨_,e⟩
  | ins C dx fs=>obtain ⟨_,_,_,e,_⟩:=x; exact ⟨_,e⟩
  | own y=>obtain ⟨_,e⟩:=x; exact ⟨_,e⟩
  | xd fs=>obtain ⟨_,⟨_,_,_,e,_⟩,_⟩:=x; exact ⟨_,e⟩
  | rng lo hi=>obtain ⟨_,_,_,e⟩:=x; exact ⟨_,e⟩
  | frz ob u=>obtain ⟨e,_⟩:=x; exact ⟨_,e⟩
  | tbl ps=>exact ⟨_,(show h.get? a=some _ from x)⟩
  | met f y=>exact ⟨_,(show h.get? a=some _ from x)⟩
  | ext φ=>obtain ⟨_,⟨_,e⟩,_⟩:=x; exact ⟨_,e⟩
theorem HOk.free {P:Program} {w:World} {H:Hp} {h:Heap} {a:Addr} (x:HOk P w H h) (e:h.get? a=none):H a=none:=by
  cases q:H a with
  | none=>rfl
  | some u =>
    obtain ⟨o,z⟩:=(x a u q).there
    rw [e] at z; cases z
theorem Inv.laidN {X:Cx} {pins:List (Addr×Obj)} {σ:St} {H:Hp} {s:Shared} {h':Heap} {a:Addr} {o:HO} {t':Nat} (I:Inv X pins σ H s) (k:∀ b u,s.heap.get? b=some u→h'.get? b=some u) (hp:s.heap.get? a=none) (new:ObjOk X.prog X.w (upd H a o) h' a o) :
    Inv X pins σ (upd H a o) { s with heap:=h',toks:=t' }:=by
  have hn:=I.hok.free hp
  have nb:∀ b u,s.heap.get? b=some u→b≠a:=fun b u q z=>by rw [z,hp] at q; cases q
  refine I.un (t':=t') ⟨fun b u q _ _ _=>k b u q,fun b u q _ _ _=>⟨u.slots,k b u q⟩,fun b u q n _=>by rw [y0 (nb b u q)]; exact n,fun b u q _=>⟨u,k b u q⟩,fun b xs q=>by rw [y0 (u0 q hn)]; exact q,
    fun b u xs q=>by rw [y0 (u0 q hn)]; exact q,fun b ps q=>⟨#[],by rw [y0 (u0 q hn),q]; simp⟩⟩ fun b u e=>?_
  by_cases hb:b=a
  · subst hb; rw [o3] at e; cases e; exact new
  · rw [y0 hb] at e
    exact (I.hok b u e).stay (fun c v _ q=>k c v q) (fun c q=>by rw [y0 (u0 q hn)]; exact q) fun c xs q=>by rw [y0 (u0 q hn)]; exact q
theorem XO.get {P:Program} {w:World} {H:Hp} {h:Heap} {fr:Bool} {x C:Addr} {od:Option Addr} (hok:HOk P w H h) (e:H x=some (XO fr x C od)) :
    ∃ o vs,h.get? x=some o∧o.cls=.ref C∧o.dict=od∧o.data=.fields vs∧(fr=true→o.slots=#[]∧vs[1]?=some .none):=(show ObjOk P w H h x (XO fr x C od) from hok x _ e).1
theorem XD.get {P:Program} {w:World} {H:Hp} {h:Heap} {dx:Addr} {fs:List (Str×V)} (hok:HOk P w H h) (e:H dx=some (XD dx fs)) :
    ∃ mA,h.Ns1 dx mA∧(∀ f,RelO (fs.lookup f) (mA f))∧PySem.Within mA (fs.map (·.1)):=(show ObjOk P w H h dx (XD dx fs) from hok dx _ e).1
section
variable {X:Cx} {pins:List (Addr×Obj)} {σ:St} {H:Hp} {s:Shared} {x C dx:Addr} {fs:List (Str×V)} {f:Str} {v:V} {A:Around} {E:Value→Shared→Prop}
theorem xset0 {y:V} {u:Value} {Q:Unit→Shared→Prop} (I:Inv X pins σ H s) (e:H x=some (XO true x C none)) (c:XC X.K C) (n:NoAttr X.K C f) (ry:RelV y u)
    (h:∀ d s',H d=none→d≠x→Inv X pins σ (upd (upd H d (XD d [(f,y)])) x (XO true x C (some d))) s'→Q () s'):wpAny (model X.prog X.w) A (setAttr (.ref x) f u) Q E s:=by
  obtain ⟨o,vs,hx,h1,h2,h3,h40⟩:=XO.get I.hok e
  obtain ⟨h4,h5⟩:=h40 rfl
  clear h40
  obtain ⟨oc,od,odt,osl⟩:=o
  dsimp only at h1 h2 h3 h4
  subst h1 h2 h3 h4
  have hxs:x≠s.heap.objs.size:=Nat.ne_of_lt (Heap.lt_size hx)
  refine PySem.W.set_x0 I.kIn c hx n.taker fun h' e1 e2 e3=>h s.heap.objs.size _ (I.hok.fresh (Nat.le_refl _)) hxs.symm ?_
  have mu:Mut (H x):=by rw [e]; exact True.intro
  have keep:∀ b o,b≠x→s.heap.get? b=some o→h'.get? b=some o:=e3
  have hx':∃ o vs,h'.get? x=some o∧o.cls=.ref C∧o.dict=some s.heap.objs.size∧o.data=.fields vs∧(true=true→o.slots=#[]∧vs[1]?=some .none):=⟨_,vs,e1,rfl,rfl,rfl,fun _=>⟨rfl,h5⟩⟩
  have hfree:H s.heap.objs.size=none:=I.hok.fresh (Nat.le_refl _)
  have neF:∀ b o,s.heap.get? b=some o→b≠s.heap.objs.size:=fun b o q=>Nat.ne_of_lt (Heap.lt_size q)
  have neT:∀ b u,H b=some u→b≠s.heap.objs.size:=fun b u q z=>by rw [z,hfree] at q; cases q
  have nx:∀ b,H b=none→b≠x:=fun b q z=>by rw [z,e] at q; cases q
  have tr:∀ b u,H b=some u→b≠x→(upd (upd H s.heap.objs.size (XD s.heap.objs.size [(f,y)])) x (XO true x C (some s.heap.objs.size))) b=some u:=fun b u q z=>by rw [y0 z,y0 (neT b u q)]; exact q
  refine I.un (t':=s.toks + 2) ⟨fun b o q q2 _ _=>keep b o (nx b q2) q,fun b o q q2 _ _=>⟨o.slots,keep b o (nx b q2) q⟩,fun b o q q2 _=>?_,fun b o q _=>?_,fun b xs q=>?_,fun b o u q=>?_,fun b ps q=>⟨#[],?_⟩⟩ ?_
  · rw [y0 (nx b q2),y0 (neF b o q)]; exact q2
  · by_cases z:b=x
    · subst z; exact ⟨_,e1⟩
    · exact ⟨o,keep b o z q⟩
  · exact tr b _ q (fun z=>by rw [z,e] at q; cases q)
  · exact tr b _ q (fun z=>by rw [z,e] at q; cases q)
  · rw [tr b _ q (fun z=>by rw [z,e] at q; cases q)]; simp
  · intro b u q
    by_cases z:b=x
    · subst z
      rw [o3] at q
      cases q
      exact XO.ok hx'
    · rw [y0 z] at q
      by_cases z2:b=s.heap.objs.size
      · subst z2
        rw [o3] at q
        cases q
        refine XD.ok ⟨_,e2,fun g=>?_,fun g hg=>?_⟩
        · have l:=x9 f g y []
          rw [show putF f y []=[(f,y)] from rfl] at l
          rw [l]
          by_cases w:g=f
          · rw [if_pos w,if_pos w]; exact ry
          · rw [if_neg w,if_neg w]; exact True.intro
        · by_cases w:g=f
          · rw [w]; simp
          · exact absurd (if_neg w) hg
      · rw [y0 z2] at q
        refine (I.hok b u q).stay (fun c' v' hc q'=>keep c' v' ?_ q') (fun b' q'=>tr b' _ q' (fun z=>by rw [z,e] at q'; cases q')) (fun b' xs q'=>tr b' _ q' (fun z=>by rw [z,e] at q'; cases q'))
        rcases hc with hc | hc
        · rw [hc]; exact z
        · exact fun z=>by rw [z,e] at hc; cases hc
theorem xset1 {y:V} {u:Value} {Q:Unit→Shared→Prop} (I:Inv X pins σ H s) (e:H x=some (XO true x C (some dx))) (ed:H dx=some (XD dx fs)) (ne:dx≠x) (hl:fs.length < 1000) (c:XC X.K C) (n:NoAttr X.K C f) (ry:RelV y u)
    (h:∀ s',Inv X pins σ (upd H dx (XD dx (putF f y fs))) s'→Q () s'):wpAny (model X.prog X.w) A (setAttr (.ref x) f u) Q E s:=by
  obtain ⟨o,vs,hx,h1,h2,h3,h40⟩:=XO.get I.hok e
  obtain ⟨h4,h5⟩:=h40 rfl
  clear h40
  obtain ⟨oc,od,odt,osl⟩:=o
  dsimp only at h1 h2 h3 h4
  subst h1 h2 h3 h4
  obtain ⟨mA,hn,r,wi⟩:=XD.get I.hok ed
  refine PySem.W.set_x1 I.kIn c hx ne hn n.taker wi (by rw [List.length_map,sizeLine_eq]; omega) fun h' hn' sb=>h _ ?_
  have hd:∃ o,h'.get? dx=some o:=let ⟨o,_,_,e',_⟩:=hn'; ⟨o,e'⟩
  refine I.write (x:=dx) (e:=dx) (by rw [ed]; exact True.intro) (.inl rfl) (fun b q hb z=>(sb.2 b hb).trans z) hd ?_
  refine XD.ok ⟨_,hn',fun g=>?_,fun g hg=>?_⟩
  · show RelO ((putF f y fs).lookup g) (if g=f then some u else mA g)
    rw [x9]
    by_cases q:g=f
    · rw [if_pos q,if_pos q]; exact ry
    · rw [if_neg q,if_neg q]; exact r g
  · by_cases q:g=f
    · rw [q]; exact (z0s f y fs).1
    · refine (z0s f y fs).2 g (wi g fun z=>hg ?_)
      show (if g=f then some u else mA g)=none
      rw [if_neg q]; exact z
theorem XO.inst {fr:Bool} {od:Option Addr} (I:Inv X pins σ H s) (e:H x=some (XO fr x C od)) (he:∀ d,od=some d→∃ o,s.heap.get? d=some o):∃ ox odo,PySem.W.InstAt s.heap x ox C odo∧∀ d,od=some d→∃ o,odo=some o∧s.heap.get? d=some o:=by
  obtain ⟨o,vs,hx,h1,h2,h3,_⟩:=XO.get I.hok e
  cases od with
  | none=>exact ⟨o,none,⟨hx,h1,by unfold PySem.W.notCls; rw [h3],by rw [h2]; trivial⟩,fun d z=>by cases z⟩
  | some d =>
    obtain ⟨od,hd⟩:=he d rfl
    exact ⟨o,some od,⟨hx,h1,by unfold PySem.W.notCls; rw [h3],by rw [h2]; exact hd⟩,fun d' z=>by cases z; exact ⟨od,rfl,hd⟩⟩
end
noncomputable def sX0 (K:PySem.W.Frag) (ta tv:TE) (f:Str):TS:=fun D σ H=>tv σ H fun y H1=>ta σ H1 fun x H2=>∃ a C,x=.ref a∧H2 a=some (XO true a C none)∧XC K C∧NoAttr K C f ∧
  ∀ d,H2 d=none→d≠a→D.nx σ (upd (upd H2 d (XD d [(f,y)])) a (XO true a C (some d)))
noncomputable def sX1 (K:PySem.W.Frag) (ta tv:TE) (f:Str):TS:=fun D σ H=>tv σ H fun y H1=>ta σ H1 fun x H2=>∃ a C d fs,x=.ref a∧H2 a=some (XO true a C (some d))∧H2 d=some (XD d fs)∧d≠a∧fs.length < 1000∧XC K C∧NoAttr K C f ∧
  D.nx σ (upd H2 d (XD d (putF f y fs)))
section
variable {X:Cx} {o e value:Expr} {f:Str} {pos pos' tpos:Pos} {ta tv:TE}
theorem o0v (ha:PE X o ta) (hv:PE X value tv) (hs:swapsWith value (some (.Attribute o f pos')) pos.line X.env=pure false):PS X (.Assign [.Attribute o f pos'] value pos) (sX0 X.K ta tv f):=by
  intro pins s σ H D I h
  refine plainObj_wpAny_Assign_Attribute (thn (hv pins s σ H _ I h) fun u s1 ⟨y,H1,I1,ry,q⟩=>thn (ha pins s1 σ H1 _ I1 q) fun ov s2 ⟨x,H2,I2,rx,a,C,ex,ea,c,n,q2⟩=>?_) hs
  subst ex
  obtain rfl:ov=Value.ref a:=rx
  exact xset0 I2 ea c n ry fun d s3 hd hne I3=>⟨σ,_,I3,q2 d hd hne⟩
theorem ps_x1 (ha:PE X o ta) (hv:PE X value tv) (hs:swapsWith value (some (.Attribute o f pos')) pos.line X.env=pure false):PS X (.Assign [.Attribute o f pos'] value pos) (sX1 X.K ta tv f):=by
  intro pins s σ H D I h
  refine plainObj_wpAny_Assign_Attribute (thn (hv pins s σ H _ I h) fun u s1 ⟨y,H1,I1,ry,q⟩=>thn (ha pins s1 σ H1 _ I1 q) fun ov s2 ⟨x,H2,I2,rx,a,C,d,fs,ex,ea,ed,hne,hl,c,n,q2⟩=>?_) hs
  subst ex
  obtain rfl:ov=Value.ref a:=rx
  exact xset1 I2 ea ed hne hl c n ry fun s3 I3=>⟨σ,_,I3,q2⟩
end
noncomputable def xcIn (K:PySem.W.Frag) (C:Addr):Bool:=match K.lookup C with
  | some ⟨.type "type",_,.cls cd,sl⟩=>(match cd.mro,sl.toList with
    | .ref C' :: bm,[_,_,_,_,some (.builtin n),_]=>C' == C && n == "ValueError.__new__" && !cd.hasDel && PySem.W.tailIn K PySem.W.veMro bm
    | _,_=>false)
  | _=>false
theorem d0g {K:PySem.W.Frag} {h:Heap} {C:Addr} (X:K.In h) (q:xcIn K C=true):∃ nm qn N bs bm hdct sn sub ab col dd k0 k1 k2 k3 k5,
    h.get? C=some (excClassObj nm qn C N bs bm hdct sn sub ab col dd k0 k1 k2 k3 k5 "ValueError.__new__")∧OwnTail h PySem.W.veMro bm:=by
  unfold xcIn at q
  split at q
  · rename_i dd cd sl ho
    split at q
    · rename_i C' bm k0 k1 k2 k3 n k5 hm hs
      simp only [Bool.and_eq_true,beq_iff_eq,Bool.not_eq_true'] at q
      obtain ⟨⟨⟨rfl,rfl⟩,hdel⟩,ht⟩:=q
      obtain ⟨nm,bs,mro,ns,qn,hd,sn,sub,ab,col,del⟩:=cd
      dsimp only at hm hdel
      subst hm hdel
      have hsl:sl=#[k0,k1,k2,k3,some (.builtin "ValueError.__new__"),k5]:=by
        obtain ⟨l⟩:=sl
        simp only at hs
        rw [hs]
      subst hsl
      exact ⟨nm,qn,ns,bs,bm,hd,sn,sub,ab,col,dd,k0,k1,k2,k3,k5,X _ _ ho,PySem.W.tail_of_in X ht⟩
    · cases q
  · cases q
structure XMk (K:PySem.W.Frag) (C f:Addr):Prop where
  sh:xcIn K C=true
  init:PySem.W.findIn K (.ref C) "__init__" = some (some (.ref f))
  fn:PySem.W.isFn K (.ref f)=true
  kp:PySem.W.keepIn K (.ref C)=true
section
variable {X:Cx} {CX:CXT} {k:Nat} {f C:Addr} {fd:FuncData} {ps:List Str} {sp:Sp} {E:XK} {x m:Str} {p pos apos:Pos} {e o:Expr} {es:List Expr} {ta:TE} {t:TA}
theorem Inv.madeX {pins:List (Addr×Obj)} {σ:St} {H:Hp} {s:Shared} {us:List Value} (I:Inv X pins σ H s) :
    Inv X pins σ (upd H (s.heap.objs.size + 1) (XO true (s.heap.objs.size + 1) C none)) { s with heap:=(s.heap.push (PySem.W.xTup us)).push (PySem.W.xObj C s.heap.objs.size) }:=by
  have I1:=I.kept (h':=s.heap.push (PySem.W.xTup us)) (t':=s.toks) fun b o e=>Heap.get?_push_of_some _ e
  have e2:((s.heap.push (PySem.W.xTup us)).push (PySem.W.xObj C s.heap.objs.size)).get? (s.heap.objs.size + 1)=some (PySem.W.xObj C s.heap.objs.size):=by
    have:=Heap.get?_push_size (s.heap.push (PySem.W.xTup us)) (o:=PySem.W.xObj C s.heap.objs.size) rfl
    rwa [Heap.size_push] at this
  exact I1.laid (a:=s.heap.objs.size + 1) (o:=XO true (s.heap.objs.size + 1) C none) (t':=s.toks) (fun b u q=>Heap.get?_push_of_some _ q) (Nat.le_of_eq (Heap.size_push _ _)) (XO.ok ⟨_,_,e2,rfl,rfl,rfl,fun _=>⟨rfl,rfl⟩⟩)
theorem q0y {pins:List (Addr×Obj)} {σ:St} {H:Hp} {s:Shared} {Q:VK} {us:List Value} {vs:List V} (M:XMk X.K C f) (F:FnOk X.prog X.w X.K X.mg X.base CX k f fd ps sp) (hr:Room (k + 1) X.A) (hb:Binds X.K fd ps [])
    (hx:d0n CX X E) (I:Inv X pins σ H s) (r:Vals vs us) (hz:vs.length≤sizeLine)
    (hq:sp (.ref (s.heap.objs.size + 1) :: vs) (upd H (s.heap.objs.size + 1) (XO true (s.heap.objs.size + 1) C none)) (fun v H2=>v=.non∧Q (.ref (s.heap.objs.size + 1)) H2) E) :
    wpAny (model X.prog X.w) X.A (call (.ref C) us) (fun u s'=>u=.ref (s.heap.objs.size + 1)∧EP X pins σ Q u s') X.xe s:=by
  have I2:=Inv.madeX (C:=C) (us:=us) I
  have r2:Vals (V.ref (s.heap.objs.size + 1) :: vs) (Value.ref (s.heap.objs.size + 1) :: us):=.cons rfl r
  have hl:(Value.ref (s.heap.objs.size + 1) :: us++[]).length=ps.length:=by
    have e:=r2.length
    rw [F.len _ _ _ _ hq] at e
    rw [List.append_nil]
    exact e.symm
  obtain ⟨nm,qn,N,bs,bm,hdct,sn,sub,ab,col,dd,k0,k1,k2,k3,k5,hC,hT⟩:=d0g I.kIn M.sh
  have hbd:=hb _ (Value.ref (s.heap.objs.size + 1) :: us) I2.kIn hl
  rw [List.append_nil] at hbd
  have hrun:=F.run _ X.stack _ _ ⟨Value.ref (s.heap.objs.size + 1) :: us,[]⟩ (Value.ref (s.heap.objs.size + 1) :: us) _ _ E (hr.make C us []) (I2.env0.make C us []) hbd r2 hq
  obtain ⟨hh,g,d,tk,os⟩:=s
  refine wpAny_call (PySem.W.type_call_x PySem.F.excBase_ValueError hT hC (PySem.W.looks_findIn I.kIn M.init) (fun self=>PySem.W.bind_fn I.kIn self (beq_iff_eq.mp M.fn)) (codeAny_mono hrun fun r s' hq'=>?_) (by rw [← r.length]; exact hz))
  cases r with
  | error e=>exact hx pins σ _ _ e s' I2 hq'
  | ok fl =>
    cases fl with
    | ret u =>
      obtain ⟨v,H',I3,rv,ev,q3⟩:=I2.after hq'
      subst ev
      exact ⟨rv,rfl,⟨V.ref (hh.objs.size + 1),H',I3,rfl,q3⟩⟩
    | next=>exact False.elim hq'
    | brk=>exact False.elim hq'
    | cont=>exact False.elim hq'
structure XMk0 (K:PySem.W.Frag) (C:Addr):Prop where
  ex:PySem.W.excIn K C PySem.W.veMro "ValueError.__new__" = true
  kp:PySem.W.keepIn K (.ref C)=true
theorem f0p {pins:List (Addr×Obj)} {σ:St} {H:Hp} {s:Shared} {Q:VK} {A:Around} {E:Value→Shared→Prop} (M:XMk0 X.K C) (I:Inv X pins σ H s) (h:Q (.ref (s.heap.objs.size + 1)) (upd H (s.heap.objs.size + 1) (XO true (s.heap.objs.size + 1) C none))) :
    wpAny (model X.prog X.w) A (call (.ref C) []) (EP X pins σ Q) E s:=by
  have q:=M.ex
  unfold PySem.W.excIn at q
  split at q
  · rename_i dd cd sl ho
    split at q
    · rename_i C' bm k0 k1 k2 k3 n k5 hm hs
      simp only [Bool.and_eq_true,beq_iff_eq,Bool.not_eq_true'] at q
      obtain ⟨⟨⟨⟨⟨rfl,rfl⟩,hdel⟩,ht⟩,hok⟩,hni⟩:=q
      obtain ⟨nm,bs,mro,ns,qn,hd,sn,sub,ab,col,del⟩:=cd
      dsimp only at hm hdel hok hni
      subst hm hdel
      have hsl:sl=#[k0,k1,k2,k3,some (.builtin "ValueError.__new__"),k5]:=by
        obtain ⟨l⟩:=sl
        simp only at hs
        rw [hs]
      subst hsl
      obtain ⟨hh,g,d,tk,os⟩:=s
      refine PySem.W.type_call_x0 PySem.F.excBase_ValueError (PySem.W.tail_of_in I.kIn ht) (I.kIn _ _ ho) (Heap.Ns.of_isNs (PySem.W.isNs_of_in I.kIn hok)) (PySem.W.nsMap_none_of_in I.kIn hok hni) (fun h' t2 kp hx=>?_)
      exact ⟨.ref (hh.objs.size + 1),_,I.laidN (a:=hh.objs.size + 1) (o:=XO true (hh.objs.size + 1) C' none) (t':=tk) kp (Heap.get?_none_of_le (Nat.le_succ _)) (XO.ok ⟨_,_,hx,rfl,rfl,rfl,fun _=>⟨rfl,rfl⟩⟩),rfl,h⟩
    · cases q
  · cases q
end
end L2
namespace L2
open PySem PySem.Spec PyProof.Rows
open PySem.W (XC)
inductive TyX (K:PySem.W.Frag) (H:Hp):V→Value→Prop where
  | of {x:V} {t:Value} (h:TyOf K H x t):TyX K H x t
  | exc {fr:Bool} {a C d:Addr} {fs:List (Str×V)} (e:H a=some (XO fr a C (some d))) (ed:H d=some (XD d fs)) (c:XC K C):TyX K H (.ref a) (.ref C)
  | exc0 {fr:Bool} {a C:Addr} (e:H a=some (XO fr a C none)) (c:XC K C):TyX K H (.ref a) (.ref C)
section
variable {X:Cx}
noncomputable def InstB (K:PySem.W.Frag) (H:Hp) (t:Value) (c:V) (b:Bool):Prop :=
  (∃ n,c=.ty n∧PySem.W.kitOne K t (.type n)=some b)∨(∃ C,c=.ref C∧PySem.W.kitOne K t (.ref C)=some b)∨∃ (a:Addr) (cs:List String),c=.ref a∧H a=some (.tup (cs.map V.ty))∧PySem.W.kitAny K t (cs.map Value.type)=some b
noncomputable def rInst (K:PySem.W.Frag):List V→Hp→VK→Prop:=fun vs H Q=>∃ x c t b,vs=[x,c]∧TyX K H x t∧InstB K H t c b∧Q (.bl b) H
theorem d0f:∀ {cs:List String} {us:List Value},Vals (cs.map V.ty) us→us=cs.map Value.type
  | [],_,.nil=>rfl
  | c :: cs,_,.cons r t=>by
    have e:_=Value.type c:=r
    rw [e,d0f t]; rfl
theorem n5 {pins:List (Addr×Obj)} {s:Shared} {σ:St} {H:Hp} {Q:VK} {c:V} {u cv t:Value} {b:Bool} {HH:Heap→Prop} (I:Inv X pins σ H s) (Z:PySem.W.KitX X.K u t HH) (p:HH s.heap) (rc:RelV c cv) (e:InstB X.K H t c b)
    (hx:u≠.builtin "__main__.__loader__#opaque") (q:Q (.bl b) H):wpAny (model X.prog X.w) X.A (call (.builtin "isinstance") [u,cv]) (EP X pins σ Q) X.xe s:=by
  have fin:∀ tk,EP X pins σ Q (.bool b) { s with toks:=tk }:=fun tk=>⟨.bl b,H,I.tok tk,rfl,q⟩
  rcases e with ⟨n,rfl,e⟩ | ⟨C,rfl,e⟩ | ⟨a,cs,rfl,ha,e⟩
  · cases rc; exact PySem.W.kia_one Z I.kIn p e hx fin
  · cases rc; exact PySem.W.kia_one Z I.kIn p e hx fin
  · cases rc
    obtain ⟨z,its,r,o,ho,hc,n,hd⟩:=(show ObjOk X.prog X.w H s.heap a (.tup (cs.map V.ty)) from I.hok a _ ha)
    obtain rfl:=d0f r
    obtain ⟨oc,od,odt,osl⟩:=o
    dsimp only at hc hd
    subst hc hd
    exact PySem.W.kia_tup Z I.kIn p ho e hx fin
theorem w4:x0h X (.builtin "isinstance") (rInst X.K):=by
  intro pins s σ H xs us Q I rv h
  obtain ⟨x,c,t,b,rfl,ty,e,q⟩:=h
  obtain ⟨u,cv,rfl,rx,rc⟩:=Vals.two rv
  cases ty with
  | exc ea ed c =>
    rename_i fr a C d fs
    cases (show u=Value.ref a from rx)
    obtain ⟨mA,hn,_,_⟩:=XD.get I.hok ed
    obtain ⟨od,hod,_⟩:=lookIn_ns hn
    obtain ⟨ox,odo,J,k⟩:=XO.inst I ea fun d z=>by cases z; exact ⟨od,hod⟩
    exact n5 I (PySem.W.kitx_x c) J rc e (fun z=>nomatch z) q
  | exc0 ea c =>
    rename_i fr a C
    cases (show u=Value.ref a from rx)
    obtain ⟨ox,odo,J,k⟩:=XO.inst I ea fun d z=>by cases z
    exact n5 I (PySem.W.kitx_x c) J rc e (fun z=>nomatch z) q
  | of ty =>
    cases ty with
    | non=>cases (show u=Value.none from rx); exact n5 I PySem.W.kitx_none True.intro rc e (fun z=>nomatch z) q
    | bl y=>cases (show u=Value.bool y from rx); exact n5 I PySem.W.kitx_bool True.intro rc e (fun z=>nomatch z) q
    | int i=>obtain ⟨t,z⟩:=(show ∃ t,u=Value.int i t from rx); cases z; exact n5 I PySem.W.kitx_int True.intro rc e (fun z=>nomatch z) q
    | str y=>obtain ⟨t,z⟩:=(show ∃ t,u=Value.str y t from rx); cases z; exact n5 I PySem.W.kitx_str True.intro rc e (fun z=>nomatch z) q
    | flt y=>obtain ⟨t,z⟩:=(show ∃ t,u=Value.float y t from rx); cases z; exact n5 I PySem.W.kitx_float True.intro rc e (fun z=>nomatch z) q
    | @lst a xs ea =>
      cases (show u=Value.ref a from rx)
      obtain ⟨_,_,n,_,h1⟩:=(show ObjOk X.prog X.w H s.heap a (.lst xs) from I.hok a _ ea)
      exact n5 I PySem.W.kitx_list ⟨_,h1,rfl⟩ rc e (fun z=>nomatch z) q
    | @frz a ob xs ea =>
      cases (show u=Value.ref a from rx)
      obtain ⟨_,_,_,n,_,h1⟩:=(show ObjOk X.prog X.w H s.heap a (.frz ob (.lst xs)) from I.hok a _ ea)
      exact n5 I PySem.W.kitx_list ⟨_,h1,rfl⟩ rc e (fun z=>nomatch z) q
    | @tup a xs ea =>
      cases (show u=Value.ref a from rx)
      obtain ⟨_,_,_,p⟩:=(show ObjOk X.prog X.w H s.heap a (.tup xs) from I.hok a _ ea)
      obtain ⟨o,h1,h2,_⟩:=p
      exact n5 I PySem.W.kitx_tuple ⟨o,h1,h2⟩ rc e (fun z=>nomatch z) q
    | @dK a kvs ea =>
      cases (show u=Value.ref a from rx)
      obtain ⟨_,_,vs,_,p⟩:=(show ObjOk X.prog X.w H s.heap a (.dK kvs) from I.hok a _ ea)
      obtain ⟨o,es,ep,h1,h2,_⟩:=p
      exact n5 I PySem.W.kitx_dict ⟨o,h1,h2.1⟩ rc e (fun z=>nomatch z) q
    | @dT a kvs ea =>
      cases (show u=Value.ref a from rx)
      obtain ⟨_,_,xs,_,o,es,ep,h1,h2,_⟩:=(show ObjOk X.prog X.w H s.heap a (.dT kvs) from I.hok a _ ea)
      exact n5 I PySem.W.kitx_dict ⟨o,h1,h2.1⟩ rc e (fun z=>nomatch z) q
    | @ins a C dx fs ea cl ha hn htk hm =>
      cases (show u=Value.ref a from rx)
      obtain ⟨mA,O,_⟩:=p0a I.hok ea
      obtain ⟨od,J,_⟩:=O.look
      exact n5 I (PySem.W.kitx_own (cl.get _) cl.hd ha hn htk hm) J rc e (fun z=>nomatch z) q
noncomputable def rCount:V→List V→Hp→VK→Prop:=fun x vs H Q=>∃ l xs y,x=.ref l∧vs=[y]∧H l=some (.lst xs)∧w9 y=true∧xs.all w9=true∧Q (.int ((xs.countP fun z=>eqV z y:Nat):Int)) H
theorem t0l {x:V}:∀ {xs:List V} {us:List Value},Vals xs us→xs.all w9=true→us.countP (eqU x)=xs.countP fun y=>eqV y x
  | _,_,.nil,_=>rfl
  | y :: xs,u :: us,.cons r t,f=>by
    rw [List.all_cons,Bool.and_eq_true] at f
    rw [List.countP_cons,List.countP_cons,t0l t f.2,j0s r f.1]
theorem f0o:MtM X "list.count" rCount:=by
  intro pins s σ H x vs v us Q I rx rv h
  obtain ⟨l,xs,y,rfl,rfl,hH,fy,fs,q⟩:=h
  cases rx
  obtain ⟨u,rfl,ru⟩:=rv.one
  obtain ⟨z,its,n,r,hl,e⟩:=I.lstM hH
  refine call_meets F.slot_list_count ⟨_,e,rfl⟩ F.entry_list_count (F.args_list_count_2 _ _) (PySem.SeqAt.list_countAt l its.toArray n _ _ u (eqU y)) ⟨e,fun w hw=>y0y ru fy r fs w (by simpa using hw),?_⟩
  have ec:its.toArray.toList.countP (eqU y)=xs.countP fun z=>eqV z y:=by rw [show its.toArray.toList=its by simp,t0l r fs]
  rw [ec]
  exact ⟨.int _,H,I.tok _,⟨s.toks,rfl⟩,q⟩
noncomputable def rAll (K:PySem.W.Frag):List V→Hp→VK→Prop:=fun vs H Q=>∃ (a:Addr) (bs:List Bool),vs=[.ref a]∧SqL K H a (bs.map V.bl)∧Q (.bl (bs.all id)) H
theorem m0r:∀ {bs:List Bool} {us:List Value},Vals (bs.map V.bl) us→PyProof.Rows.LSm.BoolsAre us bs
  | [],_,.nil=>.nil
  | b :: bs,_,.cons r t=>by
    have e:_=Value.bool b:=r
    subst e
    exact .cons b (m0r t)
theorem m0q (hc:X.calm=true):x0h X (.builtin "all") (rAll X.K):=by
  intro pins s σ H xs us Q I rv h
  obtain ⟨a,bs,rfl,hq,q⟩:=h
  obtain ⟨u,rfl,ru⟩:=rv.one
  cases (show u=Value.ref a from ru)
  obtain ⟨its,r,p,hz⟩:=I.list hq
  have hl:=p.isList
  have hb:=m0r r
  have hlt:a < s.heap.objs.size:=by obtain ⟨_,e,_⟩:=hl; exact Heap.lt_size e
  refine call_all_walk (wpAny_pyIter_list hl ?_)
  refine ⟨s.heap.objs.size,[s.heap.objs.size,a],[s.heap.objs.size],its.toArray.size,_,_,fun i=>(bs[i]?).getD true,rfl,Walks.list (A:=X.A.in1) (I.ok.hd hc) _ a (Nat.ne_of_lt hlt) its.toArray,
    ⟨⟨_,Heap.get?_push_size _ rfl,rfl,rfl⟩,hl.push _⟩,fun i v s' Q' E' hP hQ=>?_,fun h' tk hk=>?_⟩
  · obtain ⟨b,e,rfl⟩:=hb.get i v (by simpa using hP)
    simp only [e,Option.getD_some] at hQ
    exact wpAny_truthy_bool hQ
  · have e:((List.range its.toArray.size).all fun i=>(bs[i]?).getD true)=bs.all id:=by
      rw [List.size_toArray,hb.length]; exact PyProof.Rows.LSm.range_all bs
    rw [e]
    exact ⟨.bl _,H,I.kept (PyProof.Rows.LSm.kept_iter hk),rfl,q⟩
end
end L2
namespace L2
open PySem PySem.Spec PyProof.Rows
theorem t0k {scope:Scope} {env:Env} (h:∀ p∈scope.names,p.2=.free→∃ c,env.cells.lookup p.1=some c) :
    ∃ cl,closureFor scope env=pure cl∧(∀ y c,cl.lookup y=some c→env.cells.lookup y=some c)∧∀ y,(y,NameKind.free)∈scope.names→∃ c,cl.lookup y=some c:=by
  have key:∀ (names:List (Str×NameKind)) (cs:List (Str×Addr)),(∀ p∈names,p.2=.free→∃ c,env.cells.lookup p.1=some c)→(∀ y c,cs.lookup y=some c→env.cells.lookup y=some c) →
      ∃ cl,(forIn names cs (fun (p:Str×NameKind) (r:List (Str×Addr))=>match p with | (name,kind)=>if (kind == NameKind.free)=true then cellOf env name >>= fun c=>pure (ForInStep.yield ((name,c) :: r)) else pure (ForInStep.yield r)):Sem (List (Str×Addr)))=pure cl ∧
        (∀ y c,cl.lookup y=some c→env.cells.lookup y=some c)∧(∀ y,(y,NameKind.free)∈names→∃ c,cl.lookup y=some c)∧∀ y c,cs.lookup y=some c→∃ c',cl.lookup y=some c':=by
    intro names
    induction names with
    | nil=>intro cs _ hc; exact ⟨cs,rfl,hc,(fun y hy=>by cases hy),fun y c e=>⟨c,e⟩⟩
    | cons p r ih =>
      intro cs hp hc
      obtain ⟨pn,pk⟩:=p
      rw [List.forIn_cons]
      dsimp only
      by_cases hk:pk=.free
      · obtain ⟨c,e⟩:=hp (pn,pk) List.mem_cons_self hk
        have hco:cellOf env pn=pure c:=by
          unfold cellOf
          dsimp only at e
          rw [e]
        have hb:(pk == NameKind.free)=true:=by rw [hk]; rfl
        obtain ⟨cl,h1,h2,h3,h4⟩:=ih ((pn,c) :: cs) (fun q hq=>hp q (List.mem_cons_of_mem _ hq)) (fun y c' e'=>by
          rw [List.lookup_cons] at e'
          split at e'
          · rename_i z
            have:y=pn:=beq_iff_eq.mp z
            subst this
            cases e'; exact e
          · exact hc y c' e')
        refine ⟨cl,?_,h2,fun y hy=>?_,fun y c' e'=>?_⟩
        · rw [if_pos hb,hco,pure_bind,pure_bind]; exact h1
        · rcases List.mem_cons.mp hy with z | z
          · have:y=pn:=congrArg Prod.fst z
            subst this
            exact h4 _ c (by rw [List.lookup_cons]; simp)
          · exact h3 y z
        · by_cases z:y=pn
          · subst z; exact h4 _ c (by rw [List.lookup_cons]; simp)
          · exact h4 y c' (by rw [List.lookup_cons,beq_eq_false_iff_ne.mpr z]; exact e')
      · have hb:¬ (pk == NameKind.free)=true:=by simpa using hk
        obtain ⟨cl,h1,h2,h3,h4⟩:=ih cs (fun q hq=>hp q (List.mem_cons_of_mem _ hq)) hc
        refine ⟨cl,?_,h2,fun y hy=>?_,h4⟩
        · rw [if_neg hb,pure_bind]; exact h1
        · rcases List.mem_cons.mp hy with z | z
          · exact absurd (congrArg Prod.snd z).symm hk
          · exact h3 y z
  obtain ⟨cl,h1,h2,h3,_⟩:=key scope.names [] h (fun y c e=>by cases e)
  refine ⟨cl,?_,h2,h3⟩
  unfold closureFor
  exact (bind_pure _).trans h1
theorem z0q {env:Env}:∀ {names:List (Str×NameKind)} {x:Str} {k:NameKind},(names.map fun (n,k)=>if (k == NameKind.free && env.scope.kind == .function && env.kindOf n == some .cell) then (n,NameKind.cell) else (n,k)).lookup x=some k →
    k=.cell∨k=.free→(∀ y∈names,y.2≠.cell)→(x,NameKind.free)∈names
  | [],_,_,h,_,_=>by simp at h
  | (n,k0) :: r,x,k,h,hk,hc=>by
    have h:List.lookup x ((if (k0 == NameKind.free && env.scope.kind == .function && env.kindOf n == some .cell)=true then (n,NameKind.cell) else (n,k0)) :: (r.map fun (n,k)=>if (k == NameKind.free && env.scope.kind == .function && env.kindOf n == some .cell) then (n,NameKind.cell) else (n,k)))=some k:=h
    by_cases hx:x=n
    · subst hx
      by_cases hcnd:(k0 == NameKind.free && env.scope.kind == .function && env.kindOf x == some .cell)=true
      · have:k0=.free:=by
          rw [Bool.and_eq_true,Bool.and_eq_true] at hcnd
          exact beq_iff_eq.mp hcnd.1.1
        rw [this]; exact List.mem_cons_self
      · rw [if_neg hcnd,List.lookup_cons,beq_self_eq_true] at h
        have e:k0=k:=Option.some.inj h
        subst e
        rcases hk with e | e
        · exact absurd e (hc (x,k0) List.mem_cons_self)
        · rw [e]; exact List.mem_cons_self
    · refine List.mem_cons_of_mem _ (z0q (env:=env) (k:=k) ?_ hk fun y hy=>hc y (List.mem_cons_of_mem _ hy))
      have hb:(x == n)=false:=beq_eq_false_iff_ne.mpr hx
      by_cases hcnd:(k0 == NameKind.free && env.scope.kind == .function && env.kindOf n == some .cell)=true
      · rw [if_pos hcnd,List.lookup_cons,hb] at h; exact h
      · rw [if_neg hcnd,List.lookup_cons,hb] at h; exact h
structure CompOk (X:Cx) (x:Str) (js:List Nat) (scope:Scope):Prop where
  kind:scope.kind=.function
  cell:∀ y∈scope.names,y.2≠.cell
  loc:∀ y∈scope.names,y.2=.local→scope.names.lookup y.1=some .local
  xl:scope.names.lookup x=some .local
  free:∀ y∈scope.names,y.2=.free→X.env.kindOf y.1=some .cell∨X.env.kindOf y.1=some .free
  caps:∀ j∈js,scope.names.lookup (X.N.getD j x)=some .free
  nd:(x :: js.map (fun j=>X.N.getD j x)).Nodup
section
variable {X:Cx} {pins:List (Addr×Obj)} {σ:St} {H:Hp} {s:Shared}
theorem q0x {scope:Scope} {env:Env} {y:Str} (h:scope.names.lookup y=some .free):(relabel scope env).names.lookup y=some .cell∨(relabel scope env).names.lookup y=some .free:=by
  unfold relabel
  generalize scope.names=names at h
  dsimp only
  induction names with
  | nil=>cases h
  | cons p r ih =>
    obtain ⟨n,k⟩:=p
    rw [List.map_cons]
    dsimp only
    by_cases hx:y=n
    · subst hx
      rw [List.lookup_cons,beq_self_eq_true] at h
      have e:k=.free:=Option.some.inj h
      subst e
      by_cases hc:(NameKind.free == NameKind.free && env.scope.kind == .function && env.kindOf y == some .cell)=true
      · rw [if_pos hc,List.lookup_cons,beq_self_eq_true]; exact .inl rfl
      · rw [if_neg hc,List.lookup_cons,beq_self_eq_true]; exact .inr rfl
    · have hb:(y == n)=false:=beq_eq_false_iff_ne.mpr hx
      rw [List.lookup_cons,hb] at h
      by_cases hc:(k == NameKind.free && env.scope.kind == .function && env.kindOf n == some .cell)=true
      · rw [if_pos hc,List.lookup_cons,hb]; exact ih h
      · rw [if_neg hc,List.lookup_cons,hb]; exact ih h
end
end L2
namespace L2
open PySem PySem.Spec PyProof.Rows
structure Loose (X:Cx) (pins:List (Addr×Obj)) (H:Hp) (C:Addr):Prop where
  free:H C=none
  ne:C≠X.env.locals
  yng:X.s₀.heap.objs.size≤C
  cell:∀ x c,X.env.cells.lookup x=some c→c≠C
  pin:∀ p∈X.pn++pins,p.1≠C
section
variable {X:Cx}
end
end L2
namespace L2
open PySem PySem.Spec PyProof.Rows
open PySem.W (XC)
noncomputable def Fly (h:Heap) (x C:Addr) (od T:Option Addr):Prop:=∃ o vs,h.get? x=some o∧o.cls=.ref C∧o.dict=od∧o.data=.fields vs∧1 < vs.size ∧
  match T with
  | none=>vs[1]?=some .none
  | some t=>vs[1]?=some (.ref t)∧t≠x∧∃ ot ts,h.get? t=some ot∧ot.data=.fields ts∧3 < ts.size
theorem u0e (o:Obj) (f):(o.mapFields f).dict=o.dict:=by
  obtain ⟨c,d,dt,sl⟩:=o
  cases dt <;> rfl
section
variable {M:Model} {A:Around} {E:Value→Shared→Prop} {s:Shared}
theorem f0n {base:Heap} {env:Env} {outer:List Env} {L x:Addr} {oe:Obj} {vs:Array Value} {head:Value} {hadNext:Bool} {Q:Unit→Shared→Prop}
    (hfr:A.frames=some (env :: outer)) (hl:s.heap.FunFrames base (env :: outer)) (hf:env.frame=some L) (he:s.heap.get? x=some oe) (hd:oe.data=.fields vs) (hsz:1 < vs.size)
    (h:∀ h' T,(∀ b o,b≠x→b ∉ frs (env :: outer)→s.heap.get? b=some o→h'.get? b=some o)→(∀ b o,s.heap.get? b=some o→b≠x→∃ sl,h'.get? b=some { o with slots:=sl }) →
      h'.get? x=some (oe.mapFields (·.setIfInBounds 1 (.ref T)))→s.heap.objs.size≤T→(∃ ot ts,h'.get? T=some ot∧ot.data=.fields ts∧3 < ts.size)→Q () { s with heap:=h' }) :
    wpAny M A (do let a ← frameOf env; let pl ← entryPlaceOf L hadNext; let b ← EntryCells.newEntry head a .none (rawInt L) .none pl; setField (.ref x) 1 b) Q E s:=by
  have hene:x ∉ (env :: outer).filterMap (·.frame):=fun hm=>by
    obtain ⟨_,o,ho,hnf⟩:=hl.mem hm
    rw [he] at ho
    injection ho with ho
    subst ho
    exact hnf vs hd
  refine wpAny_bind (wpAny_frameOf_fun hfr hl hf fun h₁ hs₁=>?_)
  refine wpAny_bind (wpAny_entryPlaceOf fun pl hpl=>?_)
  unfold EntryCells.newEntry newFields
  refine wpAny_bind (wpAny_newObj_type ?_ (hpl.sizeOk5 _ _ _ _ _))
  have he₁:h₁.get? x=some oe:=(hs₁.2.1 x hene).trans he
  generalize hO:({ cls:=.type "traceback",dict:=none,data:=.fields ([head,.ref L,.none,rawInt L,.none]++(if pl.isEmpty then List.replicate 6 Value.none else pl)).toArray }:Obj)=ot
  have hod:ot.data=.fields ([head,.ref L,.none,rawInt L,.none]++(if pl.isEmpty then List.replicate 6 Value.none else pl)).toArray:=by rw [← hO]
  have he₂:=Heap.get?_push_of_some (h:=h₁) ot he₁
  refine wpAny_setField he₂ hd hsz ?_
  have hTe:h₁.objs.size≠x:=Nat.ne_of_gt (Heap.lt_size he₁)
  have hd₃:=Obj.data_mapFields hd (·.setIfInBounds 1 (Value.ref h₁.objs.size))
  have hfree:ot.isFreed=false:=Obj.isFreed_of_fields hod
  refine h _ h₁.objs.size (fun b o hbe hbf hb=>?_) (fun b o hb hbe=>?_) (Heap.get?_update_self _ he₂ (Obj.isFreed_of_fields hd₃)) (by rw [hs₁.1]; exact Nat.le_refl _) ⟨ot,_,?_,hod,?_⟩
  · rw [Heap.get?_update_other _ _ (Ne.symm hbe)]
    exact Heap.get?_push_of_some _ ((hs₁.2.1 b hbf).trans hb)
  · obtain ⟨sl,e⟩:=hs₁.2.2 b o hb
    exact ⟨sl,by rw [Heap.get?_update_other _ _ (Ne.symm hbe)]; exact Heap.get?_push_of_some _ e⟩
  · rw [Heap.get?_update_other _ _ (Ne.symm hTe)]
    exact Heap.get?_push_size h₁ hfree
  · simp only [List.size_toArray,List.length_append,List.length_cons,List.length_nil]
    omega
end
noncomputable def Top (X:Cx):Prop:=X.stack=X.env :: X.outer∧X.env.frame=some X.env.locals
section
variable {X:Cx} {pins:List (Addr×Obj)} {σ:St} {H:Hp} {s:Shared} {A:Around} {E:Value→Shared→Prop} {x C:Addr} {od T:Option Addr}
theorem Inv.stir {h':Heap} {ch:List Addr} (I:Inv X pins σ H s) (hch:∀ b∈ch,Loose X pins H b) (tp:Top X)
    (keep:∀ b o,b ∉ ch→b ∉ frs X.stack→s.heap.get? b=some o→h'.get? b=some o) (slot:∀ b o,b ∉ ch→s.heap.get? b=some o→∃ sl,h'.get? b=some { o with slots:=sl })
    (nx:∀ b∈ch,∃ o,h'.get? b=some o):Inv X pins σ H { s with heap:=h' }:=by
  have mem:∀ b,b≠X.env.locals→b ∉ X.fs→b ∉ frs X.stack:=fun b h1 h2 h3=>by
    rcases List.mem_cons.mp (I.stkSub b h3) with z | z
    · exact h1 z
    · exact h2 z
  refine I.step (g':=s.gens) (d':=s.drawn) (t':=s.toks) (ch:=ch) (fun b hb=>⟨.inr (hch b hb).yng,(hch b hb).ne,(hch b hb).cell,(hch b hb).pin⟩) (fun b o h1 h2 h3 e _=>keep b o h3 (mem b h1 h2) e) (fun b o _ _ h3 e _=>slot b o h3 e) (fun b o _ _ n=>n)
    (fun b o h3 e=>by obtain ⟨sl,q⟩:=slot b o h3 e; exact ⟨_,q⟩) (fun _ _ e=>e) (fun _ _ _ e=>e) (fun b ps e=>⟨#[],by rw [e]; simp⟩) (fun m hm=>?_) (fun b u e=>?_) I.bare
  · obtain ⟨o,es,ep,ho,r⟩:=hm
    obtain ⟨sl,q⟩:=slot _ o (fun z=>(hch _ z).ne rfl) ho
    exact ⟨_,es,ep,q,r⟩
  · have nch:∀ c v,H c=some v→c ∉ ch:=fun c v q z=>by rw [(hch c z).free] at q; cases q
    have nfr:∀ c v,H c=some v→c ∉ frs X.stack:=fun c v q z=>by rw [I.stkFree c z] at q; cases q
    refine (I.hok b u e).stay (fun c v hc q=>?_) (fun _ q=>q) fun _ _ q=>q
    rcases hc with z | z
    · subst z; exact keep c v (nch c _ e) (nfr c _ e) q
    · exact keep c v (nch c _ z) (nfr c _ z) q
theorem Inv.loose_new (I:Inv X pins σ H s) {t:Addr} (h:s.heap.objs.size≤t):Loose X pins H t :=
  ⟨I.hok.fresh h,Nat.ne_of_gt (Nat.lt_of_lt_of_le I.lt h),Nat.le_trans I.sz h,fun y c e=>by obtain ⟨v,z⟩:=I.cell y c e; exact Nat.ne_of_lt (Nat.lt_of_lt_of_le z.lt h),fun p hp=>Nat.ne_of_lt (Nat.lt_of_lt_of_le (Heap.lt_size (I.pin p hp).1) h)⟩
theorem m0p {M:Model} {Q:Unit→Shared→Prop} {head:Value} {hadNext:Bool} (I:Inv X pins σ H s) (tp:Top X) (hA:A.frames=some X.stack) (f:Fly s.heap x C od T) (lx:Loose X pins H x)
    (h:∀ s' t,Inv X pins σ H s'→Fly s'.heap x C od (some t)→Loose X pins H t→Q () s') :
    wpAny M A (do let a ← frameOf X.env; let pl ← entryPlaceOf X.env.locals hadNext; let b ← EntryCells.newEntry head a .none (rawInt X.env.locals) .none pl; setField (.ref x) 1 b) Q E s:=by
  obtain ⟨t1,tf⟩:=id tp
  rw [t1] at hA
  have hlF:s.heap.FunFrames X.base (X.env :: X.outer):=t1 ▸ I.stack
  obtain ⟨o,vs,hx,hc,hd,hdat,hsz,_⟩:=f
  refine f0n hA hlF tf hx hdat hsz fun h' t k1 k2 k3 k4 ⟨ot,ts,k5,k6,k7⟩=>h _ t ?_ ?_ (I.loose_new k4)
  · refine I.stir (ch:=[x]) (fun b hb=>by rw [List.mem_singleton.mp hb]; exact lx) tp (fun b o hb hf e=>k1 b o (fun z=>hb (by simp [z])) (by rw [← t1]; exact hf) e) (fun b o hb e=>k2 b o e fun z=>hb (by simp [z])) (fun b hb=>by rw [List.mem_singleton.mp hb]; exact ⟨_,k3⟩)
  · have hne:t≠x:=Nat.ne_of_gt (Nat.lt_of_lt_of_le (Heap.lt_size hx) k4)
    refine ⟨_,_,k3,(Obj.cls_mapFields _ _).trans hc,(u0e _ _).trans hd,Obj.data_mapFields hdat _,by simpa using hsz,by simp [hsz],hne,ot,ts,k5,k6,k7⟩
theorem j0h {M:Model} {Q:Unit→Shared→Prop} (I:Inv X pins σ H s) (tp:Top X) (hA:A.frames=some X.stack) (f:Fly s.heap x C od T) (lx:Loose X pins H x) (lt:∀ t,T=some t→Loose X pins H t)
    (h:∀ s' t,Inv X pins σ H s'→Fly s'.heap x C od (some t)→Loose X pins H t→Q () s'):wpAny M A (noteFrame (.ref x) X.env) Q E s:=by
  obtain ⟨o,vs,hx,hc,hd,hdat,hsz,hT⟩:=id f
  unfold noteFrame
  simp only [tp.2]
  cases T with
  | none =>
    refine wpAny_bind (wpAny_field hx hdat hT ?_)
    rw [if_neg (by decide)]
    exact m0p I tp hA f lx h
  | some t =>
    obtain ⟨h1,hne,ot,ts,ht,htd,hts⟩:=hT
    have lt:=lt t rfl
    refine wpAny_bind (wpAny_field hx hdat h1 ?_)
    rw [if_pos (show (Value.ref t != Value.none)=true from by simp)]
    have h3:ts[3]?=some ts[3]:=by simp [hts]
    refine wpAny_bind (wpAny_field ht htd h3 ?_)
    by_cases q:(ts[3] == rawInt X.env.locals)=true
    · rw [if_pos q]
      exact wpAny_pure (h s t I f lt)
    · rw [if_neg q]
      refine wpAny_bind (wpAny_setField ht htd hts ?_)
      have other:∀ b,b≠t→(s.heap.update t (Obj.mapFields (·.setIfInBounds 3 Value.none))).get? b=s.heap.get? b:=fun b hb=>Heap.get?_update_other _ _ (Ne.symm hb)
      have ht':=Heap.get?_update_self (Obj.mapFields (·.setIfInBounds 3 Value.none)) ht (Obj.isFreed_of_fields (Obj.data_mapFields htd _))
      have I1:Inv X pins σ H { s with heap:=s.heap.update t (Obj.mapFields (·.setIfInBounds 3 Value.none)) } :=
        I.stir (ch:=[t]) (fun b hb=>by rw [List.mem_singleton.mp hb]; exact lt) tp (fun b o hb hf e=>(other b fun z=>hb (by simp [z])).trans e) (fun b o hb e=>⟨o.slots,(other b fun z=>hb (by simp [z])).trans e⟩) (fun b hb=>by rw [List.mem_singleton.mp hb]; exact ⟨_,ht'⟩)
      exact m0p (T:=some t) I1 tp hA ⟨o,vs,(other x (Ne.symm hne)).trans hx,hc,hd,hdat,hsz,h1,hne,_,_,ht',Obj.data_mapFields htd _,by simpa using hts⟩ lx h
theorem v0h {M:Model} {fr:Option Addr} {Q:Unit→Shared→Prop} (I:Inv X pins σ H s) (tp:Top X) (f:Fly s.heap x C od T) (lt:∀ t,T=some t→Loose X pins H t)
    (h:∀ s',Inv X pins σ H s'→Fly s'.heap x C od T→Q () s'):wpAny M A (setFlight (.ref x) fr) Q E s:=by
  obtain ⟨o,vs,hx,hc,hd,hdat,hsz,hT⟩:=id f
  unfold setFlight
  cases T with
  | none =>
    refine wpAny_bind (wpAny_field hx hdat hT ?_)
    rw [if_neg (by decide)]
    exact wpAny_pure (h s I f)
  | some t =>
    obtain ⟨h1,hne,ot,ts,ht,htd,hts⟩:=hT
    have lt:=lt t rfl
    refine wpAny_bind (wpAny_field hx hdat h1 ?_)
    rw [if_pos (show (Value.ref t != Value.none)=true from by simp)]
    refine wpAny_setField ht htd hts (h _ ?_ ?_)
    · have other:∀ b,b≠t→(s.heap.update t (Obj.mapFields (·.setIfInBounds 3 (fr.elim Value.none fun f=>rawInt f)))).get? b=s.heap.get? b:=fun b hb=>Heap.get?_update_other _ _ (Ne.symm hb)
      have ht':=Heap.get?_update_self (Obj.mapFields (·.setIfInBounds 3 (fr.elim Value.none fun f=>rawInt f))) ht (Obj.isFreed_of_fields (Obj.data_mapFields htd _))
      exact I.stir (ch:=[t]) (fun b hb=>by rw [List.mem_singleton.mp hb]; exact lt) tp (fun b o hb hf e=>(other b fun z=>hb (by simp [z])).trans e) (fun b o hb e=>⟨o.slots,(other b fun z=>hb (by simp [z])).trans e⟩) (fun b hb=>by rw [List.mem_singleton.mp hb]; exact ⟨_,ht'⟩)
    · have ht':=Heap.get?_update_self (Obj.mapFields (·.setIfInBounds 3 (fr.elim Value.none fun f=>rawInt f))) ht (Obj.isFreed_of_fields (Obj.data_mapFields htd _))
      exact ⟨o,vs,(Heap.get?_update_other _ _ hne).trans hx,hc,hd,hdat,hsz,h1,hne,_,_,ht',Obj.data_mapFields htd _,by simpa using hts⟩
end
end L2
namespace L2
open PySem PySem.Spec PyProof.Rows
open PySem.W (XC)
noncomputable abbrev XW:=Addr→Option Addr→St→Hp→Prop
noncomputable def a0w (X:Cx) (pins:List (Addr×Obj)) (W:XW) (e:Value) (s:Shared):Prop :=
  ∃ x C od T σ H,e=.ref x∧Inv X pins σ H s∧Fly s.heap x C od T∧Loose X pins H x∧(∀ t,T=some t→Loose X pins H t)∧W C od σ H
noncomputable def v9 (X:Cx) (W:XW):Prop:=∀ pins e s,a0w X pins W e s→X.xe e s
noncomputable def CX1 (P:Program) (w:World):CXT:=fun outer H s E e s' =>
  ∃ x C od T H',e=.ref x∧s'.os=s.os∧AllBare s'.gens∧Un (frs outer) [] H H' s.heap s'.heap∧HOk P w H' s'.heap∧Fly s'.heap x C od T∧H' x=none∧s.heap.objs.size≤x∧(∀ t,T=some t→H' t=none∧s.heap.objs.size≤t)∧E (.ref C) od H'
section
variable {X:Cx} {pins:List (Addr×Obj)} {σ:St} {H:Hp} {s:Shared} {A:Around} {E:Value→Shared→Prop}
theorem s0r {W:XW} {e:Value} {s':Shared} (I:Inv X pins σ H s) (h:CX1 X.prog X.w X.stack H s (fun Cv od H'=>∃ C,Cv=.ref C∧W C od σ H') e s'):a0w X pins W e s':=by
  obtain ⟨x,C,od,T,H',rfl,os,bare,un,hok,f,hx,hy,ht,C',ec,q⟩:=h
  cases ec
  have I':Inv X pins σ H' s':=I.call' (ch:=[]) os un hok bare fun b z=>by cases z
  have ls:∀ t,H' t=none→s.heap.objs.size≤t→Loose X pins H' t:=fun t h0 hz=>by
    have l:=I.loose_new hz
    exact ⟨h0,l.ne,l.yng,l.cell,l.pin⟩
  exact ⟨x,C,od,T,σ,H',rfl,I',f,ls x hx hy,fun t e=>ls t (ht t e).1 (ht t e).2,q⟩
noncomputable def m0o (sp:Sp) (W:XW) (t:TA):TE:=fun σ H Q=>t σ H fun vs H1=>sp vs H1 Q fun Cv od H'=>∃ C,Cv=.ref C∧W C od σ H'
theorem j0g {k:Nat} {f:Addr} {fd:FuncData} {ps:List Str} {sp:Sp} {W:XW} {Q:VK} {us:List Value} {vs:List V} (F:FnOk X.prog X.w X.K X.mg X.base (CX1 X.prog X.w) k f fd ps sp) (hr:Room k X.A) (hb:Binds X.K fd ps []) (hf:v9 X W)
    (I:Inv X pins σ H s) (r:Vals vs us) (h:sp vs H Q fun Cv od H'=>∃ C,Cv=.ref C∧W C od σ H'):wpAny (model X.prog X.w) X.A (call (.ref f) us) (EP X pins σ Q) X.xe s:=by
  have hl:(us++[]).length=ps.length:=by rw [List.append_nil,← r.length]; exact F.len _ _ _ _ h
  have hbd:=hb s us I.kIn hl
  rw [List.append_nil] at hbd
  refine wpAny_call (codeAny_mono (F.run X.A X.stack s H ⟨us,[]⟩ us vs Q _ hr I.env0 hbd r h) fun r s' hq=>?_)
  cases r with
  | error e=>exact hf pins e s' (s0r I hq)
  | ok fl =>
    cases fl with
    | ret u=>exact I.after hq
    | next=>exact False.elim hq
    | brk=>exact False.elim hq
    | cont=>exact False.elim hq
theorem f0m {k:Nat} {f:Addr} {fd:FuncData} {ps:List Str} {sp:Sp} {W:XW} {x:Str} {p pos:Pos} {e:Expr} {es:List Expr} {t:TA} (F:FnOk X.prog X.w X.K X.mg X.base (CX1 X.prog X.w) k f fd ps sp) (hr:Room k X.A) (hg:Gl X x) (hm:X.mg x=some (.ref f))
    (hk:PySem.W.keepIn X.K (.ref f)=true) (hb:Binds X.K fd ps []) (hf:v9 X W)
    (ha:PA X (e :: es) t) (hdb:(x == ("__debug__" : Str))=false:=by decide) (he:starEach (e :: es) X.env=(false,eval e X.env) :: starEach es X.env:=by rfl) (hpl:(backTo pos (starEach es X.env)).any (·.1)=false:=by rfl) :
    PE X (.Call (.Name x p) (e :: es) [] pos) (m0o sp W t):=by
  intro pins s σ H Q I h
  refine wpAny_Call_Name_kw (z0u I hg hm ?_ hdb)
  refine PySem.W.callWith_K (h₀:=X.base) I.ok.mod.kin hk (thn (ha pos pins s σ H _ I h) fun us s1 ⟨vs,H1,I1,r,q⟩=>⟨I1.kIn,?_⟩) he hpl
  exact j0g F hr hb hf I1 r q
noncomputable def tMakeX (C:Addr) (sp:Sp) (W:XW) (t:TA):TE:=fun σ H Q=>t σ H fun vs H1=>∀ x dx,H1 x=none→H1 dx=none→dx≠x →
  sp (.ref x :: vs) (upd (upd H1 dx (.own x)) x (.ins C dx [])) (fun v H2=>v=.non∧Q (.ref x) H2) fun Cv od H'=>∃ C,Cv=.ref C∧W C od σ H'
theorem f0l {k:Nat} {f C:Addr} {fd:FuncData} {ps:List Str} {sp:Sp} {W:XW} {x:Str} {p pos:Pos} {e:Expr} {es:List Expr} {t:TA} (M:Mk X.K C f) (F:FnOk X.prog X.w X.K X.mg X.base (CX1 X.prog X.w) k f fd ps sp) (hr:Room (k + 1) X.A) (hg:Gl X x)
    (hm:X.mg x=some (.ref C)) (hb:Binds X.K fd ps []) (hf:v9 X W)
    (ha:PA X (e :: es) t) (hdb:(x == ("__debug__" : Str))=false:=by decide) (he:starEach (e :: es) X.env=(false,eval e X.env) :: starEach es X.env:=by rfl) (hpl:(backTo pos (starEach es X.env)).any (·.1)=false:=by rfl) :
    PE X (.Call (.Name x p) (e :: es) [] pos) (tMakeX C sp W t):=by
  intro pins s σ H Q I h
  refine wpAny_Call_Name_kw (z0u I hg hm ?_ hdb)
  refine PySem.W.callWith_K (h₀:=X.base) I.ok.mod.kin M.kp (thn (ha pos pins s σ H _ I h) fun us s1 ⟨vs,H1,I1,r,q⟩=>⟨I1.kIn,?_⟩) he hpl
  have hq:=q (s1.heap.objs.size + 1) s1.heap.objs.size (I1.hok.fresh (Nat.le_succ _)) (I1.hok.fresh (Nat.le_refl _)) (Nat.ne_of_lt (Nat.lt_succ_self _))
  have I2:=Inv.made (C:=C) I1
  have r2:Vals (V.ref (s1.heap.objs.size + 1) :: vs) (Value.ref (s1.heap.objs.size + 1) :: us):=.cons rfl r
  have hl:(Value.ref (s1.heap.objs.size + 1) :: us++[]).length=ps.length:=by
    have e:=r2.length
    rw [F.len _ _ _ _ hq] at e
    rw [List.append_nil]
    exact e.symm
  have hbd:=hb _ (Value.ref (s1.heap.objs.size + 1) :: us) I2.kIn hl
  rw [List.append_nil] at hbd
  refine wpAny_call (f0x (f:=f) I1.kIn M.makes M.init (beq_iff_eq.mp M.fn) (codeAny_mono (F.run _ X.stack _ _ ⟨Value.ref (s1.heap.objs.size + 1) :: us,[]⟩ (Value.ref (s1.heap.objs.size + 1) :: us) _ _ _ (hr.make C us [])
    (I2.env0.make C us []) hbd r2 hq) fun r s' hq'=>?_))
  cases r with
  | error e=>exact hf pins e s' (s0r I2 hq')
  | ok fl =>
    cases fl with
    | ret u =>
      obtain ⟨v,H',I3,rv,ev,q3⟩:=I2.after hq'
      subst ev
      exact ⟨rv,⟨V.ref (s1.heap.objs.size + 1),H',I3,rfl,q3⟩⟩
    | next=>exact False.elim hq'
    | brk=>exact False.elim hq'
    | cont=>exact False.elim hq'
end
section
variable {P:Program} {w:World} {K:PySem.W.Frag} {mg:Str→Option Value} {base:Heap}
noncomputable abbrev cxX (P:Program) (w:World) (K:PySem.W.Frag) (mg:Str→Option Value) (base:Heap) (N:List Str) (qual:Str) (scope:Scope) (f:Addr) (cd:Value) (A:Around) (outer:List Env) (s:Shared) (H:Hp) (E:XK):Cx :=
  cxOf (CX1 P w) P w K mg base N qual scope f cd A outer s H E
theorem i0 {N:List Str} {qual:Str} {scope:Scope} {f:Addr} {cd:Value} {A:Around} {outer:List Env} {s:Shared} {H:Hp} {E:XK}:v9 (cxX P w K mg base N qual scope f cd A outer s H E) fun C od _ H'=>E (.ref C) od H':=by
  intro pins e s' h
  obtain ⟨x,C,od,T,σ,H',rfl,I,ff,lx,lt,q⟩:=h
  have tp:Top (cxX P w K mg base N qual scope f cd A outer s H E):=⟨rfl,rfl⟩
  show wpAny _ _ (leaving _ (.ref x)) _ _ _
  unfold leaving
  refine wpAny_bind (j0h I tp I.ok.frames ff lx lt fun s1 t I1 f1 l1=>v0h I1 tp f1 (fun t' e=>by cases e; exact l1) fun s2 I2 f2=>?_)
  exact ⟨x,C,od,some t,H',rfl,I2.os,I2.bare,I2.base,I2.hok,f2,lx.free,lx.yng,fun t' e=>by cases e; exact ⟨l1.free,l1.yng⟩,q⟩
theorem Fun.okX {x qual:Str} {st:Stmt} {f:Addr} {fd:FuncData} {N ps:List Str} {k:Nat} {sp:Sp} (F:Fun K x qual st f fd) (S:FnScope N ps (defScope st)) (len:∀ vs H Q E,sp vs H Q E→vs.length=ps.length)
    (hbody:∀ (cdv:Value) (A:Around) (outer:List Env) (s:Shared) (H:Hp) (vs:List V) (Q:VK) (E:XK),Room k (A.deeper (envOfC qual (defScope st) s.heap.objs.size f cdv))→sp vs H Q E →
      ∃ t,PSs (cxX P w K mg base N qual (defScope st) f cdv A outer s H E) (defBody st) t∧t { nx:=fun _ H'=>Q .non H',rt:=Q } (start N vs) H):FnOk P w K mg base (CX1 P w) (k + 1) f fd ps sp:=by
  obtain ⟨oc,od,kV,doc,pm,an,cdv,ct,osl,rfl,lk,hcd⟩:=F.ex
  exact fn_of lk hcd S len fun A outer s H vs Q E hr hsp=>hbody cdv A outer s H vs Q E hr hsp
end
section
variable {X:Cx} {pins:List (Addr×Obj)} {σ:St} {H:Hp} {s:Shared}
noncomputable def drop (H:Hp) (x:Addr):Hp:=fun b=>if b=x then none else H b
theorem z0p {H:Hp} {x b:Addr} (h:b≠x):drop H x b=H b:=if_neg h
theorem z0o {H:Hp} {x:Addr}:drop H x x=none:=if_pos rfl
theorem Inv.drop {φ:Heap→Prop} {x:Addr} (I:Inv X pins σ H s) (e:H x=some (.ext φ)):Inv X pins σ (drop H x) s:=by
  have ne:∀ b u,H b=some u→(∀ ψ,u≠.ext ψ)→b≠x:=fun b u q n z=>by rw [z,e] at q; exact n φ (Option.some.inj q).symm
  have nn:∀ b,H b=none→L2.drop H x b=none:=fun b q=>by
    by_cases z:b=x
    · rw [z]; exact z0o
    · rw [z0p z]; exact q
  have hown:∀ b a,H b=some (.own a)→L2.drop H x b=some (.own a):=fun b a q=>by rw [z0p (ne b _ q fun ψ z=>by cases z)]; exact q
  have htup:∀ b xs,H b=some (.tup xs)→L2.drop H x b=some (.tup xs):=fun b xs q=>by rw [z0p (ne b _ q fun ψ z=>by cases z)]; exact q
  refine ⟨I.ok,I.os,I.bare,⟨I.base.keep,I.base.slot,fun b o q n hx=>nn b (I.base.free b o q n hx),I.base.there,fun b xs q=>htup b xs (I.base.tups b xs q),fun b o u q=>?_,fun b ps q=>?_⟩,I.loc,I.cell,nn _ I.free,fun y c q=>nn c (I.freeC y c q),fun p hp=>?_,fun b u q=>?_,I.len⟩
  · have z:=I.base.frzs b o u q
    rw [z0p (ne b _ z fun ψ z=>by cases z)]; exact z
  · obtain ⟨m,z⟩:=I.base.tbls b ps q
    exact ⟨m,by rw [z0p (ne b _ z fun ψ z=>by cases z)]; exact z⟩
  · obtain ⟨a,b,c⟩:=I.pin p hp
    exact ⟨a,nn _ b,c⟩
  · have hb:b≠x:=fun z=>by rw [z,z0o] at q; cases q
    rw [z0p hb] at q
    exact (I.hok b u q).stay (fun _ _ _ z=>z) (fun c z=>hown c _ z) fun c xs z=>htup c xs z
theorem q0w {M:Model} {A:Around} {E:Value→Shared→Prop} {env:Env} {xt:Sem Value} {Q:Flow→Shared→Prop} {C:Addr} {s:Shared} (hh:A.handled=none)
    (h:wpAny M A xt (fun v s1=>∃ e od vs nm qn N bs bm hdct sn sub ab col dd k0 k1 k2 k3 k5 nid,v=.ref e∧s1.heap.get? C=some (excClassObj nm qn C N bs bm hdct sn sub ab col dd k0 k1 k2 k3 k5 nid)∧bm.contains (.type "BaseException")=true ∧
      s1.heap.get? e=some ⟨.ref C,od,.fields vs,#[]⟩∧vs[1]?=some .none∧E (.ref e) s1) E s) :
    wpAny M A (raiseStmt env (some xt) none) Q E s:=by
  unfold raiseStmt
  refine wpAny_bind (wpAny_mono h (fun v s1 h1=>?_) fun _ _ x=>x)
  obtain ⟨e,od,vs,nm,qn,N,bs,bm,hdct,sn,sub,ab,col,dd,k0,k1,k2,k3,k5,nid,rfl,hC,hb,he,hv,hE⟩:=h1
  have hcB:(Value.ref C :: bm).contains (.type "BaseException")=true:=by rw [List.contains_cons,hb,Bool.or_true]
  obtain ⟨hp,g,d,tk,os⟩:=s1
  repeat (first | with_reducible refine wpAny_loadPart_at he ?_ | with_reducible refine wpAny_loadPart_at hC ?_ | (with_reducible refine wpAny_isSubtype_exc hC ?_; rw [hcB]) | wp_step)
  rw [hv]
  refine wpAny_pure ?_
  rw [if_neg (by decide)]
  exact wpAny_pure (wpAny_raiseNew_none hh hE)
theorem m0n {M:Model} {C x:Addr} {od:Option Addr} {W:XW} (hf:v9 X W) (I:Inv X pins σ H s) (e:H x=some (XO true x C od)) (hK:xcIn X.K C=true) (hy:X.s₀.heap.objs.size≤x) (q:W C od σ (L2.drop H x)) :
    ∃ e' od' vs nm qn N bs bm hdct sn sub ab col dd k0 k1 k2 k3 k5 nid,Value.ref x=.ref e'∧s.heap.get? C=some (excClassObj nm qn C N bs bm hdct sn sub ab col dd k0 k1 k2 k3 k5 nid)∧bm.contains (.type "BaseException")=true ∧
      s.heap.get? e'=some ⟨.ref C,od',.fields vs,#[]⟩∧vs[1]?=some .none∧X.xe (.ref e') s:=by
  obtain ⟨o,vs,hx,h1,h2,h3,h40⟩:=XO.get I.hok e
  obtain ⟨h4,h5⟩:=h40 rfl
  clear h40
  obtain ⟨nm,qn,N,bs,bm,hdct,sn,sub,ab,col,dd,k0,k1,k2,k3,k5,hC,hT⟩:=d0g I.kIn hK
  have I':=Inv.drop I e
  obtain ⟨oc,odd,odt,osl⟩:=o
  dsimp only at h1 h2 h3 h4
  subst h1 h2 h3 h4
  refine ⟨x,odd,vs,nm,qn,N,bs,bm,hdct,sn,sub,ab,col,dd,k0,k1,k2,k3,k5,_,rfl,hC,hT.hasType rfl,hx,h5,?_⟩
  refine hf pins _ _ ⟨x,C,odd,none,σ,_,rfl,I',⟨_,vs,hx,rfl,rfl,rfl,(Array.getElem?_eq_some_iff.mp h5).1,h5⟩,⟨z0o,fun z=>?_,hy,fun y c q z=>?_,fun p hp z=>?_⟩,(fun t z=>by cases z),q⟩
  · have:=I.free; rw [← z,e] at this; cases this
  · have:=I.freeC y c q; rw [z,e] at this; cases this
  · have:=(I.pin p hp).2.1; rw [z,e] at this; cases this
noncomputable def j0f (C:Addr) (sp:Sp) (W:XW) (t:TA):TS:=fun _ σ H=>t σ H fun vs H1=>vs.length≤sizeLine∧∀ x,H1 x=none →
  sp (.ref x :: vs) (upd H1 x (XO true x C none)) (fun v H2=>v=.non∧∃ od,H2 x=some (XO true x C od)∧W C od σ (L2.drop H2 x)) E0
noncomputable def a0v (C:Addr) (W:XW):TS:=fun _ σ H=>∀ x,H x=none→W C none σ (L2.drop (upd H x (XO true x C none)) x)
theorem j0e {k:Nat} {f C:Addr} {fd:FuncData} {ps:List Str} {sp:Sp} {W:XW} {x:Str} {p cpos pos:Pos} {e:Expr} {es:List Expr} {t:TA} (hc:X.calm=true) (hf:v9 X W) (M:XMk X.K C f) (F:FnOk X.prog X.w X.K X.mg X.base CX0 k f fd ps sp) (hr:Room (k + 1) X.A)
    (hg:Gl X x) (hm:X.mg x=some (.ref C)) (hb:Binds X.K fd ps [])
    (ha:PA X (e :: es) t) (hdb:(x == ("__debug__" : Str))=false:=by decide) (he:starEach (e :: es) X.env=(false,eval e X.env) :: starEach es X.env:=by rfl) (hpl:(backTo cpos (starEach es X.env)).any (·.1)=false:=by rfl) :
    PS X (.Raise (some (.Call (.Name x p) (e :: es) [] cpos)) none pos) (j0f C sp W t):=by
  intro pins s σ H D I h
  show wpAny _ _ (do standAt pos; raiseStmt X.env (some (do let v ← eval (.Call (.Name x p) (e :: es) [] cpos) X.env; standAt pos; pure v)) none) _ _ _
  refine wpAny_bind (wpAny_standAt (q0w (C:=C) (I.ok.hd hc) (wpAny_bind (thn (Q:=fun v s1=>∃ x H2 od,v=.ref x∧X.s₀.heap.objs.size≤x∧Inv X pins σ H2 s1∧H2 x=some (XO true x C od)∧W C od σ (L2.drop H2 x)) ?_ fun v s1 ⟨x,H2,od,ev,hy,I2,e2,q2⟩=>wpAny_bind (wpAny_standAt (wpAny_pure ?_))))))
  · refine wpAny_Call_Name_kw (z0u I hg hm ?_ hdb)
    refine PySem.W.callWith_K (h₀:=X.base) I.ok.mod.kin M.kp (thn (ha cpos pins s σ H _ I h) fun us s1 ⟨vs,H1,I1,r,hz,q⟩=>⟨I1.kIn,?_⟩) he hpl
    refine thn (q0y (Q:=fun v H2=>∃ od,H2 (s1.heap.objs.size + 1)=some (XO true (s1.heap.objs.size + 1) C od)∧W C od σ (L2.drop H2 (s1.heap.objs.size + 1))) M F hr hb (pass0 (X:=X)) I1 r hz (q _ (I1.hok.fresh (Nat.le_succ _)))) fun v s2 ⟨ev,y,H2,I2,ry,od,q1,q2⟩=>?_
    exact ⟨_,H2,od,ev,Nat.le_trans I1.sz (Nat.le_succ _),I2,q1,q2⟩
  · subst ev
    exact m0n (M:=model X.prog X.w) hf I2 e2 M.sh hy q2
theorem j0d {C:Addr} {W:XW} {x:Str} {p cpos pos:Pos} (hc:X.calm=true) (hf:v9 X W) (M:XMk0 X.K C) (hK:xcIn X.K C=true) (hg:Gl X x) (hm:X.mg x=some (.ref C)) (hdb:(x == ("__debug__" : Str))=false:=by decide) :
    PS X (.Raise (some (.Call (.Name x p) [] [] cpos)) none pos) (a0v C W):=by
  intro pins s σ H D I h
  show wpAny _ _ (do standAt pos; raiseStmt X.env (some (do let v ← eval (.Call (.Name x p) [] [] cpos) X.env; standAt pos; pure v)) none) _ _ _
  refine wpAny_bind (wpAny_standAt (q0w (C:=C) (I.ok.hd hc) (wpAny_bind (thn (Q:=fun v s1=>∃ x H2,v=.ref x∧X.s₀.heap.objs.size≤x∧Inv X pins σ H2 s1∧H2 x=some (XO true x C none)∧W C none σ (L2.drop H2 x)) ?_ fun v s1 ⟨x,H2,ev,hy,I2,e2,q2⟩=>wpAny_bind (wpAny_standAt (wpAny_pure ?_))))))
  · refine wpAny_Call_Name_kw (z0u I hg hm ?_ hdb)
    refine PySem.W.callWith_K0 I.kIn M.kp (thn (f0p (Q:=fun v H2=>v=.ref (s.heap.objs.size + 1)∧H2 (s.heap.objs.size + 1)=some (XO true (s.heap.objs.size + 1) C none)∧W C none σ (L2.drop H2 (s.heap.objs.size + 1))) M I ⟨rfl,o3,h _ (I.hok.fresh (Nat.le_succ _))⟩) fun v s2 ⟨y,H2,I2,ry,ey,q1,q2⟩=>?_)
    subst ey
    exact ⟨_,H2,ry,Nat.le_trans I.sz (Nat.le_succ _),I2,q1,q2⟩
  · subst ev
    exact m0n (M:=model X.prog X.w) hf I2 e2 hK hy q2
end
end L2
namespace L2
open PySem PySem.Spec PyProof.Rows
open PySem.W (XC)
section
variable {X:Cx} {pins:List (Addr×Obj)} {σ:St} {H:Hp} {s:Shared}
theorem s0q {M:Model} {A:Around} {E:Value→Shared→Prop} {i:Nat} {n:Str} {pos:Pos} {Q:Unit→Shared→Prop} (I:Inv X pins σ H s) (hN:X.N.Nodup) (hi:X.N[i]?=some n) (hk:X.env.scope.names.lookup n=some .local)
    (h:∀ s',Inv X pins (σ.set i none) H s'→Q () s'):wpAny M A (do bindName X.env n .none; unbindBehindTheSuite X.env n pos) Q E s:=by
  have hcls:(X.env.scope.kind == .class || (X.env.scope.kind == .module && X.env.locals != X.env.globals))=false:=by rw [I.ok.kind]; rfl
  refine wpAny_bind (wpAny_bindName (v0w (v:=.non) I hN hi (.inl hk) rfl (fun s1 I1=>?_) (.inr hk)))
  unfold unbindBehindTheSuite
  refine wpAny_onRaise ?_
  obtain ⟨m,hn,hl⟩:=id I1.loc
  have hiσ:i < σ.length:=by rw [I.len]; exact (List.getElem?_eq_some_iff.mp hi).1
  obtain ⟨u,ru,l⟩:=hl i n .non hi (List.getElem?_set_self hiσ) (.inl hk)
  have hm:m n=some u:=by
    rcases l with ⟨_,z⟩ | ⟨z,_⟩
    · exact z
    · have z':X.env.scope.names.lookup n=some .cell∨X.env.scope.names.lookup n=some .free:=z
      rw [hk] at z'
      rcases z' with z' | z' <;> cases z'
  refine wpAny_unbindName_local hk hn hm hcls fun h' w hn' hs=>h _ ?_
  have cne:=I1.cne
  obtain ⟨oL,_,_,hoL,_⟩:=id hn
  have up:∀ b,X.s₀.heap.objs.size≤X.env.locals→∀ o,X.s₀.heap.get? b=some o→b≠X.env.locals:=fun b hz o e=>Nat.ne_of_lt (Nat.lt_of_lt_of_le (Heap.lt_size e) hz)
  refine ⟨I1.ok,I1.os,I1.bare,⟨fun b o e n hb hx=>?_,fun b o e n hb hx=>?_,I1.base.free,fun b o e hx=>?_,I1.base.tups,I1.base.frzs,I1.base.tbls⟩,⟨_,hn',fun j y v' e1 e2 e3=>?_⟩,fun y c e=>?_,I1.free,I1.freeC,fun p hp=>?_,fun b ob e=>?_,?_⟩
  · exact (hs.2 b (up b I1.ok.above o e)).trans (I1.base.keep b o e n hb hx)
  · obtain ⟨sl,q⟩:=I1.base.slot b o e n hb hx
    exact ⟨sl,(hs.2 b (up b I1.ok.above o e)).trans q⟩
  · obtain ⟨o',q⟩:=I1.base.there b o e hx
    exact ⟨o',(hs.2 b (up b I1.ok.above o e)).trans q⟩
  · by_cases hj:j=i
    · subst hj
      rw [List.getElem?_set_self hiσ] at e2
      cases e2
    · rw [List.getElem?_set_ne (Ne.symm hj)] at e2
      obtain ⟨u',r',q⟩:=hl j y v' e1 (by rw [List.getElem?_set_ne (Ne.symm hj)]; exact e2) e3
      refine ⟨u',r',?_⟩
      rcases q with ⟨k,e⟩ | ⟨k,c,e,z⟩
      · refine .inl ⟨k,?_⟩
        have:y≠n:=fun e=>hj (s0w hN e1 (e ▸ hi))
        simp [this,e]
      · exact .inr ⟨k,c,e,z.sameBut hs (cne y c e)⟩
  · obtain ⟨w',z⟩:=I1.cell y c e
    exact ⟨w',z.sameBut hs (cne y c e)⟩
  · obtain ⟨e,n,ne,nf,d⟩:=I1.pin p hp
    exact ⟨(hs.2 p.1 ne).trans e,n,ne,nf,d⟩
  · refine (I1.hok b ob e).stay (fun c w' hc q=>(hs.2 c ?_).trans q) (fun _ q=>q) fun _ _ q=>q
    intro z
    have fr:=I1.free
    rw [← z] at fr
    rcases hc with hc | hc
    · rw [hc,e] at fr; cases fr
    · rw [hc] at fr; cases fr
  · rw [List.length_set]; exact I.len
noncomputable abbrev Cx.more (X:Cx) (pins:List (Addr×Obj)):Cx:={ X with pn:=X.pn++pins }
noncomputable abbrev Cx.tr (X:Cx) (pins:List (Addr×Obj)) (W:XW):Cx:={ X with pn:=X.pn++pins,xe:=fun e s'=>a0w (X.more pins) [] W e s' }
noncomputable abbrev Cx.hdl (X:Cx) (x:Addr):Cx:={ X with A:=X.A.mark (some (.ref x)),calm:=false,xe:=fun _ _=>False }
theorem okMore (ok:X.Ok):(X.more pins).Ok:=⟨ok.mod,ok.kind,ok.glob,ok.blt,ok.above,ok.inj,ok.has,ok.cab,ok.hd,ok.frames,ok.stk,ok.exf,ok.bs,ok.bsz,ok.noex,ok.exfs,ok.funs,ok.frf⟩
theorem Inv.tr {W:XW} (I:Inv X pins σ H s):Inv (X.tr pins W) [] σ H s :=
  ⟨⟨I.ok.mod,I.ok.kind,I.ok.glob,I.ok.blt,I.ok.above,I.ok.inj,I.ok.has,I.ok.cab,I.ok.hd,I.ok.frames,I.ok.stk,I.ok.exf,I.ok.bs,I.ok.bsz,I.ok.noex,I.ok.exfs,I.ok.funs,I.ok.frf⟩,I.os,I.bare,I.base,I.loc,I.cell,I.free,I.freeC,fun p hp=>I.pin p (by simpa using hp),I.hok,I.len⟩
theorem Inv.untr {pins':List (Addr×Obj)} {Y:Cx} {W:XW} (hY:Y=X.tr pins W∨Y=X.more pins) (I:Inv Y pins' σ H s):Inv X pins σ H s:=by
  rcases hY with rfl | rfl
  · exact ⟨⟨I.ok.mod,I.ok.kind,I.ok.glob,I.ok.blt,I.ok.above,I.ok.inj,I.ok.has,I.ok.cab,I.ok.hd,I.ok.frames,I.ok.stk,I.ok.exf,I.ok.bs,I.ok.bsz,I.ok.noex,I.ok.exfs,I.ok.funs,I.ok.frf⟩,I.os,I.bare,I.base,I.loc,I.cell,I.free,I.freeC,fun p hp=>I.pin p (List.mem_append_left _ hp),I.hok,I.len⟩
  · exact ⟨⟨I.ok.mod,I.ok.kind,I.ok.glob,I.ok.blt,I.ok.above,I.ok.inj,I.ok.has,I.ok.cab,I.ok.hd,I.ok.frames,I.ok.stk,I.ok.exf,I.ok.bs,I.ok.bsz,I.ok.noex,I.ok.exfs,I.ok.funs,I.ok.frf⟩,I.os,I.bare,I.base,I.loc,I.cell,I.free,I.freeC,fun p hp=>I.pin p (List.mem_append_left _ hp),I.hok,I.len⟩
theorem Inv.hdl {x:Addr} (I:Inv X pins σ H s):Inv (X.hdl x) pins σ H s :=
  ⟨⟨I.ok.mod,I.ok.kind,I.ok.glob,I.ok.blt,I.ok.above,I.ok.inj,I.ok.has,I.ok.cab,(fun z=>by cases z),I.ok.frames,I.ok.stk,I.ok.exf,I.ok.bs,I.ok.bsz,I.ok.noex,I.ok.exfs,I.ok.funs,I.ok.frf⟩,I.os,I.bare,I.base,I.loc,I.cell,I.free,I.freeC,I.pin,I.hok,I.len⟩
theorem Inv.unhdl {x:Addr} (ok:X.Ok) (I:Inv (X.hdl x) pins σ H s):Inv X pins σ H s:=⟨ok,I.os,I.bare,I.base,I.loc,I.cell,I.free,I.freeC,I.pin,I.hok,I.len⟩
theorem m0m {W:XW}:v9 (X.tr pins W) W:=by
  intro pins' e s' h
  obtain ⟨x,C,od,T,σ,H',rfl,I,f,lx,lt,q⟩:=h
  have ls:∀ t,Loose (X.tr pins W) pins' H' t→Loose (X.more pins) [] H' t:=fun t l=>⟨l.free,l.ne,l.yng,l.cell,fun p hp=>l.pin p (List.mem_append_left _ (by simpa using hp))⟩
  have I0:Inv X pins σ H' s':=I.untr (W:=W) (.inl rfl)
  exact ⟨x,C,od,T,σ,H',rfl,⟨okMore I0.ok,I.os,I.bare,I.base,I.loc,I.cell,I.free,I.freeC,fun p hp=>I0.pin p (by simpa using hp),I.hok,I.len⟩,f,ls x lx,fun t e=>ls t (lt t e),q⟩
theorem SP.untr {W:XW} {D:Ends} {f:Flow} {s':Shared} (h:SP (X.tr pins W) [] D f s'):SP X pins D f s':=by
  cases f with
  | next=>obtain ⟨σ',H',I,q⟩:=h; exact ⟨σ',H',I.untr (W:=W) (.inl rfl),q⟩
  | brk=>obtain ⟨σ',H',I,q⟩:=h; exact ⟨σ',H',I.untr (W:=W) (.inl rfl),q⟩
  | cont=>obtain ⟨σ',H',I,q⟩:=h; exact ⟨σ',H',I.untr (W:=W) (.inl rfl),q⟩
  | ret u=>obtain ⟨v,σ',H',I,r,q⟩:=h; exact ⟨v,σ',H',I.untr (W:=W) (.inl rfl),r,q⟩
theorem SP.unhdl {x:Addr} {D:Ends} {f:Flow} {s':Shared} (ok:X.Ok) (h:SP (X.hdl x) pins D f s'):SP X pins D f s':=by
  cases f with
  | next=>obtain ⟨σ',H',I,q⟩:=h; exact ⟨σ',H',I.unhdl ok,q⟩
  | brk=>obtain ⟨σ',H',I,q⟩:=h; exact ⟨σ',H',I.unhdl ok,q⟩
  | cont=>obtain ⟨σ',H',I,q⟩:=h; exact ⟨σ',H',I.unhdl ok,q⟩
  | ret u=>obtain ⟨v,σ',H',I,r,q⟩:=h; exact ⟨v,σ',H',I.unhdl ok,r,q⟩
noncomputable abbrev XTS:=Addr→Option Addr→TS
noncomputable def PH (X:Cx) (hs:List ExceptHandler) (t:XTS):Prop:=∀ (pins:List (Addr×Obj)) (x C:Addr) (od T:Option Addr) (s:Shared) (σ:St) (H:Hp) (D:Ends),Inv X pins σ H s→Fly s.heap x C od T→Loose X pins H x→(∀ t,T=some t→Loose X pins H t)→t C od D σ H →
  wpAny (model X.prog X.w) X.A (handleBy (.ref x) X.env hs) (SP X pins D) X.xe s
theorem ph_nil:PH X [] fun _ _ _ _ _=>False:=fun _ _ _ _ _ _ _ _ _ _ _ _ _ h=>h.elim
structure XHd (K:PySem.W.Frag) (D:Addr):Prop where
  ty:PySem.W.typeIn K (.ref D)=some (.type "type")
  cl:(PySem.W.clsIn K D).isSome=true
  sub:PySem.W.mroIn K D (.type "BaseException")=some true
theorem j0c {A:Around} {E:Value→Shared→Prop} {x C D:Addr} {od T:Option Addr} {b:Bool} {Q:Bool→Shared→Prop} (I:Inv X pins σ H s) (f:Fly s.heap x C od T) (d:XHd X.K D) (hb:PySem.W.mroIn X.K C (.ref D)=some b) (q:Q b s) :
    wpAny (model X.prog X.w) A (excMatches (.ref x) (.ref D)) Q E s:=by
  obtain ⟨o,vs,hx,hc,_⟩:=f
  have L1:=PySem.W.looks_typeIn (M:=model X.prog X.w) I.kIn d.ty
  have L2:=PySem.W.looks_mroIn (M:=model X.prog X.w) I.kIn d.sub
  have L3:=PySem.W.looks_mroIn (M:=model X.prog X.w) I.kIn hb
  have L0:PySem.W.Looks (model X.prog X.w) s.heap (typeOf (.ref x)) (.ref C):=hc ▸ (PySem.W.Looks.ld hx).andThen .now
  have L4:PySem.W.Looks (model X.prog X.w) s.heap (isType (.ref D)) true:=by
    have z:=d.cl
    unfold PySem.W.clsIn at z
    split at z
    · rename_i ho
      intro A' Q' E' s' k q
      unfold isType loadHead
      exact wpAny_bind (wpAny_loadPart (k _ _ (I.kIn _ _ ho)) (wpAny_pure q))
    · cases z
  have LT:PySem.W.Looks (model X.prog X.w) s.heap (isInstance (.ref D) (.type "tuple")) false:=L1.andThen (PySem.W.Looks.of_pure tc_notTuple)
  have LE:PySem.W.Looks (model X.prog X.w) s.heap (isExcClass (.ref D)) true:=L4.andThen L2
  unfold excMatches
  refine wpAny_bind (LT.here ?_)
  dsimp only
  rw [if_neg Bool.false_ne_true]
  refine wpAny_bind (wpAny_pure ?_)
  simp only [List.forIn_cons,List.forIn_nil]
  refine wpAny_bind (wpAny_bind (wpAny_bind (LE.here ?_)))
  rw [if_neg (by decide)]
  refine wpAny_pure (wpAny_pure (wpAny_bind (L0.here (wpAny_bind (wpAny_bind (wpAny_bind (L3.here ?_)))))))
  cases b with
  | true =>
    rw [if_pos rfl]
    exact wpAny_pure (wpAny_pure (wpAny_pure q))
  | false =>
    rw [if_neg Bool.false_ne_true]
    exact wpAny_pure (wpAny_pure (wpAny_pure q))
theorem Inv.track {x C:Addr} {od T:Option Addr} (I:Inv X pins σ H s) (l:Loose X pins H x) (f:Fly s.heap x C od T):Inv X pins σ (upd H x (XO false x C od)) s:=by
  obtain ⟨o,vs,hx,h1,h2,h3,_⟩:=f
  have nx:∀ b u,H b=some u→b≠x:=fun b u q z=>by rw [z,l.free] at q; cases q
  refine ⟨I.ok,I.os,I.bare,⟨I.base.keep,I.base.slot,fun b ob q n hx=>?_,I.base.there,fun b xs q=>?_,fun b ob u q=>?_,fun b ps q=>?_⟩,I.loc,I.cell,?_,fun y c q=>?_,fun p hp=>?_,fun b u q=>?_,I.len⟩
  · rw [y0 (Nat.ne_of_lt (Nat.lt_of_lt_of_le (Heap.lt_size q) l.yng))]
    exact I.base.free b ob q n hx
  · have z:=I.base.tups b xs q
    rw [y0 (nx b _ z)]; exact z
  · have z:=I.base.frzs b ob u q
    rw [y0 (nx b _ z)]; exact z
  · obtain ⟨m,z⟩:=I.base.tbls b ps q
    exact ⟨m,by rw [y0 (nx b _ z)]; exact z⟩
  · rw [y0 l.ne.symm]; exact I.free
  · rw [y0 (l.cell y c q)]; exact I.freeC y c q
  · obtain ⟨a,b,c⟩:=I.pin p hp
    exact ⟨a,by rw [y0 (l.pin p hp)]; exact b,c⟩
  · by_cases z:b=x
    · subst z
      rw [o3] at q
      cases q
      exact XO.ok ⟨o,vs,hx,h1,h2,h3,fun z=>by cases z⟩
    · rw [y0 z] at q
      exact (I.hok b u q).stay (fun _ _ _ w=>w) (fun c w=>by rw [y0 (nx c _ w)]; exact w) fun c xs w=>by rw [y0 (nx c _ w)]; exact w
theorem ph_as {D:Addr} {y n:Str} {i:Nat} {np pos:Pos} {b₀:Stmt} {suite:List Stmt} {rest:List ExceptHandler} {ts:TS} {tr:XTS} (tp:Top X) (d:XHd X.K D) (hg:Gl X y) (hm:X.mg y=some (.ref D)) (hN:X.N.Nodup) (hi:X.N[i]?=some n) (hk:X.env.scope.names.lookup n=some .local)
    (hs:∀ x,PSs (X.hdl x) (b₀ :: suite) ts) (hr:PH X rest tr) (hdb:(y == ("__debug__" : Str))=false:=by decide) :
    PH X (.ExceptHandler (some (.Name y np)) (some n) (b₀ :: suite) pos :: rest) (fun C od E σ H=>∃ b,PySem.W.mroIn X.K C (.ref D)=some b∧if b=true then
      (∀ x,H x=none→ts { nx:=fun σ' H'=>E.nx (σ'.set i none) H',rt:=E.rt,bk:=fun σ' H'=>E.bk (σ'.set i none) H',ct:=fun σ' H'=>E.ct (σ'.set i none) H' } (σ.set i (some (.ref x))) (upd H x (XO false x C od))) else tr C od E σ H):=by
  intro pins x C od T s σ H E I f lx lt ⟨b,hb,q⟩
  refine wpAny_handleBy_cons (codeAny_handlers_test (z0u (X:=X.hdl x) I.hdl hg hm ?_ hdb)) (by intro z; cases z)
  refine j0c I f d hb ?_
  cases b with
  | true =>
    rw [if_pos rfl] at q
    refine codeAny_handlers_suite_as (v0h I tp f lt fun s1 I1 f1=>?_)
    have I2:Inv X pins σ (upd H x (XO false x C od)) s1:=I1.track lx f1
    refine v0w (v:=.ref x) I2 hN hi (.inl hk) rfl (fun s2 I3=>?_) (.inr hk)
    refine wpAny_mono (hs x pins s2 _ _ _ I3.hdl (q x lx.free)) (fun fl s3 z=>?_) fun _ _ z=>z.elim
    have z:=z.unhdl I.ok
    cases fl with
    | next=>obtain ⟨σ',H',I4,q4⟩:=z; exact s0q I4 hN hi hk fun s4 I5=>⟨_,H',I5,q4⟩
    | brk=>obtain ⟨σ',H',I4,q4⟩:=z; exact s0q I4 hN hi hk fun s4 I5=>⟨_,H',I5,q4⟩
    | cont=>obtain ⟨σ',H',I4,q4⟩:=z; exact s0q I4 hN hi hk fun s4 I5=>⟨_,H',I5,q4⟩
    | ret u=>obtain ⟨v,σ',H',I4,r4,q4⟩:=z; exact s0q I4 hN hi hk fun s4 I5=>⟨v,_,H',I5,r4,q4⟩
  | false =>
    rw [if_neg Bool.false_ne_true] at q
    exact hr pins x C od T s σ H E I f lx lt q
noncomputable def tTry (tb:XW→TS) (th:XTS):TS:=fun D σ H=>∃ W:XW,tb W D σ H∧∀ C od σ' H',W C od σ' H'→th C od D σ' H'
theorem ps_try {body:List Stmt} {h₀:ExceptHandler} {hs:List ExceptHandler} {pos:Pos} {tb:XW→TS} {th:XTS} (tp:Top X) (hb:∀ pins W,PSs (X.tr pins W) body (tb W)) (hh:PH X (h₀ :: hs) th):PS X (.Try body (h₀ :: hs) [] [] pos) (tTry tb th):=by
  intro pins s σ H D I ⟨W,q,hW⟩
  refine wpAny_Try_except (wpAny_mono (hb pins W [] s σ H D I.tr q) (fun f s1 z=>?_) fun e s1 z=>?_)
  · have z:=z.untr
    cases f with
    | next=>exact wpAny_execs_nil z
    | brk=>exact z
    | cont=>exact z
    | ret u=>exact z
  · obtain ⟨x,C,od,T,σ',H',rfl,I1,f,lx,lt,q1⟩:=z
    have I0:Inv X pins σ' H' s1:=I1.untr (W:=W) (.inr rfl)
    have ls:∀ t,Loose (X.more pins) [] H' t→Loose X pins H' t:=fun t l=>⟨l.free,l.ne,l.yng,l.cell,fun p hp=>l.pin p (List.mem_append_left _ hp)⟩
    refine j0h I0 tp I0.ok.frames f (ls x lx) (fun t e=>ls t (lt t e)) fun s2 t I2 f2 l2=>?_
    refine v0h I2 tp f2 (fun t' e=>by cases e; exact l2) fun s3 I3 f3=>?_
    exact hh pins x C od (some t) s3 σ' H' D I3 f3 (ls x lx) (fun t' e=>by cases e; exact l2) (hW C od σ' H' q1)
end
end L2
namespace L2
open PySem PySem.Spec PyProof.Rows
open PySem.W (XC)
structure DefAt (K:PySem.W.Frag) (mg:Str→Option Value) (x:Str) (st:Stmt) (ps:List Str) (f:Addr) (fd:FuncData):Prop where
  F:Fun K x x st f fd
  m:mg x=some (.ref f)
  b:Binds K fd ps []
structure FnAt (P:Program) (w:World) (K:PySem.W.Frag) (mg:Str→Option Value) (base:Heap) (CX:CXT) (x:Str) (k:Nat) (ps:List Str) (sp:Sp):Prop where
  ex:∃ f fd,FnOk P w K mg base CX k f fd ps sp∧mg x=some (.ref f)∧PySem.W.keepIn K (.ref f)=true∧Binds K fd ps []
theorem DefAt.at {P:Program} {w:World} {K:PySem.W.Frag} {mg:Str→Option Value} {base:Heap} {CX:CXT} {x:Str} {st:Stmt} {ps:List Str} {f:Addr} {fd:FuncData} {k:Nat} {sp:Sp} (D:DefAt K mg x st ps f fd) (F:FnOk P w K mg base CX k f fd ps sp):FnAt P w K mg base CX x k ps sp :=
  ⟨f,fd,F,D.m,D.F.kp,D.b⟩
section
variable {X:Cx} {x:Str} {p pos:Pos} {e:Expr} {es:List Expr} {t:TA} {k:Nat} {ps:List Str} {sp:Sp}
theorem pe_cX {W:XW} (G:FnAt X.prog X.w X.K X.mg X.base (CX1 X.prog X.w) x k ps sp) (hr:Room k X.A) (hf:v9 X W) (ha:PA X (e :: es) t) (hg:Gl X x:=by rfl) (hdb:(x == ("__debug__" : Str))=false:=by decide)
    (he:starEach (e :: es) X.env=(false,eval e X.env) :: starEach es X.env:=by rfl) (hpl:(backTo pos (starEach es X.env)).any (·.1)=false:=by rfl):PE X (.Call (.Name x p) (e :: es) [] pos) (m0o sp W t):=by
  obtain ⟨f,fd,F,m,kp,b⟩:=G.ex
  exact f0m F hr hg m kp b hf ha hdb he hpl
theorem pty (n:String) {y:Str} (hm:X.mg y=none) (hv:bootBuiltins y=some (.type n)) (hg:Gl X y:=by rfl) (hn:y ≠ "__name__" := by decide) (hd:(y == ("__debug__" : Str))=false:=by decide):PE X (.Name y pos) (tC (.ty n)):=b0t hg hm hv rfl hn hd
end
theorem m0l:bootBuiltins "len" = some (.builtin "len"):=by kernel_rfl
theorem bt_abs:bootBuiltins "abs" = some (.builtin "abs"):=by kernel_rfl
theorem d0e:bootBuiltins "all" = some (.builtin "all"):=by kernel_rfl
theorem j0b:bootBuiltins "min" = some (.builtin "min"):=by kernel_rfl
theorem x3:bootBuiltins "isinstance" = some (.builtin "isinstance"):=by kernel_rfl
theorem d0d:bootBuiltins "int" = some (.type "int"):=by kernel_rfl
theorem j0a:bootBuiltins "bool" = some (.type "bool"):=by kernel_rfl
theorem y8:bootBuiltins "list" = some (.type "list"):=by kernel_rfl
theorem x0r:bootBuiltins "tuple" = some (.type "tuple"):=by kernel_rfl
theorem s0p:bootBuiltins "ValueError" = some (.type "ValueError"):=by kernel_rfl
noncomputable def Scr (K:PySem.W.Frag) (H:Hp) (S:Addr):Prop:=∃ ns:List Int,SqL K H S (ns.map V.int)∧ns.length≤63
structure Deck (H:Hp) (D S:Addr) (n:Nat):Prop where
  ex:∃ c k:Int,H D=some (.lst [.ref S,.int c,.int k])∧0≤c∧0≤k∧k≤n
noncomputable def spCell (K:PySem.W.Frag):Sp:=fun vs H Q _=>∃ (S:Addr) (k:Int),vs=[.ref S,.int k]∧Scr K H S∧0≤k∧∀ r:Int,0≤r→Q (.int r) H
noncomputable def spDraw (K:PySem.W.Frag):Sp:=fun vs H Q _=>∃ (S:Addr) (k m:Int),vs=[.ref S,.int k,.int m]∧Scr K H S∧0≤k∧k < 2 ^ 40∧0 < m∧∀ r:Int,0≤r→r < m→Q (.int r) H
noncomputable def spDeck (K:PySem.W.Frag):Sp:=fun vs H Q _=>∃ (S:Addr),vs=[.ref S]∧Scr K H S∧∀ (D:Addr) (c:Int),H D=none→0≤c→Q (.ref D) (upd H D (.lst [.ref S,.int c,.int 0]))
noncomputable def spTake (K:PySem.W.Frag):Sp:=fun vs H Q _=>∃ (D S:Addr) (n:Nat) (m:Int),vs=[.ref D,.int m]∧Deck H D S n∧Scr K H S∧n < 2 ^ 30∧0 < m∧m < 2 ^ 30 ∧
  ∀ (d c k:Int),0≤d→d < m→0≤c→0≤k→k≤n + 1→Q (.int d) (upd H D (.lst [.ref S,.int c,.int k]))
end L2
namespace L2
open PySem PySem.Spec PyProof.Rows
end L2
namespace L2
theorem a0u {α:Type} {xs:List α} {k:Int} (h:0 < xs.length):∃ v,atI xs (k % (xs.length:Nat))=some v∧v∈xs:=by
  have h1:=Int.emod_nonneg k (b:=(xs.length:Int)) (by omega)
  have h2:=Int.emod_lt_of_pos k (b:=(xs.length:Int)) (by omega)
  have hj:(k % (xs.length:Nat)).toNat < xs.length:=by omega
  refine ⟨xs[(k % (xs.length:Nat)).toNat],?_,List.getElem_mem hj⟩
  have e:k % (xs.length:Nat)=(((k % (xs.length:Nat)).toNat:Nat):Int):=by omega
  have q:∀ z:Int,z=k % (xs.length:Nat)→z=((z.toNat:Nat):Int)→∀ hz:z.toNat < xs.length,atI xs z=some xs[z.toNat]:=by
    intro z _ hz2 hz3
    generalize z.toNat=j at hz2 hz3
    subst hz2
    exact s0u (List.getElem?_eq_getElem hz3)
  exact q _ rfl e hj
end L2
set_option maxHeartbeats 8000000
namespace L2
open PySem PySem.Spec PyProof.Rows
noncomputable def BT:List String:=["NoneType","bool","int","str","list","tuple","dict"]
theorem kt_all (K:PySem.W.Frag) {n:String} (h:n∈BT):PySem.W.kitOne K (.type n) (.type "bool")=some (n == "bool")∧PySem.W.kitOne K (.type n) (.type "int")=some (n == "int" || n == "bool") ∧
    PySem.W.kitOne K (.type n) (.type "list")=some (n == "list")∧PySem.W.kitOne K (.type n) (.type "tuple")=some (n == "tuple")∧PySem.W.kitAny K (.type n) [.type "list",.type "tuple"]=some (n == "list" || n == "tuple"):=by
  simp only [BT,List.mem_cons,List.not_mem_nil,or_false] at h
  rcases h with rfl | rfl | rfl | rfl | rfl | rfl | rfl
  · exact ⟨by kernel_rfl,by kernel_rfl,by kernel_rfl,by kernel_rfl,by kernel_rfl⟩
  · exact ⟨by kernel_rfl,by kernel_rfl,by kernel_rfl,by kernel_rfl,by kernel_rfl⟩
  · exact ⟨by kernel_rfl,by kernel_rfl,by kernel_rfl,by kernel_rfl,by kernel_rfl⟩
  · exact ⟨by kernel_rfl,by kernel_rfl,by kernel_rfl,by kernel_rfl,by kernel_rfl⟩
  · exact ⟨by kernel_rfl,by kernel_rfl,by kernel_rfl,by kernel_rfl,by kernel_rfl⟩
  · exact ⟨by kernel_rfl,by kernel_rfl,by kernel_rfl,by kernel_rfl,by kernel_rfl⟩
  · exact ⟨by kernel_rfl,by kernel_rfl,by kernel_rfl,by kernel_rfl,by kernel_rfl⟩
structure Thing (K:PySem.W.Frag) (H:Hp) (x:V) (n:String):Prop where
  ty:TyOf K H x (.type n)
  mem:n∈BT
noncomputable def numV (x y:V):Bool:=match x,y with
  | .int i,.int j=>decide (i=j)
  | _,_=>false
noncomputable def f0k (K:PySem.W.Frag):Sp:=fun vs H Q _=>∃ (x:V) (j:Int) (n:String),vs=[x,.int j]∧Thing K H x n∧Q (.bl (numV x (.int j))) H
end L2
set_option maxHeartbeats 8000000
namespace L2
open PySem PySem.Spec PyProof.Rows
open PySem.W (XC veMro)
structure ErrC (K:PySem.W.Frag) (W C:Addr):Prop where
  mro:(PySem.W.clsIn K C).map (·.mro)=some (.ref C :: .ref W :: veMro)
  ty:PySem.W.typeIn K (.ref C)=some (.type "type")
  xc:XC K C
theorem ErrC.mroIn {K:PySem.W.Frag} {W C:Addr} (c:ErrC K W C) (b:Value):PySem.W.mroIn K C b=some ((Value.ref C :: .ref W :: veMro).contains b):=by
  obtain ⟨cd,h1,h2⟩:=Option.map_eq_some_iff.mp c.mro
  unfold PySem.W.mroIn
  rw [h1,Option.bind_some,h2]
  rfl
theorem ErrC.own {K:PySem.W.Frag} {W C D:Addr} (c:ErrC K W C) (d:ErrC K W D) (hw:D≠W):PySem.W.kitOne K (.ref C) (.ref D)=some (decide (D=C)):=by
  unfold PySem.W.kitOne
  by_cases h:D=C
  · subst h
    rw [if_pos (beq_self_eq_true _)]
    simp
  · have hb:¬ (Value.ref C == Value.ref D)=true:=fun z=>h (Value.ref.inj (beq_iff_eq.mp z)).symm
    rw [if_neg hb]
    obtain ⟨cd,h1,h2⟩:=Option.map_eq_some_iff.mp d.mro
    show (if ((PySem.W.clsIn K D).isSome && PySem.W.typeIn K (.ref D) == some (.type "type"))=true then PySem.W.subIn K (.ref C) (.ref D) else none)=_
    rw [if_pos (by rw [h1,d.ty]; rfl)]
    show PySem.W.mroIn K C (.ref D)=_
    rw [c.mroIn]
    have e:(Value.ref C :: .ref W :: veMro).contains (.ref D)=false:=by
      simp [List.contains_cons,h,hw]
    rw [e,decide_eq_false h]
theorem ErrC.top {K:PySem.W.Frag} {W C:Addr} (c:ErrC K W C) (hc:C≠W) (hw:(PySem.W.clsIn K W).isSome=true) (ht:PySem.W.typeIn K (.ref W)=some (.type "type")):PySem.W.kitOne K (.ref C) (.ref W)=some true:=by
  unfold PySem.W.kitOne
  have hb:¬ (Value.ref C == Value.ref W)=true:=fun z=>hc (Value.ref.inj (beq_iff_eq.mp z))
  rw [if_neg hb]
  show (if ((PySem.W.clsIn K W).isSome && PySem.W.typeIn K (.ref W) == some (.type "type"))=true then PySem.W.subIn K (.ref C) (.ref W) else none)=_
  rw [if_pos (by rw [hw,ht]; rfl)]
  show PySem.W.mroIn K C (.ref W)=_
  rw [c.mroIn]
  simp [List.contains_cons]
theorem l0f:PySem.W.kitMeta "ValueError" = true:=by kernel_rfl
theorem ErrC.value {K:PySem.W.Frag} {W C:Addr} (c:ErrC K W C):PySem.W.kitOne K (.ref C) (.type "ValueError")=some true:=by
  unfold PySem.W.kitOne
  rw [if_neg (by intro z; cases beq_iff_eq.mp z)]
  show (if PySem.W.kitMeta "ValueError" = true then PySem.W.subIn K (.ref C) (.type "ValueError") else none)=_
  rw [if_pos l0f]
  show PySem.W.mroIn K C (.type "ValueError")=_
  rw [c.mroIn]
  simp [List.contains_cons]
theorem Same.new {H:Hp} {p:Addr} {o:HO} (h:H p=none):Same H (upd H p o):=fun b u e=>by rw [y0 (u0 e h)]; exact e
noncomputable def spXI (C:Addr) (a:Str):Sp:=fun vs H Q _=>∃ (x:Addr) (v:V),vs=[.ref x,v]∧H x=some (XO true x C none)∧∀ d,H d=none→d≠x→Q .non (upd (upd H d (XD d [(a,v)])) x (XO true x C (some d)))
noncomputable def spXI2 (C:Addr) (a b:Str):Sp:=fun vs H Q _=>∃ (x:Addr) (v u:V),vs=[.ref x,v,u]∧H x=some (XO true x C none)∧∀ d,H d=none→d≠x→Q .non (upd (upd (upd H d (XD d [(a,v)])) x (XO true x C (some d))) d (XD d (putF b u [(a,v)])))
end L2
namespace L2
open PySem PySem.Spec PyProof.Rows
open PySem.W (XC veMro)
structure MkE (P:Program) (w:World) (K:PySem.W.Frag) (mg:Str→Option Value) (base:Heap) (x:Str) (C:Addr) (k:Nat) (ps:List Str) (sp:Sp):Prop where
  ex:∃ f fd,XMk K C f∧FnOk P w K mg base CX0 k f fd ps sp∧Binds K fd ps []
  m:mg x=some (.ref C)
theorem i0z {X:Cx} {W:XW} {x:Str} {C:Addr} {k:Nat} {ps:List Str} {sp:Sp} {p cpos pos:Pos} {e:Expr} {es:List Expr} {t:TA} (hc:X.calm=true) (hf:v9 X W) (M:MkE X.prog X.w X.K X.mg X.base x C k ps sp) (hr:Room (k + 1) X.A) (ha:PA X (e :: es) t) (hg:Gl X x:=by rfl)
    (hdb:(x == ("__debug__" : Str))=false:=by decide) (he:starEach (e :: es) X.env=(false,eval e X.env) :: starEach es X.env:=by rfl) (hpl:(backTo cpos (starEach es X.env)).any (·.1)=false:=by rfl) :
    PS X (.Raise (some (.Call (.Name x p) (e :: es) [] cpos)) none pos) (j0f C sp W t):=by
  obtain ⟨f,fd,h1,h2,h3⟩:=M.ex
  exact j0e hc hf h1 h2 hr hg M.m h3 ha hdb he hpl
theorem sz1 {a:V}:[a].length≤PySem.sizeLine:=by show 1≤PySem.sizeLine; decide
end L2
namespace DL
open PySem PySem.Spec L2
open PySem.W (XC)
inductive D where
  | non | bl (b:Bool) | int (i:Int) | str (x:Str)
  | lst (xs:List D) | tup (xs:List D) | scr (xs:List D) | dic (kvs:List (Key×D)) | dwk (kvs:List (Key×D))
  | ins (C:Addr) (fs:List (Str×D)) | exc (C:Addr) (fs:List (Str×D))
  | ref (a:Addr) | ty (n:String)
noncomputable abbrev Frag:=PySem.W.Frag
mutual
noncomputable def Rep (K:Frag) (F:Hp):D→V→Prop
  | .non,v=>v=.non
  | .bl b,v=>v=.bl b
  | .int i,v=>v=.int i
  | .str x,v=>v=.str x
  | .lst ds,v=>∃ a vs,v=.ref a∧F a=some (.lst vs)∧Reps K F ds vs
  | .tup ds,v=>∃ a vs,v=.ref a∧F a=some (.tup vs)∧Reps K F ds vs
  | .scr ds,v=>∃ a vs,v=.ref a∧SqL K F a vs∧Reps K F ds vs
  | .dic kvs,v=>∃ a us,v=.ref a∧F a=some (.dK us)∧RepK K F kvs us
  | .dwk kvs,v=>∃ a o us,v=.ref a∧F a=some (.frz o (.dK us))∧RepK K F kvs us
  | .ins C fs,v=>∃ a dx us,v=.ref a∧F a=some (.ins C dx us)∧F dx=some (.own a)∧RepF K F fs us
  | .exc C fs,v=>∃ a fr,v=.ref a∧((fs=[]∧F a=some (XO fr a C none))∨∃ d us,F a=some (XO fr a C (some d))∧F d=some (XD d us)∧RepF K F fs us)
  | .ref a,v=>v=.ref a
  | .ty n,v=>v=.ty n
noncomputable def Reps (K:Frag) (F:Hp):List D→List V→Prop
  | [],vs=>vs=[]
  | d :: ds,vs=>∃ v r,vs=v :: r∧Rep K F d v∧Reps K F ds r
noncomputable def RepF (K:Frag) (F:Hp):List (Str×D)→List (Str×V)→Prop
  | [],vs=>vs=[]
  | (x,d) :: ds,vs=>∃ v r,vs=(x,v) :: r∧Rep K F d v∧RepF K F ds r
noncomputable def RepK (K:Frag) (F:Hp):List (Key×D)→List (Key×V)→Prop
  | [],vs=>vs=[]
  | (x,d) :: ds,vs=>∃ v r,vs=(x,v) :: r∧Rep K F d v∧RepK K F ds r
end
theorem _root_.L2.Same.rd {F F':Hp} {a:Addr} {u:HO} (s:Same F F') (h:Rd F a u):Rd F' a u:=by
  rcases h with h | ⟨o,h⟩
  · exact .inl (s _ _ h)
  · exact .inr ⟨o,s _ _ h⟩
theorem _root_.L2.Same.sqL {K:Frag} {F F':Hp} {a:Addr} {xs:List V} (s:Same F F') (h:SqL K F a xs):SqL K F' a xs:=h.imp s.rd id
theorem _root_.L2.Same.sqT {K:Frag} {F F':Hp} {a:Addr} {xs:List V} (s:Same F F') (h:SqT K F a xs):SqT K F' a xs:=h.imp s.rd id
mutual
theorem Rep.mono {K:Frag} {F F':Hp} (s:Same F F'):∀ {d:D} {v:V},Rep K F d v→Rep K F' d v
  | .non,v,h=>by unfold Rep at h ⊢; exact h
  | .bl b,v,h=>by unfold Rep at h ⊢; exact h
  | .int i,v,h=>by unfold Rep at h ⊢; exact h
  | .str x,v,h=>by unfold Rep at h ⊢; exact h
  | .lst ds,v,h=>by unfold Rep at h ⊢; obtain ⟨a,vs,e,q,r⟩:=h; exact ⟨a,vs,e,s _ _ q,Reps.mono s r⟩
  | .tup ds,v,h=>by unfold Rep at h ⊢; obtain ⟨a,vs,e,q,r⟩:=h; exact ⟨a,vs,e,s _ _ q,Reps.mono s r⟩
  | .scr ds,v,h=>by unfold Rep at h ⊢; obtain ⟨a,vs,e,q,r⟩:=h; exact ⟨a,vs,e,s.sqL q,Reps.mono s r⟩
  | .dic ds,v,h=>by unfold Rep at h ⊢; obtain ⟨a,vs,e,q,r⟩:=h; exact ⟨a,vs,e,s _ _ q,RepK.mono s r⟩
  | .dwk ds,v,h=>by unfold Rep at h ⊢; obtain ⟨a,o,vs,e,q,r⟩:=h; exact ⟨a,o,vs,e,s _ _ q,RepK.mono s r⟩
  | .ins C fs,v,h=>by unfold Rep at h ⊢; obtain ⟨a,dx,vs,e,q,q2,r⟩:=h; exact ⟨a,dx,vs,e,s _ _ q,s _ _ q2,RepF.mono s r⟩
  | .exc C fs,v,h=>by
    unfold Rep at h ⊢
    obtain ⟨a,fr,e,h⟩:=h
    refine ⟨a,fr,e,?_⟩
    rcases h with ⟨e1,q⟩ | ⟨d,us,q,q2,r⟩
    · exact .inl ⟨e1,s _ _ q⟩
    · exact .inr ⟨d,us,s _ _ q,s _ _ q2,RepF.mono s r⟩
  | .ref a,v,h=>by unfold Rep at h ⊢; exact h
  | .ty n,v,h=>by unfold Rep at h ⊢; exact h
theorem Reps.mono {K:Frag} {F F':Hp} (s:Same F F'):∀ {ds:List D} {vs:List V},Reps K F ds vs→Reps K F' ds vs
  | [],vs,h=>by unfold Reps at h ⊢; exact h
  | d :: ds,vs,h=>by unfold Reps at h ⊢; obtain ⟨v,r,e,q,z⟩:=h; exact ⟨v,r,e,Rep.mono s q,Reps.mono s z⟩
theorem RepF.mono {K:Frag} {F F':Hp} (s:Same F F'):∀ {ds:List (Str×D)} {vs:List (Str×V)},RepF K F ds vs→RepF K F' ds vs
  | [],vs,h=>by unfold RepF at h ⊢; exact h
  | (x,d) :: ds,vs,h=>by unfold RepF at h ⊢; obtain ⟨v,r,e,q,z⟩:=h; exact ⟨v,r,e,Rep.mono s q,RepF.mono s z⟩
theorem RepK.mono {K:Frag} {F F':Hp} (s:Same F F'):∀ {ds:List (Key×D)} {vs:List (Key×V)},RepK K F ds vs→RepK K F' ds vs
  | [],vs,h=>by unfold RepK at h ⊢; exact h
  | (x,d) :: ds,vs,h=>by unfold RepK at h ⊢; obtain ⟨v,r,e,q,z⟩:=h; exact ⟨v,r,e,Rep.mono s q,RepK.mono s z⟩
end
section
variable {K:Frag} {F H:Hp}
theorem rep_non {v:V}:Rep K F .non v ↔ v=.non:=by unfold Rep; exact Iff.rfl
theorem rep_bl {b:Bool} {v:V}:Rep K F (.bl b) v ↔ v=.bl b:=by unfold Rep; exact Iff.rfl
theorem rep_int {i:Int} {v:V}:Rep K F (.int i) v ↔ v=.int i:=by unfold Rep; exact Iff.rfl
theorem rep_str {x:Str} {v:V}:Rep K F (.str x) v ↔ v=.str x:=by unfold Rep; exact Iff.rfl
theorem rep_ref {a:Addr} {v:V}:Rep K F (.ref a) v ↔ v=.ref a:=by unfold Rep; exact Iff.rfl
theorem rep_ty {n:String} {v:V}:Rep K F (.ty n) v ↔ v=.ty n:=by unfold Rep; exact Iff.rfl
theorem rep_lst {ds:List D} {v:V}:Rep K F (.lst ds) v ↔ ∃ a vs,v=.ref a∧F a=some (.lst vs)∧Reps K F ds vs:=by rw [Rep]
theorem rep_tup {ds:List D} {v:V}:Rep K F (.tup ds) v ↔ ∃ a vs,v=.ref a∧F a=some (.tup vs)∧Reps K F ds vs:=by rw [Rep]
theorem rep_scr {ds:List D} {v:V}:Rep K F (.scr ds) v ↔ ∃ a vs,v=.ref a∧SqL K F a vs∧Reps K F ds vs:=by rw [Rep]
theorem rep_dwk {ds:List (Key×D)} {v:V}:Rep K F (.dwk ds) v ↔ ∃ a o us,v=.ref a∧F a=some (.frz o (.dK us))∧RepK K F ds us:=by rw [Rep]
theorem rep_dic {ds:List (Key×D)} {v:V}:Rep K F (.dic ds) v ↔ ∃ a us,v=.ref a∧F a=some (.dK us)∧RepK K F ds us:=by rw [Rep]
theorem rep_ins {C:Addr} {fs:List (Str×D)} {v:V}:Rep K F (.ins C fs) v ↔ ∃ a dx us,v=.ref a∧F a=some (.ins C dx us)∧F dx=some (.own a)∧RepF K F fs us:=by rw [Rep]
theorem rep_exc {C:Addr} {fs:List (Str×D)} {v:V}:Rep K F (.exc C fs) v ↔ ∃ a fr,v=.ref a∧((fs=[]∧F a=some (XO fr a C none))∨∃ d us,F a=some (XO fr a C (some d))∧F d=some (XD d us)∧RepF K F fs us):=by rw [Rep]
theorem reps_nil {vs:List V}:Reps K F [] vs ↔ vs=[]:=by rw [Reps]
theorem reps_cons {d:D} {ds:List D} {vs:List V}:Reps K F (d :: ds) vs ↔ ∃ v r,vs=v :: r∧Rep K F d v∧Reps K F ds r:=by rw [Reps]
theorem Reps.cons {d:D} {ds:List D} {v:V} {vs:List V} (h:Rep K F d v) (t:Reps K F ds vs):Reps K F (d :: ds) (v :: vs):=reps_cons.mpr ⟨v,vs,rfl,h,t⟩
theorem Reps.nil:Reps K F [] []:=reps_nil.mpr rfl
theorem Reps.length:∀ {ds:List D} {vs:List V},Reps K F ds vs→vs.length=ds.length
  | [],vs,h=>by rw [reps_nil.mp h]; rfl
  | d :: ds,vs,h=>by obtain ⟨v,r,rfl,_,z⟩:=reps_cons.mp h; rw [List.length_cons,List.length_cons,Reps.length z]
theorem Reps.append:∀ {ds es:List D} {vs us:List V},Reps K F ds vs→Reps K F es us→Reps K F (ds++es) (vs++us)
  | [],es,vs,us,h,h'=>by rw [reps_nil.mp h]; exact h'
  | d :: ds,es,vs,us,h,h'=>by obtain ⟨v,r,rfl,q,z⟩:=reps_cons.mp h; exact Reps.cons q (Reps.append z h')
theorem Reps.get:∀ {ds:List D} {vs:List V} {i:Nat} {d:D},Reps K F ds vs→ds[i]?=some d→∃ v,vs[i]?=some v∧Rep K F d v
  | [],vs,i,d,h,e=>by simp at e
  | d :: ds,vs,0,d',h,e=>by obtain ⟨v,r,rfl,q,z⟩:=reps_cons.mp h; simp at e; subst e; exact ⟨v,rfl,q⟩
  | d :: ds,vs,i + 1,d',h,e=>by obtain ⟨v,r,rfl,q,z⟩:=reps_cons.mp h; simp at e; obtain ⟨u,a,b⟩:=Reps.get z e; exact ⟨u,by simpa using a,b⟩
theorem Reps.set {d:D} {v:V} (q:Rep K F d v):∀ {ds:List D} {vs:List V} (i:Nat),Reps K F ds vs→Reps K F (ds.set i d) (vs.set i v)
  | [],vs,i,h=>by rw [reps_nil.mp h]; exact Reps.nil
  | e :: ds,vs,0,h=>by obtain ⟨u,r,rfl,_,z⟩:=reps_cons.mp h; exact Reps.cons q z
  | e :: ds,vs,i + 1,h=>by obtain ⟨u,r,rfl,p,z⟩:=reps_cons.mp h; exact Reps.cons p (Reps.set q i z)
theorem Reps.take:∀ {ds:List D} {vs:List V} (n:Nat),Reps K F ds vs→Reps K F (ds.take n) (vs.take n)
  | [],vs,n,h=>by rw [reps_nil.mp h]; simp; exact Reps.nil
  | d :: ds,vs,0,h=>by simp; exact Reps.nil
  | d :: ds,vs,n + 1,h=>by obtain ⟨u,r,rfl,p,z⟩:=reps_cons.mp h; simp; exact Reps.cons p (Reps.take n z)
theorem Reps.drop:∀ {ds:List D} {vs:List V} (n:Nat),Reps K F ds vs→Reps K F (ds.drop n) (vs.drop n)
  | [],vs,n,h=>by rw [reps_nil.mp h]; simp; exact Reps.nil
  | d :: ds,vs,0,h=>by simpa using h
  | d :: ds,vs,n + 1,h=>by obtain ⟨u,r,rfl,p,z⟩:=reps_cons.mp h; simp; exact Reps.drop n z
theorem Reps.dropLast {ds:List D} {vs:List V} (h:Reps K F ds vs):Reps K F ds.dropLast vs.dropLast:=by
  rw [List.dropLast_eq_take,List.dropLast_eq_take,h.length]; exact h.take _
theorem Reps.atI {ds:List D} {vs:List V} {i:Int} {d:D} (h:Reps K F ds vs) (e:L2.atI ds i=some d):∃ v,L2.atI vs i=some v∧Rep K F d v:=by
  unfold L2.atI at e ⊢
  rw [h.length]
  cases hj:ixN ds.length i with
  | none=>rw [hj] at e; cases e
  | some j =>
    rw [hj] at e
    obtain ⟨v,a,b⟩:=h.get e
    exact ⟨v,a,b⟩
end
end DL
namespace DL
open PySem PySem.Spec L2
open PySem.W (XC)
noncomputable abbrev Dk:=Option (Addr×List D)
inductive Cell where
  | no | val (d:D) | own (ds:List D) | obj (C:Addr) (fs:List (Str×D)) | ownD (kvs:List (Key×D))
noncomputable abbrev En:=List Cell
noncomputable def CellOk (K:Frag) (F H H₀:Hp) (sf:Option Addr):Cell→Option V→Prop
  | .no,_=>True
  | .val d,v=>∃ u,v=some u∧Rep K F d u
  | .own ds,v=>∃ a vs,v=some (.ref a)∧H a=some (.lst vs)∧F a=none∧H₀ a=none∧Reps K F ds vs
  | .obj C fs,v=>∃ a dx us,v=some (.ref a)∧sf=some a∧H a=some (.ins C dx us)∧H dx=some (.own a)∧F a=none∧F dx=none∧H₀ a=none∧H₀ dx=none∧RepF K F fs us
  | .ownD kvs,v=>∃ a us,v=some (.ref a)∧H a=some (.dK us)∧F a=none∧H₀ a=none∧RepK K F kvs us
noncomputable def Off (δ:Dk) (b:Addr):Prop:=∀ a ds,δ=some (a,ds)→b≠a
noncomputable def DkOk (K:Frag) (F H:Hp) (δ:Dk):Prop:=∀ a ds,δ=some (a,ds)→F a=none∧∃ vs,H a=some (.lst vs)∧Reps K F ds vs
noncomputable def DkTo (H₀:Hp) (δ₀ δ:Dk):Prop:=(∀ a ds,δ₀=some (a,ds)→∃ es,δ=some (a,es))∧∀ a ds,δ=some (a,ds)→δ₀=none→H₀ a=none
structure Ran (K:Frag) (F₀ H₀:Hp) (δ₀:Dk) (F H:Hp) (δ:Dk):Prop where
  sub:Same F H
  dk:DkOk K F H δ
  keep:∀ b o,H₀ b=some o→Off δ₀ b→H b=some o
  f0:Same F₀ F
  fnew:∀ b o,F b=some o→F₀ b=some o∨H₀ b=none
  dto:DkTo H₀ δ₀ δ
structure Y2 where
  F₀:Hp
  H₀:Hp
  δ₀:Dk
  sf:Option Addr:=none
noncomputable def i5 (ρ:En) (σ:St) (i:Nat) (a:Addr):Prop:=((∃ ds,ρ[i]?=some (.own ds))∨(∃ C fs,ρ[i]?=some (.obj C fs))∨∃ kvs,ρ[i]?=some (.ownD kvs))∧σ[i]?=some (some (.ref a))
structure I2 (K:Frag) (Y:Y2) (F H:Hp) (σ:St) (ρ:En) (δ:Dk):Prop where
  ran:Ran K Y.F₀ Y.H₀ Y.δ₀ F H δ
  env:∀ (i:Nat) (c:Cell),ρ[i]?=some c→CellOk K F H Y.H₀ Y.sf c (σ[i]?).join
  len:ρ.length=σ.length
  apart:∀ (i j:Nat) (a:Addr),i≠j→i5 ρ σ i a→i5 ρ σ j a→False
  off:∀ (i:Nat) (a:Addr),i5 ρ σ i a→Off δ a
section
variable {K:Frag} {Y:Y2} {F H F' H':Hp} {σ:St} {ρ:En} {δ:Dk}
theorem I2.sub (I:I2 K Y F H σ ρ δ):Same F H:=I.ran.sub
theorem c3 {σ:St} {i:Nat} {v:V} (h:(σ[i]?).join=some v):σ[i]?=some (some v):=by
  cases e:σ[i]? with
  | none=>rw [e] at h; cases h
  | some o=>rw [e] at h; exact congrArg some h
theorem Ran.fresh (R:Ran K Y.F₀ Y.H₀ Y.δ₀ F H δ) {p:Addr} (h:H p=none):Y.H₀ p=none:=by
  cases q:Y.H₀ p with
  | none=>rfl
  | some o =>
    by_cases z:∃ ds,Y.δ₀=some (p,ds)
    · obtain ⟨ds,z⟩:=z
      obtain ⟨es,z2⟩:=R.dto.1 p ds z
      obtain ⟨_,vs,z3,_⟩:=R.dk p es z2
      rw [h] at z3; cases z3
    · have:=R.keep p o q (fun a ds e w=>z ⟨ds,by rw [e,w]⟩)
      rw [h] at this; cases this
theorem Ran.alloc {o:HO} {p:Addr} (R:Ran K Y.F₀ Y.H₀ Y.δ₀ F H δ) (h:H p=none):Ran K Y.F₀ Y.H₀ Y.δ₀ (upd F p o) (upd H p o) δ:=by
  have hF:F p=none:=R.sub.free h
  have h0:=R.fresh h
  refine ⟨fun b u e=>?_,fun a ds e=>?_,fun b u e f=>?_,fun b u e=>?_,fun b u e=>?_,R.dto⟩
  · by_cases z:b=p
    · subst z; rw [o3] at e ⊢; exact e
    · rw [y0 z] at e ⊢; exact R.sub _ _ e
  · obtain ⟨q,vs,q2,r⟩:=R.dk a ds e
    have z:a≠p:=u0 q2 h
    exact ⟨by rw [y0 z]; exact q,vs,by rw [y0 z]; exact q2,r.mono (Same.new hF)⟩
  · rw [y0 (u0 (R.keep b u e f) h)]; exact R.keep b u e f
  · rw [y0 (u0 (R.f0 b u e) hF)]; exact R.f0 b u e
  · by_cases z:b=p
    · subst z; exact .inr h0
    · rw [y0 z] at e; exact R.fnew b u e
theorem CellOk.alloc {o:HO} {p:Addr} {c:Cell} {v:Option V} {H₀:Hp} {sf:Option Addr} (s:Same F H) (h:H p=none) (x:CellOk K F H H₀ sf c v):CellOk K (upd F p o) (upd H p o) H₀ sf c v:=by
  have hF:F p=none:=s.free h
  cases c with
  | no=>trivial
  | val d=>obtain ⟨u,e,r⟩:=x; exact ⟨u,e,r.mono (Same.new hF)⟩
  | own ds =>
    obtain ⟨a,vs,e,q,f,g,r⟩:=x
    have z:=u0 q h
    exact ⟨a,vs,e,by rw [y0 z]; exact q,by rw [y0 z]; exact f,g,r.mono (Same.new hF)⟩
  | obj C fs =>
    obtain ⟨a,dx,us,e,es,q,q2,f,f2,g,g2,r⟩:=x
    have z:=u0 q h
    have z2:=u0 q2 h
    exact ⟨a,dx,us,e,es,by rw [y0 z]; exact q,by rw [y0 z2]; exact q2,by rw [y0 z]; exact f,by rw [y0 z2]; exact f2,g,g2,r.mono (Same.new hF)⟩
  | ownD kvs =>
    obtain ⟨a,us,e,q,f,g,r⟩:=x
    have z:=u0 q h
    exact ⟨a,us,e,by rw [y0 z]; exact q,by rw [y0 z]; exact f,g,r.mono (Same.new hF)⟩
theorem I2.alloc {o:HO} {p:Addr} (I:I2 K Y F H σ ρ δ) (h:H p=none):I2 K Y (upd F p o) (upd H p o) σ ρ δ :=
  ⟨I.ran.alloc h,fun i c e=>(I.env i c e).alloc I.sub h,I.len,I.apart,I.off⟩
theorem I2.lst {ds:List D} {vs:List V} {p:Addr} (I:I2 K Y F H σ ρ δ) (h:H p=none) (r:Reps K F ds vs):Rep K (upd F p (.lst vs)) (.lst ds) (.ref p) :=
  rep_lst.mpr ⟨p,vs,rfl,o3,r.mono (Same.new (I.sub.free h))⟩
theorem I2.tup {ds:List D} {vs:List V} {p:Addr} (I:I2 K Y F H σ ρ δ) (h:H p=none) (r:Reps K F ds vs):Rep K (upd F p (.tup vs)) (.tup ds) (.ref p) :=
  rep_tup.mpr ⟨p,vs,rfl,o3,r.mono (Same.new (I.sub.free h))⟩
theorem I2.grow {o:HO} {p:Addr} (I:I2 K Y F H σ ρ δ) (h:H p=none):Same F (upd F p o):=Same.new (I.sub.free h)
theorem I2.put {i:Nat} {v:V} {d:D} (I:I2 K Y F H σ ρ δ) (r:Rep K F d v):I2 K Y F H (σ.set i (some v)) (ρ.set i (.val d)) δ:=by
  have key:∀ j a,i5 (ρ.set i (.val d)) (σ.set i (some v)) j a→j≠i∧i5 ρ σ j a:=fun j a o=>by
    by_cases z:j=i
    · subst z
      rcases o.1 with ⟨ds,q⟩ | ⟨C,fs,q⟩ | ⟨kvs,q⟩ <;>
      · rw [List.getElem?_set] at q
        simp at q
    · refine ⟨z,?_⟩
      obtain ⟨o1,o2⟩:=o
      simp only [List.getElem?_set_ne (Ne.symm z)] at o1 o2
      exact ⟨o1,o2⟩
  refine ⟨I.ran,fun j c e=>?_,by simp [I.len],fun a b c n o1 o2=>I.apart a b c n (key a c o1).2 (key b c o2).2,fun j a o=>I.off j a (key j a o).2⟩
  by_cases z:j=i
  · subst z
    rw [List.getElem?_set] at e
    by_cases hl:j < ρ.length
    · simp [hl] at e
      subst e
      refine ⟨v,?_,r⟩
      rw [List.getElem?_set]
      simp [I.len ▸ hl]
    · simp [hl] at e
  · rw [List.getElem?_set_ne (Ne.symm z)] at e ⊢
    exact I.env j c e
theorem I2.gone {i:Nat} (I:I2 K Y F H σ ρ δ):I2 K Y F H (σ.set i none) (ρ.set i .no) δ:=by
  have key:∀ j a,i5 (ρ.set i .no) (σ.set i none) j a→j≠i∧i5 ρ σ j a:=fun j a o=>by
    by_cases z:j=i
    · subst z
      rcases o.1 with ⟨ds,q⟩ | ⟨C,fs,q⟩ | ⟨kvs,q⟩ <;>
      · rw [List.getElem?_set] at q
        simp at q
    · refine ⟨z,?_⟩
      obtain ⟨o1,o2⟩:=o
      simp only [List.getElem?_set_ne (Ne.symm z)] at o1 o2
      exact ⟨o1,o2⟩
  refine ⟨I.ran,fun j c e=>?_,by simp [I.len],fun a b c n o1 o2=>I.apart a b c n (key a c o1).2 (key b c o2).2,fun j a o=>I.off j a (key j a o).2⟩
  by_cases z:j=i
  · subst z
    rw [List.getElem?_set] at e
    by_cases hl:j < ρ.length
    · simp [hl] at e
      subst e
      trivial
    · simp [hl] at e
  · rw [List.getElem?_set_ne (Ne.symm z)] at e ⊢
    exact I.env j c e
theorem I2.freeze {i:Nat} {ds:List D} (I:I2 K Y F H σ ρ δ) (e:ρ[i]?=some (.own ds)) :
    ∃ a vs,σ[i]?=some (some (.ref a))∧F a=none∧I2 K Y (upd F a (.lst vs)) H σ (ρ.set i (.val (.lst ds))) δ∧Rep K (upd F a (.lst vs)) (.lst ds) (.ref a):=by
  obtain ⟨a,vs,q,h,f,g,r⟩:=I.env i _ e
  have hs:=c3 q
  have ho:i5 ρ σ i a:=⟨.inl ⟨ds,e⟩,hs⟩
  have rr:Rep K (upd F a (.lst vs)) (.lst ds) (.ref a):=rep_lst.mpr ⟨a,vs,rfl,o3,r.mono (Same.new f)⟩
  refine ⟨a,vs,hs,f,?_,rr⟩
  have key:∀ j b,i5 (ρ.set i (.val (.lst ds))) σ j b→j≠i∧i5 ρ σ j b:=fun j b o=>by
    by_cases z:j=i
    · subst z
      rcases o.1 with ⟨ds,q⟩ | ⟨C,fs,q⟩ | ⟨kvs,q⟩ <;>
      · rw [List.getElem?_set] at q
        simp at q
    · refine ⟨z,?_⟩
      obtain ⟨o1,o2⟩:=o
      simp only [List.getElem?_set_ne (Ne.symm z)] at o1
      exact ⟨o1,o2⟩
  refine ⟨⟨fun b u e=>?_,fun b es e=>?_,I.ran.keep,fun b u e=>?_,fun b u e=>?_,I.ran.dto⟩,fun j c e'=>?_,by simp [I.len],fun x y b n o1 o2=>I.apart x y b n (key x b o1).2 (key y b o2).2,fun j b o=>I.off j b (key j b o).2⟩
  · by_cases z:b=a
    · subst z; rw [o3] at e; cases e; exact h
    · rw [y0 z] at e; exact I.sub _ _ e
  · obtain ⟨q1,us,q2,q3⟩:=I.ran.dk b es e
    exact ⟨by rw [y0 (Ne.symm (I.off i a ho b es e))]; exact q1,us,q2,q3.mono (Same.new f)⟩
  · rw [y0 (u0 (I.ran.f0 b u e) f)]; exact I.ran.f0 b u e
  · by_cases z:b=a
    · subst z; exact .inr g
    · rw [y0 z] at e; exact I.ran.fnew b u e
  · by_cases z:j=i
    · subst z
      rw [List.getElem?_set] at e'
      by_cases hl:j < ρ.length
      · simp [hl] at e'
        subst e'
        exact ⟨_,q,rr⟩
      · simp [hl] at e'
    · rw [List.getElem?_set_ne (Ne.symm z)] at e'
      have w:=I.env j c e'
      cases c with
      | no=>trivial
      | val d=>obtain ⟨u,e1,r1⟩:=w; exact ⟨u,e1,r1.mono (Same.new f)⟩
      | own es =>
        obtain ⟨b,us,e1,h1,f1,g1,r1⟩:=w
        have nb:b≠a:=fun w=>I.apart j i a z ⟨.inl ⟨es,e'⟩,by rw [← w]; exact c3 e1⟩ ho
        exact ⟨b,us,e1,h1,by rw [y0 nb]; exact f1,g1,r1.mono (Same.new f)⟩
      | obj C fs =>
        obtain ⟨b,dx,us,e1,es1,h1,h2,f1,f2,g1,g2,r1⟩:=w
        have nb:b≠a:=fun w=>by rw [w,h] at h1; cases h1
        have nd:dx≠a:=fun w=>by rw [w,h] at h2; cases h2
        exact ⟨b,dx,us,e1,es1,h1,h2,by rw [y0 nb]; exact f1,by rw [y0 nd]; exact f2,g1,g2,r1.mono (Same.new f)⟩
      | ownD kvs =>
        obtain ⟨b,us,e1,h1,f1,g1,r1⟩:=w
        have nb:b≠a:=fun w=>by rw [w,h] at h1; cases h1
        exact ⟨b,us,e1,h1,by rw [y0 nb]; exact f1,g1,r1.mono (Same.new f)⟩
theorem I2.freezeD {i:Nat} {ds:List (Key×D)} (I:I2 K Y F H σ ρ δ) (e:ρ[i]?=some (.ownD ds)) :
    ∃ a vs,σ[i]?=some (some (.ref a))∧H a=some (.dK vs)∧F a=none∧∀ o,I2 K Y (upd F a (.frz o (.dK vs))) (upd H a (.frz o (.dK vs))) σ (ρ.set i (.val (.dwk ds))) δ∧Rep K (upd F a (.frz o (.dK vs))) (.dwk ds) (.ref a):=by
  obtain ⟨a,vs,q,h,f,g,r⟩:=I.env i _ e
  have hs:=c3 q
  have ho:i5 ρ σ i a:=⟨.inr (.inr ⟨ds,e⟩),hs⟩
  refine ⟨a,vs,hs,h,f,fun o=>?_⟩
  have rr:Rep K (upd F a (.frz o (.dK vs))) (.dwk ds) (.ref a):=rep_dwk.mpr ⟨a,o,vs,rfl,o3,r.mono (Same.new f)⟩
  refine ⟨?_,rr⟩
  have key:∀ j b,i5 (ρ.set i (.val (.dwk ds))) σ j b→j≠i∧i5 ρ σ j b:=fun j b ow=>by
    by_cases z:j=i
    · subst z
      rcases ow.1 with ⟨ds,q⟩ | ⟨C,fs,q⟩ | ⟨kvs,q⟩ <;>
      · rw [List.getElem?_set] at q
        simp at q
    · refine ⟨z,?_⟩
      obtain ⟨o1,o2⟩:=ow
      simp only [List.getElem?_set_ne (Ne.symm z)] at o1
      exact ⟨o1,o2⟩
  refine ⟨⟨fun b u e=>?_,fun b es e=>?_,fun b u e f'=>?_,fun b u e=>?_,fun b u e=>?_,I.ran.dto⟩,fun j c e'=>?_,by simp [I.len],fun x y b n o1 o2=>I.apart x y b n (key x b o1).2 (key y b o2).2,fun j b o=>I.off j b (key j b o).2⟩
  · by_cases z:b=a
    · subst z; rw [o3] at e ⊢; exact e
    · rw [y0 z] at e ⊢; exact I.sub _ _ e
  · obtain ⟨q1,us,q2,q3⟩:=I.ran.dk b es e
    exact ⟨by rw [y0 (Ne.symm (I.off i a ho b es e))]; exact q1,us,by rw [y0 (Ne.symm (I.off i a ho b es e))]; exact q2,q3.mono (Same.new f)⟩
  · rw [y0 (u0 e g)]; exact I.ran.keep b u e f'
  · rw [y0 (u0 (I.ran.f0 b u e) f)]; exact I.ran.f0 b u e
  · by_cases z:b=a
    · subst z; exact .inr g
    · rw [y0 z] at e; exact I.ran.fnew b u e
  · by_cases z:j=i
    · subst z
      rw [List.getElem?_set] at e'
      by_cases hl:j < ρ.length
      · simp [hl] at e'
        subst e'
        exact ⟨_,q,rr⟩
      · simp [hl] at e'
    · rw [List.getElem?_set_ne (Ne.symm z)] at e'
      have w:=I.env j c e'
      cases c with
      | no=>trivial
      | val d=>obtain ⟨u,e1,r1⟩:=w; exact ⟨u,e1,r1.mono (Same.new f)⟩
      | own es =>
        obtain ⟨b,us,e1,h1,f1,g1,r1⟩:=w
        have nb:b≠a:=fun w=>by rw [w,h] at h1; cases h1
        exact ⟨b,us,e1,by rw [y0 nb]; exact h1,by rw [y0 nb]; exact f1,g1,r1.mono (Same.new f)⟩
      | obj C fs =>
        obtain ⟨b,dx,us,e1,es1,h1,h2,f1,f2,g1,g2,r1⟩:=w
        have nb:b≠a:=fun w=>by rw [w,h] at h1; cases h1
        have nd:dx≠a:=fun w=>by rw [w,h] at h2; cases h2
        exact ⟨b,dx,us,e1,es1,by rw [y0 nb]; exact h1,by rw [y0 nd]; exact h2,by rw [y0 nb]; exact f1,by rw [y0 nd]; exact f2,g1,g2,r1.mono (Same.new f)⟩
      | ownD kvs =>
        obtain ⟨b,us,e1,h1,f1,g1,r1⟩:=w
        have nb:b≠a:=fun w=>I.apart j i a z ⟨.inr (.inr ⟨kvs,e'⟩),by rw [← w]; exact c3 e1⟩ ho
        exact ⟨b,us,e1,by rw [y0 nb]; exact h1,by rw [y0 nb]; exact f1,g1,r1.mono (Same.new f)⟩
end
end DL
namespace DL
open PySem PySem.Spec L2
open PySem.W (XC)
noncomputable abbrev XK2:=Addr→List (Str×D)→En→Dk→Prop
noncomputable abbrev K2:=D→En→Dk→Prop
noncomputable abbrev TE2:=XK2→En→Dk→K2→Prop
noncomputable abbrev TT2:=XK2→En→Dk→(Bool→En→Dk→Prop)→Prop
noncomputable abbrev TA2:=XK2→En→Dk→(List D→En→Dk→Prop)→Prop
noncomputable def XRep (K:Frag) (F:Hp) (od:Option Addr) (fs:List (Str×D)):Prop:=match od with
  | none=>fs=[]
  | some d=>∃ us,F d=some (XD d us)∧RepF K F fs us
noncomputable def XR (K:Frag) (Y:Y2) (W:XW) (F:Hp) (x:XK2):Prop:=∀ C od fs σ' F' H' ρ' δ',I2 K Y F' H' σ' ρ' δ'→Same F F'→XRep K F' od fs→x C fs ρ' δ'→W C od σ' H'
theorem XR.mono {K:Frag} {Y:Y2} {W:XW} {F F1:Hp} {x:XK2} (h:XR K Y W F x) (s:Same F F1):XR K Y W F1 x:=fun C od fs σ' F' H' ρ' δ' I s'=>h C od fs σ' F' H' ρ' δ' I (s.trans s')
noncomputable def upE (K:Frag) (Y:Y2) (W:XW) (t:TE2):TE:=fun σ H Q=>∃ F ρ δ x q,I2 K Y F H σ ρ δ∧t x ρ δ q∧(∀ d v F' H' ρ' δ',I2 K Y F' H' σ ρ' δ'→Same F F'→Rep K F' d v→q d ρ' δ'→Q v H')∧XR K Y W F x
noncomputable def upT (K:Frag) (Y:Y2) (W:XW) (t:TT2):TT:=fun σ H Q=>∃ F ρ δ x q,I2 K Y F H σ ρ δ∧t x ρ δ q∧(∀ b F' H' ρ' δ',I2 K Y F' H' σ ρ' δ'→Same F F'→q b ρ' δ'→Q b H')∧XR K Y W F x
noncomputable def upA (K:Frag) (Y:Y2) (W:XW) (t:TA2):TA:=fun σ H Q=>∃ F ρ δ x q,I2 K Y F H σ ρ δ∧t x ρ δ q∧(∀ ds vs F' H' ρ' δ',I2 K Y F' H' σ ρ' δ'→Same F F'→Reps K F' ds vs→q ds ρ' δ'→Q vs H')∧XR K Y W F x
structure PE2 (X:Cx) (Y:Y2) (W:XW) (e:Expr) (t:TE2):Prop where
  go:PE X e (upE X.K Y W t)
structure PT2 (X:Cx) (Y:Y2) (W:XW) (e:Expr) (t:TT2):Prop where
  go:PT X e (upT X.K Y W t)
structure PW2 (X:Cx) (Y:Y2) (W:XW) (e:Expr) (t:TT2):Prop where
  go:PW X e (upT X.K Y W t)
structure PA2 (X:Cx) (Y:Y2) (W:XW) (es:List Expr) (t:TA2):Prop where
  go:PA X es (upA X.K Y W t)
theorem a0t {X:Cx} {e:Expr} {t t':TE} (h:PE X e t) (k:∀ σ H Q,t' σ H Q→t σ H Q):PE X e t':=fun pins s σ H Q I q=>h pins s σ H Q I (k σ H Q q)
theorem a0s {X:Cx} {e:Expr} {t t':TT} (h:PT X e t) (k:∀ σ H Q,t' σ H Q→t σ H Q):PT X e t':=fun pins s σ H Q I q=>h pins s σ H Q I (k σ H Q q)
theorem a0r {X:Cx} {e:Expr} {t t':TT} (h:PW X e t) (k:∀ σ H Q,t' σ H Q→t σ H Q):PW X e t':=fun w pins s σ H Q I q=>h w pins s σ H Q I (k σ H Q q)
theorem a0q {X:Cx} {es:List Expr} {t t':TA} (h:PA X es t) (k:∀ σ H Q,t' σ H Q→t σ H Q):PA X es t':=fun p pins s σ H Q I q=>h p pins s σ H Q I (k σ H Q q)
noncomputable def d0c:Expr→Bool | .Starred _ _=>false | _=>true
theorem w6 {e:Expr} {es:List Expr} {env:Env} (h:d0c e=true):starEach (e :: es) env=(false,eval e env) :: starEach es env:=by
  cases e <;> first | rfl | cases h
theorem n6 {pos:Pos} {env:Env}:∀ {es:List Expr},es.all d0c=true→(backTo pos (starEach es env)).any (·.1)=false
  | [],_=>rfl
  | e :: es,h=>by
    rw [List.all_cons,Bool.and_eq_true] at h
    rw [w6 h.1]
    show (false || (backTo pos (starEach es env)).any (·.1))=false
    rw [n6 h.2]; rfl
theorem pe2 {X:Cx} {Y:Y2} {W:XW} {e:Expr} {t:TE} {u:TE2} (h:PE X e t) (k:∀ σ H Q,upE X.K Y W u σ H Q→t σ H Q):PE2 X Y W e u:=⟨a0t h k⟩
theorem pt2 {X:Cx} {Y:Y2} {W:XW} {e:Expr} {t:TT} {u:TT2} (h:PT X e t) (k:∀ σ H Q,upT X.K Y W u σ H Q→t σ H Q):PT2 X Y W e u:=⟨a0s h k⟩
theorem pw2 {X:Cx} {Y:Y2} {W:XW} {e:Expr} {t:TT} {u:TT2} (h:PW X e t) (k:∀ σ H Q,upT X.K Y W u σ H Q→t σ H Q):PW2 X Y W e u:=⟨a0r h k⟩
theorem pa2 {X:Cx} {Y:Y2} {W:XW} {es:List Expr} {t:TA} {u:TA2} (h:PA X es t) (k:∀ σ H Q,upA X.K Y W u σ H Q→t σ H Q):PA2 X Y W es u:=⟨a0q h k⟩
section
variable {X:Cx} {Y:Y2} {W:XW} {a b c:Expr} {ta tb tc:TE2} {pos:Pos}
noncomputable def t2C (d:D):TE2:=fun _ ρ δ q=>q d ρ δ
theorem e2_c {e:Expr} {v:V} {d:D} (h:PE X e (tC v)) (r:∀ F,Rep X.K F d v):PE2 X Y W e (t2C d):=pe2 h fun σ H Q ⟨F,ρ,δ,x,q,I,h,k,kx⟩=>k d v F H ρ δ I (Same.refl F) (r F) h
theorem l0 {i j pos}:PE2 X Y W (.Constant (.int i) j pos) (t2C (.int i)):=e2_c d0s fun F=>rep_int.mpr rfl
theorem z0v {i j pos}:PE2 X Y W (.Constant (.bool i) j pos) (t2C (.bl i)):=e2_c pe_bl fun F=>rep_bl.mpr rfl
theorem l6 {j pos}:PE2 X Y W (.Constant .none j pos) (t2C .non):=e2_c pe_non fun F=>rep_non.mpr rfl
theorem z7 {i j pos}:PE2 X Y W (.Constant (.str i) j pos) (t2C (.str i)):=e2_c pe_str fun F=>rep_str.mpr rfl
noncomputable def rdV (ρ:En) (i:Nat) (k:D→En→Prop):Prop:=match ρ[i]? with
  | some (.val d)=>k d ρ
  | some (.own ds)=>k (.lst ds) (ρ.set i (.val (.lst ds)))
  | _=>False
noncomputable def t2V (i:Nat):TE2:=fun _ ρ δ q=>rdV ρ i fun d ρ'=>q d ρ' δ
theorem rd_use {K:Frag} {F H:Hp} {σ:St} {ρ:En} {δ:Dk} {i:Nat} {k:D→En→Prop} (I:I2 K Y F H σ ρ δ) (h:rdV ρ i k) :
    ∃ d v F' ρ',σ[i]?=some (some v)∧I2 K Y F' H σ ρ' δ∧Same F F'∧Rep K F' d v∧k d ρ':=by
  unfold rdV at h
  split at h
  · rename_i d e
    obtain ⟨v,q,r⟩:=I.env i _ e
    exact ⟨d,v,F,ρ,c3 q,I,Same.refl F,r,h⟩
  · rename_i ds e
    obtain ⟨a,vs,q,f,I',r⟩:=I.freeze e
    exact ⟨_,_,_,_,q,I',Same.new f,r,h⟩
  · exact h.elim
theorem e2_v (i:Nat) {x:Str} {pos:Pos} (hN:X.N[i]?=some x:=by rfl) (hv:Vis X.env.scope x:=by walk_at "v3") (hd:(x == ("__debug__" : Str))=false:=by decide)
    (hcd:(x == ("__classdict__" : Str))=false:=by decide):PE2 X Y W (.Name x pos) (t2V i):=pe2 (u7 hN hv hd hcd) fun σ H Q ⟨F,ρ,δ,x,q,I,h,k,kx⟩=>by
  obtain ⟨d,v,F',ρ',e,I',s,r,h'⟩:=rd_use I h
  exact ⟨v,e,k d v F' H ρ' δ I' s r h'⟩
theorem e2_gi {x:Str} {n:Int} {u:Value} (hm:X.mg x=some u) (r:∃ t,u=.int n t) (hg:Gl X x:=by rfl) (hd:(x == ("__debug__" : Str))=false:=by decide):PE2 X Y W (.Name x pos) (t2C (.int n)):=e2_c (k0k (v:=.int n) hg hm r hd) fun F=>rep_int.mpr rfl
theorem z0n {x:Str} {C:Addr} (hm:X.mg x=some (.ref C)) (hg:Gl X x:=by rfl) (hd:(x == ("__debug__" : Str))=false:=by decide):PE2 X Y W (.Name x pos) (t2C (.ref C)):=e2_c (k0k (v:=.ref C) hg hm rfl hd) fun F=>rep_ref.mpr rfl
theorem o0u (n:String) {y:Str} (hm:X.mg y=none) (hv:bootBuiltins y=some (.type n)) (hg:Gl X y:=by rfl) (hn:y ≠ "__name__" := by decide) (hd:(y == ("__debug__" : Str))=false:=by decide):PE2 X Y W (.Name y pos) (t2C (.ty n)) :=
  e2_c (pty n hm hv hg hn hd) fun F=>rep_ty.mpr rfl
noncomputable def i0y:TA2:=fun _ ρ δ q=>q [] ρ δ
noncomputable def t0j (te:TE2) (tr:TA2):TA2:=fun x ρ δ q=>te x ρ δ fun d ρ1 δ1=>tr x ρ1 δ1 fun ds ρ2 δ2=>q (d :: ds) ρ2 δ2
theorem o0:PA2 X Y W [] i0y:=pa2 j0v fun σ H Q ⟨F,ρ,δ,x,q,I,h,k,kx⟩=>k [] [] F H ρ δ I (Same.refl F) Reps.nil h
theorem z0 {e:Expr} {es:List Expr} {te:TE2} {t:TA2} (ha:PE2 X Y W e te) (hr:PA2 X Y W es t) (hs:starEach (e :: es) X.env=(false,eval e X.env) :: starEach es X.env:=by exact w6 rfl):PA2 X Y W (e :: es) (t0j te t) :=
  pa2 (o0z ha.go hr.go hs) fun σ H Q ⟨F,ρ,δ,x,q,I,h,k,kx⟩=>⟨F,ρ,δ,x,_,I,h,fun d1 v1 F1 H1 ρ1 δ1 I1 s1 r1 h1=>⟨F1,ρ1,δ1,x,_,I1,h1,fun ds vs F2 H2 ρ2 δ2 I' s2 r2 h2 =>
    k (d1 :: ds) (v1 :: vs) F2 H2 ρ2 δ2 I' (s1.trans s2) (Reps.cons (r1.mono s2) r2) h2,kx.mono s1⟩,kx⟩
theorem l0e {n:Nat} (h:n≤1000):n≤PySem.sizeLine:=Nat.le_trans h (by decide)
noncomputable def a0p (t:TA2):TE2:=fun x ρ δ q=>t x ρ δ fun ds ρ1 δ1=>ds.length≤1000∧q (.lst ds) ρ1 δ1
noncomputable def a0o (t:TA2):TE2:=fun x ρ δ q=>t x ρ δ fun ds ρ1 δ1=>ds.length≤1000∧q (.tup ds) ρ1 δ1
theorem o4 {es:List Expr} {t:TA2} (h:PA2 X Y W es t):PE2 X Y W (.List es pos) (a0p t):=pe2 (d0o h.go) fun σ H Q ⟨F,ρ,δ,x,q,I,h,k,kx⟩ =>
  ⟨F,ρ,δ,x,_,I,h,fun ds vs F1 H1 ρ1 δ1 I1 s1 r1 h1=>⟨l0e (by rw [r1.length]; exact h1.1),fun p hp=>k _ _ _ _ ρ1 δ1 (I1.alloc hp) (s1.trans (I1.grow hp)) (I1.lst hp r1) h1.2⟩,kx⟩
theorem m0k {x1} {es:List Expr} {t:TA2} (h:PA2 X Y W es t):PE2 X Y W (.Tuple es x1 pos) (a0o t):=pe2 (pe_tup h.go) fun σ H Q ⟨F,ρ,δ,x,q,I,h,k,kx⟩ =>
  ⟨F,ρ,δ,x,_,I,h,fun ds vs F1 H1 ρ1 δ1 I1 s1 r1 h1=>⟨l0e (by rw [r1.length]; exact h1.1),fun p hp=>k _ _ _ _ ρ1 δ1 (I1.alloc hp) (s1.trans (I1.grow hp)) (I1.tup hp r1) h1.2⟩,kx⟩
noncomputable abbrev F2:=D→D→(D→Prop)→Prop
noncomputable def OpD (K:Frag) (r:R2) (f:F2):Prop:=∀ (Y:Y2) (F H:Hp) (σ:St) (ρ:En) (δ:Dk) (x y:V) (d1 d2:D) (Q1:VK) (q:D→Prop),I2 K Y F H σ ρ δ→Rep K F d1 x→Rep K F d2 y→f d1 d2 q →
  (∀ d v F' H',I2 K Y F' H' σ ρ δ→Same F F'→Rep K F' d v→q d→Q1 v H')→r x y H Q1
noncomputable def t2Op (f:F2) (ta tb:TE2):TE2:=fun x ρ δ q=>ta x ρ δ fun d1 ρ1 δ1=>tb x ρ1 δ1 fun d2 ρ2 δ2=>f d1 d2 fun d=>q d ρ2 δ2
theorem f0j {r:R2} {f:F2} (hf:OpD X.K r f) {σ:St} {H:Hp} {Q:VK} (h:upE X.K Y W (t2Op f ta tb) σ H Q):tOp r (upE X.K Y W ta) (upE X.K Y W tb) σ H Q:=by
  obtain ⟨F,ρ,δ,x,q,I,h,k,kx⟩:=h
  exact ⟨F,ρ,δ,x,_,I,h,fun d1 v1 F1 H1 ρ1 δ1 I1 s1 r1 h1=>⟨F1,ρ1,δ1,x,_,I1,h1,fun d2 v2 F2 H2 ρ2 δ2 I' s2 r2 h2 =>
    hf Y F2 H2 σ ρ2 δ2 v1 v2 d1 d2 _ _ I' (r1.mono s2) r2 h2 fun d v F' H' I' s' r' q'=>k d v F' H' ρ2 δ2 I' ((s1.trans s2).trans s') r' q',kx.mono s1⟩,kx⟩
theorem j3 {op:Operator} {r:R2} {f:F2} (ho:OpR X (binaryOp op) r) (hf:OpD X.K r f) (ha:PE2 X Y W a ta) (hb:PE2 X Y W b tb):PE2 X Y W (.BinOp a op b pos) (t2Op f ta tb):=pe2 (pe_op ho ha.go hb.go) fun σ H Q h=>f0j hf h
theorem t0i {op:CmpOp} {r:R2} {f:F2} (ho:OpR X (compareOp op) r) (hf:OpD X.K r f) (ha:PE2 X Y W a ta) (hb:PE2 X Y W b tb) (hm:behindInMarks op b=false):PE2 X Y W (.Compare a [op] [b] pos) (t2Op f ta tb):=pe2 (b0o ho ha.go hb.go hm) fun σ H Q h=>f0j hf h
theorem f0i {r:R2} {f:F2} (hr:IxR X r) (hf:OpD X.K r f) (ha:PE2 X Y W a ta) (hb:PE2 X Y W b tb) (hs:o0x b:=by exact fun _ _=>rfl):PE2 X Y W (.Subscript a b pos) (t2Op f ta tb):=pe2 (pe_ix hr ha.go hb.go hs) fun σ H Q h=>f0j hf h
noncomputable def t2B (t:TE2):TT2:=fun x ρ δ q=>t x ρ δ fun d ρ1 δ1=>match d with | .bl k=>q k ρ1 δ1 | _=>False
theorem o0t {t:TE2} {σ:St} {H:Hp} {Q:Bool→Hp→Prop} (h:upT X.K Y W (t2B t) σ H Q):upE X.K Y W t σ H fun x H1=>∃ c,x=.bl c∧Q c H1:=by
  obtain ⟨F,ρ,δ,x,q,I,h,k,kx⟩:=h
  refine ⟨F,ρ,δ,x,_,I,h,fun d v F' H' ρ' δ' I' s' r' h'=>?_,kx⟩
  cases d with
  | bl b=>exact ⟨b,rep_bl.mp r',k b F' H' ρ' δ' I' s' h'⟩
  | _=>exact h'.elim
theorem y7 {e:Expr} {t:TE2} (h:PE2 X Y W e t) (he:∀ whole,isTrue e X.env whole=(do let v ← whole; standAt e.pos; holding [v] (truthy v)):=by intro _; rfl):PT2 X Y W e (t2B t):=pt2 (pt_val h.go he) fun σ H Q h=>o0t h
theorem p5 {op:CmpOp} {r:R2} {f:F2} (ho:OpR X (compareOp op) r) (hf:OpD X.K r f) (ha:PE2 X Y W a ta) (hb:PE2 X Y W b tb) (hm:behindInMarks op b=false):PT2 X Y W (.Compare a [op] [b] pos) (t2B (t2Op f ta tb)) :=
  pt2 (b0n ho ha.go hb.go hm) fun σ H Q h=>f0j hf (o0t h)
noncomputable def a0n (t:TT2):TT2:=fun x ρ δ q=>t x ρ δ fun k ρ1 δ1=>q (!k) ρ1 δ1
theorem x8 {t:TT2} (h:PT2 X Y W a t):PT2 X Y W (.UnaryOp .Not a pos) (a0n t):=pt2 (pt_not h.go) fun σ H Q ⟨F,ρ,δ,x,q,I,h,k,kx⟩=>⟨F,ρ,δ,x,_,I,h,fun b F' H' ρ' δ' I' s' h'=>k _ F' H' ρ' δ' I' s' h',kx⟩
noncomputable def a0m (t u:TT2):TT2:=fun x ρ δ q=>t x ρ δ fun k ρ1 δ1=>if k=true then u x ρ1 δ1 q else q false ρ1 δ1
noncomputable def t2Or (t u:TT2):TT2:=fun x ρ δ q=>t x ρ δ fun k ρ1 δ1=>if k=true then q true ρ1 δ1 else u x ρ1 δ1 q
variable {tA tB':TT2} {rest:List Expr}
theorem s0o (ha:PT2 X Y W a tA):PW2 X Y W (.BoolOp .And [a] pos) tA:=⟨b0s ha.go⟩
theorem q0v (ha:PT2 X Y W a tA):PW2 X Y W (.BoolOp .Or [a] pos) tA:=⟨pw_or1 ha.go⟩
theorem m0j (ha:PT2 X Y W a tA) (hb:PW2 X Y W (.BoolOp .And (b :: rest) pos) tB'):PW2 X Y W (.BoolOp .And (a :: b :: rest) pos) (a0m tA tB'):=pw2 (pw_and ha.go hb.go) fun σ H Q ⟨F,ρ,δ,x,q,I,h,k,kx⟩=>by
  refine ⟨F,ρ,δ,x,_,I,h,fun b F' H' ρ' δ' I' s' h'=>?_,kx⟩
  cases b with
  | true=>rw [if_pos rfl] at h' ⊢; exact ⟨F',ρ',δ',x,q,I',h',fun b F2 H2 ρ2 δ2 I2 s2 h2=>k b F2 H2 ρ2 δ2 I2 (s'.trans s2) h2,kx.mono s'⟩
  | false=>rw [if_neg Bool.false_ne_true] at h' ⊢; exact k false F' H' ρ' δ' I' s' h'
theorem i0x (ha:PT2 X Y W a tA) (hb:PW2 X Y W (.BoolOp .Or (b :: rest) pos) tB'):PW2 X Y W (.BoolOp .Or (a :: b :: rest) pos) (t2Or tA tB'):=pw2 (pw_or ha.go hb.go) fun σ H Q ⟨F,ρ,δ,x,q,I,h,k,kx⟩=>by
  refine ⟨F,ρ,δ,x,_,I,h,fun b F' H' ρ' δ' I' s' h'=>?_,kx⟩
  cases b with
  | true=>rw [if_pos rfl] at h' ⊢; exact k true F' H' ρ' δ' I' s' h'
  | false=>rw [if_neg Bool.false_ne_true] at h' ⊢; exact ⟨F',ρ',δ',x,q,I',h',fun b F2 H2 ρ2 δ2 I2 s2 h2=>k b F2 H2 ρ2 δ2 I2 (s'.trans s2) h2,kx.mono s'⟩
theorem PW2.pt (h:PW2 X Y W a tA):PT2 X Y W a tA:=⟨PW.pt h.go⟩
noncomputable def i0w (ta tb:TE2):TE2:=fun x ρ δ q=>ta x ρ δ fun d ρ1 δ1=>match d with | .bl k=>if k=true then tb x ρ1 δ1 q else q (.bl false) ρ1 δ1 | _=>False
noncomputable def i0v (ta:TE2):TE2:=fun x ρ δ q=>ta x ρ δ fun d ρ1 δ1=>match d with | .bl k=>q (.bl (!k)) ρ1 δ1 | _=>False
theorem v0g {op} (h:PE2 X Y W a ta):PE2 X Y W (.BoolOp op [a] pos) ta:=⟨pe_one h.go⟩
theorem w0i (ha:PE2 X Y W a ta) (hb:PE2 X Y W (.BoolOp .And (b :: rest) pos) tb):PE2 X Y W (.BoolOp .And (a :: b :: rest) pos) (i0w ta tb):=pe2 (pe_and ha.go hb.go) fun σ H Q ⟨F,ρ,δ,x,q,I,h,k,kx⟩=>by
  refine ⟨F,ρ,δ,x,_,I,h,fun d v F' H' ρ' δ' I' s' r' h'=>?_,kx⟩
  cases d with
  | bl b =>
    refine ⟨b,rep_bl.mp r',?_⟩
    cases b with
    | true=>dsimp only at h'; rw [if_pos rfl] at h' ⊢; exact ⟨F',ρ',δ',x,q,I',h',fun d v F2 H2 ρ2 δ2 I2 s2 r2 h2=>k d v F2 H2 ρ2 δ2 I2 (s'.trans s2) r2 h2,kx.mono s'⟩
    | false=>dsimp only at h'; rw [if_neg Bool.false_ne_true] at h' ⊢; exact k _ _ F' H' ρ' δ' I' s' (rep_bl.mpr rfl) h'
  | _=>exact h'.elim
theorem d0b (ha:PE2 X Y W a ta):PE2 X Y W (.UnaryOp .Not a pos) (i0v ta):=pe2 (pe_not ha.go) fun σ H Q ⟨F,ρ,δ,x,q,I,h,k,kx⟩=>by
  refine ⟨F,ρ,δ,x,_,I,h,fun d v F' H' ρ' δ' I' s' r' h'=>?_,kx⟩
  cases d with
  | bl b=>exact ⟨b,rep_bl.mp r',k _ _ F' H' ρ' δ' I' s' (rep_bl.mpr rfl) h'⟩
  | _=>exact h'.elim
noncomputable def t2If (t:TT2) (ta tb:TE2):TE2:=fun x ρ δ q=>t x ρ δ fun k ρ1 δ1=>if k=true then ta x ρ1 δ1 q else tb x ρ1 δ1 q
theorem e2_if {e:Expr} (hc:PT2 X Y W e tA) (ha:PE2 X Y W a ta) (hb:PE2 X Y W b tb):PE2 X Y W (.IfExp e a b pos) (t2If tA ta tb):=pe2 (g0d hc.go ha.go hb.go) fun σ H Q ⟨F,ρ,δ,x,q,I,h,k,kx⟩=>by
  refine ⟨F,ρ,δ,x,_,I,h,fun b F' H' ρ' δ' I' s' h'=>?_,kx⟩
  cases b with
  | true=>rw [if_pos rfl] at h' ⊢; exact ⟨F',ρ',δ',x,q,I',h',fun d v F2 H2 ρ2 δ2 I2 s2 r2 h2=>k d v F2 H2 ρ2 δ2 I2 (s'.trans s2) r2 h2,kx.mono s'⟩
  | false=>rw [if_neg Bool.false_ne_true] at h' ⊢; exact ⟨F',ρ',δ',x,q,I',h',fun d v F2 H2 ρ2 δ2 I2 s2 r2 h2=>k d v F2 H2 ρ2 δ2 I2 (s'.trans s2) r2 h2,kx.mono s'⟩
noncomputable def v0f (f f':F2) (ta tb tc:TE2):TE2:=fun x ρ δ q=>ta x ρ δ fun d1 ρ1 δ1=>tb x ρ1 δ1 fun d2 ρ2 δ2=>f d1 d2 fun d=>match d with
  | .bl k=>if k=true then tc x ρ2 δ2 fun d3 ρ3 δ3=>f' d2 d3 fun d=>q d ρ3 δ3 else q (.bl false) ρ2 δ2
  | _=>False
theorem m0i {r r':R2} {f f':F2} (hf:OpD X.K r f) (hf':OpD X.K r' f') {σ:St} {H:Hp} {Q:VK} (h:upE X.K Y W (v0f f f' ta tb tc) σ H Q):j0z r r' (upE X.K Y W ta) (upE X.K Y W tb) (upE X.K Y W tc) σ H Q:=by
  obtain ⟨F,ρ,δ,x,q,I,h,k,kx⟩:=h
  refine ⟨F,ρ,δ,x,_,I,h,fun d1 v1 F1 H1 ρ1 δ1 I1 s1 r1 h1=>⟨F1,ρ1,δ1,x,_,I1,h1,fun d2 v2 F2 H2 ρ2 δ2 I2 s2 r2 h2=>?_,kx.mono s1⟩,kx⟩
  refine hf Y F2 H2 σ ρ2 δ2 v1 v2 d1 d2 _ _ I2 (r1.mono s2) r2 h2 fun d v F' H' I' s' r' q'=>?_
  cases d with
  | bl b =>
    refine ⟨b,rep_bl.mp r',?_⟩
    have s3:=(s1.trans s2).trans s'
    cases b with
    | true =>
      dsimp only at q'
      rw [if_pos rfl] at q' ⊢
      exact ⟨F',ρ2,δ2,x,_,I',q',fun d3 v3 F3 H3 ρ3 δ3 I3 s4 r3 h3=>hf' Y F3 H3 σ ρ3 δ3 v2 v3 d2 d3 _ _ I3 (r2.mono (s'.trans s4)) r3 h3 fun d v F4 H4 I4 s5 r4 q4=>k d v F4 H4 ρ3 δ3 I4 ((s3.trans s4).trans s5) r4 q4,kx.mono s3⟩
    | false =>
      dsimp only at q'
      rw [if_neg Bool.false_ne_true] at q' ⊢
      exact k _ _ F' H' ρ2 δ2 I' s3 (rep_bl.mpr rfl) q'
  | _=>exact q'.elim
theorem f0h {op op':CmpOp} {r r':R2} {f f':F2} (ho:OpR X (compareOp op) r) (ho':OpR X (compareOp op') r') (hf:OpD X.K r f) (hf':OpD X.K r' f') (ha:PE2 X Y W a ta) (hb:PE2 X Y W b tb) (hc:PE2 X Y W c tc)
    (hm:lastMarks [op,op'] [b,c]=false:=by with_unfolding_all rfl):PE2 X Y W (.Compare a [op,op'] [b,c] pos) (v0f f f' ta tb tc):=pe2 (g0a ho ho' ha.go hb.go hc.go hm) fun σ H Q h=>m0i hf hf' h
theorem f0g {op op':CmpOp} {r r':R2} {f f':F2} (ho:OpR X (compareOp op) r) (ho':OpR X (compareOp op') r') (hf:OpD X.K r f) (hf':OpD X.K r' f') (ha:PE2 X Y W a ta) (hb:PE2 X Y W b tb) (hc:PE2 X Y W c tc)
    (hm:lastMarks [op,op'] [b,c]=false:=by with_unfolding_all rfl):PT2 X Y W (.Compare a [op,op'] [b,c] pos) (t2B (v0f f f' ta tb tc)):=pt2 (f0z ho ho' ha.go hb.go hc.go hm) fun σ H Q h=>m0i hf hf' (o0t h)
noncomputable abbrev F1:=List D→(D→Prop)→Prop
noncomputable def v0e (K:Frag) (r:List V→Hp→VK→Prop) (f:F1):Prop:=∀ (Y:Y2) (F H:Hp) (σ:St) (ρ:En) (δ:Dk) (vs:List V) (ds:List D) (Q1:VK) (q:D→Prop),I2 K Y F H σ ρ δ→Reps K F ds vs→f ds q →
  (∀ d v F' H',I2 K Y F' H' σ ρ δ→Same F F'→Rep K F' d v→q d→Q1 v H')→r vs H Q1
noncomputable def t2Bi (f:F1) (t:TA2):TE2:=fun x ρ δ q=>t x ρ δ fun ds ρ1 δ1=>f ds fun d=>q d ρ1 δ1
theorem up_bi {r:List V→Hp→VK→Prop} {f:F1} {t:TA2} (hf:v0e X.K r f) {σ:St} {H:Hp} {Q:VK} (h:upE X.K Y W (t2Bi f t) σ H Q):tCB r (upA X.K Y W t) σ H Q:=by
  obtain ⟨F,ρ,δ,x,q,I,h,k,kx⟩:=h
  exact ⟨F,ρ,δ,x,_,I,h,fun ds vs F1 H1 ρ1 δ1 I1 s1 r1 h1=>hf Y F1 H1 σ ρ1 δ1 vs ds _ _ I1 r1 h1 fun d v F' H' I' s' r' q'=>k d v F' H' ρ1 δ1 I' (s1.trans s') r' q',kx⟩
variable {x:Str} {e:Expr} {es:List Expr} {t:TA2} {p:Pos}
theorem e2_b {id:String} {r:List V→Hp→VK→Prop} {f:F1} (hc:x0h X (.builtin id) r) (hf:v0e X.K r f) (hm:X.mg x=none) (hv:bootBuiltins x=some (.builtin id)) (ha:PA2 X Y W (e :: es) t) (hg:Gl X x:=by rfl) (hn:x ≠ "__name__" := by decide) (hdb:(x == ("__debug__" : Str))=false:=by decide)
    (he:starEach (e :: es) X.env=(false,eval e X.env) :: starEach es X.env:=by exact w6 rfl) (hpl:(backTo pos (starEach es X.env)).any (·.1)=false:=by exact n6 rfl):PE2 X Y W (.Call (.Name x p) (e :: es) [] pos) (t2Bi f t):=pe2 (s0v hc hg hm hv ha.go hn hdb he hpl) fun σ H Q h=>up_bi hf h
theorem u0d {T:String} {r:List V→Hp→VK→Prop} {f:F1} (hc:x0h X (.type T) r) (hf:v0e X.K r f) (hm:X.mg x=none) (hv:bootBuiltins x=some (.type T)) (ha:PA2 X Y W (e :: es) t) (hg:Gl X x:=by rfl) (hn:x ≠ "__name__" := by decide) (hdb:(x == ("__debug__" : Str))=false:=by decide)
    (he:starEach (e :: es) X.env=(false,eval e X.env) :: starEach es X.env:=by exact w6 rfl) (hpl:(backTo pos (starEach es X.env)).any (·.1)=false:=by exact n6 rfl):PE2 X Y W (.Call (.Name x p) (e :: es) [] pos) (t2Bi f t):=pe2 (j0u hc hg hm hv ha.go hn hdb he hpl) fun σ H Q h=>up_bi hf h
noncomputable def t2Un (f:D→(D→Prop)→Prop) (ta:TE2):TE2:=fun x ρ δ q=>ta x ρ δ fun d ρ1 δ1=>f d fun d=>q d ρ1 δ1
theorem t0h (ha:PE2 X Y W a ta):PE2 X Y W (.UnaryOp .USub a pos) (t2Un (fun d q=>match d with | .int i=>q (.int (-i)) | _=>False) ta):=pe2 (pe_un un_neg ha.go) fun σ H Q ⟨F,ρ,δ,x,q,I,h,k,kx⟩=>by
  refine ⟨F,ρ,δ,x,_,I,h,fun d v F' H' ρ' δ' I' s' r' h'=>?_,kx⟩
  cases d with
  | int i=>exact ⟨i,rep_int.mp r',k _ _ F' H' ρ' δ' I' s' (rep_int.mpr rfl) h'⟩
  | _=>exact h'.elim
end
end DL
namespace DL
open PySem PySem.Spec L2
open PySem.W (XC)
section
variable {X:Cx} {K:Frag}
theorem m0h {f:Value→Value→Sem Value} {r r':R2} (h:OpR X f r) (h':OpR X f r'):OpR X f (fun x y H Q=>r x y H Q∨r' x y H Q):=by
  intro pins s σ H x y v u Q I rx ry q
  rcases q with q | q
  · exact h pins s σ H x y v u Q I rx ry q
  · exact h' pins s σ H x y v u Q I rx ry q
noncomputable def fI (C:Int→Int→Prop) (g:Int→Int→D):F2:=fun d1 d2 q=>match d1,d2 with
  | .int i,.int j=>C i j∧q (g i j)
  | _,_=>False
theorem dI {C:Int→Int→Prop} {g:Int→Int→V} {g':Int→Int→D} (h:∀ F i j,Rep K F (g' i j) (g i j)):OpD K (rI C g) (fI C g'):=by
  intro Y F H σ ρ δ x y d1 d2 Q1 q I r1 r2 h' k
  unfold fI at h'
  split at h'
  · rename_i i j
    exact ⟨i,j,rep_int.mp r1,rep_int.mp r2,h'.1,k _ _ F H I (Same.refl F) (h F i j) h'.2⟩
  · exact h'.elim
noncomputable def fI0 (g:Int→Int→D):F2:=fun d1 d2 q=>match d1,d2 with
  | .int i,.int j=>q (g i j)
  | _,_=>False
theorem dI0 {g:Int→Int→V} {g':Int→Int→D} (h:∀ F i j,Rep K F (g' i j) (g i j)):OpD K (rI0 g) (fI0 g'):=by
  intro Y F H σ ρ δ x y d1 d2 Q1 q I r1 r2 h' k
  unfold fI0 at h'
  split at h'
  · rename_i i j
    exact ⟨i,j,rep_int.mp r1,rep_int.mp r2,k _ _ F H I (Same.refl F) (h F i j) h'⟩
  · exact h'.elim
noncomputable def a0l (K:Frag):R2:=fun x y H Q=>rI0 (fun i j=>.int (i + j)) x y H Q∨rCat x y H Q
noncomputable def addF:F2:=fun d1 d2 q=>match d1,d2 with
  | .int i,.int j=>q (.int (i + j))
  | .lst xs,.lst ys=>xs.length + ys.length≤1000∧q (.lst (xs++ys))
  | _,_=>False
theorem a0k:OpR X (binaryOp .Add) (a0l X.K):=m0h op_add op_cat
theorem d_add:OpD K (a0l K) addF:=by
  intro Y F H σ ρ δ x y d1 d2 Q1 q I r1 r2 h' k
  unfold addF at h'
  split at h'
  · rename_i i j
    exact .inl ⟨i,j,rep_int.mp r1,rep_int.mp r2,k _ _ F H I (Same.refl F) (rep_int.mpr rfl) h'⟩
  · rename_i xs ys
    obtain ⟨a,vs,rfl,e1,z1⟩:=rep_lst.mp r1
    obtain ⟨b,us,rfl,e2,z2⟩:=rep_lst.mp r2
    refine .inr ⟨a,b,vs,us,rfl,rfl,I.sub _ _ e1,I.sub _ _ e2,l0e (by rw [z1.length,z2.length]; exact h'.1),fun p hp=>k _ _ _ _ (I.alloc hp) (I.grow hp) (I.lst hp (z1.append z2)) h'.2⟩
  · exact h'.elim
noncomputable abbrev subF:F2:=fI0 fun i j=>.int (i - j)
noncomputable abbrev mulF:F2:=fI CMul fun i j=>.int (i * j)
noncomputable abbrev a0j:F2:=fI CDiv fun i j=>.int (i / j)
noncomputable abbrev modF:F2:=fI (fun _ j=>0 < j) fun i j=>.int (i % j)
noncomputable abbrev powF:F2:=fI CPow fun i j=>.int (i ^ j.toNat)
noncomputable abbrev ltF:F2:=fI0 fun i j=>.bl (decide (i < j))
noncomputable abbrev leF:F2:=fI0 fun i j=>.bl (decide (i≤j))
noncomputable abbrev gtF:F2:=fI0 fun i j=>.bl (decide (j < i))
noncomputable abbrev geF:F2:=fI0 fun i j=>.bl (decide (j≤i))
theorem s0n:OpD K (rI0 fun i j=>.int (i - j)) subF:=dI0 fun _ _ _=>rep_int.mpr rfl
theorem q0u:OpD K (rI CMul fun i j=>.int (i * j)) mulF:=dI fun _ _ _=>rep_int.mpr rfl
theorem t0g:OpD K (rI CDiv fun i j=>.int (i / j)) a0j:=dI fun _ _ _=>rep_int.mpr rfl
theorem y6:OpD K (rI (fun _ j=>0 < j) fun i j=>.int (i % j)) modF:=dI fun _ _ _=>rep_int.mpr rfl
theorem d_pow:OpD K (rI CPow fun i j=>.int (i ^ j.toNat)) powF:=dI fun _ _ _=>rep_int.mpr rfl
theorem d_lt:OpD K (rI0 fun i j=>.bl (decide (i < j))) ltF:=dI0 fun _ _ _=>rep_bl.mpr rfl
theorem d_le:OpD K (rI0 fun i j=>.bl (decide (i≤j))) leF:=dI0 fun _ _ _=>rep_bl.mpr rfl
theorem d_gt:OpD K (rI0 fun i j=>.bl (decide (j < i))) gtF:=dI0 fun _ _ _=>rep_bl.mpr rfl
theorem d_ge:OpD K (rI0 fun i j=>.bl (decide (j≤i))) geF:=dI0 fun _ _ _=>rep_bl.mpr rfl
noncomputable def repF:F2:=fun d1 d2 q=>match d1,d2 with
  | .lst xs,.int k=>xs.length * k.toNat≤1000∧0≤k∧k≤1000∧q (.lst (List.replicate k.toNat xs).flatten)
  | _,_=>False
theorem Reps.rep {F:Hp} {ds:List D} {vs:List V} (h:Reps K F ds vs):∀ n:Nat,Reps K F (List.replicate n ds).flatten (List.replicate n vs).flatten
  | 0=>by simp; exact Reps.nil
  | n + 1=>by rw [List.replicate_succ,List.replicate_succ,List.flatten_cons,List.flatten_cons]; exact h.append (Reps.rep h n)
theorem d_rep:OpD K rRep repF:=by
  intro Y F H σ ρ δ x y d1 d2 Q1 q I r1 r2 h' k
  unfold repF at h'
  split at h'
  · rename_i xs n
    obtain ⟨a,vs,rfl,e1,z1⟩:=rep_lst.mp r1
    obtain ⟨h1,h2,h3,h4⟩:=h'
    refine ⟨a,n,vs,rfl,rep_int.mp r2,I.sub _ _ e1,by omega,by omega,l0e (by rw [z1.length]; exact h1),fun p hp=>k _ _ _ _ (I.alloc hp) (I.grow hp) (I.lst hp (z1.rep _)) h4⟩
  · exact h'.elim
noncomputable def eqD:D→D→Option Bool
  | .int i,.int j=>some (decide (i=j))
  | .bl i,.bl j=>some (decide (i=j))
  | .str i,.str j=>some (decide (i=j))
  | .non,.non=>some true
  | .non,.int _=>some false | .non,.bl _=>some false | .non,.str _=>some false
  | .int _,.non=>some false | .bl _,.non=>some false | .str _,.non=>some false
  | .int _,.str _=>some false | .bl _,.str _=>some false
  | .str _,.int _=>some false | .str _,.bl _=>some false
  | _,_=>none
noncomputable def eqF:F2:=fun d1 d2 q=>match eqD d1 d2 with | some b=>q (.bl b) | none=>False
noncomputable def neF:F2:=fun d1 d2 q=>match eqD d1 d2 with | some b=>q (.bl (!b)) | none=>False
theorem eqD_v {F:Hp} {d1 d2:D} {x y:V} {b:Bool} (h:eqD d1 d2=some b) (r1:Rep K F d1 x) (r2:Rep K F d2 y):scal x y=true∧decide (x=y)=b:=by
  unfold eqD at h
  split at h <;> first | cases h | skip
  all_goals
    first
      | (rw [rep_int.mp r1,rep_int.mp r2]; exact ⟨rfl,by simp⟩)
      | (rw [rep_bl.mp r1,rep_bl.mp r2]; exact ⟨rfl,by simp⟩)
      | (rw [rep_str.mp r1,rep_str.mp r2]; exact ⟨rfl,by simp⟩)
      | (rw [rep_non.mp r1,rep_non.mp r2]; exact ⟨rfl,by simp⟩)
      | (rw [rep_non.mp r1,rep_int.mp r2]; exact ⟨rfl,by simp⟩)
      | (rw [rep_non.mp r1,rep_bl.mp r2]; exact ⟨rfl,by simp⟩)
      | (rw [rep_non.mp r1,rep_str.mp r2]; exact ⟨rfl,by simp⟩)
      | (rw [rep_int.mp r1,rep_non.mp r2]; exact ⟨rfl,by simp⟩)
      | (rw [rep_bl.mp r1,rep_non.mp r2]; exact ⟨rfl,by simp⟩)
      | (rw [rep_str.mp r1,rep_non.mp r2]; exact ⟨rfl,by simp⟩)
      | (rw [rep_int.mp r1,rep_str.mp r2]; exact ⟨rfl,by simp⟩)
      | (rw [rep_bl.mp r1,rep_str.mp r2]; exact ⟨rfl,by simp⟩)
      | (rw [rep_str.mp r1,rep_int.mp r2]; exact ⟨rfl,by simp⟩)
      | (rw [rep_str.mp r1,rep_bl.mp r2]; exact ⟨rfl,by simp⟩)
theorem d_eq:OpD K rEq eqF:=by
  intro Y F H σ ρ δ x y d1 d2 Q1 q I r1 r2 h' k
  unfold eqF at h'
  split at h'
  · rename_i b e
    obtain ⟨s,e2⟩:=eqD_v e r1 r2
    exact ⟨s,by rw [e2]; exact k _ _ F H I (Same.refl F) (rep_bl.mpr rfl) h'⟩
  · exact h'.elim
theorem d_ne:OpD K rNe neF:=by
  intro Y F H σ ρ δ x y d1 d2 Q1 q I r1 r2 h' k
  unfold neF at h'
  split at h'
  · rename_i b e
    obtain ⟨s,e2⟩:=eqD_v e r1 r2
    exact ⟨s,by rw [e2]; exact k _ _ F H I (Same.refl F) (rep_bl.mpr rfl) h'⟩
  · exact h'.elim
noncomputable def q0t:D→Bool | .non=>true | _=>false
noncomputable def isNF:F2:=fun d1 d2 q=>match d2 with | .non=>q (.bl (q0t d1)) | _=>False
noncomputable def a0i:F2:=fun d1 d2 q=>match d2 with | .non=>q (.bl (!q0t d1)) | _=>False
theorem i0u {F:Hp} {d:D} {x:V} (r:Rep K F d x):decide (x=.non)=q0t d:=by
  cases d with
  | non=>rw [rep_non.mp r]; rfl
  | bl b=>rw [rep_bl.mp r]; rfl
  | int b=>rw [rep_int.mp r]; rfl
  | str b=>rw [rep_str.mp r]; rfl
  | lst b=>obtain ⟨a,vs,rfl,_⟩:=rep_lst.mp r; rfl
  | tup b=>obtain ⟨a,vs,rfl,_⟩:=rep_tup.mp r; rfl
  | scr b=>obtain ⟨a,vs,rfl,_⟩:=rep_scr.mp r; rfl
  | dic b=>obtain ⟨a,vs,rfl,_⟩:=rep_dic.mp r; rfl
  | dwk b=>obtain ⟨a,o,vs,rfl,_⟩:=rep_dwk.mp r; rfl
  | ins C b=>obtain ⟨a,dx,vs,rfl,_⟩:=rep_ins.mp r; rfl
  | exc C b=>obtain ⟨a,fr,rfl,_⟩:=rep_exc.mp r; rfl
  | ref a=>rw [rep_ref.mp r]; rfl
  | ty a=>rw [rep_ty.mp r]; rfl
theorem d_isN:OpD K (fun x y H Q=>y=.non∧Q (.bl (decide (x=.non))) H) isNF:=by
  intro Y F H σ ρ δ x y d1 d2 Q1 q I r1 r2 h' k
  cases d2 with
  | non=>exact ⟨rep_non.mp r2,by rw [i0u r1]; exact k _ _ F H I (Same.refl F) (rep_bl.mpr rfl) h'⟩
  | _=>exact h'.elim
theorem d0a:OpD K (fun x y H Q=>y=.non∧Q (.bl (!decide (x=.non))) H) a0i:=by
  intro Y F H σ ρ δ x y d1 d2 Q1 q I r1 r2 h' k
  cases d2 with
  | non=>exact ⟨rep_non.mp r2,by rw [i0u r1]; exact k _ _ F H I (Same.refl F) (rep_bl.mpr rfl) h'⟩
  | _=>exact h'.elim
noncomputable def isBF:F2:=fun d1 d2 q=>match d1,d2 with | .bl i,.bl j=>q (.bl (i == j)) | _,_=>False
noncomputable def seqD:D→Option (List D)
  | .lst xs=>some xs | .tup xs=>some xs | .scr xs=>some xs | _=>none
noncomputable def ixF:F2:=fun d1 d2 q=>match seqD d1,d2 with
  | some xs,.int i=>match atI xs i with | some d=>q d | none=>False
  | _,_=>False
theorem v0d {F H:Hp} {d:D} {xs:List D} {x:V} (s:Same F H) (h:seqD d=some xs) (r:Rep K F d x):∃ a vs,x=.ref a∧(SqL K H a vs∨SqT K H a vs)∧Reps K F xs vs:=by
  cases d with
  | lst ys=>cases h; obtain ⟨a,vs,rfl,e,z⟩:=rep_lst.mp r; exact ⟨a,vs,rfl,.inl (SqL.of (s _ _ e)),z⟩
  | tup ys=>cases h; obtain ⟨a,vs,rfl,e,z⟩:=rep_tup.mp r; exact ⟨a,vs,rfl,.inr (SqT.of (s _ _ e)),z⟩
  | scr ys=>cases h; obtain ⟨a,vs,rfl,e,z⟩:=rep_scr.mp r; exact ⟨a,vs,rfl,.inl (s.sqL e),z⟩
  | _=>cases h
theorem d_ix:OpD K (rIx K) ixF:=by
  intro Y F H σ ρ δ x y d1 d2 Q1 q I r1 r2 h' k
  unfold ixF at h'
  split at h'
  · rename_i xs i e
    split at h'
    · rename_i d ed
      obtain ⟨a,vs,rfl,sq,z⟩:=v0d I.sub e r1
      obtain ⟨v,ev,rv⟩:=z.atI ed
      have fin:=k d v F H I (Same.refl F) rv h'
      rcases sq with sq | sq
      · exact .inl ⟨a,vs,i,v,rfl,rep_int.mp r2,sq,ev,fin⟩
      · exact .inr (.inl ⟨a,vs,i,v,rfl,rep_int.mp r2,sq,ev,fin⟩)
    · exact h'.elim
  · exact h'.elim
noncomputable def y0n:D→Bool | .non=>true | .bl _=>true | .int _=>true | .str _=>true | _=>false
noncomputable def toV:D→V | .bl b=>.bl b | .int i=>.int i | .str x=>.str x | _=>.non
theorem m0g {F:Hp} {d:D} {x:V} (h:y0n d=true) (r:Rep K F d x):x=toV d∧w9 x=true:=by
  cases d with
  | non=>rw [rep_non.mp r]; exact ⟨rfl,rfl⟩
  | bl b=>rw [rep_bl.mp r]; exact ⟨rfl,rfl⟩
  | int b=>rw [rep_int.mp r]; exact ⟨rfl,rfl⟩
  | str b=>rw [rep_str.mp r]; exact ⟨rfl,rfl⟩
  | _=>cases h
theorem l8 {F:Hp}:∀ {ds:List D} {xs:List V},ds.all y0n=true→Reps K F ds xs→xs=ds.map toV∧xs.all w9=true
  | [],xs,_,r=>by rw [reps_nil.mp r]; exact ⟨rfl,rfl⟩
  | d :: ds,xs,h,r=>by
    obtain ⟨v,vs,rfl,r1,r2⟩:=reps_cons.mp r
    rw [List.all_cons,Bool.and_eq_true] at h
    obtain ⟨e1,e2⟩:=m0g h.1 r1
    obtain ⟨e3,e4⟩:=l8 h.2 r2
    rw [List.all_cons,e2,e4,List.map_cons,← e1,← e3]
    exact ⟨rfl,rfl⟩
noncomputable def inD (d:D) (xs:List D):Bool:=xs.any fun e=>eqV (toV e) (toV d)
noncomputable def inF:F2:=fun d1 d2 q=>match seqD d2 with | some xs=>(y0n d1 && xs.all y0n)=true∧q (.bl (inD d1 xs)) | none=>False
noncomputable def m0f:F2:=fun d1 d2 q=>match seqD d2 with | some xs=>(y0n d1 && xs.all y0n)=true∧q (.bl (!inD d1 xs)) | none=>False
theorem i0t (d:D) (xs:List D):inV (toV d) (xs.map toV)=inD d xs:=by unfold inV inD; rw [List.any_map]; rfl
theorem d_in:OpD K (rIn K false) inF:=by
  intro Y F H σ ρ δ x y d1 d2 Q1 q I r1 r2 h' k
  unfold inF at h'
  split at h'
  · rename_i xs e
    obtain ⟨h1,h2⟩:=h'
    rw [Bool.and_eq_true] at h1
    obtain ⟨a,vs,rfl,sq,z⟩:=v0d I.sub e r2
    obtain ⟨e1,e2⟩:=m0g h1.1 r1
    obtain ⟨e3,e4⟩:=l8 h1.2 z
    refine ⟨a,vs,rfl,sq,e2,e4,?_⟩
    rw [e1,e3,i0t]
    exact k _ _ F H I (Same.refl F) (rep_bl.mpr rfl) h2
  · exact h'.elim
theorem a0h:OpD K (rIn K true) m0f:=by
  intro Y F H σ ρ δ x y d1 d2 Q1 q I r1 r2 h' k
  unfold m0f at h'
  split at h'
  · rename_i xs e
    obtain ⟨h1,h2⟩:=h'
    rw [Bool.and_eq_true] at h1
    obtain ⟨a,vs,rfl,sq,z⟩:=v0d I.sub e r2
    obtain ⟨e1,e2⟩:=m0g h1.1 r1
    obtain ⟨e3,e4⟩:=l8 h1.2 z
    refine ⟨a,vs,rfl,sq,e2,e4,?_⟩
    rw [e1,e3,i0t]
    exact k _ _ F H I (Same.refl F) (rep_bl.mpr rfl) h2
  · exact h'.elim
noncomputable def lenF:F1:=fun ds q=>match ds with | [d]=>(match seqD d with | some xs=>q (.int (xs.length:Nat)) | none=>False) | _=>False
theorem z0m {F:Hp} {d:D} {vs:List V} (r:Reps K F [d] vs):∃ v,vs=[v]∧Rep K F d v:=by
  obtain ⟨v,l,rfl,r1,r2⟩:=reps_cons.mp r
  rw [reps_nil.mp r2]; exact ⟨v,rfl,r1⟩
theorem a0g {F:Hp} {d e:D} {vs:List V} (r:Reps K F [d,e] vs):∃ v u,vs=[v,u]∧Rep K F d v∧Rep K F e u:=by
  obtain ⟨v,l,rfl,r1,r2⟩:=reps_cons.mp r
  obtain ⟨u,rfl,r3⟩:=z0m r2
  exact ⟨v,u,rfl,r1,r3⟩
theorem d_len:v0e K (fun xs H Q=>∃ p ys,xs=[.ref p]∧(SqL K H p ys∨SqT K H p ys)∧Q (.int ys.length) H) lenF:=by
  intro Y F H σ ρ δ vs ds Q1 q I r h' k
  unfold lenF at h'
  split at h'
  · split at h'
    · rename_i xs e
      obtain ⟨v,rfl,r1⟩:=z0m r
      obtain ⟨a,us,rfl,sq,z⟩:=v0d I.sub e r1
      exact ⟨a,us,rfl,sq,by rw [z.length]; exact k _ _ F H I (Same.refl F) (rep_int.mpr rfl) h'⟩
    · exact h'.elim
  · exact h'.elim
noncomputable def absF:F1:=fun ds q=>match ds with | [.int i]=>q (.int (if i < 0 then -i else i)) | _=>False
theorem d_abs:v0e K (fun xs H Q=>∃ i,xs=[.int i]∧Q (.int (if i < 0 then -i else i)) H) absF:=by
  intro Y F H σ ρ δ vs ds Q1 q I r h' k
  unfold absF at h'
  split at h'
  · obtain ⟨v,rfl,r1⟩:=z0m r
    rw [rep_int.mp r1]
    exact ⟨_,rfl,k _ _ F H I (Same.refl F) (rep_int.mpr rfl) h'⟩
  · exact h'.elim
noncomputable def minF:F1:=fun ds q=>match ds with | [.int i,.int j]=>q (.int (if j < i then j else i)) | _=>False
theorem d_min:v0e K (fun xs H Q=>∃ i j,xs=[.int i,.int j]∧Q (.int (if j < i then j else i)) H) minF:=by
  intro Y F H σ ρ δ vs ds Q1 q I r h' k
  unfold minF at h'
  split at h'
  · obtain ⟨v,u,rfl,r1,r2⟩:=a0g r
    rw [rep_int.mp r1,rep_int.mp r2]
    exact ⟨_,_,rfl,k _ _ F H I (Same.refl F) (rep_int.mpr rfl) h'⟩
  · exact h'.elim
noncomputable def f0f:F1:=fun ds q=>match ds with | [d]=>(match seqD d with | some xs=>q (.lst xs) | none=>False) | _=>False
theorem t0f:v0e K (fun xs H Q=>∃ p ys,xs=[.ref p]∧(SqL K H p ys∨SqT K H p ys)∧∀ l,H l=none→Q (.ref l) (upd H l (.lst ys))) f0f:=by
  intro Y F H σ ρ δ vs ds Q1 q I r h' k
  unfold f0f at h'
  split at h'
  · split at h'
    · rename_i xs e
      obtain ⟨v,rfl,r1⟩:=z0m r
      obtain ⟨a,us,rfl,sq,z⟩:=v0d I.sub e r1
      exact ⟨a,us,rfl,sq,fun l hl=>k _ _ _ _ (I.alloc hl) (I.grow hl) (I.lst hl z) h'⟩
    · exact h'.elim
  · exact h'.elim
noncomputable def m0e:F1:=fun ds q=>match ds with | [.lst xs]=>q (.tup xs) | [.scr xs]=>q (.tup xs) | [.tup xs]=>q (.tup xs) | _=>False
theorem s0m:v0e K (fun xs H Q=>∃ p ys,xs=[.ref p]∧((SqL K H p ys∧∀ l,H l=none→Q (.ref l) (upd H l (.tup ys)))∨(SqT K H p ys∧Q (.ref p) H))) m0e:=by
  intro Y F H σ ρ δ vs ds Q1 q I r h' k
  unfold m0e at h'
  split at h'
  · obtain ⟨v,rfl,r1⟩:=z0m r
    obtain ⟨a,us,rfl,e,z⟩:=rep_lst.mp r1
    exact ⟨a,us,rfl,.inl ⟨SqL.of (I.sub _ _ e),fun l hl=>k _ _ _ _ (I.alloc hl) (I.grow hl) (I.tup hl z) h'⟩⟩
  · obtain ⟨v,rfl,r1⟩:=z0m r
    obtain ⟨a,us,rfl,e,z⟩:=rep_scr.mp r1
    exact ⟨a,us,rfl,.inl ⟨I.sub.sqL e,fun l hl=>k _ _ _ _ (I.alloc hl) (I.grow hl) (I.tup hl z) h'⟩⟩
  · obtain ⟨v,rfl,r1⟩:=z0m r
    obtain ⟨a,us,rfl,e,z⟩:=rep_tup.mp r1
    exact ⟨a,us,rfl,.inr ⟨SqT.of (I.sub _ _ e),k _ _ F H I (Same.refl F) (rep_tup.mpr ⟨a,us,rfl,e,z⟩) h'⟩⟩
  · exact h'.elim
noncomputable def blsD:List D→Option (List Bool)
  | []=>some []
  | .bl b :: r=>(blsD r).map (b :: ·)
  | _=>none
theorem bls_v {F:Hp}:∀ {ds:List D} {bs:List Bool} {vs:List V},blsD ds=some bs→Reps K F ds vs→vs=bs.map V.bl
  | [],bs,vs,h,r=>by cases h; rw [reps_nil.mp r]; rfl
  | d :: ds,bs,vs,h,r=>by
    obtain ⟨v,l,rfl,r1,r2⟩:=reps_cons.mp r
    cases d with
    | bl b =>
      unfold blsD at h
      obtain ⟨cs,e1,rfl⟩:=Option.map_eq_some_iff.mp h
      rw [rep_bl.mp r1,bls_v e1 r2]; rfl
    | _=>cases h
noncomputable def allF:F1:=fun ds q=>match ds with | [.lst xs]=>(match blsD xs with | some bs=>q (.bl (bs.all id)) | none=>False) | _=>False
theorem d_all:v0e K (rAll K) allF:=by
  intro Y F H σ ρ δ vs ds Q1 q I r h' k
  unfold allF at h'
  split at h'
  · split at h'
    · rename_i xs _ bs e
      obtain ⟨v,rfl,r1⟩:=z0m r
      obtain ⟨a,us,rfl,e2,z⟩:=rep_lst.mp r1
      exact ⟨a,bs,rfl,SqL.of (by rw [← bls_v e z]; exact I.sub _ _ e2),k _ _ F H I (Same.refl F) (rep_bl.mpr rfl) h'⟩
    · exact h'.elim
  · exact h'.elim
structure ClsI (K:Frag) (C:Addr):Prop where
  cl:Cls K C
  ha:PySem.W.findIn K (.ref C) "__class__" = some (some (.builtin "object.__class__"))
  hn:PySem.W.specialIn K (.builtin "object.__class__") "__get__" = some (some (.builtin "getset_descriptor.__get__"))
  htk:PySem.W.takesIn K (.builtin "object.__class__")=some true
  hm:PySem.W.mroIn K C (.type "object")=some true
noncomputable def tyD:D→Value
  | .non=>.type "NoneType" | .bl _=>.type "bool" | .int _=>.type "int" | .str _=>.type "str" | .lst _=>.type "list" | .scr _=>.type "list" | .tup _=>.type "tuple" | .dic _=>.type "dict"
  | .ins C _=>.ref C | .exc C _=>.ref C | _=>.none
noncomputable def TyD (K:Frag):D→Prop
  | .ins C _=>ClsI K C | .exc C _=>XC K C | .ref _=>False | .ty _=>False | .scr _=>False | .dwk _=>False | _=>True
theorem tyD_v {F H:Hp} {d:D} {x:V} (s:Same F H) (t:TyD K d) (r:Rep K F d x):TyX K H x (tyD d):=by
  cases d with
  | non=>rw [rep_non.mp r]; exact .of .non
  | bl b=>rw [rep_bl.mp r]; exact .of (.bl b)
  | int b=>rw [rep_int.mp r]; exact .of (.int b)
  | str b=>rw [rep_str.mp r]; exact .of (.str b)
  | lst b=>obtain ⟨a,vs,rfl,e,_⟩:=rep_lst.mp r; exact .of (.lst (s _ _ e))
  | tup b=>obtain ⟨a,vs,rfl,e,_⟩:=rep_tup.mp r; exact .of (.tup (s _ _ e))
  | scr b=>exact t.elim
  | dic b=>obtain ⟨a,vs,rfl,e,_⟩:=rep_dic.mp r; exact .of (.dK (s _ _ e))
  | dwk b=>exact t.elim
  | ins C b=>obtain ⟨a,dx,vs,rfl,e,_⟩:=rep_ins.mp r; exact .of (.ins (s _ _ e) t.cl t.ha t.hn t.htk t.hm)
  | exc C b =>
    obtain ⟨a,fr,rfl,h⟩:=rep_exc.mp r
    rcases h with ⟨_,e⟩ | ⟨d,us,e,e2,_⟩
    · exact .exc0 (s _ _ e) t
    · exact .exc (s _ _ e) (s _ _ e2) t
  | ref a=>exact t.elim
  | ty a=>exact t.elim
noncomputable def tysD:List D→Option (List String)
  | []=>some []
  | .ty n :: r=>(tysD r).map (n :: ·)
  | _=>none
theorem tys_v {F:Hp}:∀ {ds:List D} {ns:List String} {vs:List V},tysD ds=some ns→Reps K F ds vs→vs=ns.map V.ty
  | [],bs,vs,h,r=>by cases h; rw [reps_nil.mp r]; rfl
  | d :: ds,bs,vs,h,r=>by
    obtain ⟨v,l,rfl,r1,r2⟩:=reps_cons.mp r
    cases d with
    | ty b =>
      unfold tysD at h
      obtain ⟨cs,e1,rfl⟩:=Option.map_eq_some_iff.mp h
      rw [rep_ty.mp r1,tys_v e1 r2]; rfl
    | _=>cases h
noncomputable def u0c (K:Frag) (d c:D):Option Bool:=match c with
  | .ty n=>PySem.W.kitOne K (tyD d) (.type n)
  | .ref C=>PySem.W.kitOne K (tyD d) (.ref C)
  | .tup cs=>match tysD cs with | some ns=>PySem.W.kitAny K (tyD d) (ns.map Value.type) | none=>none
  | _=>none
noncomputable def f0e (K:Frag):F1:=fun ds q=>match ds with | [d,c]=>TyD K d∧(match u0c K d c with | some b=>q (.bl b) | none=>False) | _=>False
theorem b5:v0e K (rInst K) (f0e K):=by
  intro Y F H σ ρ δ vs ds Q1 q I r h' k
  unfold f0e at h'
  split at h'
  · rename_i d c
    obtain ⟨ht,h'⟩:=h'
    obtain ⟨v,u,rfl,r1,r2⟩:=a0g r
    split at h'
    · rename_i b e
      refine ⟨v,u,_,b,rfl,tyD_v I.sub ht r1,?_,k _ _ F H I (Same.refl F) (rep_bl.mpr rfl) h'⟩
      unfold u0c at e
      split at e
      · exact .inl ⟨_,rep_ty.mp r2,e⟩
      · exact .inr (.inl ⟨_,rep_ref.mp r2,e⟩)
      · split at e
        · rename_i ns en
          obtain ⟨a,us,rfl,e2,z⟩:=rep_tup.mp r2
          exact .inr (.inr ⟨a,ns,rfl,by rw [← tys_v en z]; exact I.sub _ _ e2,e⟩)
        · cases e
      · cases e
    · exact h'.elim
  · exact h'.elim
end
end DL
namespace DL
open PySem PySem.Spec L2
open PySem.W (XC)
structure End2 where
  nx:En→Dk→Prop
  rt:D→Dk→Prop
  xc:XK2
  bk:En→Dk→Prop:=fun _ _=>False
  ct:En→Dk→Prop:=fun _ _=>False
noncomputable abbrev TS2:=End2→En→Dk→Prop
structure ER (K:Frag) (Y:Y2) (W:XW) (F:Hp) (E2:End2) (E1:Ends):Prop where
  nx:∀ σ' F' H' ρ' δ',I2 K Y F' H' σ' ρ' δ'→Same F F'→E2.nx ρ' δ'→E1.nx σ' H'
  rt:∀ d v σ' F' H' ρ' δ',I2 K Y F' H' σ' ρ' δ'→Same F F'→Rep K F' d v→E2.rt d δ'→E1.rt v H'
  xc:XR K Y W F E2.xc
  bk:∀ σ' F' H' ρ' δ',I2 K Y F' H' σ' ρ' δ'→Same F F'→E2.bk ρ' δ'→E1.bk σ' H'
  ct:∀ σ' F' H' ρ' δ',I2 K Y F' H' σ' ρ' δ'→Same F F'→E2.ct ρ' δ'→E1.ct σ' H'
theorem ER.mono {K:Frag} {Y:Y2} {W:XW} {F F1:Hp} {E2:End2} {E1:Ends} (h:ER K Y W F E2 E1) (s:Same F F1):ER K Y W F1 E2 E1 :=
  ⟨fun σ' F' H' ρ' δ' I s'=>h.nx σ' F' H' ρ' δ' I (s.trans s'),fun d v σ' F' H' ρ' δ' I s'=>h.rt d v σ' F' H' ρ' δ' I (s.trans s'),h.xc.mono s,fun σ' F' H' ρ' δ' I s'=>h.bk σ' F' H' ρ' δ' I (s.trans s'),fun σ' F' H' ρ' δ' I s'=>h.ct σ' F' H' ρ' δ' I (s.trans s')⟩
noncomputable def upS (K:Frag) (Y:Y2) (W:XW) (t:TS2):TS:=fun E1 σ H=>∃ F ρ δ E2,I2 K Y F H σ ρ δ∧t E2 ρ δ∧ER K Y W F E2 E1
structure PS2 (X:Cx) (Y:Y2) (W:XW) (st:Stmt) (t:TS2):Prop where
  go:PS X st (upS X.K Y W t)
structure PSs2 (X:Cx) (Y:Y2) (W:XW) (st:List Stmt) (t:TS2):Prop where
  go:PSs X st (upS X.K Y W t)
theorem a0f {X:Cx} {st:Stmt} {t t':TS} (h:PS X st t) (k:∀ D σ H,t' D σ H→t D σ H):PS X st t':=fun pins s σ H D I q=>h pins s σ H D I (k D σ H q)
theorem m0d {X:Cx} {st:List Stmt} {t t':TS} (h:PSs X st t) (k:∀ D σ H,t' D σ H→t D σ H):PSs X st t':=fun pins s σ H D I q=>h pins s σ H D I (k D σ H q)
theorem ps2 {X:Cx} {Y:Y2} {W:XW} {st:Stmt} {t:TS} {u:TS2} (h:PS X st t) (k:∀ D σ H,upS X.K Y W u D σ H→t D σ H):PS2 X Y W st u:=⟨a0f h k⟩
theorem pss2 {X:Cx} {Y:Y2} {W:XW} {st:List Stmt} {t:TS} {u:TS2} (h:PSs X st t) (k:∀ D σ H,upS X.K Y W u D σ H→t D σ H):PSs2 X Y W st u:=⟨m0d h k⟩
section
variable {X:Cx} {Y:Y2} {W:XW} {st:Stmt} {rest:List Stmt} {t u:TS2} {e:Expr} {te:TE2} {pos:Pos}
noncomputable def i0s:TS2:=fun E ρ δ=>E.nx ρ δ
noncomputable def a0e (t u:TS2):TS2:=fun E ρ δ=>t { E with nx:=u E } ρ δ
theorem x5:PSs2 X Y W [] i0s:=pss2 b0r fun E1 σ H ⟨F,ρ,δ,E2,I,h,er⟩=>er.nx σ F H ρ δ I (Same.refl F) h
theorem j0 (h1:PS2 X Y W st t) (h2:PSs2 X Y W rest u):PSs2 X Y W (st :: rest) (a0e t u):=pss2 (n0b h1.go h2.go) fun E1 σ H ⟨F,ρ,δ,E2,I,h,er⟩ =>
  ⟨F,ρ,δ,{ E2 with nx:=u E2 },I,h,⟨fun σ' F' H' ρ' δ' I' s' h'=>⟨F',ρ',δ',E2,I',h',er.mono s'⟩,er.rt,er.xc,er.bk,er.ct⟩⟩
theorem d0 (h1:PS2 X Y W st t):PSs2 X Y W [st] t:=⟨z0t h1.go⟩
noncomputable def i0r (te:TE2):TS2:=fun E ρ δ=>te E.xc ρ δ fun _ ρ1 δ1=>E.nx ρ1 δ1
theorem w8 (he:PE2 X Y W e te) (hs:swapsWith e none pos.line X.env=pure false:=by rfl):PS2 X Y W (.Expr e pos) (i0r te):=ps2 (b0q he.go hs) fun E1 σ H ⟨F,ρ,δ,E2,I,h,er⟩ =>
  ⟨F,ρ,δ,E2.xc,_,I,h,fun d v F' H' ρ' δ' I' s' r' h'=>er.nx σ F' H' ρ' δ' I' s' h',er.xc⟩
noncomputable def a0d (te:TE2):TS2:=fun E ρ δ=>te E.xc ρ δ fun d _ δ1=>E.rt d δ1
theorem u4 (he:PE2 X Y W e te):PS2 X Y W (.Return (some e) pos) (a0d te):=ps2 (d0r he.go) fun E1 σ H ⟨F,ρ,δ,E2,I,h,er⟩ =>
  ⟨F,ρ,δ,E2.xc,_,I,h,fun d v F' H' ρ' δ' I' s' r' h'=>er.rt d v σ F' H' ρ' δ' I' s' r' h',er.xc⟩
noncomputable def a0c (c:TT2) (t u:TS2):TS2:=fun E ρ δ=>c E.xc ρ δ fun b ρ1 δ1=>if b=true then t E ρ1 δ1 else u E ρ1 δ1
theorem v6 {c:Expr} {a b:List Stmt} {tc:TT2} (hc:PT2 X Y W c tc) (ha:PSs2 X Y W a t) (hb:PSs2 X Y W b u):PS2 X Y W (.If c a b pos) (a0c tc t u):=ps2 (ps_if hc.go ha.go hb.go) fun E1 σ H ⟨F,ρ,δ,E2,I,h,er⟩=>by
  refine ⟨F,ρ,δ,E2.xc,_,I,h,fun b F' H' ρ' δ' I' s' h'=>?_,er.xc⟩
  cases b with
  | true=>rw [if_pos rfl] at h' ⊢; exact ⟨F',ρ',δ',E2,I',h',er.mono s'⟩
  | false=>rw [if_neg Bool.false_ne_true] at h' ⊢; exact ⟨F',ρ',δ',E2,I',h',er.mono s'⟩
variable {i:Nat} {x:Str} {pos' p:Pos}
noncomputable def f0d (i:Nat) (te:TE2):TS2:=fun E ρ δ=>te E.xc ρ δ fun d ρ1 δ1=>E.nx (ρ1.set i (.val d)) δ1
theorem a3 (i:Nat) (hN:X.N.Nodup) (he:PE2 X Y W e te) (hi:X.N[i]?=some x:=by rfl) (hx:Loc X.env.scope x:=by walk_at "v2") (hs:swapsWith e (some (.Name x pos')) pos.line X.env=pure false:=by rfl)
    (hf:X.fn x=true∨X.env.scope.names.lookup x=some .local:=by walk_at "v1"):PS2 X Y W (.Assign [.Name x pos'] e pos) (f0d i te):=ps2 (k0j (i:=i) hN hi hx he.go hs hf) fun E1 σ H ⟨F,ρ,δ,E2,I,h,er⟩ =>
  ⟨F,ρ,δ,E2.xc,_,I,h,fun d v F' H' ρ' δ' I' s' r' h'=>er.nx _ F' H' _ δ' (I'.put r') s' h',er.xc⟩
theorem I2.own {K:Frag} {F H:Hp} {σ:St} {ρ:En} {δ:Dk} {i:Nat} {p:Addr} {ds:List D} {vs:List V} (I:I2 K Y F H σ ρ δ) (h:H p=none) (r:Reps K F ds vs):I2 K Y F (upd H p (.lst vs)) (σ.set i (some (.ref p))) (ρ.set i (.own ds)) δ:=by
  have hF:F p=none:=I.sub.free h
  have h0:=I.ran.fresh h
  have key:∀ j a,i5 (ρ.set i (.own ds)) (σ.set i (some (.ref p))) j a→(j=i∧a=p)∨(j≠i∧i5 ρ σ j a):=fun j a o=>by
    by_cases z:j=i
    · subst z
      have:=o.2
      rw [List.getElem?_set] at this
      by_cases hl:j < σ.length
      · simp [hl] at this
        exact .inl ⟨rfl,this.symm⟩
      · simp [hl] at this
    · obtain ⟨o1,o2⟩:=o
      simp only [List.getElem?_set_ne (Ne.symm z)] at o1 o2
      exact .inr ⟨z,o1,o2⟩
  have addr:∀ j a,i5 ρ σ j a→a≠p:=fun j a o=>by
    rcases o.1 with ⟨ds,q⟩ | ⟨C,fs,q⟩ | ⟨kvs,q⟩
    · obtain ⟨b,us,e,hb,_⟩:=I.env j _ q
      rw [o.2] at e
      cases e
      exact u0 hb h
    · obtain ⟨b,dx,us,e,es0,hb,_⟩:=I.env j _ q
      rw [o.2] at e
      cases e
      exact u0 hb h
    · obtain ⟨b,us,e,hb,_⟩:=I.env j _ q
      rw [o.2] at e
      cases e
      exact u0 hb h
  refine ⟨⟨fun b u e=>?_,fun a es e=>?_,fun b u e f=>?_,I.ran.f0,I.ran.fnew,I.ran.dto⟩,fun j c e=>?_,by simp [I.len],fun a b c n o1 o2=>?_,fun j a o=>?_⟩
  · rw [y0 (u0 e hF)]; exact I.sub _ _ e
  · obtain ⟨q,us,q2,r2⟩:=I.ran.dk a es e
    exact ⟨q,us,by rw [y0 (u0 q2 h)]; exact q2,r2⟩
  · rw [y0 (u0 (I.ran.keep b u e f) h)]; exact I.ran.keep b u e f
  · by_cases z:j=i
    · subst z
      rw [List.getElem?_set] at e
      by_cases hl:j < ρ.length
      · simp [hl] at e
        subst e
        refine ⟨p,vs,?_,o3,hF,h0,r⟩
        rw [List.getElem?_set]
        simp [I.len ▸ hl]
      · simp [hl] at e
    · rw [List.getElem?_set_ne (Ne.symm z)] at e ⊢
      have w:=I.env j c e
      cases c with
      | no=>trivial
      | val d=>exact w
      | own es =>
        obtain ⟨b,us,e1,h1,f1,g1,r1⟩:=w
        exact ⟨b,us,e1,by rw [y0 (u0 h1 h)]; exact h1,f1,g1,r1⟩
      | obj C fs =>
        obtain ⟨b,dx,us,e1,es1,h1,h2,f1,f2,g1,g2,r1⟩:=w
        exact ⟨b,dx,us,e1,es1,by rw [y0 (u0 h1 h)]; exact h1,by rw [y0 (u0 h2 h)]; exact h2,f1,f2,g1,g2,r1⟩
      | ownD kvs =>
        obtain ⟨b,us,e1,h1,f1,g1,r1⟩:=w
        exact ⟨b,us,e1,by rw [y0 (u0 h1 h)]; exact h1,f1,g1,r1⟩
  · rcases key a c o1 with ⟨z1,z2⟩ | ⟨z1,z2⟩
    · rcases key b c o2 with ⟨y1,y2⟩ | ⟨y1,y2⟩
      · exact n (z1.trans y1.symm)
      · exact addr b c y2 z2
    · rcases key b c o2 with ⟨y1,y2⟩ | ⟨y1,y2⟩
      · exact addr a c z2 y2
      · exact I.apart a b c n z2 y2
  · rcases key j a o with ⟨z1,z2⟩ | ⟨z1,z2⟩
    · intro b es eb w
      obtain ⟨_,us,q2,_⟩:=I.ran.dk b es eb
      rw [← w,z2,h] at q2
      cases q2
    · exact I.off j a z2
theorem I2.ownD {K:Frag} {F H:Hp} {σ:St} {ρ:En} {δ:Dk} {i:Nat} {p:Addr} {ds:List (Key×D)} {vs:List (Key×V)} (I:I2 K Y F H σ ρ δ) (h:H p=none) (r:RepK K F ds vs):I2 K Y F (upd H p (.dK vs)) (σ.set i (some (.ref p))) (ρ.set i (.ownD ds)) δ:=by
  have hF:F p=none:=I.sub.free h
  have h0:=I.ran.fresh h
  have key:∀ j a,i5 (ρ.set i (.ownD ds)) (σ.set i (some (.ref p))) j a→(j=i∧a=p)∨(j≠i∧i5 ρ σ j a):=fun j a o=>by
    by_cases z:j=i
    · subst z
      have:=o.2
      rw [List.getElem?_set] at this
      by_cases hl:j < σ.length
      · simp [hl] at this
        exact .inl ⟨rfl,this.symm⟩
      · simp [hl] at this
    · obtain ⟨o1,o2⟩:=o
      simp only [List.getElem?_set_ne (Ne.symm z)] at o1 o2
      exact .inr ⟨z,o1,o2⟩
  have addr:∀ j a,i5 ρ σ j a→a≠p:=fun j a o=>by
    rcases o.1 with ⟨ds,q⟩ | ⟨C,fs,q⟩ | ⟨kvs,q⟩
    · obtain ⟨b,us,e,hb,_⟩:=I.env j _ q
      rw [o.2] at e
      cases e
      exact u0 hb h
    · obtain ⟨b,dx,us,e,es0,hb,_⟩:=I.env j _ q
      rw [o.2] at e
      cases e
      exact u0 hb h
    · obtain ⟨b,us,e,hb,_⟩:=I.env j _ q
      rw [o.2] at e
      cases e
      exact u0 hb h
  refine ⟨⟨fun b u e=>?_,fun a es e=>?_,fun b u e f=>?_,I.ran.f0,I.ran.fnew,I.ran.dto⟩,fun j c e=>?_,by simp [I.len],fun a b c n o1 o2=>?_,fun j a o=>?_⟩
  · rw [y0 (u0 e hF)]; exact I.sub _ _ e
  · obtain ⟨q,us,q2,r2⟩:=I.ran.dk a es e
    exact ⟨q,us,by rw [y0 (u0 q2 h)]; exact q2,r2⟩
  · rw [y0 (u0 (I.ran.keep b u e f) h)]; exact I.ran.keep b u e f
  · by_cases z:j=i
    · subst z
      rw [List.getElem?_set] at e
      by_cases hl:j < ρ.length
      · simp [hl] at e
        subst e
        refine ⟨p,vs,?_,o3,hF,h0,r⟩
        rw [List.getElem?_set]
        simp [I.len ▸ hl]
      · simp [hl] at e
    · rw [List.getElem?_set_ne (Ne.symm z)] at e ⊢
      have w:=I.env j c e
      cases c with
      | no=>trivial
      | val d=>exact w
      | own es =>
        obtain ⟨b,us,e1,h1,f1,g1,r1⟩:=w
        exact ⟨b,us,e1,by rw [y0 (u0 h1 h)]; exact h1,f1,g1,r1⟩
      | obj C fs =>
        obtain ⟨b,dx,us,e1,es1,h1,h2,f1,f2,g1,g2,r1⟩:=w
        exact ⟨b,dx,us,e1,es1,by rw [y0 (u0 h1 h)]; exact h1,by rw [y0 (u0 h2 h)]; exact h2,f1,f2,g1,g2,r1⟩
      | ownD kvs =>
        obtain ⟨b,us,e1,h1,f1,g1,r1⟩:=w
        exact ⟨b,us,e1,by rw [y0 (u0 h1 h)]; exact h1,f1,g1,r1⟩
  · rcases key a c o1 with ⟨z1,z2⟩ | ⟨z1,z2⟩
    · rcases key b c o2 with ⟨y1,y2⟩ | ⟨y1,y2⟩
      · exact n (z1.trans y1.symm)
      · exact addr b c y2 z2
    · rcases key b c o2 with ⟨y1,y2⟩ | ⟨y1,y2⟩
      · exact addr a c z2 y2
      · exact I.apart a b c n z2 y2
  · rcases key j a o with ⟨z1,z2⟩ | ⟨z1,z2⟩
    · intro b es eb w
      obtain ⟨_,us,q2,_⟩:=I.ran.dk b es eb
      rw [← w,z2,h] at q2
      cases q2
    · exact I.off j a z2
noncomputable def a0b (i:Nat) (ta:TA2):TS2:=fun E ρ δ=>ta E.xc ρ δ fun ds ρ1 δ1=>ds.length≤1000∧E.nx (ρ1.set i (.own ds)) δ1
theorem t0e (i:Nat) {es:List Expr} {ta:TA2} {lpos:Pos} (hN:X.N.Nodup) (ha:PA2 X Y W es ta) (hi:X.N[i]?=some x:=by rfl) (hx:Loc X.env.scope x:=by walk_at "v2") (hs:swapsWith (.List es lpos) (some (.Name x pos')) pos.line X.env=pure false:=by rfl)
    (hf:X.fn x=true∨X.env.scope.names.lookup x=some .local:=by walk_at "v1"):PS2 X Y W (.Assign [.Name x pos'] (.List es lpos) pos) (a0b i ta):=ps2 (k0j (i:=i) hN hi hx (d0o ha.go) hs hf) fun E1 σ H ⟨F,ρ,δ,E2,I,h,er⟩ =>
  ⟨F,ρ,δ,E2.xc,_,I,h,fun ds vs F1 H1 ρ1 δ1 I1 s1 r1 h1=>⟨l0e (by rw [r1.length]; exact h1.1),fun p hp=>er.nx _ F1 _ _ δ1 (I1.own hp r1) s1 h1.2⟩,er.xc⟩
noncomputable def c0z (i:Nat) (ta:TA2):TS2:=fun E ρ δ=>ta E.xc ρ δ fun ds ρ1 δ1=>match ds with | [d]=>(match seqD d with | some xs=>E.nx (ρ1.set i (.own xs)) δ1 | none=>False) | _=>False
noncomputable def hasV (ρ:En) (i:Nat):Bool:=match ρ[i]? with | some .no=>false | none=>false | _=>true
theorem has_v {K:Frag} {F H:Hp} {σ:St} {ρ:En} {δ:Dk} (I:I2 K Y F H σ ρ δ) (h:hasV ρ i=true):∃ v,σ[i]?=some (some v):=by
  unfold hasV at h
  split at h
  · cases h
  · cases h
  · rename_i o n1 n2
    cases e:ρ[i]? with
    | none=>exact absurd e n2
    | some c =>
      have w:=I.env i c e
      cases c with
      | no=>exact absurd e n1
      | val d=>obtain ⟨v,q,_⟩:=w; exact ⟨v,c3 q⟩
      | own ds=>obtain ⟨a,vs,q,_⟩:=w; exact ⟨_,c3 q⟩
      | obj C fs=>obtain ⟨a,dx,vs,q,_⟩:=w; exact ⟨_,c3 q⟩
      | ownD kvs=>obtain ⟨a,vs,q,_⟩:=w; exact ⟨_,c3 q⟩
noncomputable def seqV (ρ:En) (δ:Dk) (i:Nat):Option (List D):=match ρ[i]? with
  | some (.own ds)=>some ds
  | some (.val (.ref a))=>(match δ with | some (b,ds)=>if a=b then some ds else none | none=>none)
  | some (.val d)=>seqD d
  | _=>none
theorem seq_v {K:Frag} {F H:Hp} {σ:St} {ρ:En} {δ:Dk} {ds:List D} (I:I2 K Y F H σ ρ δ) (h:seqV ρ δ i=some ds):∃ a vs,σ[i]?=some (some (.ref a))∧(SqL K H a vs∨SqT K H a vs)∧Reps K F ds vs:=by
  unfold seqV at h
  split at h
  · rename_i es e
    cases h
    obtain ⟨a,vs,q,hh,_,_,r⟩:=I.env i _ e
    exact ⟨a,vs,c3 q,.inl (SqL.of hh),r⟩
  · rename_i a e
    split at h
    · rename_i b es
      by_cases z:a=b
      · subst z
        simp at h
        subst h
        obtain ⟨u,q,r⟩:=I.env i _ e
        rw [rep_ref.mp r] at q
        obtain ⟨_,vs,hh,rr⟩:=I.ran.dk a es rfl
        exact ⟨a,vs,c3 q,.inl (SqL.of hh),rr⟩
      · simp [z] at h
    · cases h
  · rename_i d _ e
    obtain ⟨u,q,r⟩:=I.env i _ e
    obtain ⟨a,vs,rfl,sq,z⟩:=v0d I.sub h r
    exact ⟨a,vs,c3 q,sq,z⟩
  · cases h
variable {a b:Expr} {ta tb:TE2}
noncomputable def ixQ (o:Option (List D)) (d:D):Option D:=match o,d with | some xs,.int j=>atI xs j | _,_=>none
noncomputable def l0d (i:Nat) (tb:TE2):TE2:=fun x ρ δ q=>hasV ρ i=true∧tb x ρ δ fun d ρ1 δ1=>match ixQ (seqV ρ1 δ1 i) d with | some e=>q e ρ1 δ1 | none=>False
theorem m5 (i:Nat) (hb:PE2 X Y W b tb) (hN:X.N[i]?=some x:=by rfl) (hv:Vis X.env.scope x:=by walk_at "v3") (hd:(x == ("__debug__" : Str))=false:=by decide)
    (hcd:(x == ("__classdict__" : Str))=false:=by decide) (hs:o0x b:=by exact fun _ _=>rfl):PE2 X Y W (.Subscript (.Name x p) b pos) (l0d i tb):=pe2 (pe_ix r0h (u7 hN hv hd hcd) hb.go hs) fun σ H Q ⟨F,ρ,δ,x,q,I,h,k,kx⟩=>by
  obtain ⟨v,ev⟩:=has_v I h.1
  refine ⟨v,ev,F,ρ,δ,x,_,I,h.2,fun d w F' H' ρ' δ' I' s' r' h'=>?_,kx⟩
  split at h'
  · rename_i e ee
    unfold ixQ at ee
    split at ee
    · rename_i xs j es
      obtain ⟨a,vs,ea,sq,z⟩:=seq_v I' es
      rw [ev] at ea
      cases ea
      obtain ⟨v2,e2,r2⟩:=z.atI ee
      have fin:=k e v2 F' H' ρ' δ' I' s' r2 h'
      rcases sq with sq | sq
      · exact .inl ⟨a,vs,j,v2,rfl,rep_int.mp r',sq,e2,fin⟩
      · exact .inr (.inl ⟨a,vs,j,v2,rfl,rep_int.mp r',sq,e2,fin⟩)
    · cases ee
  · exact h'.elim
noncomputable def m0c (i:Nat):TE2:=fun x ρ δ q=>match seqV ρ δ i with | some xs=>q (.int (xs.length:Nat)) ρ δ | none=>False
theorem u9 (i:Nat) {np:Pos} (hm:X.mg "len" = none) (hg:Gl X "len" := by rfl) (hN:X.N[i]?=some x:=by rfl) (hv:Vis X.env.scope x:=by walk_at "v3") (hd:(x == ("__debug__" : Str))=false:=by decide)
    (hcd:(x == ("__classdict__" : Str))=false:=by decide) (hst:starEach [.Name x p] X.env=[(false,eval (.Name x p) X.env)]:=by rfl) (hpl:(backTo pos (starEach [] X.env)).any (·.1)=false:=by exact n6 rfl) :
    PE2 X Y W (.Call (.Name "len" np) [.Name x p] [] pos) (m0c i):=pe2 (s0v z0r hg hm m0l (o0z (u7 hN hv hd hcd) j0v hst) (by decide) (by decide) hst hpl) fun σ H Q ⟨F,ρ,δ,x,q,I,h,k,kx⟩=>by
  unfold m0c at h
  split at h
  · rename_i xs e
    obtain ⟨a,vs,ea,sq,z⟩:=seq_v I e
    exact ⟨_,ea,a,vs,rfl,sq,by rw [z.length]; exact k _ _ F H ρ δ I (Same.refl F) (rep_int.mpr rfl) h⟩
  · exact h.elim
noncomputable def mutV (ρ:En) (δ:Dk) (i:Nat):Option (List D×(List D→En×Dk)):=match ρ[i]? with
  | some (.own ds)=>some (ds,fun es=>(ρ.set i (.own es),δ))
  | some (.val (.ref a))=>(match δ with | some (b,ds)=>if a=b then some (ds,fun es=>(ρ,some (b,es))) else none | none=>none)
  | _=>none
theorem a0a {K:Frag} {F H:Hp} {σ:St} {ρ:En} {δ:Dk} {ds:List D} {put:List D→En×Dk} (I:I2 K Y F H σ ρ δ) (h:mutV ρ δ i=some (ds,put)) :
    ∃ a vs,σ[i]?=some (some (.ref a))∧H a=some (.lst vs)∧Reps K F ds vs∧∀ es us,Reps K F es us→I2 K Y F (upd H a (.lst us)) σ (put es).1 (put es).2:=by
  unfold mutV at h
  split at h
  · rename_i es e
    cases h
    obtain ⟨a,vs,q,hh,hF,h0,r⟩:=I.env i _ e
    have hs:=c3 q
    have ho:i5 ρ σ i a:=⟨.inl ⟨_,e⟩,hs⟩
    refine ⟨a,vs,hs,hh,r,fun es us r2=>?_⟩
    have key:∀ j b,i5 (ρ.set i (.own es)) σ j b→i5 ρ σ j b:=fun j b o=>by
      by_cases z:j=i
      · subst z
        exact ⟨ho.1,o.2⟩
      · obtain ⟨o1,o2⟩:=o
        simp only [List.getElem?_set_ne (Ne.symm z)] at o1
        exact ⟨o1,o2⟩
    refine ⟨⟨fun b u e=>?_,fun b fs e=>?_,fun b u e f=>?_,I.ran.f0,I.ran.fnew,I.ran.dto⟩,fun j c e'=>?_,by simp [I.len],fun x y b n o1 o2=>I.apart x y b n (key x b o1) (key y b o2),fun j b o=>I.off j b (key j b o)⟩
    · rw [y0 (u0 e hF)]; exact I.sub _ _ e
    · obtain ⟨q1,ws,q2,q3⟩:=I.ran.dk b fs e
      exact ⟨q1,ws,by rw [y0 (Ne.symm (I.off i a ho b fs e))]; exact q2,q3⟩
    · rw [y0 (u0 e h0)]; exact I.ran.keep b u e f
    · by_cases z:j=i
      · subst z
        rw [List.getElem?_set] at e'
        by_cases hl:j < ρ.length
        · simp [hl] at e'
          subst e'
          exact ⟨a,us,q,o3,hF,h0,r2⟩
        · simp [hl] at e'
      · rw [List.getElem?_set_ne (Ne.symm z)] at e'
        have w:=I.env j c e'
        cases c with
        | no=>trivial
        | val d=>exact w
        | own fs =>
          obtain ⟨b,ws,e1,h1,f1,g1,r1⟩:=w
          have nb:b≠a:=fun w=>I.apart j i a z ⟨.inl ⟨fs,e'⟩,by rw [← w]; exact c3 e1⟩ ho
          exact ⟨b,ws,e1,by rw [y0 nb]; exact h1,f1,g1,r1⟩
        | obj C fs =>
          obtain ⟨b,dx,ws,e1,es1,h1,h2,f1,f2,g1,g2,r1⟩:=w
          have nb:b≠a:=fun w=>by rw [w,hh] at h1; cases h1
          have nd:dx≠a:=fun w=>by rw [w,hh] at h2; cases h2
          exact ⟨b,dx,ws,e1,es1,by rw [y0 nb]; exact h1,by rw [y0 nd]; exact h2,f1,f2,g1,g2,r1⟩
        | ownD kvs =>
          obtain ⟨b,ws,e1,h1,f1,g1,r1⟩:=w
          have nb:b≠a:=fun w=>by rw [w,hh] at h1; cases h1
          exact ⟨b,ws,e1,by rw [y0 nb]; exact h1,f1,g1,r1⟩
  · rename_i a e
    split at h
    · rename_i b es
      by_cases z:a=b
      · subst z
        simp at h
        obtain ⟨rfl,rfl⟩:=h
        obtain ⟨u,q,r⟩:=I.env i _ e
        rw [rep_ref.mp r] at q
        obtain ⟨hF,vs,hh,rr⟩:=I.ran.dk a es rfl
        refine ⟨a,vs,c3 q,hh,rr,fun fs us r2=>?_⟩
        refine ⟨⟨fun b u e=>?_,fun b gs e=>?_,fun b u eb fb=>?_,I.ran.f0,I.ran.fnew,⟨fun b gs e=>?_,fun b gs e n=>?_⟩⟩,fun j c e'=>?_,I.len,I.apart,fun j b o c gs e=>?_⟩
        · rw [y0 (u0 e hF)]; exact I.sub _ _ e
        · cases e; exact ⟨hF,us,o3,r2⟩
        · have nb:b≠a:=by
            intro w
            subst w
            cases hd:Y.δ₀ with
            | none =>
              have:=I.ran.dto.2 b es rfl hd
              rw [eb] at this; cases this
            | some p0 =>
              obtain ⟨c,gs⟩:=p0
              obtain ⟨es',w2⟩:=I.ran.dto.1 c gs hd
              cases w2
              exact fb b gs hd rfl
          rw [y0 nb]; exact I.ran.keep b u eb fb
        · obtain ⟨es',w⟩:=I.ran.dto.1 b gs e
          cases w
          exact ⟨_,rfl⟩
        · cases e
          exact I.ran.dto.2 a es rfl n
        · have w:=I.env j c e'
          cases c with
          | no=>trivial
          | val d=>exact w
          | own fs =>
            obtain ⟨b,ws,e1,h1,f1,g1,r1⟩:=w
            have nb:b≠a:=I.off j b ⟨.inl ⟨fs,e'⟩,c3 e1⟩ a es rfl
            exact ⟨b,ws,e1,by rw [y0 nb]; exact h1,f1,g1,r1⟩
          | obj C fs =>
            obtain ⟨b,dx,ws,e1,es1,h1,h2,f1,f2,g1,g2,r1⟩:=w
            have nb:b≠a:=fun w=>by rw [w,hh] at h1; cases h1
            have nd:dx≠a:=fun w=>by rw [w,hh] at h2; cases h2
            exact ⟨b,dx,ws,e1,es1,by rw [y0 nb]; exact h1,by rw [y0 nd]; exact h2,f1,f2,g1,g2,r1⟩
          | ownD kvs =>
            obtain ⟨b,ws,e1,h1,f1,g1,r1⟩:=w
            have nb:b≠a:=fun w=>by rw [w,hh] at h1; cases h1
            exact ⟨b,ws,e1,by rw [y0 nb]; exact h1,f1,g1,r1⟩
        · cases e
          exact I.off j b o a es rfl
      · simp [z] at h
    · cases h
  · cases h
theorem I2.mutD {K:Frag} {F H:Hp} {σ:St} {ρ:En} {δ:Dk} {ds:List (Key×D)} (I:I2 K Y F H σ ρ δ) (e:ρ[i]?=some (.ownD ds)) :
    ∃ a vs,σ[i]?=some (some (.ref a))∧H a=some (.dK vs)∧RepK K F ds vs∧∀ es us,RepK K F es us→I2 K Y F (upd H a (.dK us)) σ (ρ.set i (.ownD es)) δ:=by
  obtain ⟨a,vs,q,hh,hF,h0,r⟩:=I.env i _ e
  have hs:=c3 q
  have ho:i5 ρ σ i a:=⟨.inr (.inr ⟨_,e⟩),hs⟩
  refine ⟨a,vs,hs,hh,r,fun es us r2=>?_⟩
  have key:∀ j b,i5 (ρ.set i (.ownD es)) σ j b→i5 ρ σ j b:=fun j b o=>by
    by_cases z:j=i
    · subst z
      exact ⟨ho.1,o.2⟩
    · obtain ⟨o1,o2⟩:=o
      simp only [List.getElem?_set_ne (Ne.symm z)] at o1
      exact ⟨o1,o2⟩
  refine ⟨⟨fun b u e=>?_,fun b fs e=>?_,fun b u e f=>?_,I.ran.f0,I.ran.fnew,I.ran.dto⟩,fun j c e'=>?_,by simp [I.len],fun x y b n o1 o2=>I.apart x y b n (key x b o1) (key y b o2),fun j b o=>I.off j b (key j b o)⟩
  · rw [y0 (u0 e hF)]; exact I.sub _ _ e
  · obtain ⟨q1,ws,q2,q3⟩:=I.ran.dk b fs e
    exact ⟨q1,ws,by rw [y0 (Ne.symm (I.off i a ho b fs e))]; exact q2,q3⟩
  · rw [y0 (u0 e h0)]; exact I.ran.keep b u e f
  · by_cases z:j=i
    · subst z
      rw [List.getElem?_set] at e'
      by_cases hl:j < ρ.length
      · simp [hl] at e'
        subst e'
        exact ⟨a,us,q,o3,hF,h0,r2⟩
      · simp [hl] at e'
    · rw [List.getElem?_set_ne (Ne.symm z)] at e'
      have w:=I.env j c e'
      cases c with
      | no=>trivial
      | val d=>exact w
      | own fs =>
        obtain ⟨b,ws,e1,h1,f1,g1,r1⟩:=w
        have nb:b≠a:=fun w=>by rw [w,hh] at h1; cases h1
        exact ⟨b,ws,e1,by rw [y0 nb]; exact h1,f1,g1,r1⟩
      | obj C fs =>
        obtain ⟨b,dx,ws,e1,es1,h1,h2,f1,f2,g1,g2,r1⟩:=w
        have nb:b≠a:=fun w=>by rw [w,hh] at h1; cases h1
        have nd:dx≠a:=fun w=>by rw [w,hh] at h2; cases h2
        exact ⟨b,dx,ws,e1,es1,by rw [y0 nb]; exact h1,by rw [y0 nd]; exact h2,f1,f2,g1,g2,r1⟩
      | ownD kvs =>
        obtain ⟨b,ws,e1,h1,f1,g1,r1⟩:=w
        have nb:b≠a:=fun w=>I.apart j i a z ⟨.inr (.inr ⟨kvs,e'⟩),by rw [← w]; exact c3 e1⟩ ho
        exact ⟨b,ws,e1,by rw [y0 nb]; exact h1,f1,g1,r1⟩
noncomputable abbrev FM:=List D→List D→(D→List D→Prop)→Prop
noncomputable def MtD (K:Frag) (r:V→List V→Hp→VK→Prop) (m:FM):Prop:=∀ (F H:Hp) (a:Addr) (vs us:List V) (ds es:List D) (Q:VK) (q:D→List D→Prop),H a=some (.lst vs)→Reps K F ds vs→Reps K F es us→m ds es q →
  (∀ d v ds' vs',Rep K F d v→Reps K F ds' vs'→q d ds'→Q v (upd H a (.lst vs')))→r (.ref a) us H Q
noncomputable def t2MV (i:Nat) (m:FM) (ta:TA2):TE2:=fun x ρ δ q=>(mutV ρ δ i).isSome=true∧ta x ρ δ fun es ρ1 δ1=>match mutV ρ1 δ1 i with
  | some (ds,put)=>m ds es fun d ds'=>q d (put ds').1 (put ds').2
  | none=>False
theorem o0s (i:Nat) {name:Str} {id:String} {r:V→List V→Hp→VK→Prop} {m:FM} {es:List Expr} {t:TA2} {apos cpos:Pos} (slot:Slot "list" name id) (hty:typeOf (.builtin id)=pure (.type "method_descriptor")) (hm:MtM X id r) (hd2:MtD X.K r m) (hta:PA2 X Y W (e :: es) t)
    (hN:X.N[i]?=some x:=by rfl) (hv:Vis X.env.scope x:=by walk_at "v3") (hd:(x == ("__debug__" : Str))=false:=by decide) (hcd:(x == ("__classdict__" : Str))=false:=by decide)
    (hbase:attributeBase (.Name x p) name X.env (eval (.Name x p) X.env)=eval (.Name x p) X.env:=by rfl)
    (hfew:((backTo cpos (starEach (e :: es) X.env)).all (fun x=>!x.1) && (backToKw cpos (keywordEach [] X.env)).all (fun x=>x.1.isSome)
      && decide ((e :: es).length + ([]:List Keyword).length + (if ([]:List Keyword).isEmpty then 0 else 1) < 30))=true:=by rfl)
    (hline:(apos.endLine == cpos.line)=true:=by rfl) (hs:starEach (e :: es) X.env=(false,eval e X.env) :: starEach es X.env:=by exact w6 rfl) (hplain:(backTo cpos (starEach es X.env)).any (·.1)=false:=by exact n6 rfl) :
    PE2 X Y W (.Call (.Attribute (.Name x p) name apos) (e :: es) [] cpos) (t2MV i m t):=pe2 (pe_bm PySem.F.plainAttrs_list slot hty hm (u7 hN hv hd hcd) hta.go hbase hfew hline hs hplain) fun σ H Q ⟨F,ρ,δ,x,q,I,h,k,kx⟩=>by
  obtain ⟨h0,h⟩:=h
  obtain ⟨⟨ds0,put0⟩,e0⟩:=Option.isSome_iff_exists.mp h0
  obtain ⟨a,vs,ea,hh,z,up⟩:=a0a I e0
  refine ⟨_,ea,.inl ⟨rfl,vs,SqL.of hh⟩,F,ρ,δ,x,_,I,h,fun es us F1 H1 ρ1 δ1 I1 s1 r1 h1=>?_,kx⟩
  split at h1
  · rename_i ds put em
    obtain ⟨a',vs',ea',hh',z',up'⟩:=a0a I1 em
    rw [ea] at ea'
    cases ea'
    exact hd2 F1 H1 a vs' us ds es _ _ hh' z' r1 h1 fun d v ds' ws r2 r3 q'=>k d v F1 _ _ _ (up' _ _ r3) s1 r2 q'
  · exact h1.elim
noncomputable def f0c (i:Nat) (m:FM):TE2:=fun x ρ δ q=>match mutV ρ δ i with
  | some (ds,put)=>m ds [] fun d ds'=>q d (put ds').1 (put ds').2
  | none=>False
theorem c0y (i:Nat) {name:Str} {id:String} {r:V→List V→Hp→VK→Prop} {m:FM} {apos cpos:Pos} (slot:Slot "list" name id) (hty:typeOf (.builtin id)=pure (.type "method_descriptor")) (hm:MtM X id r) (hd2:MtD X.K r m)
    (hN:X.N[i]?=some x:=by rfl) (hv:Vis X.env.scope x:=by walk_at "v3") (hd:(x == ("__debug__" : Str))=false:=by decide) (hcd:(x == ("__classdict__" : Str))=false:=by decide)
    (hbase:attributeBase (.Name x p) name X.env (eval (.Name x p) X.env)=eval (.Name x p) X.env:=by rfl) (hline:(apos.endLine == cpos.line)=true:=by rfl) :
    PE2 X Y W (.Call (.Attribute (.Name x p) name apos) [] [] cpos) (f0c i m):=pe2 (pe_bm0 PySem.F.plainAttrs_list slot hty hm (u7 hN hv hd hcd) hbase hline) fun σ H Q ⟨F,ρ,δ,x,q,I,h,k,kx⟩=>by
  unfold f0c at h
  split at h
  · rename_i ds put em
    obtain ⟨a,vs,ea,hh,z,up⟩:=a0a I em
    exact ⟨_,ea,.inl ⟨rfl,vs,SqL.of hh⟩,hd2 F H a vs [] ds [] _ _ hh z Reps.nil h fun d v ds' ws r2 r3 q'=>k d v F _ _ _ (up _ _ r3) (Same.refl F) r2 q'⟩
  · exact h.elim
noncomputable def s0l:FM:=fun ds es q=>match es with | [e]=>ds.length < 1000∧q .non (ds++[e]) | _=>False
theorem s9 {K:Frag}:MtD K j0q s0l:=by
  intro F H a vs us ds es Q q hh z r h k
  unfold s0l at h
  split at h
  · obtain ⟨v,rfl,r1⟩:=z0m r
    exact ⟨a,vs,v,rfl,rfl,hh,Nat.lt_of_lt_of_le (by rw [z.length]; exact h.1) (show 1000≤PySem.sizeLine by decide),k _ _ _ _ (rep_non.mpr rfl) (z.append (Reps.cons r1 Reps.nil)) h.2⟩
  · exact h.elim
noncomputable def popM:FM:=fun ds es q=>match es,ds.getLast? with | [],some d=>q d ds.dropLast | _,_=>False
theorem m_pop {K:Frag}:MtD K rPop popM:=by
  intro F H a vs us ds es Q q hh z r h k
  unfold popM at h
  split at h
  · rename_i d e
    rw [reps_nil.mp r]
    rw [List.getLast?_eq_getElem?] at e
    obtain ⟨v,ev,rv⟩:=z.get e
    exact ⟨a,vs,v,rfl,rfl,hh,by rw [z.length]; exact ev,k _ _ _ _ rv z.dropLast h⟩
  · exact h.elim
noncomputable def f0b (K:Frag) (f:Str) (ta:TE2):TE2:=fun x ρ δ q=>ta x ρ δ fun d ρ1 δ1=>match d with
  | .ins C fs=>(Cls K C∧NoAttr K C f)∧(match fs.lookup f with | some e=>q e ρ1 δ1 | none=>False)
  | _=>False
theorem RepF.look {K:Frag} {F:Hp} {f:Str}:∀ {fs:List (Str×D)} {us:List (Str×V)} {d:D},RepF K F fs us→fs.lookup f=some d→∃ v,us.lookup f=some v∧Rep K F d v
  | [],us,d,r,e=>by cases e
  | (g,c) :: fs,us,d,r,e=>by
    unfold RepF at r
    obtain ⟨v,l,rfl,r1,r2⟩:=r
    rw [List.lookup_cons] at e ⊢
    split at e
    · cases e; exact ⟨v,rfl,r1⟩
    · exact RepF.look r2 e
theorem e2_fld {f:Str} (ha:PE2 X Y W a ta) (hb:attributeBase a f X.env (eval a X.env)=eval a X.env:=by rfl):PE2 X Y W (.Attribute a f pos) (f0b X.K f ta):=pe2 (pe_fld ha.go hb) fun σ H Q ⟨F,ρ,δ,x,q,I,h,k,kx⟩=>by
  refine ⟨F,ρ,δ,x,_,I,h,fun d v F' H' ρ' δ' I' s' r' h'=>?_,kx⟩
  cases d with
  | ins C fs =>
    obtain ⟨⟨c,n⟩,h'⟩:=h'
    obtain ⟨a,dx,us,rfl,e1,e2,rf⟩:=rep_ins.mp r'
    split at h'
    · rename_i e ee
      obtain ⟨v,ev,rv⟩:=rf.look ee
      exact ⟨a,C,dx,us,v,rfl,I'.sub _ _ e1,c,n,ev,k e v F' H' ρ' δ' I' s' rv h'⟩
    · exact h'.elim
  | _=>exact h'.elim
noncomputable def l0c (f:Str) (v:D):List (Str×D)→List (Str×D)
  | []=>[(f,v)]
  | (g,u) :: r=>if g=f then (g,v) :: r else (g,u) :: l0c f v r
theorem RepF.put {K:Frag} {F:Hp} {f:Str} {d:D} {v:V} (q:Rep K F d v):∀ {fs:List (Str×D)} {us:List (Str×V)},RepF K F fs us→RepF K F (l0c f d fs) (putF f v us)
  | [],us,r=>by
    unfold RepF at r
    subst r
    unfold l0c putF RepF
    exact ⟨v,[],rfl,q,by unfold RepF; rfl⟩
  | (g,c) :: fs,us,r=>by
    unfold RepF at r
    obtain ⟨w,l,rfl,r1,r2⟩:=r
    unfold l0c putF
    by_cases z:g=f
    · rw [if_pos z,if_pos z]
      unfold RepF
      exact ⟨v,l,rfl,q,r2⟩
    · rw [if_neg z,if_neg z]
      unfold RepF
      exact ⟨w,_,rfl,r1,RepF.put q r2⟩
theorem RepF.length {K:Frag} {F:Hp}:∀ {fs:List (Str×D)} {us:List (Str×V)},RepF K F fs us→us.length=fs.length
  | [],us,r=>by unfold RepF at r; subst r; rfl
  | (g,c) :: fs,us,r=>by
    unfold RepF at r
    obtain ⟨w,l,rfl,r1,r2⟩:=r
    rw [List.length_cons,List.length_cons,RepF.length r2]
noncomputable def m0b (K:Frag) (i:Nat) (f:Str) (te:TE2):TS2:=fun E ρ δ=>te E.xc ρ δ fun d ρ1 δ1=>match ρ1[i]? with
  | some (.obj C fs)=>(Cls K C∧NoAttr K C f)∧fs.length < 1000∧E.nx (ρ1.set i (.obj C (l0c f d fs))) δ1
  | _=>False
theorem I2.self {K:Frag} {F H:Hp} {σ:St} {ρ:En} {δ:Dk} {C:Addr} {fs:List (Str×D)} (I:I2 K Y F H σ ρ δ) (e:ρ[i]?=some (.obj C fs)) :
    ∃ a dx us,σ[i]?=some (some (.ref a))∧H a=some (.ins C dx us)∧RepF K F fs us∧∀ gs ws,RepF K F gs ws→I2 K Y F (upd H a (.ins C dx ws)) σ (ρ.set i (.obj C gs)) δ:=by
  obtain ⟨a,dx,us,q,es0,hh,hd,hF,hF2,h0,h02,r⟩:=I.env i _ e
  have hs:=c3 q
  have ho:i5 ρ σ i a:=⟨.inr (.inl ⟨_,_,e⟩),hs⟩
  refine ⟨a,dx,us,hs,hh,r,fun gs ws r2=>?_⟩
  have ndx:dx≠a:=fun w=>by rw [w,hh] at hd; cases hd
  have key:∀ j b,i5 (ρ.set i (.obj C gs)) σ j b→i5 ρ σ j b:=fun j b o=>by
    by_cases z:j=i
    · subst z
      exact ⟨ho.1,o.2⟩
    · obtain ⟨o1,o2⟩:=o
      simp only [List.getElem?_set_ne (Ne.symm z)] at o1
      exact ⟨o1,o2⟩
  refine ⟨⟨fun b u e=>?_,fun b fs e=>?_,fun b u e f=>?_,I.ran.f0,I.ran.fnew,I.ran.dto⟩,fun j c e'=>?_,by simp [I.len],fun x y b n o1 o2=>I.apart x y b n (key x b o1) (key y b o2),fun j b o=>I.off j b (key j b o)⟩
  · rw [y0 (u0 e hF)]; exact I.sub _ _ e
  · obtain ⟨q1,ys,q2,q3⟩:=I.ran.dk b fs e
    exact ⟨q1,ys,by rw [y0 (Ne.symm (I.off i a ho b fs e))]; exact q2,q3⟩
  · rw [y0 (u0 e h0)]; exact I.ran.keep b u e f
  · by_cases z:j=i
    · subst z
      rw [List.getElem?_set] at e'
      by_cases hl:j < ρ.length
      · simp [hl] at e'
        subst e'
        exact ⟨a,dx,ws,q,es0,o3,by rw [y0 ndx]; exact hd,hF,hF2,h0,h02,r2⟩
      · simp [hl] at e'
    · rw [List.getElem?_set_ne (Ne.symm z)] at e'
      have w:=I.env j c e'
      cases c with
      | no=>trivial
      | val d=>exact w
      | own fs =>
        obtain ⟨b,ys,e1,h1,f1,g1,r1⟩:=w
        have nb:b≠a:=fun w=>by rw [w,hh] at h1; cases h1
        exact ⟨b,ys,e1,by rw [y0 nb]; exact h1,f1,g1,r1⟩
      | obj C' fs =>
        obtain ⟨b,dy,ys,e1,es1,h1,h2,f1,f2,g1,g2,r1⟩:=w
        have nb:b≠a:=fun w=>I.apart j i a z ⟨.inr (.inl ⟨_,_,e'⟩),by rw [← w]; exact c3 e1⟩ ho
        have nd:dy≠a:=fun w=>by rw [w,hh] at h2; cases h2
        exact ⟨b,dy,ys,e1,es1,by rw [y0 nb]; exact h1,by rw [y0 nd]; exact h2,f1,f2,g1,g2,r1⟩
      | ownD kvs =>
        obtain ⟨b,ys,e1,h1,f1,g1,r1⟩:=w
        have nb:b≠a:=fun w=>by rw [w,hh] at h1; cases h1
        exact ⟨b,ys,e1,by rw [y0 nb]; exact h1,f1,g1,r1⟩
theorem z1z (i:Nat) {f:Str} {tpos:Pos} (he:PE2 X Y W e te) (hN:X.N[i]?=some x:=by rfl) (hv:Vis X.env.scope x:=by walk_at "v3") (hd:(x == ("__debug__" : Str))=false:=by decide) (hcd:(x == ("__classdict__" : Str))=false:=by decide)
    (hs:swapsWith e (some (.Attribute (.Name x p) f tpos)) pos.line X.env=pure false:=by rfl):PS2 X Y W (.Assign [.Attribute (.Name x p) f tpos] e pos) (m0b X.K i f te):=ps2 (ps_fld (u7 hN hv hd hcd) he.go hs) fun E1 σ H ⟨F,ρ,δ,E2,I,h,er⟩=>by
  refine ⟨F,ρ,δ,E2.xc,_,I,h,fun d v F1 H1 ρ1 δ1 I1 s1 r1 h1=>?_,er.xc⟩
  split at h1
  · rename_i C fs ee
    obtain ⟨⟨c,n⟩,hl,h1⟩:=h1
    obtain ⟨a,dx,us,ea,hh,rf,up⟩:=I1.self ee
    exact ⟨_,ea,a,C,dx,us,rfl,hh,c,n,by rw [rf.length]; exact hl,er.nx σ F1 _ _ δ1 (up _ _ (rf.put r1)) s1 h1⟩
  · exact h1.elim
end
end DL
namespace DL
open PySem PySem.Spec L2
open PySem.W (XC)
open PyProof.Rows (envOfC)
noncomputable abbrev Sp2:=List D→Dk→(D→Dk→Prop)→(Addr→List (Str×D)→Dk→Prop)→Prop
noncomputable def upF (K:Frag) (sp:Sp2):Sp:=fun vs H Q E=>∃ F ds δ q x,Same F H∧DkOk K F H δ∧Reps K F ds vs∧sp ds δ q x ∧
  (∀ d v F' H' δ',Ran K F H δ F' H' δ'→Rep K F' d v→q d δ'→Q v H')∧∀ C od fs F' H' δ',Ran K F H δ F' H' δ'→XRep K F' od fs→x C fs δ'→E (.ref C) od H'
noncomputable abbrev Fun2 (P:Program) (w:World) (K:Frag) (mg:Str→Option Value) (base:Heap) (x:Str) (k:Nat) (ps:List Str) (sp:Sp2):Prop:=FnAt P w K mg base (CX1 P w) x k ps (upF K sp)
section
variable {K:Frag} {Y:Y2} {F H F' H':Hp} {σ:St} {ρ:En} {δ δ':Dk}
theorem Ran.trans {F₀ H₀:Hp} {δ₀:Dk} (R:Ran K F₀ H₀ δ₀ F H δ) (S:Ran K F H δ F' H' δ'):Ran K F₀ H₀ δ₀ F' H' δ':=by
  have offs:∀ b o,H₀ b=some o→Off δ₀ b→Off δ b:=fun b o e f a ds q w=>by
    subst w
    cases hd:δ₀ with
    | none=>have:=R.dto.2 b ds q hd; rw [e] at this; cases this
    | some p =>
      obtain ⟨c,gs⟩:=p
      obtain ⟨es,z⟩:=R.dto.1 c gs hd
      rw [q] at z
      cases z
      exact f b gs hd rfl
  have fr:∀ p,H p=none→H₀ p=none:=fun p h=>(Ran.fresh (Y:=⟨F₀,H₀,δ₀,none⟩) R h)
  refine ⟨S.sub,S.dk,fun b o e f=>S.keep b o (R.keep b o e f) (offs b o e f),R.f0.trans S.f0,fun b o e=>?_,⟨fun a ds e=>?_,fun a ds e n=>?_⟩⟩
  · rcases S.fnew b o e with z | z
    · exact R.fnew b o z
    · exact .inr (fr b z)
  · obtain ⟨es,z⟩:=R.dto.1 a ds e
    exact S.dto.1 a es z
  · cases hd:δ with
    | none=>exact fr a (S.dto.2 a ds e hd)
    | some p =>
      obtain ⟨c,gs⟩:=p
      obtain ⟨es,z⟩:=S.dto.1 c gs hd
      rw [e] at z
      cases z
      exact R.dto.2 a gs hd n
theorem I2.call (I:I2 K Y F H σ ρ δ) (S:Ran K F H δ F' H' δ'):I2 K Y F' H' σ ρ δ':=by
  have fno:∀ a o,H a=some o→F a=none→F' a=none:=fun a o h f=>by
    cases q:F' a with
    | none=>rfl
    | some u =>
      rcases S.fnew a u q with z | z
      · rw [f] at z; cases z
      · rw [h] at z; cases z
  have addr:∀ j a,i5 ρ σ j a→∃ o,H a=some o:=fun j a o=>by
    rcases o.1 with ⟨ds,q⟩ | ⟨C,fs,q⟩ | ⟨kvs,q⟩
    · obtain ⟨b,us,e,hb,_⟩:=I.env j _ q
      rw [o.2] at e
      cases e
      exact ⟨_,hb⟩
    · obtain ⟨b,dx,us,e,es0,hb,_⟩:=I.env j _ q
      rw [o.2] at e
      cases e
      exact ⟨_,hb⟩
    · obtain ⟨b,us,e,hb,_⟩:=I.env j _ q
      rw [o.2] at e
      cases e
      exact ⟨_,hb⟩
  refine ⟨I.ran.trans S,fun i c e=>?_,I.len,I.apart,fun j a o b ds e w=>?_⟩
  · have w:=I.env i c e
    cases c with
    | no=>trivial
    | val d=>obtain ⟨u,e1,r⟩:=w; exact ⟨u,e1,r.mono S.f0⟩
    | own ds =>
      obtain ⟨a,vs,e1,h1,f1,g1,r1⟩:=w
      have of:=I.off i a ⟨.inl ⟨ds,e⟩,c3 e1⟩
      exact ⟨a,vs,e1,S.keep a _ h1 of,fno a _ h1 f1,g1,r1.mono S.f0⟩
    | obj C fs =>
      obtain ⟨a,dx,us,e1,es1,h1,h2,f1,f2,g1,g2,r1⟩:=w
      have of:=I.off i a ⟨.inr (.inl ⟨C,fs,e⟩),c3 e1⟩
      have od:Off δ dx:=fun b ds q w=>by
        obtain ⟨_,vs,q2,_⟩:=I.ran.dk b ds q
        rw [← w,h2] at q2; cases q2
      exact ⟨a,dx,us,e1,es1,S.keep a _ h1 of,S.keep dx _ h2 od,fno a _ h1 f1,fno dx _ h2 f2,g1,g2,r1.mono S.f0⟩
    | ownD ds =>
      obtain ⟨a,vs,e1,h1,f1,g1,r1⟩:=w
      have of:=I.off i a ⟨.inr (.inr ⟨ds,e⟩),c3 e1⟩
      exact ⟨a,vs,e1,S.keep a _ h1 of,fno a _ h1 f1,g1,r1.mono S.f0⟩
  · subst w
    obtain ⟨u,hu⟩:=addr j a o
    cases hd:δ with
    | none=>have:=S.dto.2 a ds e hd; rw [hu] at this; cases this
    | some p =>
      obtain ⟨c,gs⟩:=p
      obtain ⟨es,z⟩:=S.dto.1 c gs hd
      rw [e] at z
      cases z
      exact I.off j a o a gs hd rfl
theorem Ran.refl (s:Same F H) (d:DkOk K F H δ):Ran K F H δ F H δ:=⟨s,d,fun _ _ e _=>e,Same.refl F,fun _ _ e=>.inl e,fun a ds e=>⟨ds,e⟩,fun a ds e n=>by rw [n] at e; cases e⟩
end
section
variable {X:Cx} {Y:Y2} {W:XW} {x:Str} {p pos:Pos} {e:Expr} {es:List Expr} {t:TA2} {k:Nat} {ps:List Str} {sp:Sp2}
noncomputable def w0h (sp:Sp2) (t:TA2):TE2:=fun x ρ δ q=>t x ρ δ fun ds ρ1 δ1=>sp ds δ1 (fun d δ2=>q d ρ1 δ2) fun C fs δ2=>x C fs ρ1 δ2
theorem i0q {σ:St} {H:Hp} {Q:VK} (h:upE X.K Y W (w0h sp t) σ H Q):m0o (upF X.K sp) W (upA X.K Y W t) σ H Q:=by
  obtain ⟨F,ρ,δ,x,q,I,h,k,kx⟩:=h
  refine ⟨F,ρ,δ,x,_,I,h,fun ds vs F1 H1 ρ1 δ1 I1 s1 r1 h1=>⟨F1,ds,δ1,_,_,I1.sub,I1.ran.dk,r1,h1,fun d v F' H' δ' R r' q'=>?_,fun C od fs F' H' δ' R r' q'=>?_⟩,kx⟩
  · exact k d v F' H' ρ1 δ' (I1.call R) (s1.trans R.f0) r' q'
  · exact ⟨C,rfl,kx C od fs σ F' H' ρ1 δ' (I1.call R) (s1.trans R.f0) r' q'⟩
theorem u3 (G:Fun2 X.prog X.w X.K X.mg X.base x k ps sp) (hr:Room k X.A) (hf:v9 X W) (ha:PA2 X Y W (e :: es) t) (hg:Gl X x:=by rfl) (hdb:(x == ("__debug__" : Str))=false:=by decide)
    (he:starEach (e :: es) X.env=(false,eval e X.env) :: starEach es X.env:=by exact w6 rfl) (hpl:(backTo pos (starEach es X.env)).any (·.1)=false:=by exact n6 rfl):PE2 X Y W (.Call (.Name x p) (e :: es) [] pos) (w0h sp t):=pe2 (pe_cX G hr hf ha.go hg hdb he hpl) fun σ H Q h=>i0q h
theorem f0a (G:Fun2 X.prog X.w X.K X.mg X.base x k ps sp) (hr:Room k X.A) (hf:v9 X W) (hg:Gl X x:=by rfl) (hdb:(x == ("__debug__" : Str))=false:=by decide):PE2 X Y W (.Call (.Name x p) [] [] pos) (w0h sp i0y):=by
  obtain ⟨f,fd,F,m,kp,b⟩:=G.ex
  refine ⟨fun pins s σ H Q I h=>?_⟩
  obtain ⟨F0,ρ,δ,x,q,I0,h,k,kx⟩:=h
  refine wpAny_Call_Name_kw (z0u I hg m ?_ hdb)
  refine PySem.W.callWith_K0 I.kIn kp (j0g (us:=[]) F hr b hf I .nil ⟨F0,[],δ,_,_,I0.sub,I0.ran.dk,Reps.nil,h,fun d v F' H' δ' R r' q'=>?_,fun C od fs F' H' δ' R r' q'=>?_⟩)
  · exact k d v F' H' ρ δ' (I0.call R) R.f0 r' q'
  · exact ⟨C,rfl,kx C od fs σ F' H' ρ δ' (I0.call R) R.f0 r' q'⟩
theorem t0d:v9 X (fun _ _ _ _=>False):=fun pins e s ⟨_,_,_,_,_,_,_,_,_,_,_,q⟩=>q.elim
end
noncomputable def p4 (N:List Str) (ds:List D):En:=ds.map .val++List.replicate (N.length - ds.length) .no
theorem y0m {K:Frag} {F H H₀:Hp} {sf:Option Addr}:∀ {ds:List D} {vs:List V},Reps K F ds vs→∀ (n i:Nat) (c:Cell),(ds.map Cell.val++List.replicate n Cell.no)[i]?=some c→CellOk K F H H₀ sf c ((vs.map some++List.replicate n none:St)[i]?).join
  | [],vs,r,n,i,c,e=>by
    rw [List.map_nil,List.nil_append,List.getElem?_replicate] at e
    split at e
    · cases e; trivial
    · cases e
  | d :: ds,vs,r,n,0,c,e=>by
    obtain ⟨v,l,rfl,r1,r2⟩:=reps_cons.mp r
    cases e
    exact ⟨v,rfl,r1⟩
  | d :: ds,vs,r,n,i + 1,c,e=>by
    obtain ⟨v,l,rfl,r1,r2⟩:=reps_cons.mp r
    exact y0m r2 n i c e
theorem z9 {ds:List D} {n i:Nat} {c:Cell} (e:(ds.map Cell.val++List.replicate n Cell.no)[i]?=some c):(∃ d,c=.val d)∨c=.no:=by
  have m:=List.mem_of_getElem? e
  rcases List.mem_append.mp m with m | m
  · obtain ⟨d,_,rfl⟩:=List.mem_map.mp m; exact .inl ⟨d,rfl⟩
  · exact .inr (List.mem_replicate.mp m).2
theorem I2.start {K:Frag} {F H:Hp} {δ:Dk} {ds:List D} {vs:List V} {N:List Str} (s:Same F H) (dk:DkOk K F H δ) (r:Reps K F ds vs):I2 K ⟨F,H,δ,none⟩ F H (L2.start N vs) (p4 N ds) δ:=by
  have no:∀ i a,¬ i5 (p4 N ds) (L2.start N vs) i a:=fun i a o=>by
    rcases o.1 with ⟨es,q⟩ | ⟨C,fs,q⟩ | ⟨kvs,q⟩
    · rcases z9 q with ⟨d,z⟩ | z <;> cases z
    · rcases z9 q with ⟨d,z⟩ | z <;> cases z
    · rcases z9 q with ⟨d,z⟩ | z <;> cases z
  refine ⟨Ran.refl s dk,fun i c e=>?_,?_,fun i j a _ o _=>no i a o,fun i a o=>absurd o (no i a)⟩
  · unfold L2.start
    rw [r.length]
    exact y0m r _ i c e
  · unfold L2.start p4
    simp [r.length]
section
variable {P:Program} {w:World} {K:Frag} {mg:Str→Option Value} {base:Heap}
theorem def2F {x:Str} {st:Stmt} {f:Addr} {fd:FuncData} {N ps:List Str} {k:Nat} {sp:Sp2} (D:DefAt K mg x st ps f fd) (S:FnScope N ps (defScope st)) (len:∀ ds δ q x,sp ds δ q x→ds.length=ps.length)
    (hbody:∀ (cdv:Value) (A:Around) (outer:List Env) (s:Shared) (H:Hp) (E:XK) (Y:Y2),Room k (A.deeper (envOfC x (defScope st) s.heap.objs.size f cdv)) →
      ∃ t,PSs2 (cxX P w K mg base N x (defScope st) f cdv A outer s H E) Y (fun C od _ H'=>E (.ref C) od H') (defBody st) t ∧
        ∀ ds δ q x,sp ds δ q x→t { nx:=fun _ δ=>q .non δ,rt:=q,xc:=fun C fs _ δ=>x C fs δ } (p4 N ds) δ):FnOk P w K mg base (CX1 P w) (k + 1) f fd ps (upF K sp):=by
  refine D.F.okX S (fun vs H Q E h=>?_) fun cdv A outer s H vs Q E hr h=>?_
  · obtain ⟨F,ds,δ,q,x,_,_,r,h,_⟩:=h
    rw [r.length]; exact len ds δ q x h
  · obtain ⟨F,ds,δ,q,x,s1,dk,r,h,kq,kx⟩:=h
    obtain ⟨t,ht,rd⟩:=hbody cdv A outer s H E ⟨F,H,δ,none⟩ hr
    refine ⟨_,ht.go,F,p4 N ds,δ,_,I2.start s1 dk r,rd ds δ q x h,⟨fun σ' F' H' ρ' δ' I' s' h'=>?_,fun d v σ' F' H' ρ' δ' I' s' r' h'=>?_,fun C od fs σ' F' H' ρ' δ' I' s' r' h'=>?_,fun _ _ _ _ _ _ _ z=>z.elim,fun _ _ _ _ _ _ _ z=>z.elim⟩⟩
    · exact kq .non .non F' H' δ' I'.ran (rep_non.mpr rfl) h'
    · exact kq d v F' H' δ' I'.ran r' h'
    · exact kx C od fs F' H' δ' I'.ran r' h'
theorem def2 {x:Str} {st:Stmt} {f:Addr} {fd:FuncData} {N ps:List Str} {k:Nat} {sp:Sp2} (D:DefAt K mg x st ps f fd) (S:FnScope N ps (defScope st)) (len:∀ ds δ q x,sp ds δ q x→ds.length=ps.length)
    (hbody:∀ (cdv:Value) (A:Around) (outer:List Env) (s:Shared) (H:Hp) (E:XK) (Y:Y2),Room k (A.deeper (envOfC x (defScope st) s.heap.objs.size f cdv)) →
      ∃ t,PSs2 (cxX P w K mg base N x (defScope st) f cdv A outer s H E) Y (fun C od _ H'=>E (.ref C) od H') (defBody st) t ∧
        ∀ ds δ q x,sp ds δ q x→t { nx:=fun _ δ=>q .non δ,rt:=q,xc:=fun C fs _ δ=>x C fs δ } (p4 N ds) δ):Fun2 P w K mg base x (k + 1) ps sp:=D.at (def2F D S len hbody)
noncomputable def upI (K:Frag) (C:Addr) (sp:Sp2):Sp:=fun vs H Q E=>∃ p dx us H1 F ds δ q x,vs=.ref p :: us∧H=upd (upd H1 dx (.own p)) p (.ins C dx [])∧H1 p=none∧H1 dx=none∧dx≠p∧Same F H1∧DkOk K F H1 δ∧Reps K F ds us∧sp ds δ q x ∧
  (∀ fs F' H' δ',Ran K F H1 δ F' H' δ'→Rep K F' (.ins C fs) (.ref p)→q (.ins C fs) δ'→Q .non H')∧∀ C od fs F' H' δ',Ran K F H1 δ F' H' δ'→XRep K F' od fs→x C fs δ'→E (.ref C) od H'
structure Make2 (P:Program) (w:World) (K:Frag) (mg:Str→Option Value) (base:Heap) (x:Str) (k:Nat) (sp:Sp2):Prop where
  ex:∃ C f fd ps,Mk K C f∧FnOk P w K mg base (CX1 P w) k f fd ps (upI K C sp)∧mg x=some (.ref C)∧Binds K fd ps []
end
section
variable {X:Cx} {Y:Y2} {W:XW} {x:Str} {p pos:Pos} {e:Expr} {es:List Expr} {t:TA2} {k:Nat} {sp:Sp2}
theorem i0p (G:Make2 X.prog X.w X.K X.mg X.base x k sp) (hr:Room (k + 1) X.A) (hf:v9 X W) (ha:PA2 X Y W (e :: es) t) (hg:Gl X x:=by rfl) (hdb:(x == ("__debug__" : Str))=false:=by decide)
    (he:starEach (e :: es) X.env=(false,eval e X.env) :: starEach es X.env:=by exact w6 rfl) (hpl:(backTo pos (starEach es X.env)).any (·.1)=false:=by exact n6 rfl):PE2 X Y W (.Call (.Name x p) (e :: es) [] pos) (w0h sp t):=by
  obtain ⟨C,f,fd,ps,M,F,m,b⟩:=G.ex
  refine pe2 (f0l M F hr hg m b hf ha.go hdb he hpl) fun σ H Q h=>?_
  obtain ⟨F,ρ,δ,x,q,I,h,k,kx⟩:=h
  refine ⟨F,ρ,δ,x,_,I,h,fun ds vs F1 H1 ρ1 δ1 I1 s1 r1 h1=>fun y dx hy hdx ne=>⟨y,dx,vs,H1,F1,ds,δ1,_,_,rfl,rfl,hy,hdx,ne,I1.sub,I1.ran.dk,r1,h1,fun fs F' H' δ' R r' q'=>⟨rfl,?_⟩,fun C od fs F' H' δ' R r' q'=>?_⟩,kx⟩
  · exact k _ _ F' H' ρ1 δ' (I1.call R) (s1.trans R.f0) r' q'
  · exact ⟨C,rfl,kx C od fs σ F' H' ρ1 δ' (I1.call R) (s1.trans R.f0) r' q'⟩
end
theorem I2.startO {K:Frag} {F H1:Hp} {δ:Dk} {ds:List D} {us:List V} {N:List Str} {C p dx:Addr} (s:Same F H1) (dk:DkOk K F H1 δ) (r:Reps K F ds us) (hp:H1 p=none) (hdx:H1 dx=none) (ne:dx≠p) :
    I2 K ⟨F,H1,δ,some p⟩ F (upd (upd H1 dx (.own p)) p (.ins C dx [])) (some (.ref p) :: L2.start N us) (.obj C [] :: p4 N ds) δ:=by
  have own:∀ i a,i5 (.obj C [] :: p4 N ds) (some (.ref p) :: L2.start N us) i a→i=0∧a=p:=fun i a o=>by
    cases i with
    | zero=>have z:=o.2; cases z; exact ⟨rfl,rfl⟩
    | succ i =>
      rcases o.1 with ⟨es,q⟩ | ⟨C,fs,q⟩ | ⟨kvs,q⟩
      · rcases z9 (show (ds.map Cell.val++List.replicate _ Cell.no)[i]?=some _ from q) with ⟨d,z⟩ | z <;> cases z
      · rcases z9 (show (ds.map Cell.val++List.replicate _ Cell.no)[i]?=some _ from q) with ⟨d,z⟩ | z <;> cases z
      · rcases z9 (show (ds.map Cell.val++List.replicate _ Cell.no)[i]?=some _ from q) with ⟨d,z⟩ | z <;> cases z
  have kp:∀ b o,H1 b=some o→upd (upd H1 dx (.own p)) p (.ins C dx []) b=some o:=fun b o e=>by
    rw [y0 (u0 e hp),y0 (u0 e hdx)]; exact e
  refine ⟨⟨fun b o e=>kp b o (s b o e),fun a ds e=>?_,fun b o e _=>kp b o e,Same.refl F,fun b o e=>.inl e,fun a ds e=>⟨ds,e⟩,fun a ds e n=>by rw [show δ=none from n] at e; cases e⟩,fun i c e=>?_,?_,fun i j a n o1 o2=>n ((own i a o1).1.trans (own j a o2).1.symm),fun i a o b ds e w=>?_⟩
  · obtain ⟨q,vs,q2,r⟩:=dk a ds e
    exact ⟨q,vs,kp a _ q2,r⟩
  · cases i with
    | zero =>
      cases e
      refine ⟨p,dx,[],rfl,rfl,o3,by rw [y0 ne,o3],s.free hp,s.free hdx,hp,hdx,?_⟩
      unfold RepF; rfl
    | succ i =>
      show CellOk K F _ _ _ c ((L2.start N us)[i]?).join
      unfold L2.start
      rw [r.length]
      exact y0m r _ i c e
  · unfold L2.start p4
    simp [r.length]
  · obtain ⟨_,rfl⟩:=own i a o
    obtain ⟨_,vs,q2,_⟩:=dk b ds e
    rw [← w,hp] at q2; cases q2
section
variable {P:Program} {w:World} {K:Frag} {mg:Str→Option Value} {base:Heap}
theorem init2 {x qual cn:Str} {st:Stmt} {f C:Addr} {fd:FuncData} {N ps:List Str} {k:Nat} {sp:Sp2} (Fn:Fun K x qual st f fd) (M:Mk K C f) (hm:mg cn=some (.ref C)) (b:Binds K fd ("self" :: ps) []) (S:FnScope ("self" :: N) ("self" :: ps) (defScope st)) (len:∀ ds δ q x,sp ds δ q x→ds.length=ps.length)
    (hbody:∀ (cdv:Value) (A:Around) (outer:List Env) (s:Shared) (H:Hp) (E:XK) (Y:Y2),Room k (A.deeper (envOfC qual (defScope st) s.heap.objs.size f cdv)) →
      ∃ t,PSs2 (cxX P w K mg base ("self" :: N) qual (defScope st) f cdv A outer s H E) Y (fun C od _ H'=>E (.ref C) od H') (defBody st) t ∧
        ∀ ds δ q x,sp ds δ q x→t { nx:=fun ρ δ=>∃ fs,ρ[0]?=some (.obj C fs)∧q (.ins C fs) δ,rt:=fun _ _=>False,xc:=fun C fs _ δ=>x C fs δ } (.obj C [] :: p4 N ds) δ):Make2 P w K mg base cn (k + 1) sp:=by
  refine ⟨C,f,fd,_,M,Fn.okX S (fun vs H Q E h=>?_) (fun cdv A outer s H vs Q E hr h=>?_),hm,b⟩
  · obtain ⟨p,dx,us,H1,F,ds,δ,q,x,rfl,_,_,_,_,_,_,r,h,_⟩:=h
    rw [List.length_cons,List.length_cons,r.length,len ds δ q x h]
  · obtain ⟨p,dx,us,H1,F,ds,δ,q,x,rfl,rfl,hp,hdx,ne,s1,dk,r,h,kq,kx⟩:=h
    obtain ⟨t,ht,rd⟩:=hbody cdv A outer s _ E ⟨F,H1,δ,some p⟩ hr
    have es:L2.start ("self" :: N) (V.ref p :: us)=some (.ref p) :: L2.start N us:=by unfold L2.start; simp
    refine ⟨_,ht.go,?_⟩
    rw [es]
    refine ⟨F,_,δ,_,I2.startO s1 dk r hp hdx ne,rd ds δ q x h,⟨fun σ' F' H' ρ' δ' I' s' h'=>?_,fun d v σ' F' H' ρ' δ' I' s' r' h'=>h'.elim,fun C od fs σ' F' H' ρ' δ' I' s' r' h'=>?_,fun _ _ _ _ _ _ _ z=>z.elim,fun _ _ _ _ _ _ _ z=>z.elim⟩⟩
    · obtain ⟨fs,e0,hq⟩:=h'
      obtain ⟨a,dy,ws,e1,es1,h1,h2,f1,f2,g1,g2,r1⟩:=I'.env 0 _ e0
      cases (show some p=some a from es1)
      have nd:dy≠p:=fun w=>by rw [w,h1] at h2; cases h2
      have sF:Same F' (upd (upd F' dy (.own p)) p (.ins C dy ws)):=fun b o e=>by rw [y0 (u0 e f1),y0 (u0 e f2)]; exact e
      have R:=I'.ran
      refine kq fs (upd (upd F' dy (.own p)) p (.ins C dy ws)) H' δ' ⟨fun b o e=>?_,fun a ds e=>?_,R.keep,R.f0.trans sF,fun b o e=>?_,R.dto⟩ (rep_ins.mpr ⟨p,dy,ws,rfl,o3,by rw [y0 nd,o3],r1.mono sF⟩) hq
      · by_cases z:b=p
        · subst z; rw [o3] at e; cases e; exact h1
        · rw [y0 z] at e
          by_cases z2:b=dy
          · subst z2; rw [o3] at e; cases e; exact h2
          · rw [y0 z2] at e; exact R.sub _ _ e
      · obtain ⟨q1,vs,q2,q3⟩:=R.dk a ds e
        have n1:a≠p:=fun w=>by rw [w,h1] at q2; cases q2
        have n2:a≠dy:=fun w=>by rw [w,h2] at q2; cases q2
        exact ⟨by rw [y0 n1,y0 n2]; exact q1,vs,q2,q3.mono sF⟩
      · by_cases z:b=p
        · subst z; exact .inr g1
        · rw [y0 z] at e
          by_cases z2:b=dy
          · subst z2; exact .inr g2
          · rw [y0 z2] at e; exact R.fnew b o e
    · exact kx C od fs F' H' δ' I'.ran r' h'
end
section
variable {X:Cx} {Y:Y2} {W:XW} {x:Str} {p pos cpos:Pos} {e:Expr} {es:List Expr} {t:TA2} {k:Nat} {ps:List Str} {C:Addr} {f g:Str}
theorem e0z {H:Hp} {x d:Addr} {o o1 o2:HO} (hx:H x=none) (ne:d≠x):L2.drop (upd (upd (upd H x o1) d o) x o2) x=upd H d o:=by
  funext b
  by_cases z:b=x
  · subst z; rw [z0o,y0 (Ne.symm ne)]; exact hx.symm
  · rw [z0p z,y0 z]
    by_cases z2:b=d
    · subst z2; rw [o3,o3]
    · rw [y0 z2,y0 z2,y0 z]
theorem i0o {H:Hp} {x:Addr} {o:HO} (hx:H x=none):L2.drop (upd H x o) x=H:=by
  funext b
  by_cases z:b=x
  · subst z; rw [z0o]; exact hx.symm
  · rw [z0p z,y0 z]
theorem repF1 {K:Frag} {F:Hp} {f:Str} {d:D} {v:V} (r:Rep K F d v):RepF K F [(f,d)] [(f,v)]:=by
  unfold RepF
  exact ⟨v,[],rfl,r,by unfold RepF; rfl⟩
noncomputable def s0k (C:Addr) (f:Str) (t:TA2):TS2:=fun E ρ δ=>t E.xc ρ δ fun ds ρ1 δ1=>match ds with | [d]=>E.xc C [(f,d)] ρ1 δ1 | _=>False
theorem x0q (hc:X.calm=true) (hf:v9 X W) (M:MkE X.prog X.w X.K X.mg X.base x C k ps (spXI C f)) (hr:Room (k + 1) X.A) (ha:PA2 X Y W (e :: es) t) (hg:Gl X x:=by rfl) (hdb:(x == ("__debug__" : Str))=false:=by decide)
    (he:starEach (e :: es) X.env=(false,eval e X.env) :: starEach es X.env:=by exact w6 rfl) (hpl:(backTo cpos (starEach es X.env)).any (·.1)=false:=by exact n6 rfl) :
    PS2 X Y W (.Raise (some (.Call (.Name x p) (e :: es) [] cpos)) none pos) (s0k C f t):=ps2 (i0z hc hf M hr ha.go hg hdb he hpl) fun E1 σ H ⟨F,ρ,δ,E2,I,h,er⟩=>by
  refine ⟨F,ρ,δ,E2.xc,_,I,h,fun ds vs F1 H1 ρ1 δ1 I1 s1 r1 h1=>?_,er.xc⟩
  split at h1
  · rename_i d
    obtain ⟨v,rfl,r2⟩:=z0m r1
    refine ⟨sz1,fun y hy=>⟨y,v,rfl,o3,fun dx hdx ne=>⟨rfl,some dx,o3,?_⟩⟩⟩
    rw [e0z hy ne]
    have hd:H1 dx=none:=by rw [y0 ne] at hdx; exact hdx
    exact er.xc C (some dx) _ σ _ _ ρ1 δ1 (I1.alloc hd) (s1.trans (I1.grow hd)) ⟨_,o3,(repF1 r2).mono (I1.grow hd)⟩ h1
  · exact h1.elim
noncomputable def s0j (C:Addr):TS2:=fun E ρ δ=>E.xc C [] ρ δ
theorem x0p (hc:X.calm=true) (hf:v9 X W) (M:XMk0 X.K C) (hK:xcIn X.K C=true) (hm:X.mg x=some (.ref C)) (hg:Gl X x:=by rfl) (hdb:(x == ("__debug__" : Str))=false:=by decide) :
    PS2 X Y W (.Raise (some (.Call (.Name x p) [] [] cpos)) none pos) (s0j C):=ps2 (j0d hc hf M hK hg hm hdb) fun E1 σ H ⟨F,ρ,δ,E2,I,h,er⟩=>by
  intro y hy
  rw [i0o hy]
  exact er.xc C none [] σ F H ρ δ I (Same.refl F) rfl h
noncomputable abbrev XTS2:=Addr→List (Str×D)→TS2
noncomputable def upH (K:Frag) (Y:Y2) (W:XW) (t:XTS2):XTS:=fun C od E1 σ H=>∃ F ρ δ E2 fs,I2 K Y F H σ ρ δ∧XRep K F od fs∧t C fs E2 ρ δ∧ER K Y W F E2 E1
structure PH2 (X:Cx) (Y:Y2) (W:XW) (hs:List ExceptHandler) (t:XTS2):Prop where
  go:PH X hs (upH X.K Y W t)
theorem i0n {hs:List ExceptHandler} {t t':XTS} (h:PH X hs t) (k:∀ C od D σ H,t' C od D σ H→t C od D σ H):PH X hs t':=fun pins x C od T s σ H D I f l lt q=>h pins x C od T s σ H D I f l lt (k C od D σ H q)
noncomputable def t2H0:XTS2:=fun _ _ _ _ _=>False
theorem c0x:PH2 X Y W [] t2H0:=⟨i0n ph_nil fun C od D σ H ⟨F,ρ,δ,E2,fs,I,r,h,er⟩=>h.elim⟩
theorem ph2 {hs:List ExceptHandler} {t:XTS} {u:XTS2} (h:PH X hs t) (k:∀ C od D σ H,upH X.K Y W u C od D σ H→t C od D σ H):PH2 X Y W hs u:=⟨i0n h k⟩
noncomputable abbrev W0:XW:=fun _ _ _ _=>False
noncomputable def noX (E:End2):End2:={ E with xc:=fun _ _ _ _=>False }
noncomputable def t2H (K:Frag) (D:Addr) (ts:TS2) (tr:XTS2):XTS2:=fun C fs E ρ δ=>match PySem.W.mroIn K C (.ref D) with | some b=>if b=true then ts (noX E) ρ δ else tr C fs E ρ δ | none=>False
variable {D:Addr} {y n:Str} {np:Pos} {b₀:Stmt} {suite:List Stmt} {rest:List ExceptHandler} {ts:TS2} {tr:XTS2}
noncomputable def asE (i:Nat) (E:End2):End2:={ nx:=fun ρ δ=>E.nx (ρ.set i .no) δ,rt:=E.rt,xc:=fun _ _ _ _=>False,bk:=fun ρ δ=>E.bk (ρ.set i .no) δ,ct:=fun ρ δ=>E.ct (ρ.set i .no) δ }
noncomputable def i0m (K:Frag) (i:Nat) (D:Addr) (ts:TS2) (tr:XTS2):XTS2:=fun C fs E ρ δ=>match PySem.W.mroIn K C (.ref D) with | some b=>if b=true then ts (asE i E) (ρ.set i (.val (.exc C fs))) δ else tr C fs E ρ δ | none=>False
theorem h2_as (i:Nat) (tp:Top X) (d:XHd X.K D) (hm:X.mg y=some (.ref D)) (hN:X.N.Nodup) (hs:∀ x,PSs2 (X.hdl x) Y W0 (b₀ :: suite) ts) (hr:PH2 X Y W rest tr) (hi:X.N[i]?=some n:=by rfl) (hk:X.env.scope.names.lookup n=some .local:=by rfl) (hg:Gl X y:=by rfl) (hdb:(y == ("__debug__" : Str))=false:=by decide) :
    PH2 X Y W (.ExceptHandler (some (.Name y np)) (some n) (b₀ :: suite) pos :: rest) (i0m X.K i D ts tr):=ph2 (ph_as (ts:=upS X.K Y W0 ts) tp d hg hm hN hi hk (fun x=>(hs x).go) hr.go hdb) fun C od E1 σ H ⟨F,ρ,δ,E2,fs,I,r,h,er⟩=>by
  unfold i0m at h
  split at h
  · rename_i b e
    refine ⟨b,e,?_⟩
    cases b with
    | true =>
      rw [if_pos rfl] at h ⊢
      intro y hy
      have s1:=I.grow (o:=XO false y C od) hy
      have rr:Rep X.K (upd F y (XO false y C od)) (.exc C fs) (.ref y):=by
        refine rep_exc.mpr ⟨y,false,rfl,?_⟩
        cases od with
        | none=>exact .inl ⟨r,o3⟩
        | some dx =>
          obtain ⟨us,e1,rf⟩:=r
          refine .inr ⟨dx,us,o3,?_,rf.mono s1⟩
          rw [y0 (u0 (I.sub _ _ e1) hy)]; exact e1
      refine ⟨_,_,δ,asE i E2,(I.alloc hy).put rr,h,⟨fun σ' F' H' ρ' δ' I' s' h'=>?_,fun d v σ' F' H' ρ' δ' I' s'=>er.rt d v σ' F' H' ρ' δ' I' (s1.trans s'),fun _ _ _ _ _ _ _ _ _ _ _ z=>z,fun σ' F' H' ρ' δ' I' s' h'=>?_,fun σ' F' H' ρ' δ' I' s' h'=>?_⟩⟩
      · exact er.nx _ F' H' _ δ' I'.gone (s1.trans s') h'
      · exact er.bk _ F' H' _ δ' I'.gone (s1.trans s') h'
      · exact er.ct _ F' H' _ δ' I'.gone (s1.trans s') h'
    | false=>rw [if_neg Bool.false_ne_true] at h ⊢; exact ⟨F,ρ,δ,E2,fs,I,r,h,er⟩
  · exact h.elim
noncomputable def z1y (tb:TS2) (th:XTS2):TS2:=fun E ρ δ=>tb { E with xc:=fun C fs ρ' δ'=>th C fs E ρ' δ' } ρ δ
theorem c0w {body:List Stmt} {h₀:ExceptHandler} {hs:List ExceptHandler} {tb:TS2} {th:XTS2} (tp:Top X) (hb:∀ pins W',PSs2 (X.tr pins W') Y W' body tb) (hh:PH2 X Y W (h₀ :: hs) th):PS2 X Y W (.Try body (h₀ :: hs) [] [] pos) (z1y tb th) :=
  ps2 (ps_try (tb:=fun W'=>upS X.K Y W' tb) tp (fun p W'=>(hb p W').go) hh.go) fun E1 σ H ⟨F,ρ,δ,E2,I,h,er⟩ =>
    ⟨fun C od σ' H'=>∃ F' ρ' δ' fs,I2 X.K Y F' H' σ' ρ' δ'∧Same F F'∧XRep X.K F' od fs∧th C fs E2 ρ' δ',
      ⟨F,ρ,δ,_,I,h,⟨er.nx,er.rt,fun C od fs σ' F' H' ρ' δ' I' s' r' h'=>⟨F',ρ',δ',fs,I',s',r',h'⟩,er.bk,er.ct⟩⟩,
      fun C od σ' H' ⟨F',ρ',δ',fs,I',s',r',h'⟩=>⟨F',ρ',δ',E2,fs,I',r',h',er.mono s'⟩⟩
end
end DL
namespace DL
open PySem PySem.Spec L2
open PySem.W (XC)
noncomputable def c0v (K:Frag) (F H:Hp) (d:D) (v:V) (H':Hp):Prop:=(H'=H∧Rep K F d v)∨∃ p vs es,H p=none∧H'=upd H p (.tup vs)∧v=.ref p∧d=.tup es∧Reps K F es vs
structure SrcOk (K:Frag) (J:It) (F:Hp) (ds:List D):Prop where
  item:∀ (i:Nat) (d:D) (F' H:Hp),ds[i]?=some d→Same F F'→Same F' H→J.go i H∧∀ v H',J.yld i H v H'→c0v K F' H d v H'
  stop:∀ (F' H:Hp),Same F F'→Same F' H→J.stop ds.length H
theorem I2.yld {K:Frag} {Y:Y2} {F H H':Hp} {σ:St} {ρ:En} {δ:Dk} {d:D} {v:V} (I:I2 K Y F H σ ρ δ) (y:c0v K F H d v H'):∃ F',I2 K Y F' H' σ ρ δ∧Same F F'∧Rep K F' d v∧∀ D u,H D=some u→F D=none→F' D=none:=by
  rcases y with ⟨rfl,r⟩ | ⟨p,vs,es,hp,rfl,rfl,rfl,r⟩
  · exact ⟨F,I,Same.refl F,r,fun _ _ _ z=>z⟩
  · exact ⟨_,I.alloc hp,I.grow hp,I.tup hp r,fun D u h z=>by rw [y0 (u0 h hp)]; exact z⟩
noncomputable abbrev TI2:=XK2→En→Dk→(List D→En→Dk→Prop)→Prop
noncomputable def upI2 (K:Frag) (Y:Y2) (W:XW) (t:TI2):TI:=fun σ H R=>∃ F ρ δ x q,I2 K Y F H σ ρ δ∧t x ρ δ q∧(∀ ds J F' H' ρ' δ',I2 K Y F' H' σ ρ' δ'→Same F F'→SrcOk K J F' ds→q ds ρ' δ'→R J H')∧XR K Y W F x
structure PI2 (X:Cx) (Y:Y2) (W:XW) (tg iter:Expr) (t:TI2):Prop where
  go:PI X tg iter (upI2 X.K Y W t)
theorem z1x {X:Cx} {tg iter:Expr} {t t':TI} (h:PI X tg iter t) (k:∀ σ H R,t' σ H R→t σ H R):PI X tg iter t':=fun pins s σ H R I q=>h pins s σ H R I (k σ H R q)
theorem pi2 {X:Cx} {Y:Y2} {W:XW} {tg iter:Expr} {t:TI} {u:TI2} (h:PI X tg iter t) (k:∀ σ H R,upI2 X.K Y W u σ H R→t σ H R):PI2 X Y W tg iter u:=⟨z1x h k⟩
section
variable {X:Cx} {Y:Y2} {W:XW} {tg:Expr} {K:Frag}
theorem z1w {F:Hp} {a:Addr} {xs:List V} {ds:List D} (h:SqT K F a xs) (r:Reps K F ds xs):SrcOk K (Itt K a) F ds:=by
  refine ⟨fun i d F' H e s1 s2=>?_,fun F' H s1 s2=>?_⟩
  · obtain ⟨v,ev,rv⟩:=r.get e
    have hs:=(s1.trans s2).sqT h
    refine ⟨⟨xs,v,hs,ev⟩,fun u H' y=>?_⟩
    obtain ⟨rfl,y⟩:=y
    have:=y xs hs
    rw [ev] at this
    cases this
    exact .inl ⟨rfl,rv.mono s1⟩
  · exact ⟨xs,(s1.trans s2).sqT h,by rw [r.length]; exact Nat.le_refl _⟩
theorem i0l {F:Hp} {a:Addr} {xs:List V} {ds:List D} (h:SqL K F a xs) (r:Reps K F ds xs):SrcOk K (Itl K a) F ds:=by
  refine ⟨fun i d F' H e s1 s2=>?_,fun F' H s1 s2=>?_⟩
  · obtain ⟨v,ev,rv⟩:=r.get e
    have hs:=(s1.trans s2).sqL h
    refine ⟨⟨xs,v,hs,ev⟩,fun u H' y=>?_⟩
    obtain ⟨rfl,y⟩:=y
    have:=y xs hs
    rw [ev] at this
    cases this
    exact .inl ⟨rfl,rv.mono s1⟩
  · exact ⟨xs,(s1.trans s2).sqL h,by rw [r.length]; exact Nat.le_refl _⟩
noncomputable def rngD (lo:Int) (n:Nat):List D:=(List.range n).map fun (k:Nat)=>D.int (lo + (k:Int))
theorem s0i {lo:Int} {n i:Nat} {d:D} (e:(rngD lo n)[i]?=some d):i < n∧d=.int (lo + (i:Int)):=by
  unfold rngD at e
  rw [List.getElem?_map,Option.map_eq_some_iff] at e
  obtain ⟨k,ek,rfl⟩:=e
  obtain ⟨h1,h2⟩:=List.getElem?_eq_some_iff.mp ek
  rw [List.length_range] at h1
  rw [List.getElem_range] at h2
  subst h2
  exact ⟨h1,rfl⟩
theorem x0o {lo:Int} {n:Nat}:(rngD lo n).length=n:=by unfold rngD; simp
theorem i0k {F:Hp} {lo:Int} {n:Nat}:SrcOk K (Itr lo n) F (rngD lo n):=by
  refine ⟨fun i d F' H e s1 s2=>?_,fun F' H s1 s2=>?_⟩
  · obtain ⟨hi,rfl⟩:=s0i e
    refine ⟨hi,fun v H' y=>?_⟩
    obtain ⟨rfl,rfl⟩:=y
    exact .inl ⟨rfl,rep_int.mpr rfl⟩
  · show n≤_
    rw [x0o]; exact Nat.le_refl _
noncomputable def iSeq (K:Frag) (tl:TE):TI:=fun σ H R=>tl σ H fun x H1=>∃ a,x=.ref a∧(((∃ xs,SqL K H1 a xs)∧R (Itl K a) H1)∨((∃ xs,SqT K H1 a xs)∧R (Itt K a) H1))
theorem pi_seq {l:Expr} {tl:TE} (hl:PE X l tl):PI X tg l (iSeq X.K tl):=by
  intro pins s σ H R I h
  refine thn (hl pins s σ H _ I h) fun v s1 ⟨x,H1,I1,r1,q1⟩=>?_
  obtain ⟨a,e,q⟩:=q1
  subst e
  cases r1
  rcases q with ⟨⟨xs,hq⟩,q⟩ | ⟨⟨xs,hq⟩,q⟩
  · obtain ⟨its,rv,p,hz⟩:=I1.list hq
    refine wpAny_pyIter_list p.isList ?_
    refine ⟨s1.heap.objs.size,[s1.heap.objs.size],_,_,H1,rfl,I1.kept (t':=s1.toks) fun b o e=>Heap.get?_push_of_some _ e,k0h a _,⟨_,Heap.get?_push_size _ rfl,rfl,rfl⟩,fun b hb=>?_,q⟩
    have e:b=s1.heap.objs.size:=by simpa using hb
    subst e
    exact I1.fpOk (Nat.le_refl _) (I1.hok.fresh (Nat.le_refl _))
  · obtain ⟨its,rv,p,hz⟩:=I1.tuple hq
    refine wpAny_pyIter_tuple (show s1.heap.IsTuple a its.toArray from p) ?_
    refine ⟨s1.heap.objs.size,[s1.heap.objs.size],_,_,H1,rfl,I1.kept (t':=s1.toks) fun b o e=>Heap.get?_push_of_some _ e,l0o a _,⟨_,Heap.get?_push_size _ rfl,rfl,rfl⟩,fun b hb=>?_,q⟩
    have e:b=s1.heap.objs.size:=by simpa using hb
    subst e
    exact I1.fpOk (Nat.le_refl _) (I1.hok.fresh (Nat.le_refl _))
noncomputable def t2Is (te:TE2):TI2:=fun x ρ δ q=>te x ρ δ fun d ρ1 δ1=>match seqD d with | some ds=>q ds ρ1 δ1 | none=>False
theorem c0u {F:Hp} {d:D} {xs:List D} {x:V} (h:seqD d=some xs) (r:Rep K F d x):∃ a vs,x=.ref a∧(SqL K F a vs∨SqT K F a vs)∧Reps K F xs vs:=v0d (Same.refl F) h r
theorem w0g {l:Expr} {te:TE2} (hl:PE2 X Y W l te):PI2 X Y W tg l (t2Is te):=pi2 (pi_seq hl.go) fun σ H R ⟨F,ρ,δ,x,q,I,h,k,kx⟩=>by
  refine ⟨F,ρ,δ,x,_,I,h,fun d v F' H' ρ' δ' I' s' r' h'=>?_,kx⟩
  split at h'
  · rename_i ds e
    obtain ⟨a,vs,rfl,sq,z⟩:=c0u e r'
    refine ⟨a,rfl,?_⟩
    rcases sq with sq | sq
    · exact .inl ⟨⟨vs,I'.sub.sqL sq⟩,k ds _ F' H' ρ' δ' I' s' (i0l sq z) h'⟩
    · exact .inr ⟨⟨vs,I'.sub.sqT sq⟩,k ds _ F' H' ρ' δ' I' s' (z1w sq z) h'⟩
  · exact h'.elim
variable {a b:Expr} {ta:TA2} {p pos:Pos}
noncomputable def t2R1 (ta:TA2):TI2:=fun x ρ δ q=>ta x ρ δ fun ds ρ1 δ1=>match ds with | [.int j]=>(-(2 ^ 62)≤j∧j < 2 ^ 62)∧q (rngD 0 j.toNat) ρ1 δ1 | _=>False
theorem v0c (hm:X.mg "range" = none) (ha:PA2 X Y W [a] ta) (hg:Gl X "range" := by rfl) (hs:starEach [a] X.env=[(false,eval a X.env)]:=by rfl):PI2 X Y W tg (.Call (.Name "range" p) [a] [] pos) (t2R1 ta):=pi2 (k0g hg hm ha.go hs) fun σ H R ⟨F,ρ,δ,x,q,I,h,k,kx⟩=>by
  refine ⟨F,ρ,δ,x,_,I,h,fun ds vs F' H' ρ' δ' I' s' r' h'=>?_,kx⟩
  split at h'
  · rename_i j
    obtain ⟨v,rfl,r1⟩:=z0m r'
    rw [rep_int.mp r1]
    exact ⟨j,rfl,h'.1.1,h'.1.2,k _ _ F' H' ρ' δ' I' s' i0k h'.2⟩
  · exact h'.elim
noncomputable def t2R2 (ta:TA2):TI2:=fun x ρ δ q=>ta x ρ δ fun ds ρ1 δ1=>match ds with | [.int i,.int j]=>(-(2 ^ 62)≤i∧i < 2 ^ 62∧-(2 ^ 62)≤j∧j < 2 ^ 62)∧q (rngD i (j - i).toNat) ρ1 δ1 | _=>False
theorem i0j (hm:X.mg "range" = none) (ha:PA2 X Y W [a,b] ta) (hg:Gl X "range" := by rfl) (hs:starEach [a,b] X.env=[(false,eval a X.env),(false,eval b X.env)]:=by rfl) (hs2:starEach [b] X.env=[(false,eval b X.env)]:=by rfl) :
    PI2 X Y W tg (.Call (.Name "range" p) [a,b] [] pos) (t2R2 ta):=pi2 (k0f hg hm ha.go hs hs2) fun σ H R ⟨F,ρ,δ,x,q,I,h,k,kx⟩=>by
  refine ⟨F,ρ,δ,x,_,I,h,fun ds vs F' H' ρ' δ' I' s' r' h'=>?_,kx⟩
  split at h'
  · rename_i i j
    obtain ⟨v,u,rfl,r1,r2⟩:=a0g r'
    rw [rep_int.mp r1,rep_int.mp r2]
    exact ⟨i,j,rfl,h'.1,k _ _ F' H' ρ' δ' I' s' i0k h'.2⟩
  · exact h'.elim
end
noncomputable abbrev G2:=D→En→Option En
noncomputable def TgD (K:Frag) (g:TG) (g2:G2):Prop:=∀ (Y:Y2) (F H:Hp) (σ:St) (ρ ρ':En) (δ:Dk) (d:D) (v:V) (Q:St→Hp→Prop),I2 K Y F H σ ρ δ→Rep K F d v→g2 d ρ=some ρ'→(∀ σ',I2 K Y F H σ' ρ' δ→Q σ' H)→g v σ H Q
noncomputable def g2N (i:Nat):G2:=fun d ρ=>some (ρ.set i (.val d))
theorem z0l {K:Frag} {i:Nat}:TgD K (p0c i) (g2N i):=fun Y F H σ ρ ρ' δ d v Q I r e k=>by cases e; exact k _ (I.put r)
noncomputable def t0c:List Nat→List D→En→Option En
  | [],[],ρ=>some ρ
  | i :: is,d :: ds,ρ=>t0c is ds (ρ.set i (.val d))
  | _,_,_=>none
noncomputable def g2T (is:List Nat):G2:=fun d ρ=>match d with | .tup ds=>t0c is ds ρ | _=>none
noncomputable def gAll:List Nat→TGs
  | []=>gNil
  | i :: is=>gCons (p0c i) (gAll is)
theorem i0i {K:Frag}:∀ {is:List Nat} {ds:List D} {vs:List V} {Y:Y2} {F H:Hp} {σ:St} {ρ ρ':En} {δ:Dk} {Q:St→Hp→Prop},I2 K Y F H σ ρ δ→Reps K F ds vs→t0c is ds ρ=some ρ'→(∀ σ',I2 K Y F H σ' ρ' δ→Q σ' H)→gAll is vs σ H Q∧vs.length=is.length
  | [],[],vs,Y,F,H,σ,ρ,ρ',δ,Q,I,r,e,k=>by cases e; rw [reps_nil.mp r]; exact ⟨⟨rfl,k σ I⟩,rfl⟩
  | i :: is,d :: ds,vs,Y,F,H,σ,ρ,ρ',δ,Q,I,r,e,k=>by
    obtain ⟨v,l,rfl,r1,r2⟩:=reps_cons.mp r
    obtain ⟨h1,h2⟩:=i0i (I.put (i:=i) r1) r2 e k
    exact ⟨⟨v,l,rfl,h1⟩,by rw [List.length_cons,List.length_cons,h2]⟩
  | [],d :: ds,vs,Y,F,H,σ,ρ,ρ',δ,Q,I,r,e,k=>by cases e
  | i :: is,[],vs,Y,F,H,σ,ρ,ρ',δ,Q,I,r,e,k=>by cases e
theorem m0a {K:Frag} {is:List Nat} {n:Nat} (hn:is.length=n):TgD K (gTup K n (gAll is)) (g2T is):=fun Y F H σ ρ ρ' δ d v Q I r e k=>by
  unfold g2T at e
  split at e
  · rename_i ds
    obtain ⟨a,vs,rfl,ea,z⟩:=rep_tup.mp r
    obtain ⟨h1,h2⟩:=i0i I z e k
    exact ⟨a,vs,rfl,SqT.of (I.sub _ _ ea),by rw [h2,hn],h1⟩
  · cases e
noncomputable def forL (g:G2) (body:TS2) (E:End2):List D→En→Dk→Prop
  | [],ρ,δ=>E.nx ρ δ
  | d :: ds,ρ,δ=>match g d ρ with
    | some ρ'=>body { E with nx:=forL g body E ds,ct:=forL g body E ds,bk:=E.nx } ρ' δ
    | none=>False
noncomputable def z1v (ti:TI2) (g:G2) (body:TS2):TS2:=fun E ρ δ=>ti E.xc ρ δ fun ds ρ1 δ1=>forL g body E ds ρ1 δ1
section
variable {X:Cx} {Y:Y2} {W:XW} {tg iter:Expr} {pos:Pos}
theorem z0x {body:List Stmt} {ti:TI2} {g:TG} {g2:G2} {tb:TS2} (hp:PassesOwn (model X.prog X.w) X.A X.env X.xe) (hc:X.calm=true) (hi:PI2 X Y W tg iter ti) (hg:PG X tg g) (hd:TgD X.K g g2) (hb:PSs2 X Y W body tb)
    (hs:∀ x,foldedSetIterable iter X.env x=pure x:=by intro _; rfl):PS2 X Y W (.For tg iter body [] pos) (z1v ti g2 tb):=ps2 (ps_for hp hc hi.go hg hb.go hs) fun E1 σ H ⟨F,ρ,δ,E2,I,h,er⟩=>by
  refine ⟨F,ρ,δ,E2.xc,_,I,h,fun ds J F1 H1 ρ1 δ1 I1 s1 src h1=>?_,er.xc⟩
  refine ⟨fun i m σ H=>∃ F' ρ' δ',I2 X.K Y F' H σ ρ' δ'∧Same F1 F'∧forL g2 tb E2 (ds.drop i) ρ' δ'∧i≤ds.length∧m=ds.length - i,⟨ds.length,F1,ρ1,δ1,I1,Same.refl F1,by simpa using h1,Nat.zero_le _,by simp⟩,?_⟩
  rintro i m σ' H' ⟨F',ρ',δ',I',s',h',hi,rfl⟩
  cases e:ds[i]? with
  | none =>
    have hl:ds.length≤i:=List.getElem?_eq_none_iff.mp e
    have ei:i=ds.length:=by omega
    subst ei
    rw [List.drop_length] at h'
    exact .inl ⟨src.stop F' H' s' I'.sub,er.nx σ' F' H' ρ' δ' I' (s1.trans s') h'⟩
  | some d =>
    have hl:i < ds.length:=(List.getElem?_eq_some_iff.mp e).1
    obtain ⟨go,yl⟩:=src.item i d F' H' e s' I'.sub
    refine .inr ⟨go,fun σ2 H2=>∃ F2 ρ2 δ2,I2 X.K Y F2 H2 σ2 ρ2 δ2∧Same F1 F2∧forL g2 tb E2 (ds.drop (i + 1)) ρ2 δ2,fun σ2 H2 ⟨F2,ρ2,δ2,I2',s2,h2⟩=>⟨ds.length - (i + 1),by omega,F2,ρ2,δ2,I2',s2,h2,hl,rfl⟩,fun x H2 y=>?_⟩
    obtain ⟨F2,I2',s2,r2,_⟩:=I'.yld (yl x H2 y)
    have ed:ds.drop i=d :: ds.drop (i + 1):=by rw [List.drop_eq_getElem_cons hl]; congr 1; exact (List.getElem?_eq_some_iff.mp e).2
    rw [ed] at h'
    unfold forL at h'
    split at h'
    · rename_i ρ3 e3
      refine hd Y F2 H2 σ' ρ' ρ3 δ' d x _ I2' r2 e3 fun σ3 I3=>?_
      have sa:Same F1 F2:=s'.trans s2
      refine ⟨F2,ρ3,δ',_,I3,h',⟨fun σ4 F4 H4 ρ4 δ4 I4 s4 h4=>⟨F4,ρ4,δ4,I4,sa.trans s4,h4⟩,fun d v σ4 F4 H4 ρ4 δ4 I4 s4=>er.rt d v σ4 F4 H4 ρ4 δ4 I4 ((s1.trans sa).trans s4),er.xc.mono (s1.trans sa),fun σ4 F4 H4 ρ4 δ4 I4 s4 h4=>er.nx σ4 F4 H4 ρ4 δ4 I4 ((s1.trans sa).trans s4) h4,fun σ4 F4 H4 ρ4 δ4 I4 s4 h4=>⟨F4,ρ4,δ4,I4,sa.trans s4,h4⟩⟩⟩
    · exact h'.elim
noncomputable def z0k (tc:TT2) (tb:TS2) (E:End2):Nat→En→Dk→Prop
  | 0,_,_=>False
  | n + 1,ρ,δ=>tc E.xc ρ δ fun b ρ1 δ1=>if b=true then tb { E with nx:=z0k tc tb E n,ct:=z0k tc tb E n,bk:=E.nx } ρ1 δ1 else E.nx ρ1 δ1
noncomputable def z1u (tc:TT2) (tb:TS2):TS2:=fun E ρ δ=>∃ n,z0k tc tb E n ρ δ
theorem s0h {c:Expr} {body:List Stmt} {tc:TT2} {tb:TS2} (hp:PassesOwn (model X.prog X.w) X.A X.env X.xe) (hc:PT2 X Y W c tc) (hb:PSs2 X Y W body tb):PS2 X Y W (.While c body [] pos) (z1u tc tb):=ps2 (g0c hp hc.go hb.go) fun E1 σ H ⟨F,ρ,δ,E2,I,h,er⟩=>by
  obtain ⟨n,h⟩:=h
  refine ⟨fun m σ H=>∃ F' ρ' δ',I2 X.K Y F' H σ ρ' δ'∧Same F F'∧z0k tc tb E2 m ρ' δ',⟨n,F,ρ,δ,I,Same.refl F,h⟩,?_⟩
  rintro m σ' H' ⟨F',ρ',δ',I',s',h'⟩
  cases m with
  | zero=>exact h'.elim
  | succ m =>
    refine ⟨F',ρ',δ',E2.xc,_,I',h',fun b F2 H2 ρ2 δ2 I2' s2 h2=>?_,er.xc.mono s'⟩
    have sa:=s'.trans s2
    cases b with
    | false=>dsimp only at h2 ⊢; rw [if_neg Bool.false_ne_true] at h2 ⊢; exact er.nx σ' F2 H2 ρ2 δ2 I2' sa h2
    | true =>
      dsimp only at h2 ⊢
      rw [if_pos rfl] at h2 ⊢
      refine ⟨fun σ3 H3=>∃ F3 ρ3 δ3,I2 X.K Y F3 H3 σ3 ρ3 δ3∧Same F F3∧z0k tc tb E2 m ρ3 δ3,fun σ3 H3 h3=>⟨m,Nat.lt_succ_self m,h3⟩,?_⟩
      exact ⟨F2,ρ2,δ2,_,I2',h2,⟨fun σ4 F4 H4 ρ4 δ4 I4 s4 h4=>⟨F4,ρ4,δ4,I4,sa.trans s4,h4⟩,fun d v σ4 F4 H4 ρ4 δ4 I4 s4=>er.rt d v σ4 F4 H4 ρ4 δ4 I4 (sa.trans s4),er.xc.mono sa,fun σ4 F4 H4 ρ4 δ4 I4 s4 h4=>er.nx σ4 F4 H4 ρ4 δ4 I4 (sa.trans s4) h4,fun σ4 F4 H4 ρ4 δ4 I4 s4 h4=>⟨F4,ρ4,δ4,I4,sa.trans s4,h4⟩⟩⟩
end
section
variable {K:Frag} {Y:Y2} {F H:Hp} {σ:St} {ρ:En} {δ:Dk}
theorem I2.side {D:Addr} {o:HO} (I:I2 K Y F H σ ρ δ) (hF:F D=none) (h0:Y.H₀ D=none) (hd:Off δ D) (hD:∃ vs,H D=some (.lst vs)) (no:∀ j a,i5 ρ σ j a→a≠D):I2 K Y F (upd H D o) σ ρ δ:=by
  obtain ⟨vs,hD⟩:=hD
  refine ⟨⟨fun b u e=>?_,fun b fs e=>?_,fun b u e f=>?_,I.ran.f0,I.ran.fnew,I.ran.dto⟩,fun j c e=>?_,I.len,I.apart,I.off⟩
  · rw [y0 (u0 e hF)]; exact I.sub _ _ e
  · obtain ⟨q1,ws,q2,q3⟩:=I.ran.dk b fs e
    exact ⟨q1,ws,by rw [y0 (Ne.symm (hd b fs e))]; exact q2,q3⟩
  · rw [y0 (u0 e h0)]; exact I.ran.keep b u e f
  · have w:=I.env j c e
    cases c with
    | no=>trivial
    | val d=>exact w
    | own fs =>
      obtain ⟨b,ws,e1,h1,f1,g1,r1⟩:=w
      exact ⟨b,ws,e1,by rw [y0 (no j b ⟨.inl ⟨fs,e⟩,c3 e1⟩)]; exact h1,f1,g1,r1⟩
    | obj C fs =>
      obtain ⟨b,dx,ws,e1,es1,h1,h2,f1,f2,g1,g2,r1⟩:=w
      have nd:dx≠D:=fun w=>by rw [w,hD] at h2; cases h2
      exact ⟨b,dx,ws,e1,es1,by rw [y0 (no j b ⟨.inr (.inl ⟨C,fs,e⟩),c3 e1⟩)]; exact h1,by rw [y0 nd]; exact h2,f1,f2,g1,g2,r1⟩
    | ownD fs =>
      obtain ⟨b,ws,e1,h1,f1,g1,r1⟩:=w
      exact ⟨b,ws,e1,by rw [y0 (no j b ⟨.inr (.inr ⟨fs,e⟩),c3 e1⟩)]; exact h1,f1,g1,r1⟩
theorem I2.ice {D:Addr} {vs:List V} (I:I2 K Y F H σ ρ δ) (hF:F D=none) (h0:Y.H₀ D=none) (hd:Off δ D) (hD:H D=some (.lst vs)) (no:∀ j a,i5 ρ σ j a→a≠D):I2 K Y (upd F D (.lst vs)) H σ ρ δ:=by
  refine ⟨⟨fun b u e=>?_,fun b fs e=>?_,I.ran.keep,fun b u e=>?_,fun b u e=>?_,I.ran.dto⟩,fun j c e=>?_,I.len,I.apart,I.off⟩
  · by_cases z:b=D
    · subst z; rw [o3] at e; cases e; exact hD
    · rw [y0 z] at e; exact I.sub _ _ e
  · obtain ⟨q1,ws,q2,q3⟩:=I.ran.dk b fs e
    exact ⟨by rw [y0 (Ne.symm (hd b fs e))]; exact q1,ws,q2,q3.mono (Same.new hF)⟩
  · rw [y0 (u0 (I.ran.f0 b u e) hF)]; exact I.ran.f0 b u e
  · by_cases z:b=D
    · subst z; exact .inr h0
    · rw [y0 z] at e; exact I.ran.fnew b u e
  · have w:=I.env j c e
    cases c with
    | no=>trivial
    | val d=>obtain ⟨u,e1,r1⟩:=w; exact ⟨u,e1,r1.mono (Same.new hF)⟩
    | own fs =>
      obtain ⟨b,ws,e1,h1,f1,g1,r1⟩:=w
      exact ⟨b,ws,e1,h1,by rw [y0 (no j b ⟨.inl ⟨fs,e⟩,c3 e1⟩)]; exact f1,g1,r1.mono (Same.new hF)⟩
    | obj C fs =>
      obtain ⟨b,dx,ws,e1,es1,h1,h2,f1,f2,g1,g2,r1⟩:=w
      have nd:dx≠D:=fun w=>by rw [w,hD] at h2; cases h2
      exact ⟨b,dx,ws,e1,es1,h1,h2,by rw [y0 (no j b ⟨.inr (.inl ⟨C,fs,e⟩),c3 e1⟩)]; exact f1,by rw [y0 nd]; exact f2,g1,g2,r1.mono (Same.new hF)⟩
    | ownD fs =>
      obtain ⟨b,ws,e1,h1,f1,g1,r1⟩:=w
      exact ⟨b,ws,e1,h1,by rw [y0 (no j b ⟨.inr (.inr ⟨fs,e⟩),c3 e1⟩)]; exact f1,g1,r1.mono (Same.new hF)⟩
theorem I2.ownAddr {j:Nat} {a:Addr} (I:I2 K Y F H σ ρ δ) (o:i5 ρ σ j a):∃ u,H a=some u:=by
  rcases o.1 with ⟨ds,q⟩ | ⟨C,fs,q⟩ | ⟨kvs,q⟩
  rotate_left 2
  · obtain ⟨b,us,e,hb,_⟩:=I.env j _ q
    rw [o.2] at e
    cases e
    exact ⟨_,hb⟩
  · obtain ⟨b,us,e,hb,_⟩:=I.env j _ q
    rw [o.2] at e
    cases e
    exact ⟨_,hb⟩
  · obtain ⟨b,dx,us,e,es0,hb,_⟩:=I.env j _ q
    rw [o.2] at e
    cases e
    exact ⟨_,hb⟩
noncomputable def q0s:Option Cell→Cell | some (.val d)=>.val d | _=>.no
noncomputable def capt (ρ:En) (js:List Nat):En:=js.map fun j=>q0s ρ[j]?
noncomputable def w0d (te:TE2) (js:List Nat) (ρ:En) (q:List D→Dk→Prop):List D→List D→Dk→Prop
  | [],acc,δ=>q acc δ
  | d :: ds,acc,δ=>te (fun _ _ _ _=>False) (.val d :: capt ρ js) δ fun e _ δ1=>acc.length < 1000∧w0d te js ρ q ds (acc++[e]) δ1
end
section
variable {X:Cx} {Y:Y2} {W:XW} {x:Str} {px pos:Pos} {elt iter:Expr} {js:List Nat} {scope:Scope} {te:TE2} {ti:TI2}
noncomputable def teY (K:Frag) (te:TE2):TE:=fun σ H Q=>∃ Y',upE K Y' W0 te σ H Q
variable {i:Nat} {y:Str} {py spos:Pos}
end
section
variable {X:Cx} {Y:Y2} {W:XW} {pos:Pos}
theorem I2.deck {K:Frag} {F H:Hp} {σ:St} {ρ:En} {p:Addr} {ds:List D} {vs:List V} (I:I2 K Y F H σ ρ none) (h:H p=none) (r:Reps K F ds vs):I2 K Y F (upd H p (.lst vs)) σ ρ (some (p,ds)):=by
  have hF:F p=none:=I.sub.free h
  have h0:=I.ran.fresh h
  have n0:Y.δ₀=none:=by
    cases hd:Y.δ₀ with
    | none=>rfl
    | some q =>
      obtain ⟨a,gs⟩:=q
      obtain ⟨es,z⟩:=I.ran.dto.1 a gs hd
      cases z
  refine ⟨⟨fun b u e=>by rw [y0 (u0 e hF)]; exact I.sub _ _ e,fun a es e=>(by cases e; exact ⟨hF,vs,o3,r⟩),fun b u e f=>by rw [y0 (u0 e h0)]; exact I.ran.keep b u e f,I.ran.f0,I.ran.fnew,⟨fun a gs e=>(by rw [n0] at e; cases e),fun a gs e _=>(by cases e; exact h0)⟩⟩,fun j c e=>?_,I.len,I.apart,fun j a o b es e=>?_⟩
  · have w:=I.env j c e
    cases c with
    | no=>trivial
    | val d=>exact w
    | own fs =>
      obtain ⟨b,ws,e1,h1,f1,g1,r1⟩:=w
      exact ⟨b,ws,e1,by rw [y0 (u0 h1 h)]; exact h1,f1,g1,r1⟩
    | obj C fs =>
      obtain ⟨b,dx,ws,e1,es1,h1,h2,f1,f2,g1,g2,r1⟩:=w
      exact ⟨b,dx,ws,e1,es1,by rw [y0 (u0 h1 h)]; exact h1,by rw [y0 (u0 h2 h)]; exact h2,f1,f2,g1,g2,r1⟩
    | ownD fs =>
      obtain ⟨b,ws,e1,h1,f1,g1,r1⟩:=w
      exact ⟨b,ws,e1,by rw [y0 (u0 h1 h)]; exact h1,f1,g1,r1⟩
  · cases e
    obtain ⟨u,hu⟩:=I.ownAddr o
    exact u0 hu h
theorem e2_new {e:Expr} {o:HO} {d:D} (h:PE X e (fun σ H Q=>∀ p,H p=none→Q (.ref p) (upd H p o))) (r:∀ F p,Rep X.K (upd F p o) d (.ref p)):PE2 X Y W e (t2C d):=pe2 h fun σ H Q ⟨F,ρ,δ,x,q,I,h,k,kx⟩=>fun p hp =>
  k _ _ _ _ ρ δ (I.alloc hp) (I.grow hp) (r F p) h
noncomputable def q0r (xs:List D) (y:D):Nat:=xs.countP fun z=>eqV (toV z) (toV y)
noncomputable def o0r (ta:TE2) (t:TA2):TE2:=fun x ρ δ q=>ta x ρ δ fun d ρ1 δ1=>match d with
  | .lst xs=>t x ρ1 δ1 fun es ρ2 δ2=>(match es with | [y]=>(y0n y && xs.all y0n)=true∧q (.int (q0r xs y:Nat)) ρ2 δ2 | _=>False)
  | _=>False
theorem e0y {o e:Expr} {es:List Expr} {ta:TE2} {t:TA2} {apos cpos:Pos} (ho:PE2 X Y W o ta) (ha:PA2 X Y W (e :: es) t) (hbase:attributeBase o "count" X.env (eval o X.env)=eval o X.env:=by rfl)
    (hfew:((backTo cpos (starEach (e :: es) X.env)).all (fun x=>!x.1) && (backToKw cpos (keywordEach [] X.env)).all (fun x=>x.1.isSome)
      && decide ((e :: es).length + ([]:List Keyword).length + (if ([]:List Keyword).isEmpty then 0 else 1) < 30))=true:=by rfl)
    (hline:(apos.endLine == cpos.line)=true:=by rfl) (hs:starEach (e :: es) X.env=(false,eval e X.env) :: starEach es X.env:=by exact w6 rfl) (hplain:(backTo cpos (starEach es X.env)).any (·.1)=false:=by exact n6 rfl) :
    PE2 X Y W (.Call (.Attribute o "count" apos) (e :: es) [] cpos) (o0r ta t):=pe2 (pe_bm PySem.F.plainAttrs_list PySem.F.slot_list_count PySem.F.type_list_count f0o ho.go ha.go hbase hfew hline hs hplain) fun σ H Q ⟨F,ρ,δ,x,q,I,h,k,kx⟩=>by
  refine ⟨F,ρ,δ,x,_,I,h,fun d v F1 H1 ρ1 δ1 I1 s1 r1 h1=>?_,kx⟩
  cases d with
  | lst xs =>
    obtain ⟨a,vs,rfl,ea,z⟩:=rep_lst.mp r1
    refine ⟨.inl ⟨rfl,vs,SqL.of (I1.sub _ _ ea)⟩,F1,ρ1,δ1,x,_,I1,h1,fun es us F2 H2 ρ2 δ2 I2' s2 r2 h2=>?_,kx.mono s1⟩
    split at h2
    · rename_i y
      obtain ⟨hf,h2⟩:=h2
      rw [Bool.and_eq_true] at hf
      obtain ⟨u,rfl,ru⟩:=z0m r2
      obtain ⟨e1,e2⟩:=m0g hf.1 ru
      obtain ⟨e3,e4⟩:=l8 hf.2 (z.mono s2)
      refine ⟨a,vs,u,rfl,rfl,I2'.sub _ _ (s2 _ _ ea),e2,e4,?_⟩
      have ec:(vs.countP fun z=>eqV z u)=q0r xs y:=by rw [e1,e3,List.countP_map]; rfl
      rw [ec]
      exact k _ _ F2 H2 ρ2 δ2 I2' (s1.trans s2) (rep_int.mpr rfl) h2
    · exact h2.elim
  | _=>exact h1.elim
end
end DL
namespace DL
open PySem PySem.Spec L2
open PySem.W (XC)
section
variable {X:Cx} {Y:Y2} {W:XW} {pos:Pos}
theorem x0f:PE2 X Y W (.Dict [] [] pos) (t2C (.dic [])):=e2_new m0t fun F p=>rep_dic.mpr ⟨p,[],rfl,o3,by unfold RepK; rfl⟩
end
section
variable (K:Frag)
open PySem.W (kitOne kitAny)
theorem ko {n:String} (h:n∈BT):kitOne K (.type n) (.type "bool")=some (n == "bool")∧kitOne K (.type n) (.type "int")=some (n == "int" || n == "bool") ∧
    kitOne K (.type n) (.type "list")=some (n == "list")∧kitOne K (.type n) (.type "tuple")=some (n == "tuple")∧kitAny K (.type n) [.type "list",.type "tuple"]=some (n == "list" || n == "tuple"):=kt_all K h
theorem i0h {d:D} (h:TyD K d) (hp:∀ C fs,d≠.ins C fs∧d≠.exc C fs):u0c K d (.ty "bool")=some (match d with | .bl _=>true | _=>false):=by
  cases d with
  | non=>exact (ko K (n := "NoneType") (by decide)).1
  | bl b=>exact (ko K (n := "bool") (by decide)).1
  | int b=>exact (ko K (n := "int") (by decide)).1
  | str b=>exact (ko K (n := "str") (by decide)).1
  | lst b=>exact (ko K (n := "list") (by decide)).1
  | tup b=>exact (ko K (n := "tuple") (by decide)).1
  | scr b=>exact h.elim
  | dic b=>exact (ko K (n := "dict") (by decide)).1
  | dwk b=>exact h.elim
  | ins C b=>exact absurd rfl (hp C b).1
  | exc C b=>exact absurd rfl (hp C b).2
  | ref a=>exact h.elim
  | ty a=>exact h.elim
theorem c0t {d:D} (h:TyD K d) (hp:∀ C fs,d≠.ins C fs∧d≠.exc C fs):u0c K d (.ty "int")=some (match d with | .bl _=>true | .int _=>true | _=>false):=by
  cases d with
  | non=>exact (ko K (n := "NoneType") (by decide)).2.1
  | bl b=>exact (ko K (n := "bool") (by decide)).2.1
  | int b=>exact (ko K (n := "int") (by decide)).2.1
  | str b=>exact (ko K (n := "str") (by decide)).2.1
  | lst b=>exact (ko K (n := "list") (by decide)).2.1
  | tup b=>exact (ko K (n := "tuple") (by decide)).2.1
  | scr b=>exact h.elim
  | dic b=>exact (ko K (n := "dict") (by decide)).2.1
  | dwk b=>exact h.elim
  | ins C b=>exact absurd rfl (hp C b).1
  | exc C b=>exact absurd rfl (hp C b).2
  | ref a=>exact h.elim
  | ty a=>exact h.elim
theorem ko_row {d:D} (h:TyD K d) (hp:∀ C fs,d≠.ins C fs∧d≠.exc C fs):u0c K d (.tup [.ty "list",.ty "tuple"])=some (match d with | .lst _=>true | .tup _=>true | _=>false):=by
  cases d with
  | non=>exact (ko K (n := "NoneType") (by decide)).2.2.2.2
  | bl b=>exact (ko K (n := "bool") (by decide)).2.2.2.2
  | int b=>exact (ko K (n := "int") (by decide)).2.2.2.2
  | str b=>exact (ko K (n := "str") (by decide)).2.2.2.2
  | lst b=>exact (ko K (n := "list") (by decide)).2.2.2.2
  | tup b=>exact (ko K (n := "tuple") (by decide)).2.2.2.2
  | scr b=>exact h.elim
  | dic b=>exact (ko K (n := "dict") (by decide)).2.2.2.2
  | dwk b=>exact h.elim
  | ins C b=>exact absurd rfl (hp C b).1
  | exc C b=>exact absurd rfl (hp C b).2
  | ref a=>exact h.elim
  | ty a=>exact h.elim
end
noncomputable def u5:D→Bool
  | .non=>true | .bl _=>true | .int _=>true | .str _=>true | .lst _=>true | .tup _=>true | .dic _=>true | _=>false
theorem s0g {K:Frag} {d:D} (h:u5 d=true):TyD K d∧∀ C fs,d≠.ins C fs∧d≠.exc C fs:=by
  cases d with
  | scr b=>cases h
  | dwk b=>cases h
  | ins C b=>cases h
  | exc C b=>cases h
  | ref a=>cases h
  | ty a=>cases h
  | _=>exact ⟨trivial,fun C fs=>⟨(by intro z; cases z),(by intro z; cases z)⟩⟩
noncomputable def b3:D→Int→Int→Bool
  | .int i,lo,hi=>decide (lo≤i) && decide (i≤hi)
  | _,_,_=>false
end DL
namespace DL
open PySem PySem.Spec L2
section
variable {X:Cx} {Y:Y2} {W:XW} {pos:Pos} {a:Expr} {ta:TE2}
theorem e0x {x:Str} {n:Int} (hm:∃ t,X.mg x=some (.int n t)) (hg:Gl X x:=by rfl) (hd:(x == ("__debug__" : Str))=false:=by decide):PE2 X Y W (.Name x pos) (t2C (.int n)):=by
  obtain ⟨t,hm⟩:=hm
  exact e2_gi hm ⟨t,rfl⟩ hg hd
theorem x0e (K:Frag) {f:Str} (ha:PE2 X Y W a ta) (hK:X.K=K:=by rfl) (hb:attributeBase a f X.env (eval a X.env)=eval a X.env:=by rfl):PE2 X Y W (.Attribute a f pos) (f0b K f ta):=hK ▸ e2_fld ha hb
variable {x:Str} {p:Pos} {e:Expr} {te:TE2}
theorem v0t (K:Frag) (i:Nat) {f:Str} {tpos:Pos} (he:PE2 X Y W e te) (hK:X.K=K:=by rfl) (hN:X.N[i]?=some x:=by rfl) (hv:Vis X.env.scope x:=by walk_at "v3") (hd:(x == ("__debug__" : Str))=false:=by decide) (hcd:(x == ("__classdict__" : Str))=false:=by decide)
    (hs:swapsWith e (some (.Attribute (.Name x p) f tpos)) pos.line X.env=pure false:=by rfl):PS2 X Y W (.Assign [.Attribute (.Name x p) f tpos] e pos) (m0b K i f te):=hK ▸ z1z i he hN hv hd hcd hs
variable {D:Addr} {y n:Str} {np:Pos} {b₀:Stmt} {suite:List Stmt} {rest:List ExceptHandler} {ts:TS2} {tr:XTS2}
theorem c0s (K:Frag) (i:Nat) (tp:Top X) (d:XHd K D) (hm:X.mg y=some (.ref D)) (hN:X.N.Nodup) (hs:∀ x,PSs2 (X.hdl x) Y W0 (b₀ :: suite) ts) (hr:PH2 X Y W rest tr) (hK:X.K=K:=by rfl) (hi:X.N[i]?=some n:=by rfl) (hk:X.env.scope.names.lookup n=some .local:=by rfl) (hg:Gl X y:=by rfl) (hdb:(y == ("__debug__" : Str))=false:=by decide) :
    PH2 X Y W (.ExceptHandler (some (.Name y np)) (some n) (b₀ :: suite) pos :: rest) (i0m K i D ts tr):=by subst hK; exact h2_as i tp d hm hN hs hr hi hk hg hdb
end
end DL
namespace DL
open L2
theorem i0g {α:Type} (l:List α) (k:Nat):atI l (no_index (OfNat.ofNat k))=l[k]?:=by
  have e:(OfNat.ofNat k:Int)=((k:Nat):Int):=rfl
  rw [e]
  unfold atI ixN
  rw [if_pos (by omega)]
  by_cases h:k < l.length
  · rw [if_pos (by omega)]
    show l[((k:Nat):Int).toNat]?=_
    rw [Int.toNat_natCast]
  · rw [if_neg (by omega),List.getElem?_eq_none (by omega)]; rfl
end DL
namespace DL
open PySem PySem.Spec L2
noncomputable def x0d (g:G2) (body:TS2) (E:End2) (rest:En→Dk→Prop) (d:D) (ρ:En) (δ:Dk):Prop:=match g d ρ with
  | some ρ'=>body { E with nx:=rest,ct:=rest,bk:=E.nx } ρ' δ
  | none=>False
theorem v8 {g:G2} {body:TS2} {E:End2} {ρ:En} {δ:Dk} {ds:List D} (P:Nat→En→Dk→Prop) (h0:P 0 ρ δ)
    (step:∀ (i:Nat) (d:D) (ρ:En) (δ:Dk) (rest:En→Dk→Prop),ds[i]?=some d→P i ρ δ→(∀ ρ' δ',P (i + 1) ρ' δ'→rest ρ' δ')→x0d g body E rest d ρ δ) (fin:∀ ρ δ,P ds.length ρ δ→E.nx ρ δ):forL g body E ds ρ δ:=by
  have key:∀ (k i:Nat) (ρ:En) (δ:Dk),i + k=ds.length→P i ρ δ→forL g body E (ds.drop i) ρ δ:=by
    intro k
    induction k with
    | zero =>
      intro i ρ δ hi p
      rw [List.drop_eq_nil_of_le (by omega)]
      have:i=ds.length:=by omega
      subst this
      exact fin ρ δ p
    | succ k ih =>
      intro i ρ δ hi p
      have hl:i < ds.length:=by omega
      rw [List.drop_eq_getElem_cons hl]
      have:=step i ds[i] ρ δ (forL g body E (ds.drop (i + 1))) (by simp [hl]) p fun ρ' δ' p'=>ih (i + 1) ρ' δ' (by omega) p'
      unfold x0d at this
      unfold forL
      exact this
  have:=key ds.length 0 ρ δ (by omega) h0
  rwa [List.drop_zero] at this
theorem s0f {te:TE2} {js:List Nat} {ρ:En} {q:List D→Dk→Prop} {ds:List D} {acc:List D} {δ:Dk} (P:Nat→List D→Dk→Prop) (h0:P 0 acc δ)
    (step:∀ (i:Nat) (d:D) (acc:List D) (δ:Dk) (rest:List D→Dk→Prop),ds[i]?=some d→P i acc δ→(∀ acc' δ',P (i + 1) acc' δ'→rest acc' δ')→te (fun _ _ _ _=>False) (.val d :: capt ρ js) δ fun e _ δ1=>acc.length < 1000∧rest (acc++[e]) δ1)
    (fin:∀ acc δ,P ds.length acc δ→q acc δ):w0d te js ρ q ds acc δ:=by
  have key:∀ (k i:Nat) (acc:List D) (δ:Dk),i + k=ds.length→P i acc δ→w0d te js ρ q (ds.drop i) acc δ:=by
    intro k
    induction k with
    | zero =>
      intro i acc δ hi p
      rw [List.drop_eq_nil_of_le (by omega)]
      have:i=ds.length:=by omega
      subst this
      exact fin acc δ p
    | succ k ih =>
      intro i acc δ hi p
      have hl:i < ds.length:=by omega
      rw [List.drop_eq_getElem_cons hl]
      unfold w0d
      exact step i ds[i] acc δ (fun acc' δ'=>w0d te js ρ q (ds.drop (i + 1)) acc' δ') (by simp [hl]) p fun acc' δ' p'=>ih (i + 1) acc' δ' (by omega) p'
  have:=key ds.length 0 acc δ (by omega) h0
  rwa [List.drop_zero] at this
theorem q0q {K:Frag} {F:Hp}:∀ ns:List Int,Reps K F (ns.map D.int) (ns.map V.int)
  | []=>Reps.nil
  | n :: ns=>Reps.cons (rep_int.mpr rfl) (q0q ns)
noncomputable def l0b:Sp2:=fun ds δ q _=>∃ ns:List Int,ds=[.scr (ns.map D.int)]∧ns.length≤63∧δ=none∧∀ δ',q (.bl true) δ'
theorem walk2 {l:PySem.W.OpenLaw} {k:Nat} {q:Program} {loose:List Str} {XP:(Str→Option Value)→Heap→Prop} {YP:World→Heap→Prop} {d:DefRec} {K:Params→PySem.W.Frag} {x:Str} (hn:l.most=some 63) (hdf:d.params.defaults=[]) (hr:Room k callerA)
    (hY:∀ (w:World) (h:Heap),YP w h→(K w.params).In h)
    (F:∀ (w:World) (mg:Str→Option Value) (fa:Addr) (h:Heap),(K w.params).In h→h.Ns mainGlobals mg→mg d.name=some (.ref fa) →
      ∃ fd:FuncData,(∀ (s:Shared) (u:Value),BindsTo s fd ⟨[u],[]⟩ [(x,u)])∧∀ base:Heap,(K w.params).In base→base.Ns mainGlobals mg→FnOk l.prog w (K w.params) mg base (CX1 l.prog w) k fa fd [x] (upF (K w.params) l0b)) :
    PySem.W.WalkO q loose XP YP l.row.toRowW d [] (fun f vs=>PySem.call f vs) :=
  L2.walk_of (n:=63) (k:=k) (x:=x) (CX:=fun w=>CX1 l.prog w) (sp:=fun w=>upF (K w.params) l0b) hn (by decide) hdf hr hY F
    (fun w H a ns hl _ hS=>⟨H,[.scr (ns.map D.int)],none,fun d _=>d=.bl true,fun _ _ _=>False,Same.refl H,fun a ds e=>(by cases e),Reps.cons (rep_scr.mpr ⟨a,_,rfl,hS,q0q ns⟩) Reps.nil,⟨ns,rfl,hl,rfl,fun _=>rfl⟩,
      fun d v F' H' δ' R r e=>(by subst e; exact rep_bl.mp r),fun _ _ _ _ _ _ _ _ z=>z⟩)
    fun w H s e s' ⟨_,_,_,_,_,_,_,_,_,_,_,_,_,_,z⟩=>z
end DL
namespace L2
open PySem PySem.Spec PyProof.Rows
section
variable {prog:Program} {w:World} {A:Around} {E:Value→Shared→Prop} {s:Shared}
theorem nx_tup {j t:Addr} {i:Nat} {xs:Array Value} {x:Value} {Q:Value→Shared→Prop} (hj:s.heap.IsTupleIter j t i) (ht:s.heap.IsTuple t xs) (hx:xs[i]?=some x)
    (hQ:∀ h',h'.IsTupleIter j t (i + 1)→Heap.SameBut j s.heap h'→Q x { s with heap:=h' }):wpAny (model prog w) A (Builtin.SmallTypes.nextOf (.ref j)) Q E s:=by
  obtain ⟨o,ho,hc,hd⟩:=id hj
  obtain ⟨ot,hot,_,nt,hdt⟩:=ht
  unfold Builtin.SmallTypes.nextOf
  refine wpAny_bind (wpAny_callSpecial?_slot (name:=Str.ofString "__next__") hj.typeIs F.slot_tuple_iterator_next (wpAny_call_entry F.slot_tuple_iterator_next hj.typeIs F.entry_tuple_iterator_next ?_ (F.args_tuple_iterator_next_1 _)))
  show wpAny _ _ (field (.ref j) 0 >>= _) _ _ s
  refine wpAny_bind (wpAny_field ho hd (x:=.ref t) rfl ?_)
  show wpAny _ _ (if ((Value.ref t) == Value.none)=true then _ else _) _ _ s
  rw [if_neg (show ¬ (((Value.ref t) == Value.none)=true) from Bool.false_ne_true)]
  show wpAny _ _ (field (.ref j) 1 >>= _) _ _ s
  refine wpAny_bind (wpAny_field ho hd (x:=(.int i 0)) rfl ?_)
  refine wpAny_bind (m:=seqItems? (.ref t)) (wpAny_seqItems hot hdt ?_)
  simp only [Int.toNat_natCast,hx]
  refine wpAny_bind (wpAny_setField ho hd (by simp) (wpAny_pure ⟨x,rfl,wpAny_pure (hQ _ ⟨_,Heap.get?_update_self _ ho (Obj.isFreed_of_fields (Obj.data_mapFields hd _)),(Obj.cls_mapFields ..).trans hc,?_⟩ (Heap.SameBut.update ..))⟩))
  rw [Obj.data_mapFields hd]
  simp [rawInt]
theorem l0a {j t:Addr} {i:Nat} {xs:Array Value} {Q:Value→Shared→Prop} (hh:A.handled=none) (hj:s.heap.IsTupleIter j t i) (ht:s.heap.IsTuple t xs) (hx:xs[i]?=none)
    (hE:∀ h' e,Heap.ExtBut j s.heap h'→(∃ o,h'.get? e=some o∧o.cls=.type "StopIteration")→E (.ref e) { s with heap:=h' }):wpAny (model prog w) A (Builtin.SmallTypes.nextOf (.ref j)) Q E s:=by
  obtain ⟨o,ho,hc,hd⟩:=id hj
  obtain ⟨ot,hot,_,nt,hdt⟩:=ht
  unfold Builtin.SmallTypes.nextOf
  refine wpAny_bind (wpAny_callSpecial?_slot (name:=Str.ofString "__next__") hj.typeIs F.slot_tuple_iterator_next (wpAny_call_entry F.slot_tuple_iterator_next hj.typeIs F.entry_tuple_iterator_next ?_ (F.args_tuple_iterator_next_1 _)))
  show wpAny _ _ (field (.ref j) 0 >>= _) _ _ s
  refine wpAny_bind (wpAny_field ho hd (x:=.ref t) rfl ?_)
  show wpAny _ _ (if ((Value.ref t) == Value.none)=true then _ else _) _ _ s
  rw [if_neg (show ¬ (((Value.ref t) == Value.none)=true) from Bool.false_ne_true)]
  show wpAny _ _ (field (.ref j) 1 >>= _) _ _ s
  refine wpAny_bind (wpAny_field ho hd (x:=(.int i 0)) rfl ?_)
  refine wpAny_bind (m:=seqItems? (.ref t)) (wpAny_seqItems hot hdt ?_)
  simp only [Int.toNat_natCast,hx]
  refine wpAny_bind (wpAny_rule (wpAny_bind (wpAny_setField ho hd (by simp) (wpAny_bind ?_))))
  simp only [newExc,newTuple]
  refine wpAny_bind (wpAny_newObj_type (wpAny_bind (m:=firstArgMember _ _) (wpAny_of_eq (a:=Value.none) (by first | rfl | (simp only [firstArgMember]; rfl)) (wpAny_newObj_type ?_ (by size_fits)))) (by size_fits))
  simp only [raiseNew]
  refine wpAny_bind (wpAny_handled ?_)
  first | rw [show A.in1.handled=none from hh] | rw [hh]
  exact wpAny_bind (wpAny_pure (wpAny_throw (hE _ _ (((Heap.SameBut.update ..).extBut.push _).push _) ⟨_,Heap.get?_push_size _ rfl,rfl⟩)))
end
theorem i0f {prog:Program} {w:World} {A:Around} (hh:A.handled=none) (j t:Addr) (ne:t≠j) (xs:Array Value) :
    Draws prog w A j [j,t] xs.size (fun i v=>xs[i]?=some v) (fun i h=>h.IsTupleIter j t i∧h.IsTuple t xs) where
  live:=fun _ _ st=>let ⟨o,ho,_⟩:=st.1; ⟨o,ho⟩
  frame:=fun _ _ _ st k=>⟨st.1.at fun o e=>k j (by simp) o e,let ⟨o,e,r⟩:=st.2; ⟨o,k t (by simp) o e,r⟩⟩
  item:=fun i s Q E hi st hQ=>nx_tup st.1 st.2 (x:=xs[i]) (by simp [hi]) fun h' st' sb=>hQ _ h' s.toks (by simp [hi]) ⟨st',let ⟨o,e,r⟩:=st.2; ⟨o,sb.extBut _ _ ne e,r⟩⟩ sb
  done:=fun s Q E st hE=>l0a hh st.1 st.2 (by simp) hE
noncomputable def SqAt (b:Bool) (h:Heap) (l:Addr) (xs:Array Value):Prop:=match b with | true=>h.IsTuple l xs | false=>h.IsList l xs
noncomputable def ItAt (b:Bool) (h:Heap) (j l:Addr) (i:Nat):Prop:=match b with | true=>h.IsTupleIter j l i | false=>h.IsListIter j l i
noncomputable def itN (b:Bool):String:=match b with | true => "tuple_iterator" | false => "list_iterator"
theorem v0s (b:Bool) {prog:Program} {w:World} {A:Around} (hh:A.handled=none) (j l:Addr) (ne:l≠j) (xs:Array Value) :
    Draws prog w A j [j,l] xs.size (fun i v=>xs[i]?=some v) (fun i h=>ItAt b h j l i∧SqAt b h l xs):=by
  cases b
  · exact Draws.list hh j l ne xs
  · exact i0f hh j l ne xs
theorem ItAt.obj {b:Bool} {h:Heap} {j l:Addr} {i:Nat} (q:ItAt b h j l i):∃ o,h.get? j=some o∧o.cls=.type (itN b)∧o.data=.fields #[.ref l,.int i 0]:=by
  cases b
  · obtain ⟨o,e,c,d⟩:=q; exact ⟨o,e,c,d⟩
  · obtain ⟨o,e,c,d⟩:=q; exact ⟨o,e,c,d⟩
theorem ItAt.of {b:Bool} {h:Heap} {j l:Addr} {i:Nat} {o:Obj} (e:h.get? j=some o) (c:o.cls=.type (itN b)) (d:o.data=.fields #[.ref l,.int i 0]):ItAt b h j l i:=by
  cases b
  · exact ⟨o,e,c,d⟩
  · exact ⟨o,e,c,d⟩
theorem ItAt.stay {b:Bool} {h h':Heap} {j l:Addr} {i:Nat} (q:ItAt b h j l i) (k:∀ o,h.get? j=some o→h'.get? j=some o):ItAt b h' j l i:=by
  obtain ⟨o,e,c,d⟩:=q.obj
  exact .of (k o e) c d
theorem SqAt.obj {b:Bool} {h:Heap} {l:Addr} {xs:Array Value} (q:SqAt b h l xs):∃ o,h.get? l=some o∧o.cls=.type (if b=true then "tuple" else "list")∧∃ n,o.data=.seq xs n:=by
  cases b
  · obtain ⟨o,e,c,n,d⟩:=q; exact ⟨o,e,c,n,d⟩
  · obtain ⟨o,e,c,n,d⟩:=q; exact ⟨o,e,c,n,d⟩
theorem SqAt.stay {b:Bool} {h h':Heap} {l:Addr} {xs:Array Value} (q:SqAt b h l xs) (k:∀ o,h.get? l=some o→h'.get? l=some o):SqAt b h' l xs:=by
  cases b
  · obtain ⟨o,e,c,n,d⟩:=q; exact ⟨o,k o e,c,n,d⟩
  · obtain ⟨o,e,c,n,d⟩:=q; exact ⟨o,k o e,c,n,d⟩
theorem v0b {b:Bool} {prog:Program} {w:World} {A:Around} {E:Value→Shared→Prop} {s:Shared} {l:Addr} {xs:Array Value} {Q:Value→Shared→Prop} (hl:SqAt b s.heap l xs)
    (h:Q (.ref s.heap.objs.size) { s with heap:=s.heap.push { cls:=.type (itN b),data:=.fields #[.ref l,.int 0 0] } }):wpAny (model prog w) A (pyIter (.ref l)) Q E s:=by
  cases b
  · exact wpAny_pyIter_list hl h
  · exact wpAny_pyIter_tuple hl h
end L2
namespace L2
open PySem PySem.Spec PyProof.Rows
open AutoSeq1 (wpAny_loadPart')
noncomputable abbrev enH (b:Bool) (h:Heap) (l:Addr):Heap:=h.push { cls:=.type (itN b),data:=.fields #[.ref l,.int 0 0] }
theorem i0e (l:Addr) (xs:Array Value) (n:Nat) (dct:Option Addr) (sl:Array (Option Value)) :
    Meets (Builtin.«enumerate.__new__» ⟨[.type "enumerate",.ref l],[]⟩) (fun _ R s=>s.heap.get? l=some { cls:=.type "tuple",dict:=dct,data:=.seq xs n,slots:=sl } ∧
      R (.ok (.ret (.ref (enH true s.heap l).objs.size))) { s with heap:=(enH true s.heap l).push { cls:=.type "enumerate",data:=.fields #[.none,.bool false,.ref s.heap.objs.size,rawInt 0,.none,.none] } }) :=
  .of_wp fun prog w A R s h=>by
    obtain ⟨hp,g,d,tk,os⟩:=s
    obtain ⟨hl,h⟩:=h
    have hsub:=sub_enumerate
    have hT:Heap.IsTuple (Shared.heap ⟨hp,g,d,tk,os⟩) l xs:=⟨_,hl,rfl,n,rfl⟩
    wp_walk using wpAny_loadPart' hl
    refine wpAny_stack_any fun st=>wpAny_pure ?_
    split
    · rename_i c _ _ _ _ _
      cases (c == Value.type "enumerate") <;> (wp_walk using wpAny_loadPart' hl,wpAny_pyIter_tuple hT; exact ⟨_,rfl,h⟩)
    · wp_walk using wpAny_loadPart' hl,wpAny_pyIter_tuple hT
      exact ⟨_,rfl,h⟩
section
variable {prog:Program} {w:World} {A:Around} {E:Value→Shared→Prop} {s:Shared}
theorem e0w {l:Addr} {xs:Array Value} {Q:Value→Shared→Prop} (hT:s.heap.IsTuple l xs)
    (h:∀ h',IsEnum h' (s.heap.objs.size + 1) s.heap.objs.size 0 .none→h'.IsTupleIter s.heap.objs.size l 0→(∀ b o,s.heap.get? b=some o→h'.get? b=some o)→Q (.ref (s.heap.objs.size + 1)) { s with heap:=h' }) :
    wpAny (model prog w) A (call (.type "enumerate") [.ref l]) Q E s:=by
  obtain ⟨⟨c,dct,dt,sl⟩,hl,hc,n,hd⟩:=hT
  cases (show c=.type "tuple" from hc)
  cases (show dt=.seq xs n from hd)
  refine callType_new F.called_enumerate (by decide) (F.typeCall_enumerate_1 _) (F.newCall_enumerate_1 _) (fun obj=>F.args_object_init_2 obj _) F.entry_enumerate_new (i0e l xs n dct sl) ⟨hl,?_⟩
  have hz:(enH true s.heap l).objs.size=s.heap.objs.size + 1:=Heap.size_push ..
  have he:=Heap.get?_push_size (enH true s.heap l) (o:={ cls:=.type "enumerate",data:=.fields #[.none,.bool false,.ref s.heap.objs.size,rawInt 0,.none,.none] }) rfl
  show _∧_
  rw [hz] at he ⊢
  exact ⟨⟨_,he,rfl⟩,h _ he ⟨_,Heap.get?_push_of_some _ (Heap.get?_push_size _ rfl),rfl,rfl⟩ fun b o x=>Heap.get?_push_of_some _ (Heap.get?_push_of_some _ x)⟩
theorem z1t {b:Bool} {l:Addr} {xs:Array Value} {Q:Value→Shared→Prop} (hq:SqAt b s.heap l xs)
    (h:∀ h',IsEnum h' (s.heap.objs.size + 1) s.heap.objs.size 0 .none→ItAt b h' s.heap.objs.size l 0→(∀ b o,s.heap.get? b=some o→h'.get? b=some o)→Q (.ref (s.heap.objs.size + 1)) { s with heap:=h' }) :
    wpAny (model prog w) A (call (.type "enumerate") [.ref l]) Q E s:=by
  cases b
  · exact call_enumerate_list hq fun h' a1 a2 _ a4=>h h' a1 a2 a4
  · exact e0w hq fun h' a1 a2 a4=>h h' a1 a2 a4
end
section
variable {prog:Program} {w:World} {A:Around} {E:Value→Shared→Prop} {s:Shared}
structure ZA (z TI TO j1 j2:Addr):Prop where
  a:TI≠z
  b:TO≠z
  c:j1≠z
  d:j2≠z
  e:TI≠TO
  f:TI≠j1
  g:TI≠j2
  h:TO≠j1
  i:TO≠j2
  j:j1≠j2
end
end L2
namespace L2
open PySem PySem.Spec PyProof.Rows
section
variable {prog:Program} {w:World} {A:Around} {E:Value→Shared→Prop} {s:Shared}
end
theorem Inv.turnedL {X:Cx} {pins:List (Addr×Obj)} {σ:List (Option V)} {H:Hp} {s:Shared} {h':Heap} {t':Nat} {ch:List Addr} (I:Inv X pins σ H s) (k:∀ b o,b ∉ ch→s.heap.get? b=some o→h'.get? b=some o) (hf:∀ b∈ch,FpOk X pins H b) :
    Inv X pins σ H { s with heap:=h',toks:=t' }:=by
  have nit:∀ b u,H b=some u→b ∉ ch:=fun b u e z=>by rw [(hf b z).1] at e; cases e
  refine I.step (g':=s.gens) (d':=s.drawn) (ch:=ch) (fun b hb=>?_) (fun b o _ _ hc e _=>k b o hc e) (fun b o _ _ hc e _=>⟨o.slots,k b o hc e⟩) (fun _ _ _ _ n=>n)
    (fun b o hc e=>⟨o,k b o hc e⟩) (fun _ _ e=>e) (fun _ _ _ e=>e) (fun b ps e=>⟨#[],by rw [e]; simp⟩) (fun m hm=>?_) (fun b u e=>?_) I.bare
  · obtain ⟨_,f1,_,f3,f4,f5⟩:=hf b hb
    exact ⟨f3,f1,f4,f5⟩
  · obtain ⟨o,es,ep,ho,r⟩:=hm
    exact ⟨o,es,ep,k _ o (fun z=>(hf _ z).2.1 rfl) ho,r⟩
  · refine (I.hok b u e).stay (fun c v hc q=>k c v ?_ q) (fun _ q=>q) fun _ _ q=>q
    rcases hc with z | z
    · rw [z]; exact nit b u e
    · exact nit c _ z
noncomputable def Sq (K:PySem.W.Frag) (b:Bool) (H:Hp) (a:Addr) (xs:List V):Prop:=match b with | true=>SqT K H a xs | false=>SqL K H a xs
theorem Inv.sq {b:Bool} {X:Cx} {pins:List (Addr×Obj)} {σ:List (Option V)} {H:Hp} {s:Shared} {a:Addr} {xs:List V} (I:Inv X pins σ H s) (h:Sq X.K b H a xs):∃ its:List Value,Vals xs its∧SqAt b s.heap a its.toArray∧xs.length≤sizeLine:=by
  cases b
  · obtain ⟨its,r,p,z⟩:=I.list h; exact ⟨its,r,p.isList,z⟩
  · obtain ⟨its,r,p,z⟩:=I.tuple h; exact ⟨its,r,p,z⟩
theorem Inv.sq_inj {b:Bool} {X:Cx} {pins:List (Addr×Obj)} {σ:List (Option V)} {H:Hp} {s:Shared} {a:Addr} {xs ys:List V} (I:Inv X pins σ H s) (h:Sq X.K b H a xs) (h':Sq X.K b H a ys):xs=ys:=by
  cases b
  · exact I.list_inj h h'
  · exact I.tuple_inj h h'
end L2
namespace L2
open PySem PySem.Spec PyProof.Rows
noncomputable def Ite (K:PySem.W.Frag) (b:Bool) (a:Addr):It :=
  ⟨fun i H=>∃ xs x,Sq K b H a xs∧xs[i]?=some x,
   fun i H v H'=>∃ p x,H p=none∧v=.ref p∧H'=upd H p (.tup [.int i,x])∧∀ xs,Sq K b H a xs→xs[i]?=some x,
   fun i H=>∃ xs,Sq K b H a xs∧xs.length=i⟩
noncomputable def enumT (b:Bool) (a e j:Addr) (i:Nat) (h:Heap):Prop:=(∃ old,IsEnum h e j (i:Int) old)∧ItAt b h j a i
theorem i0d {P:Program} {w:World} {K:PySem.W.Frag} {elts:List Expr} {x1} {pos:Pos} (b:Bool) (a e j:Addr) (hej:e≠j) (na:a≠e∧a≠j) :
    Turn P w K (.Tuple elts x1 pos) (Ite K b a) [e,j] e (enumT b a e j) where
  mem:=by simp
  obj:=fun i h st c hc=>by
    obtain ⟨⟨old,he⟩,h1⟩:=st
    have hc':c=e∨c=j:=by simpa using hc
    rcases hc' with rfl | rfl
    · exact ⟨_,he,fun v q=>by simp at q⟩
    · obtain ⟨o,e,_,d⟩:=h1.obj; exact ⟨o,e,fun v q=>by rw [d] at q; cases q⟩
  keep:=fun i h h' st k=>by
    obtain ⟨⟨old,he⟩,h1⟩:=st
    exact ⟨⟨old,k e (by simp) _ he⟩,h1.stay fun o e=>k j (by simp) o e⟩
  item:=by
    intro X hP hw hK hc i pins s σ H E I hf st hg
    subst hP hw hK
    obtain ⟨xs,x,q1,e1⟩:=hg
    obtain ⟨its1,r1,p1,z1⟩:=I.sq q1
    obtain ⟨u1,g1,v1⟩:=r1.get e1
    obtain ⟨⟨old,he⟩,h1⟩:=st
    have l1:=(List.getElem?_eq_some_iff.mp g1).1
    have hh:X.A.in1.handled=none:=I.ok.hd hc
    have D1:=v0s b (prog:=X.prog) (w:=X.w) hh j a na.2 its1.toArray
    refine wpAny_pyNext_enum_itemD D1 he ⟨h1,p1⟩ (by simpa using l1) hej (by simp [hej,na.1.symm]) fun x' h' tk px ho st1 hT' hsz kk=>⟨_,rfl,?_⟩
    have ex:x'=u1:=by
      have px':its1.toArray[i]?=some x':=px
      rw [List.getElem?_toArray,g1] at px'
      exact (Option.some.inj px').symm
    subst ex
    refine wpAny_letOwnedTupleGo_enum (s:={ s with heap:=h',toks:=tk + 1 }) ho fun h₂ he₂ hs₂=>?_
    replace hs₂:Heap.SameBut e h' h₂:=hs₂
    have hfr:H s.heap.objs.size=none:=I.hok.fresh (Nat.le_refl _)
    have Il:Inv X pins σ (upd H s.heap.objs.size (.tup [.int i,x])) { s with heap:=s.heap.push { cls:=.type "tuple",data:=.seq #[.int i tk,x'] } }:=I.laid (t':=s.toks) (fun b u e=>Heap.get?_push_of_some _ e) (Nat.le_refl _)
      ⟨by show 2≤sizeLine; decide,[.int i tk,x'],.cons ⟨tk,rfl⟩ (.cons v1 .nil),⟨_,Heap.get?_push_size _ rfl,rfl,_,rfl⟩⟩
    have lt:∀ {c o},s.heap.get? c=some o→c≠s.heap.objs.size:=fun e=>Nat.ne_of_lt (Heap.lt_size e)
    have nT:∀ c∈[e,j],c≠s.heap.objs.size:=fun c hc=>by
      have hc':c=e∨c=j:=by simpa using hc
      rcases hc' with rfl | rfl
      · exact lt he
      · obtain ⟨o,e,_⟩:=h1.obj; exact lt e
    have hn2:∀ c∈[e,j],upd H s.heap.objs.size (.tup [.int i,x]) c=none:=fun c hc=>by rw [y0 (nT c hc)]; exact (hf c hc).1
    have If:Inv X pins σ (upd H s.heap.objs.size (.tup [.int i,x])) { s with heap:=h₂,toks:=tk + 1 }:=Inv.turnedL (s:={ s with heap:=s.heap.push { cls:=.type "tuple",data:=.seq #[.int i tk,x'] } }) (ch:=[e,j]) (h':=h₂) (t':=tk + 1) Il (fun c o hc q=>by
      have hc':c≠e∧c≠j:=by simpa using hc
      rcases Heap.get?_push_cases q with ⟨rfl,rfl⟩ | q
      · exact hs₂.extBut _ _ hc'.1 hT'
      · exact hs₂.extBut _ _ hc'.1 (kk c o hc'.1 hc'.2 q)) fun c hc=>⟨hn2 c hc,(hf c hc).2⟩
    refine ⟨.ref s.heap.objs.size,_,If,rfl,⟨s.heap.objs.size,x,hfr,rfl,rfl,fun zs hq=>by rw [I.sq_inj hq q1]; exact e1⟩,?_,hn2⟩
    exact ⟨⟨_,by simpa using he₂⟩,st1.1.stay fun o q=>hs₂.extBut _ _ hej.symm q⟩
  done:=by
    intro X hP hw hK hc i pins s σ H E I hf st hg
    subst hP hw hK
    obtain ⟨xs,q1,le⟩:=hg
    obtain ⟨its1,r1,p1,z1⟩:=I.sq q1
    obtain ⟨⟨old,he⟩,h1⟩:=st
    have hh:X.A.in1.handled=none:=I.ok.hd hc
    have D1:=v0s b (prog:=X.prog) (w:=X.w) hh j a na.2 its1.toArray
    have len1:=r1.length
    have en:its1.toArray.size=i:=by simp only [List.size_toArray]; omega
    refine wpAny_pyNext_enum_endD D1 he ⟨by rw [en]; exact h1,p1⟩ fun h' sb=>⟨rfl,?_⟩
    exact I.turnedL (ch:=[e,j]) (h':=h') (t':=s.toks) (fun c o hc q=>by
        have hc':c≠e∧c≠j:=by simpa using hc
        exact sb c o hc'.2 q) hf
  self:=fun A i s Q E st h=>let ⟨⟨_,he⟩,_⟩:=st; wpAny_pyIter_enum he h
theorem w0f:bootBuiltins "enumerate" = some (.type "enumerate"):=by decide +kernel
end L2
namespace L2
open PySem PySem.Spec PyProof.Rows
theorem q0p {prog:Program} {w:World} {A:Around} {R:Result→Shared→Prop} {s:Shared} {elt target iter:Expr} {ifs:List Expr} {scope:Scope} {pos:Pos} {it acc:Value} {env:Env} (I:Nat→Shared→Prop)
    (turn:∀ n s,I n s→wpAny (model prog w) A (pyNext it) (fun r s₁=>match r with
      | none=>R (.ok .next) s₁
      | some v=>wpAny (model prog w) A (letOwnedTupleGo target it v) (fun _ s₁'=>wpAny (model prog w) A (assign target env v) (fun _ s₂ =>
          wpAny (model prog w) A (forIn ifs true fun c r=>if r=true then do let ok ← isTrue c env (eval c env); pure (ForInStep.yield ok) else pure (ForInStep.yield r)) (fun ok s₃ =>
            if ok=true then wpAny (model prog w) A (eval elt env) (fun x s₄=>wpAny (model prog w) A (call (.builtin "list.append") [acc,x]) (fun _ s₅=>∃ m,m < n∧I m s₅) (fun _ _=>False) s₄) (fun _ _=>False) s₃
            else ∃ m,m < n∧I m s₃) (fun _ _=>False) s₂) (fun _ _=>False) s₁') (fun _ _=>False) s₁) (fun _ _=>False) s)
    (n:Nat) (h:I n s):codeAny (model prog w) A (.compLoop (.ListComp elt [⟨target,iter,ifs,0⟩] scope pos) 0 it acc env) R s:=by
  refine codeAny_loop rfl I (fun n s hI=>?_) n h
  show wpAny _ _ ((compTurn (.ListComp elt [⟨target,iter,ifs,0⟩] scope pos) 0 it acc env).onRaise (fun y=>do noteFrame y env; theTreesLotGoes y)) _ _ s
  refine wpAny_noted ?_
  rw [compTurn_list]
  refine wpAny_bind (wpAny_standAt (wpAny_bind (wpAny_mono (turn n s hI) (fun r s₁ h₁=>?_) fun _ _ z=>z.elim)))
  cases r with
  | none=>exact wpAny_pure h₁
  | some v =>
    refine wpAny_bind (wpAny_mono h₁ (fun _ s₁' h₁'=>?_) fun _ _ z=>z.elim)
    refine wpAny_bind (wpAny_mono h₁' (fun _ s₂ h₂=>wpAny_bind (wpAny_mono h₂ (fun ok s₃ h₃=>?_) fun _ _ z=>z.elim)) fun _ _ z=>z.elim)
    cases ok with
    | false=>exact wpAny_pure ⟨rfl,h₃⟩
    | true=>exact wpAny_bind (wpAny_bind (wpAny_mono h₃ (fun x s₄ h₄=>wpAny_bind (wpAny_mono h₄ (fun _ s₅ h₅=>wpAny_pure (wpAny_pure ⟨rfl,h₅⟩)) fun _ _ z=>z.elim)) fun _ _ z=>z.elim))
noncomputable def Cx.compM (X:Cx) (xs:List Str) (js:List Nat) (scope:Scope) (cl:List (Str×Addr)) (C:Addr) (s₀:Shared) (H₀:Hp) (fp:List Addr):Cx :=
  { X with N:=xs++js.map (fun j=>X.N.getD j ""),s₀:=s₀,H₀:=H₀,env:=compEnvC scope cl C X.env,outer:=X.stack,ex:=fp,fn:=fun _=>false,pn:=[],xe:=fun _ _=>False }
noncomputable def k8 (σ:St) (js:List Nat):St:=js.map fun j=>(σ[j]?).join
structure CompOkM (X:Cx) (xs:List Str) (js:List Nat) (scope:Scope):Prop where
  kind:scope.kind=.function
  cell:∀ y∈scope.names,y.2≠.cell
  loc:∀ y∈scope.names,y.2=.local→scope.names.lookup y.1=some .local
  free:∀ y∈scope.names,y.2=.free→X.env.kindOf y.1=some .cell∨X.env.kindOf y.1=some .free
  caps:∀ j∈js,scope.names.lookup (X.N.getD j "")=some .free
  nd:(xs++js.map (fun j=>X.N.getD j "")).Nodup
noncomputable def l0z (names:List (Str×NameKind)) (N xs:List Str) (js:List Nat) (scope:Scope):Bool :=
  (scope.kind == .function) && (scope.names.all fun y=>(y.2 != .cell) && ((y.2 != .local) || scope.names.lookup y.1 == some .local) && ((y.2 != .free) || (names.lookup y.1 == some .cell || names.lookup y.1 == some .free))) &&
    (js.all fun j=>scope.names.lookup (N.getD j "") == some .free) && decide ((xs++js.map (fun j=>N.getD j "")).Nodup)
theorem CompOkM.of {X:Cx} {scope:Scope} (xs:List Str) (js:List Nat) (h:l0z X.env.scope.names X.N xs js scope=true):CompOkM X xs js scope:=by
  unfold l0z at h
  simp only [Bool.and_eq_true,List.all_eq_true,beq_iff_eq,bne_iff_ne,Bool.or_eq_true,decide_eq_true_eq] at h
  obtain ⟨⟨⟨h1,h2⟩,h4⟩,h5⟩:=h
  refine ⟨h1,fun y hy=>(h2 y hy).1.1,fun y hy e=>?_,fun y hy e=>?_,h4,h5⟩
  · rcases (h2 y hy).1.2 with z | z
    · exact absurd e z
    · exact z
  · rcases (h2 y hy).2 with z | z
    · exact absurd e z
    · exact z
section
variable {X:Cx} {pins:List (Addr×Obj)} {σ:St} {H:Hp} {s:Shared}
theorem i0c {xs:List Str} {js:List Nat} {scope:Scope} {cl:List (Str×Addr)} {fp:List Addr} {h':Heap} {tk:Nat} (I:Inv X pins σ H s) (S:CompOkM X xs js scope)
    (h1:∀ y c,cl.lookup y=some c→X.env.cells.lookup y=some c) (h2:∀ y,(y,NameKind.free)∈scope.names→∃ c,cl.lookup y=some c)
    (hf:∀ b∈fp,FpOk X pins H b) (hfl:∀ b∈fp,b < s.heap.objs.size)
    (hn:h'.Ns s.heap.objs.size (fun _=>none)) (hk:∀ b o,s.heap.get? b=some o→h'.get? b=some o) :
    Inv (X.compM xs js scope cl s.heap.objs.size s H fp) [] (List.replicate xs.length none++k8 σ js) H { s with heap:=h',toks:=tk }:=by
  have e0:=I.env0
  have hfree:H s.heap.objs.size=none:=I.hok.fresh (Nat.le_refl _)
  refine ⟨⟨I.ok.mod,S.kind,I.ok.glob,I.ok.blt,Nat.le_refl _,fun y z c a b=>I.ok.inj y z c (h1 y c a) (h1 z c b),fun y hy=>?_,(fun y c z=>by cases z),I.ok.hd,I.ok.frames,.inl rfl,fun b hb=>⟨Nat.ne_of_lt (hfl b hb),fun y c e=>(hf b hb).2.2.2.2.1 y c (h1 y c e)⟩,
    I.bs,Nat.le_trans I.ok.bsz I.sz,fun b o e hb=>?_,fun b hb z=>?_,I.stack,I.stkFree⟩,rfl,I.bare,Un.kept hk,⟨_,hn,fun i y v e1 e2 e3=>?_⟩,fun y c e=>?_,hfree,fun y c e=>I.freeC y c (h1 y c e),(fun p hp=>by cases hp),I.hok.kept hk,?_⟩
  · have hy:(relabel scope X.env).names.lookup y=some .cell∨(relabel scope X.env).names.lookup y=some .free:=hy
    rcases hy with hy | hy
    · exact h2 y (z0q hy (.inl rfl) S.cell)
    · exact h2 y (z0q hy (.inr rfl) S.cell)
  · rcases (hf b hb).2.2.2.1 with z | z
    · exact I.ok.noex b o e z
    · exact absurd (Nat.lt_of_lt_of_le (Heap.lt_size e) (Nat.le_trans I.ok.bsz z)) (Nat.lt_irrefl _)
  · have z:b∈frs X.stack:=z
    rcases List.mem_cons.mp (I.stkSub b z) with q | q
    · exact (hf b hb).2.1 q
    · exact (hf b hb).2.2.1 q
  · have e1:(xs++js.map (fun j=>X.N.getD j ""))[i]?=some y:=e1
    by_cases hi:i < xs.length
    · rw [List.getElem?_append_left (by simpa using hi),List.getElem?_replicate,if_pos hi] at e2
      cases e2
    · rw [List.getElem?_append_right (by omega)] at e1
      rw [List.getElem?_append_right (by simp; omega)] at e2
      simp only [List.length_replicate] at e2
      generalize i - xs.length=i at e1 e2
      unfold k8 at e2
      rw [List.getElem?_map] at e1 e2
      cases ej:js[i]? with
      | none=>rw [ej] at e1; cases e1
      | some j =>
        rw [ej] at e1 e2
        have e1:X.N.getD j "" = y:=Option.some.inj e1
        have e2:(σ[j]?).join=some v:=Option.some.inj e2
        have hjm:j∈js:=List.mem_of_getElem? ej
        have e2':σ[j]?=some (some v):=by
          cases q:σ[j]? with
          | none=>rw [q] at e2; cases e2
          | some o=>rw [q] at e2; cases o with
            | none=>cases e2
            | some v'=>cases e2; rfl
        have hjl:j < X.N.length:=by rw [← I.len]; exact (List.getElem?_eq_some_iff.mp e2').1
        have eN:X.N[j]?=some y:=by
          rw [← e1,List.getD_eq_getElem?_getD,List.getElem?_eq_getElem hjl]; rfl
        have hfr:scope.names.lookup y=some .free:=by rw [← e1]; exact S.caps j hjm
        have hmem:(y,NameKind.free)∈scope.names:=PySem.mem_of_lookup hfr
        obtain ⟨c,hc⟩:=h2 y hmem
        have hXc:=h1 y c hc
        have hkd:=S.free (y,.free) hmem rfl
        obtain ⟨m,hm,hl⟩:=I.loc
        have hvis:Vis X.env.scope y:=by rcases hkd with q | q; exact .inr (.inl q); exact .inr (.inr q)
        obtain ⟨u,r,l⟩:=hl j y v eN e2' hvis
        refine ⟨u,r,.inr ⟨q0x hfr,c,hc,?_⟩⟩
        rcases l with ⟨q,_⟩ | ⟨q,c',q1,q2⟩
        · rcases hkd with z | z
          · rw [z] at q; cases q
          · rw [z] at q; cases q
        · rw [hXc] at q1; cases q1
          obtain ⟨o,ho,hd⟩:=q2
          exact ⟨o,hk _ _ ho,hd⟩
  · obtain ⟨v,o,ho,hd⟩:=I.cell y c (h1 y c e)
    exact ⟨v,o,hk _ _ ho,hd⟩
  · show (List.replicate xs.length none++k8 σ js).length=(xs++js.map (fun j=>X.N.getD j "")).length
    unfold k8
    simp
end
noncomputable def tgV (K:PySem.W.Frag) (tup:Bool) (n:Nat) (v:V) (H:Hp) (k:List V→Prop):Prop:=match tup with
  | false=>k [v]
  | true=>∃ a ws,v=.ref a∧SqT K H a ws∧ws.length=n∧k ws
structure TgM (K:PySem.W.Frag) (tup:Bool) (n:Nat) (g:TG):Prop where
  go:∀ (caps:St) (v:V) (H:Hp) (Q:St→Hp→Prop),tgV K tup n v H (fun ws=>Q (ws.map some++caps) H)→g v (List.replicate n none++caps) H Q
theorem v0r {K:PySem.W.Frag}:TgM K false 1 (p0c 0):=⟨fun caps v H Q h=>h⟩
noncomputable def PIfs (X:Cx) (ifs:List Expr) (t:TT):Prop:=∀ (pins:List (Addr×Obj)) (s:Shared) (σ:St) (H:Hp) (Q:Bool→Hp→Prop),Inv X pins σ H s→t σ H Q →
  wpAny (model X.prog X.w) X.A (forIn ifs true fun c r=>if r=true then do let ok ← isTrue c X.env (eval c X.env); pure (ForInStep.yield ok) else pure (ForInStep.yield r)) (TP X pins σ Q) X.xe s
theorem e0v {X:Cx}:PIfs X [] (fun _ H Q=>Q true H):=fun pins s σ H Q I h=>wpAny_tests_nil ⟨H,I,h⟩
theorem e0u {X:Cx} {c:Expr} {t:TT} (h:PT X c t):PIfs X [c] t:=fun pins s σ H Q I q=>wpAny_tests_one (h pins s σ H Q I q)
noncomputable def i0b (K:PySem.W.Frag) (J:It) (tup:Bool) (n:Nat) (caps:St) (D:Addr) (tc:TT) (te:TE) (H1:Hp) (Q:Hp→Prop):Prop:=∃ P:Nat→Nat→List V→Hp→Prop,(∃ m,P 0 m [] (upd H1 D (.lst [])))∧∀ i m ys H2,P i m ys H2→H2 D=some (.lst ys) ∧
  ((J.stop i H2∧Q H2)∨(J.go i H2∧∀ v H3,J.yld i H2 v H3→tgV K tup n v H3 fun ws=>tc (ws.map some++caps) H3 fun ok H4 =>
    if ok=true then te (ws.map some++caps) H4 fun y H5=>H5 D=some (.lst ys)∧ys.length < sizeLine∧∃ m',m' < m∧P (i + 1) m' (ys++[y]) (upd H5 D (.lst (ys++[y])))
    else ∃ m',m' < m∧P (i + 1) m' ys H4))
noncomputable def i0a (K:PySem.W.Frag) (wi:TI) (tup:Bool) (n:Nat) (js:List Nat) (tc:TT) (te:TE):TE:=fun σ H Q=>wi σ H fun J H1=>∀ D,H1 D=none→i0b K J tup n (k8 σ js) D tc te H1 fun H2=>Q (.ref D) H2
section
variable {X:Cx}
theorem v0a {xs:List Str} {target elt iter:Expr} {ifs:List Expr} {js:List Nat} {scope:Scope} {cl:List (Str×Addr)} {pos:Pos} {tup:Bool} {g:TG} {tc:TT} {te:TE} {J:It} {fp:List Addr} {it:Addr} {tn:Nat→Heap→Prop} {pins:List (Addr×Obj)} {σ:St} {H1:Hp} {s1:Shared}
    {Q:V→Hp→Prop} {RR:Value→Addr→Result→Shared→Prop} {E:Value→Shared→Prop} (hc:X.calm=true) (S:CompOkM X xs js scope)
    (hg:∀ C s₀ H₀ fp cl,PG (X.compM xs js scope cl C s₀ H₀ fp) target g) (gm:TgM X.K tup xs.length g) (ht:∀ C s₀ H₀ fp cl,PIfs (X.compM xs js scope cl C s₀ H₀ fp) ifs tc)
    (he:∀ C s₀ H₀ fp cl,PE (X.compM xs js scope cl C s₀ H₀ fp) elt te)
    (h1:∀ y c,cl.lookup y=some c→X.env.cells.lookup y=some c) (h2:∀ y,(y,NameKind.free)∈scope.names→∃ c,cl.lookup y=some c)
    (I:Inv X pins σ H1 s1) (T:Turn X.prog X.w X.K target J fp it tn) (st:tn 0 s1.heap) (hf:∀ b∈fp,FpOk X pins H1 b)
    (q:∀ D,H1 D=none→i0b X.K J tup xs.length (k8 σ js) D tc te H1 fun H2=>Q (.ref D) H2)
    (hRR:∀ D C H' s',Inv X pins σ H' s'→Loose X pins H' C→(∃ m,s'.heap.Ns C m)→Q (.ref D) H'→RR (.ref D) C (.ok .next) s') :
    wpAny (model X.prog X.w) X.A (newList []) (fun acc s₃=>wpAny (model X.prog X.w) X.A (newFunctionEnv scope X.env.globals cl [] X.env.qual none .none (some X.env)) (fun cenv s₄ =>
      codeAny (model X.prog X.w) X.A (.compStart (.ListComp elt [⟨target,iter,ifs,0⟩] scope pos) 0 (.ref it) acc { cenv with scope:=relabel scope X.env }) (RR acc cenv.locals) s₄) E s₃) E s1:=by
  have hfr:H1 s1.heap.objs.size=none:=I.hok.fresh (Nat.le_refl _)
  refine wpAny_newObj_type (wpAny_newFunctionEnv S.cell (by intro y hy; simp at hy) (fun h₁ hns₁ hsb₁=>?_) S.kind)
  dsimp only at hns₁ hsb₁ ⊢
  have I3:=I.laid (a:=s1.heap.objs.size) (o:=.lst []) (h':=s1.heap.push { cls:=.type "list",dict:=none,data:=.seq ([]:List Value).toArray }) (t':=s1.toks) (fun b u e=>Heap.get?_push_of_some _ e) (Nat.le_refl _)
    ⟨by simp,[],0,.nil,Heap.get?_push_size _ rfl⟩
  generalize hD:s1.heap.objs.size=D at *
  generalize hH2:s1.heap.push { cls:=.type "list",dict:=none,data:=.seq ([]:List Value).toArray }=G at *
  have hGD:G.objs.size=D + 1:=by rw [← hH2,Heap.size_push,hD]
  have hkG:∀ b o,G.get? b=some o→h₁.get? b=some o:=fun b o e=>hsb₁.extBut b o (Nat.ne_of_lt (Heap.lt_size e)) (Heap.get?_push_of_some _ e)
  have hold:∀ b o,s1.heap.get? b=some o→h₁.get? b=some o:=fun b o e=>hkG b o (by rw [← hH2]; exact Heap.get?_push_of_some _ e)
  have hfpl:∀ b∈fp,b < s1.heap.objs.size:=fun b hb=>by obtain ⟨o,e,_⟩:=T.obj _ _ st b hb; exact Heap.lt_size e
  have hf3:∀ b∈fp,FpOk X pins (upd H1 D (.lst [])) b:=fun b hb=>⟨by rw [y0 (by rw [← hD]; exact Nat.ne_of_lt (hfpl b hb))]; exact (hf b hb).1,(hf b hb).2⟩
  have IC:=i0c (xs:=xs) (js:=js) (scope:=scope) (cl:=cl) (fp:=fp) (h':=h₁) (tk:=s1.toks + ([]:List (Str×Value)).length) I3 S h1 h2 hf3 (fun b hb=>Nat.lt_of_lt_of_le (hfpl b hb) (by show s1.heap.objs.size≤G.objs.size; rw [hGD,hD]; exact Nat.le_succ _)) hns₁ hkG
  obtain ⟨P,⟨m0,p0⟩,turn⟩:=q D hfr
  have loop:∀ s':Shared,s'={ s1 with heap:=h₁,toks:=s1.toks + ([]:List (Str×Value)).length } →
      codeAny (model X.prog X.w) X.A (.compLoop (.ListComp elt [⟨target,iter,ifs,0⟩] scope pos) 0 (.ref it) (.ref D) (compEnvC scope cl G.objs.size X.env)) (RR (.ref D) G.objs.size) s':=by
    rintro s' rfl
    refine q0p (fun n s'=>∃ i ys H',Inv (X.compM xs js scope cl G.objs.size { s1 with heap:=G } (upd H1 D (.lst [])) fp) [] (List.replicate xs.length none++k8 σ js) H' s'∧tn i s'.heap∧(∀ b∈fp,H' b=none)∧P i n ys H') ?_ m0 ⟨0,[],_,IC,T.keep _ _ _ st fun b hb o e=>hold b o e,fun b hb=>(hf3 b hb).1,p0⟩
    rintro n s3 ⟨i,ys,H3,J3,st3,fr3,p3⟩
    obtain ⟨hD3,tr⟩:=turn i n ys H3 p3
    have stat:∀ {H':Hp} {s':Shared} {σ':St},Inv (X.compM xs js scope cl G.objs.size { s1 with heap:=G } (upd H1 D (.lst [])) fp) [] σ' H' s'→(∀ b∈fp,H' b=none)→∀ b∈fp,FpOk (X.compM xs js scope cl G.objs.size { s1 with heap:=G } (upd H1 D (.lst [])) fp) [] H' b :=
      fun {H' s' σ'} JJ hn b hb=>⟨hn b hb,(JJ.ok.exf b hb).1,JJ.ok.exfs b hb,.inl hb,(JJ.ok.exf b hb).2,fun p hp=>by cases hp⟩
    rcases tr with ⟨stop,qn⟩ | ⟨go,step⟩
    · refine wpAny_mono (T.done (X.compM xs js scope cl G.objs.size { s1 with heap:=G } (upd H1 D (.lst [])) fp) rfl rfl rfl hc i [] s3 _ H3 (fun _ _=>False) J3 (stat J3 fr3) st3 stop) (fun r s4 ⟨hr,J4⟩=>?_) fun _ _ z=>z
      subst hr
      have I4:Inv X pins σ H3 s4:=by
        refine I3.call' (ch:=fp) (s':=s4) J4.os J4.base J4.hok J4.bare fun b hb=>?_
        obtain ⟨_,f1,f2,f3,f4,f5⟩:=hf3 b hb
        exact ⟨f3,f1,f4,f5⟩
      refine hRR D G.objs.size H3 s4 I4 ⟨J4.free,?_,?_,?_,?_⟩ (let ⟨m,hm,_⟩:=J4.loc; ⟨m,hm⟩) qn
      · exact Nat.ne_of_gt I3.lt
      · exact I3.sz
      · exact fun y c e=>by obtain ⟨v,z⟩:=I3.cell y c e; exact Nat.ne_of_lt z.lt
      · exact fun p hp=>Nat.ne_of_lt (Heap.lt_size (I3.pin p hp).1)
    · refine wpAny_mono (T.item (X.compM xs js scope cl G.objs.size { s1 with heap:=G } (upd H1 D (.lst [])) fp) rfl rfl rfl hc i [] s3 _ H3 (fun _ _=>False) J3 (stat J3 fr3) st3 go) (fun r s4 ⟨u,hr,h4⟩=>?_) fun _ _ z=>z
      subst hr
      refine wpAny_mono h4 (fun _ s5 ⟨v,H5,J5,r5,y5,st5,fr5⟩=>?_) fun _ _ z=>z
      have J5':=J5.pinned (stat J5 fr5) (T.obj _ _ st5)
      have back:∀ {ws:List V} {H':Hp} {s':Shared} {pp},Inv (X.compM xs js scope cl G.objs.size { s1 with heap:=G } (upd H1 D (.lst [])) fp) pp (ws.map some++k8 σ js) H' s'→Inv (X.compM xs js scope cl G.objs.size { s1 with heap:=G } (upd H1 D (.lst [])) fp) pp (List.replicate xs.length none++k8 σ js) H' s' :=
        fun {ws H' s' pp} JJ=>by
          have hl:(ws.map some++k8 σ js).length=(List.replicate xs.length none++k8 σ js).length:=by rw [JJ.len,← J3.len]
          have hw:ws.length=xs.length:=by simpa using hl
          refine JJ.weak hl.symm fun k v e=>?_
          by_cases hk:k < xs.length
          · rw [List.getElem?_append_left (by simpa using hk),List.getElem?_replicate,if_pos hk] at e; cases e
          · rw [List.getElem?_append_right (by simp; omega)] at e ⊢
            simpa [hw] using e
      have seen:∀ {H':Hp} {s':Shared} {σ':St},Inv (X.compM xs js scope cl G.objs.size { s1 with heap:=G } (upd H1 D (.lst [])) fp) ([]++r0n fp s5.heap) σ' H' s'→tn (i + 1) s'.heap∧∀ b∈fp,H' b=none:=fun {H' s' σ'} JJ=>by
        refine ⟨T.keep _ _ _ st5 fun b hb o e=>(JJ.pin (b,o) (List.mem_append_right _ (List.mem_append_right _ (y0z hb e)))).1,fun b hb=>?_⟩
        obtain ⟨o,e,d⟩:=T.obj _ _ st5 b hb
        exact (JJ.pin (b,o) (List.mem_append_right _ (List.mem_append_right _ (y0z hb e)))).2.1
      have st5':=step v H5 y5
      refine wpAny_mono (hg G.objs.size { s1 with heap:=G } (upd H1 D (.lst [])) fp cl _ s5 _ H5 v u (fun σ' H'=>∃ ws:List V,σ'=ws.map some++k8 σ js∧H'=H5∧tc (ws.map some++k8 σ js) H5 fun ok H4 =>
          if ok=true then te (ws.map some++k8 σ js) H4 fun y H5=>H5 D=some (.lst ys)∧ys.length < sizeLine∧∃ m',m' < n∧P (i + 1) m' (ys++[y]) (upd H5 D (.lst (ys++[y]))) else ∃ m',m' < n∧P (i + 1) m' ys H4) J5' r5 (gm.go _ _ _ _ ?_)) (fun _ s6 ⟨σ6,H6,J6,ws,e1,e2,h6⟩=>?_) fun _ _ z=>z
      · unfold tgV at st5' ⊢
        cases tup
        · exact ⟨_,rfl,rfl,st5'⟩
        · obtain ⟨a,ws,z1,z2,z3,z4⟩:=st5'
          exact ⟨a,ws,z1,z2,z3,ws,rfl,rfl,z4⟩
      subst e1 e2
      refine wpAny_mono (ht G.objs.size { s1 with heap:=G } (upd H1 D (.lst [])) fp cl _ s6 _ _ _ J6 h6) (fun ok s7 ⟨H7,J7,q7⟩=>?_) fun _ _ z=>z
      cases ok with
      | false =>
        rw [if_neg Bool.false_ne_true] at q7 ⊢
        obtain ⟨m',hm',p7⟩:=q7
        obtain ⟨w1,w2⟩:=seen J7
        exact ⟨m',hm',i + 1,ys,H7,back J7.unpinned,w1,w2,p7⟩
      | true =>
        rw [if_pos rfl] at q7 ⊢
        refine wpAny_mono (he G.objs.size { s1 with heap:=G } (upd H1 D (.lst [])) fp cl _ s7 _ H7 _ J7 q7) (fun y s8 ⟨yv,H8,J8,ry,hD8,hz8,m',hm',p8⟩=>?_) fun _ _ z=>z
        obtain ⟨z,its,nn,r,hl,e⟩:=J8.lstM hD8
        refine call_meets F.slot_list_append ⟨_,e,rfl⟩ F.entry_list_append (F.args_list_append_2 _ _) (PySem.list_append D its.toArray nn y (by rw [List.size_toArray]; omega)) ⟨e,?_⟩
        have J9:=J8.lset (its':=its++[y]) (t':=s8.toks) hD8 e (f:=fun xs=>xs.push y) (by simp) (r.append (.cons ry .nil)) (by rw [List.length_append,List.length_singleton]; omega)
        obtain ⟨w1,w2⟩:=seen J9
        exact ⟨m',hm',i + 1,ys++[yv],_,back J9.unpinned,w1,w2,p8⟩
  exact codeAny_compStart_list (loop _ rfl) (T.self X.A 0 _ _ _ (T.keep _ _ _ st fun b hb o e=>hold b o e) (loop _ rfl))
theorem e0t {xs:List Str} {target elt iter:Expr} {ifs:List Expr} {js:List Nat} {scope:Scope} {pos:Pos} {tup:Bool} {g:TG} {tc:TT} {te:TE} {wi:TI} (hc:X.calm=true) (S:CompOkM X xs js scope) (hi:PI X target iter wi)
    (hg:∀ C s₀ H₀ fp cl,PG (X.compM xs js scope cl C s₀ H₀ fp) target g) (gm:TgM X.K tup xs.length g) (ht:∀ C s₀ H₀ fp cl,PIfs (X.compM xs js scope cl C s₀ H₀ fp) ifs tc)
    (he:∀ C s₀ H₀ fp cl,PE (X.compM xs js scope cl C s₀ H₀ fp) elt te) (hs:∀ v,foldedSetIterable iter X.env v=pure v:=by intro _; rfl) :
    PE X (.ListComp elt [⟨target,iter,ifs,0⟩] scope pos) (i0a X.K wi tup xs.length js tc te):=by
  intro pins s σ H Q I h
  obtain ⟨cl,c0,c1,c2⟩:=t0k (scope:=scope) (env:=X.env) fun p hp hk=>I.ok.has p.1 (S.free p hp hk)
  rw [eval_ListComp]
  refine wpAny_comprehension_free (use:=none) rfl hs c0 S.kind S.loc (thn (hi pins s σ H _ I h) fun xv s₁ h₁=>thn h₁ fun itv s₂ h₂=>?_)
  obtain ⟨it,fp,tn,J,H',rfl,I2,T,st,hf,q⟩:=h₂
  refine v0a (RR:=fun acc C=>compPost (model X.prog X.w) X.A X.xe none (EP X pins σ Q) acc C) hc S hg gm ht he c1 c2 I2 T st hf q ?_
  rintro D C H' s' I' L ⟨m,hm⟩ qq
  refine ⟨m,hm,fun h' hs'=>⟨.ref D,H',?_,rfl,qq⟩⟩
  exact I'.turned (t':=s'.toks) (it:=C) (fun b o hb e=>hs'.extBut b o hb e) L.free L.ne (.inr L.yng) L.cell L.pin
theorem e0s {i:Nat} {y:Str} {py:Pos} {xs:List Str} {target elt iter:Expr} {ifs:List Expr} {js:List Nat} {scope:Scope} {pos spos:Pos} {tup:Bool} {g:TG} {tc:TT} {te:TE} {wi:TI} (hc:X.calm=true) (S:CompOkM X xs js scope) (hi:PI X target iter wi)
    (hg:∀ C s₀ H₀ fp cl,PG (X.compM xs js scope cl C s₀ H₀ fp) target g) (gm:TgM X.K tup xs.length g) (ht:∀ C s₀ H₀ fp cl,PIfs (X.compM xs js scope cl C s₀ H₀ fp) ifs tc)
    (he:∀ C s₀ H₀ fp cl,PE (X.compM xs js scope cl C s₀ H₀ fp) elt te) (hN:X.N.Nodup) (hy:X.N[i]?=some y) (hl:Loc X.env.scope y)
    (hsw:swapsWith (.ListComp elt [⟨target,iter,ifs,0⟩] scope pos) (some (.Name y py)) spos.line X.env=pure true)
    (hs:∀ v,foldedSetIterable iter X.env v=pure v:=by intro _; rfl) (hfn:X.fn y=true∨X.env.scope.names.lookup y=some .local:=by first | exact .inl rfl | exact .inr rfl | assumption) :
    PS X (.Assign [.Name y py] (.ListComp elt [⟨target,iter,ifs,0⟩] scope pos) spos) (tAsg (i0a X.K wi tup xs.length js tc te) (p0c i)):=by
  intro pins s σ H D I h
  obtain ⟨cl,c0,c1,c2⟩:=t0k (scope:=scope) (env:=X.env) fun p hp hk=>I.ok.has p.1 (S.free p hp hk)
  rw [exec_Assign_Name_used _ _ _ _ hsw]
  refine wpAny_bind (wpAny_standAt (wpAny_bind ?_))
  show wpAny _ _ (do let _ ← comprehension (.ListComp elt [⟨target,iter,ifs,0⟩] scope pos) scope X.env _ (newList []) false (eval iter X.env) (some (assign (.Name y py) X.env))) _ _ s
  refine wpAny_bind (wpAny_mono (wpAny_comprehension_free (use:=some (assign (.Name y py) X.env)) (Q:=fun _ s'=>SP X pins D .next s') rfl hs c0 S.kind S.loc
    (thn (hi pins s σ H _ I h) fun xv s₁ h₁=>thn h₁ fun itv s₂ h₂=>?_)) (fun _ s' hq=>wpAny_pure (wpAny_pure hq)) fun _ _ e=>e)
  obtain ⟨it,fp,tn,J,H',rfl,I2,T,st,hf,q⟩:=h₂
  refine v0a (Q:=fun v H1=>p0c i v σ H1 D.nx) (RR:=fun acc C=>compPost (model X.prog X.w) X.A X.xe (some (assign (.Name y py) X.env)) (fun _ s'=>SP X pins D .next s') acc C) hc S hg gm ht he c1 c2 I2 T st hf q ?_
  rintro E C H' s' I' L ⟨m,hm⟩ qq
  show wpAny _ _ (assign (.Name y py) X.env (.ref E)) _ _ _
  refine wpAny_assign_Name (r0o (v:=.ref E) I' hN hy hl rfl (fun s2 I2 ⟨a,sb,ha⟩=>?_) hfn)
  have nca:C≠a:=by
    rcases ha with z | z
    · rw [z]; exact L.ne
    · exact (L.cell y a z).symm
  refine ⟨m,hm.sameBut sb nca,fun h' hs'=>⟨_,H',?_,qq⟩⟩
  exact I2.turned (t':=s2.toks) (it:=C) (fun b o hb e=>hs'.extBut b o hb e) L.free L.ne (.inr L.yng) L.cell L.pin
end
section
variable {X:Cx} {elts:List Expr} {x1:Nat} {tpos:Pos}
noncomputable def iEnu (K:PySem.W.Frag) (ta:TA):TI:=fun σ H R=>ta σ H fun vs H1=>∃ a b,vs=[.ref a]∧(∃ xs,Sq K b H1 a xs)∧R (Ite K b a) H1
theorem z1s {a:Expr} {ta:TA} {p pos:Pos} (hg:Gl X "enumerate") (hm:X.mg "enumerate" = none) (ha:PA X [a] ta) (hs:starEach [a] X.env=[(false,eval a X.env)]:=by rfl) :
    PI X (.Tuple elts x1 tpos) (.Call (.Name "enumerate" p) [a] [] pos) (iEnu X.K ta):=by
  intro pins s σ H R I h
  refine Call_ (o8 I hg hm w0f (PyProof.Rows.callWith_type1 (thn (ha pos pins s σ H _ I h) fun us s1 ⟨vs,H1,I1,r1,q1⟩=>?_) hs rfl))
  obtain ⟨a1,b1,e,⟨xs,k1⟩,q⟩:=q1
  subst e
  cases r1 with
  | cons r rr =>
    cases rr
    cases r
    obtain ⟨its1,v1,p1,z1⟩:=I1.sq k1
    have l1:a1 < s1.heap.objs.size:=by obtain ⟨o,e,_⟩:=p1.obj; exact Heap.lt_size e
    refine z1t p1 fun h' he i1 kk=>wpAny_pyIter_enum (s:={ s1 with heap:=h' }) he ?_
    refine ⟨_,[s1.heap.objs.size + 1,s1.heap.objs.size],_,_,H1,rfl,I1.kept (t':=s1.toks) kk,i0d b1 a1 _ _ (Nat.succ_ne_self _) ⟨Nat.ne_of_lt (Nat.lt_succ_of_lt l1),Nat.ne_of_lt l1⟩,⟨⟨_,he⟩,i1⟩,fun c hc=>?_,q⟩
    have hle:s1.heap.objs.size≤c:=by
      have hc':c=s1.heap.objs.size + 1∨c=s1.heap.objs.size:=by simpa using hc
      rcases hc' with e | e <;> (rw [e]; omega)
    exact I1.fpOk hle (I1.hok.fresh hle)
end
end L2
namespace L2
open PySem PySem.Spec PyProof.Rows
theorem y0l:∀ {xs:List V} {us:List Value},xs.length=us.length→(∀ (i:Nat) x u,xs[i]?=some x→us[i]?=some u→RelV x u)→Vals xs us
  | [],[],_,_=>.nil
  | x :: xs,u :: us,hl,h=>.cons (h 0 x u rfl rfl) (y0l (by simpa using hl) fun i x' u' e1 e2=>h (i + 1) x' u' e1 e2)
  | [],_ :: _,hl,_=>by simp at hl
  | _ :: _,[],hl,_=>by simp at hl
section
variable {X:Cx}
theorem l0y (b:Bool) {prog:Program} {w:World} {A:Around} (hh:A.handled=none) (j a:Addr) (ne:a≠j) (xs:Array Value) :
    Walks prog w A j [j,a] [j] xs.size (fun i v=>xs[i]?=some v) (fun i h=>ItAt b h j a i∧SqAt b h a xs):=by
  cases b
  · exact Walks.list hh j a ne xs
  · exact Walks.tuple hh j a ne xs
noncomputable def rCatA (K:PySem.W.Frag):R2:=fun x y H Q=>∃ a b xs ys,x=.ref a∧y=.ref b∧SqT K H a xs∧SqT K H b ys∧xs.length + ys.length≤sizeLine ∧
  (xs=[]→Q (.ref b) H)∧(xs≠[]→ys=[]→Q (.ref a) H)∧(xs≠[]→ys≠[]→∀ p,H p=none→Q (.ref p) (upd H p (.tup (xs++ys))))
theorem z1r:OpR X (binaryOp .Add) (rCatA X.K):=by
  intro pins s σ H x y v u Q I rx ry h
  obtain ⟨a,b,xs,ys,rfl,rfl,ha,hb,hz,q0,q1,q2⟩:=h
  by_cases hx:xs=[]
  · cases rx
    cases ry
    obtain ⟨its,r1,p1,_⟩:=I.tuple ha
    obtain ⟨its2,r2,p2,_⟩:=I.tuple hb
    have hv:its=[]:=r1.nil_iff.mpr hx
    obtain ⟨⟨cls,dd,data,sl⟩,ho,hc,n,hd⟩:=id p1
    obtain ⟨⟨cls2,dd2,data2,sl2⟩,ho2,hc2,n2,hd2⟩:=id p2
    simp only at hc hd hc2 hd2
    subst hc hd hc2 hd2
    exact concat_meets ⟨_,ho,rfl⟩ ⟨_,ho2,rfl⟩ noFill_tuple_add seq_tuple_add PySem.F.slot_tuple_add PySem.F.entry_tuple_add (PySem.F.args_tuple_add_2 _ _) (tuple_addW0 a b its.toArray its2.toArray n n2 dd dd2 sl sl2 (by simp [hv])) ⟨ho,ho2,.ref b,H,I,rfl,q0 hx⟩
  · exact b0g pins s σ H _ _ v u Q I rx ry ⟨a,b,xs,ys,rfl,rfl,ha,hb,hx,hz,q1 hx,q2 hx⟩
noncomputable def tLR (ta:TA):TE:=fun σ H Q=>ta σ H fun vs H1=>∃ n:Nat,vs=[.int n]∧n≤1000∧∀ p,H1 p=none→Q (.ref p) (upd H1 p (.lst ((List.range n).map fun (k:Nat)=>V.int (k:Int))))
theorem q0o {a:Expr} {ta:TA} {p p2 pos pos2:Pos} (hc:X.calm=true) (hg:Gl X "range") (hm:X.mg "range" = none) (hg2:Gl X "list") (hm2:X.mg "list" = none) (ha:PA X [a] ta) (hs:starEach [a] X.env=[(false,eval a X.env)]:=by rfl)
    (hs2:starEach [.Call (.Name "range" p) [a] [] pos] X.env=[(false,eval (.Call (.Name "range" p) [a] [] pos) X.env)]:=by rfl) :
    PE X (.Call (.Name "list" p2) [.Call (.Name "range" p) [a] [] pos] [] pos2) (tLR ta):=by
  intro pins s σ H Q I h
  refine wpAny_Call_Name_kw (o8 I hg2 hm2 y8 (PyProof.Rows.callWith_type1 ?_ hs2 rfl) (by decide) (by decide))
  rw [hs2]
  refine Calls.spliced_cons ?_
  refine Call_ (o8 I hg hm boot_range (PyProof.Rows.callWith_type1 (thn (ha pos pins s σ H _ I h) fun us s1 ⟨vs,H1,I1,r1,q1⟩=>?_) hs rfl))
  obtain ⟨n,e,hn,q⟩:=q1
  subst e
  cases r1 with
  | cons r rr =>
    cases rr
    obtain ⟨t,rfl⟩:=r
    refine call_range_1 (Calls.spliced_nil ?_)
    have I2:Inv X pins σ H1 { s1 with heap:=s1.heap.push { cls:=.type "range",data:=.fields #[.int 0 s1.toks,.int (n:Int) t,.int 1 (s1.toks + 1)] },toks:=s1.toks + 1 + 1 }:=I1.kept fun b o e=>Heap.get?_push_of_some _ e
    refine call_list_range (n:=n) (I.ok.hd hc) (IsRange.new ..) (small_one (by omega) (by omega) (by omega) (by omega)) (by rw [rangeSize_one]; split <;> omega) (by omega) fun h' tk acc c' hk hS hacc=>?_
    have hrel:Vals ((List.range n).map fun (k:Nat)=>V.int (k:Int)) acc.toList:=y0l (by simp [hacc.1]) fun i x v e1 e2=>by
      rw [List.getElem?_map,Option.map_eq_some_iff] at e1
      obtain ⟨k,ek,rfl⟩:=e1
      obtain ⟨hk1,hk2⟩:=List.getElem?_eq_some_iff.mp ek
      rw [List.getElem_range] at hk2
      subst hk2
      obtain ⟨t2,rfl⟩:=hacc.2 _ v (by simpa using e2)
      exact ⟨t2,by simp⟩
    refine ⟨.ref (s1.heap.push { cls:=.type "range",data:=.fields #[.int 0 s1.toks,.int (n:Int) t,.int 1 (s1.toks + 1)] }).objs.size,_,I2.laid (t':=tk) (h':=h') (o:=.lst ((List.range n).map fun (k:Nat)=>V.int (k:Int))) hk (Nat.le_refl _) ⟨by simp only [List.length_map,List.length_range]; exact Nat.le_trans hn (by decide),acc.toList,c',hrel,by simpa using hS⟩,rfl,q _ (I2.hok.fresh (Nat.le_refl _))⟩
end
end L2
namespace DL
open PySem PySem.Spec L2
open PySem.W (XC)
section
variable {X:Cx} {Y:Y2} {W:XW} {tg:Expr} {K:Frag}
noncomputable def sqb:D→Bool | .tup _=>true | _=>false
theorem h0z {F:Hp} {d:D} {xs:List D} {x:V} (h:seqD d=some xs) (r:Rep K F d x):∃ a vs b,x=.ref a∧Sq K b F a vs∧Reps K F xs vs:=by
  obtain ⟨a,vs,e,sq,z⟩:=c0u h r
  rcases sq with sq | sq
  · exact ⟨a,vs,false,e,sq,z⟩
  · exact ⟨a,vs,true,e,sq,z⟩
theorem _root_.L2.Same.sq {F F':Hp} {b:Bool} {a:Addr} {xs:List V} (s:Same F F') (h:Sq K b F a xs):Sq K b F' a xs:=by
  cases b
  · exact s.sqL h
  · exact s.sqT h
noncomputable def zipD (ds es:List D):List D:=List.zipWith (fun d e=>D.tup [d,e]) ds es
noncomputable def u0z (k:Nat) (ds:List D):List D:=match ds with | []=>[] | d :: r=>.tup [.int (k:Int),d] :: u0z (k + 1) r
theorem z0j:∀ (ds:List D) (k:Nat),(u0z k ds).length=ds.length
  | [],k=>rfl
  | d :: r,k=>by unfold u0z; rw [List.length_cons,List.length_cons,z0j r]
theorem z0i:∀ {ds:List D} {k i:Nat} {c:D},(u0z k ds)[i]?=some c→∃ d,ds[i]?=some d∧c=.tup [.int ((k + i:Nat):Int),d]
  | [],k,i,c,h=>by unfold u0z at h; simp at h
  | d :: r,k,0,c,h=>by unfold u0z at h; simp at h; exact ⟨d,rfl,h.symm⟩
  | d :: r,k,i + 1,c,h=>by
    unfold u0z at h
    rw [List.getElem?_cons_succ] at h
    obtain ⟨e,h1,h2⟩:=z0i h
    exact ⟨e,by simpa using h1,by rw [h2,show k + 1 + i=k + (i + 1) by omega]⟩
theorem e0r {F:Hp} {b:Bool} {a:Addr} {xs:List V} {ds:List D} (h:Sq K b F a xs) (r:Reps K F ds xs):SrcOk K (Ite K b a) F (u0z 0 ds):=by
  refine ⟨fun i c F' H e s1 s2=>?_,fun F' H s1 s2=>?_⟩
  · obtain ⟨d,e1,rfl⟩:=z0i e
    obtain ⟨v,ev,rv⟩:=r.get e1
    have q1:=(s1.trans s2).sq h
    refine ⟨⟨xs,v,q1,ev⟩,fun u H' y=>?_⟩
    obtain ⟨p,x,hp,rfl,rfl,k1⟩:=y
    have e3:=k1 xs q1
    rw [ev] at e3
    cases e3
    rw [Nat.zero_add]
    exact .inr ⟨p,_,_,hp,rfl,rfl,rfl,Reps.cons (rep_int.mpr rfl) (Reps.cons (rv.mono s1) Reps.nil)⟩
  · rw [z0j]
    exact ⟨xs,(s1.trans s2).sq h,r.length⟩
variable {a b:Expr} {ta:TA2} {p pos tpos:Pos} {elts:List Expr} {x1:Nat}
noncomputable def t2Zip (ta:TA2):TI2:=fun x ρ δ q=>ta x ρ δ fun ds ρ1 δ1=>match ds with | [d,e]=>(match seqD d,seqD e with | some xs,some ys=>q (zipD xs ys) ρ1 δ1 | _,_=>False) | _=>False
noncomputable def z1q (ta:TA2):TI2:=fun x ρ δ q=>ta x ρ δ fun ds ρ1 δ1=>match ds with | [d]=>(match seqD d with | some xs=>q (u0z 0 xs) ρ1 δ1 | none=>False) | _=>False
theorem z1p (hm:X.mg "enumerate" = none) (ha:PA2 X Y W [a] ta) (hg:Gl X "enumerate" := by rfl) (hs:starEach [a] X.env=[(false,eval a X.env)]:=by rfl) :
    PI2 X Y W (.Tuple elts x1 tpos) (.Call (.Name "enumerate" p) [a] [] pos) (z1q ta):=pi2 (z1s hg hm ha.go hs) fun σ H R ⟨F,ρ,δ,x,q,I,h,k,kx⟩=>by
  refine ⟨F,ρ,δ,x,_,I,h,fun ds vs F' H' ρ' δ' I' s' r' h'=>?_,kx⟩
  split at h'
  · split at h'
    · rename_i xs e1
      obtain ⟨v,rfl,r1⟩:=z0m r'
      obtain ⟨a1,vs1,b1,rfl,q1,z1⟩:=h0z e1 r1
      exact ⟨a1,b1,rfl,⟨_,I'.sub.sq q1⟩,k _ _ F' H' ρ' δ' I' s' (e0r q1 z1) h'⟩
    · exact h'.elim
  · exact h'.elim
end
noncomputable def tgD (tup:Bool) (n:Nat) (d:D):Option (List D):=match tup,d with
  | false,d=>some [d]
  | true,.tup ds=>if ds.length=n then some ds else none
  | true,_=>none
noncomputable def compM (tup:Bool) (n:Nat) (tc:TT2) (te:TE2) (js:List Nat) (ρ:En) (q:List D→Dk→Prop):List D→List D→Dk→Prop
  | [],acc,δ=>q acc δ
  | d :: ds,acc,δ=>match tgD tup n d with
    | some es=>tc (fun _ _ _ _=>False) (es.map .val++capt ρ js) δ fun b ρ1 δ1=>if b=true then te (fun _ _ _ _=>False) ρ1 δ1 fun e _ δ2=>acc.length < 1000∧compM tup n tc te js ρ q ds (acc++[e]) δ2 else compM tup n tc te js ρ q ds acc δ1
    | none=>False
section
variable {K:Frag} {Y:Y2} {F H:Hp} {σ:St} {ρ:En} {δ:Dk}
theorem q0n {H₀:Hp} {sf:Option Addr} {cs:En} {ss:St} (hc:∀ (i:Nat) (c:Cell),cs[i]?=some c→CellOk K F H H₀ sf c (ss[i]?).join):∀ {es:List D} {ws:List V},Reps K F es ws→∀ (i:Nat) (c:Cell),(es.map Cell.val++cs)[i]?=some c→CellOk K F H H₀ sf c ((ws.map some++ss:St)[i]?).join
  | [],ws,r,i,c,e=>by rw [reps_nil.mp r]; exact hc i c e
  | d :: es,ws,r,0,c,e=>by
    obtain ⟨v,l,rfl,r1,r2⟩:=reps_cons.mp r
    cases e
    exact ⟨v,rfl,r1⟩
  | d :: es,ws,r,i + 1,c,e=>by
    obtain ⟨v,l,rfl,r1,r2⟩:=reps_cons.mp r
    exact q0n hc r2 i c e
theorem I2.blockM {es:List D} {ws:List V} {js:List Nat} (I:I2 K Y F H σ ρ δ) (r:Reps K F es ws):I2 K ⟨F,H,δ,none⟩ F H (ws.map some++k8 σ js) (es.map .val++capt ρ js) δ:=by
  have vals:∀ (i:Nat) c,(es.map Cell.val++capt ρ js)[i]?=some c→(∃ e,c=.val e)∨c=.no:=fun i c e=>by
    have m:=List.mem_of_getElem? e
    rcases List.mem_append.mp m with m | m
    · obtain ⟨d,_,rfl⟩:=List.mem_map.mp m; exact .inl ⟨d,rfl⟩
    · unfold capt at m
      obtain ⟨j,_,rfl⟩:=List.mem_map.mp m
      unfold q0s
      split
      · exact .inl ⟨_,rfl⟩
      · exact .inr rfl
  have no:∀ i a,¬ i5 (es.map .val++capt ρ js) (ws.map some++k8 σ js) i a:=fun i a o=>by
    rcases o.1 with ⟨es,q⟩ | ⟨C,fs,q⟩ | ⟨kvs,q⟩
    · rcases vals i _ q with ⟨d,z⟩ | z <;> cases z
    · rcases vals i _ q with ⟨d,z⟩ | z <;> cases z
    · rcases vals i _ q with ⟨d,z⟩ | z <;> cases z
  refine ⟨Ran.refl I.sub I.ran.dk,q0n (fun i c e=>?_) r,by simp [k8,capt,r.length],fun i j a _ o _=>absurd o (no i a),fun i a o=>absurd o (no i a)⟩
  unfold capt at e
  rw [List.getElem?_map,Option.map_eq_some_iff] at e
  obtain ⟨j,ej,rfl⟩:=e
  unfold k8
  rw [List.getElem?_map,ej]
  show CellOk K F H H none _ (σ[j]?).join
  cases ec:ρ[j]? with
  | none=>trivial
  | some c =>
    have w:=I.env j c ec
    cases c with
    | val e=>exact w
    | _=>trivial
end
section
variable {X:Cx} {Y:Y2} {W:XW} {px pos:Pos} {target elt iter:Expr} {ifs:List Expr} {xs:List Str} {js:List Nat} {scope:Scope} {tc:TT2} {te:TE2} {ti:TI2} {tup:Bool} {g:TG}
noncomputable def tcY (K:Frag) (tc:TT2):TT:=fun σ H Q=>∃ Y',upT K Y' W0 tc σ H Q
theorem h0y {σ:St} {ρ1:En} {δ1:Dk} {F1 H1:Hp} {J:It} {n:Nat} {ds:List D} {q:List D→Dk→Prop} {Q:Addr→Hp→Prop} (I1:I2 X.K Y F1 H1 σ ρ1 δ1) (src:SrcOk X.K J F1 ds) (h1:compM tup n tc te js ρ1 q ds [] δ1)
    (k:∀ D F' H' δ' acc vs,I2 X.K Y F' H' σ ρ1 δ'→Same F1 F'→H' D=some (.lst vs)→F' D=none→Y.H₀ D=none→Off δ' D→(∀ j a,i5 ρ1 σ j a→a≠D)→Reps X.K F' acc vs→q acc δ'→Q D H') :
    ∀ D,H1 D=none→i0b X.K J tup n (k8 σ js) D (tcY X.K tc) (teY X.K te) H1 fun H2=>Q D H2:=by
  intro D hD
  have hF:F1 D=none:=I1.sub.free hD
  have h0:=I1.ran.fresh hD
  have no:∀ j a,i5 ρ1 σ j a→a≠D:=fun j a o=>by
    obtain ⟨u,hu⟩:=I1.ownAddr o
    exact u0 hu hD
  have off:Off δ1 D:=fun b es e w=>by
    obtain ⟨_,vs,q2,_⟩:=I1.ran.dk b es e
    rw [← w,hD] at q2; cases q2
  have I0:I2 X.K Y F1 (upd H1 D (.lst [])) σ ρ1 δ1:=by
    refine ⟨⟨fun b u e=>by rw [y0 (u0 e hF)]; exact I1.sub _ _ e,fun b fs e=>?_,fun b u e f=>by rw [y0 (u0 e h0)]; exact I1.ran.keep b u e f,I1.ran.f0,I1.ran.fnew,I1.ran.dto⟩,fun j c e=>?_,I1.len,I1.apart,I1.off⟩
    · obtain ⟨q1,ws,q2,q3⟩:=I1.ran.dk b fs e
      exact ⟨q1,ws,by rw [y0 (Ne.symm (off b fs e))]; exact q2,q3⟩
    · have w:=I1.env j c e
      cases c with
      | no=>trivial
      | val d=>exact w
      | own fs =>
        obtain ⟨b,ws,e1,h1,f1,g1,r1⟩:=w
        exact ⟨b,ws,e1,by rw [y0 (u0 h1 hD)]; exact h1,f1,g1,r1⟩
      | obj C fs =>
        obtain ⟨b,dx,ws,e1,es1,h1,h2,f1,f2,g1,g2,r1⟩:=w
        exact ⟨b,dx,ws,e1,es1,by rw [y0 (u0 h1 hD)]; exact h1,by rw [y0 (u0 h2 hD)]; exact h2,f1,f2,g1,g2,r1⟩
      | ownD fs =>
        obtain ⟨b,ws,e1,h1,f1,g1,r1⟩:=w
        exact ⟨b,ws,e1,by rw [y0 (u0 h1 hD)]; exact h1,f1,g1,r1⟩
  refine ⟨fun i m ys H2=>∃ F2 δ2 acc,I2 X.K Y F2 H2 σ ρ1 δ2∧Same F1 F2∧H2 D=some (.lst ys)∧F2 D=none∧Off δ2 D∧Reps X.K F2 acc ys∧compM tup n tc te js ρ1 q (ds.drop i) acc δ2∧i≤ds.length∧m=ds.length - i,⟨ds.length,F1,δ1,[],I0,Same.refl F1,o3,hF,off,Reps.nil,by simpa using h1,Nat.zero_le _,by simp⟩,?_⟩
  rintro i m ys H2 ⟨F2,δ2,acc,I2',s2,hD2,hF2,of2,r2,h2,hi,rfl⟩
  refine ⟨hD2,?_⟩
  cases e:ds[i]? with
  | none =>
    have hl:ds.length≤i:=List.getElem?_eq_none_iff.mp e
    have ei:i=ds.length:=by omega
    subst ei
    rw [List.drop_length] at h2
    exact .inl ⟨src.stop F2 H2 s2 I2'.sub,k D F2 H2 δ2 acc ys I2' s2 hD2 hF2 h0 of2 no r2 h2⟩
  | some d =>
    have hl:i < ds.length:=(List.getElem?_eq_some_iff.mp e).1
    obtain ⟨go,yl⟩:=src.item i d F2 H2 e s2 I2'.sub
    refine .inr ⟨go,fun v H3 y=>?_⟩
    have hy:=yl v H3 y
    obtain ⟨F3,I3,s3,r3,nf3⟩:=I2'.yld hy
    have hD3:H3 D=some (.lst ys):=by
      rcases hy with ⟨rfl,_⟩ | ⟨p,vs,es,hp,rfl,_⟩
      · exact hD2
      · rw [y0 (u0 hD2 hp)]; exact hD2
    have hF3:F3 D=none:=nf3 D _ hD2 hF2
    have ed:ds.drop i=d :: ds.drop (i + 1):=by rw [List.drop_eq_getElem_cons hl]; congr 1; exact (List.getElem?_eq_some_iff.mp e).2
    rw [ed] at h2
    unfold compM at h2
    split at h2
    · rename_i es ees
      have body:∀ ws:List V,Reps X.K F3 es ws→tcY X.K tc (ws.map some++k8 σ js) H3 fun ok H4=>if ok=true then teY X.K te (ws.map some++k8 σ js) H4 fun y H5=>H5 D=some (.lst ys)∧ys.length < sizeLine∧∃ m',m' < ds.length - i ∧
          ∃ F2 δ2 acc,I2 X.K Y F2 (upd H5 D (.lst (ys++[y]))) σ ρ1 δ2∧Same F1 F2∧upd H5 D (.lst (ys++[y])) D=some (.lst (ys++[y]))∧F2 D=none∧Off δ2 D∧Reps X.K F2 acc (ys++[y])∧compM tup n tc te js ρ1 q (ds.drop (i + 1)) acc δ2∧i + 1≤ds.length∧m'=ds.length - (i + 1)
          else ∃ m',m' < ds.length - i∧∃ F2 δ2 acc,I2 X.K Y F2 H4 σ ρ1 δ2∧Same F1 F2∧H4 D=some (.lst ys)∧F2 D=none∧Off δ2 D∧Reps X.K F2 acc ys∧compM tup n tc te js ρ1 q (ds.drop (i + 1)) acc δ2∧i + 1≤ds.length∧m'=ds.length - (i + 1):=by
        intro ws rw'
        have kept:∀ {F4 H4 δ4},Ran X.K F3 H3 δ2 F4 H4 δ4→H4 D=some (.lst ys)∧F4 D=none∧Off δ4 D:=fun {F4 H4 δ4} R=>by
          refine ⟨R.keep D _ hD3 of2,?_,fun b es e w=>?_⟩
          · cases z:F4 D with
            | none=>rfl
            | some u =>
              rcases R.fnew D u z with w | w
              · rw [hF3] at w; cases w
              · rw [hD3] at w; cases w
          · cases hd:δ2 with
            | none=>have:=R.dto.2 b es e hd; rw [← w,hD3] at this; cases this
            | some p =>
              obtain ⟨c,gs⟩:=p
              obtain ⟨es',z⟩:=R.dto.1 c gs hd
              rw [e] at z
              cases z
              exact of2 b gs hd w
        refine ⟨⟨F3,H3,δ2,none⟩,F3,_,δ2,_,_,I3.blockM rw',h2,fun bb F4 H4 ρ4 δ4 I4 s4 h4=>?_,fun _ _ _ _ _ _ _ _ _ _ _ z=>z⟩
        obtain ⟨hD4,hF4,of4⟩:=kept I4.ran
        cases bb with
        | false =>
          rw [if_neg Bool.false_ne_true] at h4 ⊢
          exact ⟨ds.length - (i + 1),by omega,F4,δ4,acc,I3.call I4.ran,(s2.trans s3).trans s4,hD4,hF4,of4,r2.mono (s3.trans s4),h4,hl,rfl⟩
        | true =>
          rw [if_pos rfl] at h4 ⊢
          refine ⟨⟨F3,H3,δ2,none⟩,F4,ρ4,δ4,_,_,I4,h4,fun d5 v5 F5 H5 ρ5 δ5 I5 s5 r5 h5=>?_,fun _ _ _ _ _ _ _ _ _ _ _ z=>z⟩
          obtain ⟨hD5,hF5,of5⟩:=kept I5.ran
          have hlen:acc.length < 1000:=h5.1
          have s35:Same F3 F5:=s4.trans s5
          exact ⟨hD5,by rw [r2.length]; exact Nat.lt_of_lt_of_le hlen (by decide),ds.length - (i + 1),by omega,F5,δ5,acc++[d5],(I3.call I5.ran).side hF5 h0 of5 ⟨_,hD5⟩ no,(s2.trans s3).trans s35,o3,hF5,of5,(r2.mono (s3.trans s35)).append (Reps.cons r5 Reps.nil),h5.2,hl,rfl⟩
      unfold tgD at ees
      split at ees
      · cases ees
        exact body [v] (Reps.cons r3 Reps.nil)
      · rename_i _ es0
        split at ees
        · rename_i hn
          cases ees
          obtain ⟨a,vs,rfl,ea,z⟩:=rep_tup.mp r3
          exact ⟨a,vs,rfl,SqT.of (I3.sub _ _ ea),by rw [z.length]; exact hn,body vs z⟩
        · cases ees
      · cases ees
    · exact h2.elim
structure PIf2 (X:Cx) (Y:Y2) (W:XW) (ifs:List Expr) (t:TT2):Prop where
  go:PIfs X ifs (upT X.K Y W t)
noncomputable def q0m:TT2:=fun _ ρ δ q=>q true ρ δ
theorem o0q:PIf2 X Y W [] q0m:=⟨fun pins s σ H Q I ⟨F,ρ,δ,x,q,I2',h,k,kx⟩=>e0v pins s σ H Q I (k true F H ρ δ I2' (Same.refl F) h)⟩
theorem z1o {c:Expr} (h:PT2 X Y W c tc):PIf2 X Y W [c] tc:=⟨e0u h.go⟩
variable {i:Nat} {y:Str} {py spos:Pos}
noncomputable def u0y (ti:TI2) (tup:Bool) (n:Nat) (js:List Nat) (tc:TT2) (te:TE2):TE2:=fun x ρ δ q=>ti x ρ δ fun ds ρ1 δ1=>compM tup n tc te js ρ1 (fun acc δ2=>q (.lst acc) ρ1 δ2) ds [] δ1
theorem l0x {n:Nat} {σ:St} {H:Hp} {Q:VK} (h:upE X.K Y W (u0y ti tup n js tc te) σ H Q):i0a X.K (upI2 X.K Y W ti) tup n js (tcY X.K tc) (teY X.K te) σ H Q:=by
  obtain ⟨F,ρ,δ,x,q,I,h,k,kx⟩:=h
  refine ⟨F,ρ,δ,x,_,I,h,fun ds J F1 H1 ρ1 δ1 I1 s1 src h1=>h0y (Q:=fun D H2=>Q (.ref D) H2) I1 src h1 fun D F' H' δ' acc vs I' s' hD hF h0 of no r hq=>?_,kx⟩
  exact k _ _ _ _ ρ1 δ' (I'.ice hF h0 of hD no) ((s1.trans s').trans (Same.new hF)) (rep_lst.mpr ⟨D,vs,rfl,o3,r.mono (Same.new hF)⟩) hq
variable (hc:X.calm=true) (S:CompOkM X xs js scope) (hi:PI2 X Y W target iter ti) (hg:(xs++js.map (fun j=>X.N.getD j "")).Nodup→∀ C s₀ H₀ fp cl,PG (X.compM xs js scope cl C s₀ H₀ fp) target g) (gm:TgM X.K tup xs.length g)
  (ht:∀ C s₀ H₀ fp cl Y',PIf2 (X.compM xs js scope cl C s₀ H₀ fp) Y' W0 ifs tc) (he:∀ C s₀ H₀ fp cl Y',PE2 (X.compM xs js scope cl C s₀ H₀ fp) Y' W0 elt te)
include hc S hi hg gm ht he
theorem s0e (hs:∀ v,foldedSetIterable iter X.env v=pure v:=by intro _; rfl):PE2 X Y W (.ListComp elt [⟨target,iter,ifs,0⟩] scope pos) (u0y ti tup xs.length js tc te) :=
  pe2 (e0t (tc:=tcY X.K tc) (te:=teY X.K te) hc S hi.go (hg S.nd) gm (fun C s₀ H₀ fp cl pins s σ H Q I ⟨Y',h⟩=>(ht C s₀ H₀ fp cl Y').go pins s σ H Q I h) (fun C s₀ H₀ fp cl pins s σ H Q I ⟨Y',h⟩=>(he C s₀ H₀ fp cl Y').go pins s σ H Q I h) hs) fun σ H Q h=>l0x h
theorem e0q (hN:X.N.Nodup) (hy:X.N[i]?=some y:=by rfl) (hl:Loc X.env.scope y:=by walk_at "v2")
    (hsw:swapsWith (.ListComp elt [⟨target,iter,ifs,0⟩] scope pos) (some (.Name y py)) spos.line X.env=pure true:=by rfl) (hs:∀ v,foldedSetIterable iter X.env v=pure v:=by intro _; rfl) (hfn:X.fn y=true∨X.env.scope.names.lookup y=some .local:=by walk_at "v1") :
    PS2 X Y W (.Assign [.Name y py] (.ListComp elt [⟨target,iter,ifs,0⟩] scope pos) spos) (f0d i (u0y ti tup xs.length js tc te)) :=
  ps2 (e0s (i:=i) (tc:=tcY X.K tc) (te:=teY X.K te) hc S hi.go (hg S.nd) gm (fun C s₀ H₀ fp cl pins s σ H Q I ⟨Y',h⟩=>(ht C s₀ H₀ fp cl Y').go pins s σ H Q I h) (fun C s₀ H₀ fp cl pins s σ H Q I ⟨Y',h⟩=>(he C s₀ H₀ fp cl Y').go pins s σ H Q I h) hN hy hl hsw hs hfn) fun E1 σ H ⟨F,ρ,δ,E2,I,h,er⟩ =>
    l0x ⟨F,ρ,δ,E2.xc,_,I,h,fun d v F' H' ρ' δ' I' s' r' h'=>er.nx _ F' H' _ δ' (I'.put r') s' h',er.xc⟩
omit hc S hi hg gm ht he in
end
end DL
namespace DL
open PySem PySem.Spec L2
open PySem.W (XC)
mutual
noncomputable def lfD:D→Bool
  | .lst _=>false | .scr _=>false | .dic _=>false | .dwk _=>false
  | .tup xs=>lfDs xs
  | .ins _ fs=>lfFs fs | .exc _ fs=>lfFs fs
  | _=>true
noncomputable def lfDs:List D→Bool
  | []=>true
  | d :: ds=>lfD d && lfDs ds
noncomputable def lfFs:List (Str×D)→Bool
  | []=>true
  | (_,d) :: ds=>lfD d && lfFs ds
end
mutual
theorem Rep.lf {K:Frag} {F F':Hp} (s:∀ b o,F b=some o→(∀ vs,o≠.lst vs)→F' b=some o):∀ {d:D} {v:V},lfD d=true→Rep K F d v→Rep K F' d v
  | .non,v,_,h=>by unfold Rep at h ⊢; exact h
  | .bl b,v,_,h=>by unfold Rep at h ⊢; exact h
  | .int i,v,_,h=>by unfold Rep at h ⊢; exact h
  | .str x,v,_,h=>by unfold Rep at h ⊢; exact h
  | .lst ds,v,l,h=>by unfold lfD at l; cases l
  | .tup ds,v,l,h=>by unfold Rep at h ⊢; unfold lfD at l; obtain ⟨a,vs,e,q,r⟩:=h; exact ⟨a,vs,e,s _ _ q (fun vs z=>by cases z),Reps.lf s l r⟩
  | .scr ds,v,l,h=>by unfold lfD at l; cases l
  | .dic ds,v,l,h=>by unfold lfD at l; cases l
  | .dwk ds,v,l,h=>by unfold lfD at l; cases l
  | .ins C fs,v,l,h=>by unfold Rep at h ⊢; unfold lfD at l; obtain ⟨a,dx,vs,e,q,q2,r⟩:=h; exact ⟨a,dx,vs,e,s _ _ q (fun vs z=>by cases z),s _ _ q2 (fun vs z=>by cases z),RepF.lf s l r⟩
  | .exc C fs,v,l,h=>by
    unfold Rep at h ⊢
    unfold lfD at l
    obtain ⟨a,fr,e,h⟩:=h
    refine ⟨a,fr,e,?_⟩
    rcases h with ⟨e1,q⟩ | ⟨d,us,q,q2,r⟩
    · exact .inl ⟨e1,s _ _ q (fun vs z=>by cases z)⟩
    · exact .inr ⟨d,us,s _ _ q (fun vs z=>by cases z),s _ _ q2 (fun vs z=>by cases z),RepF.lf s l r⟩
  | .ref a,v,_,h=>by unfold Rep at h ⊢; exact h
  | .ty n,v,_,h=>by unfold Rep at h ⊢; exact h
theorem Reps.lf {K:Frag} {F F':Hp} (s:∀ b o,F b=some o→(∀ vs,o≠.lst vs)→F' b=some o):∀ {ds:List D} {vs:List V},lfDs ds=true→Reps K F ds vs→Reps K F' ds vs
  | [],vs,_,h=>by unfold Reps at h ⊢; exact h
  | d :: ds,vs,l,h=>by
    unfold Reps at h ⊢
    unfold lfDs at l
    rw [Bool.and_eq_true] at l
    obtain ⟨v,r,e,q,z⟩:=h
    exact ⟨v,r,e,Rep.lf s l.1 q,Reps.lf s l.2 z⟩
theorem RepF.lf {K:Frag} {F F':Hp} (s:∀ b o,F b=some o→(∀ vs,o≠.lst vs)→F' b=some o):∀ {ds:List (Str×D)} {vs:List (Str×V)},lfFs ds=true→RepF K F ds vs→RepF K F' ds vs
  | [],vs,_,h=>by unfold RepF at h ⊢; exact h
  | (x,d) :: ds,vs,l,h=>by
    unfold RepF at h ⊢
    unfold lfFs at l
    rw [Bool.and_eq_true] at l
    obtain ⟨v,r,e,q,z⟩:=h
    exact ⟨v,r,e,Rep.lf s l.1 q,RepF.lf s l.2 z⟩
end
inductive BA where | v (d:D) | o (i:Nat)
noncomputable def RepB (K:Frag) (F:Hp) (σ:St):BA→V→Prop
  | .v d,v=>Rep K F d v
  | .o i,v=>σ[i]?=some (some v)
inductive RepsB (K:Frag) (F:Hp) (σ:St):List BA→List V→Prop
  | nil:RepsB K F σ [] []
  | cons {b v bs vs}:RepB K F σ b v→RepsB K F σ bs vs→RepsB K F σ (b :: bs) (v :: vs)
noncomputable abbrev TB2:=XK2→En→Dk→(List BA→En→Dk→Prop)→Prop
noncomputable def upB (K:Frag) (Y:Y2) (W:XW) (t:TB2):TA:=fun σ H Q=>∃ F ρ δ x q,I2 K Y F H σ ρ δ∧t x ρ δ q∧(∀ bs vs F' H' ρ' δ',I2 K Y F' H' σ ρ' δ'→Same F F'→RepsB K F' σ bs vs→q bs ρ' δ'→Q vs H')∧XR K Y W F x
structure PB2 (X:Cx) (Y:Y2) (W:XW) (es:List Expr) (t:TB2):Prop where
  go:PA X es (upB X.K Y W t)
section
variable {X:Cx} {Y:Y2} {W:XW} {e:Expr} {es:List Expr} {te:TE2} {t:TB2} {x:Str} {p pos:Pos}
noncomputable def c0r (ρ:En) (σ:St) (b:Addr):Prop:=∃ (i:Nat) (ds:List D),ρ[i]?=some (Cell.own ds)∧σ[i]?=some (some (V.ref b))
open Classical in
noncomputable def lend (ρ:En) (σ:St) (F H:Hp):Hp:=fun b=>if c0r ρ σ b then H b else F b
open Classical in
noncomputable def back (ρ:En) (σ:St) (F:Hp):Hp:=fun b=>if c0r ρ σ b then none else F b
section
variable {K:Frag} {F H F' H':Hp} {σ:St} {ρ:En} {δ δ':Dk}
end
variable {k:Nat} {ps:List Str} {sp:Sp2}
end
end DL
namespace DL
open PySem PySem.Spec L2
open PySem.W (XC)
section
variable {X:Cx} {K:Frag}
noncomputable def u0x:List D→Option (List Int)
  | []=>some []
  | .int i :: r=>(u0x r).map (i :: ·)
  | _=>none
theorem h0x {F:Hp}:∀ {ds:List D} {ns:List Int} {vs:List V},u0x ds=some ns→Reps K F ds vs→vs=ns.map V.int
  | [],ns,vs,h,r=>by cases h; rw [reps_nil.mp r]; rfl
  | d :: ds,ns,vs,h,r=>by
    obtain ⟨v,l,rfl,r1,r2⟩:=reps_cons.mp r
    cases d with
    | int b =>
      unfold u0x at h
      obtain ⟨cs,e1,rfl⟩:=Option.map_eq_some_iff.mp h
      rw [rep_int.mp r1,h0x e1 r2]; rfl
    | _=>cases h
theorem v0q:∀ ns:List Int,u0x (ns.map D.int)=some ns
  | []=>rfl
  | n :: ns=>by rw [List.map_cons]; unfold u0x; rw [v0q ns]; rfl
noncomputable def fewD (ns:List Int):Prop:=ns.length≤1000∧∀ n∈ns,-(2 ^ 40)≤n∧n≤2 ^ 40
noncomputable def sumF:F1:=fun ds q=>match ds with | [d]=>(match seqD d with | some xs=>(match u0x xs with | some ns=>fewD ns∧q (.int ns.sum) | none=>False) | none=>False) | _=>False
noncomputable def rAddE (K:Frag):R2:=fun x y H Q=>a0l K x y H Q∨rCatA K x y H Q
noncomputable def addG:F2:=fun d1 d2 q=>match d1,d2 with
  | .int i,.int j=>q (.int (i + j))
  | .lst xs,.lst ys=>xs.length + ys.length≤1000∧q (.lst (xs++ys))
  | .tup xs,.tup ys=>xs.length + ys.length≤1000∧q (.tup (xs++ys))
  | _,_=>False
theorem x4:OpR X (binaryOp .Add) (rAddE X.K):=m0h a0k z1r
theorem j4:OpD K (rAddE K) addG:=by
  intro Y F H σ ρ δ x y d1 d2 Q1 q I r1 r2 h' k
  unfold addG at h'
  split at h'
  · exact .inl (d_add Y F H σ ρ δ x y _ _ Q1 q I r1 r2 h' k)
  · exact .inl (d_add Y F H σ ρ δ x y _ _ Q1 q I r1 r2 h' k)
  · rename_i xs ys
    have r1':=r1
    have r2':=r2
    obtain ⟨a,vs,rfl,e1,z1⟩:=rep_tup.mp r1
    obtain ⟨b,us,rfl,e2,z2⟩:=rep_tup.mp r2
    refine .inr ⟨a,b,vs,us,rfl,rfl,SqT.of (I.sub _ _ e1),SqT.of (I.sub _ _ e2),l0e (by rw [z1.length,z2.length]; exact h'.1),fun hv=>?_,fun hv hu=>?_,fun _ _ p hp=>k _ _ _ _ (I.alloc hp) (I.grow hp) (I.tup hp (z1.append z2)) h'.2⟩
    · have:xs=[]:=List.eq_nil_of_length_eq_zero (by rw [← z1.length,hv]; rfl)
      subst this
      exact k _ _ F H I (Same.refl F) r2' h'.2
    · have:ys=[]:=List.eq_nil_of_length_eq_zero (by rw [← z2.length,hu]; rfl)
      subst this
      exact k _ _ F H I (Same.refl F) (by rw [List.append_nil]; exact r1') h'.2
  · exact h'.elim
theorem e0p {F:Hp} (n:Nat):Reps K F (rngD 0 n) ((List.range n).map fun (k:Nat)=>V.int (k:Int)):=by
  unfold rngD
  generalize List.range n=l
  induction l with
  | nil=>exact Reps.nil
  | cons a l ih=>exact Reps.cons (rep_int.mpr (by simp)) ih
end
section
variable {X:Cx} {Y:Y2} {W:XW} {a:Expr} {ta:TA2} {p p2 pos pos2:Pos} {i:Nat} {x:Str} {pos':Pos}
noncomputable def lrQ (ds:List D) (q:List D→Prop):Prop:=match ds with | [.int n]=>(0≤n∧n≤1000)∧q (rngD 0 n.toNat) | _=>False
noncomputable def t2LR (ta:TA2):TE2:=fun x ρ δ q=>ta x ρ δ fun ds ρ1 δ1=>lrQ ds fun l=>q (.lst l) ρ1 δ1
theorem e2_lr (hc:X.calm=true) (hm:X.mg "range" = none) (hm2:X.mg "list" = none) (ha:PA2 X Y W [a] ta) (hg:Gl X "range" := by rfl) (hg2:Gl X "list" := by rfl) (hs:starEach [a] X.env=[(false,eval a X.env)]:=by rfl)
    (hs2:starEach [.Call (.Name "range" p) [a] [] pos] X.env=[(false,eval (.Call (.Name "range" p) [a] [] pos) X.env)]:=by rfl) :
    PE2 X Y W (.Call (.Name "list" p2) [.Call (.Name "range" p) [a] [] pos] [] pos2) (t2LR ta):=pe2 (q0o hc hg hm hg2 hm2 ha.go hs hs2) fun σ H Q ⟨F,ρ,δ,x,q,I,h,k,kx⟩=>by
  refine ⟨F,ρ,δ,x,_,I,h,fun ds vs F1 H1 ρ1 δ1 I1 s1 r1 h1=>?_,kx⟩
  unfold lrQ at h1
  split at h1
  · rename_i n
    obtain ⟨v,rfl,r2⟩:=z0m r1
    obtain ⟨⟨h2,h3⟩,h4⟩:=h1
    refine ⟨n.toNat,by rw [rep_int.mp r2,Int.toNat_of_nonneg h2],by omega,fun p hp=>k _ _ _ _ ρ1 δ1 (I1.alloc hp) (s1.trans (I1.grow hp)) (I1.lst hp (e0p _)) h4⟩
  · exact h1.elim
end
structure KNo (K:Frag) (C:Addr):Prop where
  n:PySem.W.kitOne K (.type "NoneType") (.ref C)=some false
  b:PySem.W.kitOne K (.type "bool") (.ref C)=some false
  i:PySem.W.kitOne K (.type "int") (.ref C)=some false
  s:PySem.W.kitOne K (.type "str") (.ref C)=some false
  l:PySem.W.kitOne K (.type "list") (.ref C)=some false
  t:PySem.W.kitOne K (.type "tuple") (.ref C)=some false
  d:PySem.W.kitOne K (.type "dict") (.ref C)=some false
theorem e0o {tup:Bool} {n:Nat} {tc:TT2} {te:TE2} {js:List Nat} {ρ:En} {q:List D→Dk→Prop} {ds:List D} {acc:List D} {δ:Dk} (P:Nat→List D→Dk→Prop) (h0:P 0 acc δ)
    (step:∀ (i:Nat) (d:D) (acc:List D) (δ:Dk) (rest:List D→Dk→Prop),ds[i]?=some d→P i acc δ→(∀ acc' δ',P (i + 1) acc' δ'→rest acc' δ')→match tgD tup n d with
      | some es=>tc (fun _ _ _ _=>False) (es.map .val++capt ρ js) δ fun b ρ1 δ1=>if b=true then te (fun _ _ _ _=>False) ρ1 δ1 fun e _ δ2=>acc.length < 1000∧rest (acc++[e]) δ2 else rest acc δ1
      | none=>False)
    (fin:∀ acc δ,P ds.length acc δ→q acc δ):compM tup n tc te js ρ q ds acc δ:=by
  have key:∀ (k i:Nat) (acc:List D) (δ:Dk),i + k=ds.length→P i acc δ→compM tup n tc te js ρ q (ds.drop i) acc δ:=by
    intro k
    induction k with
    | zero =>
      intro i acc δ hi p
      rw [List.drop_eq_nil_of_le (by omega)]
      have:i=ds.length:=by omega
      subst this
      exact fin acc δ p
    | succ k ih =>
      intro i acc δ hi p
      have hl:i < ds.length:=by omega
      rw [List.drop_eq_getElem_cons hl]
      have:=step i ds[i] acc δ (compM tup n tc te js ρ q (ds.drop (i + 1))) (by simp [hl]) p fun acc' δ' p'=>ih (i + 1) acc' δ' (by omega) p'
      unfold compM
      exact this
  have:=key ds.length 0 acc δ (by omega) h0
  rwa [List.drop_zero] at this
end DL
namespace L2
open PySem PySem.Spec PyProof.Rows
section
variable {X:Cx}
noncomputable def eqVs:List V→List V→Bool
  | [],[]=>true
  | x :: xs,y :: ys=>eqV x y && eqVs xs ys
  | _,_=>false
theorem v0p:∀ (xs ys:List V),((List.range (min xs.length ys.length)).all (fun j=>match xs[j]?,ys[j]? with | some x,some y=>eqV x y | _,_=>false) && xs.length == ys.length)=eqVs xs ys
  | [],[]=>rfl
  | [],_ :: _=>by simp [eqVs]
  | _ :: _,[]=>by simp [eqVs]
  | x :: xs,y :: ys=>by
    have ih:=v0p xs ys
    have e:min (x :: xs).length (y :: ys).length=min xs.length ys.length + 1:=by simp only [List.length_cons]; omega
    rw [e,List.range_succ_eq_map,List.all_cons,List.all_map]
    unfold eqVs
    rw [← ih,← Bool.and_assoc]
    simp only [List.length_cons,List.getElem?_cons_zero]
    congr 1
    simp
noncomputable def rEqT (K:PySem.W.Frag) (neg:Bool):R2:=fun x y H Q=>∃ a b xs ys,x=.ref a∧y=.ref b∧SqT K H a xs∧SqT K H b ys∧xs.all w9=true∧ys.all w9=true∧Q (.bl (if neg then !eqVs xs ys else eqVs xs ys)) H
theorem o0p {A:Around} {s:Shared} {xs ys:List V} {us ws:List Value} (r:Vals xs us) (r':Vals ys ws) (f:xs.all w9=true) (f':ys.all w9=true):∀ j (h1:j < us.toArray.size) (h2:j < ws.toArray.size),SeqAt.EqAt A s us.toArray[j] ws.toArray[j] (match xs[j]?,ys[j]? with | some x,some y=>eqV x y | _,_=>false):=by
  intro j h1 h2
  have l1:j < xs.length:=by rw [r.length]; simpa using h1
  have l2:j < ys.length:=by rw [r'.length]; simpa using h2
  obtain ⟨u,hu,ru⟩:=r.get (List.getElem?_eq_getElem l1)
  obtain ⟨w,hw,rw'⟩:=r'.get (List.getElem?_eq_getElem l2)
  have eu:us.toArray[j]=u:=by
    have:us[j]?=some us.toArray[j]:=by simp
    rw [hu] at this
    exact (Option.some.inj this).symm
  have ew:ws.toArray[j]=w:=by
    have:ws[j]?=some ws.toArray[j]:=by simp
    rw [hw] at this
    exact (Option.some.inj this).symm
  rw [eu,ew,List.getElem?_eq_getElem l1,List.getElem?_eq_getElem l2]
  exact d0m ru rw' (List.all_eq_true.mp f _ (List.getElem_mem l1)) (List.all_eq_true.mp f' _ (List.getElem_mem l2))
theorem op_eqT (hu:X.A.units < cLine):OpR X (compareOp .Eq) (rEqT X.K false):=by
  intro pins s σ H x y v u Q I rx ry h
  obtain ⟨a,b,xs,ys,rfl,rfl,ha,hb,f1,f2,q⟩:=h
  cases rx
  cases ry
  obtain ⟨its,r,p,_⟩:=I.tuple ha
  obtain ⟨its2,r2,p2,_⟩:=I.tuple hb
  refine SeqAt.eq_tupleAt p p2 hu (o0p r r2 f1 f2) ⟨.bl (eqVs xs ys),H,I,?_,q⟩
  rw [← v0p,r.length,r2.length]
  simp only [List.size_toArray]
  rfl
theorem op_neT (hu:X.A.units < cLine):OpR X (compareOp .NotEq) (rEqT X.K true):=by
  intro pins s σ H x y v u Q I rx ry h
  obtain ⟨a,b,xs,ys,rfl,rfl,ha,hb,f1,f2,q⟩:=h
  cases rx
  cases ry
  obtain ⟨its,r,p,_⟩:=I.tuple ha
  obtain ⟨its2,r2,p2,_⟩:=I.tuple hb
  refine SeqAt.RcNeAt.tuples p p2 hu (o0p r r2 f1 f2) X.prog X.w X.xe _ ⟨.bl (!eqVs xs ys),H,I,?_,q⟩
  rw [← v0p,r.length,r2.length]
  simp only [List.size_toArray]
  rfl
end
end L2
namespace DL
open PySem PySem.Spec L2
open PySem.W (XC)
section
variable {X:Cx} {K:Frag}
noncomputable def rEqE (K:Frag):R2:=fun x y H Q=>rEq x y H Q∨rEqT K false x y H Q
noncomputable def rNeE (K:Frag):R2:=fun x y H Q=>rNe x y H Q∨rEqT K true x y H Q
theorem z0w (hu:X.A.units < cLine):OpR X (compareOp .Eq) (rEqE X.K):=m0h op_eq (op_eqT hu)
theorem l0w (hu:X.A.units < cLine):OpR X (compareOp .NotEq) (rNeE X.K):=m0h op_ne (op_neT hu)
noncomputable def eqDs:List D→List D→Bool
  | [],[]=>true
  | x :: xs,y :: ys=>eqV (toV x) (toV y) && eqDs xs ys
  | _,_=>false
theorem l0v:∀ xs ys:List D,eqVs (xs.map toV) (ys.map toV)=eqDs xs ys
  | [],[]=>rfl
  | [],_ :: _=>rfl
  | _ :: _,[]=>rfl
  | x :: xs,y :: ys=>by rw [List.map_cons,List.map_cons]; unfold eqVs eqDs; rw [l0v xs ys]
noncomputable def eqG:F2:=fun d1 d2 q=>match eqD d1 d2 with
  | some b=>q (.bl b)
  | none=>match d1,d2 with | .tup xs,.tup ys=>(xs.all y0n && ys.all y0n)=true∧q (.bl (eqDs xs ys)) | _,_=>False
noncomputable def neG:F2:=fun d1 d2 q=>match eqD d1 d2 with
  | some b=>q (.bl (!b))
  | none=>match d1,d2 with | .tup xs,.tup ys=>(xs.all y0n && ys.all y0n)=true∧q (.bl (!eqDs xs ys)) | _,_=>False
theorem w0c:OpD K (rEqE K) eqG:=by
  intro Y F H σ ρ δ x y d1 d2 Q1 q I r1 r2 h' k
  unfold eqG at h'
  split at h'
  · rename_i b e
    exact .inl (d_eq Y F H σ ρ δ x y d1 d2 Q1 q I r1 r2 (by unfold eqF; rw [e]; exact h') k)
  · split at h'
    · rename_i xs ys
      obtain ⟨hf,h'⟩:=h'
      rw [Bool.and_eq_true] at hf
      obtain ⟨a,vs,rfl,e1,z1⟩:=rep_tup.mp r1
      obtain ⟨b,us,rfl,e2,z2⟩:=rep_tup.mp r2
      obtain ⟨e3,e4⟩:=l8 hf.1 z1
      obtain ⟨e5,e6⟩:=l8 hf.2 z2
      refine .inr ⟨a,b,vs,us,rfl,rfl,SqT.of (I.sub _ _ e1),SqT.of (I.sub _ _ e2),e4,e6,?_⟩
      rw [if_neg Bool.false_ne_true,e3,e5,l0v]
      exact k _ _ F H I (Same.refl F) (rep_bl.mpr rfl) h'
    · exact h'.elim
theorem e0n:OpD K (rNeE K) neG:=by
  intro Y F H σ ρ δ x y d1 d2 Q1 q I r1 r2 h' k
  unfold neG at h'
  split at h'
  · rename_i b e
    exact .inl (d_ne Y F H σ ρ δ x y d1 d2 Q1 q I r1 r2 (by unfold neF; rw [e]; exact h') k)
  · split at h'
    · rename_i xs ys
      obtain ⟨hf,h'⟩:=h'
      rw [Bool.and_eq_true] at hf
      obtain ⟨a,vs,rfl,e1,z1⟩:=rep_tup.mp r1
      obtain ⟨b,us,rfl,e2,z2⟩:=rep_tup.mp r2
      obtain ⟨e3,e4⟩:=l8 hf.1 z1
      obtain ⟨e5,e6⟩:=l8 hf.2 z2
      refine .inr ⟨a,b,vs,us,rfl,rfl,SqT.of (I.sub _ _ e1),SqT.of (I.sub _ _ e2),e4,e6,?_⟩
      rw [if_pos rfl,e3,e5,l0v]
      exact k _ _ F H I (Same.refl F) (rep_bl.mpr rfl) h'
    · exact h'.elim
noncomputable def cutD (xs:List D) (lo hi:Option Int):List D:=(xs.drop (HT.sIx xs.length 0 lo)).take (HT.sIx xs.length xs.length hi - HT.sIx xs.length 0 lo)
theorem Reps.cut {F:Hp} {ds:List D} {vs:List V} {lo hi:Option Int} (r:Reps K F ds vs):Reps K F (cutD ds lo hi) (cutV vs lo hi):=by
  unfold cutD cutV
  rw [r.length]
  exact (r.drop _).take _
noncomputable abbrev TO2:=XK2→En→Dk→(Option Int→En→Dk→Prop)→Prop
variable {Y:Y2} {W:XW} {e lo hi:Expr} {te tl th:TE2} {pos p2:Pos}
noncomputable def upO (K:Frag) (Y:Y2) (W:XW) (t:TO2):TO:=fun σ H Q=>∃ F ρ δ x q,I2 K Y F H σ ρ δ∧t x ρ δ q∧(∀ o F' H' ρ' δ',I2 K Y F' H' σ ρ' δ'→Same F F'→q o ρ' δ'→Q o H')∧XR K Y W F x
structure PO2 (X:Cx) (Y:Y2) (W:XW) (e:Option Expr) (t:TO2):Prop where
  go:PO X e (upO X.K Y W t)
noncomputable def t2ON:TO2:=fun _ ρ δ q=>q none ρ δ
noncomputable def t2OI (te:TE2):TO2:=fun x ρ δ q=>te x ρ δ fun d ρ1 δ1=>match d with | .int i=>q (some i) ρ1 δ1 | _=>False
theorem o0o:PO2 X Y W none t2ON:=⟨fun pins s σ H Q I ⟨F,ρ,δ,x,q,I',h,k,kx⟩=>b0i pins s σ H Q I (k none F H ρ δ I' (Same.refl F) h)⟩
theorem o0n (h:PE2 X Y W e te):PO2 X Y W (some e) (t2OI te):=⟨fun pins s σ H Q I ⟨F,ρ,δ,x,q,I',h',k,kx⟩=>b0h h.go pins s σ H Q I ⟨F,ρ,δ,x,_,I',h',fun d v F1 H1 ρ1 δ1 I1 s1 r1 h1=>by
  cases d with
  | int i=>exact ⟨i,rep_int.mp r1,k (some i) F1 H1 ρ1 δ1 I1 s1 h1⟩
  | _=>exact h1.elim,kx⟩⟩
noncomputable def slF (d:D) (l u:Option Int) (q:D→Prop):Prop:=match d with
  | .lst xs=>q (.lst (cutD xs l u))
  | .tup xs=>¬ (HT.sIx xs.length 0 l=0∧HT.sIx xs.length xs.length u=xs.length)∧q (.tup (cutD xs l u))
  | _=>False
noncomputable def t2Sl (te:TE2) (tl th:TO2):TE2:=fun x ρ δ q=>te x ρ δ fun d ρ1 δ1=>tl x ρ1 δ1 fun l ρ2 δ2=>th x ρ2 δ2 fun u ρ3 δ3=>slF d l u fun e=>q e ρ3 δ3
theorem s0d {lo hi:Option Expr} {tl th:TO2} (he:PE2 X Y W e te) (hl:PO2 X Y W lo tl) (hu:PO2 X Y W hi th):PE2 X Y W (.Subscript e (.Slice lo hi none p2) pos) (t2Sl te tl th):=pe2 (f0v (SlR.or b0e sl_tup) he.go hl.go hu.go) fun σ H Q ⟨F,ρ,δ,x,q,I,h,k,kx⟩=>by
  refine ⟨F,ρ,δ,x,_,I,h,fun d v F1 H1 ρ1 δ1 I1 s1 r1 h1=>⟨F1,ρ1,δ1,x,_,I1,h1,fun l F2 H2 ρ2 δ2 I2' s2 h2=>⟨F2,ρ2,δ2,x,_,I2',h2,fun u F3 H3 ρ3 δ3 I3 s3 h3=>?_,kx.mono (s1.trans s2)⟩,kx.mono s1⟩,kx⟩
  have sa:=(s1.trans s2).trans s3
  have r3:=r1.mono (s2.trans s3)
  unfold slF at h3
  cases d with
  | lst xs =>
    obtain ⟨a,vs,rfl,ea,z⟩:=rep_lst.mp r3
    exact .inl ⟨a,vs,rfl,SqL.of (I3.sub _ _ ea),fun p hp=>k _ _ _ _ ρ3 δ3 (I3.alloc hp) (sa.trans (I3.grow hp)) (I3.lst hp z.cut) h3⟩
  | tup xs =>
    obtain ⟨a,vs,rfl,ea,z⟩:=rep_tup.mp r3
    exact .inr ⟨a,vs,rfl,SqT.of (I3.sub _ _ ea),by rw [z.length]; exact h3.1,fun p hp=>k _ _ _ _ ρ3 δ3 (I3.alloc hp) (sa.trans (I3.grow hp)) (I3.tup hp z.cut) h3.2⟩
  | _=>exact h3.elim
end
theorem o0m {te:TE2} {js:List Nat} {ρ:En} {q:List D→Dk→Prop}:∀ (ds acc:List D) (δ:Dk),compM false 1 q0m te js ρ q ds acc δ=w0d te js ρ q ds acc δ
  | [],acc,δ=>rfl
  | d :: ds,acc,δ=>by
    show (te (fun _ _ _ _=>False) (.val d :: capt ρ js) δ fun e _ δ2=>acc.length < 1000∧compM false 1 q0m te js ρ q ds (acc++[e]) δ2)=te (fun _ _ _ _=>False) (.val d :: capt ρ js) δ fun e _ δ1=>acc.length < 1000∧w0d te js ρ q ds (acc++[e]) δ1
    congr 1
    funext e ρ1 δ1
    rw [o0m ds (acc++[e]) δ1]
end DL
namespace L2
open PySem PySem.Spec PyProof.Rows PySem.W PySem.SeqAt
open AutoSeq1 (wpAny_loadPart')
open MeetsSeq MeetsSeq2 MeetsSeq3 SeqRoads2
section
variable {prog:Program} {w:World} {A:Around} {E:Value→Shared→Prop} {s:Shared}
end
section
variable {B:Nat}
end
section
variable {prog:Program} {w:World} {A:Around} {E:Value→Shared→Prop} {s:Shared}
end
end L2
namespace L2
open PySem PySem.Spec PyProof.Rows PySem.W
section
variable {X:Cx}
end
end L2
namespace DL
open PySem PySem.Spec L2
end DL
namespace L2
open PySem PySem.Spec PyProof.Rows PySem.W
open AutoSeq1 (wpAny_loadPart')
section
variable {X:Cx}
end
end L2
namespace DL
open PySem PySem.Spec L2
end DL
namespace L2
end L2
namespace DL
open PySem PySem.Spec L2
end DL
namespace DL
open PySem PySem.Spec L2
theorem y0k {X:Cx} {Y:Y2} {W:XW} {ss:List Stmt} {t t':TS2} (h:PSs2 X Y W ss t) (k:∀ E ρ δ,t' E ρ δ→t E ρ δ):PSs2 X Y W ss t':=⟨m0d h.go fun D σ H ⟨F,ρ,δ,E2,I,q,er⟩=>⟨F,ρ,δ,E2,I,k _ _ _ q,er⟩⟩
end DL
namespace L2
open PySem PySem.Spec PyProof.Rows PySem.W
end L2
namespace DL
open PySem PySem.Spec L2
section
variable {X:Cx} {Y:Y2} {W:XW} {x:Str} {p tpos pos:Pos} {e j:Expr} {te tj:TE2}
end
end DL
namespace DL
open PySem PySem.Spec L2
theorem k0z {te:TE2} {js:List Nat} {ρ:En} {q:List D→Dk→Prop} {ds:List D} {δ:Dk} (I:Nat→Dk→Prop) (R:Nat→D→D→Prop) (hl:ds.length≤1000) (h0:I 0 δ)
    (step:∀ (i:Nat) (d:D) (δ':Dk),ds[i]?=some d→I i δ'→∀ Q:D→Dk→Prop,(∀ e δ1,R i d e→I (i + 1) δ1→Q e δ1)→te (fun _ _ _ _=>False) (.val d :: capt ρ js) δ' fun e _ δ1=>Q e δ1)
    (fin:∀ acc δ',acc.length=ds.length→(∀ i d e,ds[i]?=some d→acc[i]?=some e→R i d e)→I ds.length δ'→q acc δ'):w0d te js ρ q ds [] δ:=by
  refine s0f (fun i acc δ'=>acc.length=i∧(∀ j d e,ds[j]?=some d→acc[j]?=some e→R j d e)∧I i δ') ⟨rfl,fun j d e _ h=>(by simp at h),h0⟩ ?_ ?_
  · rintro i d acc δ' rest hi ⟨rfl,hR,hI⟩ hrest
    have hlt:=(List.getElem?_eq_some_iff.mp hi).1
    refine step _ d δ' hi hI (fun e δ1=>acc.length < 1000∧rest (acc++[e]) δ1) fun e δ1 hr hI1=>⟨by omega,hrest _ _ ⟨by rw [List.length_append]; rfl,fun j d' e' h1 h2=>?_,hI1⟩⟩
    rcases Nat.lt_or_ge j acc.length with hj | hj
    · rw [List.getElem?_append_left hj] at h2; exact hR j d' e' h1 h2
    · rw [List.getElem?_append_right hj] at h2
      have hj2:j - acc.length=0:=by
        have:=(List.getElem?_eq_some_iff.mp h2).1
        simp at this; omega
      rw [hj2] at h2
      have hj3:j=acc.length:=by omega
      subst hj3
      rw [hi] at h1
      cases h1; cases h2
      exact hr
  · rintro acc δ' ⟨h1,h2,h3⟩
    exact fin acc δ' h1 h2 h3
theorem h0w {te:TE2} {js:List Nat} {ρ:En} {q:List D→Dk→Prop} {ds:List D} {δ:Dk} (f:D→D) (hl:ds.length≤1000)
    (step:∀ d∈ds,∀ Q:D→Dk→Prop,Q (f d) δ→te (fun _ _ _ _=>False) (.val d :: capt ρ js) δ fun e _ δ1=>Q e δ1) (fin:q (ds.map f) δ):w0d te js ρ q ds [] δ:=by
  refine k0z (fun _ δ'=>δ'=δ) (fun _ d e=>e=f d) hl rfl (fun i d δ' hi h Q hQ=>?_) fun acc δ' h1 h2 h3=>?_
  · subst h
    exact step d (List.mem_of_getElem? hi) Q (hQ _ _ rfl rfl)
  · subst h3
    have:acc=ds.map f:=by
      apply List.ext_getElem?
      intro i
      rw [List.getElem?_map]
      cases e1:ds[i]? with
      | none =>
        rw [List.getElem?_eq_none_iff] at e1
        rw [List.getElem?_eq_none (by omega)]; rfl
      | some d =>
        have hi:=(List.getElem?_eq_some_iff.mp e1).1
        have hi2:i < acc.length:=by omega
        rw [List.getElem?_eq_getElem hi2,h2 i d _ e1 (List.getElem?_eq_getElem hi2)]; rfl
    rw [this]; exact fin
theorem q0l {tup:Bool} {n:Nat} {tc:TT2} {te:TE2} {js:List Nat} {ρ:En} {q:List D→Dk→Prop} {ds:List D} {δ:Dk} (p:D→Bool) (f:D→D) (hl:ds.length≤1000)
    (step:∀ d∈ds,∀ Q:Option D→Dk→Prop,(p d=true→Q (some (f d)) δ)→(p d=false→Q none δ)→∃ es,tgD tup n d=some es∧tc (fun _ _ _ _=>False) (es.map .val++capt ρ js) δ fun b ρ1 δ1=>if b=true then te (fun _ _ _ _=>False) ρ1 δ1 fun e _ δ2=>Q (some e) δ2 else Q none δ1)
    (fin:q ((ds.filter p).map f) δ):compM tup n tc te js ρ q ds [] δ:=by
  refine e0o (fun i acc δ'=>acc=((ds.take i).filter p).map f∧δ'=δ) ⟨by simp,rfl⟩ ?_ ?_
  · rintro i d acc δ' rest hi ⟨rfl,rfl⟩ hrest
    have hlt:=(List.getElem?_eq_some_iff.mp hi).1
    have hlen:(((ds.take i).filter p).map f).length < 1000:=by
      rw [List.length_map]
      have:=List.length_filter_le p (ds.take i)
      rw [List.length_take] at this
      omega
    obtain ⟨es,e1,e2⟩:=step d (List.mem_of_getElem? hi) (fun o δ1=>match o with | some e=>(((ds.take i).filter p).map f).length < 1000∧rest (((ds.take i).filter p).map f++[e]) δ1 | none=>rest (((ds.take i).filter p).map f) δ1)
      (fun hp=>⟨hlen,hrest _ _ ⟨by rw [List.take_succ,hi,List.filter_append,List.map_append]; simp [hp],rfl⟩⟩) fun hp=>hrest _ _ ⟨by rw [List.take_succ,hi,List.filter_append,List.map_append]; simp [hp],rfl⟩
    rw [e1]
    exact e2
  · rintro acc δ' ⟨rfl,rfl⟩
    rw [List.take_length]; exact fin
end DL
namespace L2
open PySem PySem.Spec PyProof.Rows
section
variable {prog:Program} {w:World} {A:Around} {E:Value→Shared→Prop} {s:Shared}
end
section
variable {prog:Program} {w:World} {A:Around} {E:Value→Shared→Prop} {s:Shared}
end
section
variable {X:Cx}
end
end L2
namespace DL
open PySem PySem.Spec L2
section
variable {X:Cx} {Y:Y2} {W:XW} {a e tg:Expr} {ta:TA2} {te:TE2} {p p2 pos pos2:Pos}
noncomputable def z1n (g:G2) (te:TE2):TS2:=fun E ρ δ=>te E.xc ρ δ fun d ρ1 δ1=>match g d ρ1 with | some ρ2=>E.nx ρ2 δ1 | none=>False
theorem c0q {g:TG} {g2:G2} (he:PE2 X Y W e te) (hg:PG X tg g) (hd:TgD X.K g g2) (hs:swapsWithSole [tg] e pos.line X.env=pure false:=by rfl) (hw:swappedStores [tg] e X.env=pure none:=by rfl)
    (h1:(assignEach [tg] X.env).map (·.2)=[assign tg X.env]:=by rfl):PS2 X Y W (.Assign [tg] e pos) (z1n g2 te):=ps2 (ps_asg he.go hg hs hw h1) fun E1 σ H ⟨F,ρ,δ,E2,I,h,er⟩=>by
  refine ⟨F,ρ,δ,E2.xc,_,I,h,fun d v F1 H1 ρ1 δ1 I1 s1 r1 h1=>?_,er.xc⟩
  split at h1
  · rename_i ρ2 e2
    exact hd Y F1 H1 σ ρ1 ρ2 δ1 d v _ I1 r1 e2 fun σ' I'=>er.nx σ' F1 H1 ρ2 δ1 I' s1 h1
  · exact h1.elim
end
end DL
namespace L2
open PySem PySem.Spec PyProof.Rows
section
variable {prog:Program} {w:World} {A:Around} {E:Value→Shared→Prop} {s:Shared}
end
section
variable {X:Cx}
end
end L2
namespace DL
open PySem PySem.Spec L2
end DL
namespace L2
open PySem PySem.Spec PyProof.Rows PySem.W
open AutoSeq1 (wpAny_loadPart')
section
variable {X:Cx}
theorem h0v (bt:Nat→Nat→Bool):∀ n,argBest bt n≤n
  | 0=>Nat.le_refl _
  | n + 1=>by
    unfold argBest
    split
    · exact Nat.le_refl _
    · exact Nat.le_succ_of_le (h0v bt n)
noncomputable def rEqL (K:PySem.W.Frag) (neg:Bool):R2:=fun x y H Q=>∃ a b xs ys,x=.ref a∧y=.ref b∧SqL K H a xs∧SqL K H b ys∧xs.all w9=true∧ys.all w9=true∧Q (.bl (if neg then !eqVs xs ys else eqVs xs ys)) H
theorem c0p (hu:X.A.units < cLine):OpR X (compareOp .NotEq) (rEqL X.K true):=by
  intro pins s σ H x y v u Q I rx ry h
  obtain ⟨a,b,xs,ys,rfl,rfl,ha,hb,f1,f2,q⟩:=h
  cases rx
  cases ry
  obtain ⟨its,r,p,_⟩:=I.list ha
  obtain ⟨its2,r2,p2,_⟩:=I.list hb
  have e0:=v0p xs ys
  by_cases hz:its.toArray.size=its2.toArray.size
  · refine SeqAt.RcNeAt.lists p.isList p2.isList hz hu (o0p r r2 f1 f2) X.prog X.w X.xe _ ⟨.bl (!eqVs xs ys),H,I,?_,q⟩
    rw [← e0,r.length,r2.length]
    simp only [List.size_toArray] at hz ⊢
    rw [hz,Nat.min_self,beq_self_eq_true,Bool.and_true]
    rfl
  · refine SeqAt.RcNeAt.lists_lengths p.isList p2.isList (by simpa using hz) hu X.prog X.w X.xe _ ⟨.bl (!eqVs xs ys),H,I,?_,q⟩
    have:(xs.length == ys.length)=false:=by
      rw [r.length,r2.length]
      simpa using hz
    rw [← e0,this,Bool.and_false]
    rfl
end
end L2
namespace DL
open PySem PySem.Spec L2
noncomputable def neL:F2:=fun d1 d2 q=>match d1,d2 with | .lst xs,.lst ys=>(xs.all y0n && ys.all y0n)=true∧q (.bl (!eqDs xs ys)) | _,_=>False
theorem d_neL {K:PySem.W.Frag}:OpD K (rEqL K true) neL:=by
  intro Y F H σ ρ δ x y d1 d2 Q1 q I r1 r2 h' k
  unfold neL at h'
  split at h'
  · rename_i xs ys
    obtain ⟨hf,h'⟩:=h'
    rw [Bool.and_eq_true] at hf
    obtain ⟨a,vs,rfl,e1,z1⟩:=rep_lst.mp r1
    obtain ⟨b,us,rfl,e2,z2⟩:=rep_lst.mp r2
    obtain ⟨e3,e4⟩:=l8 hf.1 z1
    obtain ⟨e5,e6⟩:=l8 hf.2 z2
    refine ⟨a,b,vs,us,rfl,rfl,SqL.of (I.sub _ _ e1),SqL.of (I.sub _ _ e2),e4,e6,?_⟩
    rw [if_pos rfl,e3,e5,l0v]
    exact k _ _ F H I (Same.refl F) (rep_bl.mpr rfl) h'
  · exact h'.elim
section
variable {X:Cx} {Y:Y2} {W:XW} {a b:Expr} {ta tb:TE2} {x:Str} {pos pos' bpos:Pos}
variable {i:Nat} {p:Pos}
end
end DL
namespace L2
theorem Room.units1 {k:Nat} {A:PySem.Around} (r:Room k A):A.units + 1 < PySem.cLine:=by have:=r.un; omega
end L2
namespace DL
open PySem PySem.Spec L2
noncomputable def valD (kvs:List (Key×D)) (k:Key):Option D:=(kvs.find? fun kv=>decide (kv.1=k)).map (·.2)
noncomputable def putD (kvs:List (Key×D)) (k:Key) (v:D):List (Key×D):=if (kvs.any fun kv=>decide (kv.1=k))=true then kvs.map (fun kv=>if kv.1=k then (kv.1,v) else kv) else kvs++[(k,v)]
section
variable {K:Frag} {F:Hp}
theorem RepK.length:∀ {ds:List (Key×D)} {us:List (Key×V)},RepK K F ds us→us.length=ds.length
  | [],us,h=>by unfold RepK at h; rw [h]; rfl
  | (x,d) :: ds,us,h=>by unfold RepK at h; obtain ⟨v,r,rfl,_,z⟩:=h; rw [List.length_cons,List.length_cons,RepK.length z]
theorem RepK.any (k:Key):∀ {ds:List (Key×D)} {us:List (Key×V)},RepK K F ds us→(us.any fun kv=>decide (kv.1=k))=ds.any fun kv=>decide (kv.1=k)
  | [],us,h=>by unfold RepK at h; rw [h]; rfl
  | (x,d) :: ds,us,h=>by unfold RepK at h; obtain ⟨v,r,rfl,_,z⟩:=h; rw [List.any_cons,List.any_cons,RepK.any k z]
theorem RepK.nil:RepK K F [] []:=by unfold RepK; rfl
theorem RepK.cons {x:Key} {d:D} {v:V} {ds:List (Key×D)} {us:List (Key×V)} (r:Rep K F d v) (z:RepK K F ds us):RepK K F ((x,d) :: ds) ((x,v) :: us):=by unfold RepK; exact ⟨v,us,rfl,r,z⟩
theorem RepK.repl (k:Key) {d:D} {v:V} (r:Rep K F d v):∀ {ds:List (Key×D)} {us:List (Key×V)},RepK K F ds us→RepK K F (ds.map fun kv=>if kv.1=k then (kv.1,d) else kv) (us.map fun kv=>if kv.1=k then (kv.1,v) else kv)
  | [],us,h=>by unfold RepK at h; rw [h]; exact RepK.nil
  | (x,e) :: ds,us,h=>by
    unfold RepK at h
    obtain ⟨w,l,rfl,q,z⟩:=h
    rw [List.map_cons,List.map_cons]
    by_cases hk:x=k
    · simp only [hk,if_true]
      exact RepK.cons r (RepK.repl k r z)
    · simp only [hk,if_false]
      exact RepK.cons q (RepK.repl k r z)
theorem RepK.snoc {k:Key} {d:D} {v:V} (r:Rep K F d v):∀ {ds:List (Key×D)} {us:List (Key×V)},RepK K F ds us→RepK K F (ds++[(k,d)]) (us++[(k,v)])
  | [],us,h=>by unfold RepK at h; rw [h]; exact RepK.cons r RepK.nil
  | (x,e) :: ds,us,h=>by unfold RepK at h; obtain ⟨w,l,rfl,q,z⟩:=h; exact RepK.cons q (RepK.snoc r z)
theorem RepK.put {k:Key} {d:D} {v:V} {ds:List (Key×D)} {us:List (Key×V)} (z:RepK K F ds us) (r:Rep K F d v):RepK K F (putD ds k d) (putK us k v):=by
  unfold putD putK
  rw [RepK.any k z]
  split
  · exact RepK.repl k r z
  · exact RepK.snoc r z
theorem RepK.val (k:Key):∀ {ds:List (Key×D)} {us:List (Key×V)},RepK K F ds us→match valD ds k with | some d=>∃ v,valV us k=some v∧Rep K F d v | none=>valV us k=none
  | [],us,h=>by unfold RepK at h; rw [h]; rfl
  | (x,e) :: ds,us,h=>by
    unfold RepK at h
    obtain ⟨w,l,rfl,q,z⟩:=h
    have ih:=RepK.val k z
    by_cases hk:x=k
    · subst hk
      have e1:valD ((x,e) :: ds) x=some e:=by unfold valD; simp [List.find?_cons]
      rw [e1]
      exact ⟨w,v0v rfl,q⟩
    · have e1:valD ((x,e) :: ds) k=valD ds k:=by unfold valD; simp [List.find?_cons,hk]
      rw [e1,v0u (p:=(x,w)) hk]
      exact ih
end
section
variable {X:Cx} {Y:Y2} {W:XW} {e j:Expr} {te tj tx:TE2} {x:Str} {i:Nat} {p pos pos' spos:Pos}
noncomputable def o0l (i:Nat):TS2:=fun E ρ δ=>E.nx (ρ.set i (.ownD [])) δ
theorem l0u (i:Nat) (hN:X.N.Nodup) (hi:X.N[i]?=some x:=by rfl) (hx:Loc X.env.scope x:=by walk_at "v2")
    (hs:swapsWith (.Dict [] [] p) (some (.Name x pos')) pos.line X.env=pure false:=by rfl) (hf:X.fn x=true∨X.env.scope.names.lookup x=some .local:=by walk_at "v1") :
    PS2 X Y W (.Assign [.Name x pos'] (.Dict [] [] p) pos) (o0l i):=ps2 (k0j (i:=i) hN hi hx m0t hs hf) fun E1 σ H ⟨F,ρ,δ,E2,I,h,er⟩ =>
  fun q hq=>er.nx _ F _ _ δ (I.ownD hq RepK.nil) (Same.refl F) h
noncomputable def h0u (i:Nat) (tj te:TE2):TS2:=fun E ρ δ=>te E.xc ρ δ fun d ρ1 δ1=>hasV ρ1 i=true∧tj E.xc ρ1 δ1 fun dj ρ2 δ2=>match ρ2[i]?,dj with
  | some (.ownD kvs),.int k=>kvs.length < 1000∧E.nx (ρ2.set i (.ownD (putD kvs (.inl k) d))) δ2
  | _,_=>False
theorem h0t (i:Nat) (hu:X.A.units + 1 < cLine) (hj:PE2 X Y W j tj) (he:PE2 X Y W e te) (hN:X.N[i]?=some x:=by rfl) (hv:Vis X.env.scope x:=by walk_at "v3") (hd:(x == ("__debug__" : Str))=false:=by decide)
    (hcd:(x == ("__classdict__" : Str))=false:=by decide) (hs:swapsWith e (some (.Subscript (.Name x p) j spos)) pos.line X.env=pure false:=by rfl) :
    PS2 X Y W (.Assign [.Subscript (.Name x p) j spos] e pos) (h0u i tj te):=ps2 (b0a hu (u7 hN hv hd hcd) hj.go he.go hs) fun E1 σ H ⟨F,ρ,δ,E2,I,h,er⟩=>by
  refine ⟨F,ρ,δ,E2.xc,_,I,h,fun d v F1 H1 ρ1 δ1 I1 s1 r1 h1=>?_,er.xc⟩
  obtain ⟨o,eo⟩:=has_v I1 h1.1
  refine ⟨o,eo,F1,ρ1,δ1,E2.xc,_,I1,h1.2,fun dj w F2 H2 ρ2 δ2 I2' s2 r2 h2=>?_,er.xc.mono s1⟩
  split at h2
  · rename_i kvs k em
    obtain ⟨a,us,ea,hh,z,up⟩:=I2'.mutD em
    rw [eo] at ea
    cases ea
    rw [rep_int.mp r2]
    exact ⟨a,_,rfl,DPut.k (k:=.inl k) hh (Nat.lt_of_lt_of_le (by rw [z.length]; exact h2.1) (by decide)),er.nx σ F2 _ _ δ2 (up _ _ (z.put (r1.mono s2))) (s1.trans s2) h2.2⟩
  · exact h2.elim
noncomputable def dicV (ρ:En) (i:Nat):Option (List (Key×D)):=match ρ[i]? with
  | some (.ownD kvs)=>some kvs
  | some (.val (.dwk kvs))=>some kvs
  | _=>none
theorem q0k {K:Frag} {F H:Hp} {σ:St} {ρ:En} {δ:Dk} {kvs:List (Key×D)} (I:I2 K Y F H σ ρ δ) (h:dicV ρ i=some kvs):∃ a us,σ[i]?=some (some (.ref a))∧Rd H a (.dK us)∧RepK K F kvs us:=by
  unfold dicV at h
  split at h
  · rename_i es e
    cases h
    obtain ⟨a,us,q,hh,_,_,r⟩:=I.env i _ e
    exact ⟨a,us,c3 q,.inl hh,r⟩
  · rename_i es e
    cases h
    obtain ⟨v,q,r⟩:=I.env i _ e
    obtain ⟨a,o,us,rfl,e2,z⟩:=rep_dwk.mp r
    exact ⟨a,us,c3 q,.inr ⟨o,I.sub _ _ e2⟩,z⟩
  · cases h
theorem dget {H:Hp} {a:Addr} {kvs:List (Key×V)} {k:Key} (e:Rd H a (.dK kvs)):DGet H a (kV k) (valV kvs k):=.inl ⟨kvs,k,e,rfl,rfl⟩
noncomputable def h0s (i:Nat) (ty tx:TE2):TE2:=fun x ρ δ q=>(dicV ρ i).isSome=true∧ty x ρ δ fun dk ρ1 δ1=>tx x ρ1 δ1 fun dd ρ2 δ2=>match dicV ρ2 i,dk with
  | some kvs,.int k=>q ((valD kvs (.inl k)).getD dd) ρ2 δ2
  | _,_=>False
theorem h0r (i:Nat) {f:Expr} {apos cpos:Pos} (hu:X.A.units + 1 < cLine) (he:PE2 X Y W e te) (hf:PE2 X Y W f tx) (m:M2 X (.Name x p) "get" apos e f cpos) (hN:X.N[i]?=some x:=by rfl) (hv:Vis X.env.scope x:=by walk_at "v3") (hd:(x == ("__debug__" : Str))=false:=by decide)
    (hcd:(x == ("__classdict__" : Str))=false:=by decide):PE2 X Y W (.Call (.Attribute (.Name x p) "get" apos) [e,f] [] cpos) (h0s i te tx):=pe2 (f0r hu (u7 hN hv hd hcd) he.go hf.go m) fun σ H Q ⟨F,ρ,δ,x,q,I,h,k,kx⟩=>by
  obtain ⟨h0,h⟩:=h
  obtain ⟨kvs,e⟩:=Option.isSome_iff_exists.mp h0
  obtain ⟨a,us,ea,hh,z⟩:=q0k I e
  refine ⟨_,ea,a,rfl,.inl ⟨us,hh⟩,F,ρ,δ,x,_,I,h,fun dk v1 F1 H1 ρ1 δ1 I1 s1 r1 h1=>⟨F1,ρ1,δ1,x,_,I1,h1,fun dd v2 F2 H2 ρ2 δ2 I2' s2 r2 h2=>?_,kx.mono s1⟩,kx⟩
  split at h2
  · rename_i kvs' kk e'
    obtain ⟨a',us',ea',hh',z'⟩:=q0k I2' e'
    rw [ea] at ea'
    cases ea'
    rw [rep_int.mp (r1.mono s2)]
    have hz:=z'.val (.inl kk)
    cases ev:valD kvs' (.inl kk) with
    | some d =>
      rw [ev] at hz h2
      obtain ⟨v,e3,r3⟩:=hz
      exact ⟨some v,by rw [← e3]; exact dget (k:=.inl kk) hh',k _ _ F2 H2 ρ2 δ2 I2' (s1.trans s2) r3 h2⟩
    | none =>
      rw [ev] at hz h2
      exact ⟨none,by rw [← hz]; exact dget (k:=.inl kk) hh',k _ _ F2 H2 ρ2 δ2 I2' (s1.trans s2) r2 h2⟩
  · exact h2.elim
noncomputable def z1m (i:Nat) (ty:TE2):TE2:=fun x ρ δ q=>(dicV ρ i).isSome=true∧ty x ρ δ fun dk ρ1 δ1=>match dicV ρ1 i,dk with
  | some kvs,.int k=>(match valD kvs (.inl k) with | some d=>q d ρ1 δ1 | none=>False)
  | _,_=>False
theorem c0o (i:Nat) (hu:X.A.units + 1 < cLine) (hj:PE2 X Y W j tj) (hN:X.N[i]?=some x:=by rfl) (hv:Vis X.env.scope x:=by walk_at "v3") (hd:(x == ("__debug__" : Str))=false:=by decide)
    (hcd:(x == ("__classdict__" : Str))=false:=by decide) (hs:NoSl j:=by exact fun _ _=>rfl):PE2 X Y W (.Subscript (.Name x p) j pos) (z1m i tj):=pe2 (b0b hu (u7 hN hv hd hcd) hj.go hs) fun σ H Q ⟨F,ρ,δ,x,q,I,h,k,kx⟩=>by
  obtain ⟨h0,h⟩:=h
  obtain ⟨kvs,e⟩:=Option.isSome_iff_exists.mp h0
  obtain ⟨a,us,ea,hh,z⟩:=q0k I e
  refine ⟨_,ea,F,ρ,δ,x,_,I,h,fun dk v1 F1 H1 ρ1 δ1 I1 s1 r1 h1=>?_,kx⟩
  split at h1
  · rename_i kvs' kk e'
    split at h1
    · rename_i d ev
      obtain ⟨a',us',ea',hh',z'⟩:=q0k I1 e'
      rw [ea] at ea'
      cases ea'
      rw [rep_int.mp r1]
      have hz:=z'.val (.inl kk)
      rw [ev] at hz
      obtain ⟨v,e3,r3⟩:=hz
      exact ⟨a,v,rfl,by rw [← e3]; exact dget (k:=.inl kk) hh',k _ _ F1 H1 ρ1 δ1 I1 s1 r3 h1⟩
    · exact h1.elim
  · exact h1.elim
end
end DL
namespace L2
open PySem PySem.Spec PyProof.Rows
section
variable {X:Cx} {pins:List (Addr×Obj)} {σ:St} {H:Hp} {s:Shared} {a:Addr} {kvs:List (Key×V)}
theorem d_frz (I:Inv X pins σ H s) (e:H a=some (.dK kvs)):∃ o,Inv X pins σ (upd H a (.frz o (.dK kvs))) s:=by
  have ok:=I.hok a _ e
  obtain ⟨z,hd,vs,rel,hm⟩:=(show kvs.length≤sizeLine∧(a == sysModules)=false∧∃ vs,KV kvs vs∧s.heap.DictOf (v4 X.prog X.w) a vs from ok)
  obtain ⟨o,ho⟩:∃ o,s.heap.get? a=some o:=let ⟨o,_,_,ho,_⟩:=hm; ⟨o,ho⟩
  refine ⟨o,?_⟩
  have:=s0s (h':=s.heap) (t':=s.toks) (ob:=.frz o (.dK kvs)) I (by rw [e]; trivial) (Heap.SameBut.refl _ _) ⟨o,ho⟩ ⟨ho,z,hd,vs,rel,hm⟩
  exact this
theorem is_kV {P:Program} {w:World} {k:Key} {u:Value} (h:(v4 P w).is k u=true):RelV (kV k) u:=by
  cases k with
  | inl i=>exact Value.isInt_shape h
  | inr x=>exact Value.isStrOf_shape h
noncomputable def Itd (a:Addr) (o:Obj) (kvs:List (Key×V)):It :=
  ⟨fun i H=>H a=some (.frz o (.dK kvs))∧i < kvs.length,fun i H v H'=>H'=H∧∃ k x,kvs[i]?=some (k,x)∧v=kV k,fun i H=>H a=some (.frz o (.dK kvs))∧kvs.length=i⟩
theorem t0b {o:Obj} {es:Array DictEntry} {ep:Nat} (I:Inv X pins σ H s) (e:H a=some (.frz o (.dK kvs))) (hd:o.data=.dict es ep):(a == sysModules)=false∧∃ vs,KV kvs vs∧s.heap.DictAt (v4 X.prog X.w) a vs ep:=by
  obtain ⟨ho,z,hs,vs,rel,hm⟩:=(show s.heap.get? a=some o∧kvs.length≤sizeLine∧(a == sysModules)=false∧∃ vs,KV kvs vs∧s.heap.DictOf (v4 X.prog X.w) a vs from I.hok a _ e)
  refine ⟨hs,vs,rel,?_⟩
  obtain ⟨ep',hm'⟩:=hm.dictAt
  obtain ⟨o',es',ho',h1,h2,h3⟩:=id hm'
  rw [ho] at ho'
  cases ho'
  rw [hd] at h2
  cases h2
  exact hm'
theorem h0q {P:Program} {w:World} {K:PySem.W.Frag} {tg:Expr} (a it:Addr) (o:Obj) (kvs:List (Key×V)) (ep:Nat) (hd:∃ es,o.data=.dict es ep):Turn P w K tg (Itd a o kvs) [it] it (fun i h=>h.IsKeyIter it a i kvs.length ep) where
  mem:=by simp
  obj:=fun i h st b hb=>by
    have e:b=it:=by simpa using hb
    subst e
    obtain ⟨o,e,c,d⟩:=st
    exact ⟨o,e,fun v z=>by rw [d] at z; cases z⟩
  keep:=fun i h h' st k=>st.at fun o e=>k it (by simp) o e
  item:=by
    intro X hP hw hK hc i pins s σ H E I hf st hg
    subst hP hw hK
    obtain ⟨e,hi⟩:=hg
    obtain ⟨es,hd⟩:=hd
    obtain ⟨hs,vs,rel,hm⟩:=t0b I e hd
    have hl:=rel.length
    obtain ⟨f0,f1,f2,f3,f4,f5⟩:=hf it (by simp)
    have hi2:i < vs.length:=by omega
    rw [hl] at st
    refine wpAny_pyNext_dict_item st hm (k:=vs[i].1) (v:=vs[i].2) (by rw [List.getElem?_eq_getElem hi2]) fun key h' hkey st' sb=>?_
    have I1:Inv X pins σ H { s with heap:=h' }:=I.turned (t':=s.toks) (fun b o hb e=>(sb.2 b hb).trans e) f0 f1 f3 f4 f5
    obtain ⟨o2,e2,c2,d2⟩:=id st'
    have ek:kvs[i].1=vs[i].1:=by
      have:=rel.keys
      have h2:(kvs.map (·.1))[i]?=(vs.map (·.1))[i]?:=by rw [this]
      rw [List.getElem?_map,List.getElem?_map,List.getElem?_eq_getElem hi,List.getElem?_eq_getElem hi2] at h2
      exact Option.some.inj h2
    rw [← hl] at st'
    exact ⟨key,rfl,k0i (s:={ s with heap:=h' }) e2 c2 d2 (by decide) ⟨kV kvs[i].1,H,I1,is_kV (by rw [ek]; exact hkey),⟨rfl,kvs[i].1,kvs[i].2,by rw [List.getElem?_eq_getElem hi],rfl⟩,st',fun b hb=>(hf b hb).1⟩⟩
  done:=by
    intro X hP hw hK hc i pins s σ H E I hf st hg
    subst hP hw hK
    obtain ⟨e,hi⟩:=hg
    obtain ⟨es,hd⟩:=hd
    obtain ⟨hs,vs,rel,hm⟩:=t0b I e hd
    have hl:=rel.length
    obtain ⟨f0,f1,f2,f3,f4,f5⟩:=hf it (by simp)
    rw [hl] at st
    exact wpAny_pyNext_dict_end (I.ok.hd hc) st hm (by rw [List.getElem?_eq_none]; omega) fun h' eb=>⟨rfl,I.turned (t':=s.toks) (fun b o hb e=>eb b o hb e) f0 f1 f3 f4 f5⟩
  self:=fun _ _ _ _ _ st h=>wpAny_pyIter_keyiter st h
variable {tg:Expr}
noncomputable def iKeys (tl:TE):TI:=fun σ H R=>tl σ H fun x H1=>∃ a o kvs,x=.ref a∧H1 a=some (.frz o (.dK kvs))∧R (Itd a o kvs) H1
theorem z1l {l:Expr} {tl:TE} (hl:PE X l tl):PI X tg l (iKeys tl):=by
  intro pins s σ H R I h
  refine thn (hl pins s σ H _ I h) fun v s1 ⟨x,H1,I1,r1,q1⟩=>?_
  obtain ⟨a,o,kvs,e,hq,q⟩:=q1
  subst e
  cases r1
  obtain ⟨ho,_,_,vs0,_,hm0⟩:=(show s1.heap.get? a=some o∧kvs.length≤sizeLine∧(a == sysModules)=false∧∃ vs,KV kvs vs∧s1.heap.DictOf (v4 X.prog X.w) a vs from I1.hok a _ hq)
  obtain ⟨ep,o',es,ho',_,hd,_⟩:=hm0.dictAt
  rw [ho] at ho'
  cases ho'
  obtain ⟨hs,vs,rel,hm⟩:=t0b I1 hq hd
  refine wpAny_pyIter_dict hs hm ?_
  refine ⟨s1.heap.objs.size,[s1.heap.objs.size],_,_,H1,rfl,I1.kept (t':=s1.toks) fun b o e=>Heap.get?_push_of_some _ e,h0q a _ o kvs ep ⟨es,hd⟩,⟨_,Heap.get?_push_size _ rfl,rfl,by rw [rel.length]; rfl⟩,fun b hb=>?_,q⟩
  have e:b=s1.heap.objs.size:=by simpa using hb
  subst e
  exact I1.fpOk (Nat.le_refl _) (I1.hok.fresh (Nat.le_refl _))
noncomputable def tFrz (t:TE):TE:=fun σ H Q=>t σ H fun v H1=>∃ a kvs,v=.ref a∧H1 a=some (.dK kvs)∧∀ o,Q v (upd H1 a (.frz o (.dK kvs)))
theorem c0n {e:Expr} {t:TE} (h:PE X e t):PE X e (tFrz t):=fun pins s σ H Q I q =>
  thn (h pins s σ H _ I q) fun v s1 ⟨x,H1,I1,r1,a,kvs,e,hq,q1⟩=>by
    obtain ⟨o,I2⟩:=d_frz I1 hq
    exact ⟨x,_,I2,r1,q1 o⟩
end
end L2
namespace DL
open PySem PySem.Spec L2
section
variable {X:Cx} {Y:Y2} {W:XW} {tg e:Expr} {te:TE2} {x:Str} {i:Nat} {p pos:Pos} {K:Frag}
noncomputable def t2VD (i:Nat):TE2:=fun _ ρ δ q=>match ρ[i]? with | some (.ownD kvs)=>q (.dwk kvs) (ρ.set i (.val (.dwk kvs))) δ | _=>False
theorem e2_vD (i:Nat) (hN:X.N[i]?=some x:=by rfl) (hv:Vis X.env.scope x:=by walk_at "v3") (hd:(x == ("__debug__" : Str))=false:=by decide)
    (hcd:(x == ("__classdict__" : Str))=false:=by decide):PE2 X Y W (.Name x pos) (t2VD i):=pe2 (c0n (u7 hN hv hd hcd)) fun σ H Q ⟨F,ρ,δ,x,q,I,h,k,kx⟩=>by
  unfold t2VD at h
  split at h
  · rename_i kvs e
    obtain ⟨a,us,ea,hh,hF,up⟩:=I.freezeD e
    exact ⟨_,ea,a,us,rfl,hh,fun o=>k _ _ _ _ _ δ (up o).1 (Same.new hF) (up o).2 h⟩
  · exact h.elim
noncomputable def l0t (i:Nat) (v:Int):TE2:=fun _ ρ δ q=>match ρ[i]? with | some (.val (.int k))=>q (.dwk [(.inl k,.int v)]) ρ δ | _=>False
theorem h0p (i:Nat) {c:Nat} {vpos:Pos} {v:Int} (hN:X.N[i]?=some x:=by rfl) (hv:Vis X.env.scope x:=by walk_at "v3") (hd:(x == ("__debug__" : Str))=false:=by decide)
    (hcd:(x == ("__classdict__" : Str))=false:=by decide) (hall:([some (Expr.Name x p)]:List (Option Expr)).all (·.isSome)=true:=by rfl):PE2 X Y W (.Dict [some (.Name x p)] [.Constant (.int v) c vpos] pos) (l0t i v) :=
  pe2 (c0n (a0y (f0s (u7 hN hv hd hcd) d0s a0z) hall rfl (by simp) (by show 1≤15; decide))) fun σ H Q ⟨F,ρ,δ,x,q,I,h,k,kx⟩=>by
  unfold l0t at h
  split at h
  · rename_i n e
    obtain ⟨u,hq,r⟩:=I.env i _ e
    rw [rep_int.mp r] at hq
    intro p hp
    refine ⟨_,c3 hq,o3,[(.inl n,.int v)],rfl,by show 1≤15; decide,?_⟩
    rw [k0m]
    refine ⟨p,_,rfl,o3,fun o=>?_⟩
    rw [k0m]
    exact k _ _ _ _ ρ δ (I.alloc hp) (I.grow hp) (rep_dwk.mpr ⟨p,o,_,rfl,o3,RepK.cons (rep_int.mpr rfl) RepK.nil⟩) h
  · exact h.elim
noncomputable def keyD:Key→D
  | .inl n=>.int n
  | .inr s=>.str s
theorem h0o {F:Hp} (k:Key):Rep K F (keyD k) (kV k):=by
  cases k with
  | inl n=>exact rep_int.mpr rfl
  | inr s=>exact rep_str.mpr rfl
noncomputable def h0n (te:TE2):TI2:=fun x ρ δ q=>te x ρ δ fun d ρ1 δ1=>match d with | .dwk kvs=>q (kvs.map fun kv=>keyD kv.1) ρ1 δ1 | _=>False
theorem RepK.get {F:Hp}:∀ {ds:List (Key×D)} {us:List (Key×V)},RepK K F ds us→∀ (i:Nat) (k:Key) (v:V),us[i]?=some (k,v)→∃ d,ds[i]?=some (k,d)∧Rep K F d v
  | [],us,h,i,k,v,e=>by unfold RepK at h; rw [h] at e; cases e
  | (y,d) :: ds,us,h,i,k,v,e=>by
    unfold RepK at h
    obtain ⟨w,l,rfl,q,z⟩:=h
    cases i with
    | zero=>cases e; exact ⟨d,rfl,q⟩
    | succ i=>exact RepK.get z i k v e
theorem z1k {l:Expr} (hl:PE2 X Y W l te):PI2 X Y W tg l (h0n te):=pi2 (z1l hl.go) fun σ H R ⟨F,ρ,δ,x,q,I,h,k,kx⟩=>by
  refine ⟨F,ρ,δ,x,_,I,h,fun d v F' H' ρ' δ' I' s' r' h'=>?_,kx⟩
  split at h'
  · rename_i kvs
    obtain ⟨a,o,us,rfl,e2,z⟩:=rep_dwk.mp r'
    have hl:=RepK.length z
    refine ⟨a,o,us,rfl,I'.sub _ _ e2,k _ _ F' H' ρ' δ' I' s' ⟨fun i d F2 H2 e s1 s2=>⟨⟨s2 _ _ (s1 _ _ e2),?_⟩,fun u H3 y=>?_⟩,fun F2 H2 s1 s2=>⟨s2 _ _ (s1 _ _ e2),by rw [List.length_map]; exact hl⟩⟩ h'⟩
    · have:=(List.getElem?_eq_some_iff.mp e).1
      rw [List.length_map] at this
      omega
    · obtain ⟨rfl,kk,xx,e3,rfl⟩:=y
      obtain ⟨dd,e4,_⟩:=RepK.get z i kk xx e3
      rw [List.getElem?_map,e4] at e
      cases e
      exact .inl ⟨rfl,h0o kk⟩
  · exact h'.elim
end
end DL
namespace L2
open PySem PySem.Spec PyProof.Rows
structure RoomU (k:Nat) (A:Around):Prop where
  dp:A.depth + 3 * k + 5 < recursionLimit
  un:A.units + 16 * k + 200 < cLine
theorem Room.u {k:Nat} {A:Around} (r:Room k A):RoomU k A:=⟨r.dp,r.un⟩
theorem RoomU.mono {j k:Nat} {A:Around} (r:RoomU k A) (h:j≤k):RoomU j A:=⟨by have:=r.dp; omega,by have:=r.un; omega⟩
theorem RoomU.deeper {k:Nat} {A:Around} (r:RoomU (k + 1) A) (env:Env):RoomU k (A.deeper env) :=
  ⟨by have:=r.dp; show A.depth + 1 + 3 * k + 5 < _; omega,by have:=r.un; show A.units + 3 + 16 * k + 200 < _; omega⟩
theorem RoomU.mark {k:Nat} {A:Around} (r:RoomU k A) {v:Option Value}:RoomU k (A.mark v):=⟨r.dp,r.un⟩
theorem RoomU.units0 {k:Nat} {A:Around} (r:RoomU k A):A.units < cLine:=by have:=r.un; omega
structure FnOkU (P:Program) (w:World) (K:PySem.W.Frag) (mg:Str→Option Value) (base:Heap) (CX:CXT) (k:Nat) (f:Addr) (fd:FuncData) (ps:List Str) (sp:Sp):Prop where
  len:∀ vs H Q E,sp vs H Q E→vs.length=ps.length
  run:∀ (A:Around) (outer:List Env) (s:Shared) (H:Hp) (args:Args) (us:List Value) (vs:List V) (Q:VK) (E:XK),RoomU k A→Env0 P w K mg base A outer s H→BindsTo s fd args (ps.zip us)→Vals vs us→sp vs H Q E →
    codeAny (model P w) A (.call (.ref f) args) (CR CX outer P w H s Q E) s
theorem k0y {CX:CXT} {P:Program} {w:World} {K:PySem.W.Frag} {mg:Str→Option Value} {base:Heap} {N ps:List Str} {qual:Str} {scope:Scope} {f:Addr} {cd:Value} {A:Around} {outer:List Env} {s s1:Shared} {H:Hp} {E:XK} {us:List Value} {vs:List V}
    (S:FnScope N ps scope) (e0:Env0 P w K mg base A outer s H) (hl:vs.length=ps.length) (r:Vals vs us)
    (x:InCallC s s.heap.objs.size (bindL (envOfC qual scope s.heap.objs.size f cd).kindOf (ps.zip us) fun _=>none) (cellsFrom (s.heap.objs.size + 1) scope.names []) (bindC (envOfC qual scope s.heap.objs.size f cd).kindOf (ps.zip us) fun _=>none) s1) :
    Inv { cxOf CX P w K mg base N qual scope f cd A outer s H E with calm:=false } [] (start N vs) H s1:=by
  have e1:Env0 P w K mg base { A with handled:=none } outer s H:=⟨e0.frames,e0.mod,e0.bs,e0.bsz,e0.funs,e0.frf,e0.hok,e0.bare⟩
  have I:=r0i (CX:=CX) (qual:=qual) (f:=f) (cd:=cd) (E:=E) S rfl e1 hl r x
  exact ⟨⟨I.ok.mod,I.ok.kind,I.ok.glob,I.ok.blt,I.ok.above,I.ok.inj,I.ok.has,I.ok.cab,(fun h=>nomatch h),Around.frames_deeper e0.frames,I.ok.stk,I.ok.exf,I.ok.bs,I.ok.bsz,I.ok.noex,I.ok.exfs,I.ok.funs,I.ok.frf⟩,I.os,I.bare,I.base,I.loc,I.cell,I.free,I.freeC,I.pin,I.hok,I.len⟩
theorem fn_ofU {CX:CXT} {P:Program} {w:World} {K:PySem.W.Frag} {mg:Str→Option Value} {base:Heap} {k:Nat} {f:Addr} {name qual:Str} {params:Arguments} {body:List Stmt} {scope:Scope} {dV kV doc pm cdv ct oc:Value} {an od:Option Addr}
    {osl:Array (Option Value)} {N ps:List Str} {sp:Sp} (lk:K.lookup f=some ⟨oc,od,.func (PySem.W.fnOf name qual params body scope dV kV doc pm an cdv ct),osl⟩) (hcd:PySem.W.codeIn K cdv qual=true) (S:FnScope N ps scope)
    (len:∀ vs H Q E,sp vs H Q E→vs.length=ps.length)
    (hbody:∀ (A:Around) (outer:List Env) (s:Shared) (H:Hp) (vs:List V) (Q:VK) (E:XK),RoomU k (A.deeper (envOfC qual scope s.heap.objs.size f cdv))→sp vs H Q E →
      ∃ t,PSs { cxOf CX P w K mg base N qual scope f cdv A outer s H E with calm:=false } body t∧t { nx:=fun _ H'=>Q .non H',rt:=Q } (start N vs) H) :
    FnOkU P w K mg base CX (k + 1) f (PySem.W.fnOf name qual params body scope dV kV doc pm an cdv ct) ps sp:=by
  refine ⟨len,fun A outer s H args us vs Q E hr e0 hb r hsp=>?_⟩
  have hl:=len _ _ _ _ hsp
  have KX:K.In s.heap:=e0.mod.kin.keeps fun b o e=>(e0.bs b o e).1
  have lim:s.heap.NoLimit:=e0.mod.nolimit.keeps fun b o e=>(e0.bs b o e).1
  have hkind:∀ y∈ps.zip us,scope.names.lookup y.1=some .local∨(scope.names.lookup y.1=some .cell∧((cellsFrom (s.heap.objs.size + 1) scope.names []).lookup y.1).isSome=true):=fun ⟨n,v⟩ hy=>by
    rcases S.par n (List.of_mem_zip hy).1 with q | q
    · exact .inl q
    · exact .inr ⟨q,PySem.W.cellsFrom_some _ _ _ (.inl q)⟩
  refine codeAny_call_function (by have:=hr.dp; omega) (KX _ _ lk) rfl S.co S.gen rfl (PySem.W.codeRec_of KX hcd) (hb _ _ _ _ ?_)
  refine wpAny_newFunctionEnv_cells S.kind hkind fun env he s1 x=>?_
  subst he
  refine ⟨lim.keeps x.toInCall.keep,codeAny_func ?_⟩
  obtain ⟨t,ht,hq⟩:=hbody A outer s H vs Q E (hr.deeper _) hsp
  have I:Inv { cxOf CX P w K mg base N qual scope f cdv A outer s H E with calm:=false } [] (start N vs) H s1:=k0y S e0 hl r x
  refine wpAny_mono (ht [] s1 (start N vs) H _ I hq) (fun fl s' hs=>?_) fun e s' hs=>hs
  have fin:∀ {σ':St} {H':Hp} {v:V} {u:Value},Inv { cxOf CX P w K mg base N qual scope f cdv A outer s H E with calm:=false } [] σ' H' s'→RelV v u→Q v H'→CE outer P w H s Q u s' :=
    fun {σ' H' v u} J rv q=>⟨v,H',J.os,J.bare,J.base,J.hok,rv,q⟩
  cases fl with
  | ret u =>
    obtain ⟨v,σ',H',J,rv,q⟩:=hs
    exact fin J rv q
  | next =>
    obtain ⟨σ',H',J,q⟩:=hs
    exact fin (v:=V.non) (u:=Value.none) J rfl q
  | brk =>
    obtain ⟨_,_,_,q⟩:=hs
    exact False.elim q
  | cont =>
    obtain ⟨_,_,_,q⟩:=hs
    exact False.elim q
structure FnAtU (P:Program) (w:World) (K:PySem.W.Frag) (mg:Str→Option Value) (base:Heap) (CX:CXT) (x:Str) (k:Nat) (ps:List Str) (sp:Sp):Prop where
  ex:∃ f fd,FnOkU P w K mg base CX k f fd ps sp∧mg x=some (.ref f)∧PySem.W.keepIn K (.ref f)=true∧Binds K fd ps []
section
variable {X:Cx} {pins:List (Addr×Obj)} {σ:St} {H:Hp} {s:Shared}
theorem e0m {k:Nat} {f:Addr} {fd:FuncData} {ps:List Str} {sp:Sp} {W:XW} {Q:VK} {us:List Value} {vs:List V} (F:FnOkU X.prog X.w X.K X.mg X.base (CX1 X.prog X.w) k f fd ps sp) (hr:RoomU k X.A) (hb:Binds X.K fd ps []) (hf:v9 X W)
    (I:Inv X pins σ H s) (r:Vals vs us) (h:sp vs H Q fun Cv od H'=>∃ C,Cv=.ref C∧W C od σ H'):wpAny (model X.prog X.w) X.A (call (.ref f) us) (EP X pins σ Q) X.xe s:=by
  have hl:(us++[]).length=ps.length:=by rw [List.append_nil,← r.length]; exact F.len _ _ _ _ h
  have hbd:=hb s us I.kIn hl
  rw [List.append_nil] at hbd
  refine wpAny_call (codeAny_mono (F.run X.A X.stack s H ⟨us,[]⟩ us vs Q _ hr I.env0 hbd r h) fun r s' hq=>?_)
  cases r with
  | error e=>exact hf pins e s' (s0r I hq)
  | ok fl =>
    cases fl with
    | ret u=>exact I.after hq
    | next=>exact False.elim hq
    | brk=>exact False.elim hq
    | cont=>exact False.elim hq
theorem pe_cU {k:Nat} {ps:List Str} {sp:Sp} {x:Str} {p pos:Pos} {e:Expr} {es:List Expr} {t:TA} {W:XW} (G:FnAtU X.prog X.w X.K X.mg X.base (CX1 X.prog X.w) x k ps sp) (hr:RoomU k X.A) (hf:v9 X W) (ha:PA X (e :: es) t) (hg:Gl X x:=by rfl) (hdb:(x == ("__debug__" : Str))=false:=by decide)
    (he:starEach (e :: es) X.env=(false,eval e X.env) :: starEach es X.env:=by rfl) (hpl:(backTo pos (starEach es X.env)).any (·.1)=false:=by rfl):PE X (.Call (.Name x p) (e :: es) [] pos) (m0o sp W t):=by
  obtain ⟨f,fd,F,m,kp,b⟩:=G.ex
  intro pins s σ H Q I h
  refine wpAny_Call_Name_kw (z0u I hg m ?_ hdb)
  refine PySem.W.callWith_K (h₀:=X.base) I.ok.mod.kin kp (thn (ha pos pins s σ H _ I h) fun us s1 ⟨vs,H1,I1,r,q⟩=>⟨I1.kIn,?_⟩) he hpl
  exact e0m F hr b hf I1 r q
end
end L2
namespace DL
open PySem PySem.Spec L2
open PySem.W (XC)
open PyProof.Rows (envOfC)
noncomputable abbrev e0l (P:Program) (w:World) (K:Frag) (mg:Str→Option Value) (base:Heap) (x:Str) (k:Nat) (ps:List Str) (sp:Sp2):Prop:=FnAtU P w K mg base (CX1 P w) x k ps (upF K sp)
section
variable {X:Cx} {Y:Y2} {W:XW} {x:Str} {p pos:Pos} {e:Expr} {es:List Expr} {t:TA2} {k:Nat} {ps:List Str} {sp:Sp2}
theorem x0n (G:e0l X.prog X.w X.K X.mg X.base x k ps sp) (hr:RoomU k X.A) (hf:v9 X W) (ha:PA2 X Y W (e :: es) t) (hg:Gl X x:=by rfl) (hdb:(x == ("__debug__" : Str))=false:=by decide)
    (he:starEach (e :: es) X.env=(false,eval e X.env) :: starEach es X.env:=by exact w6 rfl) (hpl:(backTo pos (starEach es X.env)).any (·.1)=false:=by exact n6 rfl):PE2 X Y W (.Call (.Name x p) (e :: es) [] pos) (w0h sp t):=pe2 (pe_cU G hr hf ha.go hg hdb he hpl) fun σ H Q h=>i0q h
end
section
variable {P:Program} {w:World} {K:Frag} {mg:Str→Option Value} {base:Heap}
theorem def2U {x:Str} {st:Stmt} {f:Addr} {fd:FuncData} {N ps:List Str} {k:Nat} {sp:Sp2} (D:DefAt K mg x st ps f fd) (S:FnScope N ps (defScope st)) (len:∀ ds δ q x,sp ds δ q x→ds.length=ps.length)
    (hbody:∀ (cdv:Value) (A:Around) (outer:List Env) (s:Shared) (H:Hp) (E:XK) (Y:Y2),RoomU k (A.deeper (envOfC x (defScope st) s.heap.objs.size f cdv)) →
      ∃ t,PSs2 { cxX P w K mg base N x (defScope st) f cdv A outer s H E with calm:=false } Y W0 (defBody st) t ∧
        ∀ ds δ q x,sp ds δ q x→t { nx:=fun _ δ=>q .non δ,rt:=q,xc:=fun _ _ _ _=>False } (p4 N ds) δ):e0l P w K mg base x (k + 1) ps sp:=by
  obtain ⟨oc,od,kV,doc,pm,an,cdv,ct,osl,rfl,lk,hcd⟩:=D.F.ex
  refine ⟨f,_,fn_ofU lk hcd S (fun vs H Q E h=>?_) fun A outer s H vs Q E hr h=>?_,D.m,D.F.kp,D.b⟩
  · obtain ⟨F,ds,δ,q,x,_,_,r,h,_⟩:=h
    rw [r.length]; exact len ds δ q x h
  · obtain ⟨F,ds,δ,q,x,s1,dk,r,h,kq,kx⟩:=h
    obtain ⟨t,ht,rd⟩:=hbody cdv A outer s H E ⟨F,H,δ,none⟩ hr
    refine ⟨_,ht.go,F,p4 N ds,δ,_,I2.start s1 dk r,rd ds δ q x h,⟨fun σ' F' H' ρ' δ' I' s' h'=>?_,fun d v σ' F' H' ρ' δ' I' s' r' h'=>?_,fun C od fs σ' F' H' ρ' δ' I' s' r' h'=>h'.elim,fun _ _ _ _ _ _ _ z=>z.elim,fun _ _ _ _ _ _ _ z=>z.elim⟩⟩
    · exact kq .non .non F' H' δ' I'.ran (rep_non.mpr rfl) h'
    · exact kq d v F' H' δ' I'.ran r' h'
end
end DL
namespace L2
open PySem PySem.Spec PyProof.Rows PySem.Calls
theorem k0x:typeLookup (.type "list_reverseiterator") "__len__" = pure none:=by rw [typeLookup_type,builtinLookup_eq_fast]; kernel_rfl
theorem e0k:typeLookup (.type "list_reverseiterator") "__length_hint__" = pure (some (.builtin "list_reverseiterator.__length_hint__")):=by rw [typeLookup_type,builtinLookup_eq_fast]; kernel_rfl
section
variable {prog:Program} {w:World} {A:Around} {E:Value→Shared→Prop} {s:Shared} {I l:Addr} {its:Array Value}
theorem e0j {Q:Bool→Shared→Prop} (t:s.TypeIs (.ref I) "list_reverseiterator") (q:Q false s):wpAny (model prog w) A (Builtin.List.listLengthHint (.ref I)) Q E s:=by
  unfold Builtin.List.listLengthHint
  refine wpAny_bind (wpAny_specialOf t k0x ?_)
  refine wpAny_ite_split (fun z=>absurd z (by decide +kernel)) fun _=>?_
  refine wpAny_ite_split (fun z=>absurd z (by decide)) fun _=>?_
  refine wpAny_bind (wpAny_specialOf t e0k ?_)
  generalize hid:("list_reverseiterator.__length_hint__" : String)=iz
  wp_delta
  rw [show splitId iz=some ("list_reverseiterator","__length_hint__") from by subst hid; decide +kernel]
  subst hid
  refine wpAny_bind (wpAny_isInstance (T := "list_reverseiterator") (b:=true) t (by rw [isSubtype_type]; kernel_rfl) ?_)
  refine wpAny_ite_split (fun z=>absurd z (by decide)) fun _=>?_
  refine wpAny_ite_split (fun _=>?_) fun z=>absurd (by decide +kernel) z
  refine wpAny_ite_split (fun z=>absurd z (by decide +kernel)) fun _=>?_
  exact wpAny_pure q
theorem s0c {Q:Value→Shared→Prop} (hh:A.handled=none) (hi:s.heap.IsRevIter I l ((its.size:Int) - 1)) (hl:s.heap.IsList l its) (ne:l≠I) (hn:its.size≤sizeLine)
    (hq:∀ h' tk acc c,(∀ b o,b≠I→s.heap.get? b=some o→h'.get? b=some o)→h'.get? s.heap.objs.size=some { cls:=.type "list",dict:=none,data:=.seq acc c,slots:=#[] }→ItemsOf (fun i v=>its[its.size - 1 - i]?=some v) acc its.size→Q (.ref s.heap.objs.size) { s with heap:=h',toks:=tk }) :
    wpAny (model prog w) A (call (.type "list") [.ref I]) Q E s:=by
  have zi:I < s.heap.objs.size:=let ⟨_,e,_⟩:=hi; Heap.lt_size e
  have zl:l < s.heap.objs.size:=let ⟨_,e,_⟩:=hl; Heap.lt_size e
  refine callType_codes (Q₁:=fun d s₁=>d=.ref s.heap.objs.size∧s₁={ s with heap:=s.heap.push { cls:=.type "list",data:=.seq #[] } }) PySem.F.called_list (PySem.F.typeCall_list_1 _) PySem.F.entry_list_init (code_list_new _ ⟨rfl,rfl⟩) fun d s₁ ⟨e1,e2⟩=>?_
  subst e1 e2
  generalize hD:s.heap.objs.size=D at *
  have hDI:D≠I:=Nat.ne_of_gt zi
  have hDl:D≠l:=Nat.ne_of_gt zl
  have f0:(s.heap.push { cls:=.type "list",data:=.seq #[] }).get? D=some { cls:=.type "list",data:=.seq #[] }:=by rw [← hD]; exact Heap.get?_push_size _ rfl
  have f1:=Heap.get?_update_self (Obj.mapSeq fun _=>(#[]:Array Value)) f0 rfl
  have f2:=Heap.get?_update_self (Obj.mapSeq (·.push Value.none)) f1 rfl
  have f3:=Heap.get?_update_self (Obj.mapSeq (·.pop)) f2 rfl
  have k1:∀ b o,s.heap.get? b=some o→((s.heap.push { cls:=.type "list",data:=.seq #[] }).update D (Obj.mapSeq fun _=>(#[]:Array Value))).get? b=some o:=fun b o e=>by
    rw [Heap.get?_update_other _ _ (Nat.ne_of_gt (hD ▸ Heap.lt_size e))]; exact Heap.get?_push_of_some _ e
  have W:=(Walks.listRev (prog:=prog) (w:=w) (A:=A.in1.in1) hh I l ne its).toS
  have go:∀ h c tk,(∀ b o,s.heap.get? b=some o→h.get? b=some o)→h.get? D=some { cls:=.type "list",data:=.seq #[] c } →
      codeAny (model prog w) A.in1 (.builtin "list.extend.loop" ⟨[.ref D,.ref I,.none],[]⟩) (wants (fun r s₂=>r=.none∧Q (.ref D) s₂) E) { s with heap:=h,toks:=tk }:=fun h c tk kp f=>by
    refine codeAny_extend_loopS W hn D (by simp [hDI,hDl]) .none its.size 0 _ #[] c rfl (Nat.zero_le _) ⟨Nat.zero_le _,?_,hl.at fun o e=>kp l o e⟩ f (ItemsOf.nil _) fun s' acc c' hm fe ha=>⟨rfl,?_⟩
    · have z:(its.size:Int) - 1 - ((0:Nat):Int)=(its.size:Int) - 1:=by omega
      rw [z]
      exact hi.at fun o e=>kp I o e
    · rw [Moved.eq_with hm]
      refine hq s'.heap s'.toks acc c' (fun b o hb e=>hm.heap b o (fun z=>?_) (kp b o e)) fe ha
      have lt:b < D:=hD ▸ Heap.lt_size e
      rcases List.mem_cons.mp z with z | z
      · exact Nat.ne_of_lt lt z
      · exact hb (List.mem_singleton.mp z)
  refine ⟨⟨_,f0,rfl⟩,PySem.F.args_list_init_2 _ _,?_⟩
  show wpAny _ _ (do let old ← Builtin.List.listItems (.ref D); Builtin.List.listUpdate (.ref D) (fun _=>#[]); letGo old.toList.reverse; Builtin.List.listExtendWith (.ref D) (.ref I) .none) _ _ _
  refine wpAny_bind ?_
  unfold Builtin.List.listItems
  refine wpAny_bind (wpAny_seqItems f0 rfl (wpAny_pure ?_))
  show wpAny _ _ (updateSeq D (fun _=>#[]) >>= fun _=>letGo (#[]:Array Value).toList.reverse >>= fun _=>Builtin.List.listExtendWith (.ref D) (.ref I) .none) _ _ _
  refine wpAny_bind (wpAny_updateSeq f0 rfl (wpAny_bind (wpAny_letGo ?_)))
  have ti:=hi.at (h':=(s.heap.push { cls:=.type "list",data:=.seq #[] }).update D (Obj.mapSeq fun _=>(#[]:Array Value))) fun o e=>k1 I o e
  unfold Builtin.List.listExtendWith
  refine wpAny_bind (wpAny_typeOf (T := "list_reverseiterator") ti.typeIs ?_)
  have g1:Builtin.List.listSameRef (.ref D) (.ref I)=false:=by simp [Builtin.List.listSameRef,hDI]
  simp only [g1,show (Value.type "list_reverseiterator" == Value.type "list")=false by decide,show (Value.type "list_reverseiterator" == Value.type "tuple")=false by decide,Bool.or_false,Bool.false_eq_true,if_false]
  refine wpAny_bind (wpAny_pyIter_revIter ti ?_)
  refine wpAny_bind (wpAny_holding (e0j ti.typeIs ?_))
  refine wpAny_ite_split (fun _=>?_) fun _=>wpAny_pure ⟨plainId_quiet PySem.F.plain_extend_loop _,go _ _ _ k1 f1⟩
  refine wpAny_bind (wpAny_rule (wpAny_bind ?_))
  show wpAny _ _ (updateSeq D (·.push .none) >>= fun _=>updateSeq D (·.pop)) _ _ _
  refine wpAny_bind (wpAny_updateSeq f1 rfl ?_)
  refine wpAny_updateSeq (hz:=by seq_fits) f2 rfl ?_
  refine wpAny_pure ⟨plainId_quiet PySem.F.plain_extend_loop _,go _ _ _ (fun b o e=>?_) f3⟩
  have lt:D≠b:=Nat.ne_of_gt (hD ▸ Heap.lt_size e)
  rw [Heap.get?_update_other _ _ lt,Heap.get?_update_other _ _ lt]
  exact k1 b o e
end
end L2
namespace L2
open PySem PySem.Spec PyProof.Rows PySem.Calls
section
variable {X:Cx}
noncomputable def tLRev (K:PySem.W.Frag) (ta:TA):TE:=fun σ H Q=>ta σ H fun vs H1=>∃ a xs,vs=[.ref a]∧SqL K H1 a xs∧∀ p,H1 p=none→Q (.ref p) (upd H1 p (.lst xs.reverse))
theorem k0w {a:Expr} {ta:TA} {p p2 pos pos2:Pos} (hc:X.calm=true) (hg:Gl X "reversed") (hm:X.mg "reversed" = none) (hg2:Gl X "list") (hm2:X.mg "list" = none) (ha:PA X [a] ta) (hs:starEach [a] X.env=[(false,eval a X.env)]:=by rfl)
    (hs2:starEach [.Call (.Name "reversed" p) [a] [] pos] X.env=[(false,eval (.Call (.Name "reversed" p) [a] [] pos) X.env)]:=by rfl) :
    PE X (.Call (.Name "list" p2) [.Call (.Name "reversed" p) [a] [] pos] [] pos2) (tLRev X.K ta):=by
  intro pins s σ H Q I h
  refine wpAny_Call_Name_kw (o8 I hg2 hm2 y8 (PyProof.Rows.callWith_type1 ?_ hs2 rfl) (by decide) (by decide))
  rw [hs2]
  refine Calls.spliced_cons ?_
  refine Call_ (o8 I hg hm boot_reversed (PyProof.Rows.callWith_type1 (thn (ha pos pins s σ H _ I h) fun us s1 ⟨vs,H1,I1,r1,q1⟩=>?_) hs rfl))
  obtain ⟨b,xs,e,hq,q⟩:=q1
  subst e
  obtain ⟨u,rfl,ru⟩:=r1.one
  cases (show u=Value.ref b from ru)
  obtain ⟨its,r,pl,hz⟩:=I1.list hq
  have hlen:=r.length
  obtain ⟨o,ho,hcl,n,hd⟩:=pl.isList
  have hl:s1.heap.IsList b its.toArray:=⟨o,ho,hcl,n,hd⟩
  refine call_reversed_list hl (Calls.spliced_nil ?_)
  have ne:b≠s1.heap.objs.size:=Nat.ne_of_lt (Heap.lt_size ho)
  refine s0c (A:=X.A) (I:=s1.heap.objs.size) (l:=b) (its:=its.toArray) (I1.ok.hd hc) ⟨_,Heap.get?_push_size _ rfl,rfl,rfl⟩ (hl.at fun o e=>Heap.get?_push_of_some _ e) ne (by rw [List.size_toArray]; omega) fun h' tk acc c kp fe ha=>?_
  have rr:Vals xs.reverse acc.toList:=by
    refine y0l ?_ fun i x v e1 e2=>?_
    · have z:=ha.1
      have z2:acc.toList.length=acc.size:=Array.length_toList
      have z3:its.toArray.size=its.length:=by simp
      rw [List.length_reverse]
      omega
    · have e3:=ha.2 i v (by rw [← Array.getElem?_toList]; exact e2)
      have li:=(List.getElem?_eq_some_iff.mp e1).1
      rw [List.length_reverse] at li
      rw [List.getElem?_reverse li] at e1
      obtain ⟨v',e4,rv⟩:=r.get e1
      have e5:its[its.length - 1 - i]?=some v:=by simpa using e3
      rw [← hlen,e4] at e5
      cases e5
      exact rv
  rw [Heap.size_push] at fe ⊢
  exact ⟨.ref (s1.heap.objs.size + 1),_,I1.laid (t':=tk) (fun b o e=>kp b o (Nat.ne_of_lt (Heap.lt_size e)) (Heap.get?_push_of_some _ e)) (Nat.le_succ _) (show ObjOk X.prog X.w _ h' _ (.lst xs.reverse) from ⟨by rw [List.length_reverse]; exact hz,acc.toList,c,rr,by simpa using fe⟩),rfl,q _ (I1.hok.fresh (Nat.le_succ _))⟩
end
end L2
namespace DL
open PySem PySem.Spec L2
section
variable {X:Cx} {Y:Y2} {W:XW} {a:Expr} {ta:TA2} {p p2 pos pos2 spos:Pos}
noncomputable def s0b (ta:TA2):TS2:=fun E ρ δ=>ta E.xc ρ δ fun ds ρ1 δ1=>δ1=none∧match ds with | [d]=>(match d with | .lst xs=>∀ p,E.rt (.ref p) (some (p,xs.reverse)) | _=>False) | _=>False
theorem Reps.rev {K:Frag} {F:Hp}:∀ {ds:List D} {vs:List V},Reps K F ds vs→Reps K F ds.reverse vs.reverse
  | [],vs,h=>by
    have:=h.length
    cases vs with
    | nil=>exact Reps.nil
    | cons v vs=>simp at this
  | d :: ds,vs,h=>by
    obtain ⟨v,l,rfl,r1,r2⟩:=reps_cons.mp h
    rw [List.reverse_cons,List.reverse_cons]
    exact (Reps.rev r2).append (Reps.cons r1 Reps.nil)
theorem h0m (hc:X.calm=true) (hm:X.mg "reversed" = none) (hm2:X.mg "list" = none) (ha:PA2 X Y W [a] ta) (hg:Gl X "reversed" := by rfl) (hg2:Gl X "list" := by rfl) (hs:starEach [a] X.env=[(false,eval a X.env)]:=by rfl)
    (hs2:starEach [.Call (.Name "reversed" p) [a] [] pos] X.env=[(false,eval (.Call (.Name "reversed" p) [a] [] pos) X.env)]:=by rfl) :
    PS2 X Y W (.Return (some (.Call (.Name "list" p2) [.Call (.Name "reversed" p) [a] [] pos] [] pos2)) spos) (s0b ta):=ps2 (d0r (k0w hc hg hm hg2 hm2 ha.go hs hs2)) fun E1 σ H ⟨F,ρ,δ,E2,I,h,er⟩=>by
  refine ⟨F,ρ,δ,E2.xc,_,I,h,fun ds vs F1 H1 ρ1 δ1 I1 s1 r1 h1=>?_,er.xc⟩
  obtain ⟨rfl,h1⟩:=h1
  split at h1
  · split at h1
    · rename_i xs
      obtain ⟨v,rfl,r2⟩:=z0m r1
      obtain ⟨a,us,rfl,e2,z⟩:=rep_lst.mp r2
      exact ⟨a,us,rfl,SqL.of (I1.sub _ _ e2),fun p hp=>er.rt _ _ σ F1 _ ρ1 _ (I1.deck hp z.rev) s1 (rep_ref.mpr rfl) (h1 p)⟩
    · exact h1.elim
  · exact h1.elim
end
end DL
namespace L2
open PySem PySem.Spec PyProof.Rows PySem.Calls PySem.W
section
variable {X:Cx}
theorem t0a (f:Nat→Int):∀ n j,j≤n→f (argBest (fun i j=>decide (f i < f j)) n)≤f j
  | 0,j,h=>by
    have:j=0:=by omega
    subst this
    exact Int.le_refl _
  | n + 1,j,h=>by
    unfold argBest
    by_cases z:j=n + 1
    · subst z
      split
      · exact Int.le_refl _
      · rename_i hb
        simp only [decide_eq_true_eq] at hb
        omega
    · have ih:=t0a f n j (by omega)
      split
      · rename_i hb
        simp only [decide_eq_true_eq] at hb
        omega
      · exact ih
noncomputable def IsMin (ns:List Int) (m:Int):Prop:=m∈ns∧∀ n∈ns,m≤n
theorem l0s (ns:List Int) (h:0 < ns.length):IsMin ns (ns.getD (argBest (fun i j=>decide (ns.getD i 0 < ns.getD j 0)) (ns.length - 1)) 0):=by
  have lt:=h0v (fun i j=>decide (ns.getD i 0 < ns.getD j 0)) (ns.length - 1)
  refine ⟨?_,fun n hn=>?_⟩
  · generalize argBest (fun i j=>decide (ns.getD i 0 < ns.getD j 0)) (ns.length - 1)=m at lt ⊢
    rw [List.getD_eq_getElem?_getD,List.getElem?_eq_getElem (by omega)]
    exact List.getElem_mem _
  · obtain ⟨j,hj,rfl⟩:=List.getElem_of_mem hn
    have:=t0a (fun i=>ns.getD i 0) (ns.length - 1) j (by omega)
    simp only [List.getD_eq_getElem?_getD (l:=ns) (i:=j),List.getElem?_eq_getElem hj,Option.getD_some] at this
    exact this
theorem c0m {ns:List Int} {its:List Value} (r:Vals (ns.map V.int) its) {i:Nat} {v:Value} (e:its[i]?=some v):∃ t,v=Value.int (ns.getD i 0) t:=by
  have hl:=(List.getElem?_eq_some_iff.mp e).1
  have hlen:its.length=ns.length:=by have:=r.length; simpa using this.symm
  have hl2:i < (ns.map V.int).length:=by rw [List.length_map]; omega
  obtain ⟨u,hu,rr⟩:=r.get (List.getElem?_eq_getElem hl2)
  rw [e] at hu
  cases hu
  rw [List.getElem_map] at rr
  obtain ⟨t,e⟩:=rr
  refine ⟨t,?_⟩
  rw [e]
  show Value.int ns[i] t=Value.int (ns.getD i 0) t
  rw [List.getD_eq_getElem?_getD,List.getElem?_eq_getElem (by omega)]
  rfl
noncomputable def rMinL (K:PySem.W.Frag):List V→Hp→VK→Prop:=fun vs H Q=>∃ (b:Bool) (a:Addr) (ns:List Int),vs=[.ref a]∧Sq K b H a (ns.map V.int)∧ns≠[]∧∀ m,IsMin ns m→Q (.int m) H
theorem h0l (hc:X.calm=true):x0h X (.builtin "min") (rMinL X.K):=by
  intro pins s σ H xs us Q I rv h
  obtain ⟨b,a,ns,rfl,hq,hne,q⟩:=h
  obtain ⟨u,rfl,ru⟩:=rv.one
  cases (show u=Value.ref a from ru)
  obtain ⟨its,r,p,hz⟩:=I.sq hq
  have hlt:a < s.heap.objs.size:=by obtain ⟨_,e,_⟩:=p.obj; exact Heap.lt_size e
  have hlen:its.length=ns.length:=by have:=r.length; simpa using this.symm
  have hpos:0 < ns.length:=List.length_pos_iff.mpr hne
  have hval:∀ i v,its.toArray[i]?=some v→∃ t,v=Value.int (ns.getD i 0) t:=fun i v hP=>c0m r (by simpa using hP)
  refine call_min_walk (v0b p ?_)
  refine ⟨s.heap.objs.size,[s.heap.objs.size,a],[s.heap.objs.size],its.toArray.size,_,_,_,rfl,l0y b (A:=X.A.in1) (I.ok.hd hc) _ a (Nat.ne_of_lt hlt) its.toArray,
    ⟨.of (Heap.get?_push_size _ rfl) rfl rfl,p.stay fun o e=>Heap.get?_push_of_some _ e⟩,fun c hcm=>?_,by rw [List.size_toArray,hlen]; exact hpos,CmpOf.ints_lt (fun i=>ns.getD i 0) hval,fun v h' tk hP hk=>?_⟩
  · show c < (s.heap.push _).objs.size
    rw [Heap.size_push]
    have:c=s.heap.objs.size∨c=a:=by simpa using hcm
    rcases this with rfl | rfl
    · exact Nat.lt_succ_self _
    · exact Nat.lt_succ_of_lt hlt
  · obtain ⟨t,rfl⟩:=hval _ _ hP
    have hn:∀ c o,s.heap.get? c=some o→c ∉ [s.heap.objs.size]:=fun c o e z=>by
      have z':c=s.heap.objs.size:=by simpa using z
      subst z'
      exact absurd (Heap.lt_size e) (Nat.lt_irrefl _)
    refine ⟨.int _,H,I.kept fun c o e=>hk c o (hn c o e) (Heap.get?_push_of_some _ e),⟨t,rfl⟩,q _ ?_⟩
    rw [List.size_toArray,hlen]
    exact l0s ns hpos
noncomputable def tLVals (td:TE):TE:=fun σ H Q=>td σ H fun x H1=>∃ a kvs,x=.ref a∧Rd H1 a (.dK kvs)∧∀ p,H1 p=none→Q (.ref p) (upd H1 p (.lst (kvs.map (·.2))))
theorem KV.vals {kvs:List (Key×V)} {vs:List (Key×Value)} (r:KV kvs vs):Vals (kvs.map (·.2)) (vs.map (·.2)):=by
  unfold KV at r
  induction r with
  | nil=>exact .nil
  | cons h _ ih=>exact .cons h.2 ih
theorem o0k {o:Expr} {td:TE} {apos cpos p2 pos2:Pos} (hc:X.calm=true) (hg2:Gl X "list") (hm2:X.mg "list" = none) (ho:PE X o td) (hbase:attributeBase o "values" X.env (eval o X.env)=eval o X.env:=by rfl) (hline:(apos.endLine == cpos.line)=true:=by rfl)
    (hs2:starEach [.Call (.Attribute o "values" apos) [] [] cpos] X.env=[(false,eval (.Call (.Attribute o "values" apos) [] [] cpos) X.env)]:=by rfl) :
    PE X (.Call (.Name "list" p2) [.Call (.Attribute o "values" apos) [] [] cpos] [] pos2) (tLVals td):=by
  intro pins s σ H Q I h
  refine wpAny_Call_Name_kw (o8 I hg2 hm2 y8 (PyProof.Rows.callWith_type1 ?_ hs2 rfl) (by decide) (by decide))
  rw [hs2]
  refine Calls.spliced_cons ?_
  refine wpAny_Call_method0_late hbase hline (thn (ho pins s σ H _ I h) fun v s1 ⟨x,H1,I1,r1,a,kvs,e,rd,q1⟩=>?_)
  subst e
  cases (show v=Value.ref a from r1)
  obtain ⟨t1,t2,hsm⟩:=r0a I1 (.inl ⟨kvs,rd⟩)
  obtain ⟨hz,_,vs,rel,dd⟩:=u0f I1.hok rd
  refine ⟨"dict","dict.values",PySem.F.plainAttrs_dict,PySem.F.slot_dict_values,PySem.F.type_dict_values,t1,t2,Calls.callWith_builtin rfl (PySem.evalArgs_none ?_)⟩
  refine call_meetsIn PySem.F.slot_dict_values dd.typeIs PySem.F.entry_dict_values (PySem.F.args_dict_values_1 _) (meets_dict_values (v4 X.prog X.w) a hsm) ⟨⟨vs,dd⟩,Calls.spliced_nil ?_⟩
  obtain ⟨ep,hat⟩:=dd.dictAt
  refine kdl_call (kdl_values (knd:=v4 X.prog X.w) (kvs:=vs) (ep:=ep) (d:=a) (r:=s1.heap.objs.size)) (I1.ok.hd hc) ⟨⟨_,Heap.get?_push_size _ rfl,rfl,rfl⟩,hat.push _⟩ (by rw [← rel.length]; exact hz) fun h' tk acc c kp fe ha=>?_
  have ev:acc.toList=vs.map (·.2):=kdl_vals_eq acc.toList (by rw [Array.length_toList]; exact ha.1) fun j v e=>ha.2 j v (by rw [← Array.getElem?_toList]; exact e)
  rw [Heap.size_push] at fe ⊢
  exact ⟨.ref (s1.heap.objs.size + 1),_,I1.laid (t':=tk) (fun b o e=>kp b o (Heap.get?_push_of_some _ e)) (Nat.le_succ _) (show ObjOk X.prog X.w _ h' _ (.lst (kvs.map (·.2))) from ⟨by rw [List.length_map]; exact hz,acc.toList,c,by rw [ev]; exact rel.vals,by simpa using fe⟩),rfl,q1 _ (I1.hok.fresh (Nat.le_succ _))⟩
end
end L2
namespace DL
open PySem PySem.Spec L2
section
variable {K:Frag}
noncomputable def e0i:F1:=fun ds q=>match ds with | [d]=>(match seqD d with | some xs=>(match u0x xs with | some ns=>ns≠[]∧∀ m,IsMin ns m→q (.int m) | none=>False) | none=>False) | _=>False
theorem d_minL:v0e K (rMinL K) e0i:=by
  intro Y F H σ ρ δ vs ds Q1 q I r h' k
  unfold e0i at h'
  split at h'
  · split at h'
    · split at h'
      · rename_i xs e _ ns en
        obtain ⟨v,rfl,r1⟩:=z0m r
        obtain ⟨a,us,b,rfl,sq,z⟩:=h0z e r1
        exact ⟨b,a,ns,rfl,by rw [← h0x en z]; exact I.sub.sq sq,h'.1,fun m hm=>k _ _ F H I (Same.refl F) (rep_int.mpr rfl) (h'.2 m hm)⟩
      · exact h'.elim
    · exact h'.elim
  · exact h'.elim
theorem RepK.reps {F:Hp}:∀ {ds:List (Key×D)} {us:List (Key×V)},RepK K F ds us→Reps K F (ds.map (·.2)) (us.map (·.2))
  | [],us,h=>by unfold RepK at h; rw [h]; exact Reps.nil
  | (x,d) :: ds,us,h=>by unfold RepK at h; obtain ⟨v,r,rfl,q,z⟩:=h; exact Reps.cons q (RepK.reps z)
end
section
variable {X:Cx} {Y:Y2} {W:XW} {x:Str} {p apos cpos p2 pos2:Pos}
noncomputable def s0a (i:Nat):TE2:=fun _ ρ δ q=>match dicV ρ i with | some kvs=>q (.lst (kvs.map (·.2))) ρ δ | none=>False
theorem e0h (i:Nat) (hc:X.calm=true) (hm:X.mg "list" = none) (hg:Gl X "list" := by rfl) (hN:X.N[i]?=some x:=by rfl) (hv:Vis X.env.scope x:=by walk_at "v3") (hd:(x == ("__debug__" : Str))=false:=by decide)
    (hcd:(x == ("__classdict__" : Str))=false:=by decide) (hbase:attributeBase (.Name x p) "values" X.env (eval (.Name x p) X.env)=eval (.Name x p) X.env:=by rfl) (hline:(apos.endLine == cpos.line)=true:=by rfl)
    (hs2:starEach [.Call (.Attribute (.Name x p) "values" apos) [] [] cpos] X.env=[(false,eval (.Call (.Attribute (.Name x p) "values" apos) [] [] cpos) X.env)]:=by rfl) :
    PE2 X Y W (.Call (.Name "list" p2) [.Call (.Attribute (.Name x p) "values" apos) [] [] cpos] [] pos2) (s0a i):=pe2 (o0k hc hg hm (u7 hN hv hd hcd) hbase hline hs2) fun σ H Q ⟨F,ρ,δ,x,q,I,h,k,kx⟩=>by
  unfold s0a at h
  split at h
  · rename_i kvs e
    obtain ⟨a,us,ea,hh,z⟩:=q0k I e
    exact ⟨_,ea,a,us,rfl,hh,fun p hp=>k _ _ _ _ ρ δ (I.alloc hp) (I.grow hp) (I.lst hp z.reps) h⟩
  · exact h.elim
noncomputable def l0r (i:Nat):TE2:=fun _ ρ δ q=>match dicV ρ i with | some kvs=>q (.int (kvs.length:Nat)) ρ δ | none=>False
theorem h0k:x0h X (.builtin "len") (fun xs H Q=>∃ a kvs,xs=[.ref a]∧Rd H a (.dK kvs)∧Q (.int (kvs.length:Nat)) H):=by
  intro pins s σ H xs us Q I r h
  obtain ⟨a,kvs,rfl,e,q⟩:=h
  obtain ⟨u,rfl,rx⟩:=j0y r
  cases (show u=Value.ref a from rx)
  exact L2.d_len I e fun t s' I'=>⟨.int _,H,I',⟨t,rfl⟩,q⟩
theorem h0j (i:Nat) {np pos:Pos} (hm:X.mg "len" = none) (hg:Gl X "len" := by rfl) (hN:X.N[i]?=some x:=by rfl) (hv:Vis X.env.scope x:=by walk_at "v3") (hd:(x == ("__debug__" : Str))=false:=by decide)
    (hcd:(x == ("__classdict__" : Str))=false:=by decide) (hst:starEach [.Name x p] X.env=[(false,eval (.Name x p) X.env)]:=by rfl) (hpl:(backTo pos (starEach [] X.env)).any (·.1)=false:=by exact n6 rfl) :
    PE2 X Y W (.Call (.Name "len" np) [.Name x p] [] pos) (l0r i):=pe2 (s0v h0k hg hm m0l (o0z (u7 hN hv hd hcd) j0v hst) (by decide) (by decide) hst hpl) fun σ H Q ⟨F,ρ,δ,x,q,I,h,k,kx⟩=>by
  unfold l0r at h
  split at h
  · rename_i kvs e
    obtain ⟨a,us,ea,hh,z⟩:=q0k I e
    exact ⟨_,ea,a,us,rfl,hh,by rw [z.length]; exact k _ _ F H ρ δ I (Same.refl F) (rep_int.mpr rfl) h⟩
  · exact h.elim
end
end DL
namespace DL
open PySem PySem.Spec L2
theorem h0i:∀ (n:Nat) (l:List Int),l.Nodup→(∀ x∈l,0≤x∧x < (n:Int))→l.length≤n
  | 0,l,_,h=>by
    cases l with
    | nil=>exact Nat.le_refl _
    | cons a l=>have:=h a (List.mem_cons_self ..); omega
  | n + 1,l,nd,h=>by
    by_cases m:(n:Int)∈l
    · have ih:=h0i n (l.erase (n:Int)) (nd.erase _) fun x hx=>by
        have h1:=h x (List.mem_of_mem_erase hx)
        have h2:x≠(n:Int):=fun z=>by rw [z] at hx; exact nd.not_mem_erase hx
        omega
      rw [List.length_erase_of_mem m] at ih
      omega
    · have ih:=h0i n l nd fun x hx=>by
        have h1:=h x hx
        have h2:x≠(n:Int):=fun z=>m (z ▸ hx)
        omega
      omega
theorem r0z (l:List (Key×D)) (k:Key) (v:D) (k':Key):valD (putD l k v) k'=if k'=k then some v else valD l k':=by
  unfold putD
  split
  · rename_i h
    induction l with
    | nil=>simp at h
    | cons a l ih =>
      rw [List.map_cons]
      by_cases ha:a.1=k
      · rw [if_pos ha]
        by_cases e:k'=k
        · rw [if_pos e]
          unfold valD
          rw [List.find?_cons,decide_eq_true (show a.1=k' by rw [ha,e])]
          rfl
        · rw [if_neg e]
          have ne:¬ a.1=k':=fun z=>e (z.symm.trans ha)
          have h1:∀ m:List (Key×D),valD (m.map fun kv=>if kv.1=k then (kv.1,v) else kv) k'=valD m k':=by
            intro m
            induction m with
            | nil=>rfl
            | cons b m ihm =>
              rw [List.map_cons]
              unfold valD at ihm ⊢
              rw [List.find?_cons,List.find?_cons]
              by_cases hb:b.1=k
              · rw [if_pos hb,decide_eq_false (show ¬ b.1=k' from fun z=>e (z.symm.trans hb))]; exact ihm
              · rw [if_neg hb]
                cases decide (b.1=k') with
                | true=>rfl
                | false=>exact ihm
          have:=h1 l
          unfold valD at this ⊢
          rw [List.find?_cons,List.find?_cons,decide_eq_false ne]
          exact this
      · rw [if_neg ha]
        rw [List.any_cons,decide_eq_false ha,Bool.false_or] at h
        have:=ih h
        unfold valD at this ⊢
        rw [List.find?_cons,List.find?_cons]
        by_cases e:a.1=k'
        · rw [decide_eq_true e]
          have:¬ k'=k:=fun z=>ha (e.trans z)
          rw [if_neg this]
        · rw [decide_eq_false e]; exact this
  · rename_i h
    unfold valD
    rw [List.find?_append]
    by_cases e:k'=k
    · subst e
      rw [if_pos rfl]
      have:l.find? (fun kv=>decide (kv.1=k'))=none:=by
        rw [List.find?_eq_none]
        intro x hx z
        exact h (List.any_eq_true.mpr ⟨x,hx,z⟩)
      rw [this]
      simp
    · rw [if_neg e]
      cases l.find? (fun kv=>decide (kv.1=k')) with
      | some x=>rfl
      | none=>simp [List.find?_cons,show ¬ k=k' from fun z=>e z.symm]
structure DI (l:List (Key×D)) (g:Int→Int→Prop):Prop where
  nd:(l.map (·.1)).Nodup
  all:∀ kv∈l,∃ k v:Int,kv=(.inl k,.int v)∧g k v
theorem DI.nil {g:Int→Int→Prop}:DI [] g:=⟨List.nodup_nil,fun kv h=>nomatch h⟩
theorem DI.one {g:Int→Int→Prop} {k v:Int} (h:g k v):DI [(.inl k,.int v)] g:=⟨by simp,fun kv h'=>by rw [List.mem_singleton.mp h']; exact ⟨k,v,rfl,h⟩⟩
theorem DI.imp {l:List (Key×D)} {g g':Int→Int→Prop} (d:DI l g) (h:∀ k v,g k v→g' k v):DI l g':=⟨d.nd,fun kv m=>let ⟨k,v,e,q⟩:=d.all kv m; ⟨k,v,e,h k v q⟩⟩
theorem DI.put {l:List (Key×D)} {g:Int→Int→Prop} {k v:Int} (d:DI l g) (h:g k v):DI (putD l (.inl k) (.int v)) g:=by
  unfold putD
  split
  · refine ⟨?_,fun kv m=>?_⟩
    · have e:(l.map fun kv=>if kv.1=Sum.inl k then (kv.1,D.int v) else kv).map (·.1)=l.map (·.1):=by
        rw [List.map_map]
        apply List.map_congr_left
        intro a _
        show (if a.1=Sum.inl k then (a.1,D.int v) else a).1=a.1
        split <;> rfl
      rw [e]
      exact d.nd
    · obtain ⟨a,ha,rfl⟩:=List.mem_map.mp m
      split
      · rename_i e
        exact ⟨k,v,by rw [e],h⟩
      · exact d.all a ha
  · rename_i hn
    refine ⟨?_,fun kv m=>?_⟩
    · rw [List.map_append,List.nodup_append]
      refine ⟨d.nd,by simp,fun a ha b hb e=>?_⟩
      obtain ⟨c,hc,rfl⟩:=List.mem_map.mp ha
      have hb:b=Sum.inl k:=by simpa using hb
      exact hn (List.any_eq_true.mpr ⟨c,hc,decide_eq_true (e.trans hb)⟩)
    · rcases List.mem_append.mp m with m | m
      · exact d.all kv m
      · rw [List.mem_singleton.mp m]; exact ⟨k,v,rfl,h⟩
theorem r0y {l:List (Key×D)} {k:Key} {d:D} (h:valD l k=some d):(k,d)∈l:=by
  unfold valD at h
  obtain ⟨a,h1,h2⟩:=Option.map_eq_some_iff.mp h
  have e:=List.find?_some h1
  have m:=List.mem_of_find?_eq_some h1
  rw [← h2,← of_decide_eq_true e]
  exact m
theorem x0c {k:Key} {d:D}:∀ {l:List (Key×D)},(l.map (·.1)).Nodup→(k,d)∈l→valD l k=some d
  | [],_,h=>nomatch h
  | a :: l,nd,h=>by
    unfold valD
    rw [List.find?_cons]
    rcases List.mem_cons.mp h with e | m
    · rw [← e,decide_eq_true rfl]; rfl
    · rw [List.map_cons,List.nodup_cons] at nd
      have ne:¬ a.1=k:=fun z=>nd.1 (z ▸ List.mem_map.mpr ⟨(k,d),m,rfl⟩)
      rw [decide_eq_false ne]
      exact x0c nd.2 m
theorem DI.get {l:List (Key×D)} {g:Int→Int→Prop} {k:Int} {e:D} (d:DI l g) (h:valD l (.inl k)=some e):∃ v,e=.int v∧g k v:=by
  obtain ⟨k',v,q,r⟩:=d.all _ (r0y h)
  cases q
  exact ⟨v,rfl,r⟩
theorem DI.key {l:List (Key×D)} {g:Int→Int→Prop} {j:Nat} {x:D} (d:DI l g) (h:(l.map fun kv=>keyD kv.1)[j]?=some x):∃ k v:Int,x=.int k∧l[j]?=some (.inl k,.int v)∧valD l (.inl k)=some (.int v)∧g k v:=by
  rw [List.getElem?_map,Option.map_eq_some_iff] at h
  obtain ⟨a,h1,rfl⟩:=h
  obtain ⟨k,v,rfl,q⟩:=d.all a (List.mem_of_getElem? h1)
  exact ⟨k,v,rfl,h1,x0c d.nd (List.mem_of_getElem? h1),q⟩
theorem DI.at {l:List (Key×D)} {g:Int→Int→Prop} {k v:Int} (d:DI l g) (h:valD l (.inl k)=some (.int v)):∃ j:Nat,j < l.length∧l[j]?=some (.inl k,.int v):=by
  obtain ⟨j,hj,e⟩:=List.getElem_of_mem (r0y h)
  exact ⟨j,hj,by rw [List.getElem?_eq_getElem hj,e]⟩
theorem DI.vals {l:List (Key×D)} {g:Int→Int→Prop} (d:DI l g):∃ ns:List Int,u0x (l.map (·.2))=some ns∧(∀ n∈ns,∃ k,valD l (.inl k)=some (.int n))∧∀ k v:Int,valD l (.inl k)=some (.int v)→v∈ns:=by
  have key:∀ m:List (Key×D),(∀ kv∈m,∃ k v:Int,kv=(.inl k,.int v)∧g k v)→∃ ns:List Int,m.map (·.2)=ns.map D.int:=by
    intro m
    induction m with
    | nil=>intro _; exact ⟨[],rfl⟩
    | cons a m ih =>
      intro h
      obtain ⟨ns,e⟩:=ih fun kv hm=>h kv (List.mem_cons_of_mem _ hm)
      obtain ⟨k,v,rfl,_⟩:=h a (List.mem_cons_self ..)
      exact ⟨v :: ns,by rw [List.map_cons,e]; rfl⟩
  obtain ⟨ns,e⟩:=key l d.all
  refine ⟨ns,by rw [e,v0q],fun n hn=>?_,fun k v h=>?_⟩
  · have m:D.int n∈l.map (·.2):=by rw [e]; exact List.mem_map.mpr ⟨n,hn,rfl⟩
    obtain ⟨a,ha,e2⟩:=List.mem_map.mp m
    obtain ⟨k,v,rfl,_⟩:=d.all a ha
    cases e2
    exact ⟨k,x0c d.nd ha⟩
  · have m:D.int v∈ns.map D.int:=by rw [← e]; exact List.mem_map.mpr ⟨_,r0y h,rfl⟩
    obtain ⟨n,hn,e2⟩:=List.mem_map.mp m
    cases e2
    exact hn
theorem DI.few {l:List (Key×D)} {g:Int→Int→Prop} {n:Nat} (d:DI l g) (h:∀ k v,g k v→0≤k∧k < (n:Int)):l.length≤n:=by
  let f:Key→Int:=fun k=>match k with | .inl i=>i | .inr _=>0
  have e:l.map (·.1)=(l.map fun kv=>f kv.1).map Sum.inl:=by
    rw [List.map_map]
    apply List.map_congr_left
    intro a ha
    obtain ⟨k,v,rfl,_⟩:=d.all a ha
    rfl
  have nd:=d.nd
  rw [e] at nd
  have nd2:(l.map fun kv:Key×D=>f kv.1).Nodup:=(List.pairwise_map.mp nd).imp fun h z=>h (congrArg Sum.inl z)
  have:=h0i n (l.map fun kv:Key×D=>f kv.1) nd2 fun x hx=>by
    obtain ⟨a,ha,rfl⟩:=List.mem_map.mp hx
    obtain ⟨k,v,rfl,q⟩:=d.all a ha
    exact h k v q
  simpa using this
end DL
namespace L2
open PySem PySem.Spec PyProof.Rows PySem.Calls
section
variable {prog:Program} {w:World} {A:Around} {E:Value→Shared→Prop} {I:Addr} {fp wr:List Addr} {n:Nat} {P:Nat→Value→Prop} {St:Nat→Heap→Prop}
theorem q0j (W:Walks prog w A I fp wr n P St):∀ (k i:Nat) (s:Shared) (Q:List Value→Shared→Prop),St i s.heap→i + k≤n →
    (∀ vs h' tk,vs.length=k→(∀ (j:Nat) v,vs[j]?=some v→P (i + j) v)→St (i + k) h'→(∀ b o,b ∉ wr→s.heap.get? b=some o→h'.get? b=some o)→Q vs { s with heap:=h',toks:=tk })→wpAny (model prog w) A (draw (.ref I) k) Q E s
  | 0,i,s,Q,st,_,q=>by
    show wpAny _ _ (pure []) Q E s
    exact wpAny_pure (q [] s.heap s.toks rfl (fun j v e=>nomatch e) st fun b o _ e=>e)
  | k + 1,i,s,Q,st,hk,q=>by
    show wpAny _ _ (pyNext (.ref I) >>= _) Q E s
    refine wpAny_bind (W.item i s _ _ (by omega) st fun v h1 t1 hv st1 k1=>?_)
    refine wpAny_bind (wpAny_holding (q0j W k (i + 1) _ _ st1 (by omega) fun vs h2 t2 hl hP st2 k2=>wpAny_pure ?_))
    refine q (v :: vs) h2 t2 (by rw [List.length_cons,hl]) (fun j u e=>?_) (by rw [show i + (k + 1)=i + 1 + k by omega]; exact st2) fun b o hb e=>k2 b o hb (k1 b o hb e)
    cases j with
    | zero=>cases e; exact hv
    | succ j=>rw [show i + (j + 1)=i + 1 + j by omega]; exact hP j u e
end
section
variable {prog:Program} {w:World} {A:Around} {E:Value→Shared→Prop} {s:Shared}
theorem o0j {l:Addr} {its:Array Value} {ts:List (Bool×(Value→Sem Unit))} {Q:Unit→Shared→Prop} (hh:A.handled=none) (hl:s.heap.IsList l its) (p:SqAt false s.heap l its) (hn:ts.length=its.size) (hstar:ts.findIdx? (·.1)=none)
    (h:∀ h' tk,(∀ b o,s.heap.get? b=some o→h'.get? b=some o)→wpAny (model prog w) A (assignInOrder (ts.map (·.2)) its.toList) Q E { s with heap:=h',toks:=tk }) :
    wpAny (model prog w) A (unpack (.ref l) ts) Q E s:=by
  have hlt:l < s.heap.objs.size:=by obtain ⟨_,e,_⟩:=p.obj; exact Heap.lt_size e
  unfold unpack
  rw [hn,hstar]
  refine wpAny_bind (wpAny_holding ?_)
  unfold unpackItems
  refine wpAny_bind ?_
  unfold notIterableAtAll
  refine wpAny_bind (wpAny_specialOf hl.typeIs PySem.F.slot_list_iter.lookup ?_)
  refine wpAny_pure ?_
  simp only [Bool.false_eq_true,if_false]
  refine wpAny_bind (wpAny_holding (v0b p ?_))
  have W:=l0y (prog:=prog) (w:=w) false (A:=A) hh s.heap.objs.size l (Nat.ne_of_lt hlt) its
  refine wpAny_bind (wpAny_holding (q0j W its.size 0 _ _ ⟨.of (Heap.get?_push_size _ rfl) rfl rfl,p.stay fun o e=>Heap.get?_push_of_some _ e⟩ (by omega) fun vs h1 t1 hlen hP st1 k1=>?_))
  have ev:vs=its.toList:=by
    apply List.ext_getElem?
    intro j
    by_cases z:j < vs.length
    · have e1:=hP j _ (List.getElem?_eq_getElem z)
      rw [Nat.zero_add] at e1
      rw [List.getElem?_eq_getElem z,Array.getElem?_toList,e1]
    · rw [List.getElem?_eq_none (by omega),List.getElem?_eq_none (by simp; omega)]
  subst ev
  rw [if_neg (by simp)]
  rw [Nat.zero_add] at st1
  refine wpAny_bind (wpAny_holding (W.done _ _ _ st1 fun h2 t2 k2=>?_))
  simp only [Option.isSome_none,Bool.false_eq_true,if_false]
  refine wpAny_pure (h h2 t2 fun b o e=>?_)
  have nb:b ∉ [s.heap.objs.size]:=fun z=>by
    have z':b=s.heap.objs.size:=by simpa using z
    subst z'
    exact absurd (Heap.lt_size e) (Nat.lt_irrefl _)
  exact k2 b o nb (k1 b o nb (Heap.get?_push_of_some _ e))
end
section
variable {X:Cx} {pos:Pos}
noncomputable def gLst (K:PySem.W.Frag) (n:Nat) (t:TGs):TG:=fun v σ H Q=>∃ a xs,v=.ref a∧SqL K H a xs∧xs.length=n∧t xs σ H Q
theorem c0l {es:List Expr} {k:Nat} {t:TGs} {n:Nat} (hc:X.calm=true) (h:PGs X es t)
    (hn:(assignEach es X.env).length=n:=by rfl) (hst:(assignEach es X.env).findIdx? (·.1)=none:=by rfl):PG X (.Tuple es k pos) (gLst X.K n t):=by
  intro pins s σ H v u Q I r hw
  obtain ⟨a,xs,e1,hq,hl,hw⟩:=hw
  subst e1
  cases r
  obtain ⟨its,rv,pl,hz⟩:=I.list hq
  have p:SqAt false s.heap a its.toArray:=pl.isList
  rw [assign_Tuple]
  refine wpAny_bind (wpAny_standAt (o0j (I.ok.hd hc) pl.isList p (by simp [hn,← hl,rv.length]) hst fun h' tk hx=>?_))
  have I1:Inv X pins σ H { s with heap:=h',toks:=tk }:=I.kept fun b o e=>hx b o e
  exact h pins _ σ H xs _ Q I1 (by simpa using rv) hw
end
end L2
namespace DL
open PySem PySem.Spec L2
noncomputable def g2L (is:List Nat):G2:=fun d ρ=>match d with | .lst ds=>t0c is ds ρ | _=>none
theorem c0k {K:Frag} {is:List Nat} {n:Nat} (hn:is.length=n):TgD K (gLst K n (gAll is)) (g2L is):=fun Y F H σ ρ ρ' δ d v Q I r e k=>by
  unfold g2L at e
  split at e
  · rename_i ds
    obtain ⟨a,vs,rfl,ea,z⟩:=rep_lst.mp r
    obtain ⟨h1,h2⟩:=i0i I z e k
    exact ⟨a,vs,rfl,SqL.of (I.sub _ _ ea),by rw [h2,hn],h1⟩
  · cases e
end DL
namespace L2
open PySem PySem.Spec PyProof.Rows
section
variable {X:Cx}
end
end L2
namespace DL
open PySem PySem.Spec L2
theorem z0h:∀ ns ms:List Int,eqDs (ns.map D.int) (ms.map D.int)=decide (ns=ms)
  | [],[]=>rfl
  | [],_ :: _=>rfl
  | _ :: _,[]=>rfl
  | n :: ns,m :: ms=>by
    rw [List.map_cons,List.map_cons]
    unfold eqDs
    rw [z0h ns ms]
    show (decide (n=m) && _)=_
    by_cases h1:n=m <;> by_cases h2:ns=ms <;> simp [h1,h2]
theorem o6 (ns:List Int):(ns.map D.int).all y0n=true:=by
  rw [List.all_eq_true]
  intro d h
  obtain ⟨n,_,rfl⟩:=List.mem_map.mp h
  rfl
end DL
namespace L2
open PySem PySem.Spec PyProof.Rows
section
variable {X:Cx} {pins:List (Addr×Obj)} {σ:St} {H:Hp} {s:Shared}
end
end L2
namespace DL
open PySem PySem.Spec L2
end DL
namespace L2
open PySem PySem.Spec PyProof.Rows PySem.Calls
section
variable {X:Cx}
end
end L2
namespace DL
open PySem PySem.Spec L2
section
variable {X:Cx} {Y:Y2} {W:XW} {te:TE2} {K:Frag}
noncomputable def w0b (kv:Key×D):D:=.tup [keyD kv.1,kv.2]
end
section
variable {K:Frag}
end
section
variable {X:Cx} {Y:Y2} {W:XW} {e:Expr} {te:TE2} {x:Str} {pos pos':Pos}
end
end DL
namespace DL
open PySem PySem.Spec L2
end DL
namespace DL
open PySem PySem.Spec L2
section
variable {X:Cx} {Y:Y2} {W:XW} {pos pos' bpos:Pos} {a b:Expr} {ta tb:TE2} {x:Str}
end
end DL
namespace L2
open PySem PySem.Spec PyProof.Rows PySem.Calls PySem.W
section
variable {X:Cx}
noncomputable def Itv (a:Addr) (o:Obj) (kvs:List (Key×V)):It :=
  ⟨fun i H=>H a=some (.frz o (.dK kvs))∧i < kvs.length,fun i H v H'=>H'=H∧∃ k,kvs[i]?=some (k,v),fun i H=>H a=some (.frz o (.dK kvs))∧kvs.length=i⟩
theorem KV.at {kvs:List (Key×V)} {vs:List (Key×Value)} (r:KV kvs vs) {i:Nat} (h:i < kvs.length) (h2:i < vs.length):RelV kvs[i].2 vs[i].2:=by
  have h3:=r.vals
  obtain ⟨u,hu,ru⟩:=h3.get (show (kvs.map (·.2))[i]?=some kvs[i].2 by rw [List.getElem?_map,List.getElem?_eq_getElem h]; rfl)
  rw [List.getElem?_map,List.getElem?_eq_getElem h2] at hu
  cases hu
  exact ru
theorem h0h {P:Program} {w:World} {K:PySem.W.Frag} {tg:Expr} (a it:Addr) (o:Obj) (kvs:List (Key×V)) (ep:Nat) (hd:∃ es,o.data=.dict es ep):Turn P w K tg (Itv a o kvs) [it] it (fun i h=>h.IsValIter it a i kvs.length ep) where
  mem:=by simp
  obj:=fun i h st b hb=>by
    have e:b=it:=by simpa using hb
    subst e
    obtain ⟨o,e,c,d⟩:=st
    exact ⟨o,e,fun v z=>by rw [d] at z; cases z⟩
  keep:=fun i h h' st k=>st.at fun o e=>k it (by simp) o e
  item:=by
    intro X hP hw hK hc i pins s σ H E I hf st hg
    subst hP hw hK
    obtain ⟨e,hi⟩:=hg
    obtain ⟨es,hd⟩:=hd
    obtain ⟨hs,vs,rel,hm⟩:=t0b I e hd
    have hl:=rel.length
    obtain ⟨f0,f1,f2,f3,f4,f5⟩:=hf it (by simp)
    have hi2:i < vs.length:=by omega
    rw [hl] at st
    refine wpAny_pyNext_values_item st hm (k:=vs[i].1) (v:=vs[i].2) (by rw [List.getElem?_eq_getElem hi2]) fun h' st' sb=>?_
    have I1:Inv X pins σ H { s with heap:=h' }:=I.turned (t':=s.toks) (fun b o hb e=>(sb.2 b hb).trans e) f0 f1 f3 f4 f5
    obtain ⟨o2,e2,c2,d2⟩:=id st'
    rw [← hl] at st'
    exact ⟨vs[i].2,rfl,k0i (s:={ s with heap:=h' }) e2 c2 d2 (by decide) ⟨kvs[i].2,H,I1,rel.at hi hi2,⟨rfl,kvs[i].1,by rw [List.getElem?_eq_getElem hi]⟩,st',fun b hb=>(hf b hb).1⟩⟩
  done:=by
    intro X hP hw hK hc i pins s σ H E I hf st hg
    subst hP hw hK
    obtain ⟨e,hi⟩:=hg
    obtain ⟨es,hd⟩:=hd
    obtain ⟨hs,vs,rel,hm⟩:=t0b I e hd
    have hl:=rel.length
    obtain ⟨f0,f1,f2,f3,f4,f5⟩:=hf it (by simp)
    rw [hl] at st
    exact wpAny_pyNext_values_end (I.ok.hd hc) st hm (by rw [List.getElem?_eq_none]; omega) fun h' eb=>⟨rfl,I.turned (t':=s.toks) (fun b o hb e=>eb b o hb e) f0 f1 f3 f4 f5⟩
  self:=fun _ _ _ _ _ st h=>wpAny_pyIter_valiter st h
variable {tg:Expr}
noncomputable def iVals (tl:TE):TI:=fun σ H R=>tl σ H fun x H1=>∃ a o kvs,x=.ref a∧H1 a=some (.frz o (.dK kvs))∧R (Itv a o kvs) H1
theorem z1j {o:Expr} {tl:TE} {apos cpos:Pos} (ho:PE X o tl) (hbase:attributeBase o "values" X.env (eval o X.env)=eval o X.env:=by rfl) (hline:(apos.endLine == cpos.line)=true:=by rfl) :
    PI X tg (.Call (.Attribute o "values" apos) [] [] cpos) (iVals tl):=by
  intro pins s σ H R I h
  refine wpAny_Call_method0_late hbase hline (thn (ho pins s σ H _ I h) fun v s1 ⟨x,H1,I1,r1,a,ob,kvs,e,hq,q⟩=>?_)
  subst e
  cases (show v=Value.ref a from r1)
  have rd:Rd H1 a (.dK kvs):=.inr ⟨ob,hq⟩
  obtain ⟨t1,t2,hsm⟩:=r0a I1 (.inl ⟨kvs,rd⟩)
  obtain ⟨hz,_,vs,rel,dd⟩:=u0f I1.hok rd
  refine ⟨"dict","dict.values",PySem.F.plainAttrs_dict,PySem.F.slot_dict_values,PySem.F.type_dict_values,t1,t2,Calls.callWith_builtin rfl (PySem.evalArgs_none ?_)⟩
  refine call_meetsIn PySem.F.slot_dict_values dd.typeIs PySem.F.entry_dict_values (PySem.F.args_dict_values_1 _) (meets_dict_values (v4 X.prog X.w) a hsm) ⟨⟨vs,dd⟩,?_⟩
  obtain ⟨ho2,_,_,vs0,_,hm0⟩:=(show s1.heap.get? a=some ob∧kvs.length≤sizeLine∧(a == sysModules)=false∧∃ vs,KV kvs vs∧s1.heap.DictOf (v4 X.prog X.w) a vs from I1.hok a _ hq)
  obtain ⟨ep,o',es,ho',_,hd,_⟩:=hm0.dictAt
  rw [ho2] at ho'
  cases ho'
  obtain ⟨hs,vs2,rel2,hm⟩:=t0b I1 hq hd
  refine wpAny_pyIter_values (knd:=v4 X.prog X.w) ⟨_,Heap.get?_push_size _ rfl,rfl,rfl⟩ (hm.push _) ?_
  have I2:Inv X pins σ H1 { s1 with heap:=s1.heap.push { cls:=.type "dict_values",data:=.fields #[.ref a] } }:=I1.kept (t':=s1.toks) fun b o e=>Heap.get?_push_of_some _ e
  refine ⟨(s1.heap.push { cls:=.type "dict_values",data:=.fields #[.ref a] }).objs.size,[_],_,_,H1,rfl,I2.kept (t':=s1.toks) fun b o e=>Heap.get?_push_of_some _ e,h0h a _ ob kvs ep ⟨es,hd⟩,⟨_,Heap.get?_push_size _ rfl,rfl,by rw [rel2.length]; rfl⟩,fun b hb=>?_,q⟩
  have e:b=(s1.heap.push { cls:=.type "dict_values",data:=.fields #[.ref a] }).objs.size:=by simpa using hb
  subst e
  exact I2.fpOk (Nat.le_refl _) (I2.hok.fresh (Nat.le_refl _))
noncomputable def e0g (td:TE):TE:=fun σ H Q=>td σ H fun x H1=>∃ a kvs,∃ ns:List Int,x=.ref a∧Rd H1 a (.dK kvs)∧kvs.map (·.2)=ns.map V.int∧ns≠[]∧∀ m,IsMin ns m→Q (.int m) H1
theorem k0v {o:Expr} {td:TE} {apos cpos p2 pos2:Pos} (hc:X.calm=true) (hg2:Gl X "min") (hm2:X.mg "min" = none) (ho:PE X o td) (hbase:attributeBase o "values" X.env (eval o X.env)=eval o X.env:=by rfl) (hline:(apos.endLine == cpos.line)=true:=by rfl)
    (hs2:starEach [.Call (.Attribute o "values" apos) [] [] cpos] X.env=[(false,eval (.Call (.Attribute o "values" apos) [] [] cpos) X.env)]:=by rfl) :
    PE X (.Call (.Name "min" p2) [.Call (.Attribute o "values" apos) [] [] cpos] [] pos2) (e0g td):=by
  intro pins s σ H Q I h
  refine wpAny_Call_Name_kw (o8 I hg2 hm2 j0b (PyProof.Rows.callWith_builtin1 ?_ hs2 rfl) (by decide) (by decide))
  rw [hs2]
  refine Calls.spliced_cons ?_
  refine wpAny_Call_method0_late hbase hline (thn (ho pins s σ H _ I h) fun v s1 ⟨x,H1,I1,r1,a,kvs,ns,e,rd,ens,hne,q1⟩=>?_)
  subst e
  cases (show v=Value.ref a from r1)
  obtain ⟨t1,t2,hsm⟩:=r0a I1 (.inl ⟨kvs,rd⟩)
  obtain ⟨hz,_,vs,rel,dd⟩:=u0f I1.hok rd
  refine ⟨"dict","dict.values",PySem.F.plainAttrs_dict,PySem.F.slot_dict_values,PySem.F.type_dict_values,t1,t2,Calls.callWith_builtin rfl (PySem.evalArgs_none ?_)⟩
  refine call_meetsIn PySem.F.slot_dict_values dd.typeIs PySem.F.entry_dict_values (PySem.F.args_dict_values_1 _) (meets_dict_values (v4 X.prog X.w) a hsm) ⟨⟨vs,dd⟩,Calls.spliced_nil ?_⟩
  obtain ⟨ep,hat⟩:=dd.dictAt
  have hlt:a < s1.heap.objs.size:=hat.lt_size
  have r:Vals (ns.map V.int) (vs.map (·.2)):=by rw [← ens]; exact rel.vals
  have hlen:vs.length=ns.length:=by have:=r.length; simpa using this.symm
  have hpos:0 < ns.length:=List.length_pos_iff.mpr hne
  refine call_min_walk (wpAny_pyIter_values (knd:=v4 X.prog X.w) ⟨_,Heap.get?_push_size _ rfl,rfl,rfl⟩ (hat.push _) ?_)
  have g:((s1.heap.push { cls:=.type "dict_values",data:=.fields #[.ref a] }).push { cls:=.type "dict_valueiterator",data:=.fields #[.ref a,.int 0 0,.int vs.length 0,.int ep 0] }).get? (s1.heap.push { cls:=.type "dict_values",data:=.fields #[.ref a] }).objs.size=some { cls:=.type "dict_valueiterator",data:=.fields #[.ref a,.int 0 0,.int vs.length 0,.int ep 0] }:=Heap.get?_push_size _ rfl
  rw [Heap.size_push] at g ⊢
  have hval:∀ i v,(∃ k,vs[i]?=some (k,v))→∃ t,v=Value.int (ns.getD i 0) t:=fun i v ⟨k,hP⟩=>c0m r (by rw [List.getElem?_map,hP]; rfl)
  refine ⟨s1.heap.objs.size + 1,[s1.heap.objs.size + 1,a],[s1.heap.objs.size + 1],vs.length,_,_,_,rfl,Walks.dictValues (knd:=v4 X.prog X.w) (A:=X.A.in1) (I1.ok.hd hc) _ a (Nat.ne_of_lt (Nat.lt_succ_of_lt hlt)) vs ep,
    ⟨⟨_,g,rfl,rfl⟩,(hat.push _).push _⟩,fun c hcm=>?_,by rw [hlen]; exact hpos,CmpOf.ints_lt (fun i=>ns.getD i 0) hval,fun v h' tk hP hk=>?_⟩
  · show c < ((s1.heap.push _).push _).objs.size
    rw [Heap.size_push,Heap.size_push]
    have:c=s1.heap.objs.size + 1∨c=a:=by simpa using hcm
    rcases this with rfl | rfl
    · exact Nat.lt_succ_self _
    · exact Nat.lt_succ_of_lt (Nat.lt_succ_of_lt hlt)
  · obtain ⟨t,rfl⟩:=hval _ _ hP
    refine ⟨.int _,H1,I1.kept fun c o e=>hk c o (fun z=>?_) (Heap.get?_push_of_some _ (Heap.get?_push_of_some _ e)),⟨t,rfl⟩,q1 _ ?_⟩
    · have z':c=s1.heap.objs.size + 1:=by simpa using z
      subst z'
      exact absurd (Heap.lt_size e) (Nat.not_lt.mpr (Nat.le_succ _))
    · rw [hlen]
      exact l0s ns hpos
noncomputable def LayP:Hp→List (Key×V)→List V→VK→Prop
  | H,[],acc,Q=>∀ p,H p=none→Q (.ref p) (upd H p (.lst acc))
  | H,(k,v) :: r,acc,Q=>∀ p,H p=none→LayP (upd H p (.tup [kV k,v])) r (acc++[.ref p]) Q
theorem HOk.put {P:Program} {w:World} {H:Hp} {h:Heap} {a:Addr} {o:HO} (x:HOk P w H h) (hn:H a=none) (new:ObjOk P w (upd H a o) h a o):HOk P w (upd H a o) h:=fun b u e=>by
  by_cases hb:b=a
  · subst hb; rw [o3] at e; cases e; exact new
  · rw [y0 hb] at e
    exact (x b u e).stay (fun c v _ q=>q) (fun c q=>by rw [y0 (u0 q hn)]; exact q) fun c xs q=>by rw [y0 (u0 q hn)]; exact q
theorem Un.put {fs:List Addr} {H H1:Hp} {h h1:Heap} {a:Addr} {o:HO} (u:Un fs [] H H1 h h1) (hp:h.objs.size≤a) (hn:H1 a=none):Un fs [] H (upd H1 a o) h h1 where
  keep:=u.keep
  slot:=u.slot
  free:=fun b v q n z=>by rw [y0 (Nat.ne_of_lt (Nat.lt_of_lt_of_le (Heap.lt_size q) hp))]; exact u.free b v q n z
  there:=u.there
  tups:=fun b xs q=>by rw [y0 (u0 (u.tups b xs q) hn)]; exact u.tups b xs q
  frzs:=fun b v xs q=>by rw [y0 (u0 (u.frzs b v xs q) hn)]; exact u.frzs b v xs q
  tbls:=fun b ps q=>by
    obtain ⟨more,e⟩:=u.tbls b ps q
    exact ⟨more,by rw [y0 (u0 e hn)]; exact e⟩
theorem Un.keptU {fs:List Addr} {H:Hp} {h h':Heap} (k:∀ b u,h.get? b=some u→h'.get? b=some u):Un fs [] H H h h' where
  keep:=fun b u q _ _ _=>k b u q
  slot:=fun b u q _ _ _=>⟨u.slots,k b u q⟩
  free:=fun b u q n _=>n
  there:=fun b u q _=>⟨u,k b u q⟩
  tups:=fun b xs q=>q
  frzs:=fun b u xs q=>q
  tbls:=fun b ps q=>⟨#[],by rw [q]; simp⟩
theorem h0g {fs:List Addr} {P:Program} {w:World} {H:Hp} {h h':Heap} {Q:VK} {S:Addr} (hS:h.objs.size≤S):∀ (kvs:List (Key×V)) (vs:List (Key×Value)) (as:List Addr) (acc:List V) (H1:Hp),KV kvs vs→as.length=kvs.length→as.Pairwise (· < ·)→(∀ a∈as,S < a) →
    (∀ (j:Nat) (a:Addr),as[j]?=some a→∃ key k x,vs[j]?=some (k,x)∧(v4 P w).is k key=true∧h'.get? a=some { cls:=.type "tuple",data:=.seq #[key,x] })→H1 S=none→(∀ a∈as,H1 a=none)→Un fs [] H H1 h h'→HOk P w H1 h'→LayP H1 kvs acc Q →
    ∃ H2,Un fs [] H H2 h h'∧HOk P w H2 h'∧H2 S=none∧Q (.ref S) (upd H2 S (.lst (acc++as.map V.ref)))
  | [],vs,as,acc,H1,rel,hl,hr,ha,hg,h1,h2,u,ok,q=>by
    have:as=[]:=List.eq_nil_of_length_eq_zero hl
    subst this
    exact ⟨H1,u,ok,h1,by rw [List.map_nil,List.append_nil]; exact q S h1⟩
  | (k,v) :: kvs,vs,[],acc,H1,rel,hl,hr,ha,hg,h1,h2,u,ok,q=>by cases hl
  | (k,v) :: kvs,[],a :: as,acc,H1,rel,hl,hr,ha,hg,h1,h2,u,ok,q=>by cases rel
  | (k,v) :: kvs,(k',v') :: vs,a :: as,acc,H1,rel,hl,hr,ha,hg,h1,h2,u,ok,q=>by
    have hn:=h2 a (List.mem_cons_self ..)
    have hSa:=ha a (List.mem_cons_self ..)
    obtain ⟨key,kk,x,e1,e2,e3⟩:=hg 0 a rfl
    cases e1
    unfold KV at rel
    cases rel with
    | cons r0 rel =>
      have hr2:=List.pairwise_cons.mp hr
      obtain ⟨r1,r2⟩:=r0
      have r1:k=k':=r1
      subst r1
      have new:ObjOk P w (upd H1 a (.tup [kV k,v])) h' a (.tup [kV k,v]):=⟨by show 2≤sizeLine; decide,[key,v'],.cons (is_kV e2) (.cons r2 .nil),⟨_,e3,rfl,_,rfl⟩⟩
      obtain ⟨H2,z1,z2,z3,z4⟩:=h0g hS kvs vs as (acc++[.ref a]) (upd H1 a (.tup [kV k,v])) rel (Nat.succ.inj hl) hr2.2 (fun b hb=>ha b (List.mem_cons_of_mem _ hb)) (fun j b hj=>hg (j + 1) b hj) (by rw [y0 (Nat.ne_of_lt hSa)]; exact h1) (fun b hb=>by rw [y0 (Nat.ne_of_gt (hr2.1 b hb))]; exact h2 b (List.mem_cons_of_mem _ hb)) (u.put (Nat.le_of_lt (Nat.lt_of_le_of_lt hS hSa)) hn) (ok.put hn new) (q a hn)
      exact ⟨H2,z1,z2,z3,by rw [List.map_cons,show acc++V.ref a :: as.map V.ref=acc++[V.ref a]++as.map V.ref by simp]; exact z4⟩
noncomputable def z1i (td:TE):TE:=fun σ H Q=>td σ H fun x H1=>∃ a kvs,x=.ref a∧Rd H1 a (.dK kvs)∧LayP H1 kvs [] Q
theorem q0i {o:Expr} {td:TE} {apos cpos p2 pos2:Pos} (hc:X.calm=true) (hg2:Gl X "list") (hm2:X.mg "list" = none) (ho:PE X o td) (hbase:attributeBase o "items" X.env (eval o X.env)=eval o X.env:=by rfl) (hline:(apos.endLine == cpos.line)=true:=by rfl)
    (hs2:starEach [.Call (.Attribute o "items" apos) [] [] cpos] X.env=[(false,eval (.Call (.Attribute o "items" apos) [] [] cpos) X.env)]:=by rfl) :
    PE X (.Call (.Name "list" p2) [.Call (.Attribute o "items" apos) [] [] cpos] [] pos2) (z1i td):=by
  intro pins s σ H Q I h
  refine wpAny_Call_Name_kw (o8 I hg2 hm2 y8 (PyProof.Rows.callWith_type1 ?_ hs2 rfl) (by decide) (by decide))
  rw [hs2]
  refine Calls.spliced_cons ?_
  refine wpAny_Call_method0_late hbase hline (thn (ho pins s σ H _ I h) fun v s1 ⟨x,H1,I1,r1,a,kvs,e,rd,q1⟩=>?_)
  subst e
  cases (show v=Value.ref a from r1)
  obtain ⟨t1,t2,hsm⟩:=r0a I1 (.inl ⟨kvs,rd⟩)
  obtain ⟨hz,_,vs,rel,dd⟩:=u0f I1.hok rd
  refine ⟨"dict","dict.items",PySem.F.plainAttrs_dict,PySem.F.slot_dict_items,PySem.F.type_dict_items,t1,t2,Calls.callWith_builtin rfl (PySem.evalArgs_none ?_)⟩
  refine call_meetsIn PySem.F.slot_dict_items dd.typeIs PySem.F.entry_dict_items (PySem.F.args_dict_items_1 _) (meets_dict_items (v4 X.prog X.w) a hsm) ⟨⟨vs,dd⟩,Calls.spliced_nil ?_⟩
  obtain ⟨ep,hat⟩:=dd.dictAt
  have hlen:=rel.length
  refine kdx_call (knd:=v4 X.prog X.w) (kvs:=vs) (ep:=ep) (I1.ok.hd hc) ⟨_,Heap.get?_push_size _ rfl,rfl,rfl⟩ (hat.push _) (by rw [← rel.length]; exact hz) fun h' tk acc c as hk hS hl hG hacc=>?_
  rw [Heap.size_push] at hS hG ⊢
  have kp:∀ b u,s1.heap.get? b=some u→h'.get? b=some u:=fun b o e=>hk b o (Heap.get?_push_of_some _ e)
  have hge:s1.heap.objs.size≤s1.heap.objs.size + 1:=Nat.le_succ _
  obtain ⟨H2,u2,ok2,n2,q2⟩:=h0g (fs:=X.fs) (P:=X.prog) (w:=X.w) (H:=H1) (h:=s1.heap) (h':=h') (Q:=Q) (S:=s1.heap.objs.size + 1) hge kvs vs as [] H1 rel (by rw [hl,← hlen]) hG.rise hG.above hG.pairs (I1.hok.fresh hge) (fun b hb=>I1.hok.fresh (Nat.le_of_lt (Nat.lt_of_le_of_lt hge (hG.above b hb)))) (Un.keptU kp) (I1.hok.kept kp) q1
  have vr:∀ l:List Addr,Vals (l.map V.ref) (l.map Value.ref):=fun l=>by
    induction l with
    | nil=>exact .nil
    | cons a l ih=>exact .cons rfl ih
  have new:ObjOk X.prog X.w (upd H2 (s1.heap.objs.size + 1) (.lst (as.map V.ref))) h' (s1.heap.objs.size + 1) (.lst (as.map V.ref)):=⟨by rw [List.length_map,hl,← hlen]; exact hz,acc.toList,c,by rw [hacc]; exact vr as,by simpa using hS⟩
  exact ⟨.ref (s1.heap.objs.size + 1),_,I1.un (t':=tk) (u2.put hge n2) (ok2.put n2 new),rfl,by rw [List.nil_append] at q2; exact q2⟩
end
end L2
namespace DL
open PySem PySem.Spec L2
section
variable {X:Cx} {Y:Y2} {W:XW} {te:TE2} {K:Frag} {tg:Expr}
noncomputable def h0f (te:TE2):TI2:=fun x ρ δ q=>te x ρ δ fun d ρ1 δ1=>match d with | .dwk kvs=>q (kvs.map (·.2)) ρ1 δ1 | _=>False
theorem z1h {o:Expr} {apos cpos:Pos} (hl:PE2 X Y W o te) (hbase:attributeBase o "values" X.env (eval o X.env)=eval o X.env:=by rfl) (hline:(apos.endLine == cpos.line)=true:=by rfl) :
    PI2 X Y W tg (.Call (.Attribute o "values" apos) [] [] cpos) (h0f te):=pi2 (z1j hl.go hbase hline) fun σ H R ⟨F,ρ,δ,x,q,I,h,k,kx⟩=>by
  refine ⟨F,ρ,δ,x,_,I,h,fun d v F' H' ρ' δ' I' s' r' h'=>?_,kx⟩
  split at h'
  · rename_i kvs
    obtain ⟨a,o,us,rfl,e2,z⟩:=rep_dwk.mp r'
    have hl:=RepK.length z
    refine ⟨a,o,us,rfl,I'.sub _ _ e2,k _ _ F' H' ρ' δ' I' s' ⟨fun i d F2 H2 e s1 s2=>⟨⟨s2 _ _ (s1 _ _ e2),?_⟩,fun u H3 y=>?_⟩,fun F2 H2 s1 s2=>⟨s2 _ _ (s1 _ _ e2),by rw [List.length_map]; exact hl⟩⟩ h'⟩
    · have:=(List.getElem?_eq_some_iff.mp e).1
      rw [List.length_map] at this
      omega
    · obtain ⟨rfl,kk,e3⟩:=y
      obtain ⟨dd,e4,r4⟩:=RepK.get z i kk u e3
      rw [List.getElem?_map,e4] at e
      cases e
      exact .inl ⟨rfl,r4.mono s1⟩
  · exact h'.elim
theorem lay_d {σ:St} {ρ:En} {δ:Dk} {Q:VK}:∀ (kvs:List (Key×D)) (us:List (Key×V)) (ds:List D) (vs:List V) (F H:Hp),I2 K Y F H σ ρ δ→RepK K F kvs us→Reps K F ds vs→(∀ v F' H',I2 K Y F' H' σ ρ δ→Same F F'→Rep K F' (.lst (ds++kvs.map w0b)) v→Q v H')→LayP H us vs Q
  | [],us,ds,vs,F,H,I,z,r,k=>by
    unfold RepK at z
    subst z
    unfold LayP
    exact fun p hp=>k _ _ _ (I.alloc hp) (I.grow hp) (by rw [List.map_nil,List.append_nil]; exact I.lst hp r)
  | (x,d) :: kvs,us,ds,vs,F,H,I,z,r,k=>by
    unfold RepK at z
    obtain ⟨v,l,rfl,q,z⟩:=z
    unfold LayP
    intro p hp
    refine lay_d kvs l (ds++[w0b (x,d)]) _ _ _ (I.alloc hp) (z.mono (I.grow hp)) (Reps.append (r.mono (I.grow hp)) (Reps.cons (I.tup hp (Reps.cons (h0o x) (Reps.cons q Reps.nil))) Reps.nil)) fun v F' H' I' s' r'=>k v F' H' I' ((I.grow hp).trans s') ?_
    rw [List.map_cons,show ds++w0b (x,d) :: kvs.map w0b=ds++[w0b (x,d)]++kvs.map w0b by simp]
    exact r'
end
section
variable {X:Cx} {Y:Y2} {W:XW} {x:Str} {p apos cpos p2 pos2:Pos}
noncomputable def v0o (i:Nat):TE2:=fun _ ρ δ q=>match dicV ρ i with | some kvs=>q (.lst (kvs.map w0b)) ρ δ | none=>False
theorem h0e (i:Nat) (hc:X.calm=true) (hm:X.mg "list" = none) (hg:Gl X "list" := by rfl) (hN:X.N[i]?=some x:=by rfl) (hv:Vis X.env.scope x:=by walk_at "v3") (hd:(x == ("__debug__" : Str))=false:=by decide)
    (hcd:(x == ("__classdict__" : Str))=false:=by decide) (hbase:attributeBase (.Name x p) "items" X.env (eval (.Name x p) X.env)=eval (.Name x p) X.env:=by rfl) (hline:(apos.endLine == cpos.line)=true:=by rfl)
    (hs2:starEach [.Call (.Attribute (.Name x p) "items" apos) [] [] cpos] X.env=[(false,eval (.Call (.Attribute (.Name x p) "items" apos) [] [] cpos) X.env)]:=by rfl) :
    PE2 X Y W (.Call (.Name "list" p2) [.Call (.Attribute (.Name x p) "items" apos) [] [] cpos] [] pos2) (v0o i):=pe2 (q0i hc hg hm (u7 hN hv hd hcd) hbase hline hs2) fun σ H Q ⟨F,ρ,δ,x,q,I,h,k,kx⟩=>by
  unfold v0o at h
  split at h
  · rename_i kvs e
    obtain ⟨a,us,ea,hh,z⟩:=q0k I e
    exact ⟨_,ea,a,us,rfl,hh,lay_d kvs us [] [] F H I z Reps.nil fun v F' H' I' s' r'=>k _ _ _ _ ρ δ I' s' r' h⟩
  · exact h.elim
noncomputable def x0m (i:Nat):TE2:=fun _ ρ δ q=>match dicV ρ i with | some kvs=>(match u0x (kvs.map (·.2)) with | some ns=>ns≠[]∧∀ m,IsMin ns m→q (.int m) ρ δ | none=>False) | none=>False
theorem k0u (i:Nat) (hc:X.calm=true) (hm:X.mg "min" = none) (hg:Gl X "min" := by rfl) (hN:X.N[i]?=some x:=by rfl) (hv:Vis X.env.scope x:=by walk_at "v3") (hd:(x == ("__debug__" : Str))=false:=by decide)
    (hcd:(x == ("__classdict__" : Str))=false:=by decide) (hbase:attributeBase (.Name x p) "values" X.env (eval (.Name x p) X.env)=eval (.Name x p) X.env:=by rfl) (hline:(apos.endLine == cpos.line)=true:=by rfl)
    (hs2:starEach [.Call (.Attribute (.Name x p) "values" apos) [] [] cpos] X.env=[(false,eval (.Call (.Attribute (.Name x p) "values" apos) [] [] cpos) X.env)]:=by rfl) :
    PE2 X Y W (.Call (.Name "min" p2) [.Call (.Attribute (.Name x p) "values" apos) [] [] cpos] [] pos2) (x0m i):=pe2 (k0v hc hg hm (u7 hN hv hd hcd) hbase hline hs2) fun σ H Q ⟨F,ρ,δ,x,q,I,h,k,kx⟩=>by
  unfold x0m at h
  split at h
  · rename_i kvs e
    split at h
    · rename_i ns en
      obtain ⟨a,us,ea,hh,z⟩:=q0k I e
      exact ⟨_,ea,a,us,ns,rfl,hh,h0x en z.reps,h.1,fun m hm=>k _ _ F H ρ δ I (Same.refl F) (rep_int.mpr rfl) (h.2 m hm)⟩
    · exact h.elim
  · exact h.elim
end
end DL
namespace L2
open PySem PySem.Spec PyProof.Rows
open AutoSeq1 (wpAny_loadPart')
section
variable {prog:Program} {w:World} {A:Around} {E:Value→Shared→Prop} {s:Shared}
theorem u0w {T newId initId:String} {Bn Bi:Builtin} {args:List Value} {kw:List (Str×Value)} {S:PySem.Spec} {Q Q₁:Value→Shared→Prop} (ft:TypeCalled T newId initId)
    (hct:checkTypeCall T ⟨args,kw⟩=pure ()) (hcn:checkBuiltinCall newId ⟨.type T :: args,kw⟩=pure ())
    (entryN:entryFor table newId=some Bn) (entryI:entryFor table initId=some Bi) (g:Meets (Bn ⟨.type T :: args,kw⟩) S)
    (h:S A.in1 (wants Q₁ E) s)
    (hnext:∀ obj s₁,Q₁ obj s₁→s₁.TypeIs obj T∧argsOk initId ⟨obj :: args,kw⟩∧∃ Si,Meets (Bi ⟨obj :: args,kw⟩) Si∧Si A.in1 (wants (fun r s₂=>r=.none∧Q obj s₂) E) s₁) :
    wpAny (model prog w) A (call (.type T) args kw) Q E s:=by
  obtain ⟨c,tl,hmro⟩:=ft.mro
  have hmade:=ft.made
  have hsub:=ft.sub
  refine wpAny_call (codeAny_of_tree ?_)
  show wpAny _ _ (callAny (.type T) _) _ _ _
  refine wpAny_pure ⟨Code.quiet_builtin _ (by decide +kernel),codeAny_builtin F.entry_type_call ?_⟩
  rw [Around.under_plain (weight_type_call_type T args kw) (units_type_call_type T args kw)]
  have h1:=ft.notType
  have h2:=ft.canCreate
  repeat (any_goals (first | assumption | wp_step))
  refine codeAny_mono (codeAny_call_builtin ft.plain entryN (wpAny_of_eq hcn (g prog w A.in1 _ s h))) fun r s₁ hr=>?_
  cases r with
  | error e=>exact hr
  | ok fl =>
    cases fl with
    | ret obj =>
      obtain ⟨hT,hok,Si,gi,hsi⟩:=hnext _ _ hr
      have hli:=ft.init.lookup
      have hbi:=ft.init.bind obj
      repeat (any_goals (first | assumption | wp_step))
      refine codeAny_mono (codeAny_call_builtin ft.init.plain entryI (ft.init.check _ _ _ _ _ _ _ _ hT hok (gi prog w A.in1 _ s₁ hsi))) fun r₂ s₂ hr₂=>?_
      cases r₂ with
      | error e=>exact hr₂
      | ok fl₂ =>
        cases fl₂ with
        | ret r =>
          obtain ⟨rfl,hq⟩:=hr₂
          repeat (any_goals (first | assumption | wp_step))
        | _=>exact hr₂.elim
    | _=>exact hr.elim
end
theorem x0l {T newId:String} {self:Value} {a:Value} {rest:List Value} {kw:List (Str×Value)} (hl:typeLookup (.type T) "__init__" = pure (some (.builtin "object.__init__")))
    (hm:Bind.madeBy (.type T)=pure (some newId)) (hne:(some newId != some "object.__new__")=true) :
    Meets (Builtin.«object.__init__» ⟨self :: a :: rest,kw⟩) (fun _ R s=>s.TypeIs self T∧R (.ok (.ret .none)) s):=by
  refine Meets.of_wp fun prog w A R s hs=>?_
  obtain ⟨hT,hq⟩:=hs
  repeat (any_goals (first | assumption | wp_step))
  exact ⟨_,rfl,hq⟩
theorem h0d (b:Bool) (l:Addr) (xs:Array Value) (n:Int) (t:Tok) (hf:Builtin.SmallTypes.fitsIndex n=true) :
    Meets (Builtin.«enumerate.__new__» ⟨[.type "enumerate",.ref l],[("start",.int n t)]⟩) (fun _ R s=>SqAt b s.heap l xs ∧
      R (.ok (.ret (.ref (enH b s.heap l).objs.size))) { s with heap:=(enH b s.heap l).push { cls:=.type "enumerate",data:=.fields #[.none,.bool false,.ref s.heap.objs.size,rawInt n,.none,.none] } }) :=
  .of_wp fun prog w A R s h=>by
    obtain ⟨hp,g,d,tk,os⟩:=s
    obtain ⟨hl,h⟩:=h
    have hsub:=sub_enumerate
    have q1:SqAt b (Shared.heap ⟨hp,g,d,tk,os⟩) l xs:=hl
    have hb:Str.ofString "start" == Str.ofString "start" := by decide
    wp_walk
    refine wpAny_stack_any fun st=>wpAny_pure ?_
    split
    · rename_i c _ _ _ _ _
      cases (c == Value.type "enumerate")
      · wp_walk using v0b q1
        exact ⟨_,rfl,h⟩
      · wp_walk using v0b q1
        exact ⟨_,rfl,h⟩
    · wp_walk using v0b q1
      exact ⟨_,rfl,h⟩
theorem q0h (a v:Value):checkTypeCall "enumerate" ⟨[a],[("start",v)]⟩=pure ():=by kernel_rfl
theorem o0i (a v:Value):checkBuiltinCall "enumerate.__new__" ⟨[.type "enumerate",a],[("start",v)]⟩=pure ():=by kernel_rfl
theorem q0g (o a v:Value):argsOk "object.__init__" ⟨[o,a],[("start",v)]⟩:=by
  unfold argsOk
  kernel_rfl
section
variable {prog:Program} {w:World} {A:Around} {E:Value→Shared→Prop} {s:Shared}
theorem e0f {b:Bool} {l:Addr} {xs:Array Value} {n:Int} {t:Tok} {Q:Value→Shared→Prop} (hf:Builtin.SmallTypes.fitsIndex n=true) (hq:SqAt b s.heap l xs)
    (h:∀ h',IsEnum h' (s.heap.objs.size + 1) s.heap.objs.size n .none→ItAt b h' s.heap.objs.size l 0→(∀ b o,s.heap.get? b=some o→h'.get? b=some o)→Q (.ref (s.heap.objs.size + 1)) { s with heap:=h' }) :
    wpAny (model prog w) A (call (.type "enumerate") [.ref l] [("start",.int n t)]) Q E s:=by
  refine u0w (Q₁:=fun obj s₁=>s₁.TypeIs obj "enumerate" ∧ Q obj s₁) F.called_enumerate (q0h _ _) (o0i _ _) F.entry_enumerate_new F.entry_object_init (h0d b l xs n t hf) ⟨hq,?_⟩ fun obj _ hq =>
    ⟨hq.1,q0g obj _ _,_,x0l F.called_enumerate.init.lookup F.called_enumerate.made (by decide),hq.1,rfl,hq.2⟩
  have hz:(enH b s.heap l).objs.size=s.heap.objs.size + 1:=Heap.size_push ..
  have he:=Heap.get?_push_size (enH b s.heap l) (o:={ cls:=.type "enumerate",data:=.fields #[.none,.bool false,.ref s.heap.objs.size,rawInt n,.none,.none] }) rfl
  have hi:ItAt b ((enH b s.heap l).push { cls:=.type "enumerate",data:=.fields #[.none,.bool false,.ref s.heap.objs.size,rawInt n,.none,.none] }) s.heap.objs.size l 0:=by
    cases b
    · exact ⟨_,Heap.get?_push_of_some _ (Heap.get?_push_size _ rfl),rfl,rfl⟩
    · exact ⟨_,Heap.get?_push_of_some _ (Heap.get?_push_size _ rfl),rfl,rfl⟩
  show _∧_
  rw [hz] at he ⊢
  exact ⟨⟨_,he,rfl⟩,h _ he hi fun b o x=>Heap.get?_push_of_some _ (Heap.get?_push_of_some _ x)⟩
end
theorem o0h {prog:Program} {w:World} {A:Around} {it:Addr} {fp:List Addr} {n:Nat} {P:Nat→Value→Prop} {St:Nat→Heap→Prop} (D:Draws prog w A it fp n P St) (m:Nat):Draws prog w A it fp (m + n) (fun j v=>∃ i,j=m + i∧P i v) (fun j h=>∃ i,j=m + i∧St i h) where
  live:=fun i h ⟨j,_,st⟩=>D.live j h st
  frame:=fun i h h' ⟨j,e,st⟩ k=>⟨j,e,D.frame j h h' st k⟩
  item:=fun i s Q E hi ⟨j,e,st⟩ hQ=>D.item j s Q E (by omega) st fun x h' tk p st' sb=>hQ x h' tk ⟨j,e,p⟩ ⟨j + 1,by omega,st'⟩ sb
  done:=fun s Q E ⟨j,e,st⟩ hE=>D.done s Q E (by rw [Nat.add_left_cancel e]; exact st) hE
noncomputable def IteK (K:PySem.W.Frag) (b:Bool) (a:Addr) (m:Nat):It :=
  ⟨fun i H=>∃ xs x,Sq K b H a xs∧xs[i]?=some x,
   fun i H v H'=>∃ p x,H p=none∧v=.ref p∧H'=upd H p (.tup [.int ((m + i:Nat):Int),x])∧∀ xs,Sq K b H a xs→xs[i]?=some x,
   fun i H=>∃ xs,Sq K b H a xs∧xs.length=i⟩
noncomputable def enumTK (b:Bool) (a e j:Addr) (m i:Nat) (h:Heap):Prop:=(∃ old,IsEnum h e j ((m + i:Nat):Int) old)∧ItAt b h j a i
theorem k0t {P:Program} {w:World} {K:PySem.W.Frag} {elts:List Expr} {x1} {pos:Pos} (b:Bool) (a e j:Addr) (m:Nat) (hej:e≠j) (na:a≠e∧a≠j) :
    Turn P w K (.Tuple elts x1 pos) (IteK K b a m) [e,j] e (enumTK b a e j m) where
  mem:=by simp
  obj:=fun i h st c hc=>by
    obtain ⟨⟨old,he⟩,h1⟩:=st
    have hc':c=e∨c=j:=by simpa using hc
    rcases hc' with rfl | rfl
    · exact ⟨_,he,fun v q=>by simp at q⟩
    · obtain ⟨o,e,_,d⟩:=h1.obj; exact ⟨o,e,fun v q=>by rw [d] at q; cases q⟩
  keep:=fun i h h' st k=>by
    obtain ⟨⟨old,he⟩,h1⟩:=st
    exact ⟨⟨old,k e (by simp) _ he⟩,h1.stay fun o e=>k j (by simp) o e⟩
  item:=by
    intro X hP hw hK hc i pins s σ H E I hf st hg
    subst hP hw hK
    obtain ⟨xs,x,q1,e1⟩:=hg
    obtain ⟨its1,r1,p1,z1⟩:=I.sq q1
    obtain ⟨u1,g1,v1⟩:=r1.get e1
    obtain ⟨⟨old,he⟩,h1⟩:=st
    have l1:=(List.getElem?_eq_some_iff.mp g1).1
    have hh:X.A.in1.handled=none:=I.ok.hd hc
    have D1:=o0h (v0s b (prog:=X.prog) (w:=X.w) hh j a na.2 its1.toArray) m
    refine wpAny_pyNext_enum_itemD D1 he ⟨i,rfl,h1,p1⟩ (by simpa using l1) hej (by simp [hej,na.1.symm]) fun x' h' tk px ho st1 hT' hsz kk=>⟨_,rfl,?_⟩
    obtain ⟨i2,ei,px⟩:=px
    have ei:i2=i:=by omega
    subst ei
    obtain ⟨i3,ei,st1⟩:=st1
    have ei:i3=i2 + 1:=by omega
    subst ei
    have ex:x'=u1:=by
      have px':its1.toArray[i2]?=some x':=px
      rw [List.getElem?_toArray,g1] at px'
      exact (Option.some.inj px').symm
    subst ex
    refine wpAny_letOwnedTupleGo_enum (s:={ s with heap:=h',toks:=tk + 1 }) ho fun h₂ he₂ hs₂=>?_
    replace hs₂:Heap.SameBut e h' h₂:=hs₂
    have hfr:H s.heap.objs.size=none:=I.hok.fresh (Nat.le_refl _)
    have Il:Inv X pins σ (upd H s.heap.objs.size (.tup [.int ((m + i2:Nat):Int),x])) { s with heap:=s.heap.push { cls:=.type "tuple",data:=.seq #[.int ((m + i2:Nat):Int) tk,x'] } }:=I.laid (t':=s.toks) (fun b u e=>Heap.get?_push_of_some _ e) (Nat.le_refl _)
      ⟨by show 2≤sizeLine; decide,[.int ((m + i2:Nat):Int) tk,x'],.cons ⟨tk,rfl⟩ (.cons v1 .nil),⟨_,Heap.get?_push_size _ rfl,rfl,_,rfl⟩⟩
    have lt:∀ {c o},s.heap.get? c=some o→c≠s.heap.objs.size:=fun e=>Nat.ne_of_lt (Heap.lt_size e)
    have nT:∀ c∈[e,j],c≠s.heap.objs.size:=fun c hc=>by
      have hc':c=e∨c=j:=by simpa using hc
      rcases hc' with rfl | rfl
      · exact lt he
      · obtain ⟨o,e,_⟩:=h1.obj; exact lt e
    have hn2:∀ c∈[e,j],upd H s.heap.objs.size (.tup [.int ((m + i2:Nat):Int),x]) c=none:=fun c hc=>by rw [y0 (nT c hc)]; exact (hf c hc).1
    have If:Inv X pins σ (upd H s.heap.objs.size (.tup [.int ((m + i2:Nat):Int),x])) { s with heap:=h₂,toks:=tk + 1 }:=Inv.turnedL (s:={ s with heap:=s.heap.push { cls:=.type "tuple",data:=.seq #[.int ((m + i2:Nat):Int) tk,x'] } }) (ch:=[e,j]) (h':=h₂) (t':=tk + 1) Il (fun c o hc q=>by
      have hc':c≠e∧c≠j:=by simpa using hc
      rcases Heap.get?_push_cases q with ⟨rfl,rfl⟩ | q
      · exact hs₂.extBut _ _ hc'.1 hT'
      · exact hs₂.extBut _ _ hc'.1 (kk c o hc'.1 hc'.2 q)) fun c hc=>⟨hn2 c hc,(hf c hc).2⟩
    refine ⟨.ref s.heap.objs.size,_,If,rfl,⟨s.heap.objs.size,x,hfr,rfl,rfl,fun zs hq=>by rw [I.sq_inj hq q1]; exact e1⟩,?_,hn2⟩
    exact ⟨⟨_,by simpa [Int.add_assoc] using he₂⟩,st1.1.stay fun o q=>hs₂.extBut _ _ hej.symm q⟩
  done:=by
    intro X hP hw hK hc i pins s σ H E I hf st hg
    subst hP hw hK
    obtain ⟨xs,q1,le⟩:=hg
    obtain ⟨its1,r1,p1,z1⟩:=I.sq q1
    obtain ⟨⟨old,he⟩,h1⟩:=st
    have hh:X.A.in1.handled=none:=I.ok.hd hc
    have D1:=v0s b (prog:=X.prog) (w:=X.w) hh j a na.2 its1.toArray
    have len1:=r1.length
    have en:its1.toArray.size=i:=by simp only [List.size_toArray]; omega
    refine wpAny_pyNext_enum_endD D1 he ⟨by rw [en]; exact h1,p1⟩ fun h' sb=>⟨rfl,?_⟩
    exact I.turnedL (ch:=[e,j]) (h':=h') (t':=s.toks) (fun c o hc q=>by
        have hc':c≠e∧c≠j:=by simpa using hc
        exact sb c o hc'.2 q) hf
  self:=fun A i s Q E st h=>let ⟨⟨_,he⟩,_⟩:=st; wpAny_pyIter_enum he h
section
variable {M:Model} {A:Around} {E:Value→Shared→Prop} {s:Shared} {env:Env}
theorem u0b {pos:Pos} {T:String} {first:List Value} {args:List (Bool×Sem Value)} {keywords:List (Option Str×Sem Value)} {Q:Value→Shared→Prop}
    (hplain:args.any (·.1)=false) (hkw:keywords.any (·.1.isNone)=false)
    (h:wpAny M A (evalArgs (.type T) true args keywords) (fun a s₁=>wpAny M A (call (.type T) (first++a.pos) a.kw) Q E s₁) E s) :
    wpAny M A (callWith pos (.type T) first args keywords) Q E s:=by
  unfold callWith
  refine wpAny_bind (wpAny_holding (wpAny_mono h (fun a s₁ h₁=>wpAny_bind (wpAny_standAt ?_)) fun _ _ x=>x))
  simp only [hplain,hkw,Bool.or_false]
  refine wpAny_bind (wpAny_pure ?_)
  exact wpAny_bind (wpAny_mono h₁ (fun r s₂ hr=>wpAny_bind (wpAny_holding (wpAny_point (wpAny_pure hr)))) fun _ _ x=>x)
end
section
variable {X:Cx} {elts:List Expr} {x1:Nat} {tpos:Pos}
noncomputable def iEnuK (K:PySem.W.Frag) (ta:TA) (te:TE):TI:=fun σ H R=>ta σ H fun vs H1=>te σ H1 fun u H2=>∃ a b,∃ m:Nat,vs=[.ref a]∧u=.int (m:Int)∧m≤1000000∧(∃ xs,Sq K b H2 a xs)∧R (IteK K b a m) H2
theorem e0e {a e:Expr} {ta:TA} {te:TE} {p pos kp:Pos} (hg:Gl X "enumerate") (hm:X.mg "enumerate" = none) (ha:PA X [a] ta) (he:PE X e te) (hs:starEach [a] X.env=[(false,eval a X.env)]:=by rfl) :
    PI X (.Tuple elts x1 tpos) (.Call (.Name "enumerate" p) [a] [⟨some "start",e,kp⟩] pos) (iEnuK X.K ta te):=by
  intro pins s σ H R I h
  refine wpAny_Call_Name_kw (o8 I hg hm w0f (u0b (by rw [hs]; rfl) rfl ?_) (by decide) (by decide))
  have ha2:=ha pos pins s σ H _ I h
  rw [hs] at ha2 ⊢
  refine evalArgs_kwB rfl (thn ha2 fun us s1 ⟨vs,H1,I1,r1,q1⟩=>?_)
  refine kws_cons (thn (he pins s1 σ H1 _ I1 q1) fun v s2 ⟨u,H2,I2,r2,a1,b1,m,e1,e2,hm,⟨xs,k1⟩,q⟩=>kws_nil ?_)
  subst e1 e2
  obtain ⟨t,rfl⟩:=r2
  cases r1 with
  | cons r rr =>
    cases rr
    cases r
    obtain ⟨its1,v1,p1,z1⟩:=I2.sq k1
    have l1:a1 < s2.heap.objs.size:=by obtain ⟨o,e,_⟩:=p1.obj; exact Heap.lt_size e
    have hfit:Builtin.SmallTypes.fitsIndex (m:Int)=true:=by
      unfold Builtin.SmallTypes.fitsIndex
      rw [Bool.and_eq_true]
      exact ⟨decide_eq_true (by omega),decide_eq_true (by omega)⟩
    refine e0f hfit p1 fun h' he i1 kk=>wpAny_pyIter_enum (s:={ s2 with heap:=h' }) he ?_
    refine ⟨_,[s2.heap.objs.size + 1,s2.heap.objs.size],_,_,H2,rfl,I2.kept (t':=s2.toks) kk,k0t b1 a1 _ _ m (Nat.succ_ne_self _) ⟨Nat.ne_of_lt (Nat.lt_succ_of_lt l1),Nat.ne_of_lt l1⟩,⟨⟨_,he⟩,i1⟩,fun c hc=>?_,q⟩
    have hle:s2.heap.objs.size≤c:=by
      have hc':c=s2.heap.objs.size + 1∨c=s2.heap.objs.size:=by simpa using hc
      rcases hc' with e | e <;> (rw [e]; omega)
    exact I2.fpOk hle (I2.hok.fresh hle)
end
end L2
namespace DL
open PySem PySem.Spec L2
section
variable {X:Cx} {Y:Y2} {W:XW} {K:Frag}
theorem h0c {F:Hp} {b:Bool} {a:Addr} {xs:List V} {ds:List D} {m:Nat} (h:Sq K b F a xs) (r:Reps K F ds xs):SrcOk K (IteK K b a m) F (u0z m ds):=by
  refine ⟨fun i c F' H e s1 s2=>?_,fun F' H s1 s2=>?_⟩
  · obtain ⟨d,e1,rfl⟩:=z0i e
    obtain ⟨v,ev,rv⟩:=r.get e1
    have q1:=(s1.trans s2).sq h
    refine ⟨⟨xs,v,q1,ev⟩,fun u H' y=>?_⟩
    obtain ⟨p,x,hp,rfl,rfl,k1⟩:=y
    have e3:=k1 xs q1
    rw [ev] at e3
    cases e3
    exact .inr ⟨p,_,_,hp,rfl,rfl,rfl,Reps.cons (rep_int.mpr rfl) (Reps.cons (rv.mono s1) Reps.nil)⟩
  · rw [z0j]
    exact ⟨xs,(s1.trans s2).sq h,r.length⟩
variable {a e:Expr} {ta:TA2} {te:TE2} {p pos tpos kp:Pos} {elts:List Expr} {x1:Nat}
noncomputable def h0b (ta:TA2) (te:TE2):TI2:=fun x ρ δ q=>ta x ρ δ fun ds ρ1 δ1=>te x ρ1 δ1 fun d ρ2 δ2=>match ds,d with | [c],.int m=>(match seqD c with | some xs=>0≤m∧m≤1000000∧q (u0z m.toNat xs) ρ2 δ2 | none=>False) | _,_=>False
theorem e0d (hm:X.mg "enumerate" = none) (ha:PA2 X Y W [a] ta) (he:PE2 X Y W e te) (hg:Gl X "enumerate" := by rfl) (hs:starEach [a] X.env=[(false,eval a X.env)]:=by rfl) :
    PI2 X Y W (.Tuple elts x1 tpos) (.Call (.Name "enumerate" p) [a] [⟨some "start",e,kp⟩] pos) (h0b ta te):=pi2 (e0e hg hm ha.go he.go hs) fun σ H R ⟨F,ρ,δ,x,q,I,h,k,kx⟩=>by
  refine ⟨F,ρ,δ,x,_,I,h,fun ds vs F1 H1 ρ1 δ1 I1 s1 r1 h1=>⟨F1,ρ1,δ1,x,_,I1,h1,fun d v F' H' ρ' δ' I' s' r' h'=>?_,kx.mono s1⟩,kx⟩
  split at h'
  · split at h'
    · rename_i xs e1
      obtain ⟨v1,rfl,r2⟩:=z0m (r1.mono s')
      obtain ⟨a1,vs1,b1,rfl,q1,z1⟩:=h0z e1 r2
      obtain ⟨m1,m2,h'⟩:=h'
      exact ⟨a1,b1,_,rfl,by rw [rep_int.mp r',Int.toNat_of_nonneg m1],by omega,⟨_,I'.sub.sq q1⟩,k _ _ F' H' ρ' δ' I' (s1.trans s') (h0c q1 z1) h'⟩
    · exact h'.elim
  · exact h'.elim
end
end DL
namespace HD
open PySem PySem.W PyProof.Rows PySem.Calls
noncomputable abbrev N:Value:=.none
noncomputable abbrev r (a:Nat):Value:=.ref a
noncomputable abbrev s (x:String) (t:Nat):Value:=.str (Str.ofString x) t
noncomputable abbrev i (n:Int) (t:Nat):Value:=.int n t
noncomputable abbrev b (x:Bool):Value:=.bool x
noncomputable abbrev ty (x:String):Value:=.type x
noncomputable abbrev bi (x:String):Value:=.builtin x
noncomputable abbrev ob (c:Value) (d:Data):Obj:={ cls:=c,data:=d }
noncomputable abbrev tp (l:List Value):Obj:=ob (.type "tuple") (.seq ⟨l⟩)
noncomputable abbrev fl (c:Value) (l:List Value):Obj:=ob c (.fields ⟨l⟩)
noncomputable abbrev en (P:Params) (x:String) (t:Nat) (v:Value):DictEntry:=⟨PyData.keyHash P (Str.ofString x),.str (Str.ofString x) t,v⟩
noncomputable abbrev di (l:List DictEntry) (n:Nat):Obj:=ob (.type "dict") (.dict ⟨l⟩ n)
noncomputable abbrev fn (c:Value) (n q:String) (st:Stmt) (g:Nat) (m cd:Value):Obj :=
  ob c (.func { name:=Str.ofString n,qualname:=Str.ofString q,params:=L2.defArgs st,body:=.stmts (L2.defBody st),scope:=L2.defScope st,globals:=g,closure:=[],defaults:=.none,kwdefaults:=.none,pyModule:=m,code:=cd })
noncomputable abbrev co (n:String) (bs mro:List Value) (ns:Nat) (q:String) (hd hl:Bool) (subs:List Value) (sl:List (Option Value)):Obj:={ cls:=.type "type",data:=.cls { name:=Str.ofString n,bases:=bs,mro:=mro,ns:=ns,qualname:=Str.ofString q,hasDict:=hd,hasDel:=hl,subclasses:=subs },slots:=⟨sl⟩ }
noncomputable def x (g:Params→List Obj) (i:Nat) (P:Params):Obj:=(g P).getD i default
noncomputable def insT (t:BT):Nat→Obj→BT :=
  @BT.rec (fun _=>Nat→Obj→BT) (fun _ o=>.node o .nil .nil)
    (fun v l r ihl ihr i o=>@Bool.rec (fun _=>BT) (@Bool.rec (fun _=>BT) (.node v l (ihr (i / 2 - 1) o)) (.node v (ihl (i / 2) o) r) (Nat.beq (i % 2) 1)) (.node o l r) (Nat.beq i 0)) t
noncomputable def insL (l:List Obj):Nat→BT→BT :=
  @List.rec Obj (fun _=>Nat→BT→BT) (fun _ t=>t) (fun o _ ih n t=>ih (Nat.succ n) (insT t n o)) l
noncomputable def setL (l:List (Nat×Obj)):BT→BT :=
  @List.rec (Nat×Obj) (fun _=>BT→BT) (fun t=>t) (fun p _ ih t=>ih (insT t p.1 p.2)) l
section
variable {p:Program} {w:World} {n₀:Nat} {ann:Option Value} {bb n:Nat} {st:SharedT} {l:List Stmt} {env:Env} {c:Code} {q:Pos} {B:List Frame} {rr:Option (Flow×SharedT×Code×Pos)}
theorem x6 (h:PySem.W.Fast.tw10110043849684766642 PySem.W.Fast.tw14364793385576792824 p w n₀ ann bb n st ⟨(PySem.W.Fast.tw12563942051412417395 l env).wrap doneF deadEnd id id,c,q,B⟩=rr) :
    segRunT treeTable p w n₀ ann bb n st (piecesOf l env c q B)=rr:=by
  unfold piecesOf
  rw [PySem.W.Fast.te10110043849684766642,PySem.W.Fast.te14364793385576792824,PySem.W.Fast.te12563942051412417395]
  exact h
theorem turnGo {s:Shared} {t:Thread} {r:Option (Shared×Thread)} (h:PySem.W.Fast.tw15667345088766844465 PySem.W.Fast.tw14364793385576792824 p w n₀ ann n s t=r):topGo treeTable p w n₀ ann n s t=r:=by
  rw [PySem.W.Fast.te15667345088766844465,PySem.W.Fast.te14364793385576792824]
  exact h
theorem z1g {s:Shared} {t:Thread} {r:Option Shared} (h:PySem.W.Fast.tw14082659384304107361 PySem.W.Fast.tw14364793385576792824 p w n₀ ann n s t=r):topRun treeTable p w n₀ ann n s t=r:=by
  rw [PySem.W.Fast.te14082659384304107361,PySem.W.Fast.te14364793385576792824]
  exact h
theorem h0a {s:Shared} {r:Option (Flow×Shared×Code×Pos)} (h:PySem.W.Fast.tw14374325043358763698 PySem.W.Fast.tw14364793385576792824 p w n₀ ann bb n s ⟨(PySem.W.Fast.tw1066825118222455980 l env).wrap (fun _=>doneF .next) deadEnd id id,c,q,B⟩=r) :
    segRun treeTable p w n₀ ann bb n s (blockOf l env c q B)=r:=by
  unfold blockOf
  rw [PySem.W.Fast.te14374325043358763698,PySem.W.Fast.te14364793385576792824,PySem.W.Fast.te1066825118222455980]
  exact h
theorem q0f {N:Nat} {s s' r:Shared} {b b':List Stmt} {pos p' q:Pos} (e:b=b') (h:segRun treeTable p w n₀ ann 1 n s (blockOf b env c pos [topFrame q])=some (.next,s',c,p'))
    (k:topRun treeTable p w n₀ ann N s' (restOf b' env c p' [topFrame q])=some r):topRun treeTable p w n₀ ann (n + N) s ⟨denote treeTable (.body b env),c,pos,[topFrame q]⟩=some r:=by
  subst e; exact piece_block h k
end
noncomputable def FnF (K:PySem.W.Frag) (x:Str) (st:Stmt):Prop:=∃ f fd,PySem.W.nsIn K mainGlobals x=some (some (.ref f))∧L2.Fun K x x st f fd
theorem FnF.at {K:PySem.W.Frag} {h:Heap} {mg:Str→Option Value} {x:Str} {st:Stmt} (F:FnF K x st) (X:K.In h) (G:h.Ns mainGlobals mg) {ps:List Str}
    (b:∀ (kV doc pm:Value) (an:Option Addr) (cdv ct:Value) (us:List Value),us.length=ps.length→bindArgs (PySem.W.fnOf x x (L2.defArgs st) (L2.defBody st) (L2.defScope st) .none kV doc pm an cdv ct) ⟨us,[]⟩=pure (ps.zip us)):∃ f fd,L2.DefAt K mg x st ps f fd:=by
  obtain ⟨f,fd,a,u⟩:=F
  exact ⟨f,fd,u,PySem.W.mg_of X G a,u.binds b⟩
noncomputable def XMkF (K:PySem.W.Frag) (C:Addr) (q:Str) (st:Stmt):Prop:=∃ f fd,L2.XMk K C f∧L2.Fun K "__init__" q st f fd
noncomputable def MkF (K:PySem.W.Frag) (C:Addr) (q:Str) (st:Stmt):Prop:=∃ f fd,L2.Mk K C f∧L2.Fun K "__init__" q st f fd
end HD
set_option maxHeartbeats 8000000
namespace K16
open PySem L2 DL
open PySem.W (XC)
local macro_rules | `(tactic| walk_at "dl")=>do
  let ids:=("i0g Nat.reduceAdd Nat.reduceLT Nat.reduceLeDiff Nat.reduceSub Nat.zero_add i0s a0e i0r a0d a0c f0d a0b c0z l0d m0c t2MV f0c f0b m0b w0h s0j s0k t2H0 t2H i0m z1y asE z1v forL w0d q0s capt List.map_cons List.map_nil t2Is t2R1 t2R2 o0r t2C t2V i0y t0j a0p a0o t2Op t2B a0n a0m t2Or i0w i0v t2If v0f t2Bi t2Un rdV hasV seqV mutV ixQ seqD addF addG sumF eqG neG t2Sl slF t2ON t2OI lrQ t2LR z1n t2Zip z1q u0y o0m q0m tgD fI fI0 eqF neF eqD isNF a0i q0t isBF ixF inF m0f lenF absF minF f0f m0e allF f0e subF mulF a0j modF powF ltF leF gtF geF repF g2N g2T t0c s0l popM List.getElem?_cons_zero List.getElem?_cons_succ List.set_cons_zero List.set_cons_succ List.length_cons List.length_nil List.lookup_cons if_true if_false Bool.false_eq_true Bool.not_true Bool.not_false decide_eq_true_eq if_pos ite_true ite_false true_and and_true List.cons_append List.nil_append neL h0f v0o x0m h0b w0b keyD o0l h0u h0s z1m dicV t2VD l0t h0n keyD e0i s0a l0r s0b g2L w0b".splitOn " ").toArray.map fun s=>Lean.mkIdent s.toName
  let args ← ids.mapM fun i=>`(Lean.Parser.Tactic.simpLemma| $i:ident)
  `(tactic| simp only [reduceIte,↓reduceIte,$args,*])
local macro_rules | `(tactic| walk_at "dn")=>do
  let ids:=("i0g Nat.reduceAdd Nat.reduceLT Nat.reduceLeDiff Nat.reduceSub Nat.zero_add i0s a0e i0r a0d a0c f0d a0b c0z l0d m0c t2MV f0c f0b m0b w0h s0j s0k t2H0 t2H i0m z1y asE z1v q0s capt List.map_cons List.map_nil t2Is t2R1 t2R2 o0r t2C t2V i0y t0j a0p a0o t2Op t2B a0n a0m t2Or i0w i0v t2If v0f t2Bi t2Un rdV hasV seqV mutV ixQ seqD addF addG sumF eqG neG t2Sl slF t2ON t2OI lrQ t2LR z1n t2Zip z1q u0y o0m q0m tgD fI fI0 eqF neF eqD isNF a0i q0t isBF ixF inF m0f lenF absF minF f0f m0e allF f0e subF mulF a0j modF powF ltF leF gtF geF repF g2N g2T t0c s0l popM List.getElem?_cons_zero List.getElem?_cons_succ List.set_cons_zero List.set_cons_succ List.length_cons List.length_nil List.lookup_cons if_true if_false Bool.false_eq_true Bool.not_true Bool.not_false decide_eq_true_eq if_pos ite_true ite_false true_and and_true List.cons_append List.nil_append neL h0f v0o x0m h0b w0b keyD o0l h0u h0s z1m dicV t2VD l0t h0n keyD e0i s0a l0r s0b g2L w0b".splitOn " ").toArray.map fun s=>Lean.mkIdent s.toName
  let args ← ids.mapM fun i=>`(Lean.Parser.Tactic.simpLemma| $i:ident)
  `(tactic| simp only [reduceIte,↓reduceIte,$args,*])
noncomputable def top (i:Nat):Stmt:=PySem.Challenge.pw_wearplan_k16_single_least.main.body.getD i (.Pass ⟨0,0,0,0⟩)
noncomputable abbrev y0j:Stmt:=top 15
noncomputable abbrev x0b:Stmt:=top 16
noncomputable abbrev r0x:Stmt:=top 17
noncomputable abbrev j8:Stmt:=top 18
noncomputable abbrev u8:Stmt:=top 19
noncomputable abbrev g0z:Stmt:=top 24
noncomputable abbrev x0a:Stmt:=top 25
noncomputable abbrev r9:Stmt:=top 26
noncomputable abbrev q9:Stmt:=top 27
noncomputable abbrev u0v:Stmt:=top 30
noncomputable abbrev p9:Stmt:=top 33
noncomputable abbrev i8:Stmt:=top 34
noncomputable abbrev y0i:Stmt:=top 36
noncomputable abbrev w0z:Stmt:=top 37
noncomputable abbrev w0y:Stmt:=top 38
noncomputable abbrev w0x:Stmt:=top 39
noncomputable abbrev w0w:Stmt:=top 40
noncomputable abbrev w0v:Stmt:=top 41
noncomputable abbrev y0h:Stmt:=top 42
noncomputable abbrev o9:Stmt:=top 43
noncomputable abbrev y0g:Stmt:=top 44
noncomputable abbrev z0g:Stmt:=top 45
noncomputable abbrev w0u:Stmt:=top 46
noncomputable abbrev h8:Stmt:=top 47
noncomputable abbrev f8:Stmt:=top 48
noncomputable abbrev y0f:Stmt:=top 49
noncomputable abbrev y0e:Stmt:=top 50
noncomputable abbrev w0t:Stmt:=top 51
noncomputable abbrev u0u:Stmt:=top 52
noncomputable abbrev n9:Stmt:=top 53
noncomputable abbrev z1f:Stmt:=top 54
noncomputable abbrev m9:Stmt:=inClass (top 2) 0
noncomputable abbrev d8:Stmt:=inClass (top 3) 0
noncomputable abbrev l9:Stmt:=inClass (top 6) 0
noncomputable abbrev y0d:Stmt:=inClass (top 7) 0
noncomputable abbrev z0f:Stmt:=inClass (top 8) 0
noncomputable abbrev r8:Stmt:=inClass (top 10) 0
noncomputable abbrev k9:Stmt:=inClass (top 12) 0
noncomputable abbrev y0c:Stmt:=inClass (top 23) 0
structure Cs where
  W:Addr
  Part:Addr
  NoPart:Addr
  NoWorks:Addr
  NoStands:Addr
  NoRounds:Addr
  NoPlan:Addr
  Shut:Addr
  Falls:Addr
  NoneHolds:Addr
  TooGreat:Addr
  NoPaper:Addr
  NoText:Addr
  NotTold:Addr
noncomputable def Cs.ds (c:Cs):List Addr:=[c.NoPart,c.NoWorks,c.NoStands,c.NoRounds,c.NoPlan,c.Shut,c.Falls,c.NoneHolds,c.TooGreat,c.NoPaper,c.NoText,c.NotTold]
structure Txt (K:PySem.W.Frag) (mg:Str→Option Value) (cs:Cs):Prop where
  n_ValueError:mg "ValueError" = none
  n_abs:mg "abs" = none
  n_all:mg "all" = none
  n_bool:mg "bool" = none
  n_enumerate:mg "enumerate" = none
  n_int:mg "int" = none
  n_isinstance:mg "isinstance" = none
  n_len:mg "len" = none
  n_list:mg "list" = none
  n_min:mg "min" = none
  n_range:mg "range" = none
  n_reversed:mg "reversed" = none
  n_tuple:mg "tuple" = none
  g_GREATEST_FIRST:∃ t,mg "GREATEST_FIRST" = some (.int 47 t)
  g_MOST_ROUNDS:∃ t,mg "MOST_ROUNDS" = some (.int 24 t)
  g_GREATEST_SHUT:∃ t,mg "GREATEST_SHUT" = some (.int 47 t)
  g_GREATEST_PRICE:∃ t,mg "GREATEST_PRICE" = some (.int 9999 t)
  c_WearError:mg "WearError" = some (.ref cs.W)
  h_WearError:XHd K cs.W
  c_Part:mg "Part" = some (.ref cs.Part)
  cl_Part:ClsI K cs.Part
  kn_Part:KNo K cs.Part
  f_Part_full:NoAttr K cs.Part "full"
  f_Part_mark:NoAttr K cs.Part "mark"
  f_Part_wear:NoAttr K cs.Part "wear"
  f_Part_price:NoAttr K cs.Part "price"
  err:∀ D∈cs.ds,ErrC K cs.W D
  ne:∀ D∈cs.ds,D≠cs.W
  nd:cs.ds.Nodup
  c_NoPart:mg "NoPart" = some (.ref cs.NoPart)
  h_NoPart:XHd K cs.NoPart
  x_NoPart:xcIn K cs.NoPart=true
  a_NoPart_at:NoAttr K cs.NoPart "at"
  c_NoWorks:mg "NoWorks" = some (.ref cs.NoWorks)
  h_NoWorks:XHd K cs.NoWorks
  x_NoWorks:xcIn K cs.NoWorks=true
  a_NoWorks_at:NoAttr K cs.NoWorks "at"
  c_NoStands:mg "NoStands" = some (.ref cs.NoStands)
  h_NoStands:XHd K cs.NoStands
  x_NoStands:xcIn K cs.NoStands=true
  k_NoStands:XMk0 K cs.NoStands
  c_NoRounds:mg "NoRounds" = some (.ref cs.NoRounds)
  h_NoRounds:XHd K cs.NoRounds
  x_NoRounds:xcIn K cs.NoRounds=true
  k_NoRounds:XMk0 K cs.NoRounds
  c_NoPlan:mg "NoPlan" = some (.ref cs.NoPlan)
  h_NoPlan:XHd K cs.NoPlan
  x_NoPlan:xcIn K cs.NoPlan=true
  a_NoPlan_at:NoAttr K cs.NoPlan "at"
  c_Shut:mg "Shut" = some (.ref cs.Shut)
  h_Shut:XHd K cs.Shut
  x_Shut:xcIn K cs.Shut=true
  a_Shut_round_number:NoAttr K cs.Shut "round_number"
  c_Falls:mg "Falls" = some (.ref cs.Falls)
  h_Falls:XHd K cs.Falls
  x_Falls:xcIn K cs.Falls=true
  a_Falls_round_number:NoAttr K cs.Falls "round_number"
  a_Falls_part_number:NoAttr K cs.Falls "part_number"
  c_NoneHolds:mg "NoneHolds" = some (.ref cs.NoneHolds)
  h_NoneHolds:XHd K cs.NoneHolds
  x_NoneHolds:xcIn K cs.NoneHolds=true
  k_NoneHolds:XMk0 K cs.NoneHolds
  c_TooGreat:mg "TooGreat" = some (.ref cs.TooGreat)
  h_TooGreat:XHd K cs.TooGreat
  x_TooGreat:xcIn K cs.TooGreat=true
  a_TooGreat_most:NoAttr K cs.TooGreat "most"
  c_NoPaper:mg "NoPaper" = some (.ref cs.NoPaper)
  h_NoPaper:XHd K cs.NoPaper
  x_NoPaper:xcIn K cs.NoPaper=true
  k_NoPaper:XMk0 K cs.NoPaper
  c_NoText:mg "NoText" = some (.ref cs.NoText)
  h_NoText:XHd K cs.NoText
  x_NoText:xcIn K cs.NoText=true
  a_NoText_row:NoAttr K cs.NoText "row"
  c_NotTold:mg "NotTold" = some (.ref cs.NotTold)
  h_NotTold:XHd K cs.NotTold
  x_NotTold:xcIn K cs.NotTold=true
  k_NotTold:XMk0 K cs.NotTold
noncomputable def DkAt (p:Addr) (ns:List Int) (n:Nat) (δ:Dk):Prop:=∃ c k:Int,δ=some (p,[.scr (ns.map D.int),.int c,.int k])∧0≤c∧0≤k∧k≤n
noncomputable def spCell:Sp2:=fun ds δ q _=>∃ (ns:List Int) (k:Int),ds=[.scr (ns.map D.int),.int k]∧0≤k∧∀ r:Int,0≤r→q (.int r) δ
noncomputable def spDraw:Sp2:=fun ds δ q _=>∃ (ns:List Int) (k m:Int),ds=[.scr (ns.map D.int),.int k,.int m]∧0≤k∧k < 2 ^ 40∧0 < m∧∀ r:Int,0≤r→r < m→q (.int r) δ
noncomputable def spDeck:Sp2:=fun ds δ q _=>∃ (ns:List Int),ds=[.scr (ns.map D.int)]∧δ=none∧∀ p δ',DkAt p ns 0 δ'→q (.ref p) δ'
noncomputable def spTake:Sp2:=fun ds δ q _=>∃ (p:Addr) (ns:List Int) (n:Nat) (m:Int),ds=[.ref p,.int m]∧DkAt p ns n δ∧n < 2 ^ 30∧0 < m∧m < 2 ^ 30∧∀ (d:Int) δ',0≤d→d < m→DkAt p ns (n + 1) δ'→q (.int d) δ'
noncomputable def u0t (d:D):Bool:=match d with | .int _=>true | _=>false
noncomputable def y0b:Sp2:=fun ds δ q _=>match ds with | [d]=>u5 d=true∧q (.bl (u0t d)) δ | _=>False
noncomputable def y0a:Sp2:=fun ds δ q _=>match ds with | [d,.int lo,.int hi]=>u5 d=true∧q (.bl (b3 d lo hi)) δ | _=>False
noncomputable def numD (d:D) (j:Int):Bool:=match d with | .int i=>decide (i=j) | _=>false
noncomputable def f0k:Sp2:=fun ds δ q _=>match ds with | [d,.int j]=>u5 d=true∧q (.bl (numD d j)) δ | _=>False
noncomputable def rowD:D→Option (List D) | .lst xs=>some xs | .tup xs=>some xs | _=>none
noncomputable def q0e (d:D):Bool:=(rowD d).isSome
noncomputable def o5 (d:D):Bool:=u5 d && (match rowD d with | some xs=>xs.all u5 | none=>true)
noncomputable def v7 (d:D) (a b lo hi:Int):Bool:=match rowD d with | some xs=>decide (a≤(xs.length:Int)) && decide ((xs.length:Int)≤b) && xs.all (b3 · lo hi) | none=>false
noncomputable def e0c:Sp2:=fun ds δ q _=>match ds with | [d]=>u5 d=true∧q (.bl (q0e d)) δ | _=>False
noncomputable def q0d:Sp2:=fun ds δ q _=>match ds with | [d,.int a,.int b,.int lo,.int hi]=>o5 d=true∧b≤900∧q (.bl (v7 d a b lo hi)) δ | _=>False
theorem o0g {α:Type} (f:α→Bool):∀ xs:List α,blsD (xs.map fun e=>D.bl (f e))=some (xs.map f)
  | []=>rfl
  | x :: xs=>by rw [List.map_cons,List.map_cons]; unfold blsD; rw [o0g f xs]; rfl
theorem all_id (xs:List Bool):xs.all id=xs.all fun b=>b:=rfl
theorem o0f:(("full" : Str) == "full")=true:=by decide +kernel
theorem o0e:(("full" : Str) == "mark")=false:=by decide +kernel
theorem o0d:(("full" : Str) = "mark")=False:=eq_false (by decide +kernel)
theorem q0c:(("full" : Str) == "price")=false:=by decide +kernel
theorem q0b:(("full" : Str) = "price")=False:=eq_false (by decide +kernel)
theorem o0c:(("full" : Str) == "wear")=false:=by decide +kernel
theorem o0b:(("full" : Str) = "wear")=False:=eq_false (by decide +kernel)
theorem o0a:(("mark" : Str) == "full")=false:=by decide +kernel
theorem z1e:(("mark" : Str) = "full")=False:=eq_false (by decide +kernel)
theorem n0z:(("mark" : Str) == "mark")=true:=by decide +kernel
theorem q0a:(("mark" : Str) == "price")=false:=by decide +kernel
theorem p0z:(("mark" : Str) = "price")=False:=eq_false (by decide +kernel)
theorem n0y:(("mark" : Str) == "wear")=false:=by decide +kernel
theorem n0x:(("mark" : Str) = "wear")=False:=eq_false (by decide +kernel)
theorem p0y:(("price" : Str) == "full")=false:=by decide +kernel
theorem c0j:(("price" : Str) = "full")=False:=eq_false (by decide +kernel)
theorem p0x:(("price" : Str) == "mark")=false:=by decide +kernel
theorem c0i:(("price" : Str) = "mark")=False:=eq_false (by decide +kernel)
theorem r0w:(("price" : Str) == "price")=true:=by decide +kernel
theorem p0w:(("price" : Str) == "wear")=false:=by decide +kernel
theorem c0h:(("price" : Str) = "wear")=False:=eq_false (by decide +kernel)
theorem n0w:(("wear" : Str) == "full")=false:=by decide +kernel
theorem z1d:(("wear" : Str) = "full")=False:=eq_false (by decide +kernel)
theorem n0v:(("wear" : Str) == "mark")=false:=by decide +kernel
theorem z1c:(("wear" : Str) = "mark")=False:=eq_false (by decide +kernel)
theorem p0v:(("wear" : Str) == "price")=false:=by decide +kernel
theorem p0u:(("wear" : Str) = "price")=False:=eq_false (by decide +kernel)
theorem n0u:(("wear" : Str) == "wear")=true:=by decide +kernel
local macro_rules | `(tactic| walk_at "fl")=>do
  let ids:=("T.cl_Part.cl T.f_Part_full T.f_Part_mark T.f_Part_wear T.f_Part_price o0f o0e q0c o0c o0a n0z q0a n0y p0y p0x r0w p0w n0w n0v p0v n0u List.lookup_cons true_and".splitOn " ").toArray.map fun s=>Lean.mkIdent s.toName
  let args ← ids.mapM fun i=>`(Lean.Parser.Tactic.simpLemma| $i:ident)
  `(tactic| simp only [reduceIte,↓reduceIte,$args,*])
section
variable {P:Program} {w:World} {K:PySem.W.Frag} {mg:Str→Option Value} {base:Heap} {cs:Cs}
noncomputable abbrev j9:List Str:=["thing"]
theorem sc_is_number:FnScope ["thing"] j9 (defScope y0j):=⟨rfl,rfl,rfl,by decide +kernel,rfl,by decide +kernel,by decide +kernel⟩
noncomputable abbrev x0z (P:Program) (w:World) (K:PySem.W.Frag) (mg:Str→Option Value) (base:Heap) (cs:Cs):Prop:=Fun2 P w K mg base "is_number" 1 j9 y0b
theorem p0t {f:Addr} {fd:FuncData} (Df:DefAt K mg "is_number" y0j j9 f fd) (T:Txt K mg cs):x0z P w K mg base cs:=by
  have nd:=sc_is_number.nd
  refine def2 Df sc_is_number (fun ds δ q x h=>?_) (fun cdv A outer s H E Y hr=>⟨_,(d0 (u4 (w0i (e2_b w4 (b5 (K:=K)) T.n_isinstance x3 (z0 (e2_v 0) (z0 (o0u "int" T.n_int d0d) o0))) (v0g (d0b (e2_b w4 (b5 (K:=K)) T.n_isinstance x3 (z0 (e2_v 0) (z0 (o0u "bool" T.n_bool j0a) o0)))))))),fun ds δ q x h=>?_⟩)
  · unfold y0b at h
    split at h
    · rfl
    · exact h.elim
  · unfold y0b at h
    split at h
    rotate_left
    · exact h.elim
    rename_i d
    obtain ⟨hd,hq⟩:=h
    rw [show p4 ["thing"] _=[.val _] from rfl]
    obtain ⟨t1,t2⟩:=s0g (K:=K) hd
    walk_at "dl"
    simp only [i0h K t1 t2,c0t K t1 t2,t1,true_and]
    cases d <;> first | cases hd | skip
    all_goals (walk_at "dl"; exact hq)
noncomputable abbrev y0x:List Str:=["thing","least","most"]
theorem sc_is_whole:FnScope ["thing","least","most"] y0x (defScope x0b):=⟨rfl,rfl,rfl,by decide +kernel,rfl,by decide +kernel,by decide +kernel⟩
noncomputable abbrev b7 (P:Program) (w:World) (K:PySem.W.Frag) (mg:Str→Option Value) (base:Heap) (cs:Cs):Prop:=Fun2 P w K mg base "is_whole" 2 y0x y0a
theorem n0t {f:Addr} {fd:FuncData} (Df:DefAt K mg "is_whole" x0b y0x f fd) (T:Txt K mg cs) (G_is_number:x0z P w K mg base cs):b7 P w K mg base cs:=by
  have nd:=sc_is_whole.nd
  refine def2 Df sc_is_whole (fun ds δ q x h=>?_) (fun cdv A outer s H E Y hr=>⟨_,(d0 (u4 (w0i (u3 G_is_number (hr.mono (by decide)) i0 (z0 (e2_v 0) o0)) (v0g (f0h g0b g0b d_le d_le (e2_v 1) (e2_v 0) (e2_v 2)))))),fun ds δ q x h=>?_⟩)
  · unfold y0a at h
    split at h
    · rfl
    · exact h.elim
  · unfold y0a at h
    split at h
    rotate_left
    · exact h.elim
    rename_i d lo hi
    obtain ⟨hd,hq⟩:=h
    rw [show p4 ["thing","least","most"] _=[.val _,.val _,.val _] from rfl]
    walk_at "dl"
    simp only [y0b,hd,true_and]
    cases d <;> first | cases hd | skip
    all_goals first | (simp only [u0t]; walk_at "dl"; exact hq) | (simp only [u0t]; walk_at "dl")
    simp only [b3] at hq
    split
    · rename_i h1
      rw [decide_eq_true h1,Bool.true_and] at hq
      exact hq
    · rename_i h1
      rw [decide_eq_false h1,Bool.false_and] at hq
      exact hq
theorem i4 {i lo hi:Int} (h1:lo≤i) (h2:i≤hi):b3 (.int i) lo hi=true:=by show (decide (lo≤i) && decide (i≤hi))=true; rw [decide_eq_true h1,decide_eq_true h2]; rfl
theorem g0y {i lo hi:Int} (h:i < lo∨hi < i):b3 (.int i) lo hi=false:=by
  show (decide (lo≤i) && decide (i≤hi))=false
  rw [Bool.and_eq_false_iff]
  rcases h with h | h
  · exact .inl (decide_eq_false (by omega))
  · exact .inr (decide_eq_false (by omega))
noncomputable abbrev v0n:List Str:=["thing"]
theorem sc_is_row:FnScope ["thing"] v0n (defScope r0x):=⟨rfl,rfl,rfl,by decide +kernel,rfl,by decide +kernel,by decide +kernel⟩
noncomputable abbrev r0v (P:Program) (w:World) (K:PySem.W.Frag) (mg:Str→Option Value) (base:Heap) (cs:Cs):Prop:=Fun2 P w K mg base "is_row" 2 v0n e0c
theorem g0x {f:Addr} {fd:FuncData} (Df:DefAt K mg "is_row" r0x v0n f fd) (T:Txt K mg cs):r0v P w K mg base cs:=by
  have nd:=sc_is_row.nd
  refine def2 Df sc_is_row (fun ds δ q x h=>?_) (fun cdv A outer s H E Y hr=>⟨_,(d0 (u4 (e2_b w4 (b5 (K:=K)) T.n_isinstance x3 (z0 (e2_v 0) (z0 (m0k (z0 (o0u "list" T.n_list y8) (z0 (o0u "tuple" T.n_tuple x0r) o0))) o0))))),fun ds δ q x h=>?_⟩)
  · unfold e0c at h
    split at h
    · rfl
    · exact h.elim
  · unfold e0c at h
    split at h
    rotate_left
    · exact h.elim
    rename_i d
    obtain ⟨hd,hq⟩:=h
    rw [show p4 ["thing"] _=[.val _] from rfl]
    obtain ⟨t1,t2⟩:=s0g (K:=K) hd
    walk_at "dl"
    simp only [ko_row K t1 t2,t1,true_and]
    cases d
    all_goals first | exact hq | cases hd
noncomputable abbrev i6:List Str:=["thing","shortest","longest","least","most"]
theorem sc_is_whole_row:FnScope ["thing","shortest","longest","least","most"] i6 (defScope j8):=⟨rfl,rfl,rfl,by decide +kernel,rfl,by decide +kernel,by decide +kernel⟩
noncomputable abbrev u6 (P:Program) (w:World) (K:PySem.W.Frag) (mg:Str→Option Value) (base:Heap) (cs:Cs):Prop:=Fun2 P w K mg base "is_whole_row" 3 i6 q0d
theorem u0s {f:Addr} {fd:FuncData} (Df:DefAt K mg "is_whole_row" j8 i6 f fd) (T:Txt K mg cs) (G_is_row:r0v P w K mg base cs) (G_is_whole:b7 P w K mg base cs):u6 P w K mg base cs:=by
  have nd:=sc_is_whole_row.nd
  refine def2 Df sc_is_whole_row (fun ds δ q x h=>?_) (fun cdv A outer s H E Y hr=>⟨_,(j0 (v6 (PW2.pt (i0x (x8 (y7 (u3 G_is_row (hr.mono (by decide)) i0 (z0 (e2_v 0) o0)))) (q0v (x8 (f0g g0b g0b d_le d_le (e2_v 1) (u9 0 T.n_len) (e2_v 2)))))) (d0 (u4 z0v)) x5)
      (d0 (u4 (e2_b (m0q rfl) d_all T.n_all d0e (z0 (s0e rfl (CompOkM.of ["entry"] [3,4] rfl) (w0g (e2_v 0)) (fun nd _ _ _ _ _=>(n4 (i:=0) nd rfl (by first | exact Or.inl rfl | exact Or.inr rfl))) v0r (fun _ _ _ _ _ _=>o0q) (fun _ _ _ _ _ _=>(u3 G_is_whole (hr.mono (by decide)) t0d (z0 (e2_v 0) (z0 (e2_v 1) (z0 (e2_v 2) o0)))))) o0))))),fun ds δ q x h=>?_⟩)
  · unfold q0d at h
    split at h
    · rfl
    · exact h.elim
  · unfold q0d at h
    split at h
    rotate_left
    · exact h.elim
    rename_i d a b lo hi
    obtain ⟨ht,hb,hq⟩:=h
    rw [show p4 ["thing","shortest","longest","least","most"] _=[.val _,.val _,.val _,.val _,.val _] from rfl]
    have hp:u5 d=true:=by unfold o5 at ht; rw [Bool.and_eq_true] at ht; exact ht.1
    walk_at "dl"
    simp only [e0c,hp,true_and]
    cases e:rowD d with
    | none =>
      have e1:q0e d=false:=by unfold q0e; rw [e]; rfl
      have e2:v7 d a b lo hi=false:=by unfold v7; rw [e]
      rw [e2] at hq
      simp only [e1,Bool.not_false,if_true]
      exact hq
    | some xs =>
      have e1:q0e d=true:=by unfold q0e; rw [e]; rfl
      have e3:seqD d=some xs:=by cases d <;> first | (cases e; rfl) | cases e
      have hx:∀ x∈xs,u5 x=true:=by
        unfold o5 at ht
        rw [Bool.and_eq_true,e] at ht
        exact List.all_eq_true.mp ht.2
      unfold v7 at hq
      rw [e] at hq
      dsimp only at hq
      simp only [e1,Bool.not_true,Bool.false_eq_true,if_false]
      have main:∀ ρ:En,ρ[3]?=some (.val (.int lo))→ρ[4]?=some (.val (.int hi))→(xs.length:Int)≤b→q (.bl (xs.all (b3 · lo hi))) δ→w0d (w0h y0a (t0j (t2V 0) (t0j (t2V 1) (t0j (t2V 2) i0y)))) [3,4] ρ
          (fun acc δ2=>match blsD acc with | some bs=>q (D.bl (bs.all id)) δ2 | none=>False) xs [] δ:=by
        intro ρ r3 r4 hlen hq
        refine s0f (fun i acc δ'=>acc=(xs.take i).map (fun z=>D.bl (b3 z lo hi))∧δ'=δ) ⟨rfl,rfl⟩ ?_ ?_
        · rintro i z acc δ' rest hi ⟨rfl,rfl⟩ hrest
          have hl:=(List.getElem?_eq_some_iff.mp hi).1
          simp only [capt,q0s,List.map_cons,List.map_nil,r3,r4]
          walk_at "dl"
          simp only [y0a,hx z (List.mem_of_getElem? hi),true_and]
          refine ⟨by rw [List.length_map,List.length_take]; omega,hrest _ _ ⟨?_,rfl⟩⟩
          rw [List.take_succ,hi,List.map_append]; rfl
        · rintro acc δ' ⟨rfl,rfl⟩
          rw [List.take_length,o0g]
          have:(xs.map fun z=>b3 z lo hi).all id=xs.all (b3 · lo hi):=by rw [List.all_map]; rfl
          dsimp only
          rw [this]
          exact hq
      cases d <;> first | (cases e; done) | skip
      all_goals
        cases e
        dsimp only
        split
        · rename_i h1
          split
          · rename_i h2
            rw [Bool.not_eq_true',decide_eq_false_iff_not] at h2
            rw [decide_eq_true h1,decide_eq_false h2] at hq
            exact hq
          · rename_i h2
            rw [Bool.not_eq_true',decide_eq_false_iff_not,Decidable.not_not] at h2
            rw [decide_eq_true h1,decide_eq_true h2] at hq
            exact main _ rfl rfl h2 hq
        · rename_i h1
          rw [decide_eq_false h1] at hq
          exact hq
noncomputable def m7 (cs:Cs) (full mark:Int) (ws:List Int) (price:Int):D:=.ins cs.Part [("full",.int full),("mark",.int mark),("wear",.tup (ws.map D.int)),("price",.int price)]
theorem y9 {d:D} {lo hi:Int} (h:b3 d lo hi=true):∃ i,d=.int i∧lo≤i∧i≤hi:=by
  cases d with
  | int i=>unfold b3 at h; rw [Bool.and_eq_true,decide_eq_true_eq,decide_eq_true_eq] at h; exact ⟨i,rfl,h.1,h.2⟩
  | _=>cases h
noncomputable def u0r (cs:Cs):Sp2:=fun ds δ q x=>match ds with
  | [a,m,w,p]=>(o5 a && o5 m && o5 w && o5 p)=true∧(if b3 a 1 9=true then (match a with
      | .int i=>if b3 m 0 i=true then (if v7 w 1 6 0 9=true then (if b3 p 0 99=true then q (.ins cs.Part [("full",a),("mark",m),("wear",.tup ((rowD w).getD [])),("price",p)]) δ else x cs.NoPart [("at",.int 3)] δ) else x cs.NoPart [("at",.int 2)] δ) else x cs.NoPart [("at",.int 1)] δ
      | _=>False) else x cs.NoPart [("at",.int 0)] δ)
  | _=>False
theorem sc_Part_init:FnScope ["self","full","mark","wear","price"] ["self","full","mark","wear","price"] (defScope y0c):=⟨rfl,rfl,rfl,by decide +kernel,rfl,by decide +kernel,by decide +kernel⟩
theorem p0s {f:Addr} {fd:FuncData} (Fn:Fun K "__init__" "Part.__init__" y0c f fd) (M:Mk K cs.Part f) (bd:Binds K fd ["self","full","mark","wear","price"] []) (T:Txt K mg cs) (G_is_whole:b7 P w K mg base cs) (G_is_whole_row:u6 P w K mg base cs) (M_NoPart:MkE P w K mg base "NoPart" cs.NoPart 1 ["self","at"] (spXI cs.NoPart "at")):Make2 P w K mg base "Part" 4 (u0r cs):=by
  have nd:=sc_Part_init.nd
  refine init2 Fn M T.c_Part bd sc_Part_init (fun ds δ q x h=>?_) (fun cdv A outer s H E Y hr=>⟨_,(j0 (v6 (x8 (y7 (u3 G_is_whole (hr.mono (by decide)) i0 (z0 (e2_v 1) (z0 l0 (z0 l0 o0)))))) (d0 (x0q rfl i0 M_NoPart (hr.mono (by decide)) (z0 l0 o0))) x5)
      (j0 (v6 (x8 (y7 (u3 G_is_whole (hr.mono (by decide)) i0 (z0 (e2_v 2) (z0 l0 (z0 (e2_v 1) o0)))))) (d0 (x0q rfl i0 M_NoPart (hr.mono (by decide)) (z0 l0 o0))) x5)
      (j0 (v6 (x8 (y7 (u3 G_is_whole_row (hr.mono (by decide)) i0 (z0 (e2_v 3) (z0 l0 (z0 l0 (z0 l0 (z0 l0 o0)))))))) (d0 (x0q rfl i0 M_NoPart (hr.mono (by decide)) (z0 l0 o0))) x5)
      (j0 (v6 (x8 (y7 (u3 G_is_whole (hr.mono (by decide)) i0 (z0 (e2_v 4) (z0 l0 (z0 l0 o0)))))) (d0 (x0q rfl i0 M_NoPart (hr.mono (by decide)) (z0 l0 o0))) x5)
      (j0 (v0t K 0 (e2_v 1))
      (j0 (v0t K 0 (e2_v 2))
      (j0 (v0t K 0 (u0d o7 s0m T.n_tuple x0r (z0 (e2_v 3) o0)))
      (d0 (v0t K 0 (e2_v 4)))))))))),fun ds δ q x h=>?_⟩)
  · unfold u0r at h
    split at h
    · rfl
    · exact h.elim
  · unfold u0r at h
    split at h
    rotate_left
    · exact h.elim
    rename_i a m v p
    rw [show p4 ["full","mark","wear","price"] _=[.val _,.val _,.val _,.val _] from rfl]
    obtain ⟨ht,hq⟩:=h
    simp only [Bool.and_eq_true] at ht
    obtain ⟨⟨⟨ta,tm⟩,tv⟩,tp⟩:=ht
    have pl:∀ {d:D},o5 d=true→u5 d=true:=fun {d} h=>by unfold o5 at h; rw [Bool.and_eq_true] at h; exact h.1
    walk_at "dl"
    simp only [y0a,pl ta,true_and]
    cases ea:b3 a 1 9 with
    | false =>
      rw [ea] at hq
      simp only [Bool.not_false,if_true]
      exact hq
    | true =>
      rw [ea] at hq
      obtain ⟨i,rfl,i1,i2⟩:=y9 ea
      simp only [Bool.not_true,Bool.false_eq_true,if_false,pl tm,true_and,q0d,pl tp,tv,if_true] at hq ⊢
      cases em:b3 m 0 i with
      | false =>
        rw [em] at hq
        simp only [Bool.not_false,if_true]
        exact hq
      | true =>
        rw [em] at hq
        simp only [Bool.not_true,Bool.false_eq_true,if_false,if_true] at hq ⊢
        refine ⟨by decide,?_⟩
        cases ev:v7 v 1 6 0 9 with
        | false =>
          rw [ev] at hq
          simp only [Bool.not_false,if_true]
          exact hq
        | true =>
          rw [ev] at hq
          simp only [Bool.not_true,Bool.false_eq_true,if_false,if_true] at hq ⊢
          cases ep:b3 p 0 99 with
          | false =>
            rw [ep] at hq
            simp only [Bool.not_false,if_true]
            exact hq
          | true =>
            rw [ep] at hq
            simp only [Bool.not_true,Bool.false_eq_true,if_false,if_true] at hq ⊢
            cases v <;> first | (cases ev; done) | skip
            all_goals
              simp only [T.cl_Part.cl,T.f_Part_full,T.f_Part_mark,T.f_Part_wear,T.f_Part_price,l0c,o0d,o0b,q0b,n0x,p0z,p0u,if_false,List.length_cons,List.length_nil,true_and]
              repeat (first | exact ⟨_,rfl,hq⟩ | (refine ⟨by decide,?_⟩))
noncomputable def w0a (ws:List Int) (r:Int):Int:=ws.getD (r % (ws.length:Int)).toNat 0
theorem g0w {ws:List Int} (r:Int) (h:0 < ws.length):atI (ws.map D.int) (r % ((ws.map D.int).length:Nat))=some (.int (w0a ws r)):=by
  rw [List.length_map]
  have h1:=Int.emod_nonneg r (b:=(ws.length:Int)) (by omega)
  have h2:=Int.emod_lt_of_pos r (b:=(ws.length:Int)) (by omega)
  unfold w0a
  generalize r % (ws.length:Int)=z at h1 h2
  have hz:z=((z.toNat:Nat):Int):=by omega
  rw [hz,s0u (v:=D.int (ws.getD z.toNat 0))]
  · rfl
  · rw [List.getElem?_map,List.getElem?_eq_getElem (show z.toNat < ws.length by omega),List.getD_eq_getElem?_getD,List.getElem?_eq_getElem (show z.toNat < ws.length by omega)]
    rfl
noncomputable def g0v (cs:Cs):Sp2:=fun ds δ q _=>∃ full mark ws price r,ds=[m7 cs full mark ws price,.int r]∧0 < ws.length∧q (.int (w0a ws r)) δ
noncomputable def u0q (cs:Cs):Sp2:=fun ds δ q _=>∃ full mark ws price d,ds=[m7 cs full mark ws price,d]∧u5 d=true∧q (.bl (b3 d mark full)) δ
noncomputable def z0e (cs:Cs):Sp2:=fun ds δ q x=>∃ d,ds=[d]∧u5 d=true∧(b3 d 0 47=true→q .non δ)∧(b3 d 0 47=false→x cs.NoRounds [] δ)
noncomputable abbrev l0q:List Str:=["part","round_number"]
theorem sc_loss:FnScope ["part","round_number"] l0q (defScope g0z):=⟨rfl,rfl,rfl,by decide +kernel,rfl,by decide +kernel,by decide +kernel⟩
noncomputable abbrev g0u (P:Program) (w:World) (K:PySem.W.Frag) (mg:Str→Option Value) (base:Heap) (cs:Cs):Prop:=Fun2 P w K mg base "loss" 2 l0q (g0v cs)
theorem z1b {f:Addr} {fd:FuncData} (Df:DefAt K mg "loss" g0z l0q f fd) (T:Txt K mg cs):g0u P w K mg base cs:=by
  have nd:=sc_loss.nd
  refine def2 Df sc_loss (fun ds δ q x h=>?_) (fun cdv A outer s H E Y hr=>⟨_,(d0 (u4 (f0i r0h d_ix (x0e K (e2_v 0)) (j3 d4 y6 (e2_v 1) (e2_b z0r d_len T.n_len m0l (z0 (x0e K (e2_v 0)) o0)))))),fun ds δ q x h=>?_⟩)
  · unfold g0v at h
    obtain ⟨full,mark,ws,price,r,rfl,hl,hq⟩:=h
    rfl
  · unfold g0v at h
    obtain ⟨full,mark,ws,price,r,rfl,hl,hq⟩:=h
    rw [show p4 ["part","round_number"] _=[.val _,.val _] from rfl]
    walk_at "dl"
    (try simp only [m7]; walk_at "fl")
    exact ⟨by rw [List.length_map]; omega,by rw [g0w r hl]; exact hq⟩
noncomputable abbrev y0w:List Str:=["part","thing"]
theorem sc_is_stand:FnScope ["part","thing"] y0w (defScope x0a):=⟨rfl,rfl,rfl,by decide +kernel,rfl,by decide +kernel,by decide +kernel⟩
noncomputable abbrev w0s (P:Program) (w:World) (K:PySem.W.Frag) (mg:Str→Option Value) (base:Heap) (cs:Cs):Prop:=Fun2 P w K mg base "is_stand" 3 y0w (u0q cs)
theorem n0s {f:Addr} {fd:FuncData} (Df:DefAt K mg "is_stand" x0a y0w f fd) (T:Txt K mg cs) (G_is_whole:b7 P w K mg base cs):w0s P w K mg base cs:=by
  have nd:=sc_is_stand.nd
  refine def2 Df sc_is_stand (fun ds δ q x h=>?_) (fun cdv A outer s H E Y hr=>⟨_,(d0 (u4 (u3 G_is_whole (hr.mono (by decide)) i0 (z0 (e2_v 1) (z0 (x0e K (e2_v 0)) (z0 (x0e K (e2_v 0)) o0)))))),fun ds δ q x h=>?_⟩)
  · unfold u0q at h
    obtain ⟨full,mark,ws,price,d,rfl,hd,hq⟩:=h
    rfl
  · unfold u0q at h
    obtain ⟨full,mark,ws,price,d,rfl,hd,hq⟩:=h
    rw [show p4 ["part","thing"] _=[.val _,.val _] from rfl]
    walk_at "dl"
    (try simp only [m7]; walk_at "fl")
    exact ⟨hd,hq⟩
noncomputable abbrev l7:List Str:=["first"]
theorem sc_check_first:FnScope ["first"] l7 (defScope q9):=⟨rfl,rfl,rfl,by decide +kernel,rfl,by decide +kernel,by decide +kernel⟩
noncomputable abbrev i9 (P:Program) (w:World) (K:PySem.W.Frag) (mg:Str→Option Value) (base:Heap) (cs:Cs):Prop:=Fun2 P w K mg base "check_first" 3 l7 (z0e cs)
theorem u0a {f:Addr} {fd:FuncData} (Df:DefAt K mg "check_first" q9 l7 f fd) (T:Txt K mg cs) (G_is_whole:b7 P w K mg base cs):i9 P w K mg base cs:=by
  have nd:=sc_check_first.nd
  refine def2 Df sc_check_first (fun ds δ q x h=>?_) (fun cdv A outer s H E Y hr=>⟨_,(d0 (v6 (x8 (y7 (u3 G_is_whole (hr.mono (by decide)) i0 (z0 (e2_v 0) (z0 l0 (z0 (e0x T.g_GREATEST_FIRST) o0)))))) (d0 (x0p rfl i0 T.k_NoRounds T.x_NoRounds T.c_NoRounds)) x5)),fun ds δ q x h=>?_⟩)
  · unfold z0e at h
    obtain ⟨d,rfl,hd,hq,hx⟩:=h
    rfl
  · unfold z0e at h
    obtain ⟨d,rfl,hd,hq,hx⟩:=h
    rw [show p4 ["first"] _=[.val _] from rfl]
    walk_at "dl"
    simp only [y0a]
    refine ⟨hd,?_⟩
    cases e:b3 d 0 47 with
    | true=>exact hq e
    | false=>exact hx e
noncomputable def intD:D→Int | .int i=>i | _=>0
noncomputable def risI:List Int→Bool
  | a :: b :: r=>decide (a < b) && risI (b :: r)
  | _=>true
noncomputable def risD (d:D) (lo hi:Int):Bool:=v7 d 0 (hi - lo + 1) lo hi && risI (((rowD d).getD []).map intD)
theorem s0z {lo hi:Int}:∀ {xs:List D},xs.all (b3 · lo hi)=true→xs=(xs.map intD).map D.int
  | [],_=>rfl
  | d :: xs,h=>by
    rw [List.all_cons,Bool.and_eq_true] at h
    obtain ⟨i,rfl,_,_⟩:=y9 h.1
    rw [List.map_cons,List.map_cons,← s0z h.2]; rfl
theorem e0b (ns:List Int):(ns.map D.int).map intD=ns:=by
  rw [List.map_map]
  exact List.map_id _
theorem atZ {ns:List Int} {z:Int} (h0:0≤z) (h1:z < (ns.length:Int)):atI (ns.map D.int) z=some (.int (ns.getD z.toNat 0)):=by
  have hz:z=((z.toNat:Nat):Int):=by omega
  have hl:z.toNat < ns.length:=by omega
  rw [hz,s0u (v:=D.int (ns.getD z.toNat 0))]
  · rfl
  · rw [List.getElem?_map,List.getElem?_eq_getElem hl,List.getD_eq_getElem?_getD,List.getElem?_eq_getElem hl]
    rfl
theorem g0t:∀ ns:List Int,((List.range (ns.length - 1)).map fun j=>decide (ns.getD j 0 < ns.getD (j + 1) 0)).all id=risI ns
  | []=>rfl
  | [a]=>rfl
  | a :: b :: r=>by
    have ih:=g0t (b :: r)
    have e:(a :: b :: r).length - 1=(r.length) + 1:=by simp
    have e2:(b :: r).length - 1=r.length:=by simp
    rw [e2] at ih
    rw [e,List.range_succ_eq_map,List.map_cons,List.all_cons,List.map_map]
    unfold risI
    rw [← ih]
    rfl
noncomputable def v0m:Sp2:=fun ds δ q _=>match ds with | [d,.int lo,.int hi]=>o5 d=true∧hi - lo + 1≤900∧q (.bl (risD d lo hi)) δ | _=>False
noncomputable abbrev m6:List Str:=["thing","least","most"]
theorem sc_is_rising_row:FnScope ["thing","least","most"] m6 (defScope u8):=⟨rfl,rfl,rfl,by decide +kernel,rfl,by decide +kernel,by decide +kernel⟩
noncomputable abbrev q8 (P:Program) (w:World) (K:PySem.W.Frag) (mg:Str→Option Value) (base:Heap) (cs:Cs):Prop:=Fun2 P w K mg base "is_rising_row" 4 m6 v0m
theorem v0z {f:Addr} {fd:FuncData} (Df:DefAt K mg "is_rising_row" u8 m6 f fd) (T:Txt K mg cs) (G_is_whole_row:u6 P w K mg base cs):q8 P w K mg base cs:=by
  have nd:=sc_is_rising_row.nd
  refine def2 Df sc_is_rising_row (fun ds δ q x h=>?_) (fun cdv A outer s H E Y hr=>⟨_,(j0 (v6 (x8 (y7 (u3 G_is_whole_row (hr.mono (by decide)) i0 (z0 (e2_v 0) (z0 l0 (z0 (j3 x4 j4 (j3 x0t s0n (e2_v 2) (e2_v 1)) l0) (z0 (e2_v 1) (z0 (e2_v 2) o0)))))))) (d0 (u4 z0v)) x5)
      (d0 (u4 (e2_b (m0q rfl) d_all T.n_all d0e (z0 (s0e rfl (CompOkM.of ["k"] [0] rfl) (i0j T.n_range (z0 l0 (z0 (u9 0 T.n_len) o0))) (fun nd _ _ _ _ _=>(n4 (i:=0) nd rfl (by first | exact Or.inl rfl | exact Or.inr rfl))) v0r (fun _ _ _ _ _ _=>o0q) (fun _ _ _ _ _ _=>(t0i p0b d_lt (m5 1 (j3 x0t s0n (e2_v 0) l0)) (m5 1 (e2_v 0)) (z5 _)))) o0))))),fun ds δ q x h=>?_⟩)
  · unfold v0m at h
    split at h
    · rfl
    · exact h.elim
  · unfold v0m at h
    split at h
    rotate_left
    · exact h.elim
    rename_i d lo hi
    obtain ⟨ht,hb,hq⟩:=h
    rw [show p4 ["thing","least","most"] _=[.val _,.val _,.val _] from rfl]
    walk_at "dl"
    simp only [q0d,ht,true_and]
    refine ⟨hb,?_⟩
    cases e:v7 d 0 (hi - lo + 1) lo hi with
    | false =>
      have er:risD d lo hi=false:=by unfold risD; rw [e]; rfl
      rw [er] at hq
      simp only [Bool.not_false,if_true]
      exact hq
    | true =>
      simp only [Bool.not_true,Bool.false_eq_true,if_false]
      have er:risD d lo hi=risI (((rowD d).getD []).map intD):=by unfold risD; rw [e]; rfl
      rw [er] at hq
      have main:∀ ns:List Int,(ns.length:Int)≤900→q (.bl (risI ns)) δ→∀ (c:D),seqV [.val c] none 0=some (ns.map D.int)→(∀ a,c≠.ref a)→w0d (t2Op ltF (l0d 1 (t2Op subF (t2V 0) (t2C (.int 1)))) (l0d 1 (t2V 0))) [0] [.val c,.val (.int lo),.val (.int hi)]
          (fun acc δ2=>match blsD acc with | some bs=>q (D.bl (bs.all id)) δ2 | none=>False) (rngD 1 (((ns.length:Nat):Int) - 1).toNat) [] δ:=by
        intro ns hl hq c hc hr
        have hs:∀ (ρ:En) δ',seqV (ρ++[.val c]) δ' ρ.length=some (ns.map D.int):=fun ρ δ'=>by
          unfold seqV at hc ⊢
          rw [List.getElem?_append_right (Nat.le_refl _),Nat.sub_self]
          cases c <;> first | exact hc | exact absurd rfl (hr _)
        refine s0f (fun i acc δ'=>acc=(List.range i).map (fun j=>D.bl (decide (ns.getD j 0 < ns.getD (j + 1) 0)))∧δ'=δ) ⟨rfl,rfl⟩ ?_ ?_
        · rintro i z acc δ' rest hi ⟨rfl,rfl⟩ hrest
          obtain ⟨hi2,rfl⟩:=s0i hi
          have hs1:=hs [.val (.int (1 + (i:Int)))] δ'
          simp only [capt,q0s,List.map_cons,List.map_nil,List.getElem?_cons_zero]
          simp only [t2Op,l0d,t2V,t2C,rdV,hasV,List.getElem?_cons_zero,List.getElem?_cons_succ,fI0,true_and]
          simp only [List.cons_append,List.nil_append,List.length_cons,List.length_nil,Nat.zero_add] at hs1
          simp only [hs1,ixQ,ltF,fI0]
          rw [atZ (by omega) (by omega),atZ (by omega) (by omega)]
          dsimp only
          refine ⟨by rw [List.length_map,List.length_range]; omega,hrest _ _ ⟨?_,rfl⟩⟩
          rw [List.range_succ,List.map_append]
          have e1:(1 + (i:Int) - 1).toNat=i:=by omega
          have e2:(1 + (i:Int)).toNat=i + 1:=by omega
          rw [e1,e2]; rfl
        · rintro acc δ' ⟨rfl,rfl⟩
          rw [x0o,o0g]
          dsimp only
          have e1:(((ns.length:Nat):Int) - 1).toNat=ns.length - 1:=by omega
          rw [e1,g0t]
          exact hq
      have key:∀ xs:List D,rowD d=some xs→((xs.map intD).map D.int)=xs∧(xs.length:Int)≤900:=fun xs hx=>by
        unfold v7 at e
        rw [hx] at e
        dsimp only at e
        simp only [Bool.and_eq_true,decide_eq_true_eq] at e
        exact ⟨(s0z e.2).symm,by omega⟩
      have len:∀ xs:List D,((xs.map intD).length:Int)=(xs.length:Int):=fun xs=>by rw [List.length_map]
      have bnd:∀ xs:List D,rowD d=some xs→(-(2 ^ 62)≤(1:Int)∧(1:Int) < 2 ^ 62∧-(2 ^ 62)≤((xs.length:Nat):Int)∧((xs.length:Nat):Int) < 2 ^ 62):=fun xs hx=>by have:=(key xs hx).2; omega
      cases d <;> first | (cases e; done) | skip
      · rename_i xs
        obtain ⟨k1,k2⟩:=key xs rfl
        refine ⟨bnd xs rfl,?_⟩
        have:=main (xs.map intD) (by rw [len]; exact k2) hq (.lst xs) (by rw [k1]; rfl) (fun a z=>by cases z)
        rw [List.length_map] at this
        exact this
      · rename_i xs
        obtain ⟨k1,k2⟩:=key xs rfl
        refine ⟨bnd xs rfl,?_⟩
        have:=main (xs.map intD) (by rw [len]; exact k2) hq (.tup xs) (by rw [k1]; rfl) (fun a z=>by cases z)
        rw [List.length_map] at this
        exact this
noncomputable def DkM (p:Addr) (n:Nat) (δ:Dk):Prop:=∃ ms:List Int,δ=some (p,ms.map D.int)∧n≤ms.length∧∀ m∈ms,0≤m∧m < 1000
theorem DkM.mono {p:Addr} {n m:Nat} {δ:Dk} (h:DkM p n δ) (l:m≤n):DkM p m δ:=by
  obtain ⟨ms,e,h1,h2⟩:=h
  exact ⟨ms,e,by omega,h2⟩
theorem p0r {tc:TT2} {tb:TS2} {E:End2} (P:Nat→En→Dk→Prop) (step:∀ (k:Nat) (ρ:En) (δ:Dk) (rest:En→Dk→Prop),P k ρ δ→(∀ ρ' δ',k≠0→P (k - 1) ρ' δ'→rest ρ' δ') →
    tc E.xc ρ δ fun b ρ1 δ1=>if b=true then tb { E with nx:=rest,ct:=rest,bk:=E.nx } ρ1 δ1 else E.nx ρ1 δ1):∀ (k:Nat) (ρ:En) (δ:Dk),P k ρ δ→z0k tc tb E (k + 1) ρ δ:=by
  intro k
  induction k with
  | zero=>intro ρ δ p; unfold z0k; exact step 0 ρ δ _ p fun _ _ h _=>absurd rfl h
  | succ k ih=>intro ρ δ p; unfold z0k; exact step (k + 1) ρ δ _ p fun ρ' δ' _ p'=>ih ρ' δ' p'
noncomputable def n0r:Sp2:=fun ds δ q _=>∃ c k:Int,ds=[.int c,.int k]∧0≤k∧k < 2 ^ 40∧∀ r:Int,q (.int r) δ
noncomputable def n0q:Sp2:=fun ds δ q _=>∃ (ns:List Int) (m:Int),ds=[.scr (ns.map D.int),.int m]∧δ=none∧ns.length≤63∧0≤m∧m≤900∧∀ p δ',DkM p m.toNat δ'→q (.ref p) δ'
noncomputable def g0s:Sp2:=fun ds δ q _=>∃ p n,ds=[.ref p]∧DkM p (n + 1) δ∧∀ (v:Int) δ',0≤v→v < 1000→DkM p n δ'→q (.int v) δ'
noncomputable abbrev h9:List Str:=["_law_cell","_law_k"]
theorem sc_law_mixed:FnScope ["_law_cell","_law_k","_law_number"] h9 (defScope y0i):=⟨rfl,rfl,rfl,by decide +kernel,rfl,by decide +kernel,by decide +kernel⟩
noncomputable abbrev x0y (P:Program) (w:World) (K:PySem.W.Frag) (mg:Str→Option Value) (base:Heap) (cs:Cs):Prop:=Fun2 P w K mg base "_law_mixed" 2 h9 n0r
theorem p0q {f:Addr} {fd:FuncData} (Df:DefAt K mg "_law_mixed" y0i h9 f fd) (T:Txt K mg cs):x0y P w K mg base cs:=by
  have nd:=sc_law_mixed.nd
  refine def2 Df sc_law_mixed (fun ds δ q x h=>?_) (fun cdv A outer s H E Y hr=>⟨_,(j0 (a3 2 nd (j3 x4 j4 (j3 d4 y6 (e2_v 0) l0) (j3 w0j q0u (j3 w0j q0u (e2_v 1) (e2_v 1)) l0)))
      (j0 (a3 2 nd (j3 d4 y6 (j3 x4 j4 (j3 x4 j4 (e2_v 2) (j3 w0j q0u (e2_v 1) l0)) l0) l0))
      (j0 (a3 2 nd (j3 d4 y6 (j3 w0j q0u (e2_v 2) (e2_v 2)) l0))
      (j0 (a3 2 nd (j3 w0j q0u (j3 x4 j4 (j3 x4 j4 (e2_v 2) (j3 w0j q0u (e2_v 1) l0)) l0) l0))
      (j0 (a3 2 nd (j3 d4 y6 (e2_v 2) l0))
      (j0 (a3 2 nd (j3 d4 y6 (j3 w0j q0u (e2_v 2) (e2_v 2)) l0))
      (d0 (u4 (j3 x0g t0g (e2_v 2) l0))))))))),fun ds δ q x h=>?_⟩)
  · unfold n0r at h
    obtain ⟨c,k,rfl,hk,hk2,hq⟩:=h
    rfl
  · unfold n0r at h
    obtain ⟨c,k,rfl,hk,hk2,hq⟩:=h
    rw [show p4 ["_law_cell","_law_k","_law_number"] _=[.val _,.val _,.no] from rfl]
    walk_at "dl"
    have m1:=fun z:Int=>Int.emod_nonneg z (b:=2305843009213693951) (by decide)
    have m2:=fun z:Int=>Int.emod_lt_of_pos z (b:=2305843009213693951) (by decide)
    refine ⟨by decide,.inl ⟨by omega,by omega⟩,.inr ⟨by decide,by decide⟩,.inr ⟨by decide,by decide⟩,by decide,?_⟩
    generalize (c % 2305843009213693951 + k * k * 48271 + k * 9973 + 20021)=z
    refine ⟨.inl ⟨by have:=m1 z; omega,by have:=m2 z; omega⟩,by decide,.inr ⟨by decide,by decide⟩,.inr ⟨by decide,by decide⟩,by decide,?_⟩
    generalize ((z % 2305843009213693951 * (z % 2305843009213693951) % 2305843009213693951 + k * 16807 + 11) * 48271)=y
    exact ⟨.inl ⟨by have:=m1 y; omega,by have:=m2 y; omega⟩,by decide,⟨by decide,by decide⟩,hq _⟩
noncomputable abbrev y0v:List Str:=["_law_deck_here"]
theorem sc_law_next:FnScope ["_law_deck_here"] y0v (defScope w0y):=⟨rfl,rfl,rfl,by decide +kernel,rfl,by decide +kernel,by decide +kernel⟩
noncomputable abbrev a7 (P:Program) (w:World) (K:PySem.W.Frag) (mg:Str→Option Value) (base:Heap) (cs:Cs):Prop:=Fun2 P w K mg base "_law_next" 2 y0v g0s
theorem n0p {f:Addr} {fd:FuncData} (Df:DefAt K mg "_law_next" w0y y0v f fd) (T:Txt K mg cs):a7 P w K mg base cs:=by
  have nd:=sc_law_next.nd
  refine def2 Df sc_law_next (fun ds δ q x h=>?_) (fun cdv A outer s H E Y hr=>⟨_,(d0 (u4 (c0y 0 PySem.F.slot_list_pop PySem.F.type_list_pop d0k m_pop))),fun ds δ q x h=>?_⟩)
  · unfold g0s at h
    obtain ⟨p,n,rfl,hD,hq⟩:=h
    rfl
  · unfold g0s at h
    obtain ⟨p,n,rfl,hD,hq⟩:=h
    rw [show p4 ["_law_deck_here"] _=[.val _] from rfl]
    obtain ⟨ms,rfl,hl,hm⟩:=hD
    walk_at "dl"
    have ne:ms≠[]:=by intro z; rw [z] at hl; simp at hl
    have e:(ms.map D.int).getLast?=some (.int (ms.getLast ne)):=by rw [List.getLast?_map,List.getLast?_eq_some_getLast ne]; rfl
    rw [e]
    dsimp only
    have hb:=hm _ (List.getLast_mem ne)
    exact hq _ _ hb.1 hb.2 ⟨ms.dropLast,by rw [List.map_dropLast],by rw [List.length_dropLast]; omega,fun m h=>hm m (List.dropLast_subset ms h)⟩
noncomputable abbrev y0u:List Str:=["_law_script","_law_many"]
theorem sc_law_deck:FnScope ["_law_script","_law_many","_law_cells","_law_found","_law_k","_law_cell","_law_rest"] y0u (defScope w0z):=⟨rfl,rfl,rfl,by decide +kernel,rfl,by decide +kernel,by decide +kernel⟩
noncomputable abbrev w0r (P:Program) (w:World) (K:PySem.W.Frag) (mg:Str→Option Value) (base:Heap) (cs:Cs):Prop:=Fun2 P w K mg base "_law_deck" 3 y0u n0q
theorem n0o {f:Addr} {fd:FuncData} (Df:DefAt K mg "_law_deck" w0z y0u f fd) (T:Txt K mg cs) (G_law_mixed:x0y P w K mg base cs):w0r P w K mg base cs:=by
  have nd:=sc_law_deck.nd
  refine def2 Df sc_law_deck (fun ds δ q x h=>?_) (fun cdv A outer s H E Y hr=>⟨_,(j0 (a3 2 nd (j3 x4 j4 (u0d p6 t0f T.n_list y8 (z0 (e2_v 0) o0)) (o4 (z0 (u9 0 T.n_len) o0))))
      (j0 (t0e 3 nd o0)
      (j0 (a3 4 nd l0)
      (j0 (s0h PassesOwn.leaving (p5 p0b d_lt (u9 3 T.n_len) (e2_v 1) (z5 _)) (j0 (a3 5 nd (e2_b f0y d_abs T.n_abs bt_abs (z0 (m5 2 (j3 d4 y6 (e2_v 4) (u9 2 T.n_len))) o0)))
      (j0 (w8 (o0s 3 PySem.F.slot_list_append PySem.F.type_list_append z8 s9 (z0 (j3 d4 y6 (u3 G_law_mixed (hr.mono (by decide)) i0 (z0 (e2_v 5) (z0 (e2_v 4) o0))) l0) o0)))
      (j0 (v6 (PW2.pt (m0j (p5 p0b d_lt (e2_v 4) (u9 2 T.n_len) (z5 _)) (s0o (p5 b0p d_ge (e2_v 5) (j3 d0q d_pow l0 l0) (z5 _))))) (j0 (w8 (c0y 3 PySem.F.slot_list_pop PySem.F.type_list_pop d0k m_pop))
      (j0 (a3 6 nd (e2_v 5))
      (d0 (s0h PassesOwn.leaving (PW2.pt (m0j (p5 op_gt d_gt (e2_v 6) l0 (z5 _)) (s0o (p5 p0b d_lt (u9 3 T.n_len) (e2_v 1) (z5 _))))) (j0 (w8 (o0s 3 PySem.F.slot_list_append PySem.F.type_list_append z8 s9 (z0 (j3 d4 y6 (e2_v 6) l0) o0)))
      (d0 (a3 6 nd (j3 x0g t0g (e2_v 6) l0)))))))) x5)
      (d0 (a3 4 nd (j3 x4 j4 (e2_v 4) l0)))))))
      (d0 (h0m rfl T.n_reversed T.n_list (z0 (e2_v 3) o0))))))),fun ds δ q x h=>?_⟩)
  · unfold n0q at h
    obtain ⟨ns,m,rfl,rfl,hn,m0,m1,hq⟩:=h
    rfl
  · unfold n0q at h
    obtain ⟨ns,m,rfl,rfl,hn,m0,m1,hq⟩:=h
    rw [show p4 ["_law_script","_law_many","_law_cells","_law_found","_law_k","_law_cell","_law_rest"] _=[.val _,.val _,.no,.no,.no,.no,.no] from rfl]
    walk_at "dl"
    refine ⟨(by rw [List.length_map]; omega),m.toNat + 1,?_⟩
    have ecl:List.map D.int ns++[D.int ((List.map D.int ns).length:Nat)]=(ns++[(ns.length:Int)]).map D.int:=by rw [List.map_append,List.length_map]; rfl
    rw [ecl]
    generalize hcl:ns++[(ns.length:Int)]=cl
    have hcn:0 < cl.length:=by rw [← hcl]; simp
    clear ecl hcl
    refine p0r (fun k ρ δ'=>∃ (fs:List Int) (kk:Int) (c5 c6:Cell),ρ=[Cell.val (D.scr (List.map D.int ns)),Cell.val (D.int m),Cell.val (D.lst (cl.map D.int)),Cell.own (fs.map D.int),Cell.val (D.int kk),c5,c6]∧δ'=none ∧
      (∀ f∈fs,0≤f∧f < 1000)∧(fs.length:Int)≤m∧m - fs.length≤(k:Int)∧0≤kk∧kk≤(fs.length:Int)) ?_ m.toNat _ none ⟨[],0,_,_,rfl,rfl,(fun f hf=>nomatch hf),(by simp; omega),(by simp; omega),by omega,by simp⟩
    rintro k ρ δ' rest ⟨fs,kk,c5,c6,rfl,rfl,hf,hl,hk,k1,k2⟩ hrest
    walk_at "dl"
    simp only [List.length_map]
    by_cases hlt:(fs.length:Int) < m
    rotate_left
    · rw [if_neg hlt]
      exact fun p=>hq p _ ⟨fs.reverse,by rw [List.map_reverse],by rw [List.length_reverse]; omega,fun z hz=>hf z (List.mem_reverse.mp hz)⟩
    · rw [if_pos hlt]
      refine ⟨by omega,?_⟩
      obtain ⟨v,hat,hv⟩:=a0u (xs:=cl.map D.int) (k:=kk) (by rw [List.length_map]; exact hcn)
      rw [List.length_map] at hat
      obtain ⟨z,_,rfl⟩:=List.mem_map.mp hv
      rw [hat]
      walk_at "dl"
      generalize (if z < 0 then -z else z)=cell
      refine ⟨rfl,_,kk,rfl,k1,by omega,fun r=>?_⟩
      have r1:=Int.emod_nonneg r (b:=1000) (by decide)
      have r2:=Int.emod_lt_of_pos r (b:=1000) (by decide)
      have one:List.map D.int fs++[D.int (r % 1000)]=(fs++[r % 1000]).map D.int:=by rw [List.map_append]; rfl
      have goon:∀ c5 c6,rest [Cell.val (D.scr (List.map D.int ns)),Cell.val (D.int m),Cell.val (D.lst (List.map D.int cl)),Cell.own (List.map D.int fs++[D.int (r % 1000)]),Cell.val (D.int (kk + 1)),c5,c6] none:=fun c5 c6=>by
        rw [one]
        refine hrest _ _ (by omega) ⟨fs++[r % 1000],kk + 1,c5,c6,rfl,rfl,fun f h=>?_,by simp; omega,by simp; omega,by omega,by simp; omega⟩
        rcases List.mem_append.mp h with h | h
        · exact hf f h
        · rw [List.mem_singleton.mp h]; exact ⟨r1,r2⟩
      walk_at "dl"
      refine ⟨by decide,by omega,?_⟩
      split
      · refine ⟨⟨by decide,by decide,by decide⟩,?_⟩
        split
        · rename_i hbig
          have hbig:1≤cell:=Int.le_trans (b:=10 ^ Int.toNat 18) (by decide) hbig
          rw [List.getLast?_concat,List.dropLast_concat]
          walk_at "dl"
          refine ⟨(m - fs.length).toNat + 1,?_⟩
          refine p0r (fun j ρ δ'=>∃ (gs:List Int) (re:Int),ρ=[Cell.val (D.scr (List.map D.int ns)),Cell.val (D.int m),Cell.val (D.lst (List.map D.int cl)),Cell.own (gs.map D.int),Cell.val (D.int kk),Cell.val (.int cell),Cell.val (.int re)]∧δ'=none ∧
            (∀ f∈gs,0≤f∧f < 1000)∧(gs.length:Int)≤m∧m - gs.length≤(j:Int)∧((gs=fs∧re=cell)∨fs.length < gs.length)) ?_ _ _ none ⟨fs,cell,rfl,rfl,hf,hl,by omega,.inl ⟨rfl,rfl⟩⟩
          rintro j ρ δ' rest2 ⟨gs,re,rfl,rfl,hg,gl,gk,gor⟩ hrest2
          walk_at "dl"
          simp only [List.length_map]
          have fin:¬ (0 < re∧(gs.length:Int) < m)→rest [Cell.val (D.scr (List.map D.int ns)),Cell.val (D.int m),Cell.val (D.lst (List.map D.int cl)),Cell.own (gs.map D.int),Cell.val (D.int (kk + 1)),Cell.val (.int cell),Cell.val (.int re)] none:=fun hno=>by
            have hlen:fs.length < gs.length:=by
              rcases gor with ⟨e1,e2⟩ | h
              · subst e1 e2; exact absurd ⟨by omega,hlt⟩ hno
              · exact h
            exact hrest _ _ (by omega) ⟨gs,kk + 1,_,_,rfl,rfl,hg,gl,by omega,by omega,by omega⟩
          by_cases h1:0 < re
          · by_cases h2:(gs.length:Int) < m
            · rw [if_pos h1]
              simp only [h2,decide_true,if_true]
              have q1:=Int.emod_nonneg re (b:=1000) (by decide)
              have q2:=Int.emod_lt_of_pos re (b:=1000) (by decide)
              refine ⟨rfl,by decide,by omega,⟨by decide,by decide⟩,?_⟩
              refine hrest2 _ _ (by omega) ⟨gs++[re % 1000],_,by rw [List.map_append]; rfl,rfl,fun f h=>?_,by simp; omega,by simp; omega,.inr ?_⟩
              · rcases List.mem_append.mp h with h | h
                · exact hg f h
                · rw [List.mem_singleton.mp h]; exact ⟨q1,q2⟩
              · have:fs.length≤gs.length:=by
                  rcases gor with ⟨e1,_⟩ | h
                  · rw [e1]; exact Nat.le_refl _
                  · omega
                simp; omega
            · rw [if_pos h1]
              simp only [h2,decide_false,Bool.false_eq_true,if_false]
              exact fin (fun z=>h2 z.2)
          · rw [if_neg h1]
            exact fin (fun z=>h1 z.1)
        · exact goon _ _
      · exact goon _ _
structure SpecOk (full mark:Int) (ws:List Int) (price:Int):Prop where
  f1:1≤full
  f2:full≤9
  m1:0≤mark
  m2:mark≤full
  l1:0 < ws.length
  l2:ws.length≤6
  w:∀ x∈ws,0≤x∧x≤9
  p1:0≤price
  p2:price≤99
theorem e0a {ws:List Int} (h:∀ x∈ws,0≤x∧x≤9):(ws.map D.int).all (b3 · 0 9)=true:=by
  rw [List.all_eq_true]
  intro d hd
  obtain ⟨x,hx,rfl⟩:=List.mem_map.mp hd
  unfold b3
  rw [Bool.and_eq_true,decide_eq_true_eq,decide_eq_true_eq]
  exact h x hx
theorem k0s {ws:List Int}:(ws.map D.int).all u5=true:=by
  rw [List.all_eq_true]
  intro d hd
  obtain ⟨x,hx,rfl⟩:=List.mem_map.mp hd
  rfl
theorem atL {xs:List D} {k:Int} (h0:0≤k) (h1:k < (xs.length:Int)):∃ z,atI xs k=some z∧z∈xs:=by
  have hz:k=((k.toNat:Nat):Int):=by omega
  rw [hz]
  exact ⟨_,s0u (List.getElem?_eq_getElem (show k.toNat < xs.length by omega)),List.getElem_mem _⟩
noncomputable def rowL (full mark:Int) (ws:List Int) (price:Int):D:=.lst [.int full,.int mark,.lst (ws.map D.int),.int price]
noncomputable def n0n:Sp2:=fun ds δ q _=>∃ p n,∃ most wears:Int,ds=[.ref p,.int most,.int wears]∧1≤most∧most≤9∧1≤wears∧wears≤6∧DkM p (n + wears.toNat + 4) δ∧∀ full mark ws price δ',SpecOk full mark ws price→full≤most→(ws.length:Int)≤wears→DkM p n δ'→q (rowL full mark ws price) δ'
noncomputable abbrev y0t:List Str:=["_law_deck_here","_law_most","_law_wears"]
theorem sc_law_part:FnScope ["_law_deck_here","_law_most","_law_wears","_law_full","_law_number","_law_mark","_law_wear","_law_k","_law_gone"] y0t (defScope w0x):=⟨rfl,rfl,rfl,by decide +kernel,rfl,by decide +kernel,by decide +kernel⟩
noncomputable abbrev w0q (P:Program) (w:World) (K:PySem.W.Frag) (mg:Str→Option Value) (base:Heap) (cs:Cs):Prop:=Fun2 P w K mg base "_law_part" 3 y0t n0n
theorem n0m {f:Addr} {fd:FuncData} (Df:DefAt K mg "_law_part" w0x y0t f fd) (T:Txt K mg cs) (G_law_next:a7 P w K mg base cs):w0q P w K mg base cs:=by
  have nd:=sc_law_part.nd
  refine def2 Df sc_law_part (fun ds δ q x h=>?_) (fun cdv A outer s H E Y hr=>⟨_,(j0 (a3 3 nd (j3 x4 j4 l0 (j3 d4 y6 (u3 G_law_next (hr.mono (by decide)) i0 (z0 (e2_v 0) o0)) (e2_v 1))))
      (j0 (a3 4 nd (u3 G_law_next (hr.mono (by decide)) i0 (z0 (e2_v 0) o0)))
      (j0 (a3 5 nd (f0i r0h d_ix (o4 (z0 l0 (z0 (j3 d4 y6 (j3 x0g t0g (e2_v 4) l0) (j3 x4 j4 (e2_v 3) l0)) (z0 (j3 d4 y6 (j3 x0g t0g (e2_v 4) l0) (j3 x4 j4 (j3 x0g t0g (e2_v 3) l0) l0)) o0)))) (j3 d4 y6 (e2_v 4) l0)))
      (j0 (t0e 6 nd o0)
      (j0 (z0x PassesOwn.leaving rfl (v0c T.n_range (z0 (j3 x4 j4 l0 (j3 d4 y6 (u3 G_law_next (hr.mono (by decide)) i0 (z0 (e2_v 0) o0)) (e2_v 2))) o0)) (n4 (i:=7) nd rfl (by first | exact Or.inl rfl | exact Or.inr rfl)) (z0l (i:=7)) (j0 (a3 4 nd (u3 G_law_next (hr.mono (by decide)) i0 (z0 (e2_v 0) o0)))
      (j0 (a3 8 nd (j3 d4 y6 (e2_v 4) (j3 x4 j4 (j3 x0t s0n (e2_v 3) (e2_v 5)) l0)))
      (j0 (v6 (p5 (z0w hr.units0) w0c (j3 d4 y6 (j3 x0g t0g (e2_v 4) l0) l0) l0 (z5 _)) (d0 (a3 8 nd (j3 d4 y6 (e2_v 4) l0))) x5)
      (d0 (w8 (o0s 6 PySem.F.slot_list_append PySem.F.type_list_append z8 s9 (z0 (e2_v 8) o0))))))))
      (d0 (u4 (o4 (z0 (e2_v 3) (z0 (e2_v 5) (z0 (e2_v 6) (z0 (j3 d4 y6 (u3 G_law_next (hr.mono (by decide)) i0 (z0 (e2_v 0) o0)) l0) o0)))))))))))),fun ds δ q x h=>?_⟩)
  · unfold n0n at h
    obtain ⟨p,n,most,wears,rfl,h1,h2,h3,h4,hD,hq⟩:=h
    rfl
  · unfold n0n at h
    obtain ⟨p,n,most,wears,rfl,h1,h2,h3,h4,hD,hq⟩:=h
    rw [show p4 ["_law_deck_here","_law_most","_law_wears","_law_full","_law_number","_law_mark","_law_wear","_law_k","_law_gone"] _=[.val _,.val _,.val _,.no,.no,.no,.no,.no,.no] from rfl]
    walk_at "dn"
    refine ⟨p,_,rfl,hD,fun a0 δ0 a1 a2 hD=>?_⟩
    have b1:=Int.emod_nonneg a0 (b:=most) (by omega)
    have b2:=Int.emod_lt_of_pos a0 (b:=most) (by omega)
    generalize ha:a0 % most=b0 at b1 b2
    refine ⟨by omega,?_⟩
    rw [ha]
    refine ⟨p,_,rfl,hD,fun c0 δ1 c1 c2 hD=>?_⟩
    have d1:=Int.emod_nonneg c0 (b:=3) (by decide)
    have d2:=Int.emod_lt_of_pos c0 (b:=3) (by decide)
    have e1:=Int.emod_nonneg (c0 / 3) (b:=1 + b0 + 1) (by omega)
    have e2:=Int.emod_lt_of_pos (c0 / 3) (b:=1 + b0 + 1) (by omega)
    have g0:0≤(1 + b0) / 2∧(1 + b0) / 2≤1 + b0:=by omega
    have g1:=Int.emod_nonneg (c0 / 3) (b:=(1 + b0) / 2 + 1) (by omega)
    have g2:=Int.emod_lt_of_pos (c0 / 3) (b:=(1 + b0) / 2 + 1) (by omega)
    refine ⟨⟨by decide,by decide⟩,by omega,⟨by decide,by decide⟩,⟨by decide,by decide⟩,by omega,by decide,?_⟩
    obtain ⟨z,ez,hz⟩:=atL (xs:=[.int 0,.int (c0 / 3 % (1 + b0 + 1)),.int (c0 / 3 % ((1 + b0) / 2 + 1))]) d1 (by simpa using d2)
    obtain ⟨mk,rfl,mk1,mk2⟩:∃ mk:Int,z=.int mk∧0≤mk∧mk≤1 + b0:=by
      simp only [List.mem_cons,List.not_mem_nil,or_false] at hz
      rcases hz with rfl | rfl | rfl
      · exact ⟨_,rfl,by omega,by omega⟩
      · exact ⟨_,rfl,by omega,by omega⟩
      · exact ⟨_,rfl,by omega,by omega⟩
    rw [ez]
    dsimp only
    refine ⟨p,_,rfl,hD,fun k0 δ2 k1 k2 hD=>?_⟩
    walk_at "dn"
    have l1:=Int.emod_nonneg k0 (b:=wears) (by omega)
    have l2:=Int.emod_lt_of_pos k0 (b:=wears) (by omega)
    generalize hw:k0 % wears=w0 at l1 l2
    refine ⟨by omega,⟨by omega,by omega⟩,?_⟩
    have hsz:(rngD 0 (1 + w0).toNat).length=(1 + w0).toNat:=x0o
    refine v8 (fun i ρ δ'=>∃ (ws:List Int) (c4 c7 c8:Cell),ρ=[Cell.val (D.ref p),Cell.val (D.int most),Cell.val (D.int wears),Cell.val (D.int (1 + b0)),c4,Cell.val (.int mk),Cell.own (ws.map D.int),c7,c8]∧ws.length=i∧(∀ x∈ws,0≤x∧x≤9)∧DkM p (n + 1 + ((1 + w0).toNat - i)) δ') ⟨[],_,_,_,rfl,rfl,(fun x hx=>nomatch hx),hD.mono (by omega)⟩ ?_ ?_
    · rintro i d ρ δ' rest hi ⟨ws,c4,c7,c8,rfl,hwl,hws,hD⟩ hrest
      have hlt:=(List.getElem?_eq_some_iff.mp hi).1
      rw [hsz] at hlt
      unfold x0d
      walk_at "dl"
      refine ⟨p,n + ((1 + w0).toNat - i),rfl,hD.mono (by omega),fun x0 δ5 x1 x2 hD=>?_⟩
      have y1:=Int.emod_nonneg x0 (b:=1 + b0 - mk + 1) (by omega)
      have y2:=Int.emod_lt_of_pos x0 (b:=1 + b0 - mk + 1) (by omega)
      have y3:=Int.emod_nonneg x0 (b:=10) (by decide)
      have y4:=Int.emod_lt_of_pos x0 (b:=10) (by decide)
      have put:∀ g:Int,0≤g→g≤9→∀ c4 c7 c8,rest [Cell.val (D.ref p),Cell.val (D.int most),Cell.val (D.int wears),Cell.val (D.int (1 + b0)),c4,Cell.val (.int mk),Cell.own (ws.map D.int++[.int g]),c7,c8] δ5:=fun g g1 g2 c4 c7 c8=>by
        refine hrest _ _ ⟨ws++[g],c4,c7,c8,by rw [List.map_append]; rfl,by rw [List.length_append,hwl]; rfl,fun y hy=>?_,hD.mono (by omega)⟩
        rcases List.mem_append.mp hy with hy | hy
        · exact hws y hy
        · rw [List.mem_singleton.mp hy]; exact ⟨g1,g2⟩
      dsimp only
      refine ⟨by omega,⟨by decide,by decide⟩,by decide,?_⟩
      simp only [List.length_map]
      split
      · exact ⟨by decide,rfl,by omega,put _ y3 (by omega) _ _ _⟩
      · exact ⟨rfl,by omega,put _ y1 (by omega) _ _ _⟩
    · rintro ρ δ' ⟨ws,c4,c7,c8,rfl,hwl,hws,hD⟩
      rw [hsz] at hwl hD
      walk_at "dl"
      refine ⟨p,n,rfl,hD.mono (by omega),fun x0 δ5 x1 x2 hD=>?_⟩
      have y3:=Int.emod_nonneg x0 (b:=100) (by decide)
      have y4:=Int.emod_lt_of_pos x0 (b:=100) (by decide)
      walk_at "dl"
      exact ⟨by decide,hq _ _ ws _ _ ⟨by omega,by omega,mk1,mk2,by omega,by omega,hws,y3,by omega⟩ (by omega) (by omega) hD⟩
noncomputable def g0r:Sp2:=fun ds δ q _=>∃ full mark ws price r,ds=[rowL full mark ws price,.int r]∧0 < ws.length∧q (.int (w0a ws r)) δ
noncomputable def n0l (cs:Cs):Sp2:=fun ds δ q _=>∃ full mark ws price sort,ds=[rowL full mark ws price,.int sort]∧SpecOk full mark ws price∧q (m7 cs full mark ws price) δ
theorem g0q {cs:Cs} {full mark:Int} {ws:List Int} {price:Int} {d:D} (h:SpecOk full mark ws price) (hd:rowD d=some (ws.map D.int)) {δ:Dk} {q:D→Dk→Prop} {x:Addr→List (Str×D)→Dk→Prop} (hq:q (m7 cs full mark ws price) δ):u0r cs [.int full,.int mark,d,.int price] δ q x:=by
  unfold u0r
  have e1:b3 (.int full) 1 9=true:=i4 h.f1 h.f2
  have e2:b3 (.int mark) 0 full=true:=i4 h.m1 h.m2
  have e3:b3 (.int price) 0 99=true:=i4 h.p1 h.p2
  have e4:v7 d 1 6 0 9=true:=by
    unfold v7
    rw [hd]
    dsimp only
    rw [e0a h.w,List.length_map,decide_eq_true (show (1:Int)≤(ws.length:Int) by have:=h.l1; omega),decide_eq_true (show (ws.length:Int)≤6 by have:=h.l2; omega)]; rfl
  have e5:o5 d=true:=by
    unfold o5
    rw [hd]
    dsimp only
    rw [k0s]
    cases d <;> first | rfl | cases hd
  have e6:o5 (.int full)=true:=rfl
  have e7:o5 (.int mark)=true:=rfl
  have e8:o5 (.int price)=true:=rfl
  simp only [e1,e2,e3,e4,e5,e6,e7,e8,hd,Option.getD_some,if_true]
  exact ⟨rfl,hq⟩
noncomputable abbrev y0s:List Str:=["_law_row","_law_number"]
theorem sc_law_lost:FnScope ["_law_row","_law_number"] y0s (defScope w0w):=⟨rfl,rfl,rfl,by decide +kernel,rfl,by decide +kernel,by decide +kernel⟩
noncomputable abbrev w0p (P:Program) (w:World) (K:PySem.W.Frag) (mg:Str→Option Value) (base:Heap) (cs:Cs):Prop:=Fun2 P w K mg base "_law_lost" 2 y0s g0r
theorem n0k {f:Addr} {fd:FuncData} (Df:DefAt K mg "_law_lost" w0w y0s f fd) (T:Txt K mg cs):w0p P w K mg base cs:=by
  have nd:=sc_law_lost.nd
  refine def2 Df sc_law_lost (fun ds δ q x h=>?_) (fun cdv A outer s H E Y hr=>⟨_,(d0 (u4 (f0i r0h d_ix (m5 0 l0) (j3 d4 y6 (e2_v 1) (e2_b z0r d_len T.n_len m0l (z0 (m5 0 l0) o0)))))),fun ds δ q x h=>?_⟩)
  · unfold g0r at h
    obtain ⟨full,mark,ws,price,r,rfl,hl,hq⟩:=h
    rfl
  · unfold g0r at h
    obtain ⟨full,mark,ws,price,r,rfl,hl,hq⟩:=h
    rw [show p4 ["_law_row","_law_number"] _=[.val _,.val _] from rfl]
    unfold rowL
    walk_at "dl"
    exact ⟨by rw [List.length_map]; omega,by rw [g0w r hl]; exact hq⟩
noncomputable abbrev y0r:List Str:=["_law_row","_law_sort"]
theorem sc_law_made:FnScope ["_law_row","_law_sort"] y0r (defScope w0v):=⟨rfl,rfl,rfl,by decide +kernel,rfl,by decide +kernel,by decide +kernel⟩
noncomputable abbrev w0o (P:Program) (w:World) (K:PySem.W.Frag) (mg:Str→Option Value) (base:Heap) (cs:Cs):Prop:=Fun2 P w K mg base "_law_made" 6 y0r (n0l cs)
theorem n0j {f:Addr} {fd:FuncData} (Df:DefAt K mg "_law_made" w0v y0r f fd) (T:Txt K mg cs) (M_Part:Make2 P w K mg base "Part" 4 (u0r cs)):w0o P w K mg base cs:=by
  have nd:=sc_law_made.nd
  refine def2 Df sc_law_made (fun ds δ q x h=>?_) (fun cdv A outer s H E Y hr=>⟨_,(j0 (v6 (p5 (z0w hr.units0) w0c (j3 d4 y6 (e2_v 1) l0) l0 (z5 _)) (d0 (u4 (i0p M_Part (hr.mono (by decide)) i0 (z0 (m5 0 l0) (z0 (m5 0 l0) (z0 (u0d p6 t0f T.n_list y8 (z0 (m5 0 l0) o0)) (z0 (m5 0 l0) o0))))))) x5)
      (d0 (u4 (i0p M_Part (hr.mono (by decide)) i0 (z0 (m5 0 l0) (z0 (m5 0 l0) (z0 (u0d o7 s0m T.n_tuple x0r (z0 (m5 0 l0) o0)) (z0 (m5 0 l0) o0)))))))),fun ds δ q x h=>?_⟩)
  · unfold n0l at h
    obtain ⟨full,mark,ws,price,sort,rfl,h,hq⟩:=h
    rfl
  · unfold n0l at h
    obtain ⟨full,mark,ws,price,sort,rfl,h,hq⟩:=h
    rw [show p4 ["_law_row","_law_sort"] _=[.val _,.val _] from rfl]
    unfold rowL
    walk_at "dl"
    refine ⟨by decide,?_⟩
    split
    · exact g0q h rfl hq
    · exact g0q h rfl hq
theorem one_in {C:Addr}:∀ {ds:List Addr},C∈ds→ds.Nodup→q0r (ds.map fun D=>DL.D.bl (decide (D=C))) (.bl true)=1:=by
  intro ds hC nd
  unfold q0r
  rw [List.countP_map]
  have e1:((fun z=>eqV (toV z) (toV (.bl true))) ∘ fun D=>DL.D.bl (decide (D=C)))=fun D=>D == C:=by
    funext D
    show (decide (D=C) == true)=(D == C)
    by_cases h:D=C
    · rw [decide_eq_true h,h]; simp
    · rw [decide_eq_false h,beq_eq_false_iff_ne.mpr h]; rfl
  rw [e1]
  clear e1
  induction ds with
  | nil=>cases hC
  | cons a ds ih =>
    rw [List.nodup_cons] at nd
    rw [List.countP_cons]
    by_cases h:a=C
    · subst h
      have z:List.countP (fun D=>D == a) ds=0:=List.countP_eq_zero.mpr fun b hb w=>nd.1 (by have:=beq_iff_eq.mp w; subst this; exact hb)
      rw [z]; simp
    · have hm:C∈ds:=by
        rcases List.mem_cons.mp hC with q | q
        · exact absurd q.symm h
        · exact q
      rw [ih hm nd.2,beq_eq_false_iff_ne.mpr h]; rfl
noncomputable def n0i (cs:Cs):Sp2:=fun ds δ q _=>∃ C fs,ds=[.exc C fs]∧C∈cs.ds∧q (.int 1) δ
noncomputable def g0p (cs:Cs):Sp2:=fun ds δ q _=>∃ C fs b,ds=[.exc C fs,.bl b]∧C∈cs.ds∧q (.bl b) δ
noncomputable abbrev f9:List Str:=["_law_error"]
theorem sc_law_kinds:FnScope ["_law_error","_law_found"] f9 (defScope y0h):=⟨rfl,rfl,rfl,by decide +kernel,rfl,by decide +kernel,by decide +kernel⟩
noncomputable abbrev x0x (P:Program) (w:World) (K:PySem.W.Frag) (mg:Str→Option Value) (base:Heap) (cs:Cs):Prop:=e0l P w K mg base "_law_kinds" 2 f9 (n0i cs)
theorem p0p {f:Addr} {fd:FuncData} (Df:DefAt K mg "_law_kinds" y0h f9 f fd) (T:Txt K mg cs):x0x P w K mg base cs:=by
  have nd:=sc_law_kinds.nd
  refine def2U Df sc_law_kinds (fun ds δ q x h=>?_) (fun cdv A outer s H E Y hr=>⟨_,(j0 (a3 1 nd (o4 (z0 (e2_b w4 (b5 (K:=K)) T.n_isinstance x3 (z0 (e2_v 0) (z0 (z0n T.c_NoPart) o0))) (z0 (e2_b w4 (b5 (K:=K)) T.n_isinstance x3 (z0 (e2_v 0) (z0 (z0n T.c_NoWorks) o0))) o0))))
      (j0 (a3 1 nd (j3 x4 j4 (e2_v 1) (o4 (z0 (e2_b w4 (b5 (K:=K)) T.n_isinstance x3 (z0 (e2_v 0) (z0 (z0n T.c_NoStands) o0))) (z0 (e2_b w4 (b5 (K:=K)) T.n_isinstance x3 (z0 (e2_v 0) (z0 (z0n T.c_NoRounds) o0))) o0)))))
      (j0 (a3 1 nd (j3 x4 j4 (e2_v 1) (o4 (z0 (e2_b w4 (b5 (K:=K)) T.n_isinstance x3 (z0 (e2_v 0) (z0 (z0n T.c_NoPlan) o0))) (z0 (e2_b w4 (b5 (K:=K)) T.n_isinstance x3 (z0 (e2_v 0) (z0 (z0n T.c_Shut) o0))) o0)))))
      (j0 (a3 1 nd (j3 x4 j4 (e2_v 1) (o4 (z0 (e2_b w4 (b5 (K:=K)) T.n_isinstance x3 (z0 (e2_v 0) (z0 (z0n T.c_Falls) o0))) (z0 (e2_b w4 (b5 (K:=K)) T.n_isinstance x3 (z0 (e2_v 0) (z0 (z0n T.c_NoneHolds) o0))) o0)))))
      (j0 (a3 1 nd (j3 x4 j4 (e2_v 1) (o4 (z0 (e2_b w4 (b5 (K:=K)) T.n_isinstance x3 (z0 (e2_v 0) (z0 (z0n T.c_TooGreat) o0))) (z0 (e2_b w4 (b5 (K:=K)) T.n_isinstance x3 (z0 (e2_v 0) (z0 (z0n T.c_NoPaper) o0))) o0)))))
      (j0 (a3 1 nd (j3 x4 j4 (e2_v 1) (o4 (z0 (e2_b w4 (b5 (K:=K)) T.n_isinstance x3 (z0 (e2_v 0) (z0 (z0n T.c_NoText) o0))) (z0 (e2_b w4 (b5 (K:=K)) T.n_isinstance x3 (z0 (e2_v 0) (z0 (z0n T.c_NotTold) o0))) o0)))))
      (d0 (u4 (e0y (e2_v 1) (z0 z0v o0)))))))))),fun ds δ q x h=>?_⟩)
  · unfold n0i at h
    obtain ⟨C,fs,rfl,hC,hq⟩:=h
    rfl
  · unfold n0i at h
    obtain ⟨C,fs,rfl,hC,hq⟩:=h
    rw [show p4 ["_law_error","_law_found"] _=[.val _,.no] from rfl]
    have c:=T.err C hC
    have ht:TyD K (D.exc C fs):=c.xc
    have own:∀ D∈cs.ds,u0c K (.exc C fs) (.ref D)=some (decide (D=C)):=fun D hD=>c.own (T.err D hD) (T.ne D hD)
    have cnt:=one_in hC T.nd
    walk_at "dl"
    simp only [ht,true_and,own _ (show cs.NoPart∈cs.ds by simp [Cs.ds]),own _ (show cs.NoWorks∈cs.ds by simp [Cs.ds]),own _ (show cs.NoStands∈cs.ds by simp [Cs.ds]),own _ (show cs.NoRounds∈cs.ds by simp [Cs.ds]),own _ (show cs.NoPlan∈cs.ds by simp [Cs.ds]),own _ (show cs.Shut∈cs.ds by simp [Cs.ds]),own _ (show cs.Falls∈cs.ds by simp [Cs.ds]),own _ (show cs.NoneHolds∈cs.ds by simp [Cs.ds]),own _ (show cs.TooGreat∈cs.ds by simp [Cs.ds]),own _ (show cs.NoPaper∈cs.ds by simp [Cs.ds]),own _ (show cs.NoText∈cs.ds by simp [Cs.ds]),own _ (show cs.NotTold∈cs.ds by simp [Cs.ds])]
    refine ⟨rfl,?_⟩
    change q (D.int ((q0r (List.map (fun D=>DL.D.bl (decide (D=C))) cs.ds) (D.bl true):Nat):Int)) δ
    rw [cnt]
    exact hq
noncomputable abbrev j7:List Str:=["_law_error","_law_told"]
theorem sc_law_is_just:FnScope ["_law_error","_law_told"] j7 (defScope o9):=⟨rfl,rfl,rfl,by decide +kernel,rfl,by decide +kernel,by decide +kernel⟩
noncomputable abbrev i7 (P:Program) (w:World) (K:PySem.W.Frag) (mg:Str→Option Value) (base:Heap) (cs:Cs):Prop:=e0l P w K mg base "_law_is_just" 3 j7 (g0p cs)
theorem t0z {f:Addr} {fd:FuncData} (Df:DefAt K mg "_law_is_just" o9 j7 f fd) (T:Txt K mg cs) (G_law_kinds:x0x P w K mg base cs):i7 P w K mg base cs:=by
  have nd:=sc_law_is_just.nd
  refine def2U Df sc_law_is_just (fun ds δ q x h=>?_) (fun cdv A outer s H E Y hr=>⟨_,(j0 (v6 (PW2.pt (i0x (x8 (y7 (e2_b w4 (b5 (K:=K)) T.n_isinstance x3 (z0 (e2_v 0) (z0 (z0n T.c_WearError) o0))))) (q0v (x8 (y7 (e2_b w4 (b5 (K:=K)) T.n_isinstance x3 (z0 (e2_v 0) (z0 (o0u "ValueError" T.n_ValueError s0p) o0)))))))) (d0 (u4 z0v)) x5)
      (d0 (u4 (w0i (e2_v 1) (v0g (t0i (z0w hr.units0) w0c (x0n G_law_kinds (hr.mono (by decide)) t0d (z0 (e2_v 0) o0)) l0 (z5 _))))))),fun ds δ q x h=>?_⟩)
  · unfold g0p at h
    obtain ⟨C,fs,b,rfl,hC,hq⟩:=h
    rfl
  · unfold g0p at h
    obtain ⟨C,fs,b,rfl,hC,hq⟩:=h
    rw [show p4 ["_law_error","_law_told"] _=[.val _,.val _] from rfl]
    have c:=T.err C hC
    have ht:TyD K (D.exc C fs):=c.xc
    have top:u0c K (.exc C fs) (.ref cs.W)=some true:=c.top (T.ne C hC) T.h_WearError.cl T.h_WearError.ty
    have val:u0c K (.exc C fs) (.ty "ValueError")=some true:=c.value
    walk_at "dl"
    simp only [ht,top,val,true_and,Bool.not_true,Bool.false_eq_true,if_false]
    cases b with
    | false=>exact hq
    | true=>exact ⟨C,fs,rfl,hC,hq⟩
noncomputable def spNumbers:Sp2:=fun ds δ q _=>∃ ns ms:List Int,ds=[.tup (ns.map D.int),.lst (ms.map D.int)]∧q (.bl (decide (ns=ms))) δ
noncomputable abbrev e9:List Str:=["_law_found"]
theorem sc_law_whole:FnScope ["_law_found"] e9 (defScope y0g):=⟨rfl,rfl,rfl,by decide +kernel,rfl,by decide +kernel,by decide +kernel⟩
noncomputable abbrev x0w (P:Program) (w:World) (K:PySem.W.Frag) (mg:Str→Option Value) (base:Heap) (cs:Cs):Prop:=Fun2 P w K mg base "_law_whole" 2 e9 y0b
theorem p0o {f:Addr} {fd:FuncData} (Df:DefAt K mg "_law_whole" y0g e9 f fd) (T:Txt K mg cs):x0w P w K mg base cs:=by
  have nd:=sc_law_whole.nd
  refine def2 Df sc_law_whole (fun ds δ q x h=>?_) (fun cdv A outer s H E Y hr=>⟨_,(d0 (u4 (w0i (e2_b w4 (b5 (K:=K)) T.n_isinstance x3 (z0 (e2_v 0) (z0 (o0u "int" T.n_int d0d) o0))) (v0g (d0b (e2_b w4 (b5 (K:=K)) T.n_isinstance x3 (z0 (e2_v 0) (z0 (o0u "bool" T.n_bool j0a) o0)))))))),fun ds δ q x h=>?_⟩)
  · unfold y0b at h
    split at h
    · rfl
    · exact h.elim
  · unfold y0b at h
    split at h
    rotate_left
    · exact h.elim
    rename_i d
    obtain ⟨hd,hq⟩:=h
    rw [show p4 ["_law_found"] _=[.val _] from rfl]
    obtain ⟨t1,t2⟩:=s0g (K:=K) hd
    walk_at "dl"
    simp only [i0h K t1 t2,c0t K t1 t2,t1,true_and]
    cases d <;> first | cases hd | skip
    all_goals (walk_at "dl"; exact hq)
noncomputable def z0d (cs:Cs):Sp2:=fun ds δ q x=>∃ full mark ws price d,ds=[m7 cs full mark ws price,d]∧u5 d=true∧(b3 d mark full=true→q .non δ)∧(b3 d mark full=false→x cs.NoStands [] δ)
noncomputable def d0z (cs:Cs):Sp2:=fun ds δ q x=>∃ f r,ds=[f,r]∧u5 f=true∧u5 r=true∧(b3 f 0 47=true→b3 r 0 24=true→q .non δ)∧(b3 f 0 47=false∨b3 r 0 24=false→x cs.NoRounds [] δ)
noncomputable def spCheckRun (cs:Cs):Sp2:=fun ds δ q x=>∃ full mark ws price d f r,ds=[m7 cs full mark ws price,d,f,r]∧u5 d=true∧u5 f=true∧u5 r=true∧(b3 d mark full=false→x cs.NoStands [] δ) ∧
  (b3 d mark full=true→b3 f 0 47=false∨b3 r 0 24=false→x cs.NoRounds [] δ)∧(b3 d mark full=true→b3 f 0 47=true→b3 r 0 24=true→q .non δ)
noncomputable abbrev h7:List Str:=["part","stand"]
theorem sc_check_stand:FnScope ["part","stand"] h7 (defScope r9):=⟨rfl,rfl,rfl,by decide +kernel,rfl,by decide +kernel,by decide +kernel⟩
noncomputable abbrev d9 (P:Program) (w:World) (K:PySem.W.Frag) (mg:Str→Option Value) (base:Heap) (cs:Cs):Prop:=Fun2 P w K mg base "check_stand" 4 h7 (z0d cs)
theorem t0y {f:Addr} {fd:FuncData} (Df:DefAt K mg "check_stand" r9 h7 f fd) (T:Txt K mg cs) (G_is_stand:w0s P w K mg base cs):d9 P w K mg base cs:=by
  have nd:=sc_check_stand.nd
  refine def2 Df sc_check_stand (fun ds δ q x h=>?_) (fun cdv A outer s H E Y hr=>⟨_,(d0 (v6 (x8 (y7 (u3 G_is_stand (hr.mono (by decide)) i0 (z0 (e2_v 0) (z0 (e2_v 1) o0))))) (d0 (x0p rfl i0 T.k_NoStands T.x_NoStands T.c_NoStands)) x5)),fun ds δ q x h=>?_⟩)
  · unfold z0d at h
    obtain ⟨full,mark,ws,price,d,rfl,hd,hq,hx⟩:=h
    rfl
  · unfold z0d at h
    obtain ⟨full,mark,ws,price,d,rfl,hd,hq,hx⟩:=h
    rw [show p4 ["part","stand"] _=[.val _,.val _] from rfl]
    walk_at "dl"
    refine ⟨_,_,_,_,_,rfl,hd,?_⟩
    cases e:b3 d mark full with
    | true=>exact hq e
    | false=>exact hx e
noncomputable def g0o:Sp2:=fun ds δ q _=>match ds with | [d]=>o5 d=true∧q (.bl (risD d 0 47)) δ | _=>False
noncomputable abbrev x0k:List Str:=["thing"]
theorem sc_is_shut:FnScope ["thing"] x0k (defScope u0v):=⟨rfl,rfl,rfl,by decide +kernel,rfl,by decide +kernel,by decide +kernel⟩
noncomputable abbrev u0p (P:Program) (w:World) (K:PySem.W.Frag) (mg:Str→Option Value) (base:Heap) (cs:Cs):Prop:=Fun2 P w K mg base "is_shut" 5 x0k g0o
theorem k0r {f:Addr} {fd:FuncData} (Df:DefAt K mg "is_shut" u0v x0k f fd) (T:Txt K mg cs) (G_is_rising_row:q8 P w K mg base cs):u0p P w K mg base cs:=by
  have nd:=sc_is_shut.nd
  refine def2 Df sc_is_shut (fun ds δ q x h=>?_) (fun cdv A outer s H E Y hr=>⟨_,(d0 (u4 (u3 G_is_rising_row (hr.mono (by decide)) i0 (z0 (e2_v 0) (z0 l0 (z0 (e0x T.g_GREATEST_SHUT) o0)))))),fun ds δ q x h=>?_⟩)
  · unfold g0o at h
    split at h
    · rfl
    · exact h.elim
  · unfold g0o at h
    split at h
    rotate_left
    · exact h.elim
    rename_i d
    obtain ⟨ht,hq⟩:=h
    rw [show p4 ["thing"] _=[.val _] from rfl]
    walk_at "dl"
    simp only [v0m]
    exact ⟨ht,by decide,hq⟩
structure Tab (l:List (Key×D)) (W:Int→Int→Prop):Prop where
  d:DI l W
  c:∀ k v,W k v→∃ o,o≤v∧valD l (.inl k)=some (.int o)
theorem Tab.nil {W:Int→Int→Prop} (h:∀ k v,¬ W k v):Tab [] W:=⟨DI.nil,fun k v w=>absurd w (h k v)⟩
theorem Tab.imp {l:List (Key×D)} {W W':Int→Int→Prop} (t:Tab l W) (h:∀ k v,W k v ↔ W' k v):Tab l W':=⟨t.d.imp fun k v w=>(h k v).mp w,fun k v w=>t.c k v ((h k v).mpr w)⟩
theorem Tab.low {l:List (Key×D)} {W:Int→Int→Prop} {k v o:Int} (t:Tab l W) (e:(valD l (.inl k)).getD (.int v)=.int o):Tab (putD l (.inl k) (.int (if v < o then v else o))) fun a b=>W a b∨(a=k∧b=v):=by
  have ho:(o=v∧valD l (.inl k)=none)∨valD l (.inl k)=some (.int o):=by
    cases z:valD l (.inl k) with
    | none=>rw [z] at e; exact .inl ⟨by simpa using e.symm,rfl⟩
    | some y=>rw [z] at e; exact .inr (by rw [show y=.int o from e])
  have hw:W k o∨o=v:=by
    rcases ho with h | h
    · exact .inr h.1
    · obtain ⟨z,e1,e2⟩:=t.d.get h
      cases e1; exact .inl e2
  refine ⟨(t.d.imp fun a b w=>.inl w).put ?_,fun a b w=>?_⟩
  · split
    · exact .inr ⟨rfl,rfl⟩
    · rcases hw with h | h
      · exact .inl h
      · exact .inr ⟨rfl,h⟩
  · rw [r0z]
    by_cases ea:a=k
    · subst ea
      rw [if_pos rfl]
      refine ⟨_,?_,rfl⟩
      rcases w with w | ⟨_,rfl⟩
      · obtain ⟨o2,l1,l2⟩:=t.c a b w
        rcases ho with h | h
        · rw [h.2] at l2; cases l2
        · rw [h] at l2; cases l2; split <;> omega
      · split <;> omega
    · rw [if_neg (fun z=>ea (Sum.inl.inj z))]
      rcases w with w | w
      · exact t.c a b w
      · exact absurd w.1 ea
theorem Tab.new {l:List (Key×D)} {W:Int→Int→Prop} {k v o:Int} (t:Tab l W) (e:(valD l (.inl k)).getD (.int (v + 1))=.int o):Tab (if v < o then putD l (.inl k) (.int v) else l) fun a b=>W a b∨(a=k∧b=v):=by
  cases z:valD l (.inl k) with
  | none =>
    rw [z] at e
    have e:v + 1=o:=by simpa using e
    rw [if_pos (by omega)]
    refine ⟨(t.d.imp fun a b w=>.inl w).put (.inr ⟨rfl,rfl⟩),fun a b w=>?_⟩
    rw [r0z]
    by_cases ea:a=k
    · subst ea
      rw [if_pos rfl]
      rcases w with w | ⟨_,rfl⟩
      · obtain ⟨o2,l1,l2⟩:=t.c a b w
        rw [z] at l2; cases l2
      · exact ⟨_,Int.le_refl _,rfl⟩
    · rw [if_neg (fun z=>ea (Sum.inl.inj z))]
      rcases w with w | w
      · exact t.c a b w
      · exact absurd w.1 ea
  | some y =>
    rw [z] at e
    have e:y=.int o:=e
    subst e
    split
    · refine ⟨(t.d.imp fun a b w=>.inl w).put (.inr ⟨rfl,rfl⟩),fun a b w=>?_⟩
      rw [r0z]
      by_cases ea:a=k
      · subst ea
        rw [if_pos rfl]
        rcases w with w | ⟨_,rfl⟩
        · obtain ⟨o2,l1,l2⟩:=t.c a b w
          rw [z] at l2; cases l2
          exact ⟨_,by omega,rfl⟩
        · exact ⟨_,Int.le_refl _,rfl⟩
      · rw [if_neg (fun z=>ea (Sum.inl.inj z))]
        rcases w with w | w
        · exact t.c a b w
        · exact absurd w.1 ea
    · refine ⟨t.d.imp fun a b w=>.inl w,fun a b w=>?_⟩
      rcases w with w | ⟨rfl,rfl⟩
      · exact t.c a b w
      · exact ⟨o,by omega,z⟩
noncomputable def OnW (full mark g:Int) (pr:Option Int) (W:Int→Int→Prop) (k v:Int):Prop:=mark≤k∧∃ s c,W s c∧((k=s - g∧v=c)∨∃ p,pr=some p∧k=full - g∧v=c + p)
theorem Tab.on {l l':List (Key×D)} {W:Int→Int→Prop} {full mark g:Int} {pr:Option Int} (t:Tab l W) (t':Tab l' (OnW full mark g pr fun s c=>valD l (.inl s)=some (.int c))):Tab l' (OnW full mark g pr W):=by
  refine ⟨t'.d.imp fun k v ⟨m,s,c,w,h⟩=>?_,fun k v ⟨m,s,c,w,h⟩=>?_⟩
  · obtain ⟨z,e1,e2⟩:=t.d.get w
    cases e1
    exact ⟨m,s,c,e2,h⟩
  · obtain ⟨o,l1,l2⟩:=t.c s c w
    rcases h with ⟨rfl,rfl⟩ | ⟨p,hp,rfl,rfl⟩
    · obtain ⟨o',l3,l4⟩:=t'.c (s - g) o ⟨m,s,o,l2,.inl ⟨rfl,rfl⟩⟩
      exact ⟨o',by omega,l4⟩
    · obtain ⟨o',l3,l4⟩:=t'.c (full - g) (o + p) ⟨m,s,o,l2,.inr ⟨p,hp,rfl,rfl⟩⟩
      exact ⟨o',by omega,l4⟩
noncomputable def prD:Option Int→D | some p=>.int p | none=>.non
noncomputable def g0n (cs:Cs):Sp2:=fun ds δ q _=>∃ full mark ws price kvs,∃ (g:Int) (pr:Option Int),ds=[m7 cs full mark ws price,.dwk kvs,.int g,prD pr]∧SpecOk full mark ws price∧0≤g∧DI kvs (fun k _=>mark≤k∧k≤full)∧(∀ p,pr=some p→0≤p) ∧
  ∀ l,Tab l (OnW full mark g pr fun s c=>valD kvs (.inl s)=some (.int c))→q (.dwk l) δ
noncomputable def pD (p:Int×Int):D:=.tup [.int p.1,.int p.2]
theorem d0y {l:List (Key×D)} {g:Int→Int→Prop} (d:DI l g):∃ os:List (Int×Int),l.map w0b=os.map pD∧(∀ s c,(s,c)∈os ↔ valD l (.inl s)=some (.int c))∧l.map (·.2)=os.map (fun p=>D.int p.2)∧∀ p∈os,g p.1 p.2:=by
  have key:∀ m:List (Key×D),(∀ kv∈m,∃ k v:Int,kv=(.inl k,.int v)∧g k v)→∃ os:List (Int×Int),m=os.map (fun p=>(Sum.inl p.1,D.int p.2))∧∀ p∈os,g p.1 p.2:=by
    intro m
    induction m with
    | nil=>intro _; exact ⟨[],rfl,fun p hp=>nomatch hp⟩
    | cons a m ih =>
      intro h
      obtain ⟨os,e,ho⟩:=ih fun kv hm=>h kv (List.mem_cons_of_mem _ hm)
      obtain ⟨k,v,rfl,hg⟩:=h a (List.mem_cons_self ..)
      refine ⟨(k,v) :: os,by rw [e]; rfl,fun p hp=>?_⟩
      rcases List.mem_cons.mp hp with rfl | hp
      · exact hg
      · exact ho p hp
  obtain ⟨os,e,ho⟩:=key l d.all
  refine ⟨os,by rw [e,List.map_map]; rfl,fun s c=>⟨fun h=>x0c d.nd (by rw [e]; exact List.mem_map.mpr ⟨(s,c),h,rfl⟩),fun h=>?_⟩,by rw [e,List.map_map]; rfl,ho⟩
  have m:=r0y h
  rw [e] at m
  obtain ⟨p,hp,e2⟩:=List.mem_map.mp m
  obtain ⟨a,b⟩:=p
  cases e2
  exact hp
noncomputable def pbT (cs:Cs):TS2:=fun E ρ δ=>∃ full mark ws price kvs pr,∃ (g:Int) (os:List (Int×Int)) (c6 c7 c8:Cell),ρ=[.val (m7 cs full mark ws price),.val (.dwk kvs),.val (.int g),.val (prD pr),.val (.lst (os.map pD)),.ownD [],c6,c7,c8]∧SpecOk full mark ws price∧0≤g∧(∀ p∈os,p.1≤full) ∧
  ∀ l,Tab l (fun k v=>mark≤k∧(k + g,v)∈os)→E.rt (.dwk l) δ
noncomputable abbrev f7:List Str:=["part","paid","lost","price"]
theorem sc_paid_behind:FnScope ["part","paid","lost","price","ways","behind","stand","cost","left"] f7 (defScope p9):=⟨rfl,rfl,rfl,by decide +kernel,rfl,by decide +kernel,by decide +kernel⟩
noncomputable abbrev b9 (P:Program) (w:World) (K:PySem.W.Frag) (mg:Str→Option Value) (base:Heap) (cs:Cs):Prop:=Fun2 P w K mg base "paid_behind" 3 f7 (g0n cs)
theorem t0x {f:Addr} {fd:FuncData} (Df:DefAt K mg "paid_behind" p9 f7 f fd) (T:Txt K mg cs):b9 P w K mg base cs:=by
  have nd:=sc_paid_behind.nd
  refine def2 Df sc_paid_behind (fun ds δ q x h=>?_) (fun cdv A outer s H E Y hr=>⟨_,(j0 (a3 4 nd (h0e 1 rfl T.n_list))
      (j0 (v6 (p5 k0a d0a (e2_v 3) l6 (z5 _)) (d0 (a3 4 nd (j3 x4 j4 (e2_v 4) (s0e rfl (CompOkM.of ["cost"] [0,3] rfl) (z1h (e2_v 1)) (fun nd _ _ _ _ _=>(n4 (i:=0) nd rfl (by first | exact Or.inl rfl | exact Or.inr rfl))) v0r (fun _ _ _ _ _ _=>o0q) (fun _ _ _ _ _ _=>(m0k (z0 (x0e K (e2_v 1)) (z0 (j3 x4 j4 (e2_v 0) (e2_v 2)) o0)))))))) x5)
      (j0 (l0u 5 nd)
      (y0k (t':=pbT cs) (j0 (z0x PassesOwn.leaving rfl (w0g (e2_v 4)) (n0a rfl (w5 (n4 (i:=6) nd rfl (by first | exact Or.inl rfl | exact Or.inr rfl)) (w5 (n4 (i:=7) nd rfl (by first | exact Or.inl rfl | exact Or.inr rfl)) x0i))) (m0a (is:=[6,7]) rfl) (j0 (a3 8 nd (j3 x0t s0n (e2_v 6) (e2_v 2)))
      (d0 (v6 (PW2.pt (m0j (p5 b0p d_ge (e2_v 8) (x0e K (e2_v 0)) (z5 _)) (s0o (p5 p0b d_lt (e2_v 7) (h0r 5 hr.units1 (e2_v 8) (j3 x4 j4 (e2_v 7) l0) ⟨rfl,rfl,rfl,rfl⟩) (z5 _))))) (d0 (h0t 5 hr.units1 (e2_v 8) (e2_v 7))) x5))))
      (d0 (u4 (e2_vD 5)))) (by
          rintro E ρ δ ⟨full,mark,ws,price,kvs,pr,g,os,c6,c7,c8,rfl,ok,g1,ho,hq⟩
          walk_at "dn"
          refine v8 (fun j ρ δ2=>∃ (af:List (Key×D)) (c6 c7 c8:Cell),ρ=[.val (m7 cs full mark ws price),.val (.dwk kvs),.val (.int g),.val (prD pr),.val (.lst (os.map pD)),.ownD af,c6,c7,c8]∧δ2=δ∧Tab af (fun k v=>mark≤k∧∃ j',j' < j∧os[j']?=some (k + g,v))) ⟨[],_,_,_,rfl,rfl,Tab.nil fun k v ⟨_,j',h,_⟩=>absurd h (Nat.not_lt_zero _)⟩ ?_ ?_
          · rintro j d ρ δ2 rest hj ⟨af,c6,c7,c8,rfl,rfl,ht⟩ hrest
            rw [List.getElem?_map,Option.map_eq_some_iff] at hj
            obtain ⟨⟨s,c⟩,hj,rfl⟩:=hj
            have hs:=ho _ (List.mem_of_getElem? hj)
            have few:=ht.d.few (n:=10) fun k v q=>by
              have:=ok.m1; have:=ok.f2
              obtain ⟨q1,j',_,q2⟩:=q
              have:=ho _ (List.mem_of_getElem? q2)
              dsimp only at this
              omega
            have more:∀ l,mark≤s - g→Tab l (fun a b=>(mark≤a∧∃ j',j' < j∧os[j']?=some (a + g,b))∨(a=s - g∧b=c))→Tab l (fun k v=>mark≤k∧∃ j',j' < j + 1∧os[j']?=some (k + g,v)):=fun l hm t=>t.imp fun a b=>by
              constructor
              · rintro (⟨m,j',h1,h2⟩ | ⟨rfl,rfl⟩)
                · exact ⟨m,j',by omega,h2⟩
                · exact ⟨hm,j,by omega,by rw [hj]; simp⟩
              · rintro ⟨m,j',h1,h2⟩
                by_cases e:j'=j
                · subst e
                  rw [hj] at h2
                  have h2:=Option.some.inj h2
                  exact .inr ⟨by have:=congrArg Prod.fst h2; dsimp only at this; omega,(congrArg Prod.snd h2).symm⟩
                · exact .inl ⟨m,j',by omega,h2⟩
            unfold x0d pD
            walk_at "dn"
            (try simp only [m7]; walk_at "fl")
            by_cases hm:mark≤s - g
            · rw [if_pos hm]
              obtain ⟨o,eo⟩:∃ o:Int,(valD af (.inl (s - g))).getD (.int (c + 1))=.int o:=by
                cases z:valD af (.inl (s - g)) with
                | none=>exact ⟨_,rfl⟩
                | some y=>obtain ⟨v,e1,_⟩:=ht.d.get z; exact ⟨v,by rw [e1]; rfl⟩
              have tn:=more _ hm (ht.new eo)
              rw [eo]
              dsimp only
              refine ⟨rfl,?_⟩
              split
              · rename_i h
                rw [if_pos h] at tn
                exact ⟨by omega,hrest _ _ ⟨_,_,_,_,rfl,rfl,tn⟩⟩
              · rename_i h
                rw [if_neg h] at tn
                exact hrest _ _ ⟨_,_,_,_,rfl,rfl,tn⟩
            · rw [if_neg hm]
              refine hrest _ _ ⟨_,_,_,_,rfl,rfl,ht.imp fun a b=>⟨fun ⟨m,j',h1,h2⟩=>⟨m,j',by omega,h2⟩,fun ⟨m,j',h1,h2⟩=>⟨m,j',?_,h2⟩⟩⟩
              by_cases e:j'=j
              · subst e
                rw [hj] at h2
                have:=congrArg Prod.fst (Option.some.inj h2)
                dsimp only at this
                omega
              · omega
          · rintro ρ δ2 ⟨af,c6,c7,c8,rfl,rfl,ht⟩
            walk_at "dn"
            refine hq _ (ht.imp fun a b=>⟨fun ⟨m,j',h1,h2⟩=>⟨m,List.mem_of_getElem? h2⟩,fun ⟨m,h2⟩=>?_⟩)
            obtain ⟨j',h3⟩:=List.getElem?_of_mem h2
            exact ⟨m,j',by rw [List.length_map]; exact (List.getElem?_eq_some_iff.mp h3).1,h3⟩))))),fun ds δ q x h=>?_⟩)
  · unfold g0n at h
    obtain ⟨full,mark,ws,price,kvs,g,pr,rfl,ok,g1,hK,hp,hq⟩:=h
    rfl
  · unfold g0n at h
    obtain ⟨full,mark,ws,price,kvs,g,pr,rfl,ok,g1,hK,hp,hq⟩:=h
    rw [show p4 ["part","paid","lost","price","ways","behind","stand","cost","left"] _=[.val _,.val _,.val _,.val _,.no,.no,.no,.no,.no] from rfl]
    have few:=hK.few (n:=10) fun k v q=>by have:=ok.m1; have:=ok.f2; omega
    obtain ⟨os,e1,e2,e3,e4⟩:=d0y hK
    have el:os.length=kvs.length:=by have:=congrArg List.length e1; simpa using this.symm
    walk_at "dn"
    rw [e1,e3]
    cases pr with
    | none =>
      simp only [prD,Bool.not_true,Bool.false_eq_true,if_false]
      refine ⟨full,mark,ws,price,kvs,none,g,os,_,_,_,rfl,ok,g1,fun p hp=>(e4 p hp).2,fun l t=>hq l (t.imp fun k v=>⟨fun ⟨m,h⟩=>⟨m,k + g,v,(e2 _ _).mp h,.inl ⟨by omega,rfl⟩⟩,fun ⟨m,s,c,h,h2⟩=>?_⟩)⟩
      rcases h2 with ⟨rfl,rfl⟩ | ⟨p,h2,_⟩
      · exact ⟨m,by rw [Int.sub_add_cancel]; exact (e2 _ _).mpr h⟩
      · cases h2
    | some p =>
      simp only [prD,Bool.not_false,if_true]
      refine h0w (fun z=>match z with | .int c=>pD (full,c + p) | _=>.non) (by rw [List.length_map]; omega) (fun z hz Q hQ=>?_) ?_
      · obtain ⟨y,hy,rfl⟩:=List.mem_map.mp hz
        simp only [capt,q0s,List.map_cons,List.map_nil,List.getElem?_cons_zero,List.getElem?_cons_succ]
        walk_at "dn"
        (try simp only [m7]; walk_at "fl")
        exact hQ
      · have em:(os.map (fun p=>D.int p.2)).map (fun z=>match z with | .int c=>pD (full,c + p) | _=>.non)=(os.map fun y=>(full,y.2 + p)).map pD:=by rw [List.map_map,List.map_map]; rfl
        rw [em,← List.map_append]
        simp only [List.length_map]
        refine ⟨by omega,?_⟩
        refine ⟨full,mark,ws,price,kvs,some p,g,os++os.map (fun y=>(full,y.2 + p)),_,_,_,rfl,ok,g1,fun y hy=>?_,fun l t=>hq l (t.imp fun k v=>⟨fun ⟨m,h⟩=>?_,fun ⟨m,s,c,h,h2⟩=>?_⟩)⟩
        · rcases List.mem_append.mp hy with hy | hy
          · exact (e4 y hy).2
          · obtain ⟨z,_,rfl⟩:=List.mem_map.mp hy; exact Int.le_refl _
        · rcases List.mem_append.mp h with h | h
          · exact ⟨m,k + g,v,(e2 _ _).mp h,.inl ⟨by omega,rfl⟩⟩
          · obtain ⟨⟨a,b⟩,hz,e⟩:=List.mem_map.mp h
            have ea:=congrArg Prod.fst e
            have eb:=congrArg Prod.snd e
            dsimp only at ea eb
            exact ⟨m,a,b,(e2 _ _).mp hz,.inr ⟨p,rfl,by omega,by omega⟩⟩
        · rcases h2 with ⟨rfl,rfl⟩ | ⟨p',h2,rfl,rfl⟩
          · exact ⟨m,List.mem_append_left _ (by rw [Int.sub_add_cancel]; exact (e2 _ _).mpr h)⟩
          · cases h2
            exact ⟨m,List.mem_append_right _ (List.mem_map.mpr ⟨(s,c),(e2 _ _).mpr h,by rw [Int.sub_add_cancel]⟩)⟩
theorem n0h {full mark:Int} {ws:List Int} {price:Int} (h:SpecOk full mark ws price) (r:Int):0≤w0a ws r∧w0a ws r≤9:=by
  unfold w0a
  rw [List.getD_eq_getElem?_getD]
  cases e:ws[(r % (ws.length:Int)).toNat]? with
  | none=>exact ⟨by decide,by decide⟩
  | some z=>exact h.w z (List.mem_of_getElem? e)
theorem u0o {lo hi:Int}:∀ {xs:List D},xs.all (b3 · lo hi)=true→∃ ns:List Int,xs=ns.map D.int∧∀ n∈ns,lo≤n∧n≤hi
  | [],_=>⟨[],rfl,fun n hn=>by cases hn⟩
  | d :: xs,h=>by
    rw [List.all_cons,Bool.and_eq_true] at h
    obtain ⟨i,rfl,h1,h2⟩:=y9 h.1
    obtain ⟨ns,rfl,hn⟩:=u0o h.2
    refine ⟨i :: ns,rfl,fun n m=>?_⟩
    rcases List.mem_cons.mp m with rfl | m
    · exact ⟨h1,h2⟩
    · exact hn n m
theorem p0n {d:D} {a b lo hi:Int} (h:v7 d a b lo hi=true):∃ ns:List Int,rowD d=some (ns.map D.int)∧(ns.length:Int)≤b∧∀ n∈ns,lo≤n∧n≤hi:=by
  unfold v7 at h
  cases er:rowD d with
  | none=>rw [er] at h; cases h
  | some xs =>
    rw [er] at h
    simp only [Bool.and_eq_true] at h
    obtain ⟨ns,rfl,hn⟩:=u0o h.2
    have hl:=of_decide_eq_true h.1.2
    rw [List.length_map] at hl
    exact ⟨ns,rfl,hl,hn⟩
theorem g0m {z:Int} {ss:List Int}:inD (.int z) (ss.map D.int)=decide (z∈ss):=by
  unfold inD
  induction ss with
  | nil=>rfl
  | cons a ss ih =>
    rw [List.map_cons,List.any_cons,ih]
    by_cases h:z=a
    · subst h
      have:z∈z :: ss:=List.mem_cons_self ..
      rw [decide_eq_true this]
      simp [toV,eqV]
    · have h2:¬ a=z:=fun y=>h y.symm
      simp [toV,eqV,h,h2]
theorem g0l {d:D} {xs:List D} (h:rowD d=some xs):seqD d=some xs:=by
  cases d <;> first | (cases h; rfl) | cases h
noncomputable def wayZ (full mark:Int) (ws:List Int) (f:Int) (ps ss:List Int) (s0:Int):Nat→Int→Int→Prop
  | 0=>fun s c=>s=s0∧c=0
  | i + 1=>OnW full mark (w0a ws (f + (i:Int))) (if f + (i:Int)∈ss then none else some (ps.getD i 0)) (wayZ full mark ws f ps ss s0 i)
noncomputable def s0y (W:Int→Int→Prop) (m:Int):Prop:=(∃ s,W s m)∧∀ s c,W s c→m≤c
theorem p0m {W:Int→Int→Prop} {m m':Int} (h:s0y W m) (h':s0y W m'):m=m':=by
  obtain ⟨⟨s,a⟩,b⟩:=h
  obtain ⟨⟨s',a'⟩,b'⟩:=h'
  have:=b _ _ a'
  have:=b' _ _ a
  omega
theorem g0k {full mark:Int} {ws:List Int} {price f:Int} {ps ss:List Int} {s0:Int} (ok:SpecOk full mark ws price) (h1:mark≤s0) (h2:s0≤full):∀ (i:Nat) (s c:Int),wayZ full mark ws f ps ss s0 i s c→mark≤s∧s≤full
  | 0,s,c,h=>by obtain ⟨rfl,_⟩:=h; exact ⟨h1,h2⟩
  | i + 1,s,c,h=>by
    obtain ⟨m,s',c',w,h3⟩:=h
    obtain ⟨g1,g2⟩:=n0h ok (f + (i:Int))
    have:=g0k ok h1 h2 i s' c' w
    rcases h3 with ⟨rfl,_⟩ | ⟨p,_,rfl,_⟩ <;> omega
theorem Tab.min {l:List (Key×D)} {W:Int→Int→Prop} (t:Tab l W):∃ ns:List Int,u0x (l.map (·.2))=some ns∧(ns=[] ↔ l=[])∧∀ m,L2.IsMin ns m→s0y W m:=by
  obtain ⟨ns,e1,e2,e3⟩:=t.d.vals
  have e0:=e1
  refine ⟨ns,e1,⟨fun h=>?_,fun h=>?_⟩,fun m hm=>⟨?_,fun s c w=>?_⟩⟩
  · subst h
    cases l with
    | nil=>rfl
    | cons a l =>
      obtain ⟨k,v,rfl,_⟩:=t.d.all a (List.mem_cons_self ..)
      have:=e3 k v (x0c t.d.nd (List.mem_cons_self ..))
      cases this
  · subst h; cases e1; rfl
  · obtain ⟨k,hk⟩:=e2 m hm.1
    obtain ⟨v,ev,w⟩:=t.d.get hk
    cases ev
    exact ⟨k,w⟩
  · obtain ⟨o,l1,l2⟩:=t.c s c w
    have:=hm.2 o (e3 s o l2)
    omega
theorem Tab.none {l:List (Key×D)} {W:Int→Int→Prop} (t:Tab l W):l=[] ↔ ∀ s c,¬ W s c:=by
  constructor
  · rintro rfl s c w
    obtain ⟨o,_,l2⟩:=t.c s c w
    cases l2
  · intro h
    cases l with
    | nil=>rfl
    | cons a l=>obtain ⟨k,v,rfl,w⟩:=t.d.all a (List.mem_cons_self ..); exact absurd w (h k v)
noncomputable def r0u (cs:Cs):Sp2:=fun ds δ q x=>∃ full mark ws price d f pr sh,ds=[m7 cs full mark ws price,d,f,pr,sh]∧SpecOk full mark ws price∧u5 d=true∧u5 f=true∧o5 pr=true∧o5 sh=true ∧
  (b3 d mark full=false→x cs.NoStands [] δ)∧(b3 d mark full=true→b3 f 0 47=false→x cs.NoRounds [] δ)∧(b3 d mark full=true→b3 f 0 47=true→v7 pr 0 24 0 9999=false∨risD sh 0 47=false→x cs.NoPaper [] δ) ∧
  ∀ s0 f0 ps ss,d=.int s0→f=.int f0→rowD pr=some (ps.map D.int)→rowD sh=some (ss.map D.int)→mark≤s0→s0≤full→0≤f0→f0≤47→ps.length≤24→(∀ p∈ps,0≤p∧p≤9999)→v7 pr 0 24 0 9999=true→risD sh 0 47=true →
    (∀ m,s0y (wayZ full mark ws f0 ps ss s0 ps.length) m→q (.int m) δ)∧((∀ s c,¬ wayZ full mark ws f0 ps ss s0 ps.length s c)→x cs.NoneHolds [] δ)
noncomputable def slT (cs:Cs):TS2:=fun E ρ δ=>∃ full mark ws price pr sh,∃ (s0 f0:Int) (ps ss:List Int) (c6 c7:Cell),ρ=[.val (m7 cs full mark ws price),.val (.int s0),.val (.int f0),.val pr,.val sh,.val (.dwk [(.inl s0,.int 0)]),c6,c7]∧SpecOk full mark ws price∧rowD pr=some (ps.map D.int)∧rowD sh=some (ss.map D.int)∧mark≤s0∧s0≤full∧0≤f0∧f0≤47∧(∀ p∈ps,0≤p∧p≤9999) ∧
  (∀ m,s0y (wayZ full mark ws f0 ps ss s0 ps.length) m→E.rt (.int m) δ)∧((∀ s c,¬ wayZ full mark ws f0 ps ss s0 ps.length s c)→∀ ρ',E.xc cs.NoneHolds [] ρ' δ)
noncomputable abbrev f6:List Str:=["part","stand","first","prices","shut"]
theorem sc_single_least:FnScope ["part","stand","first","prices","shut","paid","round_number","price"] f6 (defScope i8):=⟨rfl,rfl,rfl,by decide +kernel,rfl,by decide +kernel,by decide +kernel⟩
noncomputable abbrev d6 (P:Program) (w:World) (K:PySem.W.Frag) (mg:Str→Option Value) (base:Heap) (cs:Cs):Prop:=Fun2 P w K mg base "single_least" 7 f6 (r0u cs)
theorem u0n {f:Addr} {fd:FuncData} (Df:DefAt K mg "single_least" i8 f6 f fd) (T:Txt K mg cs) (G_check_stand:d9 P w K mg base cs) (G_check_first:i9 P w K mg base cs) (G_is_whole_row:u6 P w K mg base cs) (G_is_shut:u0p P w K mg base cs) (G_paid_behind:b9 P w K mg base cs) (G_loss:g0u P w K mg base cs):d6 P w K mg base cs:=by
  have nd:=sc_single_least.nd
  refine def2 Df sc_single_least (fun ds δ q x h=>?_) (fun cdv A outer s H E Y hr=>⟨_,(j0 (w8 (u3 G_check_stand (hr.mono (by decide)) i0 (z0 (e2_v 0) (z0 (e2_v 1) o0))))
      (j0 (w8 (u3 G_check_first (hr.mono (by decide)) i0 (z0 (e2_v 2) o0)))
      (j0 (v6 (PW2.pt (i0x (x8 (y7 (u3 G_is_whole_row (hr.mono (by decide)) i0 (z0 (e2_v 3) (z0 l0 (z0 (e0x T.g_MOST_ROUNDS) (z0 l0 (z0 (e0x T.g_GREATEST_PRICE) o0)))))))) (q0v (x8 (y7 (u3 G_is_shut (hr.mono (by decide)) i0 (z0 (e2_v 4) o0))))))) (d0 (x0p rfl i0 T.k_NoPaper T.x_NoPaper T.c_NoPaper)) x5)
      (j0 (a3 5 nd (h0p 1))
      (y0k (t':=slT cs) (j0 (z0x PassesOwn.leaving rfl (e0d T.n_enumerate (z0 (e2_v 3) o0) (e2_v 2)) (n0a rfl (w5 (n4 (i:=6) nd rfl (by first | exact Or.inl rfl | exact Or.inr rfl)) (w5 (n4 (i:=7) nd rfl (by first | exact Or.inl rfl | exact Or.inr rfl)) x0i))) (m0a (is:=[6,7]) rfl) (d0 (a3 5 nd (u3 G_paid_behind (hr.mono (by decide)) i0 (z0 (e2_v 0) (z0 (e2_v 5) (z0 (u3 G_loss (hr.mono (by decide)) i0 (z0 (e2_v 0) (z0 (e2_v 6) o0))) (z0 (e2_if (p5 j0r d_in (e2_v 6) (e2_v 4) rfl) l6 (e2_v 7)) o0))))))))
      (j0 (v6 (p5 (z0w hr.units0) w0c (h0j 5 T.n_len) l0 (z5 _)) (d0 (x0p rfl i0 T.k_NoneHolds T.x_NoneHolds T.c_NoneHolds)) x5)
      (d0 (u4 (k0u 5 rfl T.n_min))))) (by
          rintro E ρ δ ⟨full,mark,ws,price,pr,sh,s0,f0,ps,ss,c6,c7,rfl,ok,er,es,s1,s2,f1,f2,hps,hq,hx⟩
          have er2:=g0l er
          have es2:=g0l es
          unfold seqD at er2 es2
          walk_at "dn"
          rw [er2]
          refine ⟨f1,by omega,?_⟩
          refine v8 (fun i ρ δ2=>∃ (kvs:List (Key×D)) (c6 c7:Cell),ρ=[.val (m7 cs full mark ws price),.val (.int s0),.val (.int f0),.val pr,.val sh,.val (.dwk kvs),c6,c7]∧δ2=δ∧Tab kvs (wayZ full mark ws f0 ps ss s0 i)) ⟨_,_,_,rfl,rfl,⟨DI.one ⟨rfl,rfl⟩,fun k v ⟨e1,e2⟩=>⟨0,by omega,by rw [e1]; simp [valD]⟩⟩⟩ ?_ ?_
          · rintro i d ρ δ2 rest hi ⟨kvs,c6,c7,rfl,rfl,ht⟩ hrest
            obtain ⟨e,he,rfl⟩:=z0i hi
            rw [List.getElem?_map,Option.map_eq_some_iff] at he
            obtain ⟨p,hp,rfl⟩:=he
            have en:((f0.toNat + i:Nat):Int)=f0 + (i:Int):=by omega
            rw [en]
            have hg:ps.getD i 0=p:=by rw [List.getD_eq_getElem?_getD,hp]; rfl
            have hp1:=hps p (List.mem_of_getElem? hp)
            have hK:DI kvs (fun k _=>mark≤k∧k≤full):=ht.d.imp fun k v w=>g0k ok s1 s2 i k v w
            obtain ⟨g1,g2⟩:=n0h ok (f0 + (i:Int))
            unfold x0d
            walk_at "dn"
            refine ⟨_,_,_,_,_,rfl,ok.l1,?_⟩
            dsimp only
            rw [es2]
            refine ⟨by rw [o6]; rfl,?_⟩
            rw [g0m]
            have goal:∀ pq,(if f0 + (i:Int)∈ss then none else some (ps.getD i 0))=pq→∀ l,Tab l (OnW full mark (w0a ws (f0 + (i:Int))) pq fun s c=>valD kvs (.inl s)=some (.int c))→Tab l (wayZ full mark ws f0 ps ss s0 (i + 1)):=fun pq e l t=>by
              show Tab l (OnW full mark (w0a ws (f0 + (i:Int))) (if f0 + (i:Int)∈ss then none else some (ps.getD i 0)) (wayZ full mark ws f0 ps ss s0 i))
              rw [e]
              exact ht.on t
            by_cases hin:f0 + (i:Int)∈ss
            · rw [decide_eq_true hin]
              simp only [if_true]
              refine ⟨full,mark,ws,price,kvs,_,none,rfl,ok,g1,hK,(fun p h=>nomatch h),fun l t=>hrest _ _ ⟨_,_,_,rfl,rfl,goal none (by rw [if_pos hin]) l t⟩⟩
            · rw [decide_eq_false hin]
              simp only [Bool.false_eq_true,if_false]
              refine ⟨full,mark,ws,price,kvs,_,some p,rfl,ok,g1,hK,(fun p' h=>by cases h; exact hp1.1),fun l t=>hrest _ _ ⟨_,_,_,rfl,rfl,goal (some p) (by rw [if_neg hin,hg]) l t⟩⟩
          · rintro ρ δ2 ⟨kvs,c6,c7,rfl,rfl,ht⟩
            rw [z0j,List.length_map] at ht
            obtain ⟨ns,n1,n2,n3⟩:=ht.min
            walk_at "dn"
            rw [n1]
            by_cases hk:kvs=[]
            · subst hk
              exact hx (ht.none.mp rfl) _
            · have hl:¬ (kvs.length:Int)=0:=fun z=>hk (List.eq_nil_of_length_eq_zero (by omega))
              rw [if_neg hl]
              exact ⟨fun z=>hk (n2.mp z),fun m hm=>hq m (n3 m hm)⟩)))))),fun ds δ q x h=>?_⟩)
  · unfold r0u at h
    obtain ⟨full,mark,ws,price,d,f',pr,sh,rfl,ok,hd,hf,hpr,hsh,h1,h2,h3,h4⟩:=h
    rfl
  · unfold r0u at h
    obtain ⟨full,mark,ws,price,d,f',pr,sh,rfl,ok,hd,hf,hpr,hsh,h1,h2,h3,h4⟩:=h
    rw [show p4 ["part","stand","first","prices","shut","paid","round_number","price"] _=[.val _,.val _,.val _,.val _,.val _,.no,.no,.no] from rfl]
    walk_at "dn"
    refine ⟨_,_,_,_,_,rfl,hd,fun e1=>?_,fun e1=>h1 e1⟩
    refine ⟨_,rfl,hf,fun e2=>?_,fun e2=>h2 e1 e2⟩
    refine ⟨hpr,by decide,?_⟩
    cases e3:v7 pr 0 24 0 9999 with
    | false=>exact h3 e1 e2 (.inl e3)
    | true =>
      refine ⟨hsh,?_⟩
      cases e4:risD sh 0 47 with
      | false=>exact h3 e1 e2 (.inr e4)
      | true =>
        obtain ⟨s0,rfl,s1,s2⟩:=y9 e1
        obtain ⟨f0,rfl,f1,f2⟩:=y9 e2
        obtain ⟨ps,r1,r2,r3⟩:=p0n e3
        have e5:=e4
        unfold risD at e4
        rw [Bool.and_eq_true] at e4
        obtain ⟨ss,r4,r5,r6⟩:=p0n e4.1
        obtain ⟨hq,hx⟩:=h4 s0 f0 ps ss rfl rfl r1 r4 s1 s2 f1 f2 (by omega) r3 e3 e5
        exact ⟨full,mark,ws,price,pr,sh,s0,f0,ps,ss,_,_,rfl,ok,r1,r4,s1,s2,f1,f2,r3,hq,fun h _=>hx h⟩
noncomputable def resZ (W:Int→Int→Prop) (q:D→Prop):Prop:=(∀ m,s0y W m→q (.int m))∧((∀ s c,¬ W s c)→q .non)
noncomputable def u0m:Sp2:=fun ds δ q _=>∃ full mark ws price,∃ (s0 f0:Int) (ps ss:List Int),ds=[rowL full mark ws price,.int s0,.int f0,.lst (ps.map D.int),.lst (ss.map D.int)]∧SpecOk full mark ws price∧mark≤s0∧s0≤full∧0≤f0∧f0≤47∧ps.length≤24∧(∀ p∈ps,0≤p∧p≤9999)∧resZ (wayZ full mark ws f0 ps ss s0 ps.length) (fun d=>q d δ)
theorem d0x {full mark:Int} {ws:List Int} {f:Int} {ps ss:List Int} {s0:Int} {i:Nat} (h:∀ s c,¬ wayZ full mark ws f ps ss s0 i s c):∀ j,i≤j→∀ s c,¬ wayZ full mark ws f ps ss s0 j s c:=by
  intro j hj
  induction j with
  | zero=>
    have:i=0:=by omega
    subst this; exact h
  | succ j ih =>
    by_cases e:i=j + 1
    · subst e; exact h
    · rintro s c ⟨_,s',c',w,_⟩
      exact ih (by omega) s' c' w
noncomputable def SayW (full mark g:Int) (pq:Option Int) (kvs:List (Key×D)) (j:Nat) (k v:Int):Prop:=mark≤k∧∃ j',j' < j∧∃ s c,kvs[j']?=some (.inl s,.int c)∧((k=s - g∧v=c)∨∃ p,pq=some p∧k=full - g∧v=c + p)
theorem z1a {full mark g:Int} {pq:Option Int} {kvs:List (Key×D)} {G:Int→Int→Prop} (d:DI kvs G) (k v:Int):SayW full mark g pq kvs kvs.length k v ↔ OnW full mark g pq (fun s c=>valD kvs (.inl s)=some (.int c)) k v:=by
  constructor
  · rintro ⟨m,j',_,s,c,h,h2⟩
    exact ⟨m,s,c,x0c d.nd (List.mem_of_getElem? h),h2⟩
  · rintro ⟨m,s,c,h,h2⟩
    obtain ⟨j,hj,e⟩:=d.at h
    exact ⟨m,j,hj,s,c,e,h2⟩
theorem n0g {full mark g:Int} {pq:Option Int} {kvs:List (Key×D)} {j:Nat} {s c:Int} (h:kvs[j]?=some (.inl s,.int c)) (k v:Int):SayW full mark g pq kvs (j + 1) k v ↔ (SayW full mark g pq kvs j k v∨(mark≤k∧k=s - g∧v=c))∨(mark≤k∧∃ p,pq=some p∧k=full - g∧v=c + p):=by
  constructor
  · rintro ⟨m,j',h1,s',c',h2,h3⟩
    by_cases e:j'=j
    · subst e
      rw [h] at h2
      cases h2
      rcases h3 with h3 | h3
      · exact .inl (.inr ⟨m,h3⟩)
      · exact .inr ⟨m,h3⟩
    · exact .inl (.inl ⟨m,j',by omega,s',c',h2,h3⟩)
  · rintro ((⟨m,j',h1,s',c',h2,h3⟩ | ⟨m,h3⟩) | ⟨m,h3⟩)
    · exact ⟨m,j',by omega,s',c',h2,h3⟩
    · exact ⟨m,j,by omega,s,c,h,.inl h3⟩
    · exact ⟨m,j,by omega,s,c,h,.inr h3⟩
theorem Tab.get {l:List (Key×D)} {W:Int→Int→Prop} (t:Tab l W) (k v:Int):∃ o:Int,(valD l (.inl k)).getD (.int v)=.int o:=by
  cases z:valD l (.inl k) with
  | none=>exact ⟨_,rfl⟩
  | some y=>obtain ⟨v,e1,_⟩:=t.d.get z; exact ⟨v,by rw [e1]; rfl⟩
noncomputable abbrev n8:List Str:=["_law_row","_law_stand","_law_first","_law_prices","_law_shut_here"]
theorem sc_law_single:FnScope ["_law_row","_law_stand","_law_first","_law_prices","_law_shut_here","_law_costs","_law_k","_law_price","_law_gone","_law_after","_law_here","_law_ways","_law_there","_law_cost"] n8 (defScope z0g):=⟨rfl,rfl,rfl,by decide +kernel,rfl,by decide +kernel,by decide +kernel⟩
noncomputable abbrev z0c (P:Program) (w:World) (K:PySem.W.Frag) (mg:Str→Option Value) (base:Heap) (cs:Cs):Prop:=Fun2 P w K mg base "_law_single" 3 n8 u0m
theorem r0t {f:Addr} {fd:FuncData} (Df:DefAt K mg "_law_single" z0g n8 f fd) (T:Txt K mg cs) (G_law_lost:w0p P w K mg base cs):z0c P w K mg base cs:=by
  have nd:=sc_law_single.nd
  refine def2 Df sc_law_single (fun ds δ q x h=>?_) (fun cdv A outer s H E Y hr=>⟨_,(j0 (a3 5 nd (h0p 1))
      (j0 (z0x PassesOwn.leaving rfl (z1p T.n_enumerate (z0 (e2_v 3) o0)) (n0a rfl (w5 (n4 (i:=6) nd rfl (by first | exact Or.inl rfl | exact Or.inr rfl)) (w5 (n4 (i:=7) nd rfl (by first | exact Or.inl rfl | exact Or.inr rfl)) x0i))) (m0a (is:=[6,7]) rfl) (j0 (a3 8 nd (u3 G_law_lost (hr.mono (by decide)) i0 (z0 (e2_v 0) (z0 (j3 x4 j4 (e2_v 2) (e2_v 6)) o0))))
      (j0 (l0u 9 nd)
      (j0 (z0x PassesOwn.leaving rfl (z1k (e2_v 5)) (n4 (i:=10) nd rfl (by first | exact Or.inl rfl | exact Or.inr rfl)) (z0l (i:=10)) (j0 (t0e 11 nd (z0 (m0k (z0 (e2_v 10) (z0 (c0o 5 hr.units1 (e2_v 10)) o0))) o0))
      (j0 (v6 (p5 r0f a0h (j3 x4 j4 (e2_v 2) (e2_v 6)) (e2_v 4) rfl) (d0 (w8 (o0s 11 PySem.F.slot_list_append PySem.F.type_list_append z8 s9 (z0 (m0k (z0 (m5 0 l0) (z0 (j3 x4 j4 (c0o 5 hr.units1 (e2_v 10)) (e2_v 7)) o0))) o0)))) x5)
      (d0 (z0x PassesOwn.leaving rfl (w0g (e2_v 11)) (n0a rfl (w5 (n4 (i:=12) nd rfl (by first | exact Or.inl rfl | exact Or.inr rfl)) (w5 (n4 (i:=13) nd rfl (by first | exact Or.inl rfl | exact Or.inr rfl)) x0i))) (m0a (is:=[12,13]) rfl) (d0 (v6 (p5 b0p d_ge (j3 x0t s0n (e2_v 12) (e2_v 8)) (m5 0 l0) (z5 _)) (d0 (h0t 9 hr.units1 (j3 x0t s0n (e2_v 12) (e2_v 8)) (e2_b (j0x rfl) d_min T.n_min j0b (z0 (h0r 9 hr.units1 (j3 x0t s0n (e2_v 12) (e2_v 8)) (e2_v 13) ⟨rfl,rfl,rfl,rfl⟩) (z0 (e2_v 13) o0))))) x5)))))))
      (j0 (a3 5 nd (e2_vD 9))
      (d0 (v6 (p5 (z0w hr.units0) w0c (h0j 5 T.n_len) l0 (z5 _)) (d0 (u4 l6)) x5)))))))
      (d0 (u4 (e2_b (h0l rfl) d_minL T.n_min j0b (z0 (e0h 5 rfl T.n_list) o0)))))),fun ds δ q x h=>?_⟩)
  · unfold u0m at h
    obtain ⟨full,mark,ws,price,s0,f0,ps,ss,rfl,ok,s1,s2,f1,f2,hl,hps,hq⟩:=h
    rfl
  · unfold u0m at h
    obtain ⟨full,mark,ws,price,s0,f0,ps,ss,rfl,ok,s1,s2,f1,f2,hl,hps,hq⟩:=h
    rw [show p4 ["_law_row","_law_stand","_law_first","_law_prices","_law_shut_here","_law_costs","_law_k","_law_price","_law_gone","_law_after","_law_here","_law_ways","_law_there","_law_cost"] _=[.val _,.val _,.val _,.val _,.val _,.no,.no,.no,.no,.no,.no,.no,.no,.no] from rfl]
    walk_at "dn"
    refine v8 (fun i ρ δ'=>∃ (kvs:List (Key×D)) (c6 c7 c8 c9 c10 c11 c12 c13:Cell),ρ=[.val (rowL full mark ws price),.val (.int s0),.val (.int f0),.val (.lst (ps.map D.int)),.val (.lst (ss.map D.int)),.val (.dwk kvs),c6,c7,c8,c9,c10,c11,c12,c13]∧δ'=δ∧Tab kvs (wayZ full mark ws f0 ps ss s0 i)∧kvs≠[]) ⟨_,_,_,_,_,_,_,_,_,rfl,rfl,⟨DI.one ⟨rfl,rfl⟩,fun k v ⟨e1,e2⟩=>⟨0,by omega,by rw [e1]; simp [valD]⟩⟩,by simp⟩ ?_ ?_
    · rintro i d ρ δ' rest hi ⟨kvs,c6,c7,c8,c9,c10,c11,c12,c13,rfl,rfl,ht,hne⟩ hrest
      obtain ⟨e,he,rfl⟩:=z0i hi
      rw [List.getElem?_map,Option.map_eq_some_iff] at he
      obtain ⟨p,hp,rfl⟩:=he
      rw [Nat.zero_add]
      have hil:i < ps.length:=(List.getElem?_eq_some_iff.mp hp).1
      have hg:ps.getD i 0=p:=by rw [List.getD_eq_getElem?_getD,hp]; rfl
      have hp1:=hps p (List.mem_of_getElem? hp)
      have hK:DI kvs (fun k _=>mark≤k∧k≤full):=ht.d.imp fun k v w=>g0k ok s1 s2 i k v w
      obtain ⟨g1,g2⟩:=n0h ok (f0 + (i:Int))
      unfold x0d
      walk_at "dn"
      refine ⟨_,_,_,_,_,rfl,ok.l1,?_⟩
      walk_at "dn"
      generalize hgg:w0a ws (f0 + (i:Int))=g at g1 g2
      obtain ⟨pq,hpq⟩:∃ pq,(if f0 + (i:Int)∈ss then none else some (ps.getD i 0))=pq:=⟨_,rfl⟩
      refine v8 (fun j ρ δ2=>∃ (af:List (Key×D)) (c10 c11 c12 c13:Cell),ρ=[.val (rowL full mark ws price),.val (.int s0),.val (.int f0),.val (.lst (ps.map D.int)),.val (.lst (ss.map D.int)),.val (.dwk kvs),.val (.int (i:Int)),.val (.int p),.val (.int g),.ownD af,c10,c11,c12,c13]∧δ2=δ'∧Tab af (SayW full mark g pq kvs j)) ⟨[],_,_,_,_,rfl,rfl,Tab.nil fun k v ⟨_,j',h,_⟩=>absurd h (Nat.not_lt_zero _)⟩ ?_ ?_
      · rintro j d ρ δ2 rest2 hj ⟨af,c10,c11,c12,c13,rfl,rfl,tA⟩ hrest2
        obtain ⟨k,v,rfl,hkj,hkv,hgk⟩:=hK.key hj
        have lim:∀ {l:List (Key×D)} {W:Int→Int→Prop},Tab l W→(∀ a b,W a b→mark≤a∧a≤full)→l.length < 1000:=fun {l W} d h=>by
          have:=d.d.few (n:=10) fun a b q=>by have:=ok.m1; have:=ok.f2; have:=h a b q; omega
          omega
        unfold x0d
        unfold rowL
        walk_at "dn"
        simp only [hkv]
        rw [g0m]
        refine ⟨rfl,by rw [o6]; rfl,?_⟩
        have low:∀ {l:List (Key×D)} {W:Int→Int→Prop},Tab l W→(∀ a b,W a b→mark≤a∧a≤full)→l.length < 1000:=lim
        have sayin:∀ j a b,SayW full mark g pq kvs j a b→mark≤a∧a≤full:=fun j a b ⟨m,j',_,s,c,h,h2⟩=>by
          obtain ⟨_,_,e1,e2⟩:=hK.all _ (List.mem_of_getElem? h)
          cases e1
          rcases h2 with ⟨rfl,_⟩ | ⟨_,_,rfl,_⟩ <;> omega
        obtain ⟨o,eo⟩:=tA.get (k - g) v
        obtain ⟨af1,eaf,tA1,hl1⟩:∃ af1,(if mark≤k - g then putD af (.inl (k - g)) (.int (if v < o then v else o)) else af)=af1∧Tab af1 (fun a b=>SayW full mark g pq kvs j a b∨(mark≤a∧a=k - g∧b=v))∧af1.length < 1000:=by
          refine ⟨_,rfl,?_⟩
          have t:Tab (if mark≤k - g then putD af (.inl (k - g)) (.int (if v < o then v else o)) else af) (fun a b=>SayW full mark g pq kvs j a b∨(mark≤a∧a=k - g∧b=v)):=by
            split
            · rename_i h5
              exact (tA.low eo).imp fun a b=>⟨fun h=>h.elim .inl fun ⟨e1,e2⟩=>.inr ⟨by omega,e1,e2⟩,fun h=>h.elim .inl fun ⟨_,e⟩=>.inr e⟩
            · rename_i h5
              exact tA.imp fun a b=>⟨.inl,fun h=>h.elim id fun ⟨e0,e1,e2⟩=>absurd e0 (by omega)⟩
          exact ⟨t,lim t fun a b h=>h.elim (sayin j a b) fun ⟨e0,e1,e2⟩=>by omega⟩
        have hl0:af.length < 1000:=lim tA (sayin j)
        by_cases hin:f0 + (i:Int)∈ss
        · rw [if_pos hin] at hpq
          rw [decide_eq_true hin]
          have fin:Tab af1 (SayW full mark g pq kvs (j + 1)):=tA1.imp fun a b=>(or_iff_left (a:=_) (b:=(mark≤a∧∃ p,pq=some p∧a=full - g∧b=v + p)) (fun ⟨_,p,h,_⟩=>by rw [← hpq] at h; cases h)).symm.trans (n0g hkj a b).symm
          simp only [Bool.not_true,Bool.false_eq_true,if_false]
          walk_at "dl"
          rw [eo]
          dsimp only
          by_cases h5:mark≤k - g
          · rw [if_pos h5] at eaf ⊢
            rw [eaf]
            exact ⟨rfl,hl0,hrest2 _ _ ⟨_,_,_,_,_,rfl,rfl,fin⟩⟩
          · rw [if_neg h5] at eaf ⊢
            rw [eaf]
            exact hrest2 _ _ ⟨_,_,_,_,_,rfl,rfl,fin⟩
        · rw [if_neg hin,hg] at hpq
          rw [decide_eq_false hin]
          simp only [Bool.not_false,if_true]
          refine ⟨rfl,rfl,?_⟩
          obtain ⟨o2,eo2⟩:=tA1.get (full - g) (v + p)
          have fin:Tab (if mark≤full - g then putD af1 (.inl (full - g)) (.int (if v + p < o2 then v + p else o2)) else af1) (SayW full mark g pq kvs (j + 1)):=by
            split
            · rename_i h6
              exact (tA1.low eo2).imp fun a b=>(Iff.intro (fun h=>h.elim .inl fun ⟨e1,e2⟩=>.inr ⟨by omega,p,hpq.symm,e1,e2⟩) (fun h=>h.elim .inl fun ⟨_,p',e,e1,e2⟩=>.inr (by rw [← hpq] at e; cases e; exact ⟨e1,e2⟩))).trans (n0g hkj a b).symm
            · rename_i h6
              exact tA1.imp fun a b=>(Iff.intro .inl (fun h=>h.elim id fun ⟨m,p',e,e1,e2⟩=>absurd m (by omega))).trans (n0g hkj a b).symm
          walk_at "dl"
          rw [eo]
          dsimp only
          by_cases h5:mark≤k - g
          · rw [if_pos h5] at eaf ⊢
            refine ⟨rfl,hl0,?_⟩
            rw [eaf]
            by_cases h6:mark≤full - g
            · rw [if_pos h6] at fin ⊢
              rw [eo2]
              exact ⟨rfl,hl1,hrest2 _ _ ⟨_,_,_,_,_,rfl,rfl,fin⟩⟩
            · rw [if_neg h6] at fin ⊢
              exact hrest2 _ _ ⟨_,_,_,_,_,rfl,rfl,fin⟩
          · rw [if_neg h5] at eaf ⊢
            rw [eaf]
            by_cases h6:mark≤full - g
            · rw [if_pos h6] at fin ⊢
              rw [eo2]
              exact ⟨rfl,hl1,hrest2 _ _ ⟨_,_,_,_,_,rfl,rfl,fin⟩⟩
            · rw [if_neg h6] at fin ⊢
              exact hrest2 _ _ ⟨_,_,_,_,_,rfl,rfl,fin⟩
      · rintro ρ δ2 ⟨af,c10,c11,c12,c13,rfl,rfl,tA⟩
        rw [List.length_map] at tA
        have tB:Tab af (wayZ full mark ws f0 ps ss s0 (i + 1)):=by
          show Tab af (OnW full mark (w0a ws (f0 + (i:Int))) (if f0 + (i:Int)∈ss then none else some (ps.getD i 0)) (wayZ full mark ws f0 ps ss s0 i))
          rw [hgg,hpq]
          exact ht.on (tA.imp (z1a hK))
        walk_at "dn"
        by_cases hz:af=[]
        · subst hz
          exact hq.2 (d0x (tB.none.mp rfl) _ (by omega))
        · have hl:¬ (af.length:Int)=0:=fun z=>hz (List.eq_nil_of_length_eq_zero (by omega))
          rw [if_neg hl]
          exact hrest _ _ ⟨_,_,_,_,_,_,_,_,_,rfl,rfl,tB,hz⟩
    · rintro ρ δ' ⟨kvs,c6,c7,c8,c9,c10,c11,c12,c13,rfl,rfl,ht,hne⟩
      rw [z0j,List.length_map] at ht
      obtain ⟨ns,n1,n2,n3⟩:=ht.min
      walk_at "dn"
      rw [n1]
      exact ⟨fun z=>hne (n2.mp z),fun m hm=>hq.1 m (n3 m hm)⟩
noncomputable def s0x (full mark:Int) (ws:List Int) (price s f:Int) (ps ss:List Int):D:=.lst [rowL full mark ws price,.int s,.int f,.lst (ps.map D.int),.lst (ss.map D.int)]
structure ShOk (ss:List Int):Prop where
  r:risI ss=true
  b:∀ z∈ss,0≤z∧z≤47
  l:ss.length≤48
theorem ShOk.all {ss:List Int} (h:ShOk ss):(ss.map D.int).all (b3 · 0 47)=true:=by
  rw [List.all_eq_true]
  intro d hd
  obtain ⟨z,hz,rfl⟩:=List.mem_map.mp hd
  exact i4 (h.b z hz).1 (h.b z hz).2
theorem ShOk.ris {ss:List Int} (h:ShOk ss):risD (.lst (ss.map D.int)) 0 47=true∧risD (.tup (ss.map D.int)) 0 47=true:=by
  have hl:=h.l
  constructor <;>
  · unfold risD v7 rowD
    dsimp only
    rw [Option.getD_some,e0b,h.r,h.all,List.length_map,decide_eq_true (by omega),decide_eq_true (by omega)]; rfl
theorem p0l:∀ {c:List Int} {m:Int},risI c=true→(∀ k∈c,k < m)→risI (c++[m])=true
  | [],m,_,_=>rfl
  | [a],m,_,h=>by
    show (decide (a < m) && risI [m])=true
    rw [decide_eq_true (h a (by simp))]; rfl
  | a :: b :: r,m,hr,h=>by
    have hr':(decide (a < b) && risI (b :: r))=true:=hr
    rw [Bool.and_eq_true] at hr'
    show (decide (a < b) && risI ((b :: r)++[m]))=true
    rw [hr'.1,p0l hr'.2 fun k hk=>h k (List.mem_cons_of_mem _ hk)]; rfl
structure DrOk (full mark:Int) (ws:List Int) (price s f:Int) (ps ss:List Int):Prop where
  ok:SpecOk full mark ws price
  s1:mark≤s
  s2:s≤full
  f1:0≤f
  f2:f≤47
  pl:ps.length≤24
  p:∀ z∈ps,0≤z∧z≤9999
  sh:ShOk ss
noncomputable def n0f:Sp2:=fun ds δ q _=>∃ p n,∃ f:Int,ds=[.ref p,.int f]∧0≤f∧f≤47∧DkM p (n + 8) δ∧∀ (ss:List Int) δ',ShOk ss→DkM p n δ'→q (.lst (ss.map D.int)) δ'
noncomputable def c0g (lo hi:Int) (xs:List D):Prop:=∀ d∈xs,u5 d=true∧b3 d lo hi=false
noncomputable def w0n:Sp2:=fun ds δ q _=>∃ full mark ws price,ds=[rowL full mark ws price]∧SpecOk full mark ws price∧∀ xs,c0g mark full xs→q (.lst xs) δ
noncomputable def u0l:Sp2:=fun ds δ q _=>match ds with | []=>∀ xs,c0g 0 47 xs→q (.lst xs) δ | _=>False
noncomputable abbrev b6:List Str:=["_law_row"]
theorem sc_law_no_stand:FnScope ["_law_row"] b6 (defScope h8):=⟨rfl,rfl,rfl,by decide +kernel,rfl,by decide +kernel,by decide +kernel⟩
noncomputable abbrev b8 (P:Program) (w:World) (K:PySem.W.Frag) (mg:Str→Option Value) (base:Heap) (cs:Cs):Prop:=Fun2 P w K mg base "_law_no_stand" 2 b6 w0n
theorem u0k {f:Addr} {fd:FuncData} (Df:DefAt K mg "_law_no_stand" h8 b6 f fd) (T:Txt K mg cs):b8 P w K mg base cs:=by
  have nd:=sc_law_no_stand.nd
  refine def2 Df sc_law_no_stand (fun ds δ q x h=>?_) (fun cdv A outer s H E Y hr=>⟨_,(d0 (u4 (o4 (z0 (j3 x0t s0n (m5 0 l0) l0) (z0 (j3 x4 j4 (m5 0 l0) l0) (z0 l6 (z0 z0v (z0 z7 (z0 (o4 (z0 (m5 0 l0) o0)) (z0 x0f o0)))))))))),fun ds δ q x h=>?_⟩)
  · unfold w0n at h
    obtain ⟨full,mark,ws,price,rfl,ok,hq⟩:=h
    rfl
  · unfold w0n at h
    obtain ⟨full,mark,ws,price,rfl,ok,hq⟩:=h
    rw [show p4 ["_law_row"] _=[.val _] from rfl]
    unfold rowL
    have:=ok.f2
    have:=ok.m1
    walk_at "dl"
    refine hq _ ?_
    intro d hd
    simp only [List.mem_cons,List.not_mem_nil,or_false] at hd
    rcases hd with rfl | rfl | rfl | rfl | rfl | rfl | rfl | rfl
    all_goals first | exact ⟨rfl,rfl⟩ | exact ⟨rfl,g0y (by omega)⟩
noncomputable abbrev a6:List Str:=[]
theorem sc_law_no_first:FnScope [] a6 (defScope f8):=⟨rfl,rfl,rfl,by decide +kernel,rfl,by decide +kernel,by decide +kernel⟩
noncomputable abbrev a8 (P:Program) (w:World) (K:PySem.W.Frag) (mg:Str→Option Value) (base:Heap) (cs:Cs):Prop:=Fun2 P w K mg base "_law_no_first" 2 a6 u0l
theorem u0j {f:Addr} {fd:FuncData} (Df:DefAt K mg "_law_no_first" f8 a6 f fd) (T:Txt K mg cs):a8 P w K mg base cs:=by
  have nd:=sc_law_no_first.nd
  refine def2 Df sc_law_no_first (fun ds δ q x h=>?_) (fun cdv A outer s H E Y hr=>⟨_,(d0 (u4 (o4 (z0 (t0h l0) (z0 l0 (z0 l6 (z0 z0v (z0 z7 (z0 (o4 (z0 l0 o0)) (z0 x0f (z0 (j3 d0q d_pow l0 l0) o0))))))))))),fun ds δ q x h=>?_⟩)
  · unfold u0l at h
    split at h
    · rfl
    · exact h.elim
  · unfold u0l at h
    split at h
    rotate_left
    · exact h.elim
    rw [show p4 [] _=[] from rfl]
    have hq:=h
    walk_at "dl"
    refine ⟨⟨by decide,by decide,by decide⟩,hq _ ?_⟩
    have big:(10:Int) ^ Int.toNat 30=1000000000000000000000000000000:=by decide
    rw [big]
    intro d hd
    simp only [List.mem_cons,List.not_mem_nil,or_false] at hd
    rcases hd with rfl | rfl | rfl | rfl | rfl | rfl | rfl | rfl
    all_goals first | exact ⟨rfl,rfl⟩ | exact ⟨rfl,g0y (by omega)⟩
theorem p0k {tc:TT2} {tb:TS2} {E:End2} (P:Nat→En→Dk→Prop) (step:∀ k ρ δ,P k ρ δ→∀ (W:En→Dk→Prop),(∀ k' ρ' δ',k=k' + 1→P k' ρ' δ'→W ρ' δ')→tc E.xc ρ δ fun b ρ1 δ1=>if b=true then tb { E with nx:=W,ct:=W,bk:=E.nx } ρ1 δ1 else E.nx ρ1 δ1):∀ k ρ δ,P k ρ δ→z0k tc tb E (k + 1) ρ δ
  | k,ρ,δ,h=>by
    unfold z0k
    refine step k ρ δ h (z0k tc tb E k) fun k' ρ' δ' e p=>?_
    subst e
    exact p0k P step k' ρ' δ' p
noncomputable abbrev y0q:List Str:=["_law_deck_here","_law_first"]
theorem sc_law_shut:FnScope ["_law_deck_here","_law_first","_law_found","_law_number"] y0q (defScope w0u):=⟨rfl,rfl,rfl,by decide +kernel,rfl,by decide +kernel,by decide +kernel⟩
noncomputable abbrev w0m (P:Program) (w:World) (K:PySem.W.Frag) (mg:Str→Option Value) (base:Heap) (cs:Cs):Prop:=Fun2 P w K mg base "_law_shut" 3 y0q n0f
theorem n0e {f:Addr} {fd:FuncData} (Df:DefAt K mg "_law_shut" w0u y0q f fd) (T:Txt K mg cs) (G_law_next:a7 P w K mg base cs):w0m P w K mg base cs:=by
  have nd:=sc_law_shut.nd
  refine def2 Df sc_law_shut (fun ds δ q x h=>?_) (fun cdv A outer s H E Y hr=>⟨_,(j0 (t0e 2 nd o0)
      (j0 (v6 (p5 (z0w hr.units0) w0c (j3 d4 y6 (u3 G_law_next (hr.mono (by decide)) i0 (z0 (e2_v 0) o0)) l0) l0 (z5 _)) (d0 (u4 (e2_v 2))) x5)
      (j0 (a3 3 nd (j3 x4 j4 (e2_v 1) (j3 d4 y6 (u3 G_law_next (hr.mono (by decide)) i0 (z0 (e2_v 0) o0)) l0)))
      (j0 (s0h PassesOwn.leaving (PW2.pt (m0j (p5 p0b d_lt (e2_v 3) l0 (z5 _)) (s0o (p5 p0b d_lt (u9 2 T.n_len) l0 (z5 _))))) (j0 (w8 (o0s 2 PySem.F.slot_list_append PySem.F.type_list_append z8 s9 (z0 (e2_v 3) o0)))
      (d0 (a3 3 nd (j3 x4 j4 (j3 x4 j4 (e2_v 3) l0) (j3 d4 y6 (u3 G_law_next (hr.mono (by decide)) i0 (z0 (e2_v 0) o0)) l0))))))
      (d0 (u4 (e2_v 2))))))),fun ds δ q x h=>?_⟩)
  · unfold n0f at h
    obtain ⟨p,n,f',rfl,f1,f2,hD,hq⟩:=h
    rfl
  · unfold n0f at h
    obtain ⟨p,n,f',rfl,f1,f2,hD,hq⟩:=h
    rw [show p4 ["_law_deck_here","_law_first","_law_found","_law_number"] _=[.val _,.val _,.no,.no] from rfl]
    walk_at "dn"
    refine ⟨p,n + 7,rfl,hD,fun a0 δ1 a1 a2 hD=>?_⟩
    walk_at "dn"
    refine ⟨by decide,?_⟩
    split
    · exact hq [] _ ⟨rfl,(fun z hz=>nomatch hz),by decide⟩ (hD.mono (by omega))
    refine ⟨p,n + 6,rfl,hD,fun b0 δ2 b1 b2 hD=>?_⟩
    walk_at "dn"
    refine ⟨by decide,?_⟩
    refine ⟨6 + 1,p0k (fun k ρ δ=>∃ (fs:List Int) (num:Int),ρ=[.val (.ref p),.val (.int f'),.own (fs.map D.int),.val (.int num)]∧fs.length + k=6∧risI fs=true∧(∀ z∈fs,(0≤z∧z≤47)∧z < num)∧0≤num∧DkM p (n + k) δ) ?_ 6 _ _ ⟨[],_,rfl,rfl,rfl,(fun z hz=>nomatch hz),by omega,hD⟩⟩
    rintro k ρ δ3 ⟨fs,num,rfl,hl,hr1,hz,h0,hD⟩ W hW
    have out:q (.lst (fs.map D.int)) δ3:=hq fs _ ⟨hr1,fun z h=>(hz z h).1,by omega⟩ (hD.mono (by omega))
    walk_at "dn"
    rw [List.length_map]
    split
    · split
      · rename_i h1 h2
        obtain ⟨k',rfl⟩:∃ k',k=k' + 1:=⟨k - 1,by omega⟩
        refine ⟨rfl,by omega,?_⟩
        refine ⟨p,n + k',rfl,hD,fun g0 δ4 g1 g2 hD=>?_⟩
        have e1:=Int.emod_nonneg g0 (b:=7) (by omega)
        refine ⟨by decide,hW k' _ _ rfl ⟨fs++[num],_,by rw [List.map_append]; rfl,by rw [List.length_append,List.length_singleton]; omega,p0l hr1 fun z h=>(hz z h).2,fun z h=>?_,by omega,hD⟩⟩
        rcases List.mem_append.mp h with h | h
        · have:=hz z h; omega
        · rw [List.mem_singleton.mp h]; omega
      · exact out
    · exact out
noncomputable def z48:List Int:=(List.range 48).map fun (k:Nat)=>(k:Int)
theorem r48:rngD 0 (Int.toNat 48)=z48.map D.int:=by
  unfold rngD z48
  rw [List.map_map]
  exact List.map_congr_left fun k _=>by simp
theorem c0f {z:Int} (h:z∈z48):0≤z∧z≤47:=by
  obtain ⟨k,hk,rfl⟩:=List.mem_map.mp h
  have:=List.mem_range.mp hk
  omega
theorem z48_ok:ShOk z48:=⟨by decide +kernel,fun z h=>c0f h,by decide⟩
theorem d0w {b:Int} (h:b=0∨b=1):ShOk (z48.filter fun z=>decide (z % 2=b)):=by
  refine ⟨?_,fun z h=>c0f (List.mem_filter.mp h).1,Nat.le_trans (List.length_filter_le _ _) (by decide)⟩
  rcases h with rfl | rfl <;> decide +kernel
noncomputable def n0d:Sp2:=fun ds δ q _=>∃ p n,ds=[.ref p]∧DkM p (n + 47) δ∧∀ full mark ws price s f ps ss δ',DrOk full mark ws price s f ps ss→DkM p n δ'→q (s0x full mark ws price s f ps ss) δ'
noncomputable abbrev a9:List Str:=["_law_deck_here"]
theorem sc_law_drawn:FnScope ["_law_deck_here","_law_row","_law_stand","_law_first","_law_size","_law_prices","_law_k","_law_number","_law_shut_here","_law_way"] a9 (defScope y0f):=⟨rfl,rfl,rfl,by decide +kernel,rfl,by decide +kernel,by decide +kernel⟩
noncomputable abbrev x0v (P:Program) (w:World) (K:PySem.W.Frag) (mg:Str→Option Value) (base:Heap) (cs:Cs):Prop:=Fun2 P w K mg base "_law_drawn" 4 a9 n0d
theorem p0j {f:Addr} {fd:FuncData} (Df:DefAt K mg "_law_drawn" y0f a9 f fd) (T:Txt K mg cs) (G_law_part:w0q P w K mg base cs) (G_law_next:a7 P w K mg base cs) (G_law_shut:w0m P w K mg base cs):x0v P w K mg base cs:=by
  have nd:=sc_law_drawn.nd
  refine def2 Df sc_law_drawn (fun ds δ q x h=>?_) (fun cdv A outer s H E Y hr=>⟨_,(j0 (a3 1 nd (u3 G_law_part (hr.mono (by decide)) i0 (z0 (e2_v 0) (z0 l0 (z0 l0 o0)))))
      (j0 (a3 2 nd (j3 x4 j4 (m5 1 l0) (j3 d4 y6 (u3 G_law_next (hr.mono (by decide)) i0 (z0 (e2_v 0) o0)) (j3 x4 j4 (j3 x0t s0n (m5 1 l0) (m5 1 l0)) l0))))
      (j0 (a3 3 nd (j3 d4 y6 (u3 G_law_next (hr.mono (by decide)) i0 (z0 (e2_v 0) o0)) l0))
      (j0 (a3 4 nd (f0i r0h d_ix (o4 (z0 l0 (z0 l0 (z0 l0 (z0 l0 o0))))) (j3 d4 y6 (u3 G_law_next (hr.mono (by decide)) i0 (z0 (e2_v 0) o0)) l0)))
      (j0 (t0e 5 nd o0)
      (j0 (z0x PassesOwn.leaving rfl (v0c T.n_range (z0 (j3 d4 y6 (u3 G_law_next (hr.mono (by decide)) i0 (z0 (e2_v 0) o0)) l0) o0)) (n4 (i:=6) nd rfl (by first | exact Or.inl rfl | exact Or.inr rfl)) (z0l (i:=6)) (j0 (a3 7 nd (u3 G_law_next (hr.mono (by decide)) i0 (z0 (e2_v 0) o0)))
      (d0 (w8 (o0s 5 PySem.F.slot_list_append PySem.F.type_list_append z8 s9 (z0 (j3 d4 y6 (j3 x4 j4 (j3 w0j q0u (e2_v 7) l0) (e2_v 6)) (e2_v 4)) o0))))))
      (j0 (a3 8 nd (u3 G_law_shut (hr.mono (by decide)) i0 (z0 (e2_v 0) (z0 (e2_v 3) o0))))
      (j0 (a3 9 nd (j3 d4 y6 (u3 G_law_next (hr.mono (by decide)) i0 (z0 (e2_v 0) o0)) l0))
      (j0 (v6 (p5 (z0w hr.units0) w0c (e2_v 9) l0 (z5 _)) (d0 (a3 8 nd (e2_lr rfl T.n_range T.n_list (z0 l0 o0)))) x5)
      (j0 (v6 (p5 (z0w hr.units0) w0c (e2_v 9) l0 (z5 _)) (d0 (e0q (i:=8) rfl (CompOkM.of ["_law_number"] [3] rfl) (v0c T.n_range (z0 l0 o0)) (fun nd _ _ _ _ _=>(n4 (i:=0) nd rfl (by first | exact Or.inl rfl | exact Or.inr rfl))) v0r (fun _ _ _ _ _ _=>(z1o (p5 (z0w hr.units0) w0c (j3 d4 y6 (e2_v 0) l0) (j3 d4 y6 (e2_v 1) l0) (z5 _)))) (fun _ _ _ _ _ _=>(e2_v 0)) nd)) x5)
      (d0 (u4 (o4 (z0 (e2_v 1) (z0 (e2_v 2) (z0 (e2_v 3) (z0 (e2_v 5) (z0 (e2_v 8) o0)))))))))))))))))),fun ds δ q x h=>?_⟩)
  · unfold n0d at h
    obtain ⟨p,n,rfl,hD,hq⟩:=h
    rfl
  · unfold n0d at h
    obtain ⟨p,n,rfl,hD,hq⟩:=h
    rw [show p4 ["_law_deck_here","_law_row","_law_stand","_law_first","_law_size","_law_prices","_law_k","_law_number","_law_shut_here","_law_way"] _=[.val _,.no,.no,.no,.no,.no,.no,.no,.no,.no] from rfl]
    walk_at "dn"
    refine ⟨p,n + 37,9,6,rfl,by decide,by decide,by decide,by decide,hD,fun full mark ws price δ1 ok _ _ hD=>?_⟩
    unfold rowL
    walk_at "dn"
    refine ⟨p,_,rfl,hD,fun a0 δ2 a1 a2 hD=>?_⟩
    have hfm:=ok.m2
    have b1:=Int.emod_nonneg a0 (b:=full - mark + 1) (by omega)
    have b2:=Int.emod_lt_of_pos a0 (b:=full - mark + 1) (by omega)
    walk_at "dn"
    refine ⟨by omega,?_⟩
    refine ⟨p,_,rfl,hD,fun c0 δ3 c1 c2 hD=>?_⟩
    have d1:=Int.emod_nonneg c0 (b:=48) (by decide)
    have d2:=Int.emod_lt_of_pos c0 (b:=48) (by decide)
    dsimp only
    refine ⟨by decide,?_⟩
    refine ⟨p,_,rfl,hD,fun e0 δ4 e1 e2 hD=>?_⟩
    dsimp only
    refine ⟨by decide,?_⟩
    obtain ⟨sz,esz,z1,z2⟩:∃ sz:Int,atI [D.int 2,D.int 10,D.int 100,D.int 10000] (e0 % 4)=some (.int sz)∧0 < sz∧sz≤10000:=by
      have:e0 % 4=0∨e0 % 4=1∨e0 % 4=2∨e0 % 4=3:=by omega
      rcases this with h | h | h | h <;> (rw [h]; exact ⟨_,rfl,by decide,by decide⟩)
    rw [esz]
    dsimp only
    refine ⟨p,_,rfl,hD,fun g0 δ5 g1 g2 hD=>?_⟩
    have l1:=Int.emod_nonneg g0 (b:=25) (by decide)
    have l2:=Int.emod_lt_of_pos g0 (b:=25) (by decide)
    dsimp only
    refine ⟨by decide,⟨by omega,by omega⟩,?_⟩
    generalize g0 % 25=m at l1 l2
    generalize c0 % 48=f0 at d1 d2
    generalize hst:mark + a0 % (full - mark + 1)=st
    have st1:mark≤st:=by omega
    have st2:st≤full:=by omega
    refine v8 (fun i ρ δ'=>∃ (ps:List Int) (c6 c7:Cell),ρ=[.val (.ref p),.val (.lst [.int full,.int mark,.lst (ws.map D.int),.int price]),.val (.int st),.val (.int f0),.val (.int sz),.own (ps.map D.int),c6,c7,.no,.no]∧ps.length=i∧(∀ z∈ps,0≤z∧z≤9999)∧DkM p (n + 9 + (24 - i)) δ') ⟨[],_,_,rfl,rfl,(fun z hz=>nomatch hz),hD⟩ ?_ ?_
    · rintro i d ρ δ' rest hi ⟨ps,c6,c7,rfl,hl,hps,hD⟩ hrest
      obtain ⟨hi2,rfl⟩:=s0i hi
      unfold x0d
      walk_at "dn"
      refine ⟨p,n + 9 + (24 - (i + 1)),rfl,hD.mono (by omega),fun v0 δ6 v1 v2 hD=>?_⟩
      have w1:=Int.emod_nonneg (v0 * 11 + (0 + (i:Int))) (b:=sz) (by omega)
      have w2:=Int.emod_lt_of_pos (v0 * 11 + (0 + (i:Int))) (b:=sz) z1
      walk_at "dn"
      refine ⟨rfl,.inr ⟨by decide,by decide⟩,z1,by rw [List.length_map]; omega,hrest _ _ ⟨ps++[(v0 * 11 + (0 + (i:Int))) % sz],_,_,by rw [List.map_append]; rfl,by rw [List.length_append,hl]; rfl,fun z hz=>?_,hD⟩⟩
      rcases List.mem_append.mp hz with hz | hz
      · exact hps z hz
      · rw [List.mem_singleton.mp hz]; omega
    · rintro ρ δ' ⟨ps,c6,c7,rfl,hl,hps,hD⟩
      rw [x0o] at hl hD
      walk_at "dn"
      refine ⟨p,n + 1,f0,rfl,d1,by omega,hD.mono (by omega),fun ss δ6 hs hD=>?_⟩
      walk_at "dn"
      refine ⟨p,n,rfl,hD,fun v0 δ7 v1 v2 hD=>?_⟩
      have fin:∀ ss,ShOk ss→q (.lst [.lst [.int full,.int mark,.lst (ws.map D.int),.int price],.int st,.int f0,.lst (ps.map D.int),.lst (ss.map D.int)]) δ7:=fun ss h=>hq full mark ws price st f0 ps ss _ ⟨ok,st1,st2,d1,by omega,by omega,hps,h⟩ hD
      walk_at "dn"
      refine ⟨by decide,?_⟩
      have fil:∀ c8,compM false 1 (t2B (t2Op eqG (t2Op (fI (fun x j=>0 < j) fun i j=>D.int (i % j)) (t2V 0) (t2C (D.int 2))) (t2Op (fI (fun x j=>0 < j) fun i j=>D.int (i % j)) (t2V 1) (t2C (D.int 2))))) (t2V 0) [3]
          [Cell.val (D.ref p),Cell.val (D.lst [D.int full,D.int mark,D.lst (List.map D.int ws),D.int price]),Cell.val (D.int st),Cell.val (D.int f0),Cell.val (D.int sz),Cell.own (List.map D.int ps),c6,c7,c8,Cell.val (D.int (v0 % 8))]
          (fun acc δ2=>q (D.lst [D.lst [D.int full,D.int mark,D.lst (List.map D.int ws),D.int price],D.int st,D.int f0,D.lst (List.map D.int ps),D.lst acc]) δ2) (rngD 0 (Int.toNat 48)) [] δ7:=fun c8=>by
        refine q0l (fun d=>match d with | .int z=>decide (z % 2=f0 % 2) | _=>false) id (by rw [x0o]; decide) (fun d hd Q k1 k2=>?_) ?_
        · rw [r48] at hd
          obtain ⟨z,hz,rfl⟩:=List.mem_map.mp hd
          refine ⟨_,rfl,?_⟩
          simp only [capt,q0s,List.map_cons,List.map_nil,List.getElem?_cons_zero,List.getElem?_cons_succ,List.cons_append,List.nil_append]
          walk_at "dn"
          refine ⟨by decide,by decide,?_⟩
          split
          · rename_i e; exact k1 (decide_eq_true e)
          · rename_i e; exact k2 (decide_eq_false e)
        · have e:((rngD 0 (Int.toNat 48)).filter (fun d=>match d with | .int z=>decide (z % 2=f0 % 2) | _=>false)).map id=(z48.filter fun z=>decide (z % 2=f0 % 2)).map D.int:=by
            rw [List.map_id,r48,List.filter_map]; rfl
          rw [e]
          exact fin _ (d0w (by omega))
      split
      · refine ⟨⟨by decide,by decide⟩,?_⟩
        split
        · exact ⟨⟨by decide,by decide⟩,fil _⟩
        · rw [r48]; exact fin _ z48_ok
      · split
        · exact ⟨⟨by decide,by decide⟩,fil _⟩
        · exact fin _ hs
theorem mro_own {K:PySem.W.Frag} {W C D:Addr} (c:ErrC K W C) (hw:D≠W):PySem.W.mroIn K C (.ref D)=some (decide (D=C)):=by
  rw [c.mroIn]
  by_cases h:D=C
  · subst h; simp [List.contains_cons]
  · have e:(Value.ref C :: .ref W :: PySem.W.veMro).contains (.ref D)=false:=by simp [List.contains_cons,h,hw]
    rw [e,decide_eq_false h]
theorem d0v {K:PySem.W.Frag} {W C:Addr} (c:ErrC K W C):PySem.W.mroIn K C (.ref W)=some true:=by
  rw [c.mroIn]; simp [List.contains_cons]
theorem y1z {l:List Addr} (h:l.Nodup) (i j:Nat) {a b:Addr} (hi:l[i]?=some a) (hj:l[j]?=some b) (hij:i≠j):a≠b:=by
  intro e
  subst e
  obtain ⟨h1,e1⟩:=List.getElem?_eq_some_iff.mp hi
  obtain ⟨h2,e2⟩:=List.getElem?_eq_some_iff.mp hj
  have hp:=List.pairwise_iff_getElem.mp h
  rcases Nat.lt_or_gt_of_ne hij with z | z
  · exact hp i j h1 h2 z (e1.trans e2.symm)
  · exact hp j i h2 h1 z (e2.trans e1.symm)
theorem j6 {cs:Cs}:cs.NoStands∈cs.ds:=List.mem_of_getElem? (show cs.ds[2]?=some cs.NoStands from rfl)
theorem a5 {cs:Cs}:cs.NoRounds∈cs.ds:=List.mem_of_getElem? (show cs.ds[3]?=some cs.NoRounds from rfl)
theorem z6 {cs:Cs}:cs.NoneHolds∈cs.ds:=List.mem_of_getElem? (show cs.ds[7]?=some cs.NoneHolds from rfl)
theorem j5 {cs:Cs}:cs.NoPaper∈cs.ds:=List.mem_of_getElem? (show cs.ds[9]?=some cs.NoPaper from rfl)
theorem t0w (T:Txt K mg cs):PySem.W.mroIn K cs.NoStands (.ref cs.W)=some true:=d0v (T.err _ j6)
theorem t0v (T:Txt K mg cs):PySem.W.mroIn K cs.NoRounds (.ref cs.W)=some true:=d0v (T.err _ a5)
theorem z0b (T:Txt K mg cs):PySem.W.mroIn K cs.NoneHolds (.ref cs.W)=some true:=d0v (T.err _ z6)
theorem r0s (T:Txt K mg cs):PySem.W.mroIn K cs.NoPaper (.ref cs.W)=some true:=d0v (T.err _ j5)
theorem z0a (T:Txt K mg cs) {C:Addr} {fs:List (Str×D)} (h:C∈cs.ds):u0c K (.exc C fs) (.ref C)=some true:=((T.err C h).own (T.err C h) (T.ne C h)).trans (congrArg some (decide_eq_true rfl))
theorem plain_ints2 {ps:List Int}:o5 (.lst (ps.map D.int))=true∧o5 (.tup (ps.map D.int))=true:=by
  have:(ps.map D.int).all u5=true:=by
    rw [List.all_eq_true]
    intro d hd
    obtain ⟨z,_,rfl⟩:=List.mem_map.mp hd
    rfl
  constructor <;>
  · unfold o5 rowD
    dsimp only
    rw [this]; rfl
theorem d0u {ps:List Int} (hl:ps.length≤24) (hp:∀ z∈ps,0≤z∧z≤9999):v7 (.lst (ps.map D.int)) 0 24 0 9999=true∧v7 (.tup (ps.map D.int)) 0 24 0 9999=true:=by
  have:(ps.map D.int).all (b3 · 0 9999)=true:=by
    rw [List.all_eq_true]
    intro d hd
    obtain ⟨z,hz,rfl⟩:=List.mem_map.mp hd
    exact i4 (hp z hz).1 (hp z hz).2
  constructor <;>
  · unfold v7 rowD
    dsimp only
    rw [this,List.length_map,decide_eq_true (by omega),decide_eq_true (by omega)]; rfl
noncomputable def r0r (cs:Cs):Sp2:=fun ds δ q _=>∃ full mark ws price s f ps ss,∃ k:Int,ds=[m7 cs full mark ws price,s0x full mark ws price s f ps ss,.int k]∧DrOk full mark ws price s f ps ss∧q (.bl true) δ
theorem m8 {a b:List Int} {xs:List D} (e:some (a.map D.int)=some xs) (e2:xs=b.map D.int):a=b:=by
  subst e2
  have:=congrArg u0x (Option.some.inj e)
  rw [v0q,v0q] at this
  exact Option.some.inj this
noncomputable abbrev z0z:List Str:=["_law_part_here","_law_drawn_here","_law_sort"]
theorem sc_law_right:FnScope ["_law_part_here","_law_drawn_here","_law_sort","_law_row","_law_stand","_law_first","_law_prices","_law_shut_here","_law_due","_law_rows","_law_found","_law_error"] z0z (defScope y0e):=⟨rfl,rfl,rfl,by decide +kernel,rfl,by decide +kernel,by decide +kernel⟩
noncomputable abbrev x0u (P:Program) (w:World) (K:PySem.W.Frag) (mg:Str→Option Value) (base:Heap) (cs:Cs):Prop:=Fun2 P w K mg base "_law_right" 8 z0z (r0r cs)
theorem p0i {f:Addr} {fd:FuncData} (Df:DefAt K mg "_law_right" y0e z0z f fd) (T:Txt K mg cs) (G_law_single:z0c P w K mg base cs) (G_single_least:d6 P w K mg base cs) (G_law_is_just:i7 P w K mg base cs) (G_law_whole:x0w P w K mg base cs):x0u P w K mg base cs:=by
  have nd:=sc_law_right.nd
  refine def2 Df sc_law_right (fun ds δ q x h=>?_) (fun cdv A outer s H E Y hr=>⟨_,(j0 (c0q (e2_v 1) (c0l rfl (w5 (n4 (i:=3) nd rfl (by first | exact Or.inl rfl | exact Or.inr rfl)) (w5 (n4 (i:=4) nd rfl (by first | exact Or.inl rfl | exact Or.inr rfl)) (w5 (n4 (i:=5) nd rfl (by first | exact Or.inl rfl | exact Or.inr rfl)) (w5 (n4 (i:=6) nd rfl (by first | exact Or.inl rfl | exact Or.inr rfl)) (w5 (n4 (i:=7) nd rfl (by first | exact Or.inl rfl | exact Or.inr rfl)) x0i)))))) (c0k (is:=[3,4,5,6,7]) rfl))
      (j0 (a3 8 nd (u3 G_law_single (hr.mono (by decide)) i0 (z0 (e2_v 3) (z0 (e2_v 4) (z0 (e2_v 5) (z0 (e2_v 6) (z0 (e2_v 7) o0)))))))
      (j0 (a3 9 nd (o4 (z0 (u0d p6 t0f T.n_list y8 (z0 (e2_v 6) o0)) (z0 (u0d p6 t0f T.n_list y8 (z0 (e2_v 7) o0)) o0))))
      (j0 (v6 (p5 (z0w hr.units0) w0c (j3 d4 y6 (e2_v 2) l0) l0 (z5 _)) (d0 (a3 9 nd (o4 (z0 (u0d o7 s0m T.n_tuple x0r (z0 (e2_v 6) o0)) (z0 (u0d o7 s0m T.n_tuple x0r (z0 (e2_v 7) o0)) o0))))) x5)
      (j0 (c0w ⟨rfl,rfl⟩ (fun _ _=>(d0 (a3 10 nd (u3 G_single_least (hr.mono (by decide)) m0m (z0 (e2_v 0) (z0 (e2_v 4) (z0 (e2_v 5) (z0 (m5 9 l0) (z0 (m5 9 l0) o0))))))))) (c0s K 11 ⟨rfl,rfl⟩ T.h_WearError T.c_WearError nd (fun _=>(d0 (u4 (w0i (t0i op_isN d_isN (e2_v 8) l6 (z5 _)) (v0g (x0n G_law_is_just (hr.u.mono (by decide)).mark t0d (z0 (e2_v 11) (z0 (e2_b w4 (b5 (K:=K)) T.n_isinstance x3 (z0 (e2_v 11) (z0 (z0n T.c_NoneHolds) o0))) o0)))))))) c0x))
      (j0 (v6 (PW2.pt (i0x (p5 (c0p hr.units0) d_neL (u0d p6 t0f T.n_list y8 (z0 (m5 9 l0) o0)) (e2_v 6) (z5 _)) (q0v (p5 (c0p hr.units0) d_neL (u0d p6 t0f T.n_list y8 (z0 (m5 9 l0) o0)) (e2_v 7) (z5 _))))) (d0 (u4 z0v)) x5)
      (d0 (u4 (w0i (t0i k0a d0a (e2_v 8) l6 (z5 _)) (w0i (u3 G_law_whole (hr.mono (by decide)) i0 (z0 (e2_v 10) o0)) (v0g (t0i (z0w hr.units0) w0c (e2_v 10) (e2_v 8) (z5 _))))))))))))),fun ds δ q x h=>?_⟩)
  · unfold r0r at h
    obtain ⟨full,mark,ws,price,s',f',ps,ss,k,rfl,h,hq⟩:=h
    rfl
  · unfold r0r at h
    obtain ⟨full,mark,ws,price,s',f',ps,ss,k,rfl,h,hq⟩:=h
    rw [show p4 ["_law_part_here","_law_drawn_here","_law_sort","_law_row","_law_stand","_law_first","_law_prices","_law_shut_here","_law_due","_law_rows","_law_found","_law_error"] _=[.val _,.val _,.val _,.no,.no,.no,.no,.no,.no,.no,.no,.no] from rfl]
    unfold s0x
    walk_at "dn"
    refine ⟨full,mark,ws,price,s',f',ps,ss,rfl,h.ok,h.s1,h.s2,h.f1,h.f2,h.pl,h.p,?_⟩
    refine ⟨fun m hm=>?_,fun hno=>?_⟩
    · dsimp only
      refine ⟨by decide,?_⟩
      split
      · refine ⟨full,mark,ws,price,_,_,_,_,rfl,h.ok,rfl,rfl,plain_ints2.2,plain_ints2.2,fun e=>?_,fun _ e=>?_,fun _ _ e=>?_,fun s0 f0 ps' ss' e1 e2 e3 e4 _ _ _ _ _ _ _ _=>?_⟩
        · rw [i4 h.s1 h.s2] at e; cases e
        · rw [i4 h.f1 h.f2] at e; cases e
        · rcases e with e | e
          · rw [(d0u h.pl h.p).2] at e; cases e
          · rw [h.sh.ris.2] at e; cases e
        cases e1
        cases e2
        obtain rfl:=m8 e3 rfl
        obtain rfl:=m8 e4 rfl
        refine ⟨fun m' hm'=>?_,fun hno=>absurd hm.1.choose_spec (hno _ _)⟩
        obtain rfl:=p0m hm hm'
        rw [o6,o6,z0h,z0h,decide_eq_true rfl,decide_eq_true rfl]
        refine ⟨rfl,?_⟩
        simp only [Bool.not_true,Bool.false_eq_true,if_false]
        refine ⟨rfl,?_⟩
        simp only [Bool.not_false,if_true]
        refine ⟨rfl,?_⟩
        have hd:decide True=true:=rfl
        simp only [hd]
        show (if u0t (.int m)=true then q (.bl true) δ else q (.bl false) δ)
        rw [if_pos (show u0t (.int m)=true from rfl)]
        exact hq
      · refine ⟨full,mark,ws,price,_,_,_,_,rfl,h.ok,rfl,rfl,plain_ints2.1,plain_ints2.1,fun e=>?_,fun _ e=>?_,fun _ _ e=>?_,fun s0 f0 ps' ss' e1 e2 e3 e4 _ _ _ _ _ _ _ _=>?_⟩
        · rw [i4 h.s1 h.s2] at e; cases e
        · rw [i4 h.f1 h.f2] at e; cases e
        · rcases e with e | e
          · rw [(d0u h.pl h.p).1] at e; cases e
          · rw [h.sh.ris.1] at e; cases e
        cases e1
        cases e2
        obtain rfl:=m8 e3 rfl
        obtain rfl:=m8 e4 rfl
        refine ⟨fun m' hm'=>?_,fun hno=>absurd hm.1.choose_spec (hno _ _)⟩
        obtain rfl:=p0m hm hm'
        rw [o6,o6,z0h,z0h,decide_eq_true rfl,decide_eq_true rfl]
        refine ⟨rfl,?_⟩
        simp only [Bool.not_true,Bool.false_eq_true,if_false]
        refine ⟨rfl,?_⟩
        simp only [Bool.not_false,if_true]
        refine ⟨rfl,?_⟩
        have hd:decide True=true:=rfl
        simp only [hd]
        show (if u0t (.int m)=true then q (.bl true) δ else q (.bl false) δ)
        rw [if_pos (show u0t (.int m)=true from rfl)]
        exact hq
    · dsimp only
      refine ⟨by decide,?_⟩
      split
      · refine ⟨full,mark,ws,price,_,_,_,_,rfl,h.ok,rfl,rfl,plain_ints2.2,plain_ints2.2,fun e=>?_,fun _ e=>?_,fun _ _ e=>?_,fun s0 f0 ps' ss' e1 e2 e3 e4 _ _ _ _ _ _ _ _=>?_⟩
        · rw [i4 h.s1 h.s2] at e; cases e
        · rw [i4 h.f1 h.f2] at e; cases e
        · rcases e with e | e
          · rw [(d0u h.pl h.p).2] at e; cases e
          · rw [h.sh.ris.2] at e; cases e
        cases e1
        cases e2
        obtain rfl:=m8 e3 rfl
        obtain rfl:=m8 e4 rfl
        refine ⟨fun m' hm'=>absurd hm'.1.choose_spec (hno _ _),fun _=>?_⟩
        dsimp only
        rw [z0b T]
        simp only [if_true,z0a T z6]
        exact ⟨(T.err _ z6).xc,_,_,_,rfl,z6,hq⟩
      · refine ⟨full,mark,ws,price,_,_,_,_,rfl,h.ok,rfl,rfl,plain_ints2.1,plain_ints2.1,fun e=>?_,fun _ e=>?_,fun _ _ e=>?_,fun s0 f0 ps' ss' e1 e2 e3 e4 _ _ _ _ _ _ _ _=>?_⟩
        · rw [i4 h.s1 h.s2] at e; cases e
        · rw [i4 h.f1 h.f2] at e; cases e
        · rcases e with e | e
          · rw [(d0u h.pl h.p).1] at e; cases e
          · rw [h.sh.ris.1] at e; cases e
        cases e1
        cases e2
        obtain rfl:=m8 e3 rfl
        obtain rfl:=m8 e4 rfl
        refine ⟨fun m' hm'=>absurd hm'.1.choose_spec (hno _ _),fun _=>?_⟩
        dsimp only
        rw [z0b T]
        simp only [if_true,z0a T z6]
        exact ⟨(T.err _ z6).xc,_,_,_,rfl,z6,hq⟩
noncomputable def g0j (cs:Cs):Sp2:=fun ds δ q _=>∃ full mark ws price d f pr sh,ds=[m7 cs full mark ws price,d,f,pr,sh]∧SpecOk full mark ws price∧u5 d=true∧u5 f=true∧o5 pr=true∧o5 sh=true ∧
  (b3 d mark full=false→q (.str "stands") δ)∧(b3 d mark full=true→b3 f 0 47=false→q (.str "rounds") δ)∧(b3 d mark full=true→b3 f 0 47=true→(v7 pr 0 24 0 9999=false∨risD sh 0 47=false)∧q (.str "paper") δ)
theorem w0l (T:Txt K mg cs) {C C':Addr} {fs:List (Str×D)} (h:C∈cs.ds) (h':C'∈cs.ds) (n:¬ C=C'):u0c K (.exc C fs) (.ref C')=some false:=((T.err C h).own (T.err C' h') (T.ne C' h')).trans (congrArg some (decide_eq_false fun z=>n z.symm))
noncomputable abbrev y0p:List Str:=["_law_part_here","_law_stand","_law_first","_law_prices","_law_shut_here"]
theorem sc_law_word:FnScope ["_law_part_here","_law_stand","_law_first","_law_prices","_law_shut_here","_law_error"] y0p (defScope w0t):=⟨rfl,rfl,rfl,by decide +kernel,rfl,by decide +kernel,by decide +kernel⟩
noncomputable abbrev w0k (P:Program) (w:World) (K:PySem.W.Frag) (mg:Str→Option Value) (base:Heap) (cs:Cs):Prop:=Fun2 P w K mg base "_law_word" 8 y0p (g0j cs)
theorem n0c {f:Addr} {fd:FuncData} (Df:DefAt K mg "_law_word" w0t y0p f fd) (T:Txt K mg cs) (G_single_least:d6 P w K mg base cs) (G_law_is_just:i7 P w K mg base cs):w0k P w K mg base cs:=by
  have nd:=sc_law_word.nd
  refine def2 Df sc_law_word (fun ds δ q x h=>?_) (fun cdv A outer s H E Y hr=>⟨_,(j0 (c0w ⟨rfl,rfl⟩ (fun _ _=>(d0 (w8 (u3 G_single_least (hr.mono (by decide)) m0m (z0 (e2_v 0) (z0 (e2_v 1) (z0 (e2_v 2) (z0 (e2_v 3) (z0 (e2_v 4) o0))))))))) (c0s K 5 ⟨rfl,rfl⟩ T.h_WearError T.c_WearError nd (fun _=>(j0 (v6 (y7 (x0n G_law_is_just (hr.u.mono (by decide)).mark t0d (z0 (e2_v 5) (z0 (e2_b w4 (b5 (K:=K)) T.n_isinstance x3 (z0 (e2_v 5) (z0 (z0n T.c_NoStands) o0))) o0)))) (d0 (u4 z7)) x5)
      (j0 (v6 (y7 (x0n G_law_is_just (hr.u.mono (by decide)).mark t0d (z0 (e2_v 5) (z0 (e2_b w4 (b5 (K:=K)) T.n_isinstance x3 (z0 (e2_v 5) (z0 (z0n T.c_NoRounds) o0))) o0)))) (d0 (u4 z7)) x5)
      (d0 (v6 (y7 (x0n G_law_is_just (hr.u.mono (by decide)).mark t0d (z0 (e2_v 5) (z0 (e2_b w4 (b5 (K:=K)) T.n_isinstance x3 (z0 (e2_v 5) (z0 (z0n T.c_NoPaper) o0))) o0)))) (d0 (u4 z7)) x5))))) c0x))
      (d0 (u4 z7))),fun ds δ q x h=>?_⟩)
  · unfold g0j at h
    obtain ⟨full,mark,ws,price,d,f',pr,sh,rfl,ok,hd,hf,hpr,hsh,h1,h2,h3⟩:=h
    rfl
  · unfold g0j at h
    obtain ⟨full,mark,ws,price,d,f',pr,sh,rfl,ok,hd,hf,hpr,hsh,h1,h2,h3⟩:=h
    rw [show p4 ["_law_part_here","_law_stand","_law_first","_law_prices","_law_shut_here","_law_error"] _=[.val _,.val _,.val _,.val _,.val _,.no] from rfl]
    walk_at "dn"
    refine ⟨full,mark,ws,price,_,_,_,_,rfl,ok,hd,hf,hpr,hsh,fun e=>?_,fun e1 e=>?_,fun e1 e2 e=>?_,fun s0 f0 ps' ss' e1 e2 e3 e4 m1 m2 m3 m4 _ _ p1 p2=>?_⟩
    · dsimp only
      rw [t0w T]
      simp only [if_true,z0a T j6]
      refine ⟨(T.err _ j6).xc,_,_,_,rfl,j6,?_⟩
      simp only [if_true]
      exact h1 e
    · dsimp only
      rw [t0v T]
      simp only [if_true,(w0l T a5 j6 (y1z T.nd 3 2 rfl rfl (by decide)))]
      refine ⟨(T.err _ a5).xc,_,_,_,rfl,a5,?_⟩
      simp only [Bool.false_eq_true,if_false,z0a T a5]
      refine ⟨(T.err _ a5).xc,_,_,_,rfl,a5,?_⟩
      simp only [if_true]
      exact h2 e1 e
    · dsimp only
      rw [r0s T]
      simp only [if_true,(w0l T j5 j6 (y1z T.nd 9 2 rfl rfl (by decide)))]
      refine ⟨(T.err _ j5).xc,_,_,_,rfl,j5,?_⟩
      simp only [Bool.false_eq_true,if_false,(w0l T j5 a5 (y1z T.nd 9 3 rfl rfl (by decide)))]
      refine ⟨(T.err _ j5).xc,_,_,_,rfl,j5,?_⟩
      simp only [Bool.false_eq_true,if_false,z0a T j5]
      refine ⟨(T.err _ j5).xc,_,_,_,rfl,j5,?_⟩
      simp only [if_true]
      exact (h3 e1 e2).2
    · subst e1 e2
      rcases (h3 (i4 m1 m2) (i4 m3 m4)).1 with z | z
      · rw [p1] at z; cases z
      · rw [p2] at z; cases z
noncomputable def y1y:Sp2:=fun ds δ q _=>∃ p n,∃ (row:List Int) (ts:List D),ds=[.ref p,.lst (row.map D.int),.lst ts]∧row.length≤60∧ts.length≤10∧DkM p (n + 1) δ∧∀ (xs:List D) δ',(∀ x∈xs,∃ a b:List Int,∃ t∈ts,x=.lst (a.map D.int++[t]++b.map D.int))→xs.length≤10→DkM p n δ'→q (.lst xs) δ'
theorem cut_to {xs:List D} {k:Nat} (h:k≤xs.length):cutD xs none (some (k:Int))=xs.take k:=by
  unfold cutD
  rw [HT.sIx_nat,HT.sIx_none,Nat.min_eq_left h]
  rfl
theorem cut_hi {xs:List D} {k:Nat}:cutD xs (some ((k:Int) + 1)) none=xs.drop (k + 1):=by
  rw [show (k:Int) + 1=((k + 1:Nat):Int) by omega]
  unfold cutD
  rw [HT.sIx_nat,HT.sIx_none]
  by_cases h:k + 1≤xs.length
  · rw [Nat.min_eq_left h,List.take_of_length_le (by rw [List.length_drop]; omega)]
  · rw [Nat.min_eq_right (by omega),List.drop_eq_nil_of_le (Nat.le_refl _),List.drop_eq_nil_of_le (by omega),List.take_nil]
noncomputable abbrev x0j:List Str:=["_law_deck_here","_law_row","_law_things"]
theorem sc_law_put:FnScope ["_law_deck_here","_law_row","_law_things","_law_at","_law_found","_law_thing"] x0j (defScope u0u):=⟨rfl,rfl,rfl,by decide +kernel,rfl,by decide +kernel,by decide +kernel⟩
noncomputable abbrev u0i (P:Program) (w:World) (K:PySem.W.Frag) (mg:Str→Option Value) (base:Heap) (cs:Cs):Prop:=Fun2 P w K mg base "_law_put" 3 x0j y1y
theorem k0q {f:Addr} {fd:FuncData} (Df:DefAt K mg "_law_put" u0u x0j f fd) (T:Txt K mg cs) (G_law_next:a7 P w K mg base cs):u0i P w K mg base cs:=by
  have nd:=sc_law_put.nd
  refine def2 Df sc_law_put (fun ds δ q x h=>?_) (fun cdv A outer s H E Y hr=>⟨_,(j0 (a3 3 nd (j3 d4 y6 (u3 G_law_next (hr.mono (by decide)) i0 (z0 (e2_v 0) o0)) (j3 x4 j4 (u9 1 T.n_len) l0)))
      (j0 (t0e 4 nd o0)
      (j0 (z0x PassesOwn.leaving rfl (w0g (e2_v 2)) (n4 (i:=5) nd rfl (by first | exact Or.inl rfl | exact Or.inr rfl)) (z0l (i:=5)) (d0 (w8 (o0s 4 PySem.F.slot_list_append PySem.F.type_list_append z8 s9 (z0 (j3 x4 j4 (j3 x4 j4 (s0d (e2_v 1) o0o (o0n (e2_v 3))) (o4 (z0 (e2_v 5) o0))) (s0d (e2_v 1) (o0n (j3 x4 j4 (e2_v 3) l0)) o0o)) o0)))))
      (d0 (u4 (e2_v 4)))))),fun ds δ q x h=>?_⟩)
  · unfold y1y at h
    obtain ⟨p,n,row,ts,rfl,hr1,ht1,hD,hq⟩:=h
    rfl
  · unfold y1y at h
    obtain ⟨p,n,row,ts,rfl,hr1,ht1,hD,hq⟩:=h
    rw [show p4 ["_law_deck_here","_law_row","_law_things","_law_at","_law_found","_law_thing"] _=[.val _,.val _,.val _,.no,.no,.no] from rfl]
    walk_at "dn"
    refine ⟨p,n,rfl,hD,fun a0 δ1 a1 a2 hD=>?_⟩
    rw [List.length_map]
    have b1:=Int.emod_nonneg a0 (b:=(row.length:Int) + 1) (by omega)
    have b2:=Int.emod_lt_of_pos a0 (b:=(row.length:Int) + 1) (by omega)
    dsimp only
    obtain ⟨at_,hat⟩:∃ k:Nat,a0 % ((row.length:Int) + 1)=(k:Int):=⟨(a0 % ((row.length:Int) + 1)).toNat,by omega⟩
    rw [hat] at b2 ⊢
    refine ⟨by omega,?_⟩
    have hk:at_≤(row.map D.int).length:=by rw [List.length_map]; omega
    refine v8 (fun i ρ δ'=>∃ (xs:List D) (c5:Cell),ρ=[.val (.ref p),.val (.lst (row.map D.int)),.val (.lst ts),.val (.int (at_:Int)),.own xs,c5]∧δ'=δ1∧xs.length=i∧∀ x∈xs,∃ a b:List Int,∃ t∈ts,x=.lst (a.map D.int++[t]++b.map D.int)) ⟨[],_,rfl,rfl,rfl,fun x hx=>nomatch hx⟩ ?_ ?_
    · rintro i d ρ δ' rest hi ⟨xs,c5,rfl,rfl,hl,hx⟩ hrest
      have lt:=(List.getElem?_eq_some_iff.mp hi).1
      unfold x0d
      walk_at "dn"
      rw [cut_to hk,cut_hi,← List.map_take,← List.map_drop]
      simp only [List.length_append,List.length_map,List.length_take,List.length_drop,List.length_cons,List.length_nil]
      refine ⟨rfl,by omega,by omega,by omega,hrest _ _ ⟨_,_,rfl,rfl,by rw [List.length_append,hl]; rfl,fun x h=>?_⟩⟩
      rcases List.mem_append.mp h with h | h
      · exact hx x h
      · rw [List.mem_singleton.mp h]
        exact ⟨_,_,d,List.mem_of_getElem? hi,rfl⟩
    · rintro ρ δ' ⟨xs,c5,rfl,rfl,hl,hx⟩
      exact hq xs _ hx (by omega) hD
theorem c0e {a b:List Int} {t:D} {lo hi:Int} (hw:b3 t lo hi=false):(a.map D.int++[t]++b.map D.int).all (b3 · lo hi)=false:=by
  rw [Bool.eq_false_iff]
  intro h
  have:=List.all_eq_true.mp h t (List.mem_append_left _ (List.mem_append_right _ (List.mem_singleton.mpr rfl)))
  rw [hw] at this; cases this
theorem c0d {xs:List D} (h:xs.all (b3 · 0 9999)=false):v7 (.lst xs) 0 24 0 9999=false:=by
  unfold v7 rowD
  dsimp only
  rw [h,Bool.and_false]
theorem bad_sh {xs:List D} (h:xs.all (b3 · 0 47)=false):risD (.lst xs) 0 47=false:=by
  unfold risD v7 rowD
  dsimp only
  rw [h,Bool.and_false,Bool.false_and]
theorem p0h {a b:List Int} {t:D} (h:u5 t=true):o5 (.lst (a.map D.int++[t]++b.map D.int))=true:=by
  unfold o5 rowD
  dsimp only
  have:(a.map D.int++[t]++b.map D.int).all u5=true:=by
    rw [List.all_eq_true]
    intro d hd
    rcases List.mem_append.mp hd with hd | hd
    · rcases List.mem_append.mp hd with hd | hd
      · obtain ⟨z,_,rfl⟩:=List.mem_map.mp hd; rfl
      · rw [List.mem_singleton.mp hd]; exact h
    · obtain ⟨z,_,rfl⟩:=List.mem_map.mp hd; rfl
  rw [this]; rfl
noncomputable def BadP (d:D):Prop:=o5 d=true∧v7 d 0 24 0 9999=false
noncomputable def BadS (d:D):Prop:=o5 d=true∧risD d 0 47=false
noncomputable def g0i (cs:Cs):Sp2:=fun ds δ q _=>∃ p n full mark ws price s f ps ss,ds=[.ref p,m7 cs full mark ws price,s0x full mark ws price s f ps ss]∧DrOk full mark ws price s f ps ss∧DkM p (n + 2) δ∧∀ δ',DkM p n δ'→q (.bl true) δ'
theorem y1x {xs:List D} {k:Nat}:cutD xs none (some (k:Int))=xs.take k:=by
  unfold cutD
  rw [HT.sIx_nat,HT.sIx_none,List.drop_zero,Nat.sub_zero]
  by_cases h:k≤xs.length
  · rw [Nat.min_eq_left h]
  · rw [Nat.min_eq_right (by omega),List.take_length,List.take_of_length_le (by omega)]
noncomputable def rfR (cs:Cs) (p:Addr) (full mark:Int) (ws:List Int) (price s f:Int) (ps ss:List Int) (c8 c9:Cell):En:=[.val (.ref p),.val (m7 cs full mark ws price),.val (.lst [rowL full mark ws price,.int s,.int f,.lst (ps.map D.int),.lst (ss.map D.int)]),.val (rowL full mark ws price),.val (.int s),.val (.int f),.val (.lst (ps.map D.int)),.val (.lst (ss.map D.int)),c8,c9]
noncomputable def rT2 (cs:Cs):TS2:=fun E ρ δ=>∃ p n full mark ws price s f ps ss c8 c9,ρ=rfR cs p full mark ws price s f ps ss c8 c9∧DrOk full mark ws price s f ps ss∧DkM p (n + 2) δ∧∀ δ',DkM p n δ'→E.rt (.bl true) δ'
noncomputable def rT3 (cs:Cs):TS2:=rT2 cs
noncomputable def rT5 (cs:Cs):TS2:=fun E ρ δ=>∃ p n full mark ws price s f ps ss c8 xs,ρ=rfR cs p full mark ws price s f ps ss c8 (.val (.lst xs))∧DrOk full mark ws price s f ps ss∧DkM p (n + 1) δ∧(∀ x∈xs,BadP x)∧xs.length≤100∧∀ δ',DkM p n δ'→E.rt (.bl true) δ'
noncomputable def rT6 (cs:Cs):TS2:=fun E ρ δ=>∃ p n full mark ws price s f ps ss c8 c9,ρ=rfR cs p full mark ws price s f ps ss c8 c9∧DrOk full mark ws price s f ps ss∧DkM p (n + 1) δ∧∀ δ',DkM p n δ'→E.rt (.bl true) δ'
noncomputable def rT8 (cs:Cs):TS2:=fun E ρ δ=>∃ p n full mark ws price s f ps ss c8 xs,ρ=rfR cs p full mark ws price s f ps ss c8 (.val (.lst xs))∧DrOk full mark ws price s f ps ss∧DkM p n δ∧(∀ x∈xs,BadS x)∧∀ δ',DkM p n δ'→E.rt (.bl true) δ'
noncomputable abbrev d7:List Str:=["_law_deck_here","_law_part_here","_law_drawn_here"]
theorem sc_law_refused:FnScope ["_law_deck_here","_law_part_here","_law_drawn_here","_law_row","_law_stand","_law_first","_law_prices","_law_shut_here","_law_thing","_law_some"] d7 (defScope n9):=⟨rfl,rfl,rfl,by decide +kernel,rfl,by decide +kernel,by decide +kernel⟩
noncomputable abbrev z0y (P:Program) (w:World) (K:PySem.W.Frag) (mg:Str→Option Value) (base:Heap) (cs:Cs):Prop:=Fun2 P w K mg base "_law_refused" 9 d7 (g0i cs)
theorem t0u {f:Addr} {fd:FuncData} (Df:DefAt K mg "_law_refused" n9 d7 f fd) (T:Txt K mg cs) (G_law_no_stand:b8 P w K mg base cs) (G_law_word:w0k P w K mg base cs) (G_law_no_first:a8 P w K mg base cs) (G_law_put:u0i P w K mg base cs):z0y P w K mg base cs:=by
  have nd:=sc_law_refused.nd
  refine def2 Df sc_law_refused (fun ds δ q x h=>?_) (fun cdv A outer s H E Y hr=>⟨_,(j0 (c0q (e2_v 2) (c0l rfl (w5 (n4 (i:=3) nd rfl (by first | exact Or.inl rfl | exact Or.inr rfl)) (w5 (n4 (i:=4) nd rfl (by first | exact Or.inl rfl | exact Or.inr rfl)) (w5 (n4 (i:=5) nd rfl (by first | exact Or.inl rfl | exact Or.inr rfl)) (w5 (n4 (i:=6) nd rfl (by first | exact Or.inl rfl | exact Or.inr rfl)) (w5 (n4 (i:=7) nd rfl (by first | exact Or.inl rfl | exact Or.inr rfl)) x0i)))))) (c0k (is:=[3,4,5,6,7]) rfl))
      (j0 (z0x PassesOwn.leaving rfl (w0g (u3 G_law_no_stand (hr.mono (by decide)) i0 (z0 (e2_v 3) o0))) (n4 (i:=8) nd rfl (by first | exact Or.inl rfl | exact Or.inr rfl)) (z0l (i:=8)) (d0 (v6 (p5 (l0w hr.units0) e0n (u3 G_law_word (hr.mono (by decide)) i0 (z0 (e2_v 1) (z0 (e2_v 8) (z0 (t0h l0) (z0 l6 (z0 l6 o0)))))) z7 (z5 _)) (d0 (u4 z0v)) x5)))
      (y0k (t':=rT2 cs) (j0 (z0x PassesOwn.leaving rfl (w0g (f0a G_law_no_first (hr.mono (by decide)) i0)) (n4 (i:=8) nd rfl (by first | exact Or.inl rfl | exact Or.inr rfl)) (z0l (i:=8)) (d0 (v6 (p5 (l0w hr.units0) e0n (u3 G_law_word (hr.mono (by decide)) i0 (z0 (e2_v 1) (z0 (e2_v 4) (z0 (e2_v 8) (z0 l6 (z0 l6 o0)))))) z7 (z5 _)) (d0 (u4 z0v)) x5)))
      (y0k (t':=rT3 cs) (j0 (a3 9 nd (o4 (z0 l6 (z0 l0 (z0 z0v (z0 z7 (z0 x0f (z0 (o4 (z0 l6 o0)) (z0 (o4 (z0 (t0h l0) o0)) (z0 (o4 (z0 l0 o0)) (z0 (o4 (z0 z0v o0)) (z0 (o4 (z0 z7 o0)) o0))))))))))))
      (j0 (a3 9 nd (j3 x4 j4 (e2_v 9) (u3 G_law_put (hr.mono (by decide)) i0 (z0 (e2_v 0) (z0 (s0d (e2_v 6) o0o (o0n l0)) (z0 (o4 (z0 l6 (z0 (t0h l0) (z0 l0 (z0 z0v (z0 z7 (z0 (o4 (z0 l0 o0)) (z0 x0f o0)))))))) o0))))))
      (y0k (t':=rT5 cs) (j0 (z0x PassesOwn.leaving rfl (w0g (j3 x4 j4 (e2_v 9) (o4 (z0 (j3 d0j d_rep (o4 (z0 l0 o0)) l0) (z0 (o4 (z0 (o4 (z0 l0 o0)) o0)) o0))))) (n4 (i:=8) nd rfl (by first | exact Or.inl rfl | exact Or.inr rfl)) (z0l (i:=8)) (d0 (v6 (p5 (l0w hr.units0) e0n (u3 G_law_word (hr.mono (by decide)) i0 (z0 (e2_v 1) (z0 (e2_v 4) (z0 (e2_v 5) (z0 (e2_v 8) (z0 (e2_v 7) o0)))))) z7 (z5 _)) (d0 (u4 z0v)) x5)))
      (y0k (t':=rT6 cs) (j0 (a3 9 nd (o4 (z0 l6 (z0 l0 (z0 z0v (z0 z7 (z0 x0f (z0 (o4 (z0 (t0h l0) o0)) (z0 (o4 (z0 l0 o0)) (z0 (o4 (z0 l0 (z0 l0 o0))) (z0 (o4 (z0 l0 (z0 l0 o0))) (z0 (o4 (z0 z0v o0)) (z0 (o4 (z0 z7 o0)) (z0 (o4 (z0 l6 o0)) (z0 (o4 (z0 (o4 (z0 l0 o0)) o0)) o0)))))))))))))))
      (j0 (a3 9 nd (j3 x4 j4 (e2_v 9) (u3 G_law_put (hr.mono (by decide)) i0 (z0 (e2_v 0) (z0 (e2_v 7) (z0 (o4 (z0 l6 (z0 (t0h l0) (z0 l0 (z0 z0v (z0 z7 (z0 (o4 (z0 l0 o0)) (z0 x0f o0)))))))) o0))))))
      (y0k (t':=rT8 cs) (j0 (z0x PassesOwn.leaving rfl (w0g (e2_v 9)) (n4 (i:=8) nd rfl (by first | exact Or.inl rfl | exact Or.inr rfl)) (z0l (i:=8)) (d0 (v6 (p5 (l0w hr.units0) e0n (u3 G_law_word (hr.mono (by decide)) i0 (z0 (e2_v 1) (z0 (e2_v 4) (z0 (e2_v 5) (z0 (e2_v 6) (z0 (e2_v 8) o0)))))) z7 (z5 _)) (d0 (u4 z0v)) x5)))
      (d0 (u4 (t0i (z0w hr.units0) w0c (u3 G_law_word (hr.mono (by decide)) i0 (z0 (e2_v 1) (z0 (e2_v 4) (z0 (e2_v 5) (z0 (j3 x4 j4 (e2_v 6) (j3 d0j d_rep (o4 (z0 l6 o0)) l0)) (z0 (e2_v 7) o0)))))) z7 (z5 _))))) (by
          rintro E ρ δ ⟨p,n,full,mark,ws,price,s',f',ps,ss,c8,xs0,rfl,h,hD,hx,hq⟩
          unfold rfR
          have w1:=i4 h.s1 h.s2
          have w2:=i4 h.f1 h.f2
          walk_at "dn"
          refine v8 (fun i ρ δ2=>∃ c,ρ=[.val (.ref p),.val (m7 cs full mark ws price),.val (.lst [rowL full mark ws price,.int s',.int f',.lst (ps.map D.int),.lst (ss.map D.int)]),.val (rowL full mark ws price),.val (.int s'),.val (.int f'),.val (.lst (ps.map D.int)),.val (.lst (ss.map D.int)),c,.val (.lst xs0)]∧δ2=δ) ⟨_,rfl,rfl⟩ ?_ ?_
          · rintro i d ρ δ2 rest hi ⟨c,rfl,rfl⟩ hrest
            have hm:=List.mem_of_getElem? hi
            unfold x0d
            walk_at "dn"
            obtain ⟨o1,o2⟩:=hx d hm
            refine ⟨full,mark,ws,price,_,_,_,_,rfl,h.ok,rfl,rfl,plain_ints2.1,o1,(fun e=>by rw [w1] at e; cases e),(fun _ e=>by rw [w2] at e; cases e),fun _ _=>⟨.inr o2,?_⟩⟩
            · walk_at "dn"
              exact hrest _ _ ⟨_,rfl,rfl⟩
          · rintro ρ δ2 ⟨c,rfl,rfl⟩
            walk_at "dn"
            have hpl:=h.pl
            have e:ps.map D.int++(List.replicate (Int.toNat 3) [D.non]).flatten=ps.map D.int++[D.non]++[D.non,D.non]:=by rw [List.append_assoc]; rfl
            have el:(List.replicate (Int.toNat 3) [D.non]).flatten.length=3:=rfl
            refine ⟨by decide,by decide,by decide,by rw [List.length_map,el]; omega,?_⟩
            rw [e]
            have tp:(ps.map D.int++[D.non]++[D.non,D.non]).all u5=true:=by
              rw [List.all_eq_true]
              intro d hd
              rcases List.mem_append.mp hd with hd | hd
              · rcases List.mem_append.mp hd with hd | hd
                · obtain ⟨z,_,rfl⟩:=List.mem_map.mp hd; rfl
                · rw [List.mem_singleton.mp hd]; rfl
              · simp only [List.mem_cons,List.not_mem_nil,or_false] at hd
                rcases hd with rfl | rfl <;> rfl
            have tb:(ps.map D.int++[D.non]++[D.non,D.non]).all (b3 · 0 9999)=false:=by
              rw [Bool.eq_false_iff]
              intro h
              have:=List.all_eq_true.mp h D.non (List.mem_append_left _ (List.mem_append_right _ (List.mem_singleton.mpr rfl)))
              cases this
            refine ⟨full,mark,ws,price,_,_,_,_,rfl,h.ok,rfl,rfl,?_,plain_ints2.1,(fun e=>by rw [w1] at e; cases e),(fun _ e=>by rw [w2] at e; cases e),fun _ _=>⟨.inl (c0d tb),?_⟩⟩
            · unfold o5 rowD
              dsimp only
              rw [tp]; rfl
            · walk_at "dn"
              exact hq _ hD)))) (by
          rintro E ρ δ ⟨p,n,full,mark,ws,price,s',f',ps,ss,c8,c9,rfl,h,hD,hq⟩
          unfold rfR
          have w1:=i4 h.s1 h.s2
          have w2:=i4 h.f1 h.f2
          walk_at "dn"
          have hsl:=h.sh.l
          refine ⟨p,n,ss,_,rfl,by omega,by decide,hD,fun xs δ1 hx hxl hD=>?_⟩
          walk_at "dn"
          refine ⟨by first | omega | (simp; omega),?_⟩
          refine ⟨p,n,full,mark,ws,price,s',f',ps,ss,_,_,rfl,h,hD,fun x hm=>?_,hq⟩
          have hm:x∈[D.non,D.int 5,D.bl true,D.str (Str.ofString "ab"),D.dic [],D.lst [D.int (-1)],D.lst [D.int 48],D.lst [D.int 3,D.int 3],D.lst [D.int 4,D.int 2],D.lst [D.bl true],D.lst [D.str (Str.ofString "1")],D.lst [D.non],D.lst [D.lst [D.int 0]]]++xs:=hm
          rcases List.mem_append.mp hm with hm | hm
          · simp only [List.mem_cons,List.not_mem_nil,or_false] at hm
            rcases hm with rfl | rfl | rfl | rfl | rfl | rfl | rfl | rfl | rfl | rfl | rfl | rfl | rfl
            all_goals exact ⟨rfl,rfl⟩
          · obtain ⟨a,b,t,ht,rfl⟩:=hx x hm
            obtain ⟨t1,t2⟩:u5 t=true∧b3 t 0 47=false:=by
              simp only [List.mem_cons,List.not_mem_nil,or_false] at ht
              rcases ht with rfl | rfl | rfl | rfl | rfl | rfl | rfl
              all_goals exact ⟨rfl,rfl⟩
            exact ⟨p0h t1,bad_sh (c0e t2)⟩))) (by
          rintro E ρ δ ⟨p,n,full,mark,ws,price,s',f',ps,ss,c8,xs0,rfl,h,hD,hx0,hxl,hq⟩
          unfold rfR
          have w1:=i4 h.s1 h.s2
          have w2:=i4 h.f1 h.f2
          walk_at "dn"
          refine ⟨by decide,by decide,by decide,by first | omega | (simp; omega),?_⟩
          have hx:∀ x∈xs0++[D.lst (List.replicate (Int.toNat 25) [D.int 0]).flatten,D.lst [D.lst [D.int 0]]],BadP x:=fun x hm=>by
            rcases List.mem_append.mp hm with hm | hm
            · exact hx0 x hm
            · simp only [List.mem_cons,List.not_mem_nil,or_false] at hm
              rcases hm with rfl | rfl
              all_goals exact ⟨rfl,rfl⟩
          refine v8 (fun i ρ δ2=>∃ c,ρ=[.val (.ref p),.val (m7 cs full mark ws price),.val (.lst [rowL full mark ws price,.int s',.int f',.lst (ps.map D.int),.lst (ss.map D.int)]),.val (rowL full mark ws price),.val (.int s'),.val (.int f'),.val (.lst (ps.map D.int)),.val (.lst (ss.map D.int)),c,.val (.lst xs0)]∧δ2=δ) ⟨_,rfl,rfl⟩ ?_ ?_
          · rintro i d ρ δ2 rest hi ⟨c,rfl,rfl⟩ hrest
            have hm:=List.mem_of_getElem? hi
            unfold x0d
            walk_at "dn"
            obtain ⟨o1,o2⟩:=hx d hm
            refine ⟨full,mark,ws,price,_,_,_,_,rfl,h.ok,rfl,rfl,o1,plain_ints2.1,(fun e=>by rw [w1] at e; cases e),(fun _ e=>by rw [w2] at e; cases e),fun _ _=>⟨.inl o2,?_⟩⟩
            · walk_at "dn"
              exact hrest _ _ ⟨_,rfl,rfl⟩
          · rintro ρ δ2 ⟨c,rfl,rfl⟩
            exact ⟨p,n,full,mark,ws,price,s',f',ps,ss,_,_,rfl,h,hD,hq⟩)))) (by
          rintro E ρ δ ⟨p,n,full,mark,ws,price,s',f',ps,ss,c8,c9,rfl,h,hD,hq⟩
          unfold rfR
          have w1:=i4 h.s1 h.s2
          have w2:=i4 h.f1 h.f2
          walk_at "dn"
          have hpl:=h.pl
          have e23:cutD (ps.map D.int) none (some 23)=(ps.take 23).map D.int:=by rw [List.map_take]; exact y1x (k:=23)
          rw [e23]
          refine ⟨p,n + 1,ps.take 23,_,rfl,by rw [List.length_take]; omega,by decide,hD,fun xs δ1 hx hxl hD=>?_⟩
          walk_at "dn"
          refine ⟨by first | omega | (simp; omega),?_⟩
          refine ⟨p,n,full,mark,ws,price,s',f',ps,ss,_,_,rfl,h,hD,fun x hm=>?_,by first | omega | (simp; omega),hq⟩
          have hm:x∈[D.non,D.int 5,D.bl true,D.str (Str.ofString "ab"),D.dic [],D.lst [D.non],D.lst [D.int (-1)],D.lst [D.int 10000],D.lst [D.bl true],D.lst [D.str (Str.ofString "1")]]++xs:=hm
          rcases List.mem_append.mp hm with hm | hm
          · simp only [List.mem_cons,List.not_mem_nil,or_false] at hm
            rcases hm with rfl | rfl | rfl | rfl | rfl | rfl | rfl | rfl | rfl | rfl
            all_goals exact ⟨rfl,rfl⟩
          · obtain ⟨a,b,t,ht,rfl⟩:=hx x hm
            obtain ⟨t1,t2⟩:u5 t=true∧b3 t 0 9999=false:=by
              simp only [List.mem_cons,List.not_mem_nil,or_false] at ht
              rcases ht with rfl | rfl | rfl | rfl | rfl | rfl | rfl
              all_goals exact ⟨rfl,rfl⟩
            exact ⟨p0h t1,c0d (c0e t2)⟩))) (by
          rintro E ρ δ ⟨p,n,full,mark,ws,price,s',f',ps,ss,c8,c9,rfl,h,hD,hq⟩
          unfold rfR
          have w1:=i4 h.s1 h.s2
          have w2:=i4 h.f1 h.f2
          walk_at "dn"
          refine fun xs hxs=>?_
          dsimp only
          refine v8 (fun i ρ δ2=>∃ c,ρ=[.val (.ref p),.val (m7 cs full mark ws price),.val (.lst [rowL full mark ws price,.int s',.int f',.lst (ps.map D.int),.lst (ss.map D.int)]),.val (rowL full mark ws price),.val (.int s'),.val (.int f'),.val (.lst (ps.map D.int)),.val (.lst (ss.map D.int)),c,c9]∧δ2=δ) ⟨_,rfl,rfl⟩ ?_ ?_
          · rintro i d ρ δ2 rest hi ⟨c,rfl,rfl⟩ hrest
            have hm:=List.mem_of_getElem? hi
            unfold x0d
            walk_at "dn"
            obtain ⟨o1,o2⟩:=hxs d hm
            refine ⟨full,mark,ws,price,_,_,_,_,rfl,h.ok,rfl,o1,rfl,rfl,(fun e=>by rw [w1] at e; cases e),fun _ _=>?_,(fun _ e=>by rw [o2] at e; cases e)⟩
            · walk_at "dn"
              exact hrest _ _ ⟨_,rfl,rfl⟩
          · rintro ρ δ2 ⟨c,rfl,rfl⟩
            exact ⟨p,n,full,mark,ws,price,s',f',ps,ss,_,_,rfl,h,hD,hq⟩)))),fun ds δ q x h=>?_⟩)
  · unfold g0i at h
    obtain ⟨p,n,full,mark,ws,price,s',f',ps,ss,rfl,h,hD,hq⟩:=h
    rfl
  · unfold g0i at h
    obtain ⟨p,n,full,mark,ws,price,s',f',ps,ss,rfl,h,hD,hq⟩:=h
    rw [show p4 ["_law_deck_here","_law_part_here","_law_drawn_here","_law_row","_law_stand","_law_first","_law_prices","_law_shut_here","_law_thing","_law_some"] _=[.val _,.val _,.val _,.no,.no,.no,.no,.no,.no,.no] from rfl]
    have w1:=i4 h.s1 h.s2
    have w2:=i4 h.f1 h.f2
    unfold s0x
    walk_at "dn"
    refine ⟨_,_,_,_,rfl,h.ok,fun xs hxs=>?_⟩
    walk_at "dn"
    refine v8 (fun i ρ δ2=>∃ c,ρ=[.val (.ref p),.val (m7 cs full mark ws price),.val (.lst [rowL full mark ws price,.int s',.int f',.lst (ps.map D.int),.lst (ss.map D.int)]),.val (rowL full mark ws price),.val (.int s'),.val (.int f'),.val (.lst (ps.map D.int)),.val (.lst (ss.map D.int)),c,.no]∧δ2=δ) ⟨_,rfl,rfl⟩ ?_ ?_
    · rintro i d ρ δ2 rest hi ⟨c,rfl,rfl⟩ hrest
      have hm:=List.mem_of_getElem? hi
      unfold x0d
      walk_at "dn"
      obtain ⟨o1,o2⟩:=hxs d hm
      refine ⟨full,mark,ws,price,_,_,_,_,rfl,h.ok,o1,rfl,rfl,rfl,fun _=>?_,(fun e=>by rw [o2] at e; cases e),(fun e=>by rw [o2] at e; cases e)⟩
      · walk_at "dn"
        exact hrest _ _ ⟨_,rfl,rfl⟩
    · rintro ρ δ2 ⟨c,rfl,rfl⟩
      exact ⟨p,n,full,mark,ws,price,s',f',ps,ss,_,_,rfl,h,hD,hq⟩
noncomputable abbrev g0h:List Str:=["_law_script"]
theorem sc_law:FnScope ["_law_script","_law_deck_here","_law_drawn_here","_law_second","_law_part_here","_law_other"] g0h (defScope z1f):=⟨rfl,rfl,rfl,by decide +kernel,rfl,by decide +kernel,by decide +kernel⟩
theorem ok_law {f:Addr} {fd:FuncData} (Df:DefAt K mg "law" z1f g0h f fd) (T:Txt K mg cs) (G_law_deck:w0r P w K mg base cs) (G_law_drawn:x0v P w K mg base cs) (G_law_made:w0o P w K mg base cs) (G_law_right:x0u P w K mg base cs) (G_law_refused:z0y P w K mg base cs):FnOk P w K mg base (CX1 P w) 10 f fd g0h (upF K l0b):=by
  have nd:=sc_law.nd
  refine def2F Df sc_law (fun ds δ q x h=>?_) (fun cdv A outer s H E Y hr=>⟨_,(j0 (a3 1 nd (u3 G_law_deck (hr.mono (by decide)) i0 (z0 (e2_v 0) (z0 l0 o0))))
      (j0 (a3 2 nd (u3 G_law_drawn (hr.mono (by decide)) i0 (z0 (e2_v 1) o0)))
      (j0 (a3 3 nd (u3 G_law_drawn (hr.mono (by decide)) i0 (z0 (e2_v 1) o0)))
      (j0 (a3 4 nd (u3 G_law_made (hr.mono (by decide)) i0 (z0 (m5 2 l0) (z0 l0 o0))))
      (j0 (a3 5 nd (u3 G_law_made (hr.mono (by decide)) i0 (z0 (m5 3 l0) (z0 l0 o0))))
      (j0 (v6 (PW2.pt (i0x (x8 (y7 (u3 G_law_right (hr.mono (by decide)) i0 (z0 (e2_v 4) (z0 (e2_v 2) (z0 l0 o0)))))) (q0v (x8 (y7 (u3 G_law_right (hr.mono (by decide)) i0 (z0 (e2_v 5) (z0 (e2_v 3) (z0 l0 o0))))))))) (d0 (u4 z0v)) x5)
      (d0 (u4 (w0i (u3 G_law_refused (hr.mono (by decide)) i0 (z0 (e2_v 1) (z0 (e2_v 4) (z0 (e2_v 2) o0)))) (v0g (u3 G_law_right (hr.mono (by decide)) i0 (z0 (e2_v 4) (z0 (e2_v 2) (z0 l0 o0)))))))))))))),fun ds δ q x h=>?_⟩)
  · unfold l0b at h
    obtain ⟨ns,rfl,hn,rfl,hq⟩:=h
    rfl
  · unfold l0b at h
    obtain ⟨ns,rfl,hn,rfl,hq⟩:=h
    rw [show p4 ["_law_script","_law_deck_here","_law_drawn_here","_law_second","_law_part_here","_law_other"] _=[.val _,.no,.no,.no,.no,.no] from rfl]
    walk_at "dn"
    refine ⟨ns,110,rfl,rfl,hn,by decide,by decide,fun p δ1 hD=>?_⟩
    walk_at "dn"
    refine ⟨p,63,rfl,hD,fun full mark ws price s' f' ps ss δ2 ok hD=>?_⟩
    refine ⟨p,16,rfl,hD,fun full' mark' ws' price' s2 f2 ps' ss' δ3 ok' hD=>?_⟩
    unfold s0x
    walk_at "dn"
    refine ⟨_,_,_,_,_,rfl,ok.ok,?_⟩
    walk_at "dn"
    refine ⟨_,_,_,_,_,rfl,ok'.ok,?_⟩
    walk_at "dn"
    refine ⟨_,_,_,_,_,_,_,_,_,rfl,ok,?_⟩
    walk_at "dn"
    refine ⟨_,_,_,_,_,_,_,_,_,rfl,ok',?_⟩
    walk_at "dn"
    refine ⟨p,14,_,_,_,_,_,_,_,_,rfl,ok,hD,fun δ4 hD=>?_⟩
    walk_at "dn"
    exact ⟨_,_,_,_,_,_,_,_,_,rfl,ok,hq _⟩
theorem t0t:FnScope ["self","at"] ["self","at"] (defScope m9):=⟨rfl,rfl,rfl,by decide +kernel,rfl,by decide +kernel,by decide +kernel⟩
theorem t0s {f C:Addr} {fd:FuncData} (F:Fun K "__init__" "NoPart.__init__" m9 f fd) (xc:XC K C) (n0:NoAttr K C "at"):FnOk P w K mg base CX0 1 f fd ["self","at"] (spXI C "at"):=by
  refine F.ok t0t (fun vs H Q E h=>?_) (fun cdv A outer s H vs Q E hr h=>⟨_,z0t (o0v (pv 0) (pv 1) rfl),?_⟩)
  · obtain ⟨x,v,rfl,_⟩:=h; rfl
  · obtain ⟨x,v,rfl,hx,q⟩:=h
    exact ⟨_,rfl,_,rfl,x,C,rfl,hx,xc,n0,fun d hd hne=>q d hd hne⟩
theorem u0h:FnScope ["self","at"] ["self","at"] (defScope d8):=⟨rfl,rfl,rfl,by decide +kernel,rfl,by decide +kernel,by decide +kernel⟩
theorem u0g {f C:Addr} {fd:FuncData} (F:Fun K "__init__" "NoWorks.__init__" d8 f fd) (xc:XC K C) (n0:NoAttr K C "at"):FnOk P w K mg base CX0 1 f fd ["self","at"] (spXI C "at"):=by
  refine F.ok u0h (fun vs H Q E h=>?_) (fun cdv A outer s H vs Q E hr h=>⟨_,z0t (o0v (pv 0) (pv 1) rfl),?_⟩)
  · obtain ⟨x,v,rfl,_⟩:=h; rfl
  · obtain ⟨x,v,rfl,hx,q⟩:=h
    exact ⟨_,rfl,_,rfl,x,C,rfl,hx,xc,n0,fun d hd hne=>q d hd hne⟩
theorem t0r:FnScope ["self","at"] ["self","at"] (defScope l9):=⟨rfl,rfl,rfl,by decide +kernel,rfl,by decide +kernel,by decide +kernel⟩
theorem t0q {f C:Addr} {fd:FuncData} (F:Fun K "__init__" "NoPlan.__init__" l9 f fd) (xc:XC K C) (n0:NoAttr K C "at"):FnOk P w K mg base CX0 1 f fd ["self","at"] (spXI C "at"):=by
  refine F.ok t0r (fun vs H Q E h=>?_) (fun cdv A outer s H vs Q E hr h=>⟨_,z0t (o0v (pv 0) (pv 1) rfl),?_⟩)
  · obtain ⟨x,v,rfl,_⟩:=h; rfl
  · obtain ⟨x,v,rfl,hx,q⟩:=h
    exact ⟨_,rfl,_,rfl,x,C,rfl,hx,xc,n0,fun d hd hne=>q d hd hne⟩
theorem p0g:FnScope ["self","round_number"] ["self","round_number"] (defScope y0d):=⟨rfl,rfl,rfl,by decide +kernel,rfl,by decide +kernel,by decide +kernel⟩
theorem p0f {f C:Addr} {fd:FuncData} (F:Fun K "__init__" "Shut.__init__" y0d f fd) (xc:XC K C) (n0:NoAttr K C "round_number"):FnOk P w K mg base CX0 1 f fd ["self","round_number"] (spXI C "round_number"):=by
  refine F.ok p0g (fun vs H Q E h=>?_) (fun cdv A outer s H vs Q E hr h=>⟨_,z0t (o0v (pv 0) (pv 1) rfl),?_⟩)
  · obtain ⟨x,v,rfl,_⟩:=h; rfl
  · obtain ⟨x,v,rfl,hx,q⟩:=h
    exact ⟨_,rfl,_,rfl,x,C,rfl,hx,xc,n0,fun d hd hne=>q d hd hne⟩
theorem r0q:FnScope ["self","round_number","part_number"] ["self","round_number","part_number"] (defScope z0f):=⟨rfl,rfl,rfl,by decide +kernel,rfl,by decide +kernel,by decide +kernel⟩
theorem r0p {f C:Addr} {fd:FuncData} (F:Fun K "__init__" "Falls.__init__" z0f f fd) (xc:XC K C) (n0:NoAttr K C "round_number") (n1:NoAttr K C "part_number"):FnOk P w K mg base CX0 1 f fd ["self","round_number","part_number"] (spXI2 C "round_number" "part_number"):=by
  refine F.ok r0q (fun vs H Q E h=>?_) (fun cdv A outer s H vs Q E hr h=>⟨_,n0b (o0v (pv 0) (pv 1) rfl) (z0t (ps_x1 (pv 0) (pv 2) rfl)),?_⟩)
  · obtain ⟨x,v,u,rfl,_⟩:=h; rfl
  · obtain ⟨x,v,u,rfl,hx,q⟩:=h
    refine ⟨_,rfl,_,rfl,x,C,rfl,hx,xc,n0,fun d hd hne=>?_⟩
    exact ⟨_,rfl,_,rfl,x,C,d,_,rfl,o3,by rw [y0 hne,o3],hne,by show 1 < 1000; decide,xc,n1,q d hd hne⟩
theorem v0y:FnScope ["self","most"] ["self","most"] (defScope r8):=⟨rfl,rfl,rfl,by decide +kernel,rfl,by decide +kernel,by decide +kernel⟩
theorem v0x {f C:Addr} {fd:FuncData} (F:Fun K "__init__" "TooGreat.__init__" r8 f fd) (xc:XC K C) (n0:NoAttr K C "most"):FnOk P w K mg base CX0 1 f fd ["self","most"] (spXI C "most"):=by
  refine F.ok v0y (fun vs H Q E h=>?_) (fun cdv A outer s H vs Q E hr h=>⟨_,z0t (o0v (pv 0) (pv 1) rfl),?_⟩)
  · obtain ⟨x,v,rfl,_⟩:=h; rfl
  · obtain ⟨x,v,rfl,hx,q⟩:=h
    exact ⟨_,rfl,_,rfl,x,C,rfl,hx,xc,n0,fun d hd hne=>q d hd hne⟩
theorem t0p:FnScope ["self","row"] ["self","row"] (defScope k9):=⟨rfl,rfl,rfl,by decide +kernel,rfl,by decide +kernel,by decide +kernel⟩
theorem t0o {f C:Addr} {fd:FuncData} (F:Fun K "__init__" "NoText.__init__" k9 f fd) (xc:XC K C) (n0:NoAttr K C "row"):FnOk P w K mg base CX0 1 f fd ["self","row"] (spXI C "row"):=by
  refine F.ok t0p (fun vs H Q E h=>?_) (fun cdv A outer s H vs Q E hr h=>⟨_,z0t (o0v (pv 0) (pv 1) rfl),?_⟩)
  · obtain ⟨x,v,rfl,_⟩:=h; rfl
  · obtain ⟨x,v,rfl,hx,q⟩:=h
    exact ⟨_,rfl,_,rfl,x,C,rfl,hx,xc,n0,fun d hd hne=>q d hd hne⟩
@[elab_as_elim] theorem el0 {α:Type} {motive:List α→Prop} (us:List α) (hl:us.length=0) (h:motive []):motive us:=match us,hl with
  | [],_=>h
@[elab_as_elim] theorem el1 {α:Type} {motive:List α→Prop} (us:List α) (hl:us.length=1) (h:∀ a,motive [a]):motive us:=match us,hl with
  | [a],_=>h a
@[elab_as_elim] theorem el2 {α:Type} {motive:List α→Prop} (us:List α) (hl:us.length=2) (h:∀ a b,motive [a,b]):motive us:=match us,hl with
  | [a,b],_=>h a b
@[elab_as_elim] theorem el3 {α:Type} {motive:List α→Prop} (us:List α) (hl:us.length=3) (h:∀ a b c,motive [a,b,c]):motive us:=match us,hl with
  | [a,b,c],_=>h a b c
@[elab_as_elim] theorem el4 {α:Type} {motive:List α→Prop} (us:List α) (hl:us.length=4) (h:∀ a b c d,motive [a,b,c,d]):motive us:=match us,hl with
  | [a,b,c,d],_=>h a b c d
@[elab_as_elim] theorem el5 {α:Type} {motive:List α→Prop} (us:List α) (hl:us.length=5) (h:∀ a b c d e,motive [a,b,c,d,e]):motive us:=match us,hl with
  | [a,b,c,d,e],_=>h a b c d e
@[elab_as_elim] theorem el6 {α:Type} {motive:List α→Prop} (us:List α) (hl:us.length=6) (h:∀ a b c d e f,motive [a,b,c,d,e,f]):motive us:=match us,hl with
  | [a,b,c,d,e,f],_=>h a b c d e f
@[elab_as_elim] theorem el7 {α:Type} {motive:List α→Prop} (us:List α) (hl:us.length=7) (h:∀ a b c d e f g,motive [a,b,c,d,e,f,g]):motive us:=match us,hl with
  | [a,b,c,d,e,f,g],_=>h a b c d e f g
@[elab_as_elim] theorem el8 {α:Type} {motive:List α→Prop} (us:List α) (hl:us.length=8) (h:∀ a b c d e f g i,motive [a,b,c,d,e,f,g,i]):motive us:=match us,hl with
  | [a,b,c,d,e,f,g,i],_=>h a b c d e f g i
theorem all_mk {l:PySem.W.OpenLaw} {w:World} {K:PySem.W.Frag} {h:Heap} {mg:Str→Option Value} {fa:Addr} {cs:Cs} (X:K.In h) (G:h.Ns mainGlobals mg) (hfa:mg "law" = some (.ref fa)) (T:Txt K mg cs) (h_is_number:HD.FnF K "is_number" y0j) (h_is_whole:HD.FnF K "is_whole" x0b) (h_is_row:HD.FnF K "is_row" r0x) (h_is_whole_row:HD.FnF K "is_whole_row" j8) (h_is_rising_row:HD.FnF K "is_rising_row" u8) (h_loss:HD.FnF K "loss" g0z) (h_is_stand:HD.FnF K "is_stand" x0a) (h_check_stand:HD.FnF K "check_stand" r9) (h_check_first:HD.FnF K "check_first" q9) (h_is_shut:HD.FnF K "is_shut" u0v) (h_paid_behind:HD.FnF K "paid_behind" p9) (h_single_least:HD.FnF K "single_least" i8) (h_law_mixed:HD.FnF K "_law_mixed" y0i) (h_law_deck:HD.FnF K "_law_deck" w0z) (h_law_next:HD.FnF K "_law_next" w0y) (h_law_part:HD.FnF K "_law_part" w0x) (h_law_lost:HD.FnF K "_law_lost" w0w) (h_law_made:HD.FnF K "_law_made" w0v) (h_law_kinds:HD.FnF K "_law_kinds" y0h) (h_law_is_just:HD.FnF K "_law_is_just" o9) (h_law_whole:HD.FnF K "_law_whole" y0g) (h_law_single:HD.FnF K "_law_single" z0g) (h_law_shut:HD.FnF K "_law_shut" w0u) (h_law_no_stand:HD.FnF K "_law_no_stand" h8) (h_law_no_first:HD.FnF K "_law_no_first" f8) (h_law_drawn:HD.FnF K "_law_drawn" y0f) (h_law_right:HD.FnF K "_law_right" y0e) (h_law_word:HD.FnF K "_law_word" w0t) (h_law_put:HD.FnF K "_law_put" u0u) (h_law_refused:HD.FnF K "_law_refused" n9) (h_law:HD.FnF K "law" z1f) (x_NoPart:HD.XMkF K cs.NoPart "NoPart.__init__" m9) (x_NoWorks:HD.XMkF K cs.NoWorks "NoWorks.__init__" d8) (x_NoPlan:HD.XMkF K cs.NoPlan "NoPlan.__init__" l9) (x_Shut:HD.XMkF K cs.Shut "Shut.__init__" y0d) (x_Falls:HD.XMkF K cs.Falls "Falls.__init__" z0f) (x_TooGreat:HD.XMkF K cs.TooGreat "TooGreat.__init__" r8) (x_NoText:HD.XMkF K cs.NoText "NoText.__init__" k9) (o_Part:HD.MkF K cs.Part "Part.__init__" y0c) :
    ∃ fd:FuncData,(∀ (s:Shared) (v:Value),BindsTo s fd ⟨[v],[]⟩ [("_law_script",v)])∧∀ base:Heap,K.In base→base.Ns mainGlobals mg→FnOk l.prog w K mg base (CX1 l.prog w) 10 fa fd g0h (upF K l0b):=by
  obtain ⟨f_is_number,d_is_number,D_is_number⟩:=h_is_number.at X G (ps:=j9) fun _ _ _ _ _ _ us hl=>el1 us hl (fun _=>rfl)
  obtain ⟨f_is_whole,d_is_whole,D_is_whole⟩:=h_is_whole.at X G (ps:=y0x) fun _ _ _ _ _ _ us hl=>el3 us hl (fun _ _ _=>rfl)
  obtain ⟨f_is_row,d_is_row,D_is_row⟩:=h_is_row.at X G (ps:=v0n) fun _ _ _ _ _ _ us hl=>el1 us hl (fun _=>rfl)
  obtain ⟨f_is_whole_row,d_is_whole_row,D_is_whole_row⟩:=h_is_whole_row.at X G (ps:=i6) fun _ _ _ _ _ _ us hl=>el5 us hl (fun _ _ _ _ _=>rfl)
  obtain ⟨f_is_rising_row,d_is_rising_row,D_is_rising_row⟩:=h_is_rising_row.at X G (ps:=m6) fun _ _ _ _ _ _ us hl=>el3 us hl (fun _ _ _=>rfl)
  obtain ⟨f_loss,d_loss,D_loss⟩:=h_loss.at X G (ps:=l0q) fun _ _ _ _ _ _ us hl=>el2 us hl (fun _ _=>rfl)
  obtain ⟨f_is_stand,d_is_stand,D_is_stand⟩:=h_is_stand.at X G (ps:=y0w) fun _ _ _ _ _ _ us hl=>el2 us hl (fun _ _=>rfl)
  obtain ⟨f_check_stand,d_check_stand,D_check_stand⟩:=h_check_stand.at X G (ps:=h7) fun _ _ _ _ _ _ us hl=>el2 us hl (fun _ _=>rfl)
  obtain ⟨f_check_first,d_check_first,D_check_first⟩:=h_check_first.at X G (ps:=l7) fun _ _ _ _ _ _ us hl=>el1 us hl (fun _=>rfl)
  obtain ⟨f_is_shut,d_is_shut,D_is_shut⟩:=h_is_shut.at X G (ps:=x0k) fun _ _ _ _ _ _ us hl=>el1 us hl (fun _=>rfl)
  obtain ⟨f_paid_behind,d_paid_behind,D_paid_behind⟩:=h_paid_behind.at X G (ps:=f7) fun _ _ _ _ _ _ us hl=>el4 us hl (fun _ _ _ _=>rfl)
  obtain ⟨f_single_least,d_single_least,D_single_least⟩:=h_single_least.at X G (ps:=f6) fun _ _ _ _ _ _ us hl=>el5 us hl (fun _ _ _ _ _=>rfl)
  obtain ⟨f_law_mixed,d_law_mixed,D_law_mixed⟩:=h_law_mixed.at X G (ps:=h9) fun _ _ _ _ _ _ us hl=>el2 us hl (fun _ _=>rfl)
  obtain ⟨f_law_deck,d_law_deck,D_law_deck⟩:=h_law_deck.at X G (ps:=y0u) fun _ _ _ _ _ _ us hl=>el2 us hl (fun _ _=>rfl)
  obtain ⟨f_law_next,d_law_next,D_law_next⟩:=h_law_next.at X G (ps:=y0v) fun _ _ _ _ _ _ us hl=>el1 us hl (fun _=>rfl)
  obtain ⟨f_law_part,d_law_part,D_law_part⟩:=h_law_part.at X G (ps:=y0t) fun _ _ _ _ _ _ us hl=>el3 us hl (fun _ _ _=>rfl)
  obtain ⟨f_law_lost,d_law_lost,D_law_lost⟩:=h_law_lost.at X G (ps:=y0s) fun _ _ _ _ _ _ us hl=>el2 us hl (fun _ _=>rfl)
  obtain ⟨f_law_made,d_law_made,D_law_made⟩:=h_law_made.at X G (ps:=y0r) fun _ _ _ _ _ _ us hl=>el2 us hl (fun _ _=>rfl)
  obtain ⟨f_law_kinds,d_law_kinds,D_law_kinds⟩:=h_law_kinds.at X G (ps:=f9) fun _ _ _ _ _ _ us hl=>el1 us hl (fun _=>rfl)
  obtain ⟨f_law_is_just,d_law_is_just,D_law_is_just⟩:=h_law_is_just.at X G (ps:=j7) fun _ _ _ _ _ _ us hl=>el2 us hl (fun _ _=>rfl)
  obtain ⟨f_law_whole,d_law_whole,D_law_whole⟩:=h_law_whole.at X G (ps:=e9) fun _ _ _ _ _ _ us hl=>el1 us hl (fun _=>rfl)
  obtain ⟨f_law_single,d_law_single,D_law_single⟩:=h_law_single.at X G (ps:=n8) fun _ _ _ _ _ _ us hl=>el5 us hl (fun _ _ _ _ _=>rfl)
  obtain ⟨f_law_shut,d_law_shut,D_law_shut⟩:=h_law_shut.at X G (ps:=y0q) fun _ _ _ _ _ _ us hl=>el2 us hl (fun _ _=>rfl)
  obtain ⟨f_law_no_stand,d_law_no_stand,D_law_no_stand⟩:=h_law_no_stand.at X G (ps:=b6) fun _ _ _ _ _ _ us hl=>el1 us hl (fun _=>rfl)
  obtain ⟨f_law_no_first,d_law_no_first,D_law_no_first⟩:=h_law_no_first.at X G (ps:=a6) fun _ _ _ _ _ _ us hl=>el0 us hl rfl
  obtain ⟨f_law_drawn,d_law_drawn,D_law_drawn⟩:=h_law_drawn.at X G (ps:=a9) fun _ _ _ _ _ _ us hl=>el1 us hl (fun _=>rfl)
  obtain ⟨f_law_right,d_law_right,D_law_right⟩:=h_law_right.at X G (ps:=z0z) fun _ _ _ _ _ _ us hl=>el3 us hl (fun _ _ _=>rfl)
  obtain ⟨f_law_word,d_law_word,D_law_word⟩:=h_law_word.at X G (ps:=y0p) fun _ _ _ _ _ _ us hl=>el5 us hl (fun _ _ _ _ _=>rfl)
  obtain ⟨f_law_put,d_law_put,D_law_put⟩:=h_law_put.at X G (ps:=x0j) fun _ _ _ _ _ _ us hl=>el3 us hl (fun _ _ _=>rfl)
  obtain ⟨f_law_refused,d_law_refused,D_law_refused⟩:=h_law_refused.at X G (ps:=d7) fun _ _ _ _ _ _ us hl=>el3 us hl (fun _ _ _=>rfl)
  obtain ⟨f_law,d_law,D_law⟩:=h_law.at X G (ps:=g0h) fun _ _ _ _ _ _ us hl=>el1 us hl (fun _=>rfl)
  obtain ⟨fi_NoPart,fd_NoPart,m_NoPart,F_NoPart⟩:=x_NoPart
  have M_NoPart:∀ base,MkE l.prog w K mg base "NoPart" cs.NoPart 1 ["self","at"] (spXI cs.NoPart "at"):=fun base=>⟨⟨fi_NoPart,_,m_NoPart,t0s F_NoPart (T.err _ (List.mem_of_getElem? (show cs.ds[0]?=some cs.NoPart from rfl))).xc T.a_NoPart_at,F_NoPart.binds (ps:=["self","at"]) fun _ _ _ _ _ _ us hl=>el2 us hl (fun _ _=>rfl)⟩,T.c_NoPart⟩
  obtain ⟨fi_NoWorks,fd_NoWorks,m_NoWorks,F_NoWorks⟩:=x_NoWorks
  have M_NoWorks:∀ base,MkE l.prog w K mg base "NoWorks" cs.NoWorks 1 ["self","at"] (spXI cs.NoWorks "at"):=fun base=>⟨⟨fi_NoWorks,_,m_NoWorks,u0g F_NoWorks (T.err _ (List.mem_of_getElem? (show cs.ds[1]?=some cs.NoWorks from rfl))).xc T.a_NoWorks_at,F_NoWorks.binds (ps:=["self","at"]) fun _ _ _ _ _ _ us hl=>el2 us hl (fun _ _=>rfl)⟩,T.c_NoWorks⟩
  obtain ⟨fi_NoPlan,fd_NoPlan,m_NoPlan,F_NoPlan⟩:=x_NoPlan
  have M_NoPlan:∀ base,MkE l.prog w K mg base "NoPlan" cs.NoPlan 1 ["self","at"] (spXI cs.NoPlan "at"):=fun base=>⟨⟨fi_NoPlan,_,m_NoPlan,t0q F_NoPlan (T.err _ (List.mem_of_getElem? (show cs.ds[4]?=some cs.NoPlan from rfl))).xc T.a_NoPlan_at,F_NoPlan.binds (ps:=["self","at"]) fun _ _ _ _ _ _ us hl=>el2 us hl (fun _ _=>rfl)⟩,T.c_NoPlan⟩
  obtain ⟨fi_Shut,fd_Shut,m_Shut,F_Shut⟩:=x_Shut
  have M_Shut:∀ base,MkE l.prog w K mg base "Shut" cs.Shut 1 ["self","round_number"] (spXI cs.Shut "round_number"):=fun base=>⟨⟨fi_Shut,_,m_Shut,p0f F_Shut (T.err _ (List.mem_of_getElem? (show cs.ds[5]?=some cs.Shut from rfl))).xc T.a_Shut_round_number,F_Shut.binds (ps:=["self","round_number"]) fun _ _ _ _ _ _ us hl=>el2 us hl (fun _ _=>rfl)⟩,T.c_Shut⟩
  obtain ⟨fi_Falls,fd_Falls,m_Falls,F_Falls⟩:=x_Falls
  have M_Falls:∀ base,MkE l.prog w K mg base "Falls" cs.Falls 1 ["self","round_number","part_number"] (spXI2 cs.Falls "round_number" "part_number"):=fun base=>⟨⟨fi_Falls,_,m_Falls,r0p F_Falls (T.err _ (List.mem_of_getElem? (show cs.ds[6]?=some cs.Falls from rfl))).xc T.a_Falls_round_number T.a_Falls_part_number,F_Falls.binds (ps:=["self","round_number","part_number"]) fun _ _ _ _ _ _ us hl=>el3 us hl (fun _ _ _=>rfl)⟩,T.c_Falls⟩
  obtain ⟨fi_TooGreat,fd_TooGreat,m_TooGreat,F_TooGreat⟩:=x_TooGreat
  have M_TooGreat:∀ base,MkE l.prog w K mg base "TooGreat" cs.TooGreat 1 ["self","most"] (spXI cs.TooGreat "most"):=fun base=>⟨⟨fi_TooGreat,_,m_TooGreat,v0x F_TooGreat (T.err _ (List.mem_of_getElem? (show cs.ds[8]?=some cs.TooGreat from rfl))).xc T.a_TooGreat_most,F_TooGreat.binds (ps:=["self","most"]) fun _ _ _ _ _ _ us hl=>el2 us hl (fun _ _=>rfl)⟩,T.c_TooGreat⟩
  obtain ⟨fi_NoText,fd_NoText,m_NoText,F_NoText⟩:=x_NoText
  have M_NoText:∀ base,MkE l.prog w K mg base "NoText" cs.NoText 1 ["self","row"] (spXI cs.NoText "row"):=fun base=>⟨⟨fi_NoText,_,m_NoText,t0o F_NoText (T.err _ (List.mem_of_getElem? (show cs.ds[10]?=some cs.NoText from rfl))).xc T.a_NoText_row,F_NoText.binds (ps:=["self","row"]) fun _ _ _ _ _ _ us hl=>el2 us hl (fun _ _=>rfl)⟩,T.c_NoText⟩
  obtain ⟨fi_Part,fd_Part,m_Part,F_Part⟩:=o_Part
  have G_law_mixed:∀ base,x0y l.prog w K mg base cs:=fun base=>p0q D_law_mixed T
  have G_law_deck:∀ base,w0r l.prog w K mg base cs:=fun base=>n0o D_law_deck T (G_law_mixed base)
  have G_law_next:∀ base,a7 l.prog w K mg base cs:=fun base=>n0p D_law_next T
  have G_law_part:∀ base,w0q l.prog w K mg base cs:=fun base=>n0m D_law_part T (G_law_next base)
  have G_law_shut:∀ base,w0m l.prog w K mg base cs:=fun base=>n0e D_law_shut T (G_law_next base)
  have G_law_drawn:∀ base,x0v l.prog w K mg base cs:=fun base=>p0j D_law_drawn T (G_law_part base) (G_law_next base) (G_law_shut base)
  have G_is_number:∀ base,x0z l.prog w K mg base cs:=fun base=>p0t D_is_number T
  have G_is_whole:∀ base,b7 l.prog w K mg base cs:=fun base=>n0t D_is_whole T (G_is_number base)
  have G_is_row:∀ base,r0v l.prog w K mg base cs:=fun base=>g0x D_is_row T
  have G_is_whole_row:∀ base,u6 l.prog w K mg base cs:=fun base=>u0s D_is_whole_row T (G_is_row base) (G_is_whole base)
  have M_Part:∀ base,Make2 l.prog w K mg base "Part" 4 (u0r cs):=fun base=>p0s F_Part m_Part (F_Part.binds (ps:=["self","full","mark","wear","price"]) fun _ _ _ _ _ _ us hl=>el5 us hl (fun _ _ _ _ _=>rfl)) T (G_is_whole base) (G_is_whole_row base) (M_NoPart base)
  have G_law_made:∀ base,w0o l.prog w K mg base cs:=fun base=>n0j D_law_made T (M_Part base)
  have G_law_lost:∀ base,w0p l.prog w K mg base cs:=fun base=>n0k D_law_lost T
  have G_law_single:∀ base,z0c l.prog w K mg base cs:=fun base=>r0t D_law_single T (G_law_lost base)
  have G_is_stand:∀ base,w0s l.prog w K mg base cs:=fun base=>n0s D_is_stand T (G_is_whole base)
  have G_check_stand:∀ base,d9 l.prog w K mg base cs:=fun base=>t0y D_check_stand T (G_is_stand base)
  have G_check_first:∀ base,i9 l.prog w K mg base cs:=fun base=>u0a D_check_first T (G_is_whole base)
  have G_is_rising_row:∀ base,q8 l.prog w K mg base cs:=fun base=>v0z D_is_rising_row T (G_is_whole_row base)
  have G_is_shut:∀ base,u0p l.prog w K mg base cs:=fun base=>k0r D_is_shut T (G_is_rising_row base)
  have G_paid_behind:∀ base,b9 l.prog w K mg base cs:=fun base=>t0x D_paid_behind T
  have G_loss:∀ base,g0u l.prog w K mg base cs:=fun base=>z1b D_loss T
  have G_single_least:∀ base,d6 l.prog w K mg base cs:=fun base=>u0n D_single_least T (G_check_stand base) (G_check_first base) (G_is_whole_row base) (G_is_shut base) (G_paid_behind base) (G_loss base)
  have G_law_kinds:∀ base,x0x l.prog w K mg base cs:=fun base=>p0p D_law_kinds T
  have G_law_is_just:∀ base,i7 l.prog w K mg base cs:=fun base=>t0z D_law_is_just T (G_law_kinds base)
  have G_law_whole:∀ base,x0w l.prog w K mg base cs:=fun base=>p0o D_law_whole T
  have G_law_right:∀ base,x0u l.prog w K mg base cs:=fun base=>p0i D_law_right T (G_law_single base) (G_single_least base) (G_law_is_just base) (G_law_whole base)
  have G_law_no_stand:∀ base,b8 l.prog w K mg base cs:=fun base=>u0k D_law_no_stand T
  have G_law_word:∀ base,w0k l.prog w K mg base cs:=fun base=>n0c D_law_word T (G_single_least base) (G_law_is_just base)
  have G_law_no_first:∀ base,a8 l.prog w K mg base cs:=fun base=>u0j D_law_no_first T
  have G_law_put:∀ base,u0i l.prog w K mg base cs:=fun base=>k0q D_law_put T (G_law_next base)
  have G_law_refused:∀ base,z0y l.prog w K mg base cs:=fun base=>t0u D_law_refused T (G_law_no_stand base) (G_law_word base) (G_law_no_first base) (G_law_put base)
  obtain ⟨_,_,_,_,_,_,_,_,_,rfl,_,_⟩:=D_law.F.ex
  have e:=hfa.symm.trans D_law.m
  cases e
  exact ⟨_,fun s v=>.of_eq rfl,fun base _ _=>ok_law D_law T (G_law_deck base) (G_law_drawn base) (G_law_made base) (G_law_right base) (G_law_refused base)⟩
end
end K16
namespace HD16
open PySem PySem.W PyProof.Rows PySem.Calls HD
open K16 (top)
noncomputable abbrev PW:Program:=PySem.Challenge.pw_wearplan_k16_single_least
noncomputable def env:Env:=⟨PW.main.scope,mainNs,mainNs,[],Str.empty,none,(r 13),some 14,0⟩
noncomputable def cE:Code:=.body (behindTheImports PW) env
noncomputable abbrev fp:Pos:=⟨0,0,0,0⟩
noncomputable abbrev BB:List Frame:=[topFrame fp]
noncomputable def life:Life:={ }
noncomputable def drawn:Drawn:={ }
noncomputable def o11_0 (P:Params):Obj:=tp []
noncomputable def o12_0 (P:Params):Obj:=fl N []
noncomputable def o13_0 (P:Params):Obj:=fl (ty "code") [(s "<module>" 182),(s "<module>" 183),(s "/claim/cut.py" 184),(i 1 0),(i 0 0),(i 0 0),(i 0 0),(i 0 0),(r 11),(b false),(i 181 0),(r 12),N,N,N,N,(i 185 0),(i 1 0),(s "/claim/cut.py" 186)]
noncomputable def o14_0 (P:Params):Obj:={ cls:=(ty "frame"),slots:=⟨[some (r 13),some (r 3),some (r 3),none,some (s "__main__" 164),none,some (r 0)]⟩ }
noncomputable def t0 (P:Params):BT:=(.node (boot_o_0 P) (.node (boot_o_1 P) (.node (boot_o_3 P) (.node (boot_o_7 P) .nil .nil) (.node (o11_0 P) .nil .nil)) (.node (boot_o_5 P) (.node (boot_o_9 P) .nil .nil) (.node (o13_0 P) .nil .nil))) (.node (boot_o_2 P) (.node (boot_o_4 P) (.node (boot_o_8 P) .nil .nil) (.node (o12_0 P) .nil .nil)) (.node (boot_o_6 P) (.node (boot_o_10 P) .nil .nil) (.node (o14_0 P) .nil .nil))))
theorem pre (w:World) (os:OsState):topGo treeTable PW w 11 (some (r 6)) 12 ⟨boot_heap w.params,⟨[]⟩,boot_drawn,boot_toks,os⟩ (topStub PW)=some ((SharedT.abs ⟨t0 w.params,15,life,⟨[]⟩,drawn,187,os⟩),⟨denote treeTable cE,cE,⟨0,0,0,0⟩,BB⟩):=turnGo (by rw [PySem.W.Fast.te11892475500146522536,PySem.W.Fast.te14364793385576792824]; kernel_rfl)
theorem blk (w:World) (os:OsState):segRun treeTable PW w 11 (some (r 6)) 1 1 (SharedT.abs ⟨t0 w.params,15,life,⟨[]⟩,drawn,187,os⟩) (blockOf (behindTheImports PW) env cE ⟨0,0,0,0⟩ BB)=some (.next,(SharedT.abs ⟨t0 w.params,15,life,⟨[]⟩,drawn,187,os⟩),cE,⟨0,0,0,0⟩):=h0a (by kernel_rfl)
noncomputable def sts1:List Stmt:=[top 0,top 1]
noncomputable def e3_0 (P:Params):List DictEntry:=[en P "__name__" 165 (s "wearplan.errors" 187),en P "__doc__" 166 N,en P "__package__" 167 N,en P "__loader__" 168 (bi "__main__.__loader__#opaque"),en P "__spec__" 169 N,en P "__annotations__" 170 (r 6),en P "__builtins__" 171 (r 4),en P "__file__" 173 (s "/claim/cut.py" 172),en P "__cached__" 174 N,en P "WearError" 206 (r 24)]
noncomputable def o3_0 (P:Params):Obj:=di (e3_0 P) 10
noncomputable def e12_1 (P:Params):List Value:=[(i 2 0),(i 0 0),(r 20)]
noncomputable def o12_1 (P:Params):Obj:=fl N (e12_1 P)
noncomputable def g1 (P:Params):List Obj:=[tp [(ty "ValueError")],fl (ty "builtin_function_or_method") [(bi "type.__prepare__"),(ty "type")],di [en P "__module__" 196 (s "wearplan.errors" 187),en P "__qualname__" 198 (s "WearError" 197),en P "__firstlineno__" 200 (i 2 199),en P "__static_attributes__" 201 (r 22)] 4,tp [],fl N [],fl (ty "code") [(s "WearError" 191),(s "WearError" 192),(s "/claim/cut.py" 193),(i 2 0),(i 0 0),(i 0 0),(i 0 0),(i 0 0),(r 18),(b false),(i 181 0),(r 19),N,N,N,N,(i 194 0),(i 2 0),(s "/claim/cut.py" 195)],{ cls:=(ty "frame"),slots:=⟨[some (r 20),some (r 3),some (r 17),none,some (s "wearplan.errors" 187),none,some (r 0)]⟩ },tp [],di [en P "__module__" 196 (s "wearplan.errors" 187),en P "__firstlineno__" 200 (i 2 199),en P "__static_attributes__" 201 (r 22),en P "__weakref__" 203 (r 25),en P "__doc__" 204 N] 3,co "WearError" [(ty "ValueError")] [(r 24),(ty "ValueError"),(ty "Exception"),(ty "BaseException"),(ty "object")] 23 "WearError" true false [] [some (r 15),none,some (s "WearError" 189),some (s "WearError" 197),some (bi "ValueError.__new__"),some (b true)],fl (ty "getset_descriptor") [(s "__weakref__" 202),(r 24),(bi "ExceptionGroup.__weakref__"),N],fl (ty "super") [(r 24),(r 24),(r 24)],fl (ty "builtin_function_or_method") [(bi "object.__init_subclass__"),(r 24)]]
noncomputable def t1 (P:Params):BT:=insL (g1 P) 15 (setL [(3,o3_0 P),(12,o12_1 P)] (t0 P))
theorem pc1 (w:World) (os:OsState):segRun treeTable PW w 11 (some (r 6)) 1 196 (SharedT.abs ⟨t0 w.params,15,life,⟨[]⟩,drawn,187,os⟩) (piecesOf sts1 env cE ⟨0,0,0,0⟩ BB)=some (.next,(SharedT.abs ⟨t1 w.params,28,life,⟨[]⟩,drawn,207,os⟩),cE,⟨2,0,3,8⟩):=segRun_of (x6 (by kernel_rfl))
noncomputable def sts2:List Stmt:=[top 2]
noncomputable def e3_1 (P:Params):List DictEntry:=(e3_0 P)++[en P "NoPart" 231 (r 44)]
noncomputable def o3_1 (P:Params):Obj:=di (e3_1 P) 11
noncomputable def e12_2 (P:Params):List Value:=e12_1 P++[(i 4 0),(i 0 0),(r 33)]
noncomputable def o12_2 (P:Params):Obj:=fl N (e12_2 P)
noncomputable def o24_1 (P:Params):Obj:=co "WearError" [(ty "ValueError")] [(r 24),(ty "ValueError"),(ty "Exception"),(ty "BaseException"),(ty "object")] 23 "WearError" true false [(r 44)] [some (r 15),none,some (s "WearError" 189),some (s "WearError" 197),some (bi "ValueError.__new__"),some (b true)]
noncomputable def g2 (P:Params):List Obj:=[tp [(r 24)],fl (ty "builtin_function_or_method") [(bi "type.__prepare__"),(ty "type")],di [en P "__module__" 214 (s "wearplan.errors" 187),en P "__qualname__" 216 (s "NoPart" 215),en P "__firstlineno__" 218 (i 4 217),en P "__init__" 226 (r 41),en P "__static_attributes__" 228 (r 42)] 5,tp [],fl N [(i 6 0),(i 4 0),(r 40)],fl (ty "code") [(s "NoPart" 209),(s "NoPart" 210),(s "/claim/cut.py" 211),(i 4 0),(i 0 0),(i 0 0),(i 0 0),(i 0 0),(r 31),(b false),(i 181 0),(r 32),N,N,N,N,(i 212 0),(i 4 0),(s "/claim/cut.py" 213)],{ cls:=(ty "frame"),slots:=⟨[some (r 33),some (r 3),some (r 30),none,some (s "wearplan.errors" 187),none,some (r 0)]⟩ },tp [],fl N [],tp [(s "self" 222),(s "at" 223)],tp [],fn N "__init__" "NoPart.__init__" (L2.inClass (top 2) 0) 0 N N,fl (ty "code") [(s "__init__" 219),(s "NoPart.__init__" 220),(s "/claim/cut.py" 221),(i 6 0),(i 2 0),(i 0 0),(i 0 0),(i 3 0),(r 35),(b true),(i 181 0),(r 36),N,(r 37),(r 38),(r 39),(i 224 0),(i 6 0),(s "/claim/cut.py" 225)],fn (ty "function") "__init__" "NoPart.__init__" (L2.inClass (top 2) 0) 3 (s "wearplan.errors" 187) (r 40),tp [(s "at" 227)],di [en P "__module__" 214 (s "wearplan.errors" 187),en P "__firstlineno__" 218 (i 4 217),en P "__init__" 226 (r 41),en P "__static_attributes__" 228 (r 42),en P "__doc__" 229 N] 2,co "NoPart" [(r 24)] [(r 44),(r 24),(ty "ValueError"),(ty "Exception"),(ty "BaseException"),(ty "object")] 43 "NoPart" true false [] [some (r 28),none,some (s "NoPart" 207),some (s "NoPart" 215),some (bi "ValueError.__new__"),some (b true)],fl (ty "super") [(r 44),(r 44),(r 44)],fl (ty "builtin_function_or_method") [(bi "object.__init_subclass__"),(r 44)]]
noncomputable def t2 (P:Params):BT:=insL (g2 P) 28 (setL [(3,o3_1 P),(12,o12_2 P),(24,o24_1 P)] (t1 P))
theorem pc2 (w:World) (os:OsState):segRun treeTable PW w 11 (some (r 6)) 1 246 (SharedT.abs ⟨t1 w.params,28,life,⟨[]⟩,drawn,207,os⟩) (piecesOf sts2 env cE ⟨2,0,3,8⟩ BB)=some (.next,(SharedT.abs ⟨t2 w.params,47,life,⟨[]⟩,drawn,232,os⟩),cE,⟨4,0,7,20⟩):=segRun_of (x6 (by kernel_rfl))
noncomputable def sts3:List Stmt:=[top 3]
noncomputable def e3_2 (P:Params):List DictEntry:=(e3_1 P)++[en P "NoWorks" 256 (r 63)]
noncomputable def o3_2 (P:Params):Obj:=di (e3_2 P) 12
noncomputable def e12_3 (P:Params):List Value:=e12_2 P++[(i 8 0),(i 0 0),(r 52)]
noncomputable def o12_3 (P:Params):Obj:=fl N (e12_3 P)
noncomputable def o24_2 (P:Params):Obj:=co "WearError" [(ty "ValueError")] [(r 24),(ty "ValueError"),(ty "Exception"),(ty "BaseException"),(ty "object")] 23 "WearError" true false [(r 44),(r 63)] [some (r 15),none,some (s "WearError" 189),some (s "WearError" 197),some (bi "ValueError.__new__"),some (b true)]
noncomputable def g3 (P:Params):List Obj:=[tp [(r 24)],fl (ty "builtin_function_or_method") [(bi "type.__prepare__"),(ty "type")],di [en P "__module__" 239 (s "wearplan.errors" 187),en P "__qualname__" 241 (s "NoWorks" 240),en P "__firstlineno__" 243 (i 8 242),en P "__init__" 251 (r 60),en P "__static_attributes__" 253 (r 61)] 5,tp [],fl N [(i 10 0),(i 4 0),(r 59)],fl (ty "code") [(s "NoWorks" 234),(s "NoWorks" 235),(s "/claim/cut.py" 236),(i 8 0),(i 0 0),(i 0 0),(i 0 0),(i 0 0),(r 50),(b false),(i 181 0),(r 51),N,N,N,N,(i 237 0),(i 8 0),(s "/claim/cut.py" 238)],{ cls:=(ty "frame"),slots:=⟨[some (r 52),some (r 3),some (r 49),none,some (s "wearplan.errors" 187),none,some (r 0)]⟩ },tp [],fl N [],tp [(s "self" 247),(s "at" 248)],tp [],fn N "__init__" "NoWorks.__init__" (L2.inClass (top 3) 0) 0 N N,fl (ty "code") [(s "__init__" 244),(s "NoWorks.__init__" 245),(s "/claim/cut.py" 246),(i 10 0),(i 2 0),(i 0 0),(i 0 0),(i 3 0),(r 54),(b true),(i 181 0),(r 55),N,(r 56),(r 57),(r 58),(i 249 0),(i 10 0),(s "/claim/cut.py" 250)],fn (ty "function") "__init__" "NoWorks.__init__" (L2.inClass (top 3) 0) 3 (s "wearplan.errors" 187) (r 59),tp [(s "at" 252)],di [en P "__module__" 239 (s "wearplan.errors" 187),en P "__firstlineno__" 243 (i 8 242),en P "__init__" 251 (r 60),en P "__static_attributes__" 253 (r 61),en P "__doc__" 254 N] 2,co "NoWorks" [(r 24)] [(r 63),(r 24),(ty "ValueError"),(ty "Exception"),(ty "BaseException"),(ty "object")] 62 "NoWorks" true false [] [some (r 47),none,some (s "NoWorks" 232),some (s "NoWorks" 240),some (bi "ValueError.__new__"),some (b true)],fl (ty "super") [(r 63),(r 63),(r 63)],fl (ty "builtin_function_or_method") [(bi "object.__init_subclass__"),(r 63)]]
noncomputable def t3 (P:Params):BT:=insL (g3 P) 47 (setL [(3,o3_2 P),(12,o12_3 P),(24,o24_2 P)] (t2 P))
theorem pc3 (w:World) (os:OsState):segRun treeTable PW w 11 (some (r 6)) 1 246 (SharedT.abs ⟨t2 w.params,47,life,⟨[]⟩,drawn,232,os⟩) (piecesOf sts3 env cE ⟨4,0,7,20⟩ BB)=some (.next,(SharedT.abs ⟨t3 w.params,66,life,⟨[]⟩,drawn,257,os⟩),cE,⟨8,0,11,20⟩):=segRun_of (x6 (by kernel_rfl))
noncomputable def sts4:List Stmt:=[top 4]
noncomputable def e3_3 (P:Params):List DictEntry:=(e3_2 P)++[en P "NoStands" 272 (r 75)]
noncomputable def o3_3 (P:Params):Obj:=di (e3_3 P) 13
noncomputable def e12_4 (P:Params):List Value:=e12_3 P++[(i 12 0),(i 0 0),(r 71)]
noncomputable def o12_4 (P:Params):Obj:=fl N (e12_4 P)
noncomputable def o24_3 (P:Params):Obj:=co "WearError" [(ty "ValueError")] [(r 24),(ty "ValueError"),(ty "Exception"),(ty "BaseException"),(ty "object")] 23 "WearError" true false [(r 44),(r 63),(r 75)] [some (r 15),none,some (s "WearError" 189),some (s "WearError" 197),some (bi "ValueError.__new__"),some (b true)]
noncomputable def g4 (P:Params):List Obj:=[tp [(r 24)],fl (ty "builtin_function_or_method") [(bi "type.__prepare__"),(ty "type")],di [en P "__module__" 264 (s "wearplan.errors" 187),en P "__qualname__" 266 (s "NoStands" 265),en P "__firstlineno__" 268 (i 12 267),en P "__static_attributes__" 269 (r 73)] 4,tp [],fl N [],fl (ty "code") [(s "NoStands" 259),(s "NoStands" 260),(s "/claim/cut.py" 261),(i 12 0),(i 0 0),(i 0 0),(i 0 0),(i 0 0),(r 69),(b false),(i 181 0),(r 70),N,N,N,N,(i 262 0),(i 12 0),(s "/claim/cut.py" 263)],{ cls:=(ty "frame"),slots:=⟨[some (r 71),some (r 3),some (r 68),none,some (s "wearplan.errors" 187),none,some (r 0)]⟩ },tp [],di [en P "__module__" 264 (s "wearplan.errors" 187),en P "__firstlineno__" 268 (i 12 267),en P "__static_attributes__" 269 (r 73),en P "__doc__" 270 N] 2,co "NoStands" [(r 24)] [(r 75),(r 24),(ty "ValueError"),(ty "Exception"),(ty "BaseException"),(ty "object")] 74 "NoStands" true false [] [some (r 66),none,some (s "NoStands" 257),some (s "NoStands" 265),some (bi "ValueError.__new__"),some (b true)],fl (ty "super") [(r 75),(r 75),(r 75)],fl (ty "builtin_function_or_method") [(bi "object.__init_subclass__"),(r 75)]]
noncomputable def t4 (P:Params):BT:=insL (g4 P) 66 (setL [(3,o3_3 P),(12,o12_4 P),(24,o24_3 P)] (t3 P))
theorem pc4 (w:World) (os:OsState):segRun treeTable PW w 11 (some (r 6)) 1 214 (SharedT.abs ⟨t3 w.params,66,life,⟨[]⟩,drawn,257,os⟩) (piecesOf sts4 env cE ⟨8,0,11,20⟩ BB)=some (.next,(SharedT.abs ⟨t4 w.params,78,life,⟨[]⟩,drawn,273,os⟩),cE,⟨12,0,13,8⟩):=segRun_of (x6 (by kernel_rfl))
noncomputable def sts5:List Stmt:=[top 5]
noncomputable def e3_4 (P:Params):List DictEntry:=(e3_3 P)++[en P "NoRounds" 288 (r 87)]
noncomputable def o3_4 (P:Params):Obj:=di (e3_4 P) 14
noncomputable def e12_5 (P:Params):List Value:=e12_4 P++[(i 14 0),(i 0 0),(r 83)]
noncomputable def o12_5 (P:Params):Obj:=fl N (e12_5 P)
noncomputable def o24_4 (P:Params):Obj:=co "WearError" [(ty "ValueError")] [(r 24),(ty "ValueError"),(ty "Exception"),(ty "BaseException"),(ty "object")] 23 "WearError" true false [(r 44),(r 63),(r 75),(r 87)] [some (r 15),none,some (s "WearError" 189),some (s "WearError" 197),some (bi "ValueError.__new__"),some (b true)]
noncomputable def g5 (P:Params):List Obj:=[tp [(r 24)],fl (ty "builtin_function_or_method") [(bi "type.__prepare__"),(ty "type")],di [en P "__module__" 280 (s "wearplan.errors" 187),en P "__qualname__" 282 (s "NoRounds" 281),en P "__firstlineno__" 284 (i 14 283),en P "__static_attributes__" 285 (r 85)] 4,tp [],fl N [],fl (ty "code") [(s "NoRounds" 275),(s "NoRounds" 276),(s "/claim/cut.py" 277),(i 14 0),(i 0 0),(i 0 0),(i 0 0),(i 0 0),(r 81),(b false),(i 181 0),(r 82),N,N,N,N,(i 278 0),(i 14 0),(s "/claim/cut.py" 279)],{ cls:=(ty "frame"),slots:=⟨[some (r 83),some (r 3),some (r 80),none,some (s "wearplan.errors" 187),none,some (r 0)]⟩ },tp [],di [en P "__module__" 280 (s "wearplan.errors" 187),en P "__firstlineno__" 284 (i 14 283),en P "__static_attributes__" 285 (r 85),en P "__doc__" 286 N] 2,co "NoRounds" [(r 24)] [(r 87),(r 24),(ty "ValueError"),(ty "Exception"),(ty "BaseException"),(ty "object")] 86 "NoRounds" true false [] [some (r 78),none,some (s "NoRounds" 273),some (s "NoRounds" 281),some (bi "ValueError.__new__"),some (b true)],fl (ty "super") [(r 87),(r 87),(r 87)],fl (ty "builtin_function_or_method") [(bi "object.__init_subclass__"),(r 87)]]
noncomputable def t5 (P:Params):BT:=insL (g5 P) 78 (setL [(3,o3_4 P),(12,o12_5 P),(24,o24_4 P)] (t4 P))
theorem pc5 (w:World) (os:OsState):segRun treeTable PW w 11 (some (r 6)) 1 214 (SharedT.abs ⟨t4 w.params,78,life,⟨[]⟩,drawn,273,os⟩) (piecesOf sts5 env cE ⟨12,0,13,8⟩ BB)=some (.next,(SharedT.abs ⟨t5 w.params,90,life,⟨[]⟩,drawn,289,os⟩),cE,⟨14,0,15,8⟩):=segRun_of (x6 (by kernel_rfl))
noncomputable def sts6:List Stmt:=[top 6]
noncomputable def e3_5 (P:Params):List DictEntry:=(e3_4 P)++[en P "NoPlan" 313 (r 106)]
noncomputable def o3_5 (P:Params):Obj:=di (e3_5 P) 15
noncomputable def e12_6 (P:Params):List Value:=e12_5 P++[(i 16 0),(i 0 0),(r 95)]
noncomputable def o12_6 (P:Params):Obj:=fl N (e12_6 P)
noncomputable def o24_5 (P:Params):Obj:=co "WearError" [(ty "ValueError")] [(r 24),(ty "ValueError"),(ty "Exception"),(ty "BaseException"),(ty "object")] 23 "WearError" true false [(r 44),(r 63),(r 75),(r 87),(r 106)] [some (r 15),none,some (s "WearError" 189),some (s "WearError" 197),some (bi "ValueError.__new__"),some (b true)]
noncomputable def g6 (P:Params):List Obj:=[tp [(r 24)],fl (ty "builtin_function_or_method") [(bi "type.__prepare__"),(ty "type")],di [en P "__module__" 296 (s "wearplan.errors" 187),en P "__qualname__" 298 (s "NoPlan" 297),en P "__firstlineno__" 300 (i 16 299),en P "__init__" 308 (r 103),en P "__static_attributes__" 310 (r 104)] 5,tp [],fl N [(i 18 0),(i 4 0),(r 102)],fl (ty "code") [(s "NoPlan" 291),(s "NoPlan" 292),(s "/claim/cut.py" 293),(i 16 0),(i 0 0),(i 0 0),(i 0 0),(i 0 0),(r 93),(b false),(i 181 0),(r 94),N,N,N,N,(i 294 0),(i 16 0),(s "/claim/cut.py" 295)],{ cls:=(ty "frame"),slots:=⟨[some (r 95),some (r 3),some (r 92),none,some (s "wearplan.errors" 187),none,some (r 0)]⟩ },tp [],fl N [],tp [(s "self" 304),(s "at" 305)],tp [],fn N "__init__" "NoPlan.__init__" (L2.inClass (top 6) 0) 0 N N,fl (ty "code") [(s "__init__" 301),(s "NoPlan.__init__" 302),(s "/claim/cut.py" 303),(i 18 0),(i 2 0),(i 0 0),(i 0 0),(i 3 0),(r 97),(b true),(i 181 0),(r 98),N,(r 99),(r 100),(r 101),(i 306 0),(i 18 0),(s "/claim/cut.py" 307)],fn (ty "function") "__init__" "NoPlan.__init__" (L2.inClass (top 6) 0) 3 (s "wearplan.errors" 187) (r 102),tp [(s "at" 309)],di [en P "__module__" 296 (s "wearplan.errors" 187),en P "__firstlineno__" 300 (i 16 299),en P "__init__" 308 (r 103),en P "__static_attributes__" 310 (r 104),en P "__doc__" 311 N] 2,co "NoPlan" [(r 24)] [(r 106),(r 24),(ty "ValueError"),(ty "Exception"),(ty "BaseException"),(ty "object")] 105 "NoPlan" true false [] [some (r 90),none,some (s "NoPlan" 289),some (s "NoPlan" 297),some (bi "ValueError.__new__"),some (b true)],fl (ty "super") [(r 106),(r 106),(r 106)],fl (ty "builtin_function_or_method") [(bi "object.__init_subclass__"),(r 106)]]
noncomputable def t6 (P:Params):BT:=insL (g6 P) 90 (setL [(3,o3_5 P),(12,o12_6 P),(24,o24_5 P)] (t5 P))
theorem pc6 (w:World) (os:OsState):segRun treeTable PW w 11 (some (r 6)) 1 246 (SharedT.abs ⟨t5 w.params,90,life,⟨[]⟩,drawn,289,os⟩) (piecesOf sts6 env cE ⟨14,0,15,8⟩ BB)=some (.next,(SharedT.abs ⟨t6 w.params,109,life,⟨[]⟩,drawn,314,os⟩),cE,⟨16,0,19,20⟩):=segRun_of (x6 (by kernel_rfl))
noncomputable def sts7:List Stmt:=[top 7]
noncomputable def e3_6 (P:Params):List DictEntry:=(e3_5 P)++[en P "Shut" 338 (r 125)]
noncomputable def o3_6 (P:Params):Obj:=di (e3_6 P) 16
noncomputable def e12_7 (P:Params):List Value:=e12_6 P++[(i 20 0),(i 0 0),(r 114)]
noncomputable def o12_7 (P:Params):Obj:=fl N (e12_7 P)
noncomputable def o24_6 (P:Params):Obj:=co "WearError" [(ty "ValueError")] [(r 24),(ty "ValueError"),(ty "Exception"),(ty "BaseException"),(ty "object")] 23 "WearError" true false [(r 44),(r 63),(r 75),(r 87),(r 106),(r 125)] [some (r 15),none,some (s "WearError" 189),some (s "WearError" 197),some (bi "ValueError.__new__"),some (b true)]
noncomputable def g7 (P:Params):List Obj:=[tp [(r 24)],fl (ty "builtin_function_or_method") [(bi "type.__prepare__"),(ty "type")],di [en P "__module__" 321 (s "wearplan.errors" 187),en P "__qualname__" 323 (s "Shut" 322),en P "__firstlineno__" 325 (i 20 324),en P "__init__" 333 (r 122),en P "__static_attributes__" 335 (r 123)] 5,tp [],fl N [(i 22 0),(i 4 0),(r 121)],fl (ty "code") [(s "Shut" 316),(s "Shut" 317),(s "/claim/cut.py" 318),(i 20 0),(i 0 0),(i 0 0),(i 0 0),(i 0 0),(r 112),(b false),(i 181 0),(r 113),N,N,N,N,(i 319 0),(i 20 0),(s "/claim/cut.py" 320)],{ cls:=(ty "frame"),slots:=⟨[some (r 114),some (r 3),some (r 111),none,some (s "wearplan.errors" 187),none,some (r 0)]⟩ },tp [],fl N [],tp [(s "self" 329),(s "round_number" 330)],tp [],fn N "__init__" "Shut.__init__" (L2.inClass (top 7) 0) 0 N N,fl (ty "code") [(s "__init__" 326),(s "Shut.__init__" 327),(s "/claim/cut.py" 328),(i 22 0),(i 2 0),(i 0 0),(i 0 0),(i 3 0),(r 116),(b true),(i 181 0),(r 117),N,(r 118),(r 119),(r 120),(i 331 0),(i 22 0),(s "/claim/cut.py" 332)],fn (ty "function") "__init__" "Shut.__init__" (L2.inClass (top 7) 0) 3 (s "wearplan.errors" 187) (r 121),tp [(s "round_number" 334)],di [en P "__module__" 321 (s "wearplan.errors" 187),en P "__firstlineno__" 325 (i 20 324),en P "__init__" 333 (r 122),en P "__static_attributes__" 335 (r 123),en P "__doc__" 336 N] 2,co "Shut" [(r 24)] [(r 125),(r 24),(ty "ValueError"),(ty "Exception"),(ty "BaseException"),(ty "object")] 124 "Shut" true false [] [some (r 109),none,some (s "Shut" 314),some (s "Shut" 322),some (bi "ValueError.__new__"),some (b true)],fl (ty "super") [(r 125),(r 125),(r 125)],fl (ty "builtin_function_or_method") [(bi "object.__init_subclass__"),(r 125)]]
noncomputable def t7 (P:Params):BT:=insL (g7 P) 109 (setL [(3,o3_6 P),(12,o12_7 P),(24,o24_6 P)] (t6 P))
theorem pc7 (w:World) (os:OsState):segRun treeTable PW w 11 (some (r 6)) 1 246 (SharedT.abs ⟨t6 w.params,109,life,⟨[]⟩,drawn,314,os⟩) (piecesOf sts7 env cE ⟨16,0,19,20⟩ BB)=some (.next,(SharedT.abs ⟨t7 w.params,128,life,⟨[]⟩,drawn,339,os⟩),cE,⟨20,0,23,40⟩):=segRun_of (x6 (by kernel_rfl))
noncomputable def sts8:List Stmt:=[top 8]
noncomputable def e3_7 (P:Params):List DictEntry:=(e3_6 P)++[en P "Falls" 365 (r 144)]
noncomputable def o3_7 (P:Params):Obj:=di (e3_7 P) 17
noncomputable def e12_8 (P:Params):List Value:=e12_7 P++[(i 24 0),(i 0 0),(r 133)]
noncomputable def o12_8 (P:Params):Obj:=fl N (e12_8 P)
noncomputable def o24_7 (P:Params):Obj:=co "WearError" [(ty "ValueError")] [(r 24),(ty "ValueError"),(ty "Exception"),(ty "BaseException"),(ty "object")] 23 "WearError" true false [(r 44),(r 63),(r 75),(r 87),(r 106),(r 125),(r 144)] [some (r 15),none,some (s "WearError" 189),some (s "WearError" 197),some (bi "ValueError.__new__"),some (b true)]
noncomputable def g8 (P:Params):List Obj:=[tp [(r 24)],fl (ty "builtin_function_or_method") [(bi "type.__prepare__"),(ty "type")],di [en P "__module__" 346 (s "wearplan.errors" 187),en P "__qualname__" 348 (s "Falls" 347),en P "__firstlineno__" 350 (i 24 349),en P "__init__" 359 (r 141),en P "__static_attributes__" 362 (r 142)] 5,tp [],fl N [(i 26 0),(i 4 0),(r 140)],fl (ty "code") [(s "Falls" 341),(s "Falls" 342),(s "/claim/cut.py" 343),(i 24 0),(i 0 0),(i 0 0),(i 0 0),(i 0 0),(r 131),(b false),(i 181 0),(r 132),N,N,N,N,(i 344 0),(i 24 0),(s "/claim/cut.py" 345)],{ cls:=(ty "frame"),slots:=⟨[some (r 133),some (r 3),some (r 130),none,some (s "wearplan.errors" 187),none,some (r 0)]⟩ },tp [],fl N [],tp [(s "self" 354),(s "round_number" 355),(s "part_number" 356)],tp [],fn N "__init__" "Falls.__init__" (L2.inClass (top 8) 0) 0 N N,fl (ty "code") [(s "__init__" 351),(s "Falls.__init__" 352),(s "/claim/cut.py" 353),(i 26 0),(i 3 0),(i 0 0),(i 0 0),(i 3 0),(r 135),(b true),(i 181 0),(r 136),N,(r 137),(r 138),(r 139),(i 357 0),(i 26 0),(s "/claim/cut.py" 358)],fn (ty "function") "__init__" "Falls.__init__" (L2.inClass (top 8) 0) 3 (s "wearplan.errors" 187) (r 140),tp [(s "part_number" 360),(s "round_number" 361)],di [en P "__module__" 346 (s "wearplan.errors" 187),en P "__firstlineno__" 350 (i 24 349),en P "__init__" 359 (r 141),en P "__static_attributes__" 362 (r 142),en P "__doc__" 363 N] 2,co "Falls" [(r 24)] [(r 144),(r 24),(ty "ValueError"),(ty "Exception"),(ty "BaseException"),(ty "object")] 143 "Falls" true false [] [some (r 128),none,some (s "Falls" 339),some (s "Falls" 347),some (bi "ValueError.__new__"),some (b true)],fl (ty "super") [(r 144),(r 144),(r 144)],fl (ty "builtin_function_or_method") [(bi "object.__init_subclass__"),(r 144)]]
noncomputable def t8 (P:Params):BT:=insL (g8 P) 128 (setL [(3,o3_7 P),(12,o12_8 P),(24,o24_7 P)] (t7 P))
theorem pc8 (w:World) (os:OsState):segRun treeTable PW w 11 (some (r 6)) 1 248 (SharedT.abs ⟨t7 w.params,128,life,⟨[]⟩,drawn,339,os⟩) (piecesOf sts8 env cE ⟨20,0,23,40⟩ BB)=some (.next,(SharedT.abs ⟨t8 w.params,147,life,⟨[]⟩,drawn,366,os⟩),cE,⟨24,0,28,38⟩):=segRun_of (x6 (by kernel_rfl))
noncomputable def sts9:List Stmt:=[top 9]
noncomputable def e3_8 (P:Params):List DictEntry:=(e3_7 P)++[en P "NoneHolds" 381 (r 156)]
noncomputable def o3_8 (P:Params):Obj:=di (e3_8 P) 18
noncomputable def e12_9 (P:Params):List Value:=e12_8 P++[(i 29 0),(i 0 0),(r 152)]
noncomputable def o12_9 (P:Params):Obj:=fl N (e12_9 P)
noncomputable def o24_8 (P:Params):Obj:=co "WearError" [(ty "ValueError")] [(r 24),(ty "ValueError"),(ty "Exception"),(ty "BaseException"),(ty "object")] 23 "WearError" true false [(r 44),(r 63),(r 75),(r 87),(r 106),(r 125),(r 144),(r 156)] [some (r 15),none,some (s "WearError" 189),some (s "WearError" 197),some (bi "ValueError.__new__"),some (b true)]
noncomputable def g9 (P:Params):List Obj:=[tp [(r 24)],fl (ty "builtin_function_or_method") [(bi "type.__prepare__"),(ty "type")],di [en P "__module__" 373 (s "wearplan.errors" 187),en P "__qualname__" 375 (s "NoneHolds" 374),en P "__firstlineno__" 377 (i 29 376),en P "__static_attributes__" 378 (r 154)] 4,tp [],fl N [],fl (ty "code") [(s "NoneHolds" 368),(s "NoneHolds" 369),(s "/claim/cut.py" 370),(i 29 0),(i 0 0),(i 0 0),(i 0 0),(i 0 0),(r 150),(b false),(i 181 0),(r 151),N,N,N,N,(i 371 0),(i 29 0),(s "/claim/cut.py" 372)],{ cls:=(ty "frame"),slots:=⟨[some (r 152),some (r 3),some (r 149),none,some (s "wearplan.errors" 187),none,some (r 0)]⟩ },tp [],di [en P "__module__" 373 (s "wearplan.errors" 187),en P "__firstlineno__" 377 (i 29 376),en P "__static_attributes__" 378 (r 154),en P "__doc__" 379 N] 2,co "NoneHolds" [(r 24)] [(r 156),(r 24),(ty "ValueError"),(ty "Exception"),(ty "BaseException"),(ty "object")] 155 "NoneHolds" true false [] [some (r 147),none,some (s "NoneHolds" 366),some (s "NoneHolds" 374),some (bi "ValueError.__new__"),some (b true)],fl (ty "super") [(r 156),(r 156),(r 156)],fl (ty "builtin_function_or_method") [(bi "object.__init_subclass__"),(r 156)]]
noncomputable def t9 (P:Params):BT:=insL (g9 P) 147 (setL [(3,o3_8 P),(12,o12_9 P),(24,o24_8 P)] (t8 P))
theorem pc9 (w:World) (os:OsState):segRun treeTable PW w 11 (some (r 6)) 1 214 (SharedT.abs ⟨t8 w.params,147,life,⟨[]⟩,drawn,366,os⟩) (piecesOf sts9 env cE ⟨24,0,28,38⟩ BB)=some (.next,(SharedT.abs ⟨t9 w.params,159,life,⟨[]⟩,drawn,382,os⟩),cE,⟨29,0,30,8⟩):=segRun_of (x6 (by kernel_rfl))
noncomputable def sts10:List Stmt:=[top 10]
noncomputable def e3_9 (P:Params):List DictEntry:=(e3_8 P)++[en P "TooGreat" 406 (r 175)]
noncomputable def o3_9 (P:Params):Obj:=di (e3_9 P) 19
noncomputable def c0c (P:Params):List Value:=e12_9 P++[(i 31 0),(i 0 0),(r 164)]
noncomputable def o12_10 (P:Params):Obj:=fl N (c0c P)
noncomputable def o24_9 (P:Params):Obj:=co "WearError" [(ty "ValueError")] [(r 24),(ty "ValueError"),(ty "Exception"),(ty "BaseException"),(ty "object")] 23 "WearError" true false [(r 44),(r 63),(r 75),(r 87),(r 106),(r 125),(r 144),(r 156),(r 175)] [some (r 15),none,some (s "WearError" 189),some (s "WearError" 197),some (bi "ValueError.__new__"),some (b true)]
noncomputable def g10 (P:Params):List Obj:=[tp [(r 24)],fl (ty "builtin_function_or_method") [(bi "type.__prepare__"),(ty "type")],di [en P "__module__" 389 (s "wearplan.errors" 187),en P "__qualname__" 391 (s "TooGreat" 390),en P "__firstlineno__" 393 (i 31 392),en P "__init__" 401 (r 172),en P "__static_attributes__" 403 (r 173)] 5,tp [],fl N [(i 33 0),(i 4 0),(r 171)],fl (ty "code") [(s "TooGreat" 384),(s "TooGreat" 385),(s "/claim/cut.py" 386),(i 31 0),(i 0 0),(i 0 0),(i 0 0),(i 0 0),(r 162),(b false),(i 181 0),(r 163),N,N,N,N,(i 387 0),(i 31 0),(s "/claim/cut.py" 388)],{ cls:=(ty "frame"),slots:=⟨[some (r 164),some (r 3),some (r 161),none,some (s "wearplan.errors" 187),none,some (r 0)]⟩ },tp [],fl N [],tp [(s "self" 397),(s "most" 398)],tp [],fn N "__init__" "TooGreat.__init__" (L2.inClass (top 10) 0) 0 N N,fl (ty "code") [(s "__init__" 394),(s "TooGreat.__init__" 395),(s "/claim/cut.py" 396),(i 33 0),(i 2 0),(i 0 0),(i 0 0),(i 3 0),(r 166),(b true),(i 181 0),(r 167),N,(r 168),(r 169),(r 170),(i 399 0),(i 33 0),(s "/claim/cut.py" 400)],fn (ty "function") "__init__" "TooGreat.__init__" (L2.inClass (top 10) 0) 3 (s "wearplan.errors" 187) (r 171),tp [(s "most" 402)],di [en P "__module__" 389 (s "wearplan.errors" 187),en P "__firstlineno__" 393 (i 31 392),en P "__init__" 401 (r 172),en P "__static_attributes__" 403 (r 173),en P "__doc__" 404 N] 2,co "TooGreat" [(r 24)] [(r 175),(r 24),(ty "ValueError"),(ty "Exception"),(ty "BaseException"),(ty "object")] 174 "TooGreat" true false [] [some (r 159),none,some (s "TooGreat" 382),some (s "TooGreat" 390),some (bi "ValueError.__new__"),some (b true)],fl (ty "super") [(r 175),(r 175),(r 175)],fl (ty "builtin_function_or_method") [(bi "object.__init_subclass__"),(r 175)]]
noncomputable def t10 (P:Params):BT:=insL (g10 P) 159 (setL [(3,o3_9 P),(12,o12_10 P),(24,o24_9 P)] (t9 P))
theorem pc10 (w:World) (os:OsState):segRun treeTable PW w 11 (some (r 6)) 1 246 (SharedT.abs ⟨t9 w.params,159,life,⟨[]⟩,drawn,382,os⟩) (piecesOf sts10 env cE ⟨29,0,30,8⟩ BB)=some (.next,(SharedT.abs ⟨t10 w.params,178,life,⟨[]⟩,drawn,407,os⟩),cE,⟨31,0,34,24⟩):=segRun_of (x6 (by kernel_rfl))
noncomputable def sts11:List Stmt:=[top 11]
noncomputable def e3_10 (P:Params):List DictEntry:=(e3_9 P)++[en P "NoPaper" 422 (r 187)]
noncomputable def o3_10 (P:Params):Obj:=di (e3_10 P) 20
noncomputable def c0b (P:Params):List Value:=c0c P++[(i 35 0),(i 0 0),(r 183)]
noncomputable def o12_11 (P:Params):Obj:=fl N (c0b P)
noncomputable def o24_10 (P:Params):Obj:=co "WearError" [(ty "ValueError")] [(r 24),(ty "ValueError"),(ty "Exception"),(ty "BaseException"),(ty "object")] 23 "WearError" true false [(r 44),(r 63),(r 75),(r 87),(r 106),(r 125),(r 144),(r 156),(r 175),(r 187)] [some (r 15),none,some (s "WearError" 189),some (s "WearError" 197),some (bi "ValueError.__new__"),some (b true)]
noncomputable def g11 (P:Params):List Obj:=[tp [(r 24)],fl (ty "builtin_function_or_method") [(bi "type.__prepare__"),(ty "type")],di [en P "__module__" 414 (s "wearplan.errors" 187),en P "__qualname__" 416 (s "NoPaper" 415),en P "__firstlineno__" 418 (i 35 417),en P "__static_attributes__" 419 (r 185)] 4,tp [],fl N [],fl (ty "code") [(s "NoPaper" 409),(s "NoPaper" 410),(s "/claim/cut.py" 411),(i 35 0),(i 0 0),(i 0 0),(i 0 0),(i 0 0),(r 181),(b false),(i 181 0),(r 182),N,N,N,N,(i 412 0),(i 35 0),(s "/claim/cut.py" 413)],{ cls:=(ty "frame"),slots:=⟨[some (r 183),some (r 3),some (r 180),none,some (s "wearplan.errors" 187),none,some (r 0)]⟩ },tp [],di [en P "__module__" 414 (s "wearplan.errors" 187),en P "__firstlineno__" 418 (i 35 417),en P "__static_attributes__" 419 (r 185),en P "__doc__" 420 N] 2,co "NoPaper" [(r 24)] [(r 187),(r 24),(ty "ValueError"),(ty "Exception"),(ty "BaseException"),(ty "object")] 186 "NoPaper" true false [] [some (r 178),none,some (s "NoPaper" 407),some (s "NoPaper" 415),some (bi "ValueError.__new__"),some (b true)],fl (ty "super") [(r 187),(r 187),(r 187)],fl (ty "builtin_function_or_method") [(bi "object.__init_subclass__"),(r 187)]]
noncomputable def t11 (P:Params):BT:=insL (g11 P) 178 (setL [(3,o3_10 P),(12,o12_11 P),(24,o24_10 P)] (t10 P))
theorem pc11 (w:World) (os:OsState):segRun treeTable PW w 11 (some (r 6)) 1 214 (SharedT.abs ⟨t10 w.params,178,life,⟨[]⟩,drawn,407,os⟩) (piecesOf sts11 env cE ⟨31,0,34,24⟩ BB)=some (.next,(SharedT.abs ⟨t11 w.params,190,life,⟨[]⟩,drawn,423,os⟩),cE,⟨35,0,36,8⟩):=segRun_of (x6 (by kernel_rfl))
noncomputable def sts12:List Stmt:=[top 12]
noncomputable def e3_11 (P:Params):List DictEntry:=(e3_10 P)++[en P "NoText" 447 (r 206)]
noncomputable def o3_11 (P:Params):Obj:=di (e3_11 P) 21
noncomputable def c0a (P:Params):List Value:=c0b P++[(i 37 0),(i 0 0),(r 195)]
noncomputable def o12_12 (P:Params):Obj:=fl N (c0a P)
noncomputable def o24_11 (P:Params):Obj:=co "WearError" [(ty "ValueError")] [(r 24),(ty "ValueError"),(ty "Exception"),(ty "BaseException"),(ty "object")] 23 "WearError" true false [(r 44),(r 63),(r 75),(r 87),(r 106),(r 125),(r 144),(r 156),(r 175),(r 187),(r 206)] [some (r 15),none,some (s "WearError" 189),some (s "WearError" 197),some (bi "ValueError.__new__"),some (b true)]
noncomputable def g12 (P:Params):List Obj:=[tp [(r 24)],fl (ty "builtin_function_or_method") [(bi "type.__prepare__"),(ty "type")],di [en P "__module__" 430 (s "wearplan.errors" 187),en P "__qualname__" 432 (s "NoText" 431),en P "__firstlineno__" 434 (i 37 433),en P "__init__" 442 (r 203),en P "__static_attributes__" 444 (r 204)] 5,tp [],fl N [(i 39 0),(i 4 0),(r 202)],fl (ty "code") [(s "NoText" 425),(s "NoText" 426),(s "/claim/cut.py" 427),(i 37 0),(i 0 0),(i 0 0),(i 0 0),(i 0 0),(r 193),(b false),(i 181 0),(r 194),N,N,N,N,(i 428 0),(i 37 0),(s "/claim/cut.py" 429)],{ cls:=(ty "frame"),slots:=⟨[some (r 195),some (r 3),some (r 192),none,some (s "wearplan.errors" 187),none,some (r 0)]⟩ },tp [],fl N [],tp [(s "self" 438),(s "row" 439)],tp [],fn N "__init__" "NoText.__init__" (L2.inClass (top 12) 0) 0 N N,fl (ty "code") [(s "__init__" 435),(s "NoText.__init__" 436),(s "/claim/cut.py" 437),(i 39 0),(i 2 0),(i 0 0),(i 0 0),(i 3 0),(r 197),(b true),(i 181 0),(r 198),N,(r 199),(r 200),(r 201),(i 440 0),(i 39 0),(s "/claim/cut.py" 441)],fn (ty "function") "__init__" "NoText.__init__" (L2.inClass (top 12) 0) 3 (s "wearplan.errors" 187) (r 202),tp [(s "row" 443)],di [en P "__module__" 430 (s "wearplan.errors" 187),en P "__firstlineno__" 434 (i 37 433),en P "__init__" 442 (r 203),en P "__static_attributes__" 444 (r 204),en P "__doc__" 445 N] 2,co "NoText" [(r 24)] [(r 206),(r 24),(ty "ValueError"),(ty "Exception"),(ty "BaseException"),(ty "object")] 205 "NoText" true false [] [some (r 190),none,some (s "NoText" 423),some (s "NoText" 431),some (bi "ValueError.__new__"),some (b true)],fl (ty "super") [(r 206),(r 206),(r 206)],fl (ty "builtin_function_or_method") [(bi "object.__init_subclass__"),(r 206)]]
noncomputable def t12 (P:Params):BT:=insL (g12 P) 190 (setL [(3,o3_11 P),(12,o12_12 P),(24,o24_11 P)] (t11 P))
theorem pc12 (w:World) (os:OsState):segRun treeTable PW w 11 (some (r 6)) 1 246 (SharedT.abs ⟨t11 w.params,190,life,⟨[]⟩,drawn,423,os⟩) (piecesOf sts12 env cE ⟨35,0,36,8⟩ BB)=some (.next,(SharedT.abs ⟨t12 w.params,209,life,⟨[]⟩,drawn,448,os⟩),cE,⟨37,0,40,22⟩):=segRun_of (x6 (by kernel_rfl))
noncomputable def sts13:List Stmt:=[top 13,top 14,top 15,top 16,top 17,top 18,top 19,top 20,top 21,top 22]
noncomputable def e3_12 (P:Params):List DictEntry:=((e3_11 P).set 0 (en P "__name__" 165 (s "wearplan.parts" 501)))++[en P "NotTold" 463 (r 218),en P "is_number" 472 (r 227),en P "is_whole" 481 (r 234),en P "is_row" 488 (r 241),en P "is_whole_row" 494 (r 246),en P "is_rising_row" 500 (r 251),en P "GREATEST_FIRST" 504 (i 47 503),en P "MOST_ROUNDS" 506 (i 24 505)]
noncomputable def o3_12 (P:Params):Obj:=di (e3_12 P) 29
noncomputable def b0z (P:Params):List Value:=c0a P++[(i 41 0),(i 0 0),(r 214),(i 44 0),(i 0 0),(r 226),(i 46 0),(i 0 0),(r 233),(i 48 0),(i 0 0),(r 240),(i 50 0),(i 0 0),(r 245),(i 54 0),(i 0 0),(r 250)]
noncomputable def o12_13 (P:Params):Obj:=fl N (b0z P)
noncomputable def g0g (P:Params):Obj:=co "WearError" [(ty "ValueError")] [(r 24),(ty "ValueError"),(ty "Exception"),(ty "BaseException"),(ty "object")] 23 "WearError" true false [(r 44),(r 63),(r 75),(r 87),(r 106),(r 125),(r 144),(r 156),(r 175),(r 187),(r 206),(r 218)] [some (r 15),none,some (s "WearError" 189),some (s "WearError" 197),some (bi "ValueError.__new__"),some (b true)]
noncomputable def g13 (P:Params):List Obj:=(tp [(r 24)] :: fl (ty "builtin_function_or_method") [(bi "type.__prepare__"),(ty "type")] :: di [en P "__module__" 455 (s "wearplan.errors" 187),en P "__qualname__" 457 (s "NotTold" 456),en P "__firstlineno__" 459 (i 41 458),en P "__static_attributes__" 460 (r 216)] 4 :: tp [] :: fl N [] :: fl (ty "code") [(s "NotTold" 450),(s "NotTold" 451),(s "/claim/cut.py" 452),(i 41 0),(i 0 0),(i 0 0),(i 0 0),(i 0 0),(r 212),(b false),(i 181 0),(r 213),N,N,N,N,(i 453 0),(i 41 0),(s "/claim/cut.py" 454)] :: { cls:=(ty "frame"),slots:=⟨[some (r 214),some (r 3),some (r 211),none,some (s "wearplan.errors" 187),none,some (r 0)]⟩ } :: tp [] :: di [en P "__module__" 455 (s "wearplan.errors" 187),en P "__firstlineno__" 459 (i 41 458),en P "__static_attributes__" 460 (r 216),en P "__doc__" 461 N] 2 :: co "NotTold" [(r 24)] [(r 218),(r 24),(ty "ValueError"),(ty "Exception"),(ty "BaseException"),(ty "object")] 217 "NotTold" true false [] [some (r 209),none,some (s "NotTold" 448),some (s "NotTold" 456),some (bi "ValueError.__new__"),some (b true)] :: fl (ty "super") [(r 218),(r 218),(r 218)] :: fl (ty "builtin_function_or_method") [(bi "object.__init_subclass__"),(r 218)] :: tp [] :: fl N [] :: tp [(s "thing" 469)] :: tp [] :: fn N "is_number" "is_number" (top 15) 0 N N :: fl (ty "code") [(s "is_number" 466),(s "is_number" 467),(s "/claim/cut.py" 468),(i 44 0),(i 1 0),(i 0 0),(i 0 0),(i 3 0),(r 221),(b true),(i 181 0),(r 222),N,(r 223),(r 224),(r 225),(i 470 0),(i 44 0),(s "/claim/cut.py" 471)] :: fn (ty "function") "is_number" "is_number" (top 15) 3 (s "wearplan.signs" 464) (r 226) :: tp [] :: fl N [] :: tp [(s "thing" 476),(s "least" 477),(s "most" 478)] :: tp [] :: fn N "is_whole" "is_whole" (top 16) 0 N N :: fl (ty "code") [(s "is_whole" 473),(s "is_whole" 474),(s "/claim/cut.py" 475),(i 46 0),(i 3 0),(i 0 0),(i 0 0),(i 3 0),(r 228),(b true),(i 181 0),(r 229),N,(r 230),(r 231),(r 232),(i 479 0),(i 46 0),(s "/claim/cut.py" 480)] :: fn (ty "function") "is_whole" "is_whole" (top 16) 3 (s "wearplan.signs" 464) (r 233) :: tp [] :: fl N [] :: tp [(s "thing" 485)] :: tp [] :: fn N "is_row" "is_row" (top 17) 0 N N :: fl (ty "code") [(s "is_row" 482),(s "is_row" 483),(s "/claim/cut.py" 484),(i 48 0),(i 1 0),(i 0 0),(i 0 0),(i 3 0),(r 235),(b true),(i 181 0),(r 236),N,(r 237),(r 238),(r 239),(i 486 0),(i 48 0),(s "/claim/cut.py" 487)] :: fn (ty "function") "is_row" "is_row" (top 17) 3 (s "wearplan.signs" 464) (r 240) :: tp [] :: fl N [] :: fn N "is_whole_row" "is_whole_row" (top 18) 0 N N :: fl (ty "code") [(s "is_whole_row" 489),(s "is_whole_row" 490),(s "/claim/cut.py" 491),(i 50 0),(i 5 0),(i 0 0),(i 0 0),(i 3 0),(r 242),(b true),(i 181 0),(r 243),N,N,N,(r 244),(i 492 0),(i 50 0),(s "/claim/cut.py" 493)] :: fn (ty "function") "is_whole_row" "is_whole_row" (top 18) 3 (s "wearplan.signs" 464) (r 245) :: tp [] :: fl N [] :: fn N "is_rising_row" "is_rising_row" (top 19) 0 N N :: fl (ty "code") [(s "is_rising_row" 495),(s "is_rising_row" 496),(s "/claim/cut.py" 497),(i 54 0),(i 3 0),(i 0 0),(i 0 0),(i 3 0),(r 247),(b true),(i 181 0),(r 248),N,N,N,(r 249),(i 498 0),(i 54 0),(s "/claim/cut.py" 499)] :: fn (ty "function") "is_rising_row" "is_rising_row" (top 19) 3 (s "wearplan.signs" 464) (r 250) :: [])
noncomputable def t13 (P:Params):BT:=insL (g13 P) 209 (setL [(3,o3_12 P),(12,o12_13 P),(24,g0g P)] (t12 P))
theorem pc13 (w:World) (os:OsState):segRun treeTable PW w 11 (some (r 6)) 1 391 (SharedT.abs ⟨t12 w.params,209,life,⟨[]⟩,drawn,448,os⟩) (piecesOf sts13 env cE ⟨37,0,40,22⟩ BB)=some (.next,(SharedT.abs ⟨t13 w.params,252,life,⟨[]⟩,drawn,507,os⟩),cE,⟨60,0,60,11⟩):=segRun_of (x6 (by kernel_rfl))
noncomputable def sts14:List Stmt:=[top 23,top 24,top 25,top 26,top 27,top 28,top 29,top 30]
noncomputable def e3_13 (P:Params):List DictEntry:=((e3_12 P).set 0 (en P "__name__" 165 (s "wearplan.works" 573)))++[en P "Part" 541 (r 268),en P "loss" 549 (r 279),en P "is_stand" 557 (r 286),en P "check_stand" 565 (r 293),en P "check_first" 572 (r 300),en P "GREATEST_SHUT" 576 (i 47 575),en P "is_shut" 583 (r 307)]
noncomputable def o3_13 (P:Params):Obj:=di (e3_13 P) 36
noncomputable def b0y (P:Params):List Value:=b0z P++[(i 61 0),(i 0 0),(r 257),(i 76 0),(i 0 0),(r 278),(i 78 0),(i 0 0),(r 285),(i 80 0),(i 0 0),(r 292),(i 83 0),(i 0 0),(r 299),(i 88 0),(i 0 0),(r 306)]
noncomputable def o12_14 (P:Params):Obj:=fl N (b0y P)
noncomputable def g14 (P:Params):List Obj:=(tp [] :: fl (ty "builtin_function_or_method") [(bi "type.__prepare__"),(ty "type")] :: di [en P "__module__" 514 (s "wearplan.parts" 501),en P "__qualname__" 516 (s "Part" 515),en P "__firstlineno__" 518 (i 61 517),en P "__init__" 529 (r 265),en P "__static_attributes__" 534 (r 266)] 5 :: tp [] :: fl N [(i 63 0),(i 4 0),(r 264)] :: fl (ty "code") [(s "Part" 509),(s "Part" 510),(s "/claim/cut.py" 511),(i 61 0),(i 0 0),(i 0 0),(i 0 0),(i 0 0),(r 255),(b false),(i 181 0),(r 256),N,N,N,N,(i 512 0),(i 61 0),(s "/claim/cut.py" 513)] :: { cls:=(ty "frame"),slots:=⟨[some (r 257),some (r 3),some (r 254),none,some (s "wearplan.parts" 501),none,some (r 0)]⟩ } :: tp [] :: fl N [] :: tp [(s "self" 522),(s "full" 523),(s "mark" 524),(s "wear" 525),(s "price" 526)] :: tp [] :: fn N "__init__" "Part.__init__" (L2.inClass (top 23) 0) 0 N N :: fl (ty "code") [(s "__init__" 519),(s "Part.__init__" 520),(s "/claim/cut.py" 521),(i 63 0),(i 5 0),(i 0 0),(i 0 0),(i 3 0),(r 259),(b true),(i 181 0),(r 260),N,(r 261),(r 262),(r 263),(i 527 0),(i 63 0),(s "/claim/cut.py" 528)] :: fn (ty "function") "__init__" "Part.__init__" (L2.inClass (top 23) 0) 3 (s "wearplan.parts" 501) (r 264) :: tp [(s "full" 530),(s "mark" 531),(s "price" 532),(s "wear" 533)] :: di [en P "__module__" 514 (s "wearplan.parts" 501),en P "__firstlineno__" 518 (i 61 517),en P "__init__" 529 (r 265),en P "__static_attributes__" 534 (r 266),en P "__dict__" 536 (r 269),en P "__weakref__" 538 (r 270),en P "__doc__" 539 N] 4 :: co "Part" [(ty "object")] [(r 268),(ty "object")] 267 "Part" true false [] [none,none,some (s "Part" 507),some (s "Part" 515),some (bi "object.__new__"),some (b true)] :: fl (ty "getset_descriptor") [(s "__dict__" 535),(r 268),(bi "function.__dict__"),(bi "function.__dict__#set")] :: fl (ty "getset_descriptor") [(s "__weakref__" 537),(r 268),(bi "ExceptionGroup.__weakref__"),N] :: fl (ty "super") [(r 268),(r 268),(r 268)] :: fl (ty "builtin_function_or_method") [(bi "object.__init_subclass__"),(r 268)] :: tp [] :: fl N [] :: tp [(s "part" 545),(s "round_number" 546)] :: tp [] :: fn N "loss" "loss" (top 24) 0 N N :: fl (ty "code") [(s "loss" 542),(s "loss" 543),(s "/claim/cut.py" 544),(i 76 0),(i 2 0),(i 0 0),(i 0 0),(i 3 0),(r 273),(b true),(i 181 0),(r 274),N,(r 275),(r 276),(r 277),(i 547 0),(i 76 0),(s "/claim/cut.py" 548)] :: fn (ty "function") "loss" "loss" (top 24) 3 (s "wearplan.parts" 501) (r 278) :: tp [] :: fl N [] :: tp [(s "part" 553),(s "thing" 554)] :: tp [] :: fn N "is_stand" "is_stand" (top 25) 0 N N :: fl (ty "code") [(s "is_stand" 550),(s "is_stand" 551),(s "/claim/cut.py" 552),(i 78 0),(i 2 0),(i 0 0),(i 0 0),(i 3 0),(r 280),(b true),(i 181 0),(r 281),N,(r 282),(r 283),(r 284),(i 555 0),(i 78 0),(s "/claim/cut.py" 556)] :: fn (ty "function") "is_stand" "is_stand" (top 25) 3 (s "wearplan.parts" 501) (r 285) :: tp [] :: fl N [] :: tp [(s "part" 561),(s "stand" 562)] :: tp [] :: fn N "check_stand" "check_stand" (top 26) 0 N N :: fl (ty "code") [(s "check_stand" 558),(s "check_stand" 559),(s "/claim/cut.py" 560),(i 80 0),(i 2 0),(i 0 0),(i 0 0),(i 3 0),(r 287),(b true),(i 181 0),(r 288),N,(r 289),(r 290),(r 291),(i 563 0),(i 80 0),(s "/claim/cut.py" 564)] :: fn (ty "function") "check_stand" "check_stand" (top 26) 3 (s "wearplan.parts" 501) (r 292) :: tp [] :: fl N [] :: tp [(s "first" 569)] :: tp [] :: fn N "check_first" "check_first" (top 27) 0 N N :: fl (ty "code") [(s "check_first" 566),(s "check_first" 567),(s "/claim/cut.py" 568),(i 83 0),(i 1 0),(i 0 0),(i 0 0),(i 3 0),(r 294),(b true),(i 181 0),(r 295),N,(r 296),(r 297),(r 298),(i 570 0),(i 83 0),(s "/claim/cut.py" 571)] :: fn (ty "function") "check_first" "check_first" (top 27) 3 (s "wearplan.parts" 501) (r 299) :: tp [] :: fl N [] :: tp [(s "thing" 580)] :: tp [] :: fn N "is_shut" "is_shut" (top 30) 0 N N :: fl (ty "code") [(s "is_shut" 577),(s "is_shut" 578),(s "/claim/cut.py" 579),(i 88 0),(i 1 0),(i 0 0),(i 0 0),(i 3 0),(r 301),(b true),(i 181 0),(r 302),N,(r 303),(r 304),(r 305),(i 581 0),(i 88 0),(s "/claim/cut.py" 582)] :: fn (ty "function") "is_shut" "is_shut" (top 30) 3 (s "wearplan.works" 573) (r 306) :: [])
noncomputable def t14 (P:Params):BT:=insL (g14 P) 252 (setL [(3,o3_13 P),(12,o12_14 P)] (t13 P))
theorem pc14 (w:World) (os:OsState):segRun treeTable PW w 11 (some (r 6)) 1 395 (SharedT.abs ⟨t13 w.params,252,life,⟨[]⟩,drawn,507,os⟩) (piecesOf sts14 env cE ⟨60,0,60,11⟩ BB)=some (.next,(SharedT.abs ⟨t14 w.params,308,life,⟨[]⟩,drawn,584,os⟩),cE,⟨88,0,89,49⟩):=segRun_of (x6 (by kernel_rfl))
noncomputable def sts15:List Stmt:=[top 31,top 32,top 33,top 34,top 35,top 36,top 37,top 38,top 39,top 40,top 41,top 42,top 43,top 44]
noncomputable def e3_14 (P:Params):List DictEntry:=((e3_13 P).set 0 (en P "__name__" 165 (s "law_wearplan_k16_single_least" 608)))++[en P "GREATEST_PRICE" 587 (i 9999 586),en P "paid_behind" 593 (r 312),en P "single_least" 607 (r 319),en P "_law_mixed" 618 (r 326),en P "_law_deck" 631 (r 333),en P "_law_next" 638 (r 340),en P "_law_part" 653 (r 347),en P "_law_lost" 661 (r 354),en P "_law_made" 669 (r 361),en P "_law_kinds" 677 (r 368),en P "_law_is_just" 685 (r 375),en P "_law_whole" 692 (r 382)]
noncomputable def o3_14 (P:Params):Obj:=di (e3_14 P) 48
noncomputable def b0x (P:Params):List Value:=b0y P++[(i 92 0),(i 0 0),(r 311),(i 102 0),(i 0 0),(r 318),(i 114 0),(i 0 0),(r 325),(i 122 0),(i 0 0),(r 332),(i 137 0),(i 0 0),(r 339),(i 139 0),(i 0 0),(r 346),(i 151 0),(i 0 0),(r 353),(i 153 0),(i 0 0),(r 360),(i 157 0),(i 0 0),(r 367),(i 165 0),(i 0 0),(r 374),(i 169 0),(i 0 0),(r 381)]
noncomputable def o12_15 (P:Params):Obj:=fl N (b0x P)
noncomputable def g15 (P:Params):List Obj:=(tp [] :: fl N [] :: fn N "paid_behind" "paid_behind" (top 33) 0 N N :: fl (ty "code") [(s "paid_behind" 588),(s "paid_behind" 589),(s "/claim/cut.py" 590),(i 92 0),(i 4 0),(i 0 0),(i 0 0),(i 3 0),(r 308),(b true),(i 181 0),(r 309),N,N,N,(r 310),(i 591 0),(i 92 0),(s "/claim/cut.py" 592)] :: fn (ty "function") "paid_behind" "paid_behind" (top 33) 3 (s "wearplan.prices" 584) (r 311) :: tp [] :: fl N [] :: tp [(s "part" 597),(s "stand" 598),(s "first" 599),(s "prices" 600),(s "shut" 601),(s "paid" 602),(s "round_number" 603),(s "price" 604)] :: tp [] :: fn N "single_least" "single_least" (top 34) 0 N N :: fl (ty "code") [(s "single_least" 594),(s "single_least" 595),(s "/claim/cut.py" 596),(i 102 0),(i 5 0),(i 0 0),(i 0 0),(i 3 0),(r 313),(b true),(i 181 0),(r 314),N,(r 315),(r 316),(r 317),(i 605 0),(i 102 0),(s "/claim/cut.py" 606)] :: fn (ty "function") "single_least" "single_least" (top 34) 3 (s "wearplan.prices" 584) (r 318) :: tp [] :: fl N [] :: tp [(s "_law_cell" 613),(s "_law_k" 614),(s "_law_number" 615)] :: tp [] :: fn N "_law_mixed" "_law_mixed" (top 36) 0 N N :: fl (ty "code") [(s "_law_mixed" 610),(s "_law_mixed" 611),(s "/claim/cut.py" 612),(i 114 0),(i 2 0),(i 0 0),(i 0 0),(i 3 0),(r 320),(b true),(i 181 0),(r 321),N,(r 322),(r 323),(r 324),(i 616 0),(i 114 0),(s "/claim/cut.py" 617)] :: fn (ty "function") "_law_mixed" "_law_mixed" (top 36) 3 (s "law_wearplan_k16_single_least" 608) (r 325) :: tp [] :: fl N [] :: tp [(s "_law_script" 622),(s "_law_many" 623),(s "_law_cells" 624),(s "_law_found" 625),(s "_law_k" 626),(s "_law_cell" 627),(s "_law_rest" 628)] :: tp [] :: fn N "_law_deck" "_law_deck" (top 37) 0 N N :: fl (ty "code") [(s "_law_deck" 619),(s "_law_deck" 620),(s "/claim/cut.py" 621),(i 122 0),(i 2 0),(i 0 0),(i 0 0),(i 3 0),(r 327),(b true),(i 181 0),(r 328),N,(r 329),(r 330),(r 331),(i 629 0),(i 122 0),(s "/claim/cut.py" 630)] :: fn (ty "function") "_law_deck" "_law_deck" (top 37) 3 (s "law_wearplan_k16_single_least" 608) (r 332) :: tp [] :: fl N [] :: tp [(s "_law_deck_here" 635)] :: tp [] :: fn N "_law_next" "_law_next" (top 38) 0 N N :: fl (ty "code") [(s "_law_next" 632),(s "_law_next" 633),(s "/claim/cut.py" 634),(i 137 0),(i 1 0),(i 0 0),(i 0 0),(i 3 0),(r 334),(b true),(i 181 0),(r 335),N,(r 336),(r 337),(r 338),(i 636 0),(i 137 0),(s "/claim/cut.py" 637)] :: fn (ty "function") "_law_next" "_law_next" (top 38) 3 (s "law_wearplan_k16_single_least" 608) (r 339) :: tp [] :: fl N [] :: tp [(s "_law_deck_here" 642),(s "_law_most" 643),(s "_law_wears" 644),(s "_law_full" 645),(s "_law_number" 646),(s "_law_mark" 647),(s "_law_wear" 648),(s "_law_k" 649),(s "_law_gone" 650)] :: tp [] :: fn N "_law_part" "_law_part" (top 39) 0 N N :: fl (ty "code") [(s "_law_part" 639),(s "_law_part" 640),(s "/claim/cut.py" 641),(i 139 0),(i 3 0),(i 0 0),(i 0 0),(i 3 0),(r 341),(b true),(i 181 0),(r 342),N,(r 343),(r 344),(r 345),(i 651 0),(i 139 0),(s "/claim/cut.py" 652)] :: fn (ty "function") "_law_part" "_law_part" (top 39) 3 (s "law_wearplan_k16_single_least" 608) (r 346) :: tp [] :: fl N [] :: tp [(s "_law_row" 657),(s "_law_number" 658)] :: tp [] :: fn N "_law_lost" "_law_lost" (top 40) 0 N N :: fl (ty "code") [(s "_law_lost" 654),(s "_law_lost" 655),(s "/claim/cut.py" 656),(i 151 0),(i 2 0),(i 0 0),(i 0 0),(i 3 0),(r 348),(b true),(i 181 0),(r 349),N,(r 350),(r 351),(r 352),(i 659 0),(i 151 0),(s "/claim/cut.py" 660)] :: fn (ty "function") "_law_lost" "_law_lost" (top 40) 3 (s "law_wearplan_k16_single_least" 608) (r 353) :: tp [] :: fl N [] :: tp [(s "_law_row" 665),(s "_law_sort" 666)] :: tp [] :: fn N "_law_made" "_law_made" (top 41) 0 N N :: fl (ty "code") [(s "_law_made" 662),(s "_law_made" 663),(s "/claim/cut.py" 664),(i 153 0),(i 2 0),(i 0 0),(i 0 0),(i 3 0),(r 355),(b true),(i 181 0),(r 356),N,(r 357),(r 358),(r 359),(i 667 0),(i 153 0),(s "/claim/cut.py" 668)] :: fn (ty "function") "_law_made" "_law_made" (top 41) 3 (s "law_wearplan_k16_single_least" 608) (r 360) :: tp [] :: fl N [] :: tp [(s "_law_error" 673),(s "_law_found" 674)] :: tp [] :: fn N "_law_kinds" "_law_kinds" (top 42) 0 N N :: fl (ty "code") [(s "_law_kinds" 670),(s "_law_kinds" 671),(s "/claim/cut.py" 672),(i 157 0),(i 1 0),(i 0 0),(i 0 0),(i 3 0),(r 362),(b true),(i 181 0),(r 363),N,(r 364),(r 365),(r 366),(i 675 0),(i 157 0),(s "/claim/cut.py" 676)] :: fn (ty "function") "_law_kinds" "_law_kinds" (top 42) 3 (s "law_wearplan_k16_single_least" 608) (r 367) :: tp [] :: fl N [] :: tp [(s "_law_error" 681),(s "_law_told" 682)] :: tp [] :: fn N "_law_is_just" "_law_is_just" (top 43) 0 N N :: fl (ty "code") [(s "_law_is_just" 678),(s "_law_is_just" 679),(s "/claim/cut.py" 680),(i 165 0),(i 2 0),(i 0 0),(i 0 0),(i 3 0),(r 369),(b true),(i 181 0),(r 370),N,(r 371),(r 372),(r 373),(i 683 0),(i 165 0),(s "/claim/cut.py" 684)] :: fn (ty "function") "_law_is_just" "_law_is_just" (top 43) 3 (s "law_wearplan_k16_single_least" 608) (r 374) :: tp [] :: fl N [] :: tp [(s "_law_found" 689)] :: tp [] :: fn N "_law_whole" "_law_whole" (top 44) 0 N N :: fl (ty "code") [(s "_law_whole" 686),(s "_law_whole" 687),(s "/claim/cut.py" 688),(i 169 0),(i 1 0),(i 0 0),(i 0 0),(i 3 0),(r 376),(b true),(i 181 0),(r 377),N,(r 378),(r 379),(r 380),(i 690 0),(i 169 0),(s "/claim/cut.py" 691)] :: fn (ty "function") "_law_whole" "_law_whole" (top 44) 3 (s "law_wearplan_k16_single_least" 608) (r 381) :: [])
noncomputable def t15 (P:Params):BT:=insL (g15 P) 308 (setL [(3,o3_14 P),(12,o12_15 P)] (t14 P))
theorem pc15 (w:World) (os:OsState):segRun treeTable PW w 11 (some (r 6)) 1 371 (SharedT.abs ⟨t14 w.params,308,life,⟨[]⟩,drawn,584,os⟩) (piecesOf sts15 env cE ⟨88,0,89,49⟩ BB)=some (.next,(SharedT.abs ⟨t15 w.params,383,life,⟨[]⟩,drawn,693,os⟩),cE,⟨169,0,170,77⟩):=segRun_of (x6 (by kernel_rfl))
noncomputable def sts16:List Stmt:=[top 45,top 46,top 47,top 48,top 49,top 50,top 51,top 52,top 53,top 54]
noncomputable def e3_15 (P:Params):List DictEntry:=(e3_14 P)++[en P "_law_single" 712 (r 389),en P "_law_shut" 722 (r 396),en P "_law_no_stand" 729 (r 403),en P "_law_no_first" 735 (r 410),en P "_law_drawn" 741 (r 415),en P "_law_right" 759 (r 422),en P "_law_word" 771 (r 429),en P "_law_put" 783 (r 436),en P "_law_refused" 799 (r 443),en P "law" 811 (r 450)]
noncomputable def y1w (P:Params):Obj:=di (e3_15 P) 58
noncomputable def e12_16 (P:Params):List Value:=b0x P++[(i 171 0),(i 0 0),(r 388),(i 187 0),(i 0 0),(r 395),(i 196 0),(i 0 0),(r 402),(i 198 0),(i 0 0),(r 409),(i 200 0),(i 0 0),(r 414),(i 216 0),(i 0 0),(r 421),(i 229 0),(i 0 0),(r 428),(i 240 0),(i 0 0),(r 435),(i 246 0),(i 0 0),(r 442),(i 265 0),(i 0 0),(r 449)]
noncomputable def b0w (P:Params):Obj:=fl N (e12_16 P)
noncomputable def g16 (P:Params):List Obj:=(tp [] :: fl N [] :: tp [(s "_law_row" 696),(s "_law_stand" 697),(s "_law_first" 698),(s "_law_prices" 699),(s "_law_shut_here" 700),(s "_law_costs" 701),(s "_law_k" 702),(s "_law_price" 703),(s "_law_gone" 704),(s "_law_after" 705),(s "_law_here" 706),(s "_law_ways" 707),(s "_law_there" 708),(s "_law_cost" 709)] :: tp [] :: fn N "_law_single" "_law_single" (top 45) 0 N N :: fl (ty "code") [(s "_law_single" 693),(s "_law_single" 694),(s "/claim/cut.py" 695),(i 171 0),(i 5 0),(i 0 0),(i 0 0),(i 3 0),(r 383),(b true),(i 181 0),(r 384),N,(r 385),(r 386),(r 387),(i 710 0),(i 171 0),(s "/claim/cut.py" 711)] :: fn (ty "function") "_law_single" "_law_single" (top 45) 3 (s "law_wearplan_k16_single_least" 608) (r 388) :: tp [] :: fl N [] :: tp [(s "_law_deck_here" 716),(s "_law_first" 717),(s "_law_found" 718),(s "_law_number" 719)] :: tp [] :: fn N "_law_shut" "_law_shut" (top 46) 0 N N :: fl (ty "code") [(s "_law_shut" 713),(s "_law_shut" 714),(s "/claim/cut.py" 715),(i 187 0),(i 2 0),(i 0 0),(i 0 0),(i 3 0),(r 390),(b true),(i 181 0),(r 391),N,(r 392),(r 393),(r 394),(i 720 0),(i 187 0),(s "/claim/cut.py" 721)] :: fn (ty "function") "_law_shut" "_law_shut" (top 46) 3 (s "law_wearplan_k16_single_least" 608) (r 395) :: tp [] :: fl N [] :: tp [(s "_law_row" 726)] :: tp [] :: fn N "_law_no_stand" "_law_no_stand" (top 47) 0 N N :: fl (ty "code") [(s "_law_no_stand" 723),(s "_law_no_stand" 724),(s "/claim/cut.py" 725),(i 196 0),(i 1 0),(i 0 0),(i 0 0),(i 3 0),(r 397),(b true),(i 181 0),(r 398),N,(r 399),(r 400),(r 401),(i 727 0),(i 196 0),(s "/claim/cut.py" 728)] :: fn (ty "function") "_law_no_stand" "_law_no_stand" (top 47) 3 (s "law_wearplan_k16_single_least" 608) (r 402) :: tp [] :: fl N [] :: tp [] :: tp [] :: fn N "_law_no_first" "_law_no_first" (top 48) 0 N N :: fl (ty "code") [(s "_law_no_first" 730),(s "_law_no_first" 731),(s "/claim/cut.py" 732),(i 198 0),(i 0 0),(i 0 0),(i 0 0),(i 3 0),(r 404),(b true),(i 181 0),(r 405),N,(r 406),(r 407),(r 408),(i 733 0),(i 198 0),(s "/claim/cut.py" 734)] :: fn (ty "function") "_law_no_first" "_law_no_first" (top 48) 3 (s "law_wearplan_k16_single_least" 608) (r 409) :: tp [] :: fl N [] :: fn N "_law_drawn" "_law_drawn" (top 49) 0 N N :: fl (ty "code") [(s "_law_drawn" 736),(s "_law_drawn" 737),(s "/claim/cut.py" 738),(i 200 0),(i 1 0),(i 0 0),(i 0 0),(i 3 0),(r 411),(b true),(i 181 0),(r 412),N,N,N,(r 413),(i 739 0),(i 200 0),(s "/claim/cut.py" 740)] :: fn (ty "function") "_law_drawn" "_law_drawn" (top 49) 3 (s "law_wearplan_k16_single_least" 608) (r 414) :: tp [] :: fl N [] :: tp [(s "_law_part_here" 745),(s "_law_drawn_here" 746),(s "_law_sort" 747),(s "_law_row" 748),(s "_law_stand" 749),(s "_law_first" 750),(s "_law_prices" 751),(s "_law_shut_here" 752),(s "_law_due" 753),(s "_law_rows" 754),(s "_law_found" 755),(s "_law_error" 756)] :: tp [] :: fn N "_law_right" "_law_right" (top 50) 0 N N :: fl (ty "code") [(s "_law_right" 742),(s "_law_right" 743),(s "/claim/cut.py" 744),(i 216 0),(i 3 0),(i 0 0),(i 0 0),(i 3 0),(r 416),(b true),(i 181 0),(r 417),N,(r 418),(r 419),(r 420),(i 757 0),(i 216 0),(s "/claim/cut.py" 758)] :: fn (ty "function") "_law_right" "_law_right" (top 50) 3 (s "law_wearplan_k16_single_least" 608) (r 421) :: tp [] :: fl N [] :: tp [(s "_law_part_here" 763),(s "_law_stand" 764),(s "_law_first" 765),(s "_law_prices" 766),(s "_law_shut_here" 767),(s "_law_error" 768)] :: tp [] :: fn N "_law_word" "_law_word" (top 51) 0 N N :: fl (ty "code") [(s "_law_word" 760),(s "_law_word" 761),(s "/claim/cut.py" 762),(i 229 0),(i 5 0),(i 0 0),(i 0 0),(i 3 0),(r 423),(b true),(i 181 0),(r 424),N,(r 425),(r 426),(r 427),(i 769 0),(i 229 0),(s "/claim/cut.py" 770)] :: fn (ty "function") "_law_word" "_law_word" (top 51) 3 (s "law_wearplan_k16_single_least" 608) (r 428) :: tp [] :: fl N [] :: tp [(s "_law_deck_here" 775),(s "_law_row" 776),(s "_law_things" 777),(s "_law_at" 778),(s "_law_found" 779),(s "_law_thing" 780)] :: tp [] :: fn N "_law_put" "_law_put" (top 52) 0 N N :: fl (ty "code") [(s "_law_put" 772),(s "_law_put" 773),(s "/claim/cut.py" 774),(i 240 0),(i 3 0),(i 0 0),(i 0 0),(i 3 0),(r 430),(b true),(i 181 0),(r 431),N,(r 432),(r 433),(r 434),(i 781 0),(i 240 0),(s "/claim/cut.py" 782)] :: fn (ty "function") "_law_put" "_law_put" (top 52) 3 (s "law_wearplan_k16_single_least" 608) (r 435) :: tp [] :: fl N [] :: tp [(s "_law_deck_here" 787),(s "_law_part_here" 788),(s "_law_drawn_here" 789),(s "_law_row" 790),(s "_law_stand" 791),(s "_law_first" 792),(s "_law_prices" 793),(s "_law_shut_here" 794),(s "_law_thing" 795),(s "_law_some" 796)] :: tp [] :: fn N "_law_refused" "_law_refused" (top 53) 0 N N :: fl (ty "code") [(s "_law_refused" 784),(s "_law_refused" 785),(s "/claim/cut.py" 786),(i 246 0),(i 3 0),(i 0 0),(i 0 0),(i 3 0),(r 437),(b true),(i 181 0),(r 438),N,(r 439),(r 440),(r 441),(i 797 0),(i 246 0),(s "/claim/cut.py" 798)] :: fn (ty "function") "_law_refused" "_law_refused" (top 53) 3 (s "law_wearplan_k16_single_least" 608) (r 442) :: tp [] :: fl N [] :: tp [(s "_law_script" 803),(s "_law_deck_here" 804),(s "_law_drawn_here" 805),(s "_law_second" 806),(s "_law_part_here" 807),(s "_law_other" 808)] :: tp [] :: fn N "law" "law" (top 54) 0 N N :: fl (ty "code") [(s "law" 800),(s "law" 801),(s "/claim/cut.py" 802),(i 265 0),(i 1 0),(i 0 0),(i 0 0),(i 3 0),(r 444),(b true),(i 181 0),(r 445),N,(r 446),(r 447),(r 448),(i 809 0),(i 265 0),(s "/claim/cut.py" 810)] :: fn (ty "function") "law" "law" (top 54) 3 (s "law_wearplan_k16_single_least" 608) (r 449) :: [])
noncomputable def t16 (P:Params):BT:=insL (g16 P) 383 (setL [(3,y1w P),(12,b0w P)] (t15 P))
theorem pc16 (w:World) (os:OsState):segRun treeTable PW w 11 (some (r 6)) 1 338 (SharedT.abs ⟨t15 w.params,383,life,⟨[]⟩,drawn,693,os⟩) (piecesOf sts16 env cE ⟨169,0,170,77⟩ BB)=some (.next,(SharedT.abs ⟨t16 w.params,451,life,⟨[]⟩,drawn,812,os⟩),cE,⟨265,0,273,123⟩):=segRun_of (x6 (by kernel_rfl))
noncomputable def HF (P:Params):Heap:=⟨⟨[(boot_o_0 P),(boot_o_1 P),(boot_o_2 P),(y1w P),(boot_o_4 P),(boot_o_5 P),(boot_o_6 P),(boot_o_7 P),(boot_o_8 P),(boot_o_9 P),(boot_o_10 P),(o11_0 P),(b0w P),(o13_0 P),(o14_0 P)]++(((g1 P).set 9 (g0g P))++((g2 P)++((g3 P)++((g4 P)++((g5 P)++((g6 P)++((g7 P)++((g8 P)++((g9 P)++((g10 P)++((g11 P)++((g12 P)++((g13 P)++((g14 P)++((g15 P)++((g16 P)))))))))))))))))⟩,life⟩
theorem fin (w:World) (os:OsState):topRun treeTable PW w 11 (some (r 6)) 2 (SharedT.abs ⟨t16 w.params,451,life,⟨[]⟩,drawn,812,os⟩) (restOf [] env cE ⟨265,0,273,123⟩ BB)=some ⟨HF w.params,⟨[]⟩,drawn,812,os⟩:=piece_nil (z1g (by kernel_rfl))
theorem y1v:behindTheImports PW=(sts1++(sts2++(sts3++(sts4++(sts5++(sts6++(sts7++(sts8++(sts9++(sts10++(sts11++(sts12++(sts13++(sts14++(sts15++(sts16++[])))))))))))))))):=by kernel_rfl
theorem run (w:World) (os:OsState):topRun treeTable PW w 11 (some (r 6)) (12 + (1 + (196 + (246 + (246 + (214 + (214 + (246 + (246 + (248 + (214 + (246 + (214 + (246 + (391 + (395 + (371 + (338 + 2)))))))))))))))))) ⟨boot_heap w.params,⟨[]⟩,boot_drawn,boot_toks,os⟩ (topStub PW)=some ⟨HF w.params,⟨[]⟩,drawn,812,os⟩ :=
  go_top (pre w os) (q0f y1v (blk w os) (piece_app (pc1 w os) (piece_app (pc2 w os) (piece_app (pc3 w os) (piece_app (pc4 w os) (piece_app (pc5 w os) (piece_app (pc6 w os) (piece_app (pc7 w os) (piece_app (pc8 w os) (piece_app (pc9 w os) (piece_app (pc10 w os) (piece_app (pc11 w os) (piece_app (pc12 w os) (piece_app (pc13 w os) (piece_app (pc14 w os) (piece_app (pc15 w os) (piece_app (pc16 w os) (fin w os))))))))))))))))))
noncomputable def K (P:Params):Frag:=((nat_lit 2,boot_o_2 P) :: (nat_lit 3,y1w P) :: (nat_lit 15,x g1 0 P) :: (nat_lit 22,x g1 7 P) :: (nat_lit 23,x g1 8 P) :: (nat_lit 24,g0g P) :: (nat_lit 25,x g1 10 P) :: (nat_lit 28,x g2 0 P) :: (nat_lit 35,x g2 7 P) :: (nat_lit 37,x g2 9 P) :: (nat_lit 38,x g2 10 P) :: (nat_lit 40,x g2 12 P) :: (nat_lit 41,x g2 13 P) :: (nat_lit 42,x g2 14 P) :: (nat_lit 43,x g2 15 P) :: (nat_lit 44,x g2 16 P) :: (nat_lit 47,x g3 0 P) :: (nat_lit 54,x g3 7 P) :: (nat_lit 56,x g3 9 P) :: (nat_lit 57,x g3 10 P) :: (nat_lit 59,x g3 12 P) :: (nat_lit 60,x g3 13 P) :: (nat_lit 61,x g3 14 P) :: (nat_lit 62,x g3 15 P) :: (nat_lit 63,x g3 16 P) :: (nat_lit 66,x g4 0 P) :: (nat_lit 73,x g4 7 P) :: (nat_lit 74,x g4 8 P) :: (nat_lit 75,x g4 9 P) :: (nat_lit 78,x g5 0 P) :: (nat_lit 85,x g5 7 P) :: (nat_lit 86,x g5 8 P) :: (nat_lit 87,x g5 9 P) :: (nat_lit 90,x g6 0 P) :: (nat_lit 97,x g6 7 P) :: (nat_lit 99,x g6 9 P) :: (nat_lit 100,x g6 10 P) :: (nat_lit 102,x g6 12 P) :: (nat_lit 103,x g6 13 P) :: (nat_lit 104,x g6 14 P) :: (nat_lit 105,x g6 15 P) :: (nat_lit 106,x g6 16 P) :: (nat_lit 109,x g7 0 P) :: (nat_lit 116,x g7 7 P) :: (nat_lit 118,x g7 9 P) :: (nat_lit 119,x g7 10 P) :: (nat_lit 121,x g7 12 P) :: (nat_lit 122,x g7 13 P) :: (nat_lit 123,x g7 14 P) :: (nat_lit 124,x g7 15 P) :: (nat_lit 125,x g7 16 P) :: (nat_lit 128,x g8 0 P) :: (nat_lit 135,x g8 7 P) :: (nat_lit 137,x g8 9 P) :: (nat_lit 138,x g8 10 P) :: (nat_lit 140,x g8 12 P) :: (nat_lit 141,x g8 13 P) :: (nat_lit 142,x g8 14 P) :: (nat_lit 143,x g8 15 P) :: (nat_lit 144,x g8 16 P) :: (nat_lit 147,x g9 0 P) :: (nat_lit 154,x g9 7 P) :: (nat_lit 155,x g9 8 P) :: (nat_lit 156,x g9 9 P) :: (nat_lit 159,x g10 0 P) :: (nat_lit 166,x g10 7 P) :: (nat_lit 168,x g10 9 P) :: (nat_lit 169,x g10 10 P) :: (nat_lit 171,x g10 12 P) :: (nat_lit 172,x g10 13 P) :: (nat_lit 173,x g10 14 P) :: (nat_lit 174,x g10 15 P) :: (nat_lit 175,x g10 16 P) :: (nat_lit 178,x g11 0 P) :: (nat_lit 185,x g11 7 P) :: (nat_lit 186,x g11 8 P) :: (nat_lit 187,x g11 9 P) :: (nat_lit 190,x g12 0 P) :: (nat_lit 197,x g12 7 P) :: (nat_lit 199,x g12 9 P) :: (nat_lit 200,x g12 10 P) :: (nat_lit 202,x g12 12 P) :: (nat_lit 203,x g12 13 P) :: (nat_lit 204,x g12 14 P) :: (nat_lit 205,x g12 15 P) :: (nat_lit 206,x g12 16 P) :: (nat_lit 209,x g13 0 P) :: (nat_lit 216,x g13 7 P) :: (nat_lit 217,x g13 8 P) :: (nat_lit 218,x g13 9 P) :: (nat_lit 221,x g13 12 P) :: (nat_lit 223,x g13 14 P) :: (nat_lit 224,x g13 15 P) :: (nat_lit 226,x g13 17 P) :: (nat_lit 227,x g13 18 P) :: (nat_lit 228,x g13 19 P) :: (nat_lit 230,x g13 21 P) :: (nat_lit 231,x g13 22 P) :: (nat_lit 233,x g13 24 P) :: (nat_lit 234,x g13 25 P) :: (nat_lit 235,x g13 26 P) :: (nat_lit 237,x g13 28 P) :: (nat_lit 238,x g13 29 P) :: (nat_lit 240,x g13 31 P) :: (nat_lit 241,x g13 32 P) :: (nat_lit 242,x g13 33 P) :: (nat_lit 245,x g13 36 P) :: (nat_lit 246,x g13 37 P) :: (nat_lit 247,x g13 38 P) :: (nat_lit 250,x g13 41 P) :: (nat_lit 251,x g13 42 P) :: (nat_lit 259,x g14 7 P) :: (nat_lit 261,x g14 9 P) :: (nat_lit 262,x g14 10 P) :: (nat_lit 264,x g14 12 P) :: (nat_lit 265,x g14 13 P) :: (nat_lit 266,x g14 14 P) :: (nat_lit 267,x g14 15 P) :: (nat_lit 268,x g14 16 P) :: (nat_lit 269,x g14 17 P) :: (nat_lit 270,x g14 18 P) :: (nat_lit 273,x g14 21 P) :: (nat_lit 275,x g14 23 P) :: (nat_lit 276,x g14 24 P) :: (nat_lit 278,x g14 26 P) :: (nat_lit 279,x g14 27 P) :: (nat_lit 280,x g14 28 P) :: (nat_lit 282,x g14 30 P) :: (nat_lit 283,x g14 31 P) :: (nat_lit 285,x g14 33 P) :: (nat_lit 286,x g14 34 P) :: (nat_lit 287,x g14 35 P) :: (nat_lit 289,x g14 37 P) :: (nat_lit 290,x g14 38 P) :: (nat_lit 292,x g14 40 P) :: (nat_lit 293,x g14 41 P) :: (nat_lit 294,x g14 42 P) :: (nat_lit 296,x g14 44 P) :: (nat_lit 297,x g14 45 P) :: (nat_lit 299,x g14 47 P) :: (nat_lit 300,x g14 48 P) :: (nat_lit 301,x g14 49 P) :: (nat_lit 303,x g14 51 P) :: (nat_lit 304,x g14 52 P) :: (nat_lit 306,x g14 54 P) :: (nat_lit 307,x g14 55 P) :: (nat_lit 308,x g15 0 P) :: (nat_lit 311,x g15 3 P) :: (nat_lit 312,x g15 4 P) :: (nat_lit 313,x g15 5 P) :: (nat_lit 315,x g15 7 P) :: (nat_lit 316,x g15 8 P) :: (nat_lit 318,x g15 10 P) :: (nat_lit 319,x g15 11 P) :: (nat_lit 320,x g15 12 P) :: (nat_lit 322,x g15 14 P) :: (nat_lit 323,x g15 15 P) :: (nat_lit 325,x g15 17 P) :: (nat_lit 326,x g15 18 P) :: (nat_lit 327,x g15 19 P) :: (nat_lit 329,x g15 21 P) :: (nat_lit 330,x g15 22 P) :: (nat_lit 332,x g15 24 P) :: (nat_lit 333,x g15 25 P) :: (nat_lit 334,x g15 26 P) :: (nat_lit 336,x g15 28 P) :: (nat_lit 337,x g15 29 P) :: (nat_lit 339,x g15 31 P) :: (nat_lit 340,x g15 32 P) :: (nat_lit 341,x g15 33 P) :: (nat_lit 343,x g15 35 P) :: (nat_lit 344,x g15 36 P) :: (nat_lit 346,x g15 38 P) :: (nat_lit 347,x g15 39 P) :: (nat_lit 348,x g15 40 P) :: (nat_lit 350,x g15 42 P) :: (nat_lit 351,x g15 43 P) :: (nat_lit 353,x g15 45 P) :: (nat_lit 354,x g15 46 P) :: (nat_lit 355,x g15 47 P) :: (nat_lit 357,x g15 49 P) :: (nat_lit 358,x g15 50 P) :: (nat_lit 360,x g15 52 P) :: (nat_lit 361,x g15 53 P) :: (nat_lit 362,x g15 54 P) :: (nat_lit 364,x g15 56 P) :: (nat_lit 365,x g15 57 P) :: (nat_lit 367,x g15 59 P) :: (nat_lit 368,x g15 60 P) :: (nat_lit 369,x g15 61 P) :: (nat_lit 371,x g15 63 P) :: (nat_lit 372,x g15 64 P) :: (nat_lit 374,x g15 66 P) :: (nat_lit 375,x g15 67 P) :: (nat_lit 376,x g15 68 P) :: (nat_lit 378,x g15 70 P) :: (nat_lit 379,x g15 71 P) :: (nat_lit 381,x g15 73 P) :: (nat_lit 382,x g15 74 P) :: (nat_lit 383,x g16 0 P) :: (nat_lit 385,x g16 2 P) :: (nat_lit 386,x g16 3 P) :: (nat_lit 388,x g16 5 P) :: (nat_lit 389,x g16 6 P) :: (nat_lit 390,x g16 7 P) :: (nat_lit 392,x g16 9 P) :: (nat_lit 393,x g16 10 P) :: (nat_lit 395,x g16 12 P) :: (nat_lit 396,x g16 13 P) :: (nat_lit 397,x g16 14 P) :: (nat_lit 399,x g16 16 P) :: (nat_lit 400,x g16 17 P) :: (nat_lit 402,x g16 19 P) :: (nat_lit 403,x g16 20 P) :: (nat_lit 404,x g16 21 P) :: (nat_lit 406,x g16 23 P) :: (nat_lit 407,x g16 24 P) :: (nat_lit 409,x g16 26 P) :: (nat_lit 410,x g16 27 P) :: (nat_lit 411,x g16 28 P) :: (nat_lit 414,x g16 31 P) :: (nat_lit 415,x g16 32 P) :: (nat_lit 416,x g16 33 P) :: (nat_lit 418,x g16 35 P) :: (nat_lit 419,x g16 36 P) :: (nat_lit 421,x g16 38 P) :: (nat_lit 422,x g16 39 P) :: (nat_lit 423,x g16 40 P) :: (nat_lit 425,x g16 42 P) :: (nat_lit 426,x g16 43 P) :: (nat_lit 428,x g16 45 P) :: (nat_lit 429,x g16 46 P) :: (nat_lit 430,x g16 47 P) :: (nat_lit 432,x g16 49 P) :: (nat_lit 433,x g16 50 P) :: (nat_lit 435,x g16 52 P) :: (nat_lit 436,x g16 53 P) :: (nat_lit 437,x g16 54 P) :: (nat_lit 439,x g16 56 P) :: (nat_lit 440,x g16 57 P) :: (nat_lit 442,x g16 59 P) :: (nat_lit 443,x g16 60 P) :: (nat_lit 444,x g16 61 P) :: (nat_lit 446,x g16 63 P) :: (nat_lit 447,x g16 64 P) :: (nat_lit 449,x g16 66 P) :: (nat_lit 450,x g16 67 P) :: [])
noncomputable def as:List Addr:=(nat_lit 2 :: nat_lit 3 :: nat_lit 15 :: nat_lit 22 :: nat_lit 23 :: nat_lit 24 :: nat_lit 25 :: nat_lit 28 :: nat_lit 35 :: nat_lit 37 :: nat_lit 38 :: nat_lit 40 :: nat_lit 41 :: nat_lit 42 :: nat_lit 43 :: nat_lit 44 :: nat_lit 47 :: nat_lit 54 :: nat_lit 56 :: nat_lit 57 :: nat_lit 59 :: nat_lit 60 :: nat_lit 61 :: nat_lit 62 :: nat_lit 63 :: nat_lit 66 :: nat_lit 73 :: nat_lit 74 :: nat_lit 75 :: nat_lit 78 :: nat_lit 85 :: nat_lit 86 :: nat_lit 87 :: nat_lit 90 :: nat_lit 97 :: nat_lit 99 :: nat_lit 100 :: nat_lit 102 :: nat_lit 103 :: nat_lit 104 :: nat_lit 105 :: nat_lit 106 :: nat_lit 109 :: nat_lit 116 :: nat_lit 118 :: nat_lit 119 :: nat_lit 121 :: nat_lit 122 :: nat_lit 123 :: nat_lit 124 :: nat_lit 125 :: nat_lit 128 :: nat_lit 135 :: nat_lit 137 :: nat_lit 138 :: nat_lit 140 :: nat_lit 141 :: nat_lit 142 :: nat_lit 143 :: nat_lit 144 :: nat_lit 147 :: nat_lit 154 :: nat_lit 155 :: nat_lit 156 :: nat_lit 159 :: nat_lit 166 :: nat_lit 168 :: nat_lit 169 :: nat_lit 171 :: nat_lit 172 :: nat_lit 173 :: nat_lit 174 :: nat_lit 175 :: nat_lit 178 :: nat_lit 185 :: nat_lit 186 :: nat_lit 187 :: nat_lit 190 :: nat_lit 197 :: nat_lit 199 :: nat_lit 200 :: nat_lit 202 :: nat_lit 203 :: nat_lit 204 :: nat_lit 205 :: nat_lit 206 :: nat_lit 209 :: nat_lit 216 :: nat_lit 217 :: nat_lit 218 :: nat_lit 221 :: nat_lit 223 :: nat_lit 224 :: nat_lit 226 :: nat_lit 227 :: nat_lit 228 :: nat_lit 230 :: nat_lit 231 :: nat_lit 233 :: nat_lit 234 :: nat_lit 235 :: nat_lit 237 :: nat_lit 238 :: nat_lit 240 :: nat_lit 241 :: nat_lit 242 :: nat_lit 245 :: nat_lit 246 :: nat_lit 247 :: nat_lit 250 :: nat_lit 251 :: nat_lit 259 :: nat_lit 261 :: nat_lit 262 :: nat_lit 264 :: nat_lit 265 :: nat_lit 266 :: nat_lit 267 :: nat_lit 268 :: nat_lit 269 :: nat_lit 270 :: nat_lit 273 :: nat_lit 275 :: nat_lit 276 :: nat_lit 278 :: nat_lit 279 :: nat_lit 280 :: nat_lit 282 :: nat_lit 283 :: nat_lit 285 :: nat_lit 286 :: nat_lit 287 :: nat_lit 289 :: nat_lit 290 :: nat_lit 292 :: nat_lit 293 :: nat_lit 294 :: nat_lit 296 :: nat_lit 297 :: nat_lit 299 :: nat_lit 300 :: nat_lit 301 :: nat_lit 303 :: nat_lit 304 :: nat_lit 306 :: nat_lit 307 :: nat_lit 308 :: nat_lit 311 :: nat_lit 312 :: nat_lit 313 :: nat_lit 315 :: nat_lit 316 :: nat_lit 318 :: nat_lit 319 :: nat_lit 320 :: nat_lit 322 :: nat_lit 323 :: nat_lit 325 :: nat_lit 326 :: nat_lit 327 :: nat_lit 329 :: nat_lit 330 :: nat_lit 332 :: nat_lit 333 :: nat_lit 334 :: nat_lit 336 :: nat_lit 337 :: nat_lit 339 :: nat_lit 340 :: nat_lit 341 :: nat_lit 343 :: nat_lit 344 :: nat_lit 346 :: nat_lit 347 :: nat_lit 348 :: nat_lit 350 :: nat_lit 351 :: nat_lit 353 :: nat_lit 354 :: nat_lit 355 :: nat_lit 357 :: nat_lit 358 :: nat_lit 360 :: nat_lit 361 :: nat_lit 362 :: nat_lit 364 :: nat_lit 365 :: nat_lit 367 :: nat_lit 368 :: nat_lit 369 :: nat_lit 371 :: nat_lit 372 :: nat_lit 374 :: nat_lit 375 :: nat_lit 376 :: nat_lit 378 :: nat_lit 379 :: nat_lit 381 :: nat_lit 382 :: nat_lit 383 :: nat_lit 385 :: nat_lit 386 :: nat_lit 388 :: nat_lit 389 :: nat_lit 390 :: nat_lit 392 :: nat_lit 393 :: nat_lit 395 :: nat_lit 396 :: nat_lit 397 :: nat_lit 399 :: nat_lit 400 :: nat_lit 402 :: nat_lit 403 :: nat_lit 404 :: nat_lit 406 :: nat_lit 407 :: nat_lit 409 :: nat_lit 410 :: nat_lit 411 :: nat_lit 414 :: nat_lit 415 :: nat_lit 416 :: nat_lit 418 :: nat_lit 419 :: nat_lit 421 :: nat_lit 422 :: nat_lit 423 :: nat_lit 425 :: nat_lit 426 :: nat_lit 428 :: nat_lit 429 :: nat_lit 430 :: nat_lit 432 :: nat_lit 433 :: nat_lit 435 :: nat_lit 436 :: nat_lit 437 :: nat_lit 439 :: nat_lit 440 :: nat_lit 442 :: nat_lit 443 :: nat_lit 444 :: nat_lit 446 :: nat_lit 447 :: nat_lit 449 :: nat_lit 450 :: [])
noncomputable def Q:Program:={ PW with main:={ PW.main with body:=(top 1 :: top 2 :: top 3 :: top 4 :: top 5 :: top 6 :: top 7 :: top 8 :: top 9 :: top 10 :: top 11 :: top 12 :: top 13 :: top 15 :: top 16 :: top 17 :: top 18 :: top 19 :: top 21 :: top 22 :: top 23 :: top 24 :: top 25 :: top 26 :: top 27 :: top 29 :: top 30 :: top 32 :: top 33 :: top 34 :: top 36 :: top 37 :: top 38 :: top 39 :: top 40 :: top 41 :: top 42 :: top 43 :: top 44 :: top 45 :: top 46 :: top 47 :: top 48 :: top 49 :: top 50 :: top 51 :: top 52 :: top 53 :: top 54 :: []) } }
noncomputable abbrev HK:Hook:=kHook K as (fun _=>by kernel_rfl)
noncomputable abbrev RR:RowW:=OpenRow.toRowW (OpenLaw.row PySem.Challenge.rw_wearplan_k16_single_least)
noncomputable abbrev Xt (s:Shared):Bool:=xlAt Q [] s && recOk (RowW.records RR) s
theorem y1u (w:World):((boot_heap w.params).isNs mainGlobals && (Array.mk ([]:List GenState)).size == 0,(boot_heap w.params).objs.size,(boot_heap w.params).nsMap mainGlobals "__annotations__")=(true,11,some (.ref 6)):=by kernel_rfl
theorem look1 (w:World) (os:OsState):(staticsOk (importedModules PW.main.body) (boot_heap w.params) (HF w.params) && namesBound PW (HF w.params) && gensDone (⟨HF w.params,⟨[]⟩,drawn,812,os⟩:Shared) && laidKept (boot_heap w.params) (HF w.params))=true:=by kernel_rfl
theorem look2 (w:World) (os:OsState):openSeen Q [] (importedModules PW.main.body) Xt true (⟨HF w.params,⟨[]⟩,drawn,812,os⟩:Shared)=openGood Q []:=by
  rw [PySem.W.Fast.te4187177175401517315,PySem.W.Fast.te5923862056798008813]; kernel_rfl
theorem look3 (w:World) (os:OsState):HK.obs (⟨HF w.params,⟨[]⟩,drawn,812,os⟩:Shared)=HK.val w:=by kernel_rfl
theorem k0p:opening PW=plainProg PW.main.scope.names:=by kernel_rfl
theorem d0t (s:Shared):fenceModules? PW s=some s:=by kernel_rfl
theorem left:LeftO PW Q [] Xt HK.obs HK.val 8636 :=
  LeftO.of_pieces (boot_open k0p (by decide) d0t) y1u run (by decide) fun w=>funext fun os=>Prod.ext (look1 w os) (Prod.ext (look2 w os) (look3 w os))
theorem ws:OpenLaw.wellSaid PySem.Challenge.rw_wearplan_k16_single_least=true:=by
  rw [PySem.W.Fast.te9446332074065402090]; kernel_rfl
end HD16
local macro_rules
  | `(tactic| walk_at "n0")=>`(tactic| exact PySem.W.mg_none_of (by assumption) (by assumption) (by k_is))
  | `(tactic| walk_at "n1")=>`(tactic| exact ⟨_,PySem.W.mg_of (by assumption) (by assumption) (by k_is)⟩)
  | `(tactic| walk_at "n2")=>`(tactic| exact PySem.W.mg_of (by assumption) (by assumption) (by k_is))
  | `(tactic| walk_at "hd")=>`(tactic| exact ⟨by k_is,by kernel_rfl,by k_is⟩)
  | `(tactic| walk_at "ci")=>`(tactic| exact ⟨⟨by k_is,by k_is,by k_is,by k_is⟩,by k_is,by k_is,by k_is,by k_is⟩)
  | `(tactic| walk_at "kn")=>`(tactic| exact ⟨by kernel_rfl,by kernel_rfl,by kernel_rfl,by kernel_rfl,by kernel_rfl,by kernel_rfl,by kernel_rfl⟩)
  | `(tactic| walk_at "na")=>`(tactic| (unfold L2.NoAttr; k_is))
  | `(tactic| walk_at "kr")=>`(tactic| kernel_rfl)
  | `(tactic| walk_at "x0")=>`(tactic| exact ⟨by kernel_rfl,by k_is⟩)
  | `(tactic| walk_at "er")=>`(tactic| exact ⟨by kernel_rfl,by k_is,⟨by kernel_rfl,by k_is,by k_is,by k_is,by k_is,by k_is,by k_is,by k_is⟩⟩)
  | `(tactic| walk_at "ff")=>`(tactic| exact ⟨_,_,by k_is,⟨⟨_,_,_,_,_,_,_,_,_,rfl,by k_is,by k_is⟩,by k_is⟩⟩)
  | `(tactic| walk_at "xm")=>`(tactic| exact ⟨_,_,⟨by kernel_rfl,by k_is,by k_is,by k_is⟩,⟨⟨_,_,_,_,_,_,_,_,_,rfl,by k_is,by k_is⟩,by k_is⟩⟩)
  | `(tactic| walk_at "mk")=>`(tactic| exact ⟨_,_,⟨by k_is,by k_is,by k_is,by k_is⟩,⟨⟨_,_,_,_,_,_,_,_,_,rfl,by k_is,by k_is⟩,by k_is⟩⟩)
open PySem PySem.W PyProof.Rows
set_option maxRecDepth 100000 in
set_option maxHeartbeats 0 in
theorem PySem.Challenge.cw_wearplan_k16_single_least_holds : PySem.Challenge.rw_wearplan_k16_single_least.Holds := by
  w_on
  refine holds_law HD16.ws fun said=>?_
  refine holds_open (r:=OpenLaw.row PySem.Challenge.rw_wearplan_k16_single_least) (q:=HD16.Q) (loose:=[]) (Xt:=HD16.Xt) (XP:=XL HD16.Q []) (Yf:=HD16.HK.obs) (Ya:=HD16.HK.val) (YP:=InK HD16.K) (N:=8636) HD16.left (Hook.of HD16.HK) (Hook.keeps HD16.HK) (fun s e=>xl_of s (Bool.and_eq_true_iff.mp e).1) XL.keeps (by rfl) (by rfl) (by rfl) (fun s e=>recFacts_of (Bool.and_eq_true_iff.mp e).2) (by rfl) said (by decide +kernel) ⟨rfl,rfl,rfl,rfl,rfl,by decide +kernel⟩ ?hw ?hc
  (case hw=>w_witness2)
  k_fill
  refine DL.walk2 (l:=PySem.Challenge.rw_wearplan_k16_single_least) (k:=10) (x := "_law_script") rfl rfl ⟨rfl,by decide,by decide⟩ (fun w h Y=>(show (HD16.K w.params).In h from Y)) fun w mg fa h KX G hmg=>?_
  have T:K16.Txt (HD16.K w.params) mg ⟨24,268,44,63,75,87,106,125,144,156,175,187,206,218⟩:=⟨by walk_at "n0",by walk_at "n0",by walk_at "n0",by walk_at "n0",by walk_at "n0",by walk_at "n0",by walk_at "n0",by walk_at "n0",by walk_at "n0",by walk_at "n0",by walk_at "n0",by walk_at "n0",by walk_at "n0",by walk_at "n1",by walk_at "n1",by walk_at "n1",by walk_at "n1",by walk_at "n2",by walk_at "hd",by walk_at "n2",by walk_at "ci",by walk_at "kn",by walk_at "na",by walk_at "na",by walk_at "na",by walk_at "na",List.forall_mem_cons.mpr ⟨by walk_at "er",List.forall_mem_cons.mpr ⟨by walk_at "er",List.forall_mem_cons.mpr ⟨by walk_at "er",List.forall_mem_cons.mpr ⟨by walk_at "er",List.forall_mem_cons.mpr ⟨by walk_at "er",List.forall_mem_cons.mpr ⟨by walk_at "er",List.forall_mem_cons.mpr ⟨by walk_at "er",List.forall_mem_cons.mpr ⟨by walk_at "er",List.forall_mem_cons.mpr ⟨by walk_at "er",List.forall_mem_cons.mpr ⟨by walk_at "er",List.forall_mem_cons.mpr ⟨by walk_at "er",List.forall_mem_cons.mpr ⟨by walk_at "er",List.forall_mem_nil _⟩⟩⟩⟩⟩⟩⟩⟩⟩⟩⟩⟩,by decide,by decide,by walk_at "n2",by walk_at "hd",by walk_at "kr",by walk_at "na",by walk_at "n2",by walk_at "hd",by walk_at "kr",by walk_at "na",by walk_at "n2",by walk_at "hd",by walk_at "kr",by walk_at "x0",by walk_at "n2",by walk_at "hd",by walk_at "kr",by walk_at "x0",by walk_at "n2",by walk_at "hd",by walk_at "kr",by walk_at "na",by walk_at "n2",by walk_at "hd",by walk_at "kr",by walk_at "na",by walk_at "n2",by walk_at "hd",by walk_at "kr",by walk_at "na",by walk_at "na",by walk_at "n2",by walk_at "hd",by walk_at "kr",by walk_at "x0",by walk_at "n2",by walk_at "hd",by walk_at "kr",by walk_at "na",by walk_at "n2",by walk_at "hd",by walk_at "kr",by walk_at "x0",by walk_at "n2",by walk_at "hd",by walk_at "kr",by walk_at "na",by walk_at "n2",by walk_at "hd",by walk_at "kr",by walk_at "x0"⟩
  exact K16.all_mk KX G hmg T (by walk_at "ff") (by walk_at "ff") (by walk_at "ff") (by walk_at "ff") (by walk_at "ff") (by walk_at "ff") (by walk_at "ff") (by walk_at "ff") (by walk_at "ff") (by walk_at "ff") (by walk_at "ff") (by walk_at "ff") (by walk_at "ff") (by walk_at "ff") (by walk_at "ff") (by walk_at "ff") (by walk_at "ff") (by walk_at "ff") (by walk_at "ff") (by walk_at "ff") (by walk_at "ff") (by walk_at "ff") (by walk_at "ff") (by walk_at "ff") (by walk_at "ff") (by walk_at "ff") (by walk_at "ff") (by walk_at "ff") (by walk_at "ff") (by walk_at "ff") (by walk_at "ff") (by walk_at "xm") (by walk_at "xm") (by walk_at "xm") (by walk_at "xm") (by walk_at "xm") (by walk_at "xm") (by walk_at "xm") (by walk_at "mk")
