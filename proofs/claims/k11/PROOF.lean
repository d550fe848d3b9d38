import PyProof.Rows.All
import Wide.All
import OpenK.AllK
import Wide.FinOn
import Lean
import PyProof.EqAt
import PyProof.EqKinds
import PyProof.TupleCall
import KE.KRevIter
import PyProof.P3In
import PyProof.SumAnyB
import PyProof.CollectIter
import KE.KIntText
import PySem.Challenge.RW_struckdeeds_k11_texts_of_deeds
set_option Elab.async false
set_option linter.all false
set_option maxRecDepth 100000
set_option compiler.extract_closed false
set_option maxHeartbeats 4000000
abbrev sT (n:Nat):PySem.Stmt:=PySem.Challenge.pw_struckdeeds_k11_texts_of_deeds.main.body.getD n (.Pass ⟨0,0,0,0⟩)
abbrev Frg:=PySem.W.Frag
theorem nft:¬(false=true):=Bool.false_ne_true
namespace L2
open PySem PySem.Spec PyProof.Rows
abbrev Key:=Sum Int Str
def keyIs:Key→Value→Bool
 | .inl k,v=>Value.isInt k v
 | .inr x,v=>Value.isStrOf x v
def keyH (w:World):Key→Int
 | .inl k=>hashInt k
 | .inr x=>hashStr w x
theorem keyIs_shape:∀{k:Key}{v:Value},keyIs k v=true→(∃i t,k=Sum.inl i∧v=Value.int i t)∨(∃x t,k=Sum.inr x∧v=Value.str x t)
 | .inl i,v,h=>by
   obtain⟨t,e⟩:=Value.isInt_shape (k:=i) (v:=v) h
   exact .inl ⟨i,t,rfl,e⟩
 | .inr x,v,h=>by
   obtain⟨t,e⟩:=Value.isStrOf_shape (x:=x) (v:=v) h
   exact .inr ⟨x,t,rfl,e⟩
theorem keyIs_int (i:Int) (t:Tok):keyIs (.inl i) (.int i t)=true:=by simp[keyIs,Value.isInt]
theorem keyIs_str (x:Str) (t:Tok):keyIs (.inr x) (.str x t)=true:=by simp[keyIs,Value.isStrOf]
theorem key_ll (a b:Int):decide ((Sum.inl a:Key)=Sum.inl b)=(a==b):=by
 by_cases e:a=b
 · subst e;simp
 · have h:¬(Sum.inl a:Key)=Sum.inl b:=fun q=>e (Sum.inl.inj q)
   rw[decide_eq_false h]
   exact(beq_eq_false_iff_ne.mpr e).symm
theorem key_rr (a b:Str):decide ((Sum.inr a:Key)=Sum.inr b)=decide (a=b):=by
 by_cases e:a=b
 · subst e;simp
 · have h:¬(Sum.inr a:Key)=Sum.inr b:=fun q=>e (Sum.inr.inj q)
   rw[decide_eq_false h,decide_eq_false e]
theorem key_lr (a:Int) (b:Str):decide ((Sum.inl a:Key)=Sum.inr b)=false:=decide_eq_false (fun q=>nomatch q)
theorem key_rl (a:Str) (b:Int):decide ((Sum.inr a:Key)=Sum.inl b)=false:=decide_eq_false (fun q=>nomatch q)
def mixKind (prog:Program) (w:World):PySem.KeyKind prog w Key where
 is:=keyIs
 hash:=keyH w
 inj:=fun v a b ha hb=>by
   rcases keyIs_shape ha with ⟨i,t,rfl,rfl⟩ | ⟨x,t,rfl,rfl⟩
   · rcases keyIs_shape hb with ⟨j,u,rfl,e⟩ | ⟨y,u,rfl,e⟩
     · injection e with e1 _;rw[e1]
     · exact nomatch e
   · rcases keyIs_shape hb with ⟨j,u,rfl,e⟩ | ⟨y,u,rfl,e⟩
     · exact nomatch e
     · injection e with e1 _;rw[e1]
 byValue:=fun k v h=>by
   rcases keyIs_shape h with ⟨i,t,rfl,rfl⟩ | ⟨x,t,rfl,rfl⟩ <;> rfl
 pyHash:=fun hv h=>by
   rcases keyIs_shape hv with ⟨i,t,rfl,rfl⟩ | ⟨x,t,rfl,rfl⟩
   · exact wpAny_pyHash_int h
   · exact wpAny_pyHash_str h
 eqBool:=fun hu hv h=>by
   rcases keyIs_shape hu with ⟨i,t,rfl,rfl⟩ | ⟨x,t,rfl,rfl⟩
   · rcases keyIs_shape hv with ⟨j,u,rfl,rfl⟩ | ⟨y,u,rfl,rfl⟩
     · rw[key_ll] at h;exact wpAny_eqBool_int h
     · rw[key_lr] at h;exact SeqAt.EqAt.int_str i t y u _ _ _ _ h
   · rcases keyIs_shape hv with ⟨j,u,rfl,rfl⟩ | ⟨y,u,rfl,rfl⟩
     · rw[key_rl] at h;exact SeqAt.EqAt.str_int x t j u _ _ _ _ h
     · rw[key_rr] at h;exact wpAny_eqBool_str h
 «strs»:=fun k x t v h=>by
   rcases keyIs_shape h with ⟨i,u,rfl,e⟩ | ⟨y,u,rfl,e⟩
   · exact nomatch e
   · injection e with e1 _
     subst e1
     cases v <;> rfl
theorem mixKind_int (prog:Program) (w:World) (i:Int) (t:Tok):(mixKind prog w).is (.inl i) (.int i t)=true:=keyIs_int i t
theorem mixKind_str (prog:Program) (w:World) (x:Str) (t:Tok):(mixKind prog w).is (.inr x) (.str x t)=true:=keyIs_str x t
end L2
namespace L2
open PySem PySem.Spec PyProof.Rows
inductive V where
 | non | bl (b:Bool) | int (i:Int) | str (x:Str) | byt (b:Array UInt8) | flt (b:UInt64) | ref (a:Addr) | ty (n:String)
 deriving DecidableEq
def RelV:V→Value→Prop
 | .non,u=>u=Value.none
 | .bl b,u=>u=Value.bool b
 | .int i,u=>∃t,u=Value.int i t
 | .str x,u=>∃t,u=Value.str x t
 | .byt b,u=>∃t,u=Value.bytes b t
 | .flt b,u=>∃t,u=Value.float b t
 | .ref a,u=>u=Value.ref a
 | .ty n,u=>u=Value.type n
abbrev Vals:List V→List Value→Prop:=Paired RelV
theorem Vals.length {xs:List V}{us:List Value}(r:Vals xs us):xs.length=us.length:=Paired.length r
theorem Vals.get:∀{xs:List V}{us:List Value}{i:Nat}{x:V},Vals xs us→xs[i]?=some x→∃u,us[i]?=some u∧RelV x u
 | _,_,_,_,.nil,e=>by simp at e
 | _,_,0,_,.cons r _,e=>by simp at e;subst e;exact⟨_,rfl,r⟩
 | _,_,i+1,x,.cons _ t,e=>by
   obtain⟨u,h1,h2⟩:=Vals.get (i:=i) (x:=x) t (by simpa using e)
   exact⟨u,by simpa using h1,h2⟩
theorem Vals.set {x:V}{u:Value}(r:RelV x u):∀{xs:List V}{us:List Value}(i:Nat),Vals xs us→Vals (xs.set i x) (us.set i u)
 | _,_,_,.nil=>.nil
 | _,_,0,.cons _ t=>.cons r t
 | _,_,i+1,.cons q t=>.cons q (Vals.set r i t)
theorem Vals.append:∀{xs ys:List V}{us ws:List Value},Vals xs us→Vals ys ws→Vals (xs++ys) (us++ws)
 | _,_,_,_,.nil,s=>s
 | _,_,_,_,.cons r t,s=>.cons r (Vals.append t s)
theorem Vals.take:∀{xs:List V}{us:List Value}(n:Nat),Vals xs us→Vals (xs.take n) (us.take n)
 | _,_,0,_=>.nil
 | _,_,_+1,.nil=>.nil
 | _,_,n+1,.cons r t=>.cons r (Vals.take n t)
theorem Vals.drop:∀{xs:List V}{us:List Value}(n:Nat),Vals xs us→Vals (xs.drop n) (us.drop n)
 | _,_,0,r=>r
 | _,_,_+1,.nil=>.nil
 | _,_,n+1,.cons _ t=>Vals.drop n t
def RelO:Option V→Option Value→Prop
 | some v,some u=>RelV v u
 | none,none=>True
 | _,_=>False
def KV {κ:Type}:List (κ×V)→List (κ×Value)→Prop:=Paired fun(p:κ×V) (q:κ×Value)=>p.1=q.1∧RelV p.2 q.2
def kV:Key→V
 | .inl i=>.int i
 | .inr x=>.str x
inductive HO where
 | lst (xs:List V)
 | tup (xs:List V)
 | dK (kvs:List (Key×V)) | dT (kvs:List (List Key×V))
 | set (S:Int→Bool) (n:Nat)
 | ins (C dx:Addr) (fs:List (Str×V))
 | own (x:Addr)
 | xd (fs:List (Str×V))
 | met (f x:Addr)
 | rng (lo hi:Int)
 | frz (o:Obj) (u:HO)
 | tbl (ps:Array Value)
 | ext (φ:Heap→Prop)
abbrev Hp:=Addr→Option HO
def upd (H:Hp) (a:Addr) (o:HO):Hp:=fun b=>if b=a then some o else H b
theorem upd_same {H:Hp}{a:Addr}{o:HO}:upd H a o a=some o:=by unfold upd;rw[if_pos rfl]
theorem upd_ne {H:Hp}{a b:Addr}{o:HO}(h:b≠a):upd H a o b=H b:=by unfold upd;rw[if_neg h]
theorem ne_of_none {H:Hp}{a b:Addr}{o:HO}(h:H a=some o) (h':H b=none):a≠b:=by
 intro e;subst e;rw[h] at h';cases h'
section
variable (P:Program) (w:World)
def ObjOk (H:Hp) (h:Heap) (a:Addr):HO→Prop
 | .lst xs=>xs.length≤sizeLine∧∃(its:List Value) (n:Nat),Vals xs its∧h.get? a=some { cls:=.type "list", data:=.seq its.toArray n }
 | .tup xs=>xs.length≤sizeLine∧∃its:List Value,Vals xs its∧IsTup h a its.toArray
 | .dK kvs=>kvs.length≤sizeLine∧(a==sysModules)=false∧∃vs,KV kvs vs∧h.DictOf (mixKind P w) a vs
 | .dT kvs=>kvs.length≤sizeLine∧(a==sysModules)=false∧∃xs:List (List Key×Addr×Value),
     Paired (fun(p:List Key×V) (q:List Key×Addr×Value)=>p.1=q.1∧H q.2.1=some (.tup (p.1.map kV))∧RelV p.2 q.2.2) kvs xs ∧
     ∃o es ep,h.get? a=some o∧o.ExactDict∧o.data = .dict es ep∧es.toList=xs.map (entryOfKey (tupleKind (mixKind P w)))∧(xs.map (·.1)).Nodup
 | .set S n=>h.SetOf (intKind P w) a S n
 | .ins C dx fs=>H dx=some (.own a)∧fs.length≤1000∧dx≠a∧h.get? a=some (PySem.W.instObj C dx) ∧
     ∃mA,h.Ns1 dx mA∧(∀f,RelO (fs.lookup f) (mA f))∧PySem.Within mA (fs.map (·.1))
 | .own _=>∃o,h.get? a=some o
 | .xd fs=>∃mA,h.Ns1 a mA∧∀f,RelO (fs.lookup f) (mA f)
 | .rng lo hi=>∃t u v,h.get? a=some { cls:=.type "range", data:=.fields #[.int lo t,.int hi u,.int 1 v] }
 | .frz o u=>h.get? a=some o∧ObjOk H h a u
 | .tbl ps=>h.get? a=some { cls:=.none,data:=.fields ps }
 | .met f x=>h.get? a=some (PySem.W.methodObj (.ref f) (.ref x))
 | .ext φ=>φ h∧(∃o,h.get? a=some o)∧∀h1 h2:Heap,φ h1→(∀o,h1.get? a=some o→h2.get? a=some o)→φ h2
def HOk (H:Hp) (h:Heap):Prop:=∀a o,H a=some o→ObjOk P w H h a o
end
section
variable {P:Program}{w:World}{H H':Hp}{h h':Heap}{a:Addr}{o:HO}
theorem ObjOk.lt (x:ObjOk P w H h a o):a < h.objs.size:=by
 cases o with
 | lst xs=>obtain⟨_,_,_,_,e⟩:=x;exact Heap.lt_size e
 | tup xs=>obtain⟨_,_,_,p⟩:=x;exact p.lt
 | dK kvs=>obtain⟨_,_,_,_,o,_,_,e,_⟩:=x;exact Heap.lt_size e
 | dT kvs=>obtain⟨_,_,_,_,o,_,_,e,_⟩:=x;exact Heap.lt_size e
 | set S n=>obtain⟨o,_,_,_,e,_⟩:=x;exact Heap.lt_size e
 | ins C dx fs=>obtain⟨_,_,_,e,_⟩:=x;exact Heap.lt_size e
 | own y=>obtain⟨_,e⟩:=x;exact Heap.lt_size e
 | xd fs=>obtain⟨_,⟨_,_,_,e,_⟩,_⟩:=x;exact Heap.lt_size e
 | rng lo hi=>obtain⟨_,_,_,e⟩:=x;exact Heap.lt_size e
 | frz ob u=>obtain⟨e,_⟩:=x;exact Heap.lt_size e
 | tbl ps=>exact Heap.lt_size (show h.get? a=some _ from x)
 | met f y=>exact Heap.lt_size (show h.get? a=some _ from x)
 | ext φ=>obtain⟨_,⟨_,e⟩,_⟩:=x;exact Heap.lt_size e
theorem Paired.mapP {α β:Type}{F G:α→β→Prop}:∀{l₁:List α}{l₂:List β},Paired F l₁ l₂→(∀a b,F a b→G a b)→Paired G l₁ l₂
 | _,_,.nil,_=>.nil
 | _,_,.cons r t,f=>.cons (f _ _ r) (Paired.mapP t f)
theorem ObjOk.stay (x:ObjOk P w H h a o) (k:∀b u,(b=a∨H b=some (.own a))→h.get? b=some u→h'.get? b=some u)
   (ho:∀b,H b=some (.own a)→H' b=some (.own a)) (ht:∀b xs,H b=some (.tup xs)→H' b=some (.tup xs)):ObjOk P w H' h' a o:=by
 induction o with
 | lst xs=>obtain⟨z,its,n,r,e⟩:=x;exact⟨z,its,n,r,k _ _ (.inl rfl) e⟩
 | tup xs=>obtain⟨z,its,r,ob,e,c⟩:=x;exact⟨z,its,r,ob,k _ _ (.inl rfl) e,c⟩
 | dK kvs=>obtain⟨z,y,vs,r,ob,es,ep,e,c⟩:=x;exact⟨z,y,vs,r,ob,es,ep,k _ _ (.inl rfl) e,c⟩
 | dT kvs=>
   obtain⟨z,y,xs,r,ob,es,ep,e,c⟩:=x
   exact⟨z,y,xs,Paired.mapP r fun p q z=>⟨z.1,ht _ _ z.2.1,z.2.2⟩,ob,es,ep,k _ _ (.inl rfl) e,c⟩
 | set S n=>obtain⟨ob,es,ep,t,e,c⟩:=x;exact⟨ob,es,ep,t,k _ _ (.inl rfl) e,c⟩
 | ins C dx fs=>
   obtain⟨d,z,ne,e,mA,⟨od,es,ep,e2,c⟩,r⟩:=x
   exact⟨ho _ d,z,ne,k _ _ (.inl rfl) e,mA,⟨od,es,ep,k _ _ (.inr d) e2,c⟩,r⟩
 | own y=>obtain⟨ob,e⟩:=x;exact⟨ob,k _ _ (.inl rfl) e⟩
 | xd fs=>obtain⟨mA,⟨od,es,ep,e,c⟩,r⟩:=x;exact⟨mA,⟨od,es,ep,k _ _ (.inl rfl) e,c⟩,r⟩
 | rng lo hi=>obtain⟨t,u,v,e⟩:=x;exact⟨t,u,v,k _ _ (.inl rfl) e⟩
 | frz ob u ih=>obtain⟨e,q⟩:=x;exact⟨k _ _ (.inl rfl) e,ih q⟩
 | tbl ps=>
   have e:h.get? a=some { cls:=.none,data:=.fields ps }:=x
   show h'.get? a=some { cls:=.none,data:=.fields ps }
   exact k a _ (.inl rfl) e
 | met f y=>
   have e:h.get? a=some (PySem.W.methodObj (.ref f) (.ref y)):=x
   show h'.get? a=some (PySem.W.methodObj (.ref f) (.ref y))
   exact k a _ (.inl rfl) e
 | ext φ=>obtain⟨p,⟨o,e⟩,st⟩:=x;exact⟨st _ _ p fun o q=>k _ _ (.inl rfl) q,⟨o,k _ _ (.inl rfl) e⟩,st⟩
theorem HOk.lt (x:HOk P w H h) (e:H a=some o):a < h.objs.size:=(x a o e).lt
theorem HOk.fresh (x:HOk P w H h) (e:h.objs.size≤a):H a=none:=by
 cases q:H a with
 | none=>rfl
 | some u=>exact absurd (Nat.lt_of_lt_of_le (x.lt q) e) (Nat.lt_irrefl _)
theorem HOk.kept (x:HOk P w H h) (k:∀b u,h.get? b=some u→h'.get? b=some u):HOk P w H h':=fun a o e=>
 (x a o e).stay (fun b u _ q=>k b u q) (fun _ q=>q) fun _ _ q=>q
theorem HOk.laid (x:HOk P w H h) (k:∀b u,h.get? b=some u→h'.get? b=some u) (hp:h.objs.size≤a) (new:ObjOk P w (upd H a o) h' a o):HOk P w (upd H a o) h':=fun b u e=>by
 have hn:=x.fresh hp
 by_cases hb:b=a
 · subst hb;rw[upd_same] at e;cases e;exact new
 · rw[upd_ne hb] at e
   exact(x b u e).stay (fun c v _ q=>k c v q) (fun c q=>by rw[upd_ne (ne_of_none q hn)];exact q) fun c xs q=>by rw[upd_ne (ne_of_none q hn)];exact q
end
def Rd (H:Hp) (a:Addr) (u:HO):Prop:=H a=some u∨∃o,H a=some (.frz o u)
theorem Rd.ok {P:Program}{w:World}{H:Hp}{h:Heap}{a:Addr}{u:HO}(r:Rd H a u) (x:HOk P w H h):ObjOk P w H h a u:=by
 rcases r with r | ⟨o,r⟩
 · exact x a u r
 · obtain⟨_,q⟩:=x a _ r
   exact q
def Mut:Option HO→Prop
 | some (.lst _)=>True
 | some (.dK _)=>True
 | some (.dT _)=>True
 | some (.set _ _)=>True
 | some (.ins _ _ _)=>True
 | some (.ext _)=>True
 | _=>False
section
variable {P:Program}{w:World}{H:Hp}{h h':Heap}{x e:Addr}{o':HO}
theorem HOk.write (ok:HOk P w H h) (mu:Mut (H x)) (he:e=x∨H e=some (.own x)) (k:∀b u,b≠e→h.get? b=some u→h'.get? b=some u) (heo:∃u,h'.get? e=some u)
   (new:ObjOk P w (upd H x o') h' x o'):HOk P w (upd H x o') h':=fun b u q=>by
 have nown:∀c y,H c=some (.own y)→c≠x:=fun c y r z=>by subst z;rw[r] at mu;exact mu
 have ntup:∀c xs,H c=some (.tup xs)→c≠x:=fun c xs r z=>by subst z;rw[r] at mu;exact mu
 by_cases hb:b=x
 · subst hb;rw[upd_same] at q;cases q;exact new
 · rw[upd_ne hb] at q
   by_cases hbe:b=e
   · have q':H b=some (.own x):=by
       rcases he with z | z
       · exact absurd (hbe.trans z) hb
       · rw[hbe];exact z
     rw[q] at q';cases q'
     obtain⟨v,hv⟩:=heo
     exact⟨v,by rw[hbe];exact hv⟩
   · refine(ok b u q).stay (fun c v hc r=>k c v ?_ r) (fun c r=>by rw[upd_ne (nown c b r)];exact r) fun c xs r=>by rw[upd_ne (ntup c xs r)];exact r
     rcases hc with rfl | hc
     · exact hbe
     · rintro rfl
       rcases he with z | z
       · exact nown c b hc z
       · rw[hc] at z;cases z;exact hb rfl
end
structure Un (fs ex:List Addr) (H H':Hp) (h h':Heap):Prop where
 keep:∀b o,h.get? b=some o→H b=none→b∉fs→b∉ex→h'.get? b=some o
 slot:∀b o,h.get? b=some o→H b=none→b∈fs→b∉ex→∃sl,h'.get? b=some { o with slots:=sl }
 free:∀b o,h.get? b=some o→H b=none→b∉ex→H' b=none
 there:∀b o,h.get? b=some o→b∉ex→∃o',h'.get? b=some o'
 tups:∀b xs,H b=some (.tup xs)→H' b=some (.tup xs)
 frzs:∀b o u,H b=some (.frz o u)→H' b=some (.frz o u)
 tbls:∀b ps,H b=some (.tbl ps)→∃more,H' b=some (.tbl (ps++more))
section
variable {fs fs' ex ex':List Addr}{H H1 H2:Hp}{h h1 h2 h':Heap}{a x e:Addr}{o:HO}
theorem Un.any (u:Un fs ex H H1 h h1) {b:Addr}{ob:Obj}(q:h.get? b=some ob) (n:H b=none) (hx:b∉ex):∃sl,h1.get? b=some { ob with slots:=sl }:=by
 by_cases hb:b∈fs
 · exact u.slot b ob q n hb hx
 · exact⟨ob.slots,u.keep b ob q n hb hx⟩
theorem Un.kept (k:∀b u,h.get? b=some u→h'.get? b=some u):Un fs ex H H h h':=
 ⟨fun b ob q _ _ _=>k b ob q,fun b ob q _ _ _=>⟨ob.slots,k b ob q⟩,fun _ _ _ n _=>n,fun b ob q _=>⟨ob,k b ob q⟩,fun _ _ q=>q,fun _ _ _ q=>q,fun _ ps q=>⟨#[],by rw[q];simp⟩⟩
theorem Un.refl:Un fs ex H H h h:=Un.kept fun _ _ q=>q
theorem Un.laid (k:∀b u,h.get? b=some u→h'.get? b=some u) (hp:h.objs.size≤a) (hn:H a=none):Un fs ex H (upd H a o) h h' where
 keep:=fun b u q _ _ _=>k b u q
 slot:=fun b u q _ _ _=>⟨u.slots,k b u q⟩
 free:=fun b u q n _=>by rw[upd_ne (Nat.ne_of_lt (Nat.lt_of_lt_of_le (Heap.lt_size q) hp))];exact n
 there:=fun b u q _=>⟨u,k b u q⟩
 tups:=fun b xs q=>by rw[upd_ne (ne_of_none q hn)];exact q
 frzs:=fun b u xs q=>by rw[upd_ne (ne_of_none q hn)];exact q
 tbls:=fun b ps q=>⟨#[],by rw[upd_ne (ne_of_none q hn),q];simp⟩
theorem Un.write (mu:Mut (H x)) (he:e=x∨H e=some (.own x)) (k:∀b u,b≠e→h.get? b=some u→h'.get? b=some u) (heo:∃u,h'.get? e=some u):Un fs ex H (upd H x o) h h':=by
 have hx:∀b,H b=none→b≠x:=fun b n z=>by subst z;rw[n] at mu;exact mu
 have hb:∀b,H b=none→b≠e:=fun b n z=>by
   subst z
   rcases he with r | r
   · exact hx b n r
   · rw[n] at r;cases r
 have hm:∀b u,H b=some u→¬Mut (some u)→b≠x:=fun b u q nm z=>by subst z;rw[q] at mu;exact nm mu
 refine⟨fun b u q n _ _=>k b u (hb b n) q,fun b u q n _ _=>⟨u.slots,k b u (hb b n) q⟩,fun b u q n _=>by rw[upd_ne (hx b n)];exact n,fun b u q _=>?_,
   fun b xs q=>by rw[upd_ne (hm b _ q fun z=>z)];exact q,fun b u xs q=>by rw[upd_ne (hm b _ q fun z=>z)];exact q,fun b ps q=>⟨#[],by rw[upd_ne (hm b _ q fun z=>z),q];simp⟩⟩
 by_cases hbe:b=e
 · subst hbe;exact heo
 · exact⟨u,k b u hbe q⟩
end
def trk (h:Heap) (H:Hp):List Addr:=(List.range h.objs.size).filter fun a=>(H a).isSome
def hidT (h:Heap) (H:Hp):Heap:=PySem.W.hideAll h (trk h H)
theorem hidT_size (h:Heap) (H:Hp):(hidT h H).objs.size=h.objs.size:=PySem.W.hideAll_size _ _
theorem hidT_get {h:Heap}{H:Hp}{b:Addr}{o:Obj}(e:h.get? b=some o) (n:H b=none):(hidT h H).get? b=some o:=
 PySem.W.hideAll_get _ e fun hm=>by
   have q:(H b).isSome=true:=(List.mem_filter.mp hm).2
   rw[n] at q;simp at q
theorem of_hidT {h:Heap}{H:Hp}{b:Addr}{o:Obj}(e:(hidT h H).get? b=some o):h.get? b=some o∧H b=none:=by
 have e':h.get? b=some o:=PySem.W.of_hideAll (trk h H) e
 refine⟨e',?_⟩
 cases q:H b with
 | none=>rfl
 | some x=>
   have hm:b∈trk h H:=List.mem_filter.mpr ⟨List.mem_range.mpr (Heap.lt_size e'),by simp[q]⟩
   have z:(hidT h H).get? b=none:=PySem.W.hideAll_none (trk h H) hm
   rw[z] at e;cases e
end L2
namespace L2
open PySem PySem.Spec PyProof.Rows
structure Mod (K:Frg) (mg:Str→Option Value) (base:Heap):Prop where
 kin:K.In base
 glob:base.Ns mainGlobals mg
 blt:∃mb,base.Ns builtinsNs mb∧∀x:Str,x ≠ "__name__" → mb x=bootBuiltins x
 nolimit:base.NoLimit
structure Cx where
 prog:Program
 w:World
 K:Frg
 mg:Str→Option Value
 base:Heap
 A:Around
 N:List Str
 s₀:Shared
 H₀:Hp
 env:Env
 outer:List Env
 stack:List Env
 ex:List Addr
 fn:Str→Bool
 calm:Bool
 pn:List (Addr×Obj)
 xe:Value→Shared→Prop
def frs (l:List Env):List Addr:=l.filterMap (·.frame)
abbrev Cx.fs (X:Cx):List Addr:=frs X.outer
def Vis (sc:Scope) (x:Str):Prop:=sc.names.lookup x=some .local∨sc.names.lookup x=some .cell∨sc.names.lookup x=some .free
def Loc (sc:Scope) (x:Str):Prop:=sc.names.lookup x=some .local∨sc.names.lookup x=some .cell
def Look (env:Env) (h:Heap) (m:Str→Option Value) (x:Str) (u:Value):Prop:=
 (env.kindOf x=some .local∧m x=some u)∨((env.kindOf x=some .cell∨env.kindOf x=some .free)∧∃c,env.cells.lookup x=some c∧h.IsCell c (some u))
structure Cx.Ok (X:Cx):Prop where
 mod:Mod X.K X.mg X.base
 kind:X.env.scope.kind = .function
 glob:X.env.globals=mainGlobals
 blt:X.env.builtins=builtinsNs
 above:X.s₀.heap.objs.size≤X.env.locals
 inj:∀x y c,X.env.cells.lookup x=some c→X.env.cells.lookup y=some c→x=y
 has:∀x,(X.env.kindOf x=some .cell∨X.env.kindOf x=some .free)→∃c,X.env.cells.lookup x=some c
 cab:∀x c,X.fn x=true→X.env.cells.lookup x=some c→X.s₀.heap.objs.size≤c
 hd:X.calm=true→X.A.handled=none
 frames:X.A.frames=some X.stack
 stk:X.stack=X.outer∨(X.stack=X.env::X.outer∧X.env.frame=some X.env.locals)
 exf:∀b∈X.ex,b≠X.env.locals∧∀x c,X.env.cells.lookup x=some c→c≠b
 bs:∀b o,X.base.get? b=some o→X.s₀.heap.get? b=some o∧X.H₀ b=none
 bsz:X.base.objs.size≤X.s₀.heap.objs.size
 noex:∀b o,X.base.get? b=some o→b∉X.ex
 exfs:∀b∈X.ex,b∉X.fs
 funs:X.s₀.heap.FunFrames X.base X.outer
 frf:∀b∈X.fs,X.H₀ b=none
structure Inv (X:Cx) (pins:List (Addr×Obj)) (σ:List (Option V)) (H:Hp) (s:Shared):Prop where
 ok:X.Ok
 os:s.os=X.s₀.os
 bare:AllBare s.gens
 base:Un X.fs X.ex X.H₀ H X.s₀.heap s.heap
 loc:∃m,s.heap.Ns X.env.locals m∧∀(i:Nat) (x:Str) (v:V),X.N[i]?=some x→σ[i]?=some (some v)→Vis X.env.scope x→∃u,RelV v u∧Look X.env s.heap m x u
 cell:∀x c,X.env.cells.lookup x=some c→∃v,s.heap.IsCell c v
 free:H X.env.locals=none
 freeC:∀x c,X.env.cells.lookup x=some c→H c=none
 pin:∀p∈X.pn++pins,s.heap.get? p.1=some p.2∧H p.1=none∧p.1≠X.env.locals∧p.1∉X.fs∧∀v,p.2.data≠.cell v
 hok:HOk X.prog X.w H s.heap
 len:σ.length=X.N.length
section
variable {X:Cx}{pins:List (Addr×Obj)}{σ:List (Option V)}{H H':Hp}{s:Shared}{h':Heap}
theorem Cx.Ok.nofr (ok:X.Ok) {b:Addr}{o:Obj}(e:X.base.get? b=some o):b∉X.fs:=fun hb=>by
 have:=(ok.funs.mem hb).1
 rw[e] at this;cases this
theorem Inv.bs (I:Inv X pins σ H s):∀b o,X.base.get? b=some o→s.heap.get? b=some o∧H b=none:=fun b o e=>
 ⟨I.base.keep b o (I.ok.bs b o e).1 (I.ok.bs b o e).2 (I.ok.nofr e) (I.ok.noex b o e),I.base.free b o (I.ok.bs b o e).1 (I.ok.bs b o e).2 (I.ok.noex b o e)⟩
theorem Inv.bk (I:Inv X pins σ H s):∀b o,X.base.get? b=some o→s.heap.get? b=some o:=fun b o e=>(I.bs b o e).1
theorem Inv.mod (I:Inv X pins σ H s):Mod X.K X.mg X.base:=I.ok.mod
theorem Inv.kIn (I:Inv X pins σ H s):X.K.In s.heap:=I.ok.mod.kin.keeps I.bk
theorem Inv.lt (I:Inv X pins σ H s):X.env.locals < s.heap.objs.size:=let ⟨_,hn,_⟩:=I.loc;hn.lt
theorem Inv.sz (I:Inv X pins σ H s):X.s₀.heap.objs.size≤s.heap.objs.size:=Nat.le_trans I.ok.above (Nat.le_of_lt I.lt)
theorem Inv.nofs (I:Inv X pins σ H s) {a:Addr}(h:s.heap.objs.size≤a):a∉X.fs:=fun hb=>by
 obtain⟨_,o,ho,_⟩:=I.ok.funs.mem hb
 exact absurd (Nat.lt_of_lt_of_le (Heap.lt_size ho) (Nat.le_trans I.sz h)) (Nat.lt_irrefl _)
theorem Inv.cne (I:Inv X pins σ H s):∀x c,X.env.cells.lookup x=some c→c≠X.env.locals:=fun x c e z=>by
 obtain⟨v,o,ho,hd⟩:=I.cell x c e
 obtain⟨m,⟨o',es,ep,ho',hd',_⟩,_⟩:=I.loc
 rw[z,ho'] at ho;cases ho;rw[hd'] at hd;cases hd
theorem Inv.funs (I:Inv X pins σ H s):s.heap.FunFrames X.base X.outer:=by
 have all:∀(l:List Env),(∀b∈frs l,b∈X.fs)→X.s₀.heap.FunFrames X.base l→s.heap.FunFrames X.base l:=by
   intro l
   induction l with
   | nil=>intro _ _;trivial
   | cons env r ih=>
     intro hs hl
     obtain⟨hk,⟨L,o,hf,hn,ho,hd⟩,hr⟩:=hl
     have hL:L∈X.fs:=hs L (by unfold frs;rw[List.filterMap_cons,hf];exact List.mem_cons_self)
     obtain⟨sl,e⟩:=I.base.slot L o ho (I.ok.frf L hL) hL fun z=>I.ok.exfs L z hL
     exact⟨hk,⟨L,_,hf,hn,e,hd⟩,ih (fun b hb=>hs b (by unfold frs;rw[List.filterMap_cons,hf];exact List.mem_cons_of_mem _ hb)) hr⟩
 exact all X.outer (fun _ hb=>hb) I.ok.funs
theorem Inv.stack (I:Inv X pins σ H s):s.heap.FunFrames X.base X.stack:=by
 rcases I.ok.stk with e | ⟨e,hf⟩
 · rw[e];exact I.funs
 · rw[e]
   obtain⟨m,hn,_⟩:=I.loc
   refine .cons (by rw[I.ok.kind];decide) hf hn ?_ I.funs
   exact Heap.get?_none_of_le (Nat.le_trans I.ok.bsz I.ok.above)
theorem Inv.stkSub (I:Inv X pins σ H s):∀b∈frs X.stack,b∈X.env.locals::X.fs:=fun b hb=>by
 rcases I.ok.stk with e | ⟨e,hf⟩
 · rw[e] at hb;exact List.mem_cons_of_mem _ hb
 · rw[e] at hb
   unfold frs at hb
   rw[List.filterMap_cons,hf] at hb
   exact hb
theorem Inv.stkFree (I:Inv X pins σ H s):∀b∈frs X.stack,H b=none:=fun b hb=>by
 rcases List.mem_cons.mp (I.stkSub b hb) with e | hb
 · rw[e];exact I.free
 · obtain⟨_,o,ho,_⟩:=I.ok.funs.mem hb
   exact I.base.free b o ho (I.ok.frf b hb) fun z=>I.ok.exfs b z hb
theorem Inv.step {g':Array GenState}{t':Nat}{d':Drawn}{ch:List Addr}(I:Inv X pins σ H s)
   (hch:∀b∈ch,(b∈X.ex∨X.s₀.heap.objs.size≤b)∧b≠X.env.locals∧(∀x c,X.env.cells.lookup x=some c→c≠b)∧∀p∈X.pn++pins,p.1≠b)
   (keep:∀b o,b≠X.env.locals→b∉X.fs→b∉ch→s.heap.get? b=some o→H b=none→h'.get? b=some o)
   (slot:∀b o,b≠X.env.locals→b∈X.fs→b∉ch→s.heap.get? b=some o→H b=none→∃sl,h'.get? b=some { o with slots:=sl }) (free:∀b o,b∉ch→s.heap.get? b=some o→H b=none→H' b=none)
   (there:∀b o,b∉ch→s.heap.get? b=some o→∃o',h'.get? b=some o')
   (tups:∀b xs,H b=some (.tup xs)→H' b=some (.tup xs)) (frzs:∀b o u,H b=some (.frz o u)→H' b=some (.frz o u)) (tbls:∀b ps,H b=some (.tbl ps)→∃more,H' b=some (.tbl (ps++more)))
   (ns:∀m,s.heap.Ns X.env.locals m→h'.Ns X.env.locals m) (hok:HOk X.prog X.w H' h') (hg:AllBare g') :
   Inv X pins σ H' { s with heap:=h',gens:=g',drawn:=d',toks:=t' }:=by
 have neL:∀b o,X.s₀.heap.get? b=some o→b≠X.env.locals:=fun b o e=>Nat.ne_of_lt (Nat.lt_of_lt_of_le (Heap.lt_size e) I.ok.above)
 have neC:∀b o,X.s₀.heap.get? b=some o→b∉X.ex→b∉ch:=fun b o e hx hb=>by
   rcases (hch b hb).1 with z | z
   · exact hx z
   · exact absurd (Nat.lt_of_lt_of_le (Heap.lt_size e) z) (Nat.lt_irrefl _)
 have cellK:∀x c,X.env.cells.lookup x=some c→∀v,s.heap.IsCell c v→h'.IsCell c v:=fun x c e v ⟨o,ho,hd⟩=>by
   have nch:c∉ch:=fun z=>(hch c z).2.2.1 x c e rfl
   by_cases hc:c∈X.fs
   · obtain⟨sl,q⟩:=slot c o (I.cne x c e) hc nch ho (I.freeC x c e)
     exact⟨_,q,hd⟩
   · exact⟨o,keep c o (I.cne x c e) hc nch ho (I.freeC x c e),hd⟩
 refine⟨I.ok,I.os,hg,⟨fun b o e n hb hx=>?_,fun b o e n hb hx=>?_,fun b o e n hx=>?_,fun b o e hx=>?_,fun b xs e=>tups b xs (I.base.tups b xs e),fun b o xs e=>frzs b o xs (I.base.frzs b o xs e),fun b ps e=>?_⟩,?_,fun x c e=>?_,?_,fun x c e=>?_,fun p hp=>?_,hok,I.len⟩
 · exact keep b o (neL b o e) hb (neC b o e hx) (I.base.keep b o e n hb hx) (I.base.free b o e n hx)
 · obtain⟨sl,e1⟩:=I.base.slot b o e n hb hx
   obtain⟨sl',e2⟩:=slot b _ (neL b o e) hb (neC b o e hx) e1 (I.base.free b o e n hx)
   exact⟨sl',e2⟩
 · obtain⟨o',e1⟩:=I.base.there b o e hx
   exact free b o' (neC b o e hx) e1 (I.base.free b o e n hx)
 · obtain⟨o',e1⟩:=I.base.there b o e hx
   exact there b o' (neC b o e hx) e1
 · obtain⟨m1,e1⟩:=I.base.tbls b ps e
   obtain⟨m2,e2⟩:=tbls b _ e1
   exact⟨m1++m2,by rw[e2,Array.append_assoc]⟩
 · obtain⟨m,hn,hl⟩:=I.loc
   refine⟨m,ns m hn,fun i x v e1 e2 e3=>?_⟩
   obtain⟨u,r,l⟩:=hl i x v e1 e2 e3
   refine⟨u,r,?_⟩
   rcases l with l | ⟨k,c,e,z⟩
   · exact .inl l
   · exact .inr ⟨k,c,e,cellK x c e _ z⟩
 · obtain⟨v,z⟩:=I.cell x c e
   exact⟨v,cellK x c e v z⟩
 · obtain⟨m,⟨o,_,_,ho,_⟩,_⟩:=I.loc
   exact free _ o (fun z=>(hch _ z).2.1 rfl) ho I.free
 · obtain⟨v,o,ho,hd⟩:=I.cell x c e
   exact free c o (fun z=>(hch c z).2.2.1 x c e rfl) ho (I.freeC x c e)
 · obtain⟨e,n,ne,nf,d⟩:=I.pin p hp
   have nch:p.1∉ch:=fun z=>(hch p.1 z).2.2.2 p hp rfl
   exact⟨keep p.1 p.2 ne nf nch e n,free p.1 p.2 nch e n,ne,nf,d⟩
theorem Inv.un {t':Nat}(I:Inv X pins σ H s) (u:Un X.fs [] H H' s.heap h') (hok:HOk X.prog X.w H' h'):Inv X pins σ H' { s with heap:=h',toks:=t' }:=by
 obtain⟨m,⟨o,es,ep,ho,r⟩,_⟩:=id I.loc
 obtain⟨sl,hL⟩:=u.any ho I.free (by simp)
 exact I.step (g':=s.gens) (d':=s.drawn) (ch:=[]) (fun _ z=>nomatch z) (fun b o _ hb _ e n=>u.keep b o e n hb (by simp)) (fun b o _ hb _ e n=>u.slot b o e n hb (by simp)) (fun b o _ e n=>u.free b o e n (by simp)) (fun b o _ e=>u.there b o e (by simp)) u.tups u.frzs u.tbls (fun m' hm=>by
   obtain⟨o',es',ep',ho',r'⟩:=hm
   rw[ho] at ho';cases ho'
   exact⟨_,es',ep',hL,r'⟩) hok I.bare
theorem Inv.call {g':Array GenState}{t':Nat}{d':Drawn}{ch:List Addr}(I:Inv X pins σ H s) (u:Un (frs X.stack) ch H H' s.heap h') (hok:HOk X.prog X.w H' h') (hg:AllBare g')
   (hch:∀b∈ch,(b∈X.ex∨X.s₀.heap.objs.size≤b)∧b≠X.env.locals∧(∀x c,X.env.cells.lookup x=some c→c≠b)∧∀p∈X.pn++pins,p.1≠b) :
   Inv X pins σ H' { s with heap:=h',gens:=g',drawn:=d',toks:=t' }:=by
 obtain⟨m,⟨o,es,ep,ho,r⟩,_⟩:=id I.loc
 obtain⟨sl,hL⟩:=u.any ho I.free fun z=>(hch _ z).2.1 rfl
 exact I.step (ch:=ch) hch (fun b o hL hb hc e n=>u.keep b o e n (fun z=>(List.mem_cons.mp (I.stkSub b z)).elim hL hb) hc) (fun b o _ _ hc e n=>u.any e n hc) (fun b o hc e n=>u.free b o e n hc) (fun b o hc e=>u.there b o e hc) u.tups u.frzs u.tbls (fun m' hm=>by
   obtain⟨o',es',ep',ho',r'⟩:=hm
   rw[ho] at ho';cases ho'
   exact⟨_,es',ep',hL,r'⟩) hok hg
theorem Inv.turned {t':Nat}{it:Addr}(I:Inv X pins σ H s) (k:∀b o,b≠it→s.heap.get? b=some o→h'.get? b=some o) (hn:H it=none) (hL:it≠X.env.locals)
   (h1:it∈X.ex∨X.s₀.heap.objs.size≤it) (h2:∀x c,X.env.cells.lookup x=some c→c≠it) (h3:∀p∈X.pn++pins,p.1≠it):Inv X pins σ H { s with heap:=h',toks:=t' }:=by
 have nit:∀b u,H b=some u→b≠it:=fun b u e z=>by rw[z,hn] at e;cases e
 refine I.step (g':=s.gens) (d':=s.drawn) (ch:=[it]) (fun b hb=>?_) (fun b o _ _ hc e _=>k b o (fun z=>hc (by simp[z])) e) (fun b o _ _ hc e _=>⟨o.slots,k b o (fun z=>hc (by simp[z])) e⟩) (fun _ _ _ _ n=>n)
   (fun b o hc e=>⟨o,k b o (fun z=>hc (by simp[z])) e⟩) (fun _ _ e=>e) (fun _ _ _ e=>e) (fun b ps e=>⟨#[],by rw[e];simp⟩) (fun m hm=>?_) (fun b u e=>?_) I.bare
 · have e:b=it:=by simpa using hb
   subst e
   exact⟨h1,hL,h2,h3⟩
 · obtain⟨o,es,ep,ho,r⟩:=hm
   exact⟨o,es,ep,k _ o (Ne.symm hL) ho,r⟩
 · refine(I.hok b u e).stay (fun c v hc q=>k c v ?_ q) (fun _ q=>q) fun _ _ q=>q
   rcases hc with z | z
   · rw[z];exact nit b u e
   · exact nit c _ z
theorem Inv.tok (I:Inv X pins σ H s) (t:Nat):Inv X pins σ H { s with toks:=t }:=I.un (h':=s.heap) (t':=t) Un.refl I.hok
theorem Inv.kept {t':Nat}(I:Inv X pins σ H s) (k:∀b u,s.heap.get? b=some u→h'.get? b=some u):Inv X pins σ H { s with heap:=h',toks:=t' }:=I.un (Un.kept k) (I.hok.kept k)
theorem Inv.laid {a:Addr}{o:HO}{t':Nat}(I:Inv X pins σ H s) (k:∀b u,s.heap.get? b=some u→h'.get? b=some u) (hp:s.heap.objs.size≤a) (new:ObjOk X.prog X.w (upd H a o) h' a o) :
   Inv X pins σ (upd H a o) { s with heap:=h',toks:=t' }:=I.un (Un.laid k hp (I.hok.fresh hp)) (I.hok.laid k hp new)
theorem Inv.write {x e:Addr}{o:HO}{t':Nat}(I:Inv X pins σ H s) (mu:Mut (H x)) (he:e=x∨H e=some (.own x)) (k:∀b u,b≠e→s.heap.get? b=some u→h'.get? b=some u) (heo:∃u,h'.get? e=some u)
   (new:ObjOk X.prog X.w (upd H x o) h' x o):Inv X pins σ (upd H x o) { s with heap:=h',toks:=t' }:=I.un (Un.write mu he k heo) (I.hok.write mu he k heo new)
theorem Inv.weak {σ':List (Option V)}(I:Inv X pins σ H s) (hl:σ'.length=σ.length) (w:∀(i:Nat) v,σ'[i]?=some (some v)→σ[i]?=some (some v)):Inv X pins σ' H s:=
 ⟨I.ok,I.os,I.bare,I.base,let ⟨m,hn,hl'⟩:=I.loc;⟨m,hn,fun i x v e1 e2 e3=>hl' i x v e1 (w i v e2) e3⟩,I.cell,I.free,I.freeC,I.pin,I.hok,hl.trans I.len⟩
theorem Inv.pins_of {pins':List (Addr×Obj)}(I:Inv X pins σ H s) (h:∀p∈pins',s.heap.get? p.1=some p.2∧H p.1=none∧p.1≠X.env.locals∧p.1∉X.fs∧∀v,p.2.data≠.cell v):Inv X pins' σ H s:=
 ⟨I.ok,I.os,I.bare,I.base,I.loc,I.cell,I.free,I.freeC,fun p hp=>(List.mem_append.mp hp).elim (fun z=>I.pin p (List.mem_append_left _ z)) (h p),I.hok,I.len⟩
theorem nodup_ix {N:List Str}(hN:N.Nodup) {i j:Nat}{x:Str}(a:N[i]?=some x) (b:N[j]?=some x):i=j:=by
 obtain⟨h1,e1⟩:=List.getElem?_eq_some_iff.mp a
 obtain⟨h2,e2⟩:=List.getElem?_eq_some_iff.mp b
 exact(List.getElem_inj hN).mp (e1.trans e2.symm)
theorem store_ok2 {M:Model}{A:Around}{E:Value→Shared→Prop}{i:Nat}{x:Str}{v:V}{u:Value}{Q:Unit→Shared→Prop}(I:Inv X pins σ H s) (hN:X.N.Nodup) (hi:X.N[i]?=some x) (hx:Loc X.env.scope x) (r:RelV v u)
   (h:∀s',Inv X pins (σ.set i (some v)) H s'→(∃a,Heap.SameBut a s.heap s'.heap∧(a=X.env.locals∨X.env.cells.lookup x=some a))→Q () s') (hf:X.fn x=true∨X.env.scope.names.lookup x=some .local:=by first | exact .inl rfl | exact .inr rfl | assumption):wpAny M A (storeName X.env x u) Q E s:=by
 obtain⟨m,hn,hl⟩:=id I.loc
 have hcls:(X.env.scope.kind==.class||(X.env.scope.kind==.module&&X.env.locals != X.env.globals))=false:=by rw[I.ok.kind];rfl
 have hiσ:i < σ.length:=by rw[I.len];exact(List.getElem?_eq_some_iff.mp hi).1
 have cne:=I.cne
 have tracked:∀{a:Addr}{h':Heap},(∃o,s.heap.get? a=some o∧H a=none)→Heap.SameBut a s.heap h'→HOk X.prog X.w H h':=fun {a h'} ha hs b ob e=>by
   obtain⟨_,_,hfree⟩:=ha
   refine(I.hok b ob e).stay (fun c w' hc q=>(hs.2 c ?_).trans q) (fun _ q=>q) fun _ _ q=>q
   rintro rfl
   rcases hc with rfl | hc
   · rw[hfree] at e;cases e
   · rw[hfree] at hc;cases hc
 rcases hx with hk | hk
 · refine wpAny_storeName_local hk hn (fun h' hn' hs=>?_) hcls
   obtain⟨oL,_,_,hoL,_⟩:=id hn
   refine h _ ⟨I.ok,I.os,I.bare,⟨fun b o e n hb hx=>?_,fun b o e n hb hx=>?_,I.base.free,fun b o e hx=>?_,I.base.tups,I.base.frzs,I.base.tbls⟩,⟨_,hn',fun j y v' e1 e2 e3=>?_⟩,fun y c e=>?_,I.free,I.freeC,fun p hp=>?_,tracked ⟨oL,hoL,I.free⟩ hs,by simpa using I.len⟩ ⟨_,hs,.inl rfl⟩
   · exact(hs.2 b (Nat.ne_of_lt (Nat.lt_of_lt_of_le (Heap.lt_size e) I.ok.above))).trans (I.base.keep b o e n hb hx)
   · obtain⟨sl,e1⟩:=I.base.slot b o e n hb hx
     exact⟨sl,(hs.2 b (Nat.ne_of_lt (Nat.lt_of_lt_of_le (Heap.lt_size e) I.ok.above))).trans e1⟩
   · obtain⟨o',e1⟩:=I.base.there b o e hx
     exact⟨o',(hs.2 b (Nat.ne_of_lt (Nat.lt_of_lt_of_le (Heap.lt_size e) I.ok.above))).trans e1⟩
   · by_cases hj:j=i
     · subst hj
       rw[hi] at e1;cases e1
       rw[List.getElem?_set_self hiσ] at e2
       cases e2
       exact⟨u,r,.inl ⟨hk,by simp⟩⟩
     · rw[List.getElem?_set_ne (Ne.symm hj)] at e2
       obtain⟨u',r',q⟩:=hl j y v' e1 e2 e3
       refine⟨u',r',?_⟩
       rcases q with ⟨k,e⟩ | ⟨k,c,e,z⟩
       · refine .inl ⟨k,?_⟩
         have:y≠x:=fun e=>hj (nodup_ix hN e1 (e▸hi))
         simp[this,e]
       · exact .inr ⟨k,c,e,z.sameBut hs (cne y c e)⟩
   · obtain⟨w',z⟩:=I.cell y c e
     exact⟨w',z.sameBut hs (cne y c e)⟩
   · obtain⟨e,n,ne,nf,d⟩:=I.pin p hp
     exact⟨(hs.2 p.1 ne).trans e,n,ne,nf,d⟩
 · have hfn:X.fn x=true:=by
     rcases hf with z | z
     · exact z
     · rw[z] at hk;cases hk
   obtain⟨c,hc⟩:=I.ok.has x (.inl hk)
   obtain⟨w',z⟩:=I.cell x c hc
   refine wpAny_storeName_cell I.ok.kind hk hc z (fun h' hc' hs=>?_)
   obtain⟨oc,hoc,hocd⟩:=id z
   refine h { s with heap:=h' } ⟨I.ok,I.os,I.bare,⟨fun b o e n hb hx=>?_,fun b o e n hb hx=>?_,I.base.free,fun b o e hx=>?_,I.base.tups,I.base.frzs,I.base.tbls⟩,⟨m,hn.sameBut hs (Ne.symm (cne x c hc)),fun j y v' e1 e2 e3=>?_⟩,fun y c' e=>?_,I.free,I.freeC,fun p hp=>?_,tracked ⟨oc,hoc,I.freeC x c hc⟩ hs,by simpa using I.len⟩ ⟨c,hs,.inr hc⟩
   · exact(hs.2 b (Nat.ne_of_lt (Nat.lt_of_lt_of_le (Heap.lt_size e) (I.ok.cab x c hfn hc)))).trans (I.base.keep b o e n hb hx)
   · obtain⟨sl,e1⟩:=I.base.slot b o e n hb hx
     exact⟨sl,(hs.2 b (Nat.ne_of_lt (Nat.lt_of_lt_of_le (Heap.lt_size e) (I.ok.cab x c hfn hc)))).trans e1⟩
   · obtain⟨o',e1⟩:=I.base.there b o e hx
     exact⟨o',(hs.2 b (Nat.ne_of_lt (Nat.lt_of_lt_of_le (Heap.lt_size e) (I.ok.cab x c hfn hc)))).trans e1⟩
   · by_cases hj:j=i
     · subst hj
       rw[hi] at e1;cases e1
       rw[List.getElem?_set_self hiσ] at e2
       cases e2
       exact⟨u,r,.inr ⟨.inl hk,c,hc,hc'⟩⟩
     · rw[List.getElem?_set_ne (Ne.symm hj)] at e2
       obtain⟨u',r',q⟩:=hl j y v' e1 e2 e3
       refine⟨u',r',?_⟩
       rcases q with q | ⟨k,c',e,z'⟩
       · exact .inl q
       · refine .inr ⟨k,c',e,z'.sameBut hs ?_⟩
         rintro rfl
         exact hj (nodup_ix hN e1 (I.ok.inj _ _ _ e hc▸hi))
   · by_cases hcc:c'=c
     · subst hcc;exact⟨_,hc'⟩
     · obtain⟨w2,z2⟩:=I.cell y c' e
       exact⟨w2,z2.sameBut hs hcc⟩
   · obtain⟨e,n,ne,nf,d⟩:=I.pin p hp
     refine⟨(hs.2 p.1 ?_).trans e,n,ne,nf,d⟩
     intro q
     rw[q,hoc] at e
     have q':oc=p.2:=Option.some.inj e
     exact d w' (by rw[← q'];exact hocd)
theorem store_ok {M:Model}{A:Around}{E:Value→Shared→Prop}{i:Nat}{x:Str}{v:V}{u:Value}{Q:Unit→Shared→Prop}(I:Inv X pins σ H s) (hN:X.N.Nodup) (hi:X.N[i]?=some x) (hx:Loc X.env.scope x) (r:RelV v u)
   (h:∀s',Inv X pins (σ.set i (some v)) H s'→Q () s') (hf:X.fn x=true∨X.env.scope.names.lookup x=some .local:=by first | exact .inl rfl | exact .inr rfl | assumption):wpAny M A (storeName X.env x u) Q E s:=
 store_ok2 I hN hi hx r (fun s' I' _=>h s' I') hf
theorem Inv.call' {s':Shared}{ch:List Addr}(I:Inv X pins σ H s) (ho:s'.os=s.os) (u:Un (frs X.stack) ch H H' s.heap s'.heap) (hok:HOk X.prog X.w H' s'.heap) (hg:AllBare s'.gens)
   (hch:∀b∈ch,(b∈X.ex∨X.s₀.heap.objs.size≤b)∧b≠X.env.locals∧(∀x c,X.env.cells.lookup x=some c→c≠b)∧∀p∈X.pn++pins,p.1≠b):Inv X pins σ H' s':=by
 obtain⟨h',g',d',t',o'⟩:=s'
 have e:o'=s.os:=ho
 subst e
 exact I.call (g':=g') (t':=t') (d':=d') u hok hg hch
end
abbrev XK:=Value→Option Addr→Hp→Prop
abbrev St:=List (Option V)
abbrev VK:=V→Hp→Prop
abbrev TE:=St→Hp→VK→Prop
abbrev TT:=St→Hp→(Bool→Hp→Prop)→Prop
abbrev TA:=St→Hp→(List V→Hp→Prop)→Prop
structure Ends where
 nx:St→Hp→Prop
 rt:VK
 bk:St→Hp→Prop:=fun _ _=>False
 ct:St→Hp→Prop:=fun _ _=>False
abbrev TS:=Ends→St→Hp→Prop
def EP (X:Cx) (pins:List (Addr×Obj)) (σ:St) (Q:VK) (u:Value) (s':Shared):Prop:=∃v H',Inv X pins σ H' s'∧RelV v u∧Q v H'
def TP (X:Cx) (pins:List (Addr×Obj)) (σ:St) (Q:Bool→Hp→Prop) (b:Bool) (s':Shared):Prop:=∃H',Inv X pins σ H' s'∧Q b H'
def AP (X:Cx) (pins:List (Addr×Obj)) (σ:St) (Q:List V→Hp→Prop) (us:List Value) (s':Shared):Prop:=∃vs H',Inv X pins σ H' s'∧Vals vs us∧Q vs H'
def SP (X:Cx) (pins:List (Addr×Obj)) (D:Ends) (f:Flow) (s':Shared):Prop:=
 match f with
 | .next=>∃σ' H',Inv X pins σ' H' s'∧D.nx σ' H'
 | .brk=>∃σ' H',Inv X pins σ' H' s'∧D.bk σ' H'
 | .cont=>∃σ' H',Inv X pins σ' H' s'∧D.ct σ' H'
 | .ret u=>∃v σ' H',Inv X pins σ' H' s'∧RelV v u∧D.rt v H'
def PE (X:Cx) (e:Expr) (t:TE):Prop:=
 ∀(pins:List (Addr×Obj)) (s:Shared) (σ:St) (H:Hp) (Q:VK),Inv X pins σ H s→t σ H Q→wpAny (model X.prog X.w) X.A (eval e X.env) (EP X pins σ Q) X.xe s
def PT (X:Cx) (e:Expr) (t:TT):Prop:=
 ∀(pins:List (Addr×Obj)) (s:Shared) (σ:St) (H:Hp) (Q:Bool→Hp→Prop),Inv X pins σ H s→t σ H Q→wpAny (model X.prog X.w) X.A (isTrue e X.env (eval e X.env)) (TP X pins σ Q) X.xe s
def PW (X:Cx) (e:Expr) (t:TT):Prop:=
 ∀(whole:Sem Value) (pins:List (Addr×Obj)) (s:Shared) (σ:St) (H:Hp) (Q:Bool→Hp→Prop),Inv X pins σ H s→t σ H Q→wpAny (model X.prog X.w) X.A (isTrue e X.env whole) (TP X pins σ Q) X.xe s
theorem PW.pt {X:Cx}{e:Expr}{t:TT}(h:PW X e t):PT X e t:=h _
def PA (X:Cx) (es:List Expr) (t:TA):Prop:=
 ∀(pos:Pos) (pins:List (Addr×Obj)) (s:Shared) (σ:St) (H:Hp) (Q:List V→Hp→Prop),Inv X pins σ H s→t σ H Q→wpAny (model X.prog X.w) X.A (spliced (backTo pos (starEach es X.env))) (AP X pins σ Q) X.xe s
def PS (X:Cx) (st:Stmt) (t:TS):Prop:=
 ∀(pins:List (Addr×Obj)) (s:Shared) (σ:St) (H:Hp) (D:Ends),Inv X pins σ H s→t D σ H→wpAny (model X.prog X.w) X.A (exec st X.env) (SP X pins D) X.xe s
def PSs (X:Cx) (st:List Stmt) (t:TS):Prop:=
 ∀(pins:List (Addr×Obj)) (s:Shared) (σ:St) (H:Hp) (D:Ends),Inv X pins σ H s→t D σ H→wpAny (model X.prog X.w) X.A (execs st X.env) (SP X pins D) X.xe s
theorem thn {α:Type}{t:Sem α}{Q Q':α→Shared→Prop}{M:Model}{A:Around}{E:Value→Shared→Prop}{s:Shared}(h:wpAny M A t Q E s) (hQ:∀a s,Q a s→Q' a s):wpAny M A t Q' E s:=wpAny_mono h hQ fun _ _ x=>x
end L2
namespace L2
open PySem PySem.Spec PyProof.Rows
section
variable {X:Cx}
def tVar (i:Nat):TE:=fun σ H Q=>∃v,σ[i]?=some (some v)∧Q v H
def tC (v:V):TE:=fun _ H Q=>Q v H
theorem pe_var {i:Nat}{x:Str}{pos:Pos}(hN:X.N[i]?=some x) (hv:Vis X.env.scope x) (hd:(x==("__debug__":Str))=false:=by decide) (hcd:(x==("__classdict__":Str))=false:=by decide):PE X (.Name x pos) (tVar i):=by
 intro pins s σ H Q I h
 obtain⟨v,e,h⟩:=h
 obtain⟨m,hn,hl⟩:=I.loc
 obtain⟨u,r,l⟩:=hl i x v hN e hv
 have fin:EP X pins σ Q u s:=⟨v,H,I,r,h⟩
 rcases l with ⟨hk,hm⟩ | ⟨hk,c,hc,hcell⟩
 · exact wpAny_Name (wpAny_loadName_local I.ok.kind hk hn hm fin) hd
 · rcases hk with hk | hk
   · exact wpAny_Name (wpAny_loadName_cell I.ok.kind hk hc hcell fin) hd
   · exact wpAny_Name (wpAny_loadName_free I.ok.kind hk hc hcell fin hcd) hd
theorem pe_int {i j pos}:PE X (.Constant (.int i) j pos) (tC (.int i)):=fun _ _ _ H _ I h=>wpAny_Constant_int ⟨.int i,H,I.tok _,⟨_,rfl⟩,h⟩
theorem pe_bl {b j pos}:PE X (.Constant (.bool b) j pos) (tC (.bl b)):=fun _ _ _ H _ I h=>Constant_bool ⟨.bl b,H,I,rfl,h⟩
theorem pe_non {j pos}:PE X (.Constant .none j pos) (tC .non):=fun _ _ _ H _ I h=>Constant_none ⟨.non,H,I,rfl,h⟩
theorem pe_str {x j pos}:PE X (.Constant (.str x) j pos) (tC (.str x)):=fun _ _ _ H _ I h=>Calls.Constant_str ⟨.str x,H,I.tok _,⟨_,rfl⟩,h⟩
def Gl (X:Cx) (x:Str):Prop:=X.env.kindOf x=some .globalImplicit
theorem ld_glob {E:Value→Shared→Prop}{pins:List (Addr×Obj)}{s:Shared}{σ:St}{H:Hp}{x:Str}{u:Value}{pos:Pos}{Q:Value→Shared→Prop}(I:Inv X pins σ H s) (hg:Gl X x) (hm:X.mg x=some u) (h:Q u s)
   (hd:(x==("__debug__":Str))=false:=by decide):wpAny (model X.prog X.w) X.A (eval (.Name x pos) X.env) Q E s:=
 Calls.Name_function_global I.ok.kind hg (Calls.loadGlobal_global (by rw[I.ok.glob];exact I.mod.glob.keeps I.bk) hm h) hd
theorem ld_blt {E:Value→Shared→Prop}{pins:List (Addr×Obj)}{s:Shared}{σ:St}{H:Hp}{x:Str}{u:Value}{pos:Pos}{Q:Value→Shared→Prop}(I:Inv X pins σ H s) (hg:Gl X x) (hm:X.mg x=none) (hv:bootBuiltins x=some u) (h:Q u s)
   (hn:x ≠ "__name__" := by decide) (hd:(x==("__debug__":Str))=false:=by decide):wpAny (model X.prog X.w) X.A (eval (.Name x pos) X.env) Q E s:=by
 obtain⟨mb,h1,h2⟩:=I.mod.blt
 exact Calls.Name_function_global I.ok.kind hg (Calls.loadGlobal_builtin (by rw[I.ok.glob];exact I.mod.glob.keeps I.bk) hm (by rw[I.ok.blt];exact h1.keeps I.bk) ((h2 x hn).trans hv) h) hd
theorem pe_glob {x:Str}{v:V}{u:Value}{pos:Pos}(hg:Gl X x) (hm:X.mg x=some u) (r:RelV v u) (hd:(x==("__debug__":Str))=false:=by decide):PE X (.Name x pos) (tC v):=
 fun _ _ _ H _ I h=>ld_glob I hg hm ⟨v,H,I,r,h⟩ hd
theorem pe_bltn {x:Str}{v:V}{u:Value}{pos:Pos}(hg:Gl X x) (hm:X.mg x=none) (hv:bootBuiltins x=some u) (r:RelV v u) (hn:x ≠ "__name__" := by decide) (hd:(x==("__debug__":Str))=false:=by decide):PE X (.Name x pos) (tC v):=
 fun _ _ _ H _ I h=>ld_blt I hg hm hv ⟨v,H,I,r,h⟩ hn hd
variable {a b:Expr}{ta tb:TE}{pos:Pos}
def tB (t:TE):TT:=fun σ H Q=>t σ H fun x H1=>∃c,x = .bl c∧Q c H1
theorem pt_val {e:Expr}{t:TE}(h:PE X e t) (he:∀whole,isTrue e X.env whole=(do let v ← whole;standAt e.pos;holding [v] (truthy v)):=by intro _;rfl):PT X e (tB t):=by
 intro pins s σ H Q I hw
 refine isTrue_plain (thn (h pins s σ H _ I hw) fun v s1 ⟨x,H1,I1,r1,q1⟩=>?_) (he _)
 obtain⟨d,rfl,q⟩:=q1
 cases r1
 exact wpAny_truthy_bool ⟨H1,I1,q⟩
variable {tA tB':TT}{rest:List Expr}
def tAnd (t u:TT):TT:=fun σ H Q=>t σ H fun c H1=>if c=true then u σ H1 Q else Q false H1
def tOr (t u:TT):TT:=fun σ H Q=>t σ H fun c H1=>if c=true then Q true H1 else u σ H1 Q
def tNot (t:TT):TT:=fun σ H Q=>t σ H fun c H1=>Q (!c) H1
theorem pw_and1 (ha:PT X a tA):PW X (.BoolOp .And [a] pos) tA:=by
 intro wh pins s σ H Q I h
 refine isTrue_and (thn (ha pins s σ H Q I h) fun c s1 e=>?_)
 cases c with
 | true=>exact isTrue_and_nil e
 | false=>exact e
theorem pw_or1 (ha:PT X a tA):PW X (.BoolOp .Or [a] pos) tA:=by
 intro wh pins s σ H Q I h
 refine isTrue_or (thn (ha pins s σ H Q I h) fun c s1 e=>?_)
 cases c with
 | false=>exact isTrue_or_nil e
 | true=>exact e
theorem pw_and (ha:PT X a tA) (hb:PW X (.BoolOp .And (b::rest) pos) tB'):PW X (.BoolOp .And (a::b::rest) pos) (tAnd tA tB'):=by
 intro wh pins s σ H Q I h
 refine isTrue_and (thn (ha pins s σ H _ I h) fun c s1 ⟨H1,I1,q1⟩=>?_)
 cases c with
 | true=>exact hb wh pins s1 σ H1 Q I1 q1
 | false=>exact⟨H1,I1,q1⟩
theorem pw_or (ha:PT X a tA) (hb:PW X (.BoolOp .Or (b::rest) pos) tB'):PW X (.BoolOp .Or (a::b::rest) pos) (tOr tA tB'):=by
 intro wh pins s σ H Q I h
 refine isTrue_or (thn (ha pins s σ H _ I h) fun c s1 ⟨H1,I1,q1⟩=>?_)
 cases c with
 | true=>exact⟨H1,I1,q1⟩
 | false=>exact hb wh pins s1 σ H1 Q I1 q1
theorem pt_not (ha:PT X a tA):PT X (.UnaryOp .Not a pos) (tNot tA):=by
 intro pins s σ H Q I h
 exact isTrue_not (ha pins s σ H (fun c H1=>Q (!c) H1) I h)
def tAndV (ta tb:TE):TE:=fun σ H Q=>ta σ H fun x H1=>∃c,x = .bl c∧if c=true then tb σ H1 Q else Q (.bl false) H1
def tOrV (ta tb:TE):TE:=fun σ H Q=>ta σ H fun x H1=>∃c,x = .bl c∧if c=true then Q (.bl true) H1 else tb σ H1 Q
def tNotV (ta:TE):TE:=fun σ H Q=>ta σ H fun x H1=>∃c,x = .bl c∧Q (.bl (!c)) H1
theorem pe_one {op} {t:TE}(h:PE X a t):PE X (.BoolOp op [a] pos) t:=fun pins s σ H Q I hw=>BoolOp_one (h pins s σ H Q I hw)
theorem pe_and (ha:PE X a ta) (hb:PE X (.BoolOp .And (b::rest) pos) tb):PE X (.BoolOp .And (a::b::rest) pos) (tAndV ta tb):=by
 intro pins s σ H Q I h
 refine BoolOp_and (thn (ha pins s σ H _ I h) fun v s1 ⟨x,H1,I1,r1,q1⟩=>?_)
 obtain⟨c,rfl,q1⟩:=q1
 cases r1
 refine wpAny_truthy_bool ?_
 cases c with
 | true=>exact hb pins s1 σ H1 Q I1 q1
 | false=>exact⟨.bl false,H1,I1,rfl,q1⟩
theorem pe_or (ha:PE X a ta) (hb:PE X (.BoolOp .Or (b::rest) pos) tb):PE X (.BoolOp .Or (a::b::rest) pos) (tOrV ta tb):=by
 intro pins s σ H Q I h
 refine BoolOp_or (thn (ha pins s σ H _ I h) fun v s1 ⟨x,H1,I1,r1,q1⟩=>?_)
 obtain⟨c,rfl,q1⟩:=q1
 cases r1
 refine wpAny_truthy_bool ?_
 cases c with
 | false=>exact hb pins s1 σ H1 Q I1 q1
 | true=>exact⟨.bl true,H1,I1,rfl,q1⟩
theorem pe_not (ha:PE X a ta):PE X (.UnaryOp .Not a pos) (tNotV ta):=by
 intro pins s σ H Q I h
 refine UnaryOp_ (thn (ha pins s σ H _ I h) fun v s1 ⟨x,H1,I1,r1,q1⟩=>?_)
 obtain⟨c,rfl,q1⟩:=q1
 cases r1
 exact not_of (wpAny_truthy_bool ⟨.bl (!c),H1,I1,rfl,q1⟩)
def tIf (t:TT) (ta tb:TE):TE:=fun σ H Q=>t σ H fun c H1=>if c=true then ta σ H1 Q else tb σ H1 Q
theorem pe_ifExp {c:Expr}(hc:PT X c tA) (ha:PE X a ta) (hb:PE X b tb):PE X (.IfExp c a b pos) (tIf tA ta tb):=by
 intro pins s σ H Q I h
 refine wpAny_IfExp (thn (hc pins s σ H _ I h) fun d s1 ⟨H1,I1,q1⟩=>?_)
 cases d with
 | true=>exact ha pins s1 σ H1 Q I1 q1
 | false=>exact hb pins s1 σ H1 Q I1 q1
end
end L2
namespace L2
open PySem PySem.Spec PyProof.Rows
def SqL (K:Frg) (H:Hp) (a:Addr) (xs:List V):Prop:=
 Rd H a (.lst xs) ∨
   ∃(o:Obj) (its:Array Value) (n:Nat),K.lookup a=some o∧o.cls = .type "list" ∧ o.dict=none∧o.data = .seq its n∧its.size≤sizeLine∧Vals xs its.toList
def SqT (K:Frg) (H:Hp) (a:Addr) (xs:List V):Prop:=
 Rd H a (.tup xs) ∨
   ∃(o:Obj) (its:Array Value) (n:Nat),K.lookup a=some o∧o.cls = .type "tuple" ∧ o.data = .seq its n∧its.size≤sizeLine∧Vals xs its.toList
def absV:Value→Option V
 | .none=>some .non
 | .bool b=>some (.bl b)
 | .int i _=>some (.int i)
 | .str x _=>some (.str x)
 | .bytes b _=>some (.byt b)
 | .float b _=>some (.flt b)
 | .ref a=>some (.ref a)
 | .type n=>some (.ty n)
 | _=>none
theorem RelV.abs {x:V}{u:Value}(r:RelV x u):absV u=some x:=by
 cases x with
 | non=>cases r;rfl
 | bl _=>cases r;rfl
 | int _=>obtain⟨t,rfl⟩:=r;rfl
 | str _=>obtain⟨t,rfl⟩:=r;rfl
 | byt _=>obtain⟨t,rfl⟩:=r;rfl
 | flt _=>obtain⟨t,rfl⟩:=r;rfl
 | ref _=>cases r;rfl
 | ty _=>cases r;rfl
theorem RelV.inj {x y:V}{u:Value}(r:RelV x u) (q:RelV y u):x=y:=Option.some.inj (r.abs.symm.trans q.abs)
theorem Vals.inj:∀{xs ys:List V}{us:List Value},Vals xs us→Vals ys us→xs=ys
 | _,_,_,.nil,.nil=>rfl
 | _,_,_,.cons r t,.cons r' t'=>by rw[r.inj r',Vals.inj t t']
section
variable {X:Cx}{pins:List (Addr×Obj)}{σ:St}{H:Hp}{s:Shared}{a:Addr}{xs ys:List V}
theorem SqL.of {K:Frg}(h:H a=some (.lst xs)):SqL K H a xs:=.inl (.inl h)
theorem Inv.list (I:Inv X pins σ H s) (h:SqL X.K H a xs):∃its:List Value,Vals xs its∧PlainL s.heap a its.toArray∧xs.length≤sizeLine:=by
 rcases h with h | ⟨o,its,n,hk,hc,hd,hs,hz,r⟩
 · obtain⟨z,its,n,r,e⟩:=h.ok I.hok
   exact⟨its,r,⟨_,n,e,rfl,rfl,rfl⟩,z⟩
 · refine⟨its.toList,r,⟨o,n,I.kIn a o hk,hc,hd,by simpa using hs⟩,?_⟩
   have e:=r.length
   simp only[Array.length_toList] at e
   omega
theorem Inv.tuple (I:Inv X pins σ H s) (h:SqT X.K H a xs):∃its:List Value,Vals xs its∧IsTup s.heap a its.toArray∧xs.length≤sizeLine:=by
 rcases h with h | ⟨o,its,n,hk,hc,hs,hz,r⟩
 · obtain⟨z,its,r,p⟩:=h.ok I.hok
   exact⟨its,r,p,z⟩
 · refine⟨its.toList,r,⟨o,I.kIn a o hk,hc,n,by simpa using hs⟩,?_⟩
   have e:=r.length
   simp only[Array.length_toList] at e
   omega
theorem Inv.list_inj (I:Inv X pins σ H s) (h:SqL X.K H a xs) (h':SqL X.K H a ys):xs=ys:=by
 obtain⟨its,r,⟨o,n,e,_,_,d⟩,_⟩:=I.list h
 obtain⟨its',r',⟨o',n',e',_,_,d'⟩,_⟩:=I.list h'
 rw[e] at e';cases e'
 rw[d] at d'
 injection d' with d1 _
 have:its=its':=by simpa using congrArg Array.toList d1
 subst this
 exact r.inj r'
theorem Inv.tuple_inj (I:Inv X pins σ H s) (h:SqT X.K H a xs) (h':SqT X.K H a ys):xs=ys:=by
 obtain⟨its,r,⟨o,e,_,n,d⟩,_⟩:=I.tuple h
 obtain⟨its',r',⟨o',e',_,n',d'⟩,_⟩:=I.tuple h'
 rw[e] at e';cases e'
 rw[d] at d'
 injection d' with d1 _
 have:its=its':=by simpa using congrArg Array.toList d1
 subst this
 exact r.inj r'
end
abbrev Cx.wish (X:Cx) (E:Value→Shared→Prop):Cx:={ X with xe:=E }
abbrev Cx.nox (X:Cx):Cx:=X.wish fun _ _=>False
theorem Cx.Ok.wish {X:Cx}(ok:X.Ok) (E:Value→Shared→Prop):(X.wish E).Ok:=
 ⟨ok.mod,ok.kind,ok.glob,ok.blt,ok.above,ok.inj,ok.has,ok.cab,ok.hd,ok.frames,ok.stk,ok.exf,ok.bs,ok.bsz,ok.noex,ok.exfs,ok.funs,ok.frf⟩
theorem Cx.Ok.unwish {X:Cx}{E:Value→Shared→Prop}(ok:(X.wish E).Ok):X.Ok:=
 ⟨ok.mod,ok.kind,ok.glob,ok.blt,ok.above,ok.inj,ok.has,ok.cab,ok.hd,ok.frames,ok.stk,ok.exf,ok.bs,ok.bsz,ok.noex,ok.exfs,ok.funs,ok.frf⟩
section
variable {X:Cx}{pins:List (Addr×Obj)}{σ:St}{H:Hp}{s:Shared}{E:Value→Shared→Prop}
theorem Inv.wish (I:Inv X pins σ H s) (E:Value→Shared→Prop):Inv (X.wish E) pins σ H s:=⟨I.ok.wish E,I.os,I.bare,I.base,I.loc,I.cell,I.free,I.freeC,I.pin,I.hok,I.len⟩
theorem Inv.unwish (I:Inv (X.wish E) pins σ H s):Inv X pins σ H s:=⟨I.ok.unwish,I.os,I.bare,I.base,I.loc,I.cell,I.free,I.freeC,I.pin,I.hok,I.len⟩
theorem SP.unwish {D:Ends}{f:Flow}{s':Shared}(h:SP (X.wish E) pins D f s'):SP X pins D f s':=by
 cases f with
 | next=>obtain⟨σ',H',I,q⟩:=h;exact⟨σ',H',I.unwish,q⟩
 | brk=>obtain⟨σ',H',I,q⟩:=h;exact⟨σ',H',I.unwish,q⟩
 | cont=>obtain⟨σ',H',I,q⟩:=h;exact⟨σ',H',I.unwish,q⟩
 | ret u=>obtain⟨v,σ',H',I,r,q⟩:=h;exact⟨v,σ',H',I.unwish,r,q⟩
theorem PSs.nox {st:List Stmt}{t:TS}(h:PSs X.nox st t):PSs X st t:=fun pins s σ H D I hw=>
 wpAny_mono (h pins s σ H D (I.wish _) hw) (fun _ _ q=>q.unwish) fun _ _ z=>False.elim z
end
section
variable {X:Cx}{st:Stmt}{rest:List Stmt}{t u:TS}{e:Expr}{te:TE}{pos:Pos}
def tNext:TS:=fun D σ H=>D.nx σ H
def tSeq (t u:TS):TS:=fun D σ H=>t { D with nx:=u D } σ H
theorem pss_nil:PSs X [] tNext:=fun _ _ σ H _ I h=>wpAny_execs_nil ⟨σ,H,I,h⟩
theorem pss_cons (h1:PS X st t) (h2:PSs X rest u):PSs X (st::rest) (tSeq t u):=by
 intro pins s σ H D I h
 refine wpAny_execs_cons (thn (h1 pins s σ H { D with nx:=u D } I h) fun f s1 q=>?_)
 cases f with
 | next=>
   obtain⟨σ',H',I',q⟩:=q
   exact h2 pins s1 σ' H' D I' q
 | ret v=>exact q
 | brk=>exact q
 | cont=>exact q
theorem pss_one (h1:PS X st t):PSs X [st] t:=by
 intro pins s σ H D I h
 refine wpAny_execs_cons (thn (h1 pins s σ H D I h) fun f s1 q=>?_)
 cases f with
 | next=>exact wpAny_execs_nil q
 | ret v=>exact q
 | brk=>exact q
 | cont=>exact q
theorem Inv.quiet {pins:List (Addr×Obj)}{σ:St}{H:Hp}{s:Shared}(I:Inv X pins σ H s):interactive X.env=false:=by simp[interactive,I.ok.kind]
def tDrop (te:TE):TS:=fun D σ H=>te σ H fun _ H1=>D.nx σ H1
theorem ps_expr (he:PE X e te) (hs:swapsWith e none pos.line X.env=pure false:=by rfl):PS X (.Expr e pos) (tDrop te):=by
 intro pins s σ H D I h
 exact wpAny_Expr_any (thn (he pins s σ H _ I h) fun v s1 ⟨x,H1,I1,r1,q1⟩=>⟨σ,H1,I1,q1⟩) I.quiet hs
def tRet (te:TE):TS:=fun D σ H=>te σ H D.rt
theorem ps_ret (he:PE X e te):PS X (.Return (some e) pos) (tRet te):=by
 intro pins s σ H D I h
 exact wpAny_Return_some (thn (he pins s σ H _ I h) fun v s1 ⟨x,H1,I1,r1,q1⟩=>⟨x,σ,H1,I1,r1,q1⟩)
def tIfS (c:TT) (t u:TS):TS:=fun D σ H=>c σ H fun b H1=>if b=true then t D σ H1 else u D σ H1
theorem ps_if {c:Expr}{a b:List Stmt}{tc:TT}(hc:PT X c tc) (ha:PSs X a t) (hb:PSs X b u):PS X (.If c a b pos) (tIfS tc t u):=by
 intro pins s σ H D I h
 refine wpAny_If (thn (hc pins s σ H _ I h) fun d s1 ⟨H1,I1,q1⟩=>?_)
 cases d with
 | true=>exact ha pins s1 σ H1 D I1 q1
 | false=>exact hb pins s1 σ H1 D I1 q1
def tNever:TS:=fun _ _ _=>False
theorem pss_never {sts:List Stmt}:PSs X sts tNever:=fun _ _ _ _ _ _ h=>h.elim
end
abbrev TG:=V→St→Hp→(St→Hp→Prop)→Prop
abbrev TGs:=List V→St→Hp→(St→Hp→Prop)→Prop
def PG (X:Cx) (target:Expr) (t:TG):Prop:=
 ∀(pins:List (Addr×Obj)) (s:Shared) (σ:St) (H:Hp) (v:V) (u:Value) (Q:St→Hp→Prop),Inv X pins σ H s→RelV v u→t v σ H Q →
   wpAny (model X.prog X.w) X.A (assign target X.env u) (fun _ s'=>∃σ' H',Inv X pins σ' H' s'∧Q σ' H') X.xe s
def PGs (X:Cx) (ts:List Expr) (t:TGs):Prop:=
 ∀(pins:List (Addr×Obj)) (s:Shared) (σ:St) (H:Hp) (vs:List V) (us:List Value) (Q:St→Hp→Prop),Inv X pins σ H s→Vals vs us→t vs σ H Q →
   wpAny (model X.prog X.w) X.A (assignInOrder ((assignEach ts X.env).map (·.2)) us) (fun _ s'=>∃σ' H',Inv X pins σ' H' s'∧Q σ' H') X.xe s
abbrev TSet:=V→V→V→Hp→(Hp→Prop)→Prop
def PSet (X:Cx) (t:TSet):Prop:=
 ∀(pins:List (Addr×Obj)) (s:Shared) (σ:St) (H:Hp) (o i v:V) (ov iv u:Value) (Q:Hp→Prop),Inv X pins σ H s→RelV o ov→RelV i iv→RelV v u→t o i v H Q →
   wpAny (model X.prog X.w) X.A (setItem ov iv u) (fun _ s'=>∃H',Inv X pins σ H' s'∧Q H') X.xe s
section
variable {X:Cx}{pos:Pos}
def gName (i:Nat):TG:=fun v σ H Q=>Q (σ.set i (some v)) H
theorem pg_name {i:Nat}{x:Str}(hN:X.N.Nodup) (hi:X.N[i]?=some x) (hx:Loc X.env.scope x) (hf:X.fn x=true∨X.env.scope.names.lookup x=some .local:=by first | exact .inl rfl | exact .inr rfl | assumption):PG X (.Name x pos) (gName i):=by
 intro pins s σ H v u Q I r h
 exact wpAny_assign_Name (store_ok I hN hi hx r (fun s' I'=>⟨_,H,I',h⟩) hf)
def gNil:TGs:=fun vs σ H Q=>vs=[]∧Q σ H
def gCons (t:TG) (u:TGs):TGs:=fun vs σ H Q=>∃v r,vs=v::r∧t v σ H fun σ' H'=>u r σ' H' Q
theorem pgs_nil:PGs X [] gNil:=by
 intro pins s σ H vs us Q I r h
 obtain⟨e,h⟩:=h
 subst e
 cases r
 exact assignInOrder_nil ⟨σ,H,I,h⟩
theorem pgs_cons {e:Expr}{es:List Expr}{t:TG}{u:TGs}(h1:PG X e t) (h2:PGs X es u)
   (hs:(assignEach (e::es) X.env).map (·.2)=assign e X.env::(assignEach es X.env).map (·.2):=by rfl):PGs X (e::es) (gCons t u):=by
 intro pins s σ H vs us Q I r h
 obtain⟨v,vr,e1,h⟩:=h
 subst e1
 cases r with
 | cons r rr=>
   rw[hs]
   refine assignInOrder_cons (thn (h1 pins s σ H _ _ _ I r h) fun _ s1 ⟨σ1,H1,I1,q1⟩=>?_)
   exact h2 pins s1 σ1 H1 _ _ Q I1 rr q1
def gTup (K:Frg) (n:Nat) (t:TGs):TG:=fun v σ H Q=>∃a xs,v = .ref a∧SqT K H a xs∧xs.length=n∧t xs σ H Q
theorem pg_tup {es:List Expr}{k:Nat}{t:TGs}{n:Nat}(hc:X.calm=true) (h:PGs X es t)
   (hn:(assignEach es X.env).length=n:=by rfl) (hst:(assignEach es X.env).findIdx? (·.1)=none:=by rfl):PG X (.Tuple es k pos) (gTup X.K n t):=by
 intro pins s σ H v u Q I r hw
 obtain⟨a,xs,e1,hq,hl,hw⟩:=hw
 subst e1
 cases r
 obtain⟨its,rv,ht,hz⟩:=I.tuple hq
 refine assign_Tuple_tuple (I.ok.hd hc) ht (by simp[hn,← hl,rv.length]) hst fun h' hx=>?_
 have I1:Inv X pins σ H { s with heap:=h' }:=I.kept (t':=s.toks) fun b o e=>hx b o (Nat.ne_of_lt (Heap.lt_size e)) e
 exact h pins _ σ H xs _ Q I1 (by simpa using rv) hw
def gSub (to ti:TE) (t:TSet):TG:=fun v σ H Q=>to σ H fun o H1=>ti σ H1 fun i H2=>t o i v H2 fun H3=>Q σ H3
theorem pg_sub {o i:Expr}{to ti:TE}{t:TSet}(ho:PE X o to) (hi:PE X i ti) (hs:PSet X t)
   (ha:∀v,assign (.Subscript o i pos) X.env v=(do
     let ov ← holding [v] (eval o X.env)
     let iv ← holding [v,ov] (eval i X.env)
     standAt pos
     holding [v,ov,iv] (setItem ov iv v)
     release [v,ov,iv] []):=by intro _;rfl):PG X (.Subscript o i pos) (gSub to ti t):=by
 intro pins s σ H v u Q I r h
 rw[ha]
 refine wpAny_bind (wpAny_holding (thn (ho pins s σ H _ I h) fun ov s1 ⟨x,H1,I1,r1,q1⟩=>?_))
 refine wpAny_bind (wpAny_holding (thn (hi pins s1 σ H1 _ I1 q1) fun iv s2 ⟨y,H2,I2,r2,q2⟩=>?_))
 refine wpAny_bind (wpAny_standAt (wpAny_bind (wpAny_holding (thn (hs pins s2 σ H2 x y v ov iv u _ I2 r1 r2 r q2) fun _ s3 ⟨H3,I3,q3⟩=>?_))))
 exact wpAny_release ⟨σ,H3,I3,q3⟩
def tAsg (te:TE) (g:TG):TS:=fun D σ H=>te σ H fun x H1=>g x σ H1 D.nx
theorem ps_asg {tg e:Expr}{te:TE}{g:TG}(he:PE X e te) (hg:PG X tg g) (hs:swapsWithSole [tg] e pos.line X.env=pure false:=by rfl) (hw:swappedStores [tg] e X.env=pure none:=by rfl)
   (h1:(assignEach [tg] X.env).map (·.2)=[assign tg X.env]:=by rfl):PS X (.Assign [tg] e pos) (tAsg te g):=by
 intro pins s σ H D I h
 refine wpAny_Assign_stores (thn (he pins s σ H _ I h) fun v s1 ⟨x,H1,I1,r1,q1⟩=>?_) hs hw
 rw[h1]
 exact thn (hg pins s1 σ H1 x v _ I1 r1 q1) fun _ s2 q=>q
theorem ps_set {i:Nat}{x:Str}{e:Expr}{te:TE}{pos':Pos}(hN:X.N.Nodup) (hi:X.N[i]?=some x) (hx:Loc X.env.scope x) (he:PE X e te) (hs:swapsWith e (some (.Name x pos')) pos.line X.env=pure false:=by rfl) (hf:X.fn x=true∨X.env.scope.names.lookup x=some .local:=by first | exact .inl rfl | exact .inr rfl | assumption) :
   PS X (.Assign [.Name x pos'] e pos) (tAsg te (gName i)):=by
 intro pins s σ H D I h
 refine wpAny_Assign_Name (thn (he pins s σ H _ I h) fun v s1 ⟨y,H1,I1,r1,q1⟩=>?_) hs
 exact store_ok I1 hN hi hx r1 (fun s2 I2=>⟨_,H1,I2,q1⟩) hf
end
section
variable {X:Cx}{pos:Pos}
def tWhile (c:TT) (tb:TS):TS:=fun D σ H=>∃W:Nat→St→Hp→Prop,(∃m,W m σ H)∧∀m σ H,W m σ H →
 c σ H fun b H1=>if b=true then ∃N:St→Hp→Prop,(∀σ' H',N σ' H'→∃m',m' < m∧W m' σ' H')∧tb { D with nx:=N,ct:=N,bk:=D.nx } σ H1 else D.nx σ H1
theorem ps_while {c:Expr}{body:List Stmt}{tc:TT}{tb:TS}(hp:PassesOwn (model X.prog X.w) X.A X.env X.xe) (hc:PT X c tc) (hb:PSs X body tb):PS X (.While c body [] pos) (tWhile tc tb):=by
 intro pins s σ H D I h
 obtain⟨W,⟨m0,w0⟩,turn⟩:=h
 refine wpAny_While (codeAny_whileLoop (fun n s'=>∃σ' H',Inv X pins σ' H' s'∧W n σ' H') ?_ m0 ⟨σ,H,I,w0⟩)
 rintro n s1 ⟨σ1,H1,I1,w1⟩
 refine wpAny_passesOwn hp (thn (hc pins s1 σ1 H1 _ I1 (turn n σ1 H1 w1)) fun b s2 ⟨H2,I2,q2⟩=>?_)
 cases b with
 | true=>
   obtain⟨N,hN,q2⟩:=q2
   rw[if_pos rfl]
   refine wpAny_passesOwn hp (thn (hb pins s2 σ1 H2 _ I2 q2) fun f s3 q3=>?_)
   cases f with
   | next=>
     obtain⟨σ3,H3,I3,n3⟩:=q3
     obtain⟨m',hm,w3⟩:=hN σ3 H3 n3
     exact⟨m',hm,σ3,H3,I3,w3⟩
   | cont=>
     obtain⟨σ3,H3,I3,n3⟩:=q3
     obtain⟨m',hm,w3⟩:=hN σ3 H3 n3
     exact⟨m',hm,σ3,H3,I3,w3⟩
   | brk=>exact q3
   | ret v=>exact q3
 | false=>
   rw[if_neg nft]
   exact wpAny_execs_nil ⟨σ1,H2,I2,q2⟩
end
structure It where
 go:Nat→Hp→Prop
 yld:Nat→Hp→V→Hp→Prop
 stop:Nat→Hp→Prop
def FpOk (X:Cx) (pins:List (Addr×Obj)) (H:Hp) (b:Addr):Prop:=
 H b=none∧b≠X.env.locals∧b∉X.fs∧(b∈X.ex∨X.s₀.heap.objs.size≤b)∧(∀x c,X.env.cells.lookup x=some c→c≠b)∧∀p∈X.pn++pins,p.1≠b
theorem Inv.fpOk {X:Cx}{pins:List (Addr×Obj)}{σ:St}{H H':Hp}{s:Shared}{b:Addr}(I:Inv X pins σ H s) (hb:s.heap.objs.size≤b) (hn:H' b=none):FpOk X pins H' b:=by
 refine⟨hn,Nat.ne_of_gt (Nat.lt_of_lt_of_le I.lt hb),I.nofs hb,.inr (Nat.le_trans I.sz hb),fun x c e z=>?_,fun p hp z=>?_⟩
 · obtain⟨v,q⟩:=I.cell x c e
   exact absurd (Nat.lt_of_lt_of_le q.lt (by rw[z];exact hb)) (Nat.lt_irrefl _)
 · exact absurd (Nat.lt_of_lt_of_le (Heap.lt_size (I.pin p hp).1) (by rw[z];exact hb)) (Nat.lt_irrefl _)
structure Turn (P:Program) (w:World) (K:Frg) (tg:Expr) (J:It) (fp:List Addr) (it:Addr) (tn:Nat→Heap→Prop):Prop where
 mem:it∈fp
 obj:∀i h,tn i h→∀b∈fp,∃o,h.get? b=some o∧∀v,o.data≠.cell v
 keep:∀i h h',tn i h→(∀b∈fp,∀o,h.get? b=some o→h'.get? b=some o)→tn i h'
 item:∀(X:Cx),X.prog=P→X.w=w→X.K=K→X.calm=true→∀(i:Nat) (pins:List (Addr×Obj)) (s:Shared) (σ:St) (H:Hp) (E:Value→Shared→Prop),Inv X pins σ H s→(∀b∈fp,FpOk X pins H b)→tn i s.heap→J.go i H →
   wpAny (model P w) X.A (pyNext (.ref it)) (fun r s1=>∃u,r=some u ∧
     wpAny (model P w) X.A (letOwnedTupleGo tg (.ref it) u) (fun _ s2=>∃x H',Inv X pins σ H' s2∧RelV x u∧J.yld i H x H'∧tn (i+1) s2.heap∧∀b∈fp,H' b=none) E s1) E s
 done:∀(X:Cx),X.prog=P→X.w=w→X.K=K→X.calm=true→∀(i:Nat) (pins:List (Addr×Obj)) (s:Shared) (σ:St) (H:Hp) (E:Value→Shared→Prop),Inv X pins σ H s→(∀b∈fp,FpOk X pins H b)→tn i s.heap→J.stop i H →
   wpAny (model P w) X.A (pyNext (.ref it)) (fun r s1=>r=none∧Inv X pins σ H s1) E s
 self:∀(A:Around) (i:Nat) (s:Shared) (Q:Value→Shared→Prop) (E:Value→Shared→Prop),tn i s.heap→Q (.ref it) s→wpAny (model P w) A (pyIter (.ref it)) Q E s
abbrev TI:=St→Hp→(It→Hp→Prop)→Prop
def PIE (X:Cx) (pins:List (Addr×Obj)) (σ:St) (tg:Expr) (R:It→Hp→Prop) (itv:Value) (s2:Shared):Prop:=
 ∃(it:Addr) (fp:List Addr) (tn:Nat→Heap→Prop) (J:It) (H':Hp),itv = .ref it∧Inv X pins σ H' s2∧Turn X.prog X.w X.K tg J fp it tn∧tn 0 s2.heap∧(∀b∈fp,FpOk X pins H' b)∧R J H'
def PI (X:Cx) (tg iter:Expr) (wi:TI):Prop:=
 ∀(pins:List (Addr×Obj)) (s:Shared) (σ:St) (H:Hp) (R:It→Hp→Prop),Inv X pins σ H s→wi σ H R →
   wpAny (model X.prog X.w) X.A (eval iter X.env) (fun v s1=>wpAny (model X.prog X.w) X.A (pyIter v) (PIE X pins σ tg R) X.xe s1) X.xe s
theorem go_of {M:Model}{A:Around}{E:Value→Shared→Prop}{s:Shared}{tg:Expr}{it:Addr}{u:Value}{o:Obj}{n:String}{vs:Array Value}{Q:Unit→Shared→Prop}(ho:s.heap.get? it=some o) (hc:o.cls = .type n) (hd:o.data = .fields vs)
   (hn:["enumerate", "zip", "dict_itemiterator", "dict_reverseitemiterator", "odict_iterator", "itertools.zip_longest", "itertools.pairwise"].contains n=false) (hQ:Q () s):wpAny M A (letOwnedTupleGo tg (.ref it) u) Q E s:=by
 unfold letOwnedTupleGo
 cases tg <;> first
   | exact wpAny_pure hQ
   | (cases u <;> first
       | exact wpAny_pure hQ
       | (refine wpAny_bind (wpAny_load ho ?_)
          rw[hc,hd]
          show wpAny M A (if (["enumerate", "zip", "dict_itemiterator", "dict_reverseitemiterator", "odict_iterator", "itertools.zip_longest", "itertools.pairwise"].contains n&&vs[0]?==some (rawInt _))=true then _ else _) Q E s
          rw[if_neg (by intro h;rw[hn,Bool.false_and] at h;cases h)]
          exact wpAny_pure hQ))
def Itl (K:Frg) (a:Addr):It:=
 ⟨fun i H=>∃xs x,SqL K H a xs∧xs[i]?=some x,fun i H x H'=>H'=H∧∀xs,SqL K H a xs→xs[i]?=some x,fun i H=>∃xs,SqL K H a xs∧xs.length≤i⟩
def Itt (K:Frg) (a:Addr):It:=
 ⟨fun i H=>∃xs x,SqT K H a xs∧xs[i]?=some x,fun i H x H'=>H'=H∧∀xs,SqT K H a xs→xs[i]?=some x,fun i H=>∃xs,SqT K H a xs∧xs.length≤i⟩
def Itr (lo:Int) (n:Nat):It:=⟨fun i _=>i < n,fun i H x H'=>H'=H∧x = .int (lo+i),fun i _=>n≤i⟩
theorem turn_list {P:Program}{w:World}{K:Frg}{tg:Expr}(a it:Addr):Turn P w K tg (Itl K a) [it] it (fun i h=>h.IsListIter it a i) where
 mem:=by simp
 obj:=fun i h st b hb=>by
   have e:b=it:=by simpa using hb
   subst e
   obtain⟨o,e,c,d⟩:=st
   exact⟨o,e,fun v z=>by rw[d] at z;cases z⟩
 keep:=fun i h h' st k=>st.at fun o e=>k it (by simp) o e
 item:=by
   intro X hP hw hK hc i pins s σ H E I hf st hg
   subst hP hw hK
   obtain⟨xs,x,hq,hx⟩:=hg
   obtain⟨its,rv,p,hz⟩:=I.list hq
   obtain⟨u,hu,ru⟩:=rv.get hx
   obtain⟨f0,f1,f2,f3,f4,f5⟩:=hf it (by simp)
   refine wpAny_pyNext_list_item st p.isList (x:=u) (by simpa using hu) fun h' st' sb=>?_
   have I1:Inv X pins σ H { s with heap:=h' }:=I.turned (t':=s.toks) (fun b o hb e=>(sb.2 b hb).trans e) f0 f1 f3 f4 f5
   obtain⟨o,e,c,d⟩:=id st'
   exact⟨u,rfl,go_of (s:={ s with heap:=h' }) e c d (by decide) ⟨x,H,I1,ru,⟨rfl,fun ys hy=>by rw[I.list_inj hy hq];exact hx⟩,st',fun b hb=>(hf b hb).1⟩⟩
 done:=by
   intro X hP hw hK hc i pins s σ H E I hf st hg
   subst hP hw hK
   obtain⟨xs,hq,hx⟩:=hg
   obtain⟨its,rv,p,hz⟩:=I.list hq
   obtain⟨f0,f1,f2,f3,f4,f5⟩:=hf it (by simp)
   have hl:=rv.length
   exact wpAny_pyNext_list_end (I.ok.hd hc) st p.isList (by simp;omega) fun h' eb=>⟨rfl,I.turned (t':=s.toks) (fun b o hb e=>eb b o hb e) f0 f1 f3 f4 f5⟩
 self:=fun _ _ _ _ _ st h=>wpAny_pyIter_listiter st h
theorem turn_tuple {P:Program}{w:World}{K:Frg}{tg:Expr}(a it:Addr):Turn P w K tg (Itt K a) [it] it (fun i h=>h.IsTupleIter it a i) where
 mem:=by simp
 obj:=fun i h st b hb=>by
   have e:b=it:=by simpa using hb
   subst e
   obtain⟨o,e,c,d⟩:=st
   exact⟨o,e,fun v z=>by rw[d] at z;cases z⟩
 keep:=fun i h h' st k=>st.at fun o e=>k it (by simp) o e
 item:=by
   intro X hP hw hK hc i pins s σ H E I hf st hg
   subst hP hw hK
   obtain⟨xs,x,hq,hx⟩:=hg
   obtain⟨its,rv,p,hz⟩:=I.tuple hq
   obtain⟨u,hu,ru⟩:=rv.get hx
   obtain⟨f0,f1,f2,f3,f4,f5⟩:=hf it (by simp)
   refine wpAny_pyNext_tuple_item st (show s.heap.IsTuple a its.toArray from p) (x:=u) (by simpa using hu) fun h' st' sb=>?_
   have I1:Inv X pins σ H { s with heap:=h' }:=I.turned (t':=s.toks) (fun b o hb e=>(sb.2 b hb).trans e) f0 f1 f3 f4 f5
   obtain⟨o,e,c,d⟩:=id st'
   exact⟨u,rfl,go_of (s:={ s with heap:=h' }) e c d (by decide) ⟨x,H,I1,ru,⟨rfl,fun ys hy=>by rw[I.tuple_inj hy hq];exact hx⟩,st',fun b hb=>(hf b hb).1⟩⟩
 done:=by
   intro X hP hw hK hc i pins s σ H E I hf st hg
   subst hP hw hK
   obtain⟨xs,hq,hx⟩:=hg
   obtain⟨its,rv,p,hz⟩:=I.tuple hq
   obtain⟨f0,f1,f2,f3,f4,f5⟩:=hf it (by simp)
   have hl:=rv.length
   exact wpAny_pyNext_tuple_end (I.ok.hd hc) st (show s.heap.IsTuple a its.toArray from p) (by simp;omega) fun h' eb=>⟨rfl,I.turned (t':=s.toks) (fun b o hb e=>eb b o hb e) f0 f1 f3 f4 f5⟩
 self:=fun _ _ _ _ _ st h=>wpAny_pyIter_tupleiter st h
theorem turn_range {P:Program}{w:World}{K:Frg}{tg:Expr}(it:Addr) (lo:Int) (n:Nat):Turn P w K tg (Itr lo n) [it] it (fun i h=>IsRangeIter h it (lo+(i:Nat)*1) ((n:Int) - (i:Nat)) 1) where
 mem:=by simp
 obj:=fun i h st b hb=>by
   have e:b=it:=by simpa using hb
   subst e
   exact⟨_,st,fun v z=>by
     have z':Data.fields _=Data.cell v:=z
     cases z'⟩
 keep:=fun i h h' st k=>k it (by simp) _ st
 item:=by
   intro X hP hw hK hc i pins s σ H E I hf st hg
   subst hP hw hK
   obtain⟨f0,f1,f2,f3,f4,f5⟩:=hf it (by simp)
   have W:=Walks.range (prog:=X.prog) (w:=X.w) (I.ok.hd hc) it lo 1 n
   refine W.item i s _ _ hg st fun v h' tk hv st' kk=>?_
   obtain⟨t,rfl⟩:=hv
   have I1:Inv X pins σ H { s with heap:=h',toks:=tk }:=I.turned (fun b o hb e=>kk b o (by simpa using hb) e) f0 f1 f3 f4 f5
   refine⟨_,rfl,go_of (s:={ s with heap:=h',toks:=tk }) (n:= "range_iterator") st' rfl rfl (by decide) ⟨.int (lo+i),H,I1,⟨t,?_⟩,⟨rfl,rfl⟩,st',fun b hb=>(hf b hb).1⟩⟩
   rw[Int.mul_one]
 done:=by
   intro X hP hw hK hc i pins s σ H E I hf st hg
   subst hP hw hK
   obtain⟨f0,f1,f2,f3,f4,f5⟩:=hf it (by simp)
   exact wpAny_pyNext_range_end (I.ok.hd hc) st (by have:n≤i:=hg;omega) fun h' eb=>⟨rfl,I.turned (t':=s.toks) (fun b o hb e=>eb b o hb e) f0 f1 f3 f4 f5⟩
 self:=fun _ _ _ _ _ st h=>wpAny_pyIter_rangeiter st h
end L2
namespace L2
open PySem PySem.Spec PyProof.Rows
section
variable {X:Cx}{tg:Expr}
theorem range_it {pins:List (Addr×Obj)}{σ:St}{H:Hp}{s:Shared}{R:It→Hp→Prop}{E:Value→Shared→Prop}{lo hi:Int}{t u v:Tok}{tk:Nat}(I:Inv X pins σ H s) (h1 : -(2 ^ 62)≤lo) (h2:lo < 2 ^ 62) (h3 : -(2 ^ 62)≤hi) (h4:hi < 2 ^ 62)
   (q:R (Itr lo (hi - lo).toNat) H):wpAny (model X.prog X.w) X.A (pyIter (.ref s.heap.objs.size)) (PIE X pins σ tg R) E { s with heap:=s.heap.push { cls:=.type "range", data:=.fields #[.int lo t,.int hi u,.int 1 v] },toks:=tk }:=by
 refine wpAny_pyIter_range (IsRange.new ..) (small_one h1 h2 h3 h4) ?_
 have I1:Inv X pins σ H { s with heap:=s.heap.push { cls:=.type "range", data:=.fields #[.int lo t,.int hi u,.int 1 v] },toks:=tk }:=I.kept fun b o e=>Heap.get?_push_of_some _ e
 refine⟨(s.heap.push { cls:=.type "range", data:=.fields #[.int lo t,.int hi u,.int 1 v] }).objs.size,[(s.heap.push { cls:=.type "range", data:=.fields #[.int lo t,.int hi u,.int 1 v] }).objs.size],_,_,H,rfl,
   I1.kept (t':=tk) fun b o e=>Heap.get?_push_of_some _ e,turn_range _ lo (hi - lo).toNat,?_,fun b hb=>?_,q⟩
 · have e1:lo+((0:Nat):Int)*1=lo:=by simp
   have e2:(((hi - lo).toNat:Nat):Int) - ((0:Nat):Int)=Builtin.Range.rangeSize lo hi 1:=by rw[rangeSize_one];split <;> omega
   show IsRangeIter _ _ (lo+((0:Nat):Int)*1) ((((hi - lo).toNat:Nat):Int) - ((0:Nat):Int)) 1
   rw[e1,e2]
   exact Heap.get?_push_size _ rfl
 · have e:b=(s.heap.push { cls:=.type "range", data:=.fields #[.int lo t,.int hi u,.int 1 v] }).objs.size:=by simpa using hb
   subst e
   exact I1.fpOk (Nat.le_refl _) (I1.hok.fresh (Nat.le_refl _))
def iRng1 (ta:TA):TI:=fun σ H R=>ta σ H fun vs H1=>∃j:Int,vs=[.int j]∧-(2 ^ 62)≤j∧j < 2 ^ 62∧R (Itr 0 j.toNat) H1
theorem pi_range1 {a:Expr}{ta:TA}{p pos:Pos}(hg:Gl X "range") (hm:X.mg "range"=none) (ha:PA X [a] ta) (hs:starEach [a] X.env=[(false,eval a X.env)]:=by rfl):PI X tg (.Call (.Name "range" p) [a] [] pos) (iRng1 ta):=by
 intro pins s σ H R I h
 refine Call_ (ld_blt I hg hm boot_range (PyProof.Rows.callWith_type1 (thn (ha pos pins s σ H _ I h) fun us s1 ⟨vs,H1,I1,r1,q1⟩=>?_) hs rfl))
 obtain⟨j,e,q1,q2,q⟩:=q1
 subst e
 cases r1 with
 | cons r rr=>
   cases rr
   obtain⟨t,rfl⟩:=r
   exact call_range_1 (range_it I1 (by omega) (by omega) q1 q2 (by simpa using q))
def tFor (wi:TI) (g:TG) (tb:TS):TS:=fun D σ H=>wi σ H fun J H1=>∃W:Nat→Nat→St→Hp→Prop,(∃m,W 0 m σ H1)∧∀i m σ H,W i m σ H →
 (J.stop i H∧D.nx σ H)∨(J.go i H∧∃N:St→Hp→Prop,(∀σ' H',N σ' H'→∃m',m' < m∧W (i+1) m' σ' H')∧∀x H',J.yld i H x H'→g x σ H' fun σ2 H2=>tb { D with nx:=N,ct:=N,bk:=D.nx } σ2 H2)
def pinsAt (fp:List Addr) (h:Heap):List (Addr×Obj):=fp.filterMap fun b=>(h.get? b).map fun o=>(b,o)
theorem mem_pinsAt {fp:List Addr}{h:Heap}{b:Addr}{o:Obj}(hb:b∈fp) (e:h.get? b=some o):(b,o)∈pinsAt fp h:=List.mem_filterMap.mpr ⟨b,hb,by rw[e];rfl⟩
theorem of_pinsAt {fp:List Addr}{h:Heap}{p:Addr×Obj}(hp:p∈pinsAt fp h):p.1∈fp∧h.get? p.1=some p.2:=by
 obtain⟨b,hb,e⟩:=List.mem_filterMap.mp hp
 cases q:h.get? b with
 | none=>rw[q] at e;cases e
 | some o=>
   rw[q] at e
   have e':(b,o)=p:=Option.some.inj e
   subst e'
   exact⟨hb,q⟩
theorem Inv.pinned {pins:List (Addr×Obj)}{σ:St}{H:Hp}{s:Shared}{fp:List Addr}(I:Inv X pins σ H s) (hf:∀b∈fp,FpOk X pins H b) (ho:∀b∈fp,∃o,s.heap.get? b=some o∧∀v,o.data≠.cell v):Inv X (pins++pinsAt fp s.heap) σ H s:=
 I.pins_of fun p hp=>(List.mem_append.mp hp).elim (fun z=>I.pin p (List.mem_append_right _ z)) fun z=>by
   obtain⟨hb,e⟩:=of_pinsAt z
   obtain⟨f0,f1,f2,_⟩:=hf p.1 hb
   obtain⟨o,e',d⟩:=ho p.1 hb
   rw[e] at e';cases e'
   exact⟨e,f0,f1,f2,d⟩
theorem Inv.unpinned {pins pl:List (Addr×Obj)}{σ:St}{H:Hp}{s:Shared}(I:Inv X (pins++pl) σ H s):Inv X pins σ H s:=I.pins_of fun p hp=>I.pin p (List.mem_append_right _ (List.mem_append_left _ hp))
theorem ps_for {iter:Expr}{body:List Stmt}{wi:TI}{g:TG}{tb:TS}{pos:Pos}(hp:PassesOwn (model X.prog X.w) X.A X.env X.xe) (hc:X.calm=true) (hi:PI X tg iter wi) (hg:PG X tg g) (hb:PSs X body tb)
   (hs:∀x,foldedSetIterable iter X.env x=pure x:=by intro _;rfl):PS X (.For tg iter body [] pos) (tFor wi g tb):=by
 intro pins s σ H D I h
 refine wpAny_For (thn (hi pins s σ H _ I h) fun v s1 h1=>thn h1 fun itv s2 h2=>?_) hs
 obtain⟨it,fp,tn,J,H2,e,I2,T,st2,f2,W,⟨m0,w0⟩,turn⟩:=h2
 subst e
 have stat:∀{H':Hp},(∀b∈fp,H' b=none)→∀b∈fp,FpOk X pins H' b:=fun hn b hb=>⟨hn b hb,(f2 b hb).2⟩
 refine codeAny_forLoop_any (fun n s'=>∃i σ' H',Inv X pins σ' H' s'∧tn i s'.heap∧(∀b∈fp,H' b=none)∧W i n σ' H') ?_ m0 ⟨0,σ,H2,I2,st2,fun b hb=>(f2 b hb).1,w0⟩
 rintro n s3 ⟨i,σ3,H3,I3,st3,fr3,w3⟩
 rcases turn i n σ3 H3 w3 with ⟨stop,qn⟩ | ⟨go,N,hN,step⟩
 · refine wpAny_passesOwn hp (thn (T.done X rfl rfl rfl hc i pins s3 σ3 H3 X.xe I3 (stat fr3) st3 stop) fun r s4 ⟨hr,I4⟩=>?_)
   subst hr
   exact wpAny_execs_nil ⟨σ3,H3,I4,qn⟩
 · refine wpAny_passesOwn hp (thn (T.item X rfl rfl rfl hc i pins s3 σ3 H3 X.xe I3 (stat fr3) st3 go) fun r s4 ⟨u,hr,h4⟩=>?_)
   subst hr
   refine wpAny_passesOwn hp (thn h4 fun _ s5 ⟨x,H5,I5,r5,y5,st5,fr5⟩=>?_)
   have I5':=I5.pinned (stat fr5) (T.obj _ _ st5)
   refine wpAny_passesOwn hp (thn (hg _ s5 σ3 H5 x u _ I5' r5 (step x H5 y5)) fun _ s6 ⟨σ6,H6,I6,q6⟩=>?_)
   refine wpAny_passesOwn hp (thn (hb _ s6 σ6 H6 _ I6 q6) fun f s7 q7=>?_)
   have again:∀{σ7:St}{H7:Hp},Inv X (pins++pinsAt fp s5.heap) σ7 H7 s7→N σ7 H7→∃m,m < n∧∃i σ' H',Inv X pins σ' H' s7∧tn i s7.heap∧(∀b∈fp,H' b=none)∧W i m σ' H':=fun {σ7 H7} I7 n7=>by
     obtain⟨m',hm,w7⟩:=hN σ7 H7 n7
     refine⟨m',hm,i+1,σ7,H7,I7.unpinned,T.keep _ _ _ st5 fun b hb o e=>(I7.pin (b,o) (List.mem_append_right _ (List.mem_append_right _ (mem_pinsAt hb e)))).1,fun b hb=>?_,w7⟩
     obtain⟨o,e,d⟩:=T.obj _ _ st5 b hb
     exact(I7.pin (b,o) (List.mem_append_right _ (List.mem_append_right _ (mem_pinsAt hb e)))).2.1
   cases f with
   | next=>obtain⟨σ7,H7,I7,n7⟩:=q7;exact again I7 n7
   | cont=>obtain⟨σ7,H7,I7,n7⟩:=q7;exact again I7 n7
   | brk=>obtain⟨σ7,H7,I7,q7⟩:=q7;exact⟨σ7,H7,I7.unpinned,q7⟩
   | ret v=>obtain⟨x7,σ7,H7,I7,r7,q7⟩:=q7;exact⟨x7,σ7,H7,I7.unpinned,r7,q7⟩
end
end L2
namespace L2
open PySem PySem.Spec PyProof.Rows
abbrev R2:=V→V→Hp→VK→Prop
def OpR (X:Cx) (f:Value→Value→Sem Value) (r:R2):Prop:=
 ∀(pins:List (Addr×Obj)) (s:Shared) (σ:St) (H:Hp) (x y:V) (v u:Value) (Q:VK),Inv X pins σ H s→RelV x v→RelV y u→r x y H Q →
   wpAny (model X.prog X.w) X.A (f v u) (EP X pins σ Q) X.xe s
def UnR (X:Cx) (f:Value→Sem Value) (r:V→Hp→VK→Prop):Prop:=
 ∀(pins:List (Addr×Obj)) (s:Shared) (σ:St) (H:Hp) (x:V) (v:Value) (Q:VK),Inv X pins σ H s→RelV x v→r x H Q →
   wpAny (model X.prog X.w) X.A (f v) (EP X pins σ Q) X.xe s
def CallR (X:Cx) (f:Value) (r:List V→Hp→VK→Prop):Prop:=
 ∀(pins:List (Addr×Obj)) (s:Shared) (σ:St) (H:Hp) (xs:List V) (us:List Value) (Q:VK),Inv X pins σ H s→Vals xs us→r xs H Q →
   wpAny (model X.prog X.w) X.A (call f us) (EP X pins σ Q) X.xe s
def tOp (r:R2) (ta tb:TE):TE:=fun σ H Q=>ta σ H fun x H1=>tb σ H1 fun y H2=>r x y H2 Q
def tUn (r:V→Hp→VK→Prop) (ta:TE):TE:=fun σ H Q=>ta σ H fun x H1=>r x H1 Q
def rI (C:Int→Int→Prop) (g:Int→Int→V):R2:=fun x y H Q=>∃i j,x = .int i∧y = .int j∧C i j∧Q (g i j) H
def rI0 (g:Int→Int→V):R2:=fun x y H Q=>∃i j,x = .int i∧y = .int j∧Q (g i j) H
def rU (g:Int→V):V→Hp→VK→Prop:=fun x H Q=>∃i,x = .int i∧Q (g i) H
section
variable {X:Cx}{a b c:Expr}{ta tb tc:TE}{pos:Pos}
theorem binT (ha:PE X a ta) (hb:PE X b tb) {pins:List (Addr×Obj)}{s:Shared}{σ:St}{H:Hp}{R:V→V→Hp→Prop}(I:Inv X pins σ H s)
   (h:ta σ H fun x H1=>tb σ H1 fun y H2=>R x y H2) {Q:Value→Shared→Prop}{f:Value→Value→Sem Value}
   (hf:∀v u s2 x y H2,Inv X pins σ H2 s2→RelV x v→RelV y u→R x y H2→wpAny (model X.prog X.w) X.A (f v u) Q X.xe s2) :
   wpAny (model X.prog X.w) X.A (eval a X.env) (fun v s₁=>wpAny (model X.prog X.w) X.A (eval b X.env) (fun u s₂=>wpAny (model X.prog X.w) X.A (f v u) Q X.xe s₂) X.xe s₁) X.xe s:=by
 refine thn (ha pins s σ H _ I h) fun v s1 ⟨x,H1,I1,r1,q1⟩=>?_
 refine thn (hb pins s1 σ H1 _ I1 q1) fun u s2 ⟨y,H2,I2,r2,q2⟩=>?_
 exact hf v u s2 x y H2 I2 r1 r2 q2
theorem pe_op {op:Operator}{r:R2}(ho:OpR X (binaryOp op) r) (ha:PE X a ta) (hb:PE X b tb):PE X (.BinOp a op b pos) (tOp r ta tb):=by
 intro pins s σ H Q I h
 exact wpAny_BinOp (binT ha hb I h fun v u s2 x y H2 I2 rx ry q=>ho pins s2 σ H2 x y v u Q I2 rx ry q)
theorem pe_un {op:UnaryOp}{r:V→Hp→VK→Prop}(ho:UnR X (unaryOp op) r) (ha:PE X a ta):PE X (.UnaryOp op a pos) (tUn r ta):=by
 intro pins s σ H Q I h
 exact UnaryOp_ (thn (ha pins s σ H _ I h) fun v s1 ⟨x,H1,I1,r1,q1⟩=>ho pins s1 σ H1 x v Q I1 r1 q1)
theorem opI {f:Value→Value→Sem Value}{C:Int→Int→Prop}{g:Int→Int→Int}
   (rule:∀(i j:Int) (t u:Tok) (s:Shared) (Q:Value→Shared→Prop) (E:Value→Shared→Prop),C i j→Q (.int (g i j) s.toks) { s with toks:=s.toks+1 }→wpAny (model X.prog X.w) X.A (f (.int i t) (.int j u)) Q E s) :
   OpR X f (rI C fun i j=>.int (g i j)):=by
 intro pins s σ H x y v u Q I rx ry h
 obtain⟨i,j,rfl,rfl,hc,q⟩:=h
 obtain⟨t,rfl⟩:=rx
 obtain⟨t',rfl⟩:=ry
 exact rule i j t t' s _ _ hc ⟨.int (g i j),H,I.tok _,⟨_,rfl⟩,q⟩
theorem opI0 {f:Value→Value→Sem Value}{g:Int→Int→Int}
   (rule:∀(i j:Int) (t u:Tok) (s:Shared) (Q:Value→Shared→Prop) (E:Value→Shared→Prop),Q (.int (g i j) s.toks) { s with toks:=s.toks+1 }→wpAny (model X.prog X.w) X.A (f (.int i t) (.int j u)) Q E s) :
   OpR X f (rI0 fun i j=>.int (g i j)):=by
 intro pins s σ H x y v u Q I rx ry h
 obtain⟨i,j,rfl,rfl,q⟩:=h
 obtain⟨t,rfl⟩:=rx
 obtain⟨t',rfl⟩:=ry
 exact rule i j t t' s _ _ ⟨.int (g i j),H,I.tok _,⟨_,rfl⟩,q⟩
theorem opB0 {f:Value→Value→Sem Value}{g:Int→Int→Bool}
   (rule:∀(i j:Int) (t u:Tok) (s:Shared) (Q:Value→Shared→Prop) (E:Value→Shared→Prop),Q (.bool (g i j)) s→wpAny (model X.prog X.w) X.A (f (.int i t) (.int j u)) Q E s) :
   OpR X f (rI0 fun i j=>.bl (g i j)):=by
 intro pins s σ H x y v u Q I rx ry h
 obtain⟨i,j,rfl,rfl,q⟩:=h
 obtain⟨t,rfl⟩:=rx
 obtain⟨t',rfl⟩:=ry
 exact rule i j t t' s _ _ ⟨.bl (g i j),H,I,rfl,q⟩
def CDiv (i j:Int):Prop:=0 < j∧j < 1073741824
def CPow (i j:Int):Prop:=0≤j∧j≤1000000∧i.natAbs < 2 ^ 64
def CMul (i j:Int):Prop:=(-(2 ^ 64) < i∧i < 2 ^ 64)∨(-(2 ^ 64) < j∧j < 2 ^ 64)
theorem CMul.ok {i j:Int}(h:CMul i j):IntMulOk i j:=by
 rcases h with ⟨h1,h2⟩ | ⟨h1,h2⟩
 · exact .of_left (intBits_le_64 h1 h2)
 · exact .of_right (intBits_le_64 h1 h2)
theorem op_add:OpR X (binaryOp .Add) (rI0 fun i j=>.int (i+j)):=opI0 fun _ _ _ _ _ _ _ q=>add_int q
theorem op_sub:OpR X (binaryOp .Sub) (rI0 fun i j=>.int (i - j)):=opI0 fun _ _ _ _ _ _ _ q=>sub_int q
theorem op_mul:OpR X (binaryOp .Mult) (rI CMul fun i j=>.int (i*j)):=opI fun _ _ _ _ _ _ _ hc q=>mul_int q hc.ok
theorem op_mod:OpR X (binaryOp .Mod) (rI (fun _ j=>0 < j) fun i j=>.int (i % j)):=opI fun i j _ _ _ _ _ hc q=>by
 have h1:(0:Int) < j:=hc
 exact mod_int' (by omega) (by rw[Int.fmod_eq_emod_of_nonneg i (by omega)];exact q)
theorem op_pow:OpR X (binaryOp .Pow) (rI CPow fun i j=>.int (i ^ j.toNat)):=opI fun _ _ _ _ _ _ _ hc q=>pow_int_small hc.1 hc.2.1 hc.2.2 q
theorem unI {f:Value→Sem Value}{g:Int→Int}
   (rule:∀(i:Int) (t:Tok) (s:Shared) (Q:Value→Shared→Prop) (E:Value→Shared→Prop),Q (.int (g i) s.toks) { s with toks:=s.toks+1 }→wpAny (model X.prog X.w) X.A (f (.int i t)) Q E s) :
   UnR X f (rU fun i=>.int (g i)):=by
 intro pins s σ H x v Q I rx h
 obtain⟨i,rfl,q⟩:=h
 obtain⟨t,rfl⟩:=rx
 exact rule i t s _ _ ⟨.int (g i),H,I.tok _,⟨_,rfl⟩,q⟩
theorem un_neg:UnR X (unaryOp .USub) (rU fun i=>.int (-i)):=unI fun _ _ _ _ _ q=>neg_int q
end
section
variable {X:Cx}{a b c:Expr}{ta tb tc:TE}{pos:Pos}
theorem fin_bl {pins:List (Addr×Obj)}{σ:St}{H:Hp}{s:Shared}{Q:VK}{k k':Bool}(I:Inv X pins σ H s) (q:Q (.bl k) H) (e:k=k'):EP X pins σ Q (.bool k') s:=by
 subst e
 exact⟨.bl k,H,I,rfl,q⟩
theorem op_lt:OpR X (compareOp .Lt) (rI0 fun i j=>.bl (decide (i < j))):=opB0 fun _ _ _ _ _ _ _ q=>lt_int q
theorem op_le:OpR X (compareOp .LtE) (rI0 fun i j=>.bl (decide (i≤j))):=opB0 fun _ _ _ _ _ _ _ q=>le_int q
theorem op_gt:OpR X (compareOp .Gt) (rI0 fun i j=>.bl (decide (j < i))):=opB0 fun _ _ _ _ _ _ _ q=>gt_int q
theorem op_ge:OpR X (compareOp .GtE) (rI0 fun i j=>.bl (decide (j≤i))):=opB0 fun _ _ _ _ _ _ _ q=>ge_int q
theorem op_lt_str:OpR X (compareOp .Lt) (fun x y H Q=>∃i j,x = .str i∧y = .str j∧Q (.bl (decide (i.cps.toList < j.cps.toList))) H):=by
 intro pins s σ H x y v u Q I rx ry h
 obtain⟨i,j,rfl,rfl,q⟩:=h
 obtain⟨t,rfl⟩:=rx
 obtain⟨t',rfl⟩:=ry
 exact lt_str (fin_bl I q rfl)
theorem op_in_str:OpR X (compareOp .In) (fun x y H Q=>∃i j,x = .str i∧y = .str j∧Q (.bl (!(Builtin.Str.occurrences j i 0 j.length 1).isEmpty)) H):=by
 intro pins s σ H x y v u Q I rx ry h
 obtain⟨i,j,rfl,rfl,q⟩:=h
 obtain⟨t,rfl⟩:=rx
 obtain⟨t',rfl⟩:=ry
 exact in_str (fin_bl I q rfl)
theorem op_isN:OpR X (compareOp .Is) (fun x y H Q=>y = .non∧Q (.bl (decide (x = .non))) H):=by
 intro pins s σ H x y v u Q I rx ry h
 obtain⟨rfl,q⟩:=h
 cases ry
 refine is_none_gen (fin_bl I q ?_)
 cases x <;> first
   | (cases rx;rfl)
   | (obtain⟨t,rfl⟩:=rx;rfl)
theorem op_notN:OpR X (compareOp .IsNot) (fun x y H Q=>y = .non∧Q (.bl (!decide (x = .non))) H):=by
 intro pins s σ H x y v u Q I rx ry h
 obtain⟨rfl,q⟩:=h
 cases ry
 refine isnot_none_gen (fin_bl I q ?_)
 cases x <;> first
   | (cases rx;rfl)
   | (obtain⟨t,rfl⟩:=rx;rfl)
theorem OpR.or {f:Value→Value→Sem Value}{r r':R2}(h:OpR X f r) (h':OpR X f r'):OpR X f (fun x y H Q=>r x y H Q∨r' x y H Q):=by
 intro pins s σ H x y v u Q I rx ry q
 rcases q with q | q
 · exact h pins s σ H x y v u Q I rx ry q
 · exact h' pins s σ H x y v u Q I rx ry q
theorem nomark (b:Expr) {op:CmpOp}(h:op≠.In:=by decide) (h2:op≠.NotIn:=by decide):behindInMarks op b=false:=by
 have e1:(op==CmpOp.In)=false:=by cases op <;> first | rfl | exact absurd rfl h
 have e2:(op==CmpOp.NotIn)=false:=by cases op <;> first | rfl | exact absurd rfl h2
 cases b <;> simp[behindInMarks,e1,e2]
theorem pe_cmpR {op:CmpOp}{r:R2}(ho:OpR X (compareOp op) r) (ha:PE X a ta) (hb:PE X b tb) (hm:behindInMarks op b=false):PE X (.Compare a [op] [b] pos) (tOp r ta tb):=by
 intro pins s σ H Q I h
 exact wpAny_Compare1 (binT ha hb I h fun v u s2 x y H2 I2 rx ry q=>ho pins s2 σ H2 x y v u Q I2 rx ry q) hm
def tTest (t:TE):TT:=fun σ H Q=>t σ H fun x H'=>∃k,x = .bl k∧Q k H'
theorem pt_cmpR {op:CmpOp}{r:R2}(ho:OpR X (compareOp op) r) (ha:PE X a ta) (hb:PE X b tb) (hm:behindInMarks op b=false):PT X (.Compare a [op] [b] pos) (tTest (tOp r ta tb)):=by
 intro pins s σ H Q I h
 refine wpAny_isTrue_Compare1 (thn (ha pins s σ H _ I h) fun v s1 ⟨x,H1,I1,r1,q1⟩=>thn (hb pins s1 σ H1 _ I1 q1) fun u s2 ⟨y,H2,I2,r2,q2⟩=>
   thn (ho pins s2 σ H2 x y v u _ I2 r1 r2 q2) fun c s3 ⟨z,H3,I3,r3,k,e,q3⟩=>?_) hm
 subst e
 cases r3
 exact wpAny_truthy_bool ⟨H3,I3,q3⟩
def tChain (r r':R2) (ta tb tc:TE):TE:=fun σ H Q=>ta σ H fun x H1=>tb σ H1 fun y H2=>r x y H2 fun z H3=>∃k,z = .bl k ∧
 (if k=true then tc σ H3 fun w' H4=>r' y w' H4 Q else Q (.bl false) H3)
theorem pe_chain {op op':CmpOp}{r r':R2}(ho:OpR X (compareOp op) r) (ho':OpR X (compareOp op') r') (ha:PE X a ta) (hb:PE X b tb) (hc:PE X c tc)
   (hm:lastMarks [op,op'] [b,c]=false:=by with_unfolding_all rfl):PE X (.Compare a [op,op'] [b,c] pos) (tChain r r' ta tb tc):=by
 intro pins s σ H Q I h
 refine Compare_chain (thn (ha pins s σ H _ I h) fun v s1 ⟨x,H1,I1,r1,q1⟩=>chain_link (thn (hb pins s1 σ H1 _ I1 q1) fun u s2 ⟨y,H2,I2,r2,q2⟩=>
   thn (ho pins s2 σ H2 x y v u _ I2 r1 r2 q2) fun d s3 ⟨z,H3,I3,r3,k,e,q3⟩=>?_)) hm
 subst e
 cases r3
 refine wpAny_truthy_bool ?_
 cases k with
 | false=>exact ite_ff ⟨.bl false,H3,I3,rfl,q3⟩
 | true=>exact ite_tt (chain_last (thn (hc pins s3 σ H3 _ I3 q3) fun w' s4 ⟨z',H4,I4,r4,q4⟩=>ho' pins s4 σ H4 y z' u w' Q I4 r2 r4 q4))
theorem pt_chain {op op':CmpOp}{r r':R2}(ho:OpR X (compareOp op) r) (ho':OpR X (compareOp op') r') (ha:PE X a ta) (hb:PE X b tb) (hc:PE X c tc)
   (hm:lastMarks [op,op'] [b,c]=false:=by with_unfolding_all rfl):PT X (.Compare a [op,op'] [b,c] pos) (tTest (tChain r r' ta tb tc)):=by
 intro pins s σ H Q I h
 refine isTrue_chain (thn (ha pins s σ H _ I h) fun v s1 ⟨x,H1,I1,r1,q1⟩=>test_link (thn (hb pins s1 σ H1 _ I1 q1) fun u s2 ⟨y,H2,I2,r2,q2⟩=>
   thn (ho pins s2 σ H2 x y v u _ I2 r1 r2 q2) fun d s3 ⟨z,H3,I3,r3,k,e,q3⟩=>?_)) hm
 subst e
 cases r3
 refine wpAny_truthy_bool ?_
 cases k with
 | false=>
   obtain⟨k',e',q'⟩:=q3
   cases e'
   exact ite_ff ⟨H3,I3,q'⟩
 | true=>
   refine ite_tt (test_last (thn (hc pins s3 σ H3 _ I3 q3) fun w' s4 ⟨z',H4,I4,r4,q4⟩=>thn (ho' pins s4 σ H4 y z' u w' _ I4 r2 r4 q4) fun d' s5 ⟨z2,H5,I5,r5,k2,e2,q5⟩=>?_))
   subst e2
   cases r5
   exact wpAny_truthy_bool ⟨H5,I5,q5⟩
theorem line63:(sizeLine:Nat) < 2 ^ 63:=by rw[sizeLine_eq];decide
theorem op_add_str:OpR X (binaryOp .Add) (fun x y H Q=>∃i j,x = .str i∧y = .str j∧i.length+j.length≤sizeLine∧Q (.str (i++j)) H):=by
 intro pins s σ H x y v u Q I rx ry h
 obtain⟨i,j,rfl,rfl,hz,q⟩:=h
 obtain⟨t,rfl⟩:=rx
 obtain⟨t',rfl⟩:=ry
 exact add_str (fun t' tk=>⟨.str (i++j),H,I.tok _,⟨_,rfl⟩,q⟩) hz
theorem vals1 {x:V}{us:List Value}(r:Vals [x] us):∃u,us=[u]∧RelV x u:=by
 cases r with
 | cons r1 r2=>cases r2;exact⟨_,rfl,r1⟩
theorem vals2 {x y:V}{us:List Value}(r:Vals [x,y] us):∃u w',us=[u,w']∧RelV x u∧RelV y w':=by
 cases r with
 | cons r1 r2=>
   cases r2 with
   | cons r3 r4=>cases r4;exact⟨_,_,rfl,r1,r3⟩
theorem call_abs:CallR X (.builtin "abs") (fun xs H Q=>∃i,xs=[.int i]∧Q (.int (if i < 0 then -i else i)) H):=by
 intro pins s σ H xs us Q I r h
 obtain⟨i,rfl,q⟩:=h
 obtain⟨u,rfl,t,rfl⟩:=vals1 r
 exact call_abs_int fun u tk=>⟨.int (if i < 0 then -i else i),H,I.tok _,⟨_,rfl⟩,q⟩
theorem call_int1:CallR X (.type "int") (fun xs H Q=>(∃i,xs=[.int i]∧Q (.int i) H)∨∃k,xs=[.bl k]∧Q (.int (if k then 1 else 0)) H):=by
 intro pins s σ H xs us Q I r h
 rcases h with ⟨i,rfl,q⟩ | ⟨k,rfl,q⟩
 · obtain⟨u,rfl,t,rfl⟩:=vals1 r
   exact call_int_int ⟨.int i,H,I,⟨_,rfl⟩,q⟩
 · obtain⟨u,rfl,r1⟩:=vals1 r
   cases r1
   exact call_int_bool ⟨.int (if k then 1 else 0),H,I.tok _,⟨_,rfl⟩,q⟩
theorem call_str_int:CallR X (.type "str") (fun xs H Q=>∃i,xs=[.int i]∧i.natAbs.log2 < 1920∧Q (.str (toString i)) H):=by
 intro pins s σ H xs us Q I r h
 obtain⟨i,rfl,hz,q⟩:=h
 obtain⟨u,rfl,t,rfl⟩:=vals1 r
 exact PySem.P.str_of_int hz ⟨.str _,H,I.tok _,⟨_,rfl⟩,q⟩
def LenV (K:Frg) (x:V) (H:Hp) (n:Nat):Prop:=
 match x with
 | .str y=>y.length≤sizeLine∧n=y.length
 | .byt y=>y.size≤sizeLine∧n=y.size
 | .ref p=>(∃xs,SqL K H p xs∧n=xs.length)∨∃xs,SqT K H p xs∧n=xs.length
 | _=>False
theorem call_len:CallR X (.builtin "len") (fun xs H Q=>∃x n,xs=[x]∧LenV X.K x H n∧Q (.int n) H):=by
 intro pins s σ H xs us Q I r h
 obtain⟨x,n,rfl,e,q⟩:=h
 obtain⟨u,rfl,rx⟩:=vals1 r
 have hl:=line63
 have hs:sizeLine=16777216:=sizeLine_eq
 cases x with
 | str y=>
   obtain⟨t,rfl⟩:=rx
   obtain⟨hy,e'⟩:y.length≤sizeLine∧n=y.length:=e
   subst e'
   exact len_str (by omega) ⟨.int _,H,I.tok _,⟨_,rfl⟩,q⟩
 | byt y=>
   obtain⟨t,rfl⟩:=rx
   obtain⟨hy,e'⟩:y.size≤sizeLine∧n=y.size:=e
   subst e'
   exact PySem.W.len_bytes (by omega) ⟨.int _,H,I.tok _,⟨_,rfl⟩,q⟩
 | ref p=>
   cases rx
   have e':(∃xs,SqL X.K H p xs∧n=xs.length)∨∃xs,SqT X.K H p xs∧n=xs.length:=e
   rcases e' with ⟨xs,hx,e'⟩ | ⟨xs,hx,e'⟩
   · subst e'
     obtain⟨its,r',pl,hz⟩:=I.list hx
     have hlen:=r'.length
     exact Calls.call_len_list pl.isList (by simp only[List.size_toArray];omega) ⟨.int xs.length,H,I.tok _,⟨_,by simp only[List.size_toArray];rw[hlen]⟩,q⟩
   · subst e'
     obtain⟨its,r',pl,hz⟩:=I.tuple hx
     have hlen:=r'.length
     exact len_tuple pl (by simp only[List.size_toArray];omega) ⟨.int xs.length,H,I.tok _,⟨_,by simp only[List.size_toArray];rw[hlen]⟩,q⟩
 | _=>exact(show False from e).elim
theorem call_divmod:CallR X (.builtin "divmod") (fun xs H Q=>∃i j,xs=[.int i,.int j]∧CDiv i j∧∀p,H p=none→Q (.ref p) (upd H p (.tup [.int (i/j),.int (i % j)]))):=by
 intro pins s σ H xs us Q I r h
 obtain⟨i,j,rfl,⟨h1,h2⟩,q⟩:=h
 obtain⟨u,w',rfl,⟨t,rfl⟩,⟨t',rfl⟩⟩:=vals2 r
 refine divmod_int (by omega) ?_ (.inl (PyProof.noPylong_small (by omega)))
 rw[Int.fdiv_eq_ediv_of_nonneg i (by omega),Int.fmod_eq_emod_of_nonneg i (by omega)]
 have hn:H s.heap.objs.size=none:=I.hok.fresh (Nat.le_refl _)
 refine⟨.ref s.heap.objs.size,_,?_,rfl,q _ hn⟩
 refine I.laid (fun b o e=>Heap.get?_push_of_some _ e) (Nat.le_refl _) ⟨by simp only[List.length_cons,List.length_nil];rw[sizeLine_eq];decide,[.int (i/j) s.toks,.int (i % j) (s.toks+1)],.cons ⟨_,rfl⟩ (.cons ⟨_,rfl⟩ .nil),?_⟩
 exact⟨_,Heap.get?_push_size s.heap rfl,rfl,0,rfl⟩
end
end L2
namespace L2
open PySem PySem.Spec PyProof.Rows
structure ObjM (h:Heap) (x dx C:Addr) (mA:Str→Option Value):Prop where
 obj:h.get? x=some (PySem.W.instObj C dx)
 ns:h.Ns1 dx mA
 ne:dx≠x
theorem lookIn_ns {h:Heap}{dx:Addr}{mA:Str→Option Value}(n:h.Ns1 dx mA):∃od,h.get? dx=some od∧∀name,PySem.W.lookIn name od=some (mA name):=by
 obtain⟨o,es,ep,ho,hd,hk,_,hm⟩:=n
 refine⟨o,ho,fun name=>?_⟩
 have e:=hm name
 unfold nsFind findBy at e
 rw[← Array.find?_toList] at e
 unfold PySem.W.lookIn
 rw[hd]
 dsimp only
 split
 · rename_i y q
   rw[q] at e
   exact congrArg some e
 · rename_i q
   rw[q] at e
   have a:es.toList.any (·.refKey)=false:=by
     rw[List.any_eq_false]
     intro y hy
     obtain⟨z,t,hkey⟩:=hk y (Array.mem_toList_iff.mp hy)
     simp[DictEntry.refKey,hkey]
   have a':¬es.toList.any (·.refKey)=true:=by rw[a];exact nft
   rw[if_neg a']
   exact congrArg some e
theorem ObjM.look {h:Heap}{x dx C:Addr}{mA:Str→Option Value}(I:ObjM h x dx C mA):∃od,PySem.W.InstAt h x (PySem.W.instObj C dx) C (some od)∧∀name,PySem.W.lookIn name od=some (mA name):=
 let ⟨od,ho,hl⟩:=lookIn_ns I.ns
 ⟨od,⟨I.obj,rfl,rfl,ho⟩,hl⟩
theorem RelO.some_of {v:V}{o:Option Value}(r:RelO (some v) o):∃u,o=some u∧RelV v u:=by
 cases o with
 | none=>exact(show False from r).elim
 | some u=>exact⟨u,rfl,r⟩
theorem handed_of {v:V}{u:Value}(r:RelV v u):PySem.W.handedIn u=true:=by
 cases v with
 | non=>cases (show u=Value.none from r);rfl
 | bl b=>cases (show u=Value.bool b from r);rfl
 | int i=>obtain⟨t,e⟩:=(show ∃t,u=Value.int i t from r);cases e;rfl
 | str x=>obtain⟨t,e⟩:=(show ∃t,u=Value.str x t from r);cases e;rfl
 | byt b=>obtain⟨t,e⟩:=(show ∃t,u=Value.bytes b t from r);cases e;rfl
 | flt b=>obtain⟨t,e⟩:=(show ∃t,u=Value.float b t from r);cases e;rfl
 | ref a=>cases (show u=Value.ref a from r);rfl
 | ty n=>cases (show u=Value.type n from r);rfl
section
variable {P:Program}{w:World}{H H':Hp}{h h':Heap}{a C dx:Addr}{fs fs':List (Str×V)}
theorem ins_get (hok:HOk P w H h) (e:H a=some (.ins C dx fs)):∃mA,ObjM h a dx C mA∧(∀f,RelO (fs.lookup f) (mA f))∧PySem.Within mA (fs.map (·.1))∧fs.length≤1000∧H dx=some (.own a):=by
 obtain⟨d,z,ne,ob,mA,n,r,q⟩:=(show ObjOk P w H h a (.ins C dx fs) from hok a _ e)
 exact⟨mA,⟨ob,n,ne⟩,r,q,z,d⟩
end
structure Cls (K:Frg) (C:Addr):Prop where
 pg:PySem.W.plainGet K C Str.empty=true
 hd:PySem.W.hasDictIn K C=true
 po:PySem.W.plainOver K C=true
 sa:PySem.W.findIn K (.ref C) "__setattr__"=some (some (.builtin "object.__setattr__"))
theorem Cls.get {K:Frg}{C:Addr}(c:Cls K C) (f:Str):PySem.W.plainGet K C f=true:=c.pg
def NoAttr (K:Frg) (C:Addr) (f:Str):Prop:=PySem.W.findIn K (.ref C) f=some none
section
variable {X:Cx}{pins:List (Addr×Obj)}{σ:St}{H:Hp}{s:Shared}{a C dx:Addr}{fs:List (Str×V)}{f:Str}{v:V}{A:Around}{E:Value→Shared→Prop}
theorem attr_of {prog:Program}{w:World}{env:Env}{e:Expr}{f:Str}{pos:Pos}{s:Shared}{Q:Value→Shared→Prop}(hb:attributeBase e f env (eval e env)=eval e env)
   (h:wpAny (model prog w) A (eval e env) (fun o s₁=>wpAny (model prog w) A (getAttr o f true) Q E s₁) E s):wpAny (model prog w) A (eval (.Attribute e f pos) env) Q E s:=
 Attribute_any_ h (by rw[arm_eval_Attribute,hb])
end
section
variable {X:Cx}{pins:List (Addr×Obj)}{σ:St}{H:Hp}{s:Shared}{A:Around}{E:Value→Shared→Prop}{Q:Value→Shared→Prop}{c:Value}{b:Bool}
inductive TyOf (K:Frg) (H:Hp):V→Value→Prop where
 | non:TyOf K H .non (.type "NoneType")
 | bl (x:Bool):TyOf K H (.bl x) (.type "bool")
 | int (i:Int):TyOf K H (.int i) (.type "int")
 | str (x:Str):TyOf K H (.str x) (.type "str")
 | flt (x:UInt64):TyOf K H (.flt x) (.type "float")
 | lst {a:Addr}{xs:List V}(e:H a=some (.lst xs)):TyOf K H (.ref a) (.type "list")
 | frz {a:Addr}{o:Obj}{xs:List V}(e:H a=some (.frz o (.lst xs))):TyOf K H (.ref a) (.type "list")
 | tup {a:Addr}{xs:List V}(e:H a=some (.tup xs)):TyOf K H (.ref a) (.type "tuple")
 | dK {a:Addr}{kvs:List (Key×V)}(e:H a=some (.dK kvs)):TyOf K H (.ref a) (.type "dict")
 | dT {a:Addr}{kvs:List (List Key×V)}(e:H a=some (.dT kvs)):TyOf K H (.ref a) (.type "dict")
 | ins {a C dx:Addr}{fs:List (Str×V)}(e:H a=some (.ins C dx fs)) (cl:Cls K C) (ha:PySem.W.findIn K (.ref C) "__class__"=some (some (.builtin "object.__class__")))
     (hn:PySem.W.specialIn K (.builtin "object.__class__") "__get__"=some (some (.builtin "getset_descriptor.__get__"))) (htk:PySem.W.takesIn K (.builtin "object.__class__")=some true)
     (hm:PySem.W.mroIn K C (.type "object")=some true):TyOf K H (.ref a) (.ref C)
theorem isinst_ok {x:V}{u t:Value}(I:Inv X pins σ H s) (rx:RelV x u) (ty:TyOf X.K H x t) (e:PySem.W.kitOne X.K t c=some b) (h:∀tk,Q (.bool b) { s with toks:=tk }) :
   wpAny (model X.prog X.w) A (call (.builtin "isinstance") [u,c]) Q E s:=by
 cases ty with
 | non=>cases (show u=Value.none from rx);exact PySem.W.kia_one PySem.W.kitx_none I.kIn True.intro e (fun z=>nomatch z) h
 | bl y=>cases (show u=Value.bool y from rx);exact PySem.W.kia_one PySem.W.kitx_bool I.kIn True.intro e (fun z=>nomatch z) h
 | int i=>obtain⟨t,q⟩:=(show ∃t,u=Value.int i t from rx);cases q;exact PySem.W.kia_one PySem.W.kitx_int I.kIn True.intro e (fun z=>nomatch z) h
 | str y=>obtain⟨t,q⟩:=(show ∃t,u=Value.str y t from rx);cases q;exact PySem.W.kia_one PySem.W.kitx_str I.kIn True.intro e (fun z=>nomatch z) h
 | flt y=>obtain⟨t,q⟩:=(show ∃t,u=Value.float y t from rx);cases q;exact PySem.W.kia_one PySem.W.kitx_float I.kIn True.intro e (fun z=>nomatch z) h
 | @lst a xs ea=>
   cases (show u=Value.ref a from rx)
   obtain⟨_,_,n,_,h1⟩:=(show ObjOk X.prog X.w H s.heap a (.lst xs) from I.hok a _ ea)
   exact PySem.W.kia_one PySem.W.kitx_list I.kIn ⟨_,h1,rfl⟩ e (fun z=>nomatch z) h
 | @frz a ob xs ea=>
   cases (show u=Value.ref a from rx)
   obtain⟨_,_,_,n,_,h1⟩:=(show ObjOk X.prog X.w H s.heap a (.frz ob (.lst xs)) from I.hok a _ ea)
   exact PySem.W.kia_one PySem.W.kitx_list I.kIn ⟨_,h1,rfl⟩ e (fun z=>nomatch z) h
 | @tup a xs ea=>
   cases (show u=Value.ref a from rx)
   obtain⟨_,_,_,p⟩:=(show ObjOk X.prog X.w H s.heap a (.tup xs) from I.hok a _ ea)
   obtain⟨o,h1,h2,_⟩:=p
   exact PySem.W.kia_one PySem.W.kitx_tuple I.kIn ⟨o,h1,h2⟩ e (fun z=>nomatch z) h
 | @dK a kvs ea=>
   cases (show u=Value.ref a from rx)
   obtain⟨_,_,vs,_,p⟩:=(show ObjOk X.prog X.w H s.heap a (.dK kvs) from I.hok a _ ea)
   obtain⟨o,es,ep,h1,h2,_⟩:=p
   exact PySem.W.kia_one PySem.W.kitx_dict I.kIn ⟨o,h1,h2.1⟩ e (fun z=>nomatch z) h
 | @dT a kvs ea=>
   cases (show u=Value.ref a from rx)
   obtain⟨_,_,xs,_,o,es,ep,h1,h2,_⟩:=(show ObjOk X.prog X.w H s.heap a (.dT kvs) from I.hok a _ ea)
   exact PySem.W.kia_one PySem.W.kitx_dict I.kIn ⟨o,h1,h2.1⟩ e (fun z=>nomatch z) h
 | @ins a C dx fs ea cl ha hn htk hm=>
   cases (show u=Value.ref a from rx)
   obtain⟨mA,O,_⟩:=ins_get I.hok ea
   obtain⟨od,J,_⟩:=O.look
   exact PySem.W.kia_one (PySem.W.kitx_own (cl.get _) cl.hd ha hn htk hm) I.kIn J e (fun z=>nomatch z) h
end
end L2
namespace L2
open PySem PySem.Spec PyProof.Rows
structure Room (k:Nat) (A:Around):Prop where
 hd:A.handled=none
 dp:A.depth+3*k+5 < recursionLimit
 un:A.units+16*k+200 < cLine
theorem Room.mono {j k:Nat}{A:Around}(r:Room k A) (h:j≤k):Room j A:=⟨r.hd,by have:=r.dp;omega,by have:=r.un;omega⟩
theorem Room.deeper {k:Nat}{A:Around}(r:Room (k+1) A) (env:Env):Room k (A.deeper env):=
 ⟨r.hd,by have:=r.dp;show A.depth+1+3*k+5 < _;omega,by have:=r.un;show A.units+3+16*k+200 < _;omega⟩
theorem make_depth {A:Around}{C:Addr}{us:List Value}{kw:List (Str×Value)}:(A.under (.builtin "type.__call__" ⟨.ref C::us,kw⟩)).depth=A.depth+1:=by
 first | rfl | simp[Around.under,Code.weight,Code.isCreation,Code.isGuard,Code.isCaller,Code.frames,Code.isFrame,guardIds]
theorem make_units {A:Around}{C:Addr}{us:List Value}{kw:List (Str×Value)}:(A.under (.builtin "type.__call__" ⟨.ref C::us,kw⟩)).units=A.units+1:=by
 first | rfl | simp[Around.under,Code.cUnits,Code.frames,Code.isFrame]
theorem Room.make {k:Nat}{A:Around}(r:Room (k+1) A) (C:Addr) (us:List Value) (kw:List (Str×Value)):Room k (A.under (.builtin "type.__call__" ⟨.ref C::us,kw⟩)):=
 ⟨r.hd,by have:=r.dp;rw[make_depth];omega,by have:=r.un;rw[make_units];omega⟩
theorem Room.depth {k:Nat}{A:Around}(r:Room k A):A.depth < recursionLimit:=by have:=r.dp;omega
theorem Room.units {k:Nat}{A:Around}(r:Room k A):A.units+64 < cLine:=by have:=r.un;omega
def tNil:TA:=fun _ H Q=>Q [] H
def tCons (ta:TE) (tr:TA):TA:=fun σ H Q=>ta σ H fun x H1=>tr σ H1 fun xs H2=>Q (x::xs) H2
section
variable {X:Cx}{e:Expr}{es:List Expr}{te:TE}{t:TA}{pos:Pos}
theorem pa_nil:PA X [] tNil:=fun _ _ _ _ H Q I h=>Calls.spliced_nil ⟨[],H,I,.nil,h⟩
theorem pa_cons (ha:PE X e te) (hr:PA X es t) (hs:starEach (e::es) X.env=(false,eval e X.env)::starEach es X.env:=by rfl):PA X (e::es) (tCons te t):=by
 intro pos pins s σ H Q I h
 rw[hs]
 show wpAny _ _ (spliced ((false,eval e X.env)::backTo pos (starEach es X.env))) _ _ s
 refine Calls.spliced_cons (thn (ha pins s σ H _ I h) fun u s1 ⟨x,H1,I1,r1,q1⟩=>?_)
 exact thn (hr pos pins s1 σ H1 _ I1 q1) fun us s2 ⟨xs,H2,I2,r2,q2⟩=>⟨x::xs,H2,I2,.cons r1 r2,q2⟩
def tTup (t:TA):TE:=fun σ H Q=>t σ H fun xs H1=>xs.length≤sizeLine∧∀p,H1 p=none→Q (.ref p) (upd H1 p (.tup xs))
def tLst (t:TA):TE:=fun σ H Q=>t σ H fun xs H1=>xs.length≤sizeLine∧∀p,H1 p=none→Q (.ref p) (upd H1 p (.lst xs))
theorem pe_tup {x1} (h:PA X es t):PE X (.Tuple es x1 pos) (tTup t):=by
 intro pins s σ H Q I hq
 refine wpAny_Tuple_spliced (thn (h pos pins s σ H _ I hq) fun us s1 ⟨xs,H1,I1,r,z,q⟩=>⟨by rw[← r.length];exact z,?_⟩)
 have hf:H1 s1.heap.objs.size=none:=I1.hok.fresh (Nat.le_refl _)
 refine⟨.ref s1.heap.objs.size,upd H1 s1.heap.objs.size (.tup xs),I1.laid (t':=s1.toks) (fun b u e=>Heap.get?_push_of_some _ e) (Nat.le_refl _) ?_,rfl,q _ hf⟩
 exact⟨z,us,r,⟨_,Heap.get?_push_size _ rfl,rfl,_,rfl⟩⟩
theorem pe_lst (h:PA X es t):PE X (.List es pos) (tLst t):=by
 intro pins s σ H Q I hq
 refine wpAny_List_spliced (thn (h pos pins s σ H _ I hq) fun us s1 ⟨xs,H1,I1,r,z,q⟩=>⟨by rw[← r.length];exact z,?_⟩)
 have hf:H1 s1.heap.objs.size=none:=I1.hok.fresh (Nat.le_refl _)
 refine⟨.ref s1.heap.objs.size,upd H1 s1.heap.objs.size (.lst xs),I1.laid (t':=s1.toks) (fun b u e=>Heap.get?_push_of_some _ e) (Nat.le_refl _) ?_,rfl,q _ hf⟩
 exact⟨z,us,0,r,Heap.get?_push_size _ rfl⟩
end
abbrev Sp:=List V→Hp→VK→XK→Prop
abbrev CXT:=List Env→Hp→Shared→XK→Value→Shared→Prop
structure Env0 (P:Program) (w:World) (K:Frg) (mg:Str→Option Value) (base:Heap) (A:Around) (outer:List Env) (s:Shared) (H:Hp):Prop where
 frames:A.frames=some outer
 mod:Mod K mg base
 bs:∀b o,base.get? b=some o→s.heap.get? b=some o∧H b=none
 bsz:base.objs.size≤s.heap.objs.size
 funs:s.heap.FunFrames base outer
 frf:∀b∈frs outer,H b=none
 hok:HOk P w H s.heap
 bare:AllBare s.gens
def CE (outer:List Env) (P:Program) (w:World) (H:Hp) (s:Shared) (Q:VK) (u:Value) (s':Shared):Prop:=
 ∃v H',s'.os=s.os∧AllBare s'.gens∧Un (frs outer) [] H H' s.heap s'.heap∧HOk P w H' s'.heap∧RelV v u∧Q v H'
def CR (CX:CXT) (outer:List Env) (P:Program) (w:World) (H:Hp) (s:Shared) (Q:VK) (E:XK) (r:Result) (s':Shared):Prop:=
 match r with
 | .ok (.ret u)=>CE outer P w H s Q u s'
 | .ok _=>False
 | .error e=>CX outer H s E e s'
structure FnOk (P:Program) (w:World) (K:Frg) (mg:Str→Option Value) (base:Heap) (CX:CXT) (k:Nat) (f:Addr) (fd:FuncData) (ps:List Str) (sp:Sp):Prop where
 len:∀vs H Q E,sp vs H Q E→vs.length=ps.length
 run:∀(A:Around) (outer:List Env) (s:Shared) (H:Hp) (args:Args) (us:List Value) (vs:List V) (Q:VK) (E:XK),Room k A→Env0 P w K mg base A outer s H→BindsTo s fd args (ps.zip us)→Vals vs us→sp vs H Q E →
   codeAny (model P w) A (.call (.ref f) args) (CR CX outer P w H s Q E) s
theorem Env0.make {P:Program}{w:World}{K:Frg}{mg:Str→Option Value}{base:Heap}{A:Around}{outer:List Env}{s:Shared}{H:Hp}(e:Env0 P w K mg base A outer s H) (C:Addr) (us:List Value) (kw:List (Str×Value)) :
   Env0 P w K mg base (A.under (.builtin "type.__call__" ⟨.ref C::us,kw⟩)) outer s H:=⟨by first | exact e.frames | (simpa [Around.under,Code.envs,Code.isFrame,pushEnvs] using e.frames),e.mod,e.bs,e.bsz,e.funs,e.frf,e.hok,e.bare⟩
section
variable {X:Cx}{pins:List (Addr×Obj)}{σ:St}{H:Hp}{s s':Shared}
theorem Inv.env0 (I:Inv X pins σ H s):Env0 X.prog X.w X.K X.mg X.base X.A X.stack s H:=
 ⟨I.ok.frames,I.ok.mod,I.bs,Nat.le_trans I.ok.bsz I.sz,I.stack,I.stkFree,I.hok,I.bare⟩
theorem Inv.after {Q:VK}{u:Value}(I:Inv X pins σ H s) (h:CE X.stack X.prog X.w H s Q u s'):EP X pins σ Q u s':=by
 obtain⟨v,H',os,bare,un,hok,r,q⟩:=h
 obtain⟨hh,g,d,t,os'⟩:=s'
 obtain rfl:os'=s.os:=os
 exact⟨v,H',I.call (h':=hh) (g':=g) (d':=d) (t':=t) (ch:=[]) un hok bare (fun b z=>absurd z (by simp)),r,q⟩
end
def tCall (sp:Sp) (dvs:List V) (E:XK) (t:TA):TE:=fun σ H Q=>t σ H fun vs H1=>sp (vs++dvs) H1 Q E
def Binds (K:Frg) (fd:FuncData) (ps:List Str) (ds:List Value):Prop:=
 ∀(s:Shared) (us:List Value),K.In s.heap→(us++ds).length=ps.length→BindsTo s fd ⟨us,[]⟩ (ps.zip (us++ds))
theorem Binds.all {K:Frg}{fd:FuncData}{ps:List Str}(h:∀us:List Value,us.length=ps.length→bindArgs fd ⟨us,[]⟩=pure (ps.zip us)):Binds K fd ps []:=fun s us _ hl=>by
 rw[List.append_nil] at hl ⊢
 exact .of_eq (h us hl)
def Passes (CX:CXT) (X:Cx) (E:XK):Prop:=∀(pins:List (Addr×Obj)) (σ:St) (H:Hp) (s:Shared) (e:Value) (s':Shared),Inv X pins σ H s→CX X.stack H s E e s'→X.xe e s'
section
variable {X:Cx}{CX:CXT}{k:Nat}{f C:Addr}{fd:FuncData}{ps:List Str}{sp:Sp}{dvs:List V}{ds:List Value}{E:XK}{x m:Str}{p pos apos:Pos}{e o:Expr}{es:List Expr}{ta:TE}{t:TA}
theorem run_fn {pins:List (Addr×Obj)}{σ:St}{H:Hp}{s:Shared}{Q:VK}{us:List Value}{vs:List V}(F:FnOk X.prog X.w X.K X.mg X.base CX k f fd ps sp) (hr:Room k X.A) (hb:Binds X.K fd ps ds) (hd:Vals dvs ds) (hx:Passes CX X E)
   (I:Inv X pins σ H s) (r:Vals vs us) (h:sp (vs++dvs) H Q E):wpAny (model X.prog X.w) X.A (call (.ref f) us) (EP X pins σ Q) X.xe s:=by
 have r2:Vals (vs++dvs) (us++ds):=r.append hd
 have hl:(us++ds).length=ps.length:=by rw[← r2.length];exact F.len _ _ _ _ h
 refine wpAny_call (codeAny_mono (F.run X.A X.stack s H ⟨us,[]⟩ (us++ds) (vs++dvs) Q E hr I.env0 (hb s us I.kIn hl) r2 h) fun r s' hq=>?_)
 cases r with
 | error e=>exact hx pins σ H s e s' I hq
 | ok fl=>
   cases fl with
   | ret u=>exact I.after hq
   | next=>exact False.elim hq
   | brk=>exact False.elim hq
   | cont=>exact False.elim hq
theorem pe_call (F:FnOk X.prog X.w X.K X.mg X.base CX k f fd ps sp) (hr:Room k X.A) (hg:Gl X x) (hm:X.mg x=some (.ref f)) (hk:PySem.W.keepIn X.K (.ref f)=true) (hb:Binds X.K fd ps ds) (hd:Vals dvs ds) (hx:Passes CX X E)
   (ha:PA X (e::es) t) (hdb:(x==("__debug__":Str))=false:=by decide) (he:starEach (e::es) X.env=(false,eval e X.env)::starEach es X.env:=by rfl) (hpl:(backTo pos (starEach es X.env)).any (·.1)=false:=by rfl) :
   PE X (.Call (.Name x p) (e::es) [] pos) (tCall sp dvs E t):=by
 intro pins s σ H Q I h
 refine wpAny_Call_Name_kw (ld_glob I hg hm ?_ hdb)
 refine PySem.W.callWith_K (h₀:=X.base) I.ok.mod.kin hk (thn (ha pos pins s σ H _ I h) fun us s1 ⟨vs,H1,I1,r,q⟩=>⟨I1.kIn,?_⟩) he hpl
 exact run_fn F hr hb hd hx I1 r q
end
structure FnScope (N P:List Str) (sc:Scope):Prop where
 kind:sc.kind = .function
 co:sc.isCoroutine=false
 gen:sc.isGenerator=false
 nd:N.Nodup
 pre:N.take P.length=P
 par:∀x∈P,sc.names.lookup x=some .local∨sc.names.lookup x=some .cell
 nofree:∀y∈sc.names,y.2≠.free
theorem bindL_out {kindOf:Str→Option NameKind}{x:Str}:∀{binds:List (Str×Value)}{m:Str→Option Value},(∀v,(x,v)∉binds)→bindL kindOf binds m x=m x
 | [],_,_=>rfl
 | (n,v)::r,m,h=>by
   unfold bindL
   rw[bindL_out fun w hw=>h w (List.mem_cons_of_mem _ hw)]
   split
   · have:x≠n:=by rintro rfl;exact h v List.mem_cons_self
     simp[this]
   · rfl
theorem bindC_out {kindOf:Str→Option NameKind}{x:Str}:∀{binds:List (Str×Value)}{m:Str→Option Value},(∀v,(x,v)∉binds)→bindC kindOf binds m x=m x
 | [],_,_=>rfl
 | (n,v)::r,m,h=>by
   unfold bindC
   rw[bindC_out fun w hw=>h w (List.mem_cons_of_mem _ hw)]
   split
   · rfl
   · have:x≠n:=by rintro rfl;exact h v List.mem_cons_self
     simp[this]
theorem bindL_get {kindOf:Str→Option NameKind}{x:Str}{v:Value}:∀{P:List Str}{vs:List Value}{i:Nat}{m:Str→Option Value},P.Nodup→P[i]?=some x→vs[i]?=some v→kindOf x=some .local →
   bindL kindOf (P.zip vs) m x=some v
 | [],_,_,_,_,h,_,_=>by simp at h
 | _::_,[],_,_,_,_,h,_=>by simp at h
 | p::P,w::vs,0,m,nd,h1,h2,hk=>by
   simp at h1 h2;subst h1;subst h2
   show bindL kindOf ((p,w)::P.zip vs) m p=_
   unfold bindL
   rw[bindL_out fun v hv=>(List.nodup_cons.mp nd).1 (List.of_mem_zip hv).1,if_pos hk]
   simp
 | p::P,w::vs,i+1,m,nd,h1,h2,hk=>by
   show bindL kindOf ((p,w)::P.zip vs) m x=_
   unfold bindL
   exact bindL_get (i:=i) (List.nodup_cons.mp nd).2 (by simpa using h1) (by simpa using h2) hk
theorem bindC_get {kindOf:Str→Option NameKind}{x:Str}{v:Value}:∀{P:List Str}{vs:List Value}{i:Nat}{m:Str→Option Value},P.Nodup→P[i]?=some x→vs[i]?=some v→kindOf x≠some .local →
   bindC kindOf (P.zip vs) m x=some v
 | [],_,_,_,_,h,_,_=>by simp at h
 | _::_,[],_,_,_,_,h,_=>by simp at h
 | p::P,w::vs,0,m,nd,h1,h2,hk=>by
   simp at h1 h2;subst h1;subst h2
   show bindC kindOf ((p,w)::P.zip vs) m p=_
   unfold bindC
   rw[bindC_out fun v hv=>(List.nodup_cons.mp nd).1 (List.of_mem_zip hv).1,if_neg hk]
   simp
 | p::P,w::vs,i+1,m,nd,h1,h2,hk=>by
   show bindC kindOf ((p,w)::P.zip vs) m x=_
   unfold bindC
   exact bindC_get (i:=i) (List.nodup_cons.mp nd).2 (by simpa using h1) (by simpa using h2) hk
def start (N:List Str) (vs:List V):St:=vs.map some++List.replicate (N.length - vs.length) none
def cxOf (CX:CXT) (P:Program) (w:World) (K:Frg) (mg:Str→Option Value) (base:Heap) (N:List Str) (qual:Str) (scope:Scope) (f:Addr) (cd:Value) (A:Around) (outer:List Env) (s:Shared) (H:Hp) (E:XK):Cx where
 prog:=P
 w:=w
 K:=K
 mg:=mg
 base:=base
 A:=A.deeper (envOfC qual scope s.heap.objs.size f cd)
 N:=N
 s₀:=s
 H₀:=H
 env:=envOfC qual scope s.heap.objs.size f cd
 outer:=outer
 stack:=envOfC qual scope s.heap.objs.size f cd::outer
 ex:=[]
 calm:=true
 fn:=fun _=>true
 pn:=[]
 xe:=fun e s'=>wpAny (model P w) (A.deeper (envOfC qual scope s.heap.objs.size f cd)) (leaving (envOfC qual scope s.heap.objs.size f cd) e) (fun _ s''=>CX outer H s E e s'') (fun e' s''=>CX outer H s E e' s'') s'
theorem cell_has {sc:Scope}{n:Nat}{x:Str}(h:sc.names.lookup x=some .cell):∃c,(cellsFrom n sc.names []).lookup x=some c:=by
 have q:=PySem.W.cellsFrom_some sc.names n [] (.inl h)
 exact Option.isSome_iff_exists.mp q
theorem inv_start {CX:CXT}{P:Program}{w:World}{K:Frg}{mg:Str→Option Value}{base:Heap}{N ps:List Str}{qual:Str}{scope:Scope}{f:Addr}{cd:Value}{A:Around}{outer:List Env}{s s1:Shared}{H:Hp}{E:XK}{us:List Value}{vs:List V}
   (S:FnScope N ps scope) (hd:A.handled=none) (e0:Env0 P w K mg base A outer s H) (hl:vs.length=ps.length) (r:Vals vs us)
   (x:InCallC s s.heap.objs.size (bindL (envOfC qual scope s.heap.objs.size f cd).kindOf (ps.zip us) fun _=>none) (cellsFrom (s.heap.objs.size+1) scope.names []) (bindC (envOfC qual scope s.heap.objs.size f cd).kindOf (ps.zip us) fun _=>none) s1) :
   Inv (cxOf CX P w K mg base N qual scope f cd A outer s H E) [] (start N vs) H s1:=by
 have hpl:ps.length≤N.length:=by have:=congrArg List.length S.pre;rw[List.length_take] at this;omega
 obtain⟨h1,tk,rfl,hk⟩:=x.done
 have noA:∀b:Addr,b∉(cxOf CX P w K mg base N qual scope f cd A outer s H E).ex:=fun b z=>absurd (show b∈([]:List Addr) from z) (by simp)
 refine⟨⟨e0.mod,S.kind,rfl,rfl,Nat.le_refl _,fun y z c h1 h2=>?_,fun y hy=>?_,fun y c _ h=>?_,fun _=>hd,Around.frames_deeper e0.frames,.inr ⟨rfl,rfl⟩,fun b z=>absurd z (noA b),e0.bs,e0.bsz,fun b _ _=>noA b,fun b z=>absurd z (noA b),e0.funs,e0.frf⟩,
   rfl,e0.bare,Un.kept hk,⟨_,x.toInCall.ns,fun i y v h1 h2 h3=>?_⟩,fun y c h=>⟨_,x.cell y c h⟩,e0.hok.fresh (Nat.le_refl _),fun y c h=>?_,fun p hp=>absurd (show p∈([]:List (Addr×Obj)) from hp) (by simp),e0.hok.kept hk,?_⟩
 · exact name_of_addr x.apart (PySem.mem_of_lookup h1) (PySem.mem_of_lookup h2)
 · have hy:scope.names.lookup y=some .cell∨scope.names.lookup y=some .free:=hy
   rcases hy with hy | hy
   · exact cell_has hy
   · exact absurd rfl (S.nofree _ (PySem.mem_of_lookup hy))
 · exact Nat.le_of_lt (x.above y c (PySem.mem_of_lookup h))
 · have hi:i < vs.length:=by
     unfold start at h2
     by_cases hi:i < vs.length
     · exact hi
     · rw[List.getElem?_append_right (by simpa using hi)] at h2
       rw[List.getElem?_replicate] at h2
       split at h2 <;> cases h2
   have ha:vs[i]?=some v:=by
     unfold start at h2
     rw[List.getElem?_append_left (by simpa using hi),List.getElem?_map] at h2
     cases e:vs[i]? with
     | none=>rw[e] at h2;cases h2
     | some a=>rw[e] at h2;cases h2;rfl
   obtain⟨u,hu,rv⟩:=r.get ha
   have hp:ps[i]?=some y:=by
     rw[← S.pre,List.getElem?_take_of_lt (by omega)];exact h1
   have ndP:ps.Nodup:=by rw[← S.pre];exact S.nd.sublist (List.take_sublist _ _)
   refine⟨u,rv,?_⟩
   rcases S.par y (List.mem_of_getElem? hp) with k | k
   · exact .inl ⟨k,bindL_get ndP hp hu k⟩
   · obtain⟨c,e⟩:=cell_has (n:=s.heap.objs.size+1) k
     refine .inr ⟨.inl k,c,e,?_⟩
     have q:=x.cell y c e
     rw[bindC_get ndP hp hu (by show scope.names.lookup y≠_;rw[k];decide)] at q
     exact q
 · exact e0.hok.fresh (Nat.le_of_lt (x.above y c (PySem.mem_of_lookup h)))
 · unfold start
   show _=N.length
   rw[List.length_append,List.length_map,List.length_replicate]
   omega
theorem fn_of {CX:CXT}{P:Program}{w:World}{K:Frg}{mg:Str→Option Value}{base:Heap}{k:Nat}{f:Addr}{name qual:Str}{params:Arguments}{body:List Stmt}{scope:Scope}{dV kV doc pm cdv ct oc:Value}{an od:Option Addr}
   {osl:Array (Option Value)}{N ps:List Str}{sp:Sp}(lk:K.lookup f=some ⟨oc,od,.func (PySem.W.fnOf name qual params body scope dV kV doc pm an cdv ct),osl⟩) (hcd:PySem.W.codeIn K cdv qual=true) (S:FnScope N ps scope)
   (len:∀vs H Q E,sp vs H Q E→vs.length=ps.length)
   (hbody:∀(A:Around) (outer:List Env) (s:Shared) (H:Hp) (vs:List V) (Q:VK) (E:XK),Room k (A.deeper (envOfC qual scope s.heap.objs.size f cdv))→sp vs H Q E →
     ∃t,PSs (cxOf CX P w K mg base N qual scope f cdv A outer s H E) body t∧t { nx:=fun _ H'=>Q .non H',rt:=Q } (start N vs) H) :
   FnOk P w K mg base CX (k+1) f (PySem.W.fnOf name qual params body scope dV kV doc pm an cdv ct) ps sp:=by
 refine⟨len,fun A outer s H args us vs Q E hr e0 hb r hsp=>?_⟩
 have hl:=len _ _ _ _ hsp
 have KX:K.In s.heap:=e0.mod.kin.keeps fun b o e=>(e0.bs b o e).1
 have lim:s.heap.NoLimit:=e0.mod.nolimit.keeps fun b o e=>(e0.bs b o e).1
 have hkind:∀y∈ps.zip us,scope.names.lookup y.1=some .local∨(scope.names.lookup y.1=some .cell∧((cellsFrom (s.heap.objs.size+1) scope.names []).lookup y.1).isSome=true):=fun⟨n,v⟩ hy=>by
   rcases S.par n (List.of_mem_zip hy).1 with q | q
   · exact .inl q
   · exact .inr ⟨q,PySem.W.cellsFrom_some _ _ _ (.inl q)⟩
 refine codeAny_call_function hr.depth (KX _ _ lk) rfl S.co S.gen rfl (PySem.W.codeRec_of KX hcd) (hb _ _ _ _ ?_)
 refine wpAny_newFunctionEnv_cells S.kind hkind fun env he s1 x=>?_
 subst he
 refine⟨lim.keeps x.toInCall.keep,codeAny_func ?_⟩
 obtain⟨t,ht,hq⟩:=hbody A outer s H vs Q E (hr.deeper _) hsp
 have I:Inv (cxOf CX P w K mg base N qual scope f cdv A outer s H E) [] (start N vs) H s1:=inv_start S hr.hd e0 hl r x
 refine wpAny_mono (ht [] s1 (start N vs) H _ I hq) (fun fl s' hs=>?_) fun e s' hs=>hs
 have fin:∀{σ':St}{H':Hp}{v:V}{u:Value},Inv (cxOf CX P w K mg base N qual scope f cdv A outer s H E) [] σ' H' s'→RelV v u→Q v H'→CE outer P w H s Q u s':=
   fun {σ' H' v u} J rv q=>⟨v,H',J.os,J.bare,J.base,J.hok,rv,q⟩
 cases fl with
 | ret u=>
   obtain⟨v,σ',H',J,rv,q⟩:=hs
   exact fin J rv q
 | next=>
   obtain⟨σ',H',J,q⟩:=hs
   exact fin (v:=V.non) (u:=Value.none) J rfl q
 | brk=>
   obtain⟨_,_,_,q⟩:=hs
   exact False.elim q
 | cont=>
   obtain⟨_,_,_,q⟩:=hs
   exact False.elim q
end L2
namespace L2
open PySem PySem.Spec PyProof.Rows
section
variable {X:Cx}{x:Str}{p pos:Pos}{e:Expr}{es:List Expr}{t:TA}{id T:String}{r:List V→Hp→VK→Prop}
def tCB (r:List V→Hp→VK→Prop) (t:TA):TE:=fun σ H Q=>t σ H fun vs H1=>r vs H1 Q
theorem pe_callB (hc:CallR X (.builtin id) r) (hg:Gl X x) (hm:X.mg x=none) (hv:bootBuiltins x=some (.builtin id)) (ha:PA X (e::es) t) (hn:x ≠ "__name__" := by decide) (hdb:(x==("__debug__":Str))=false:=by decide)
   (he:starEach (e::es) X.env=(false,eval e X.env)::starEach es X.env:=by rfl) (hpl:(backTo pos (starEach es X.env)).any (·.1)=false:=by rfl):PE X (.Call (.Name x p) (e::es) [] pos) (tCB r t):=by
 intro pins s σ H Q I h
 refine wpAny_Call_Name_kw (ld_blt I hg hm hv ?_ hn hdb)
 exact PyProof.Rows.callWith_builtin1 (thn (ha pos pins s σ H _ I h) fun us s1 ⟨vs,H1,I1,r1,q1⟩=>hc pins s1 σ H1 vs us Q I1 r1 q1) he hpl
theorem pe_callTy (hc:CallR X (.type T) r) (hg:Gl X x) (hm:X.mg x=none) (hv:bootBuiltins x=some (.type T)) (ha:PA X (e::es) t) (hn:x ≠ "__name__" := by decide) (hdb:(x==("__debug__":Str))=false:=by decide)
   (he:starEach (e::es) X.env=(false,eval e X.env)::starEach es X.env:=by rfl) (hpl:(backTo pos (starEach es X.env)).any (·.1)=false:=by rfl):PE X (.Call (.Name x p) (e::es) [] pos) (tCB r t):=by
 intro pins s σ H Q I h
 refine wpAny_Call_Name_kw (ld_blt I hg hm hv ?_ hn hdb)
 exact PyProof.Rows.callWith_type1 (thn (ha pos pins s σ H _ I h) fun us s1 ⟨vs,H1,I1,r1,q1⟩=>hc pins s1 σ H1 vs us Q I1 r1 q1) he hpl
end
end L2
namespace HT
open PySem PyProof.Rows
section
variable {prog:Program}{w:World}{A:Around}{E:Value→Shared→Prop}{s:Shared}
def sIx (n d:Nat):Option Int→Nat
 | none=>d
 | some v=>if v < 0 then (v+(n:Int)).toNat else min v.toNat n
theorem sIx_nat (n d k:Nat):sIx n d (some (k:Int))=min k n:=by
 show(if (k:Int) < 0 then ((k:Int)+(n:Int)).toNat else min (k:Int).toNat n)=min k n
 rw[if_neg (by omega),Int.toNat_natCast]
theorem sIx_le (n d:Nat) (hd:d≤n) (o:Option Int):sIx n d o≤n:=by
 cases o with
 | none=>exact hd
 | some v=>
   show(if v < 0 then (v+(n:Int)).toNat else min v.toNat n)≤n
   by_cases hv:v < 0
   · rw[if_pos hv];omega
   · rw[if_neg hv];exact Nat.min_le_right _ _
theorem clip_eq (v:Int) (n d:Nat):(if v < 0 then max (v+(n:Int)) 0 else min v (n:Int))=((sIx n d (some v):Nat):Int):=by
 show(if v < 0 then max (v+(n:Int)) 0 else min v (n:Int))=(((if v < 0 then (v+(n:Int)).toNat else min v.toNat n):Nat):Int)
 by_cases hv:v < 0
 · simp only[if_pos hv];omega
 · simp only[if_neg hv];omega
theorem adjust_gen (lo hi:Option Int) (n:Nat):Builtin.Slice.sliceAdjust lo hi 1 (n:Int)=(((sIx n 0 lo:Nat):Int),((sIx n n hi:Nat):Int)):=by
 have h1:¬((1:Int) < 0):=by omega
 unfold Builtin.Slice.sliceAdjust
 simp only[h1,if_false]
 refine Prod.ext ?_ ?_
 · cases lo with
   | none=>rfl
   | some v=>exact clip_eq v n 0
 · cases hi with
   | none=>rfl
   | some v=>exact clip_eq v n n
theorem places_gen (i j:Nat):Builtin.Slice.slicePlaces (i:Int) (j:Int) 1=j - i:=by
 unfold Builtin.Slice.slicePlaces
 have h1:(1:Int) > 0:=by omega
 simp only[h1,if_true,Int.ediv_one]
 split <;> omega
theorem slicePart_ {v:Value}{o:Option Int}{Q:Option Int→Shared→Prop}(p:IsPart v o) (h:Q o s):wpAny (model prog w) A (Builtin.Slice.slicePartIndex v) Q E s:=by
 cases p with
 | none=>exact slicePart_none h
 | int i t=>exact slicePart_int h
theorem sliceApplied_gen {sl:Addr}{vl vu:Value}{lo hi:Option Int}{n:Nat}{Q:Int×Int×Nat→Shared→Prop}(hs:s.heap.IsSliceOf sl vl vu .none) (pl:IsPart vl lo) (pu:IsPart vu hi)
   (h:Q (((sIx n 0 lo:Nat):Int),1,sIx n n hi - sIx n 0 lo) s):wpAny (model prog w) A (Builtin.Slice.sliceApplied (.ref sl) (pure (n:Int))) Q E s:=by
 obtain⟨os,hos,hcs,hds⟩:=id hs
 unfold Builtin.Slice.sliceApplied Builtin.Slice.sliceFields
 refine wpAny_bind (wpAny_bind (wpAny_field hos hds (x:=vl) rfl (wpAny_bind (wpAny_field hos hds (x:=vu) rfl (wpAny_bind (wpAny_field hos hds (x:=.none) rfl (wpAny_pure ?_)))))))
 refine wpAny_bind (slicePart_none ?_)
 show wpAny _ _ (if ((1:Int)==0)=true then _ else _) _ _ s
 rw[if_neg (by decide)]
 refine wpAny_bind (slicePart_ pl (wpAny_bind (slicePart_ pu (wpAny_bind (wpAny_pure ?_)))))
 show wpAny _ _ (match Builtin.Slice.sliceAdjust lo hi 1 (n:Int) with | (lo,hi)=>pure (lo,(1:Int),Builtin.Slice.slicePlaces lo hi 1)) _ _ s
 rw[adjust_gen lo hi n]
 show wpAny _ _ (pure (((sIx n 0 lo:Nat):Int),(1:Int),Builtin.Slice.slicePlaces ((sIx n 0 lo:Nat):Int) ((sIx n n hi:Nat):Int) 1)) _ _ s
 rw[places_gen]
 exact wpAny_pure h
theorem pick_gen (xs:Array Value) (i k:Nat):((List.range k).filterMap fun(m:Nat)=>xs[((i:Int)+(m:Int)*1).toNat]?).toArray=((xs.toList.drop i).take k).toArray:=by
 have e:(fun(m:Nat)=>xs[((i:Int)+(m:Int)*1).toNat]?)=fun m=>xs[i+m]?:=by
   funext m
   have:((i:Int)+(m:Int)*1).toNat=i+m:=by omega
   rw[this]
 rw[e]
 have:=pick_run xs i k
 rw[List.filterMap_map] at this
 have e2:((fun x=>xs[x]?)∘fun x=>i+x)=fun m=>xs[i+m]?:=rfl
 rw[e2] at this
 rw[this]
theorem getItem_tuple_cut {t sl:Addr}{items:Array Value}{vl vu:Value}{lo hi:Option Int}{Q:Value→Shared→Prop}(ht:IsTup s.heap t items) (hs:s.heap.IsSliceOf sl vl vu .none) (pl:IsPart vl lo) (pu:IsPart vu hi)
   (hw:¬(sIx items.size 0 lo=0∧sIx items.size items.size hi=items.size))
   (h:Q (.ref s.heap.objs.size) { s with heap:=s.heap.push { cls:=.type "tuple", data:=.seq ((items.toList.drop (sIx items.size 0 lo)).take (sIx items.size items.size hi - sIx items.size 0 lo)).toArray } })
   (hsz:items.size≤sizeLine):wpAny (model prog w) A (getItem (.ref t) (.ref sl)) Q E s:=by
 have htake:sizeOk (.seq ((items.toList.drop (sIx items.size 0 lo)).take (sIx items.size items.size hi - sIx items.size 0 lo)).toArray):=by
   show((items.toList.drop (sIx items.size 0 lo)).take (sIx items.size items.size hi - sIx items.size 0 lo)).toArray.size≤sizeLine
   rw[List.size_toArray,List.length_take,List.length_drop,Array.length_toList]
   omega
 have hj:sIx items.size items.size hi≤items.size:=sIx_le _ _ (Nat.le_refl _) hi
 obtain⟨os,hos,hcs,hds⟩:=id hs
 have hTs:s.TypeIs (.ref sl) "slice" := ⟨os,hos,hcs⟩
 unfold getItem
 try with_reducible refine wpAny_holding ?_
 first | refine wpAny_bind (wpAny_pure ?_) | skip
 refine wpAny_bind (wpAny_sequenceKey ht.typeIs (by decide) ?_)
 refine wpAny_bind (wpAny_callSpecial?_slot (name:=Str.ofString "__getitem__") ht.typeIs PyProof.Rows.slot_tuple_getitem
   (wpAny_call_entry PyProof.Rows.slot_tuple_getitem ht.typeIs entry_tuple_getitem ?_ (args_tuple_getitem _ _)))
 show wpAny _ _ (Builtin.Tuple.tupleItemsOf (.ref t) >>= _) _ _ s
 refine wpAny_bind (tupleItemsOf_ ht ?_)
 refine wpAny_bind (wpAny_typeOf hTs ?_)
 rw[if_pos (by decide)]
 refine wpAny_bind (sliceApplied_gen hs pl pu ?_)
 have hno:¬((((sIx items.size 0 lo:Nat):Int)==0&&(1:Int)==1&&(sIx items.size items.size hi - sIx items.size 0 lo)==items.size)=true):=by
   intro q
   rw[Bool.and_eq_true,Bool.and_eq_true] at q
   have q1:((sIx items.size 0 lo:Nat):Int)=0:=eq_of_beq q.1.1
   have q2:sIx items.size items.size hi - sIx items.size 0 lo=items.size:=eq_of_beq q.2
   exact hw ⟨by omega,by omega⟩
 show wpAny _ _ (if (((sIx items.size 0 lo:Nat):Int)==0&&(1:Int)==1&&(sIx items.size items.size hi - sIx items.size 0 lo)==items.size)=true then _ else _) _ _ s
 rw[if_neg hno,pick_gen]
 first
   | exact wpAny_bind (m:=Builtin.Tuple.tupleExact _) (wpAny_newObj_type (wpAny_pure ⟨_,rfl,wpAny_pure h⟩) htake)
   | exact wpAny_bind (m:=Builtin.Tuple.tupleExact _) (wpAny_newObj_type (wpAny_bind (wpAny_pure (wpAny_pure ⟨_,rfl,wpAny_pure h⟩))) htake)
   | exact wpAny_bind (wpAny_bind (m:=Builtin.Tuple.tupleExact _) (wpAny_newObj_type (wpAny_pure (wpAny_pure ⟨_,rfl,wpAny_pure h⟩)) htake))
   | exact wpAny_bind (wpAny_bind (m:=Builtin.Tuple.tupleExact _) (wpAny_newObj_type (wpAny_pure ⟨_,rfl,wpAny_pure h⟩) htake))
end
end HT
namespace L2
open PySem PySem.Spec PyProof.Rows
abbrev TO:=St→Hp→(Option Int→Hp→Prop)→Prop
def PO (X:Cx) (e:Option Expr) (t:TO):Prop:=
 ∀(pins:List (Addr×Obj)) (s:Shared) (σ:St) (H:Hp) (Q:Option Int→Hp→Prop),Inv X pins σ H s→t σ H Q →
   wpAny (model X.prog X.w) X.A (evalPart e X.env) (fun u s'=>∃o H',Inv X pins σ H' s'∧IsPart u o∧Q o H') X.xe s
def tNoPart:TO:=fun _ H Q=>Q none H
def tPart (t:TE):TO:=fun σ H Q=>t σ H fun x H1=>∃i,x = .int i∧Q (some i) H1
section
variable {X:Cx}{e:Expr}{te:TE}{lo hi:Option Expr}{tl th:TO}{pos p2:Pos}
theorem po_none:PO X none tNoPart:=by
 intro pins s σ H Q I h
 rw[evalPart_none]
 exact wpAny_pure ⟨none,H,I,.none,h⟩
theorem po_some (h:PE X e te):PO X (some e) (tPart te):=by
 intro pins s σ H Q I hw
 rw[evalPart_some]
 refine thn (h pins s σ H _ I hw) fun u s1 ⟨x,H1,I1,r1,q1⟩=>?_
 obtain⟨i,rfl,q⟩:=q1
 obtain⟨t,rfl⟩:=r1
 exact⟨some i,H1,I1,.int i t,q⟩
def SlR (X:Cx) (r:V→Option Int→Option Int→Hp→VK→Prop):Prop:=
 ∀(pins:List (Addr×Obj)) (s:Shared) (σ:St) (H:Hp) (x:V) (v vl vu:Value) (lo hi:Option Int) (sl:Addr) (Q:VK),Inv X pins σ H s→RelV x v→s.heap.IsSliceOf sl vl vu .none→IsPart vl lo→IsPart vu hi→r x lo hi H Q →
   ∃T id,typeLookup (.type T) "__getitem__"=pure (some (.builtin id))∧s.TypeIs v T∧wpAny (model X.prog X.w) X.A (getItem v (.ref sl)) (EP X pins σ Q) X.xe s
theorem SlR.or {r r':V→Option Int→Option Int→Hp→VK→Prop}(h:SlR X r) (h':SlR X r'):SlR X (fun x lo hi H Q=>r x lo hi H Q∨r' x lo hi H Q):=by
 intro pins s σ H x v vl vu lo hi sl Q I rx hs pl pu q
 rcases q with q | q
 · exact h pins s σ H x v vl vu lo hi sl Q I rx hs pl pu q
 · exact h' pins s σ H x v vl vu lo hi sl Q I rx hs pl pu q
def tSl (r:V→Option Int→Option Int→Hp→VK→Prop) (te:TE) (tl th:TO):TE:=fun σ H Q=>te σ H fun x H1=>tl σ H1 fun l H2=>th σ H2 fun u H3=>r x l u H3 Q
theorem pe_slice {r:V→Option Int→Option Int→Hp→VK→Prop}(hr:SlR X r) (he:PE X e te) (hl:PO X lo tl) (hu:PO X hi th):PE X (.Subscript e (.Slice lo hi none p2) pos) (tSl r te tl th):=by
 intro pins s σ H Q I h
 refine Subscript_ (thn (he pins s σ H _ I h) fun v s1 ⟨x,H1,I1,r1,q1⟩=>?_)
 refine wpAny_Slice (thn (hl pins s1 σ H1 _ I1 q1) fun vl s2 ⟨l,H2,I2,pl,q2⟩=>thn (hu pins s2 σ H2 _ I2 q2) fun vu s3 ⟨u,H3,I3,pu,q3⟩=>?_)
 rw[evalPart_none]
 refine wpAny_pure ?_
 have I4:Inv X pins σ H3 { s3 with heap:=s3.heap.push { cls:=.type "slice", data:=.fields #[vl,vu,.none] } }:=I3.kept (t':=s3.toks) fun b ob q=>Heap.get?_push_of_some _ q
 obtain⟨T,id,hT,ht,hg⟩:=hr pins { s3 with heap:=s3.heap.push { cls:=.type "slice", data:=.fields #[vl,vu,.none] } } σ H3 x v vl vu l u s3.heap.objs.size Q I4 r1 (Heap.IsSliceOf.new ..) pl pu q3
 show wpAny (model X.prog X.w) X.A (subscriptTail e (.Slice lo hi none p2) v (.ref s3.heap.objs.size)) (EP X pins σ Q) X.xe { s3 with heap:=s3.heap.push { cls:=.type "slice", data:=.fields #[vl,vu,.none] } }
 exact tail_any (ops:=[.ref s3.heap.objs.size,v]) ht hT hg (by with_unfolding_all rfl)
def cutV (xs:List V) (lo hi:Option Int):List V:=(xs.drop (HT.sIx xs.length 0 lo)).take (HT.sIx xs.length xs.length hi - HT.sIx xs.length 0 lo)
theorem cutV_length (xs:List V) (lo hi:Option Int):(cutV xs lo hi).length≤xs.length:=by
 unfold cutV
 rw[List.length_take,List.length_drop]
 omega
def rSlT (K:Frg):V→Option Int→Option Int→Hp→VK→Prop:=fun x lo hi H Q=>∃a xs,x = .ref a∧SqT K H a xs ∧
 ¬(HT.sIx xs.length 0 lo=0∧HT.sIx xs.length xs.length hi=xs.length)∧∀p,H p=none→Q (.ref p) (upd H p (.tup (cutV xs lo hi)))
theorem sl_tup:SlR X (rSlT X.K):=by
 intro pins s σ H x v vl vu lo hi sl Q I rx hs pl pu h
 obtain⟨a,xs,rfl,hx,hw,q⟩:=h
 cases rx
 obtain⟨its,r,ht,hz⟩:=I.tuple hx
 have hlen:its.toArray.size=xs.length:=by rw[List.size_toArray];exact r.length.symm
 refine⟨"tuple", _,PyProof.Rows.slot_tuple_getitem.lookup,ht.typeIs,?_⟩
 refine HT.getItem_tuple_cut ht hs pl pu (by rw[hlen];exact hw) ?_ (by rw[hlen];exact hz)
 rw[hlen]
 refine⟨.ref s.heap.objs.size,_,I.laid (t':=s.toks) (o:=.tup (cutV xs lo hi)) (fun b ob q=>Heap.get?_push_of_some _ q) (Nat.le_refl _) ?_,rfl,q _ (I.hok.fresh (Nat.le_refl _))⟩
 exact⟨Nat.le_trans (cutV_length xs lo hi) hz,_,(r.drop (HT.sIx xs.length 0 lo)).take (HT.sIx xs.length xs.length hi - HT.sIx xs.length 0 lo),IsTup.new _ _⟩
end
end L2
namespace L2
open PySem PySem.Spec PyProof.Rows
def ixN (n:Nat) (i:Int):Option Nat:=if 0≤i then (if i < n then some i.toNat else none) else if -(n:Int)≤i then some (i+n).toNat else none
def atI {α:Type}(xs:List α) (i:Int):Option α:=(ixN xs.length i).bind fun j=>xs[j]?
theorem ixN_seq {n:Nat}{i:Int}{j:Nat}(h:ixN n i=some j):seqIndex? i n=some j∧j < n∧-(n:Int)≤i∧i < n:=by
 unfold ixN at h
 by_cases h0:0≤i
 · rw[if_pos h0] at h
   by_cases h1:i < n
   · rw[if_pos h1] at h
     have e:i.toNat=j:=Option.some.inj h
     exact⟨by rw[seqIndex_of h0 h1,e],by omega,by omega,h1⟩
   · rw[if_neg h1] at h;cases h
 · rw[if_neg h0] at h
   by_cases h1 : -(n:Int)≤i
   · rw[if_pos h1] at h
     have e:(i+n).toNat=j:=Option.some.inj h
     exact⟨by rw[seqIndex_neg (by omega) h1,e],by omega,h1,by omega⟩
   · rw[if_neg h1] at h;cases h
theorem atI_get {α:Type}{xs:List α}{i:Int}{v:α}(h:atI xs i=some v):∃j,seqIndex? i xs.length=some j∧xs[j]?=some v∧j < xs.length∧-(xs.length:Int)≤i∧i < xs.length:=by
 unfold atI at h
 cases e:ixN xs.length i with
 | none=>rw[e] at h;cases h
 | some j=>
   rw[e] at h
   obtain⟨h1,h2,h3,h4⟩:=ixN_seq e
   exact⟨j,h1,h,h2,h3,h4⟩
theorem atI_nat {α:Type}{xs:List α}{j:Nat}{v:α}(h:xs[j]?=some v):atI xs (j:Int)=some v:=by
 have hj:j < xs.length:=(List.getElem?_eq_some_iff.mp h).1
 have e:ixN xs.length (j:Int)=some j:=by
   unfold ixN
   rw[if_pos (by omega),if_pos (by omega)];simp
 unfold atI;rw[e];exact h
def PlainIx (b:Expr):Prop:=∀o i,subscripted b false o i=operate [o,i] (getItem o i)
def IxR (X:Cx) (r:R2):Prop:=
 ∀(value slice:Expr) (pins:List (Addr×Obj)) (s:Shared) (σ:St) (H:Hp) (x y:V) (v u:Value) (Q:VK),Inv X pins σ H s→RelV x v→RelV y u→r x y H Q →
   subscripted slice false v u=operate [v,u] (getItem v u)→wpAny (model X.prog X.w) X.A (subscriptTail value slice v u) (EP X pins σ Q) X.xe s
def MtR (X:Cx) (id:String) (r:V→List V→Hp→VK→Prop):Prop:=
 ∀(pins:List (Addr×Obj)) (s:Shared) (σ:St) (H:Hp) (x:V) (xs:List V) (v:Value) (us:List Value) (Q:VK),Inv X pins σ H s→RelV x v→Vals xs us→r x xs H Q →
   wpAny (model X.prog X.w) X.A (call (.builtin id) (v::us)) (EP X pins σ Q) X.xe s
section
variable {X:Cx}{a b:Expr}{ta tb:TE}{pos:Pos}
theorem IxR.or {r r':R2}(h:IxR X r) (h':IxR X r'):IxR X (fun x y H Q=>r x y H Q∨r' x y H Q):=by
 intro value slice pins s σ H x y v u Q I rx ry q hs
 rcases q with q | q
 · exact h value slice pins s σ H x y v u Q I rx ry q hs
 · exact h' value slice pins s σ H x y v u Q I rx ry q hs
theorem pe_ix {r:R2}(hr:IxR X r) (ha:PE X a ta) (hb:PE X b tb) (hs:PlainIx b):PE X (.Subscript a b pos) (tOp r ta tb):=by
 intro pins s σ H Q I h
 exact Subscript_ (binT ha hb I h fun v u s2 x y H2 I2 rx ry q=>hr a b pins s2 σ H2 x y v u Q I2 rx ry q (hs _ _))
def rIxL (K:Frg):R2:=fun x y H Q=>∃p xs i v,x = .ref p∧y = .int i∧SqL K H p xs∧atI xs i=some v∧Q v H
def rIxT (K:Frg):R2:=fun x y H Q=>∃p xs i v,x = .ref p∧y = .int i∧SqT K H p xs∧atI xs i=some v∧Q v H
def rIxS:R2:=fun x y H Q=>∃z i c,x = .str z∧y = .int i∧z.length≤sizeLine∧atI z.cps.toList i=some c∧Q (.str ⟨#[c]⟩) H
theorem ix_list:IxR X (rIxL X.K):=by
 intro value slice pins s σ H x y v u Q I rx ry h hs
 obtain⟨p,xs,i,z,rfl,rfl,hq,he,q⟩:=h
 cases rx
 obtain⟨t,rfl⟩:=ry
 obtain⟨its,r,pl,hz⟩:=I.list hq
 obtain⟨j,h1,h2,h3,h4,h5⟩:=atI_get he
 obtain⟨w,ew,rw'⟩:=r.get h2
 have hl:=r.length
 have hn:=line63
 have fin:EP X pins σ Q w s:=⟨z,H,I,rw',q⟩
 by_cases h0:0≤i
 · have hj:i.toNat=j:=by
     rw[seqIndex_of h0 h5] at h1
     exact Option.some.inj h1
   exact item_listR pl.isList h0 (by omega) (by rw[hj];simpa using ew) fin hs
 · have hj:(i+(its.toArray.size:Int)).toNat=j:=by
     rw[seqIndex_neg (by omega) h4] at h1
     rw[List.size_toArray,← hl]
     exact Option.some.inj h1
   exact subscriptTail_builtinR (x:=w) pl.isList.typeIs slot_list_getitem.lookup
     (wpAny_getItem_list_neg (Q:=fun r s'=>r=w∧EP X pins σ Q r s') pl.isList (by omega) (by rw[List.size_toArray] <;> omega) (by omega) (by rw[hj];simpa using ew) ⟨rfl,fin⟩) hs
theorem ix_tup:IxR X (rIxT X.K):=by
 intro value slice pins s σ H x y v u Q I rx ry h hs
 obtain⟨p,xs,i,z,rfl,rfl,hq,he,q⟩:=h
 cases rx
 obtain⟨t,rfl⟩:=ry
 obtain⟨its,r,pl,hz⟩:=I.tuple hq
 obtain⟨j,h1,h2,h3,h4,h5⟩:=atI_get he
 obtain⟨w,ew,rw'⟩:=r.get h2
 have hl:=r.length
 have hn:=line63
 have fin:EP X pins σ Q w s:=⟨z,H,I,rw',q⟩
 exact subscriptTail_builtinR (x:=w) pl.typeIs slot_tuple_getitem.lookup
   (getItem_tuple (j:=j) (Q:=fun r s'=>r=w∧EP X pins σ Q r s') pl (by omega) (by omega) (by rw[List.size_toArray,← hl];exact h1) (by simpa using ew) ⟨rfl,fin⟩) hs
theorem ix_str:IxR X rIxS:=by
 intro value slice pins s σ H x y v u Q I rx ry h hs
 obtain⟨z,i,c,rfl,rfl,hz,he,q⟩:=h
 obtain⟨t,rfl⟩:=rx
 obtain⟨t',rfl⟩:=ry
 obtain⟨j,h1,h2,h3,h4,h5⟩:=atI_get he
 have hl:z.cps.toList.length=z.length:=by simp[Str.length]
 rw[hl] at h1 h4 h5
 have hn:=line63
 exact tail_any (typeIs_str s z t) slot_str_getitem.lookup (getItem_str (c:=c) (by
   have e1:decide (i < -(2 ^ 63:Int))=false:=decide_eq_false (by omega)
   have e2:decide (i≥2 ^ 63)=false:=decide_eq_false (by omega)
   rw[e1,e2,Bool.or_false]) (by rw[h1];simpa using h2) ⟨.str ⟨#[c]⟩,H,I.tok _,⟨_,rfl⟩,q⟩) hs
theorem mapSeq_set (its:List Value) (n j:Nat) (u:Value):Obj.mapSeq (·.setIfInBounds j u) { cls:=.type "list", data:=.seq its.toArray n }={ cls:=.type "list", data:=.seq (its.set j u).toArray n }:=by
 simp[Obj.mapSeq]
theorem Inv.lst {pins:List (Addr×Obj)}{σ:St}{H:Hp}{s:Shared}{p:Addr}{xs:List V}(I:Inv X pins σ H s) (h:H p=some (.lst xs)) :
   ∃(its:List Value) (n:Nat),Vals xs its∧s.heap.get? p=some { cls:=.type "list", data:=.seq its.toArray n }∧xs.length≤sizeLine:=by
 obtain⟨z,its,n,r,e⟩:=I.hok p _ h
 exact⟨its,n,r,e,z⟩
theorem Inv.lstUpd {pins:List (Addr×Obj)}{σ:St}{H:Hp}{s:Shared}{p:Addr}{xs ys:List V}{its its':List Value}{n n':Nat}{f:Obj→Obj}(I:Inv X pins σ H s) (h:H p=some (.lst xs))
   (ho:s.heap.get? p=some { cls:=.type "list", data:=.seq its.toArray n }) (hf:f { cls:=.type "list", data:=.seq its.toArray n }={ cls:=.type "list", data:=.seq its'.toArray n' }) (r:Vals ys its') (hz:ys.length≤sizeLine) (t:Nat) :
   Inv X pins σ (upd H p (.lst ys)) { s with heap:=s.heap.update p f,toks:=t }:=by
 have e:(s.heap.update p f).get? p=some { cls:=.type "list", data:=.seq its'.toArray n' }:=by
   rw[Heap.get?_update_self f ho (by rw[hf] <;> rfl),hf]
 refine I.write (x:=p) (e:=p) (by rw[h];trivial) (.inl rfl) (fun b u hb q=>(Heap.get?_update_other _ _ (Ne.symm hb)).trans q) ⟨_,e⟩ ?_
 exact⟨hz,its',n',r,e⟩
def rSetL:V→V→V→Hp→(Hp→Prop)→Prop:=fun o i v H Q=>∃p xs k j,o = .ref p∧i = .int k∧H p=some (.lst xs)∧ixN xs.length k=some j∧Q (upd H p (.lst (xs.set j v)))
theorem set_list:PSet X rSetL:=by
 intro pins s σ H o i v ov iv u Q I ro ri rv h
 obtain⟨p,xs,k,j,rfl,rfl,hp,hj,q⟩:=h
 cases ro
 obtain⟨t,rfl⟩:=ri
 obtain⟨its,n,r,ho,hz⟩:=I.lst hp
 obtain⟨h1,h2,h3,h4⟩:=ixN_seq hj
 have hl:=r.length
 have hn:=line63
 have I':Inv X pins σ (upd H p (.lst (xs.set j v))) { s with heap:=s.heap.update p (Obj.mapSeq (·.setIfInBounds j u)) }:=
   I.lstUpd hp ho (mapSeq_set its n j u) (r.set rv j) (by rw[List.length_set];exact hz) s.toks
 by_cases h0:0≤k
 · have hk:k.toNat=j:=by
     rw[seqIndex_of h0 h4] at h1
     exact Option.some.inj h1
   exact PySem.W.ki_setAt ho h0 (by omega) (by rw[List.size_toArray,← hl];exact h4) (by rw[hk];exact⟨_,I',q⟩)
 · have hk:(k+(its.toArray.size:Int)).toNat=j:=by
     rw[seqIndex_neg (by omega) h3] at h1
     rw[List.size_toArray,← hl]
     exact Option.some.inj h1
   exact PySem.W.ki_setBack ho (by omega) (by rw[List.size_toArray,← hl];exact h3) (by omega) (by rw[hk];exact⟨_,I',q⟩)
theorem slice_bounds (lo hi:Option Int) (n:Nat):(sliceBounds lo hi none n).1=((HT.sIx n 0 lo:Nat):Int)∧(sliceBounds lo hi none n).2.1=((HT.sIx n n hi:Nat):Int)∧(sliceBounds lo hi none n).2.2=1:=by
 refine⟨?_,?_,rfl⟩
 · cases lo with
   | none=>simp[sliceBounds,HT.sIx]
   | some i=>
     simp only[sliceBounds,HT.sIx,Option.getD_none,show(1:Int) > 0 by decide,if_true]
     by_cases h:i < 0
     · simp only[h,if_true] <;> omega
     · simp only[h,if_false] <;> omega
 · cases hi with
   | none=>simp[sliceBounds,HT.sIx]
   | some i=>
     simp only[sliceBounds,HT.sIx,Option.getD_none,show(1:Int) > 0 by decide,if_true]
     by_cases h:i < 0
     · simp only[h,if_true] <;> omega
     · simp only[h,if_false] <;> omega
theorem slicePick_cut (its:List Value) (lo hi:Option Int):slicePick its.toArray lo hi none=((its.drop (HT.sIx its.length 0 lo)).take (HT.sIx its.length its.length hi - HT.sIx its.length 0 lo)).toArray:=by
 obtain⟨h1,h2,h3⟩:=slice_bounds lo hi its.toArray.size
 unfold slicePick
 rw[h1,h2,h3]
 simp only[sliceRange_one,pick_run,List.size_toArray] <;> rfl
def rSlL (K:Frg):V→Option Int→Option Int→Hp→VK→Prop:=fun x lo hi H Q=>∃a xs,x = .ref a∧SqL K H a xs∧∀p,H p=none→Q (.ref p) (upd H p (.lst (cutV xs lo hi)))
theorem sl_list:SlR X (rSlL X.K):=by
 intro pins s σ H x v vl vu lo hi sl Q I rx hs pl pu h
 obtain⟨a,xs,rfl,hx,q⟩:=h
 cases rx
 obtain⟨its,r,ht,hz⟩:=I.list hx
 have hlen:=r.length
 refine⟨"list", _,slot_list_getitem.lookup,ht.isList.typeIs,?_⟩
 refine wpAny_getItem_list_slice ht.isList hs pl pu .none (by simp) ?_ (by rw[List.size_toArray] <;> omega)
 rw[slicePick_cut,← hlen]
 refine⟨.ref s.heap.objs.size,_,I.laid (t':=s.toks) (o:=.lst (cutV xs lo hi)) (fun b ob q=>Heap.get?_push_of_some _ q) (Nat.le_refl _) ?_,rfl,q _ (I.hok.fresh (Nat.le_refl _))⟩
 exact⟨Nat.le_trans (cutV_length xs lo hi) hz,_,0,(r.drop (HT.sIx xs.length 0 lo)).take (HT.sIx xs.length xs.length hi - HT.sIx xs.length 0 lo),Heap.get?_push_size _ rfl⟩
def flatV:V→Bool
 | .non=>true
 | .bl _=>true
 | .int _=>true
 | .str _=>true
 | _=>false
def eqV:V→V→Bool
 | .non,.non=>true
 | .bl a,.bl b=>a==b
 | .bl a,.int b=>(if a then 1 else 0)==b
 | .int a,.bl b=>a==(if b then 1 else 0)
 | .int a,.int b=>a==b
 | .str a,.str b=>a==b
 | _,_=>false
theorem eqAt_V {A:Around}{s:Shared}{y x:V}{u v:Value}(ry:RelV y u) (rx:RelV x v) (fy:flatV y=true) (fx:flatV x=true):SeqAt.EqAt A s u v (eqV y x):=by
 cases y with
 | non=>
   cases ry
   cases x with
   | non=>cases rx;exact SeqAt.EqAt.same _
   | bl b=>cases rx;exact SeqAt.EqAt.none_bool b
   | int b=>obtain⟨t,rfl⟩:=rx;exact SeqAt.EqAt.none_int b t
   | str b=>obtain⟨t,rfl⟩:=rx;exact SeqAt.EqAt.none_str b t
   | _=>exact absurd (show false=true from fx) nft
 | bl a=>
   cases ry
   cases x with
   | non=>cases rx;exact SeqAt.EqAt.bool_none a
   | bl b=>cases rx;exact SeqAt.EqAt.bool_bool a b
   | int b=>obtain⟨t,rfl⟩:=rx;exact SeqAt.EqAt.bool_int a b t
   | str b=>obtain⟨t,rfl⟩:=rx;exact SeqAt.EqAt.bool_str a b t
   | _=>exact absurd (show false=true from fx) nft
 | int a=>
   obtain⟨t',rfl⟩:=ry
   cases x with
   | non=>cases rx;exact SeqAt.EqAt.int_none a t'
   | bl b=>cases rx;exact SeqAt.EqAt.int_bool a t' b
   | int b=>obtain⟨t,rfl⟩:=rx;exact SeqAt.EqAt.int_int a t' b t
   | str b=>obtain⟨t,rfl⟩:=rx;exact SeqAt.EqAt.int_str a t' b t
   | _=>exact absurd (show false=true from fx) nft
 | str a=>
   obtain⟨t',rfl⟩:=ry
   cases x with
   | non=>cases rx;exact SeqAt.EqAt.str_none a t'
   | bl b=>cases rx;exact SeqAt.EqAt.str_bool a t' b
   | int b=>obtain⟨t,rfl⟩:=rx;exact SeqAt.EqAt.str_int a t' b t
   | str b=>obtain⟨t,rfl⟩:=rx;exact SeqAt.EqAt.str_str a t' b t
   | _=>exact absurd (show false=true from fx) nft
 | _=>exact absurd (show false=true from fy) nft
def eqU (x:V) (u:Value):Bool:=match u with
 | .none=>eqV .non x
 | .bool b=>eqV (.bl b) x
 | .int i _=>eqV (.int i) x
 | .str z _=>eqV (.str z) x
 | _=>false
theorem eqU_of {x y:V}{u:Value}(r:RelV y u) (f:flatV y=true):eqU x u=eqV y x:=by
 cases y with
 | non=>cases r;rfl
 | bl b=>cases r;rfl
 | int i=>obtain⟨t,rfl⟩:=r;rfl
 | str z=>obtain⟨t,rfl⟩:=r;rfl
 | _=>exact absurd (show false=true from f) nft
theorem any_eqU {x:V}:∀{xs:List V}{us:List Value},Vals xs us→xs.all flatV=true→us.any (eqU x)=xs.any fun y=>eqV y x
 | _,_,.nil,_=>rfl
 | y::xs,u::us,.cons r t,f=>by
   rw[List.all_cons,Bool.and_eq_true] at f
   rw[List.any_cons,List.any_cons,eqU_of r f.1,any_eqU t f.2]
theorem mem_eqAt {A:Around}{s:Shared}{x:V}{v:Value}(rx:RelV x v) (fx:flatV x=true):∀{xs:List V}{us:List Value},Vals xs us→xs.all flatV=true→∀u∈us,SeqAt.EqAt A s u v (eqU x u)
 | _,_,.nil,_=>fun u hu=>by cases hu
 | y::xs,u::us,.cons r t,f=>fun u' hu=>by
   rw[List.all_cons,Bool.and_eq_true] at f
   rcases List.mem_cons.mp hu with rfl | hu
   · rw[eqU_of r f.1];exact eqAt_V r rx f.1 fx
   · exact mem_eqAt rx fx t f.2 u' hu
def inV (x:V) (xs:List V):Bool:=xs.any fun y=>eqV y x
def rIn (K:Frg) (neg:Bool):R2:=fun x y H Q=>∃p xs,y = .ref p∧(SqL K H p xs∨SqT K H p xs)∧flatV x=true∧xs.all flatV=true∧Q (.bl (if neg then !inV x xs else inV x xs)) H
theorem op_in_seq:OpR X (compareOp .In) (rIn X.K false):=by
 intro pins s σ H x y v u Q I rx ry h
 obtain⟨p,xs,rfl,hq,fx,fs,q⟩:=h
 cases ry
 rcases hq with hq | hq
 · obtain⟨its,r,pl,hz⟩:=I.list hq
   refine SeqAt.in_listAt (eqU x) pl.isList (fun w hw=>mem_eqAt rx fx r fs w (by simpa using hw)) ⟨.bl _,H,I,rfl,?_⟩
   rw[show its.toArray.any (eqU x)=its.any (eqU x) by simp,any_eqU r fs]
   exact q
 · obtain⟨its,r,pl,hz⟩:=I.tuple hq
   refine SeqAt.in_tupleAt (eqU x) pl (fun w hw=>mem_eqAt rx fx r fs w (by simpa using hw)) ⟨.bl _,H,I,rfl,?_⟩
   rw[show its.toArray.any (eqU x)=its.any (eqU x) by simp,any_eqU r fs]
   exact q
theorem call_tuple_of:CallR X (.type "tuple") (fun xs H Q=>∃p ys,xs=[.ref p]∧((SqL X.K H p ys∧∀l,H l=none→Q (.ref l) (upd H l (.tup ys)))∨(SqT X.K H p ys∧Q (.ref p) H))):=by
 intro pins s σ H xs us Q I r h
 obtain⟨p,ys,rfl,h⟩:=h
 obtain⟨u,rfl,rx⟩:=vals1 r
 cases rx
 rcases h with ⟨hq,q⟩ | ⟨hq,q⟩
 · obtain⟨its,r',pl,hz⟩:=I.list hq
   have hlen:=r'.length
   refine call_tuple_list pl.isList (fun h' kp=>?_) (by simp only[List.size_toArray] <;> omega)
   have I1:Inv X pins σ H { s with heap:=h' }:=I.kept (t':=s.toks) kp
   have I2:Inv X pins σ (upd H h'.objs.size (.tup ys)) { s with heap:=h'.push { cls:=.type "tuple", data:=.seq its.toArray } }:=
     I1.laid (t':=s.toks) (fun b o e=>Heap.get?_push_of_some _ e) (Nat.le_refl _) (show ObjOk X.prog X.w _ _ _ (.tup ys) from ⟨hz,its,r',IsTup.new _ _⟩)
   exact⟨.ref h'.objs.size,_,I2,rfl,q _ (I1.hok.fresh (Nat.le_refl _))⟩
 · obtain⟨its,r',pl,hz⟩:=I.tuple hq
   exact call_tuple_same pl ⟨.ref p,H,I,rfl,q⟩
def tyV (K:Frg) (T:String) (x:V) (H:Hp):Prop:=match x with
 | .str _=>T = "str"
 | .int _=>T = "int"
 | .ref p=>(T = "list" ∧ ∃xs,SqL K H p xs)∨(T = "tuple" ∧ ∃o,K.lookup p=some o∧o.cls = .type "tuple" ∧ o.dict=none) ∨
     (T = "dict" ∧ ((∃kvs,H p=some (.dK kvs))∨∃kvs,H p=some (.dT kvs)))∨(T = "set" ∧ ∃S n,H p=some (.set S n))
 | _=>False
theorem tyV_is {pins:List (Addr×Obj)}{σ:St}{H:Hp}{s:Shared}{T:String}{x:V}{v:Value}(I:Inv X pins σ H s) (r:RelV x v) (ty:tyV X.K T x H) :
   s.TypeIs v T∧∀a,v = .ref a→∃ob,s.heap.get? a=some ob∧ob.dict=none:=by
 cases x with
 | str z=>
   obtain⟨t,rfl⟩:=r
   cases (show T = "str" from ty)
   exact⟨typeIs_str s z t,fun _ e=>nomatch e⟩
 | int i=>
   obtain⟨t,rfl⟩:=r
   cases (show T = "int" from ty)
   exact⟨typeIs_int s i t,fun _ e=>nomatch e⟩
 | ref p=>
   cases r
   rcases ty with ⟨rfl,xs,hq⟩ | ⟨rfl,o,hk,hc,hd⟩ | ⟨rfl,hk⟩ | ⟨rfl,S,n,hk⟩
   · obtain⟨its,_,pl,_⟩:=I.list hq
     refine⟨pl.isList.typeIs,fun a e=>?_⟩
     cases e
     obtain⟨o,n,e,c,hd,_⟩:=pl
     exact⟨o,e,hd⟩
   · refine⟨⟨o,I.kIn p o hk,hc⟩,fun a e=>?_⟩
     cases e
     exact⟨o,I.kIn _ o hk,hd⟩
   · have z:∃o,s.heap.get? p=some o∧o.ExactDict:=by
       rcases hk with ⟨kvs,hk⟩ | ⟨kvs,hk⟩
       · obtain⟨_,_,_,_,o,_,_,e,ex,_⟩:=I.hok p _ hk
         exact⟨o,e,ex⟩
       · obtain⟨_,_,_,_,o,_,_,e,ex,_⟩:=I.hok p _ hk
         exact⟨o,e,ex⟩
     obtain⟨o,e,ex⟩:=z
     refine⟨⟨o,e,ex.1⟩,fun a e2=>?_⟩
     cases e2
     exact⟨o,e,ex.2.1⟩
   · obtain⟨o,_,_,_,e,ex,_⟩:=I.hok p _ hk
     refine⟨⟨o,e,ex.1⟩,fun a e2=>?_⟩
     cases e2
     exact⟨o,e,ex.2.1⟩
 | _=>exact False.elim ty
def tBM (K:Frg) (T:String) (r:V→List V→Hp→VK→Prop) (to:TE) (t:TA):TE:=fun σ H Q=>to σ H fun x H1=>tyV K T x H1∧t σ H1 fun xs H2=>r x xs H2 Q
variable {o e:Expr}{es:List Expr}{to:TE}{t:TA}{name:Str}{apos cpos:Pos}{T id:String}{r:V→List V→Hp→VK→Prop}
theorem pe_bm (pa:PlainAttrs T) (slot:Slot T name id) (hty:typeOf (.builtin id)=pure (.type "method_descriptor")) (hm:MtR X id r) (ho:PE X o to) (ha:PA X (e::es) t)
   (hbase:attributeBase o name X.env (eval o X.env)=eval o X.env:=by rfl)
   (hfew:((backTo cpos (starEach (e::es) X.env)).all (fun x=>!x.1)&&(backToKw cpos (keywordEach [] X.env)).all (fun x=>x.1.isSome)
     && decide ((e::es).length+([]:List Keyword).length+(if ([]:List Keyword).isEmpty then 0 else 1) < 30))=true:=by rfl)
   (hline:(apos.endLine==cpos.line)=true:=by rfl) (hs:starEach (e::es) X.env=(false,eval e X.env)::starEach es X.env:=by rfl) (hplain:(backTo cpos (starEach es X.env)).any (·.1)=false:=by rfl) :
   PE X (.Call (.Attribute o name apos) (e::es) [] cpos) (tBM X.K T r to t):=by
 intro pins s σ H Q I h
 refine wpAny_Call_method_late hbase hfew hline rfl (thn (ho pins s σ H _ I h) fun v s1 ⟨x,H1,I1,r1,ty,q1⟩=>?_)
 obtain⟨h1,h2⟩:=tyV_is I1 r1 ty
 refine⟨T,id,pa,slot,hty,h1,h2,?_⟩
 have hA:=ha cpos pins s1 σ H1 _ I1 q1
 rw[hs] at hA ⊢
 refine Calls.callWith_builtin (by show(false||(backTo cpos (starEach es X.env)).any (·.1))=false;rw[hplain] <;> rfl) (Calls.evalArgs_plain ?_)
 exact thn hA fun us s2 ⟨vs,H2,I2,r2,q2⟩=>hm pins s2 σ H2 x vs v us Q I2 r1 r2 q2
end
end L2
namespace L2
open PySem PySem.Spec PyProof.Rows
def MtM (X:Cx) (id:String) (r:V→List V→Hp→VK→Prop):Prop:=
 ∀(pins:List (Addr×Obj)) (s:Shared) (σ:St) (H:Hp) (x:V) (xs:List V) (v:Value) (us:List Value) (Q:VK),Inv X pins σ H s→RelV x v→Vals xs us→r x xs H Q →
   wpAny (model X.prog X.w) X.A (call (.builtin id) (v::us)) (EP X pins σ Q) X.xe s
theorem Vals.one:∀{x:V}{us:List Value},Vals [x] us→∃u,us=[u]∧RelV x u
 | _,_,.cons r .nil=>⟨_,rfl,r⟩
section
variable {X:Cx}{pins:List (Addr×Obj)}{σ:St}{H:Hp}{s:Shared}{l b:Addr}{xs ys zs:List V}
theorem Inv.lset {its its':List Value}{n:Nat}{f:Array Value→Array Value}{t':Nat}(I:Inv X pins σ H s) (hH:H l=some (.lst xs))
   (e:s.heap.get? l=some { cls:=.type "list", data:=.seq its.toArray n }) (hf:f its.toArray=its'.toArray) (hv:Vals ys its') (hz:ys.length≤sizeLine) :
   Inv X pins σ (upd H l (.lst ys)) { s with heap:=s.heap.update l (Obj.mapSeq f),toks:=t' }:=by
 have q:=PySem.IsL.update e f
 rw[hf] at q
 refine I.write (x:=l) (e:=l) (by rw[hH];exact trivial) (.inl rfl) (fun b' u hb hu=>(Heap.get?_update_other s.heap (Obj.mapSeq f) (Ne.symm hb)).trans hu) ⟨_,q⟩ ?_
 exact⟨hz,its',_,hv,q⟩
theorem Inv.lnew {its:List Value}{t':Nat}(I:Inv X pins σ H s) (hv:Vals ys its) (hz:ys.length≤sizeLine) :
   Inv X pins σ (upd H s.heap.objs.size (.lst ys)) { s with heap:=s.heap.push { cls:=.type "list", data:=.seq its.toArray },toks:=t' }:=
 I.laid (fun _ _ q=>Heap.get?_push_of_some _ q) (Nat.le_refl _) ⟨hz,its,0,hv,Heap.get?_push_size _ rfl⟩
theorem Inv.fresh (I:Inv X pins σ H s):H s.heap.objs.size=none:=I.hok.fresh (Nat.le_refl _)
theorem Inv.lstM (I:Inv X pins σ H s) (hH:H l=some (.lst xs)):xs.length≤sizeLine∧∃(its:List Value) (n:Nat),Vals xs its∧xs.length=its.length∧s.heap.get? l=some { cls:=.type "list", data:=.seq its.toArray n }:=by
 obtain⟨z,its,n,r,e⟩:=I.hok l _ hH
 exact⟨z,its,n,r,r.length,e⟩
end
section
variable {X:Cx}
def rAppend:V→List V→Hp→VK→Prop:=fun x vs H Q=>∃l xs y,x = .ref l∧vs=[y]∧H l=some (.lst xs)∧xs.length < sizeLine∧Q .non (upd H l (.lst (xs++[y])))
theorem mt_append:MtM X "list.append" rAppend:=by
 intro pins s σ H x vs v us Q I rx rv h
 obtain⟨l,xs,y,rfl,rfl,hH,hz,q⟩:=h
 cases rx
 obtain⟨u,rfl,ru⟩:=rv.one
 obtain⟨z,its,n,r,hl,e⟩:=I.lstM hH
 refine call_meets F.slot_list_append ⟨_,e,rfl⟩ F.entry_list_append (F.args_list_append_2 _ _) (PySem.list_append l its.toArray n u (by rw[List.size_toArray];omega)) ⟨e,?_⟩
 refine⟨.non,_,I.lset (its':=its++[u]) hH e (by simp) (r.append (.cons ru .nil)) ?_,rfl,q⟩
 rw[List.length_append,List.length_singleton]
 omega
end
end L2
namespace L2
open PySem PySem.Spec PyProof.Rows
section
variable {κ:Type}[DecidableEq κ]
def valV (kvs:List (κ×V)) (k:κ):Option V:=(kvs.find? fun kv=>decide (kv.1=k)).map (·.2)
def putK (kvs:List (κ×V)) (k:κ) (v:V):List (κ×V):=
 if (kvs.any fun kv=>decide (kv.1=k))=true then kvs.map (fun kv=>if kv.1=k then (kv.1,v) else kv) else kvs++[(k,v)]
theorem valV_pos {p:κ×V}{r:List (κ×V)}{k:κ}(e:p.1=k):valV (p::r) k=some p.2:=by simp[valV,List.find?_cons,e]
theorem valV_neg {p:κ×V}{r:List (κ×V)}{k:κ}(e:¬p.1=k):valV (p::r) k=valV r k:=by simp[valV,List.find?_cons,e]
theorem length_putK (kvs:List (κ×V)) (k:κ) (v:V):(putK kvs k v).length≤kvs.length+1:=by
 unfold putK
 split
 · rw[List.length_map];omega
 · rw[List.length_append,List.length_cons,List.length_nil];omega
theorem RelO.getD {o:Option V}{u:Option Value}{d:V}{d':Value}(r:RelO o u) (rd:RelV d d'):RelV (o.getD d) (u.getD d'):=by
 cases o with
 | none=>cases u with
   | none=>exact rd
   | some _=>exact(show False from r).elim
 | some _=>cases u with
   | none=>exact(show False from r).elim
   | some _=>exact r
theorem KV.val {kvs:List (κ×V)}{vs:List (κ×Value)}(r:KV kvs vs) (k:κ):RelO (valV kvs k) (valueAt vs k):=by
 unfold KV at r
 induction r with
 | nil=>exact True.intro
 | @cons p q ps qs h t ih=>
   obtain⟨h1,h2⟩:=h
   by_cases e:p.1=k
   · have e':q.1=k:=h1.symm.trans e
     have b:valueAt (q::qs) k=some q.2:=by simp[valueAt,List.find?_cons,e']
     rw[valV_pos e,b];exact h2
   · have e':¬q.1=k:=fun z=>e (h1.trans z)
     have b:valueAt (q::qs) k=valueAt qs k:=by simp[valueAt,List.find?_cons,e']
     rw[valV_neg e,b];exact ih
theorem KV.any {kvs:List (κ×V)}{vs:List (κ×Value)}(r:KV kvs vs) (k:κ):(kvs.any fun kv=>decide (kv.1=k))=vs.any fun kv=>decide (kv.1=k):=by
 unfold KV at r
 induction r with
 | nil=>rfl
 | cons h t ih=>rw[List.any_cons,List.any_cons,ih,h.1]
theorem KV.repl {kvs:List (κ×V)}{vs:List (κ×Value)}(r:KV kvs vs) (k:κ) {y:V}{u:Value}(ry:RelV y u) :
   KV (kvs.map fun kv=>if kv.1=k then (kv.1,y) else kv) (vs.map fun kv=>if kv.1=k then (kv.1,u) else kv):=by
 unfold KV at r ⊢
 induction r with
 | nil=>exact .nil
 | @cons p q ps qs h t ih=>
   rw[List.map_cons,List.map_cons]
   refine .cons ?_ ih
   obtain⟨h1,h2⟩:=h
   by_cases e:p.1=k
   · rw[if_pos e,if_pos (h1.symm.trans e)];exact⟨h1,ry⟩
   · rw[if_neg e,if_neg (fun z=>e (h1.trans z))];exact⟨h1,h2⟩
theorem KV.put {kvs:List (κ×V)}{vs:List (κ×Value)}(r:KV kvs vs) (k:κ) {y:V}{u:Value}(ry:RelV y u):KV (putK kvs k y) (stored vs k u):=by
 unfold putK stored
 rw[r.any k]
 by_cases e:(vs.any fun kv=>decide (kv.1=k))=true
 · rw[if_pos e,if_pos e];exact r.repl k ry
 · rw[if_neg e,if_neg e];exact Paired.snoc r ⟨rfl,ry⟩
end
theorem kV_is {P:Program}{w:World}{k:Key}{u:Value}(r:RelV (kV k) u):(mixKind P w).is k u=true:=by
 cases k with
 | inl i=>obtain⟨t,e⟩:=(show ∃t,u=Value.int i t from r);subst e;exact mixKind_int P w i t
 | inr x=>obtain⟨t,e⟩:=(show ∃t,u=Value.str x t from r);subst e;exact mixKind_str P w x t
theorem items_are {P:Program}{w:World}:∀{ks:List Key}{us:List Value},Vals (ks.map kV) us→ItemsAre (mixKind P w) ks us
 | [],_,r=>by rw[List.map_nil] at r;cases r;exact .nil
 | k::ks,_,r=>by
   rw[List.map_cons] at r
   cases r with
   | cons h t=>exact .cons (kV_is h) (items_are t)
abbrev KT (H:Hp):List (List Key×V)→List (List Key×Addr×Value)→Prop:=Paired fun p q=>p.1=q.1∧H q.2.1=some (.tup (p.1.map kV))∧RelV p.2 q.2.2
theorem KT.val {H:Hp}{kvs:List (List Key×V)}{xs:List (List Key×Addr×Value)}(r:KT H kvs xs) (k:List Key):RelO (valV kvs k) ((atKey xs k).map (·.2)):=by
 induction r with
 | nil=>exact True.intro
 | @cons p q ps qs h t ih=>
   obtain⟨h1,_,h2⟩:=h
   by_cases e:p.1=k
   · have e':q.1=k:=h1.symm.trans e
     have b:atKey (q::qs) k=some q.2:=by simp[atKey,List.find?_cons,e']
     rw[valV_pos e,b];exact h2
   · have e':¬q.1=k:=fun z=>e (h1.trans z)
     have b:atKey (q::qs) k=atKey qs k:=by simp[atKey,List.find?_cons,e']
     rw[valV_neg e,b];exact ih
section
variable {P:Program}{w:World}{H:Hp}{h:Heap}{a:Addr}
theorem rd_of {u:HO}(ok:HOk P w H h) (e:Rd H a u):ObjOk P w H h a u:=e.ok ok
theorem dk_rd {kvs:List (Key×V)}(ok:HOk P w H h) (e:Rd H a (.dK kvs)):kvs.length≤sizeLine∧(a==sysModules)=false∧∃vs,KV kvs vs∧h.DictOf (mixKind P w) a vs:=
 show ObjOk P w H h a (.dK kvs) from rd_of ok e
theorem dk_of {kvs:List (Key×V)}(ok:HOk P w H h) (e:H a=some (.dK kvs)):kvs.length≤sizeLine∧(a==sysModules)=false∧∃vs,KV kvs vs∧h.DictOf (mixKind P w) a vs:=dk_rd ok (.inl e)
theorem key_of {ks:List Key}(ok:HOk P w H h) (e:H a=some (.tup (ks.map kV))):(tupleKind (mixKind P w)).is h ks a:=by
 obtain⟨_,its,r,o,h1,h2,n,h3⟩:=(show ObjOk P w H h a (.tup (ks.map kV)) from ok a _ e)
 exact⟨o,its.toArray,n,h1,h2,h3,by simpa using items_are r⟩
theorem dt_rd {kvs:List (List Key×V)}(ok:HOk P w H h) (e:Rd H a (.dT kvs)):kvs.length≤sizeLine∧(a==sysModules)=false ∧
   ∃xs,KT H kvs xs∧h.DictOfH (tupleKind (mixKind P w)) a xs:=by
 obtain⟨z,y,xs,r,o,es,ep,h1,h2,h3,h4,h5⟩:=(show ObjOk P w H h a (.dT kvs) from rd_of ok e)
 refine⟨z,y,xs,r,o,es,ep,h1,h2,h3,h4,fun x hx=>?_,h5⟩
 have all:∀{l:List (List Key×V)}{m:List (List Key×Addr×Value)},KT H l m→∀x∈m,(tupleKind (mixKind P w)).is h x.1 x.2.1:=by
   intro l m q
   induction q with
   | nil=>intro x hx;exact nomatch hx
   | @cons p q ps qs hq t ih=>
     intro x hx
     rcases List.mem_cons.mp hx with e | hx
     · subst e
       exact key_of ok (by rw[← hq.1];exact hq.2.1)
     · exact ih x hx
 exact all r x hx
end
def DGet (H:Hp) (a:Addr) (y:V) (r:Option V):Prop:=
 (∃kvs k,Rd H a (.dK kvs)∧y=kV k∧r=valV kvs k)∨∃kvs k b,Rd H a (.dT kvs)∧y = .ref b∧H b=some (.tup (k.map kV))∧r=valV kvs k
section
variable {X:Cx}{pins:List (Addr×Obj)}{σ:St}{H:Hp}{s:Shared}{a:Addr}{y v:V}{u r:Value}{o:Option V}{A:Around}{E:Value→Shared→Prop}
theorem Inv.big (I:Inv X pins σ H s):sysModules < s.heap.objs.size:=by
 have h:mainGlobals < s.heap.objs.size:=(I.mod.glob.keeps I.bk).lt
 exact Nat.lt_trans (by decide) h
theorem d_write {h':Heap}{t':Nat}{ob:HO}(I:Inv X pins σ H s) (mu:Mut (H a)) (hs:Heap.SameBut a s.heap h') (he:∃q,h'.get? a=some q) (new:ObjOk X.prog X.w (upd H a ob) h' a ob) :
   Inv X pins σ (upd H a ob) { s with heap:=h',toks:=t' }:=
 I.write (x:=a) (e:=a) mu (.inl rfl) (fun b q hb z=>(hs.2 b hb).trans z) he new
theorem dk_new {P:Program}{w:World}{H':Hp}{h':Heap}{kvs:List (Key×V)}{vs:List (Key×Value)}(z:kvs.length≤sizeLine) (hd:(a==sysModules)=false) (rel:KV kvs vs) (dd:h'.DictOf (mixKind P w) a vs) :
   ObjOk P w H' h' a (.dK kvs):=⟨z,hd,vs,rel,dd⟩
end
theorem dk_empty {P:Program}{w:World}{H:Hp}(h:Heap) (hb:sysModules < h.objs.size):ObjOk P w H (h.push { cls:=.type "dict", data:=.dict #[] }) h.objs.size (.dK []):=
 ⟨Nat.zero_le _,beq_eq_false_iff_ne.mpr (Ne.symm (Nat.ne_of_lt hb)),[],.nil,Heap.DictOf.new h⟩
def tPairs:List (TE×TE)→St→Hp→(List (V×V)→Hp→Prop)→Prop
 | [],_,H,Q=>Q [] H
 | (tk,tv)::r,σ,H,Q=>tk σ H fun x H1=>tv σ H1 fun y H2=>tPairs r σ H2 fun ps H3=>Q ((x,y)::ps) H3
abbrev VV:List (V×V)→List (Value×Value)→Prop:=Paired fun p q=>RelV p.1 q.1∧RelV p.2 q.2
def PPs (X:Cx) (pos:Pos) (keys:List (Option Expr)) (values:List Expr) (trs:List (TE×TE)):Prop:=
 ∀(pins:List (Addr×Obj)) (s:Shared) (σ:St) (H:Hp) (Q:List (V×V)→Hp→Prop),Inv X pins σ H s→tPairs trs σ H Q →
   wpAny (model X.prog X.w) X.A (evalPairs (pairTrees keys values X.env pos)) (fun vs s'=>∃ps H',Inv X pins σ H' s'∧VV ps vs∧Q ps H') X.xe s
theorem pps_nil {X:Cx}{pos:Pos}:PPs X pos [] [] []:=fun pins s σ H Q I h=>pairTrees_nil_walk ⟨[],H,I,.nil,h⟩
theorem pps_cons {X:Cx}{pos:Pos}{k v:Expr}{ks:List (Option Expr)}{vs:List Expr}{tk tv:TE}{trs:List (TE×TE)}(hk:PE X k tk) (hv:PE X v tv) (hr:PPs X pos ks vs trs) :
   PPs X pos (some k::ks) (v::vs) ((tk,tv)::trs):=fun pins s σ H Q I h=>
 pairTrees_cons_walk (thn (hk pins s σ H _ I h) fun u s1 ⟨x,H1,I1,rx,q1⟩=>thn (hv pins s1 σ H1 _ I1 q1) fun w2 s2 ⟨y,H2,I2,ry,q2⟩=>
   thn (hr pins s2 σ H2 _ I2 q2) fun ws s3 ⟨ps,H3,I3,rel,q3⟩=>⟨(x,y)::ps,H3,I3,.cons ⟨rx,ry⟩ rel,q3⟩)
def mergeK (kvs more:List (Key×V)):List (Key×V):=more.foldl (fun acc kv=>putK acc kv.1 kv.2) kvs
theorem KV.merge:∀{more:List (Key×V)}{rs:List (Key×Value)}{kvs:List (Key×V)}{vs:List (Key×Value)},KV more rs→KV kvs vs→KV (mergeK kvs more) (merged vs rs):=by
 intro more rs kvs vs r
 unfold KV at r
 induction r generalizing kvs vs with
 | nil=>intro q;exact q
 | @cons p q ps qs h t ih=>
   intro r0
   have e:KV (putK kvs p.1 p.2) (stored vs q.1 q.2):=by
     have:=r0.put p.1 h.2
     rw[← h.1];exact this
   exact ih e
theorem length_mergeK:∀(more kvs:List (Key×V)),(mergeK kvs more).length≤kvs.length+more.length
 | [],kvs=>by show kvs.length≤kvs.length+0;omega
 | p::r,kvs=>by
   have h1:=length_mergeK r (putK kvs p.1 p.2)
   have h2:=length_putK kvs p.1 p.2
   show(mergeK (putK kvs p.1 p.2) r).length≤_
   rw[List.length_cons];omega
theorem carries_of {P:Program}{w:World}:∀{kvs:List (Key×V)}{ws:List (Value×Value)},VV (kvs.map fun kv=>(kV kv.1,kv.2)) ws→∃rs,Carries (mixKind P w) ws rs∧KV kvs rs
 | [],_,r=>by rw[List.map_nil] at r;cases r;exact⟨[],True.intro,.nil⟩
 | p::kvs,_,r=>by
   rw[List.map_cons] at r
   cases r with
   | @cons a b as bs h t=>
     obtain⟨rs,c,q⟩:=carries_of (P:=P) (w:=w) t
     obtain⟨b1,b2⟩:=b
     exact⟨(p.1,b2)::rs,⟨kV_is h.1,rfl,c⟩,.cons ⟨rfl,h.2⟩ q⟩
def tDisp (trs:List (TE×TE)):TE:=fun σ H Q=>∀p,H p=none→tPairs trs σ (upd H p (.dK [])) fun ps H2=>H2 p=some (.dK [])∧∃kvs:List (Key×V),ps=kvs.map (fun kv=>(kV kv.1,kv.2))∧kvs.length≤15∧Q (.ref p) (upd H2 p (.dK (mergeK [] kvs)))
theorem pe_disp {X:Cx}{pos:Pos}{keys:List (Option Expr)}{values:List Expr}{trs:List (TE×TE)}(h:PPs X pos keys values trs) (hall:keys.all (·.isSome)=true) (hl:keys.length=values.length) (h0:keys≠[])
   (h15:keys.length≤15):PE X (.Dict keys values pos) (tDisp trs):=by
 intro pins s σ H Q I q
 have hn:=I.hok.fresh (Nat.le_refl s.heap.objs.size)
 have I1:=I.laid (a:=s.heap.objs.size) (o:=.dK []) (h':=s.heap.push { cls:=.type "dict", data:=.dict #[] }) (t':=s.toks) (fun _ _ q=>Heap.get?_push_of_some _ q) (Nat.le_refl _) (dk_empty s.heap I.big)
 refine wpAny_Dict_walk (knd:=mixKind X.prog X.w) hall hl h0 h15 (thn (h pins _ σ _ _ I1 (q _ hn)) fun ws s2 ⟨ps,H2,I2,rel,e,kvs,ep,lk,q2⟩=>?_)
 subst ep
 obtain⟨rs,c,rk⟩:=carries_of (P:=X.prog) (w:=X.w) rel
 obtain⟨z,hd,vs0,r0,dd⟩:=dk_of I2.hok e
 cases r0
 refine⟨rs,c,dd,fun h' dd' hs=>⟨.ref s.heap.objs.size,_,?_,rfl,q2⟩⟩
 have hz:(mergeK [] kvs).length≤sizeLine:=by
   have h1:=length_mergeK kvs []
   rw[List.length_nil] at h1
   rw[sizeLine_eq];omega
 have he:∃q,h'.get? s.heap.objs.size=some q:=let ⟨q,_,_,hq,_⟩:=dd';⟨q,hq⟩
 exact d_write I2 (by rw[e];exact True.intro) hs he (dk_new hz hd (rk.merge .nil) dd')
structure M1 (X:Cx) (o:Expr) (m:Str) (apos:Pos) (e:Expr) (cpos:Pos):Prop where
 base:attributeBase o m X.env (eval o X.env)=eval o X.env
 few:((backTo cpos (starEach [e] X.env)).all (fun x=>!x.1)&&(backToKw cpos (keywordEach [] X.env)).all (fun x=>x.1.isSome)
   && decide (([e]:List Expr).length+([]:List Keyword).length+(if ([]:List Keyword).isEmpty then 0 else 1) < 30))=true
 line:(apos.endLine==cpos.line)=true
 trees:backTo cpos (starEach [e] X.env)=[(false,eval e X.env)]
structure M2 (X:Cx) (o:Expr) (m:Str) (apos:Pos) (e f:Expr) (cpos:Pos):Prop where
 base:attributeBase o m X.env (eval o X.env)=eval o X.env
 few:((backTo cpos (starEach [e,f] X.env)).all (fun x=>!x.1)&&(backToKw cpos (keywordEach [] X.env)).all (fun x=>x.1.isSome)
   && decide (([e,f]:List Expr).length+([]:List Keyword).length+(if ([]:List Keyword).isEmpty then 0 else 1) < 30))=true
 line:(apos.endLine==cpos.line)=true
 trees:backTo cpos (starEach [e,f] X.env)=[(false,eval e X.env),(false,eval f X.env)]
def IsD (H:Hp) (a:Addr):Prop:=(∃kvs,Rd H a (.dK kvs))∨∃kvs,Rd H a (.dT kvs)
theorem isD_at {X:Cx}{pins:List (Addr×Obj)}{σ:St}{H:Hp}{s:Shared}{a:Addr}(I:Inv X pins σ H s) (d:IsD H a) :
   s.TypeIs (.ref a) "dict" ∧ (∀b,Value.ref a = .ref b→∃ob,s.heap.get? b=some ob∧ob.dict=none)∧(a==sysModules)=false:=by
 rcases d with ⟨kvs,e⟩ | ⟨kvs,e⟩
 · obtain⟨_,hd,vs,_,dd⟩:=dk_rd I.hok e
   refine⟨dd.typeIs,fun b q=>?_,hd⟩
   cases q
   obtain⟨ob,_,_,h1,h2,_⟩:=dd
   exact⟨ob,h1,h2.2.1⟩
 · obtain⟨_,hd,xs,_,dd⟩:=dt_rd I.hok e
   refine⟨dd.typeIs,fun b q=>?_,hd⟩
   cases q
   obtain⟨ob,_,_,h1,h2,_⟩:=dd
   exact⟨ob,h1,h2.2.1⟩
section
variable {X:Cx}{pins:List (Addr×Obj)}{σ:St}{H:Hp}{s:Shared}{a:Addr}{y d:V}{u r:Value}{o:Option V}{A:Around}{E:Value→Shared→Prop}
theorem d_get2 {Q:Value→Shared→Prop}(hu:A.units+1 < cLine) (I:Inv X pins σ H s) (g:DGet H a y o) (ry:RelV y u) (rd:RelV d r) (h:∀w' s',Inv X pins σ H s'→RelV (o.getD d) w'→Q w' s') :
   wpAny (model X.prog X.w) A (call (.builtin "dict.get") [.ref a,u,r]) Q E s:=by
 rcases g with ⟨kvs,k,e,ey,l⟩ | ⟨kvs,k,b,e,ey,eb,l⟩
 · subst ey
   obtain⟨z,hd,vs,rel,dd⟩:=dk_rd I.hok e
   refine call_meetsIn PySem.F.slot_dict_get dd.typeIs PySem.F.entry_dict_get (PySem.F.args_dict_get_3 _ _ _) (meets_dict_get_default (mixKind X.prog X.w) a (kV_is ry) hd r) ⟨_,dd.mapOf,h _ _ (I.tok _) ?_⟩
   rw[l]
   exact(rel.val k).getD rd
 · subst ey
   cases (show u=Value.ref b from ry)
   obtain⟨z,hd,xs,rel,dd⟩:=dt_rd I.hok e
   refine call_meetsIn PySem.F.slot_dict_get dd.typeIs PySem.F.entry_dict_get (PySem.F.args_dict_get_3 _ _ _) (meetsH_dict_get_default (tupleKind (mixKind X.prog X.w)) a b hd r) ⟨tupleKind_room_in1 hu,k,xs,key_of I.hok eb,dd,h _ _ (I.tok _) ?_⟩
   rw[l]
   exact(rel.val k).getD rd
end
def tDGet2 (td ty tx:TE):TE:=fun σ H Q=>td σ H fun x H1=>∃a,x = .ref a∧IsD H1 a∧ty σ H1 fun y H2=>tx σ H2 fun z H3=>∃o,DGet H3 a y o∧Q (o.getD z) H3
section
variable {X:Cx}{o e f:Expr}{apos cpos:Pos}{td ty tx:TE}
theorem pe_dget2 (hu:X.A.units+1 < cLine) (ho:PE X o td) (he:PE X e ty) (hf:PE X f tx) (m:M2 X o "get" apos e f cpos):PE X (.Call (.Attribute o "get" apos) [e,f] [] cpos) (tDGet2 td ty tx):=by
 intro pins s σ H Q I h
 refine wpAny_Call_method m.base m.few m.line PySem.F.plainAttrs_dict PySem.F.slot_dict_get PySem.F.type_dict_get (thn (ho pins s σ H _ I h) fun u s1 ⟨x,H1,I1,rx,a,ex,d,q1⟩=>?_)
 subst ex
 obtain rfl:u=Value.ref a:=rx
 obtain⟨t1,t2,_⟩:=isD_at I1 d
 refine⟨t1,t2,?_⟩
 rw[m.trees]
 refine Calls.callWith_builtin rfl (Calls.evalArgs_plain (Calls.spliced_cons (thn (he pins s1 σ H1 _ I1 q1) fun iv s2 ⟨y,H2,I2,ry,q2⟩=>
   Calls.spliced_cons (thn (hf pins s2 σ H2 _ I2 q2) fun fv s3 ⟨z,H3,I3,rz,ov,g,q3⟩=>Calls.spliced_nil ?_))))
 exact d_get2 hu I3 g ry rz fun w' s4 I4 rw'=>⟨_,H3,I4,rw',q3⟩
end
end L2
namespace Att
open PySem PySem.W PySem.Calls PyProof.Rows
theorem ints_of_wellAll {P:Params}{h:Heap}:∀(ns:List Int) (vs:List Value),WellAll P h vs (ns.map WData.int)→IntsAre vs ns:=by
 intro ns
 induction ns with
 | nil=>
   intro vs w
   rw[List.map_nil] at w
   cases w
   exact .nil
 | cons n ns ih=>
   intro vs w
   rw[List.map_cons] at w
   cases w with
   | cons a b=>
     cases a
     exact .cons _ _ (ih _ b)
theorem script_of {l:OpenLaw}{n:Nat}(hn:l.most=some n) {P:Params}{h:Heap}{args:List WData}{vals:List Value}
   (hpre:l.row.toRowW.claim.pre args=true) (hwl:WellAll P h vals args) :
   ∃a vs ns,vals=[Value.ref a]∧args=[WData.list (ns.map WData.int)]∧h.get? a=some { cls:=.type "list", data:=.seq vs.toArray }∧IntsAre vs ns∧ns.length≤n:=by
 have hsh:WShape.hasAll [] args [.list .int]=true:=(pre_splitW hpre).1
 have hc:l.pre.holds [] { args:=args }=true:=(pre_splitW hpre).2
 obtain⟨d,r,rfl,h1,h2⟩:=hasAllW_cons hsh
 obtain rfl:=hasAllW_nil h2
 obtain⟨xs,rfl,h3⟩:=hasW_list h1
 obtain⟨ns,rfl⟩:=items_int h3
 have hlen:ns.length≤n:=by
   unfold OpenLaw.pre at hc
   have h4:(WTm.not (.lt (.lit (.int (n:Int))) (.len (.arg 0)))).holds [] { args:=[.list (ns.map .int)] }=true:=by
     have h4:=(holds_andW hc).1
     rw[hn] at h4
     exact h4
   have h5:=condW_of h4 (w_not (w_lt w_lit (w_len_list (w_arg rfl))))
   rw[List.length_map] at h5
   refine Nat.le_of_not_lt fun q=>?_
   have q':(n:Int) < ((ns.length:Nat):Int):=by omega
   first
     | (rw[decide_eq_true q'] at h5;exact absurd h5 (by decide))
     | (simp at h5;omega)
 cases hwl with
 | cons w1 w2=>
   cases w2
   cases w1 with
   | list ho hall=>exact⟨_,_,ns,rfl,rfl,ho,ints_of_wellAll ns _ hall,hlen⟩
theorem post_true (l:OpenLaw) (args:List WData):l.row.toRowW.claim.post args (.bool true) args=true:=
 postW_of (r:=l.row.toRowW) (X:=(true==true))
   (show WShape.has [] (.bool true) .bool=true by first | rfl | decide | simp[WShape.has,WShape.arms,WShape.armsAll])
   (show(WTm.eq .res (.lit (.bool true))).value [] { args:=args,res:=some (.bool true),after:=args }=some (.bool (true==true)) from w_eq_bool (w_res rfl) w_lit) rfl
end Att
namespace L2
open PySem PySem.Spec PyProof.Rows
theorem vals_ints:∀{vs:List Value}{ns:List Int},IntsAre vs ns→Vals (ns.map V.int) vs
 | _,_,.nil=>.nil
 | _,_,.cons n t h=>.cons ⟨t,rfl⟩ (vals_ints h)
def Only (H:Hp):Prop:=∀b,H b=none∨∃o xs,H b=some (.frz o (.lst xs))
theorem law_call {P:Program}{w:World}{K:Frg}{mg mb:Str→Option Value}{CX:CXT}{k:Nat}{fa a:Addr}{fd:FuncData}{x:Str}{sp:Sp}{s₁:Shared}{vs:List Value}{ns:List Int}
   (KX:K.In s₁.heap) (hns:s₁.heap.Ns mainGlobals mg) (hb:s₁.heap.Ns builtinsNs mb) (hbb:∀x:Str,x ≠ "__name__" → mb x=bootBuiltins x) (hlim:s₁.heap.NoLimit) (hg:s₁.gens=#[])
   (ha:s₁.heap.get? a=some { cls:=.type "list", data:=.seq vs.toArray }) (hi:IntsAre vs ns) (hl:ns.length≤sizeLine) (hr:Room k callerA)
   (F:∀base:Heap,K.In base→base.Ns mainGlobals mg→FnOk P w K mg base CX k fa fd [x] sp) (hbind:∀(s:Shared) (u:Value),BindsTo s fd ⟨[u],[]⟩ [(x,u)])
   (hsp:∀H:Hp,Only H→SqL K H a (ns.map V.int)→sp [.ref a] H (fun v _=>v = .bl true) fun _ _ _=>False)
   (hCX:∀H e s',CX [] H s₁ (fun _ _ _=>False) e s'→False) :
   codeAny (model P w) callerA (.call (.ref fa) ⟨[.ref a],[]⟩) (fun r s'=>r = .ok (.ret (.bool true))∧OldK s₁.heap s'.heap∧s'.os=s₁.os∧AllBare s'.gens) s₁:=by
 have rv:=vals_ints hi
 have lenV:=hi.length
 have core:∀H:Hp,Only H→SqL K H a (ns.map V.int)→HOk P w H s₁.heap→(∀b,H b≠none→b=a)→(H a≠none→K.lookup a=none) →
     codeAny (model P w) callerA (.call (.ref fa) ⟨[.ref a],[]⟩) (fun r s'=>r = .ok (.ret (.bool true))∧OldK s₁.heap s'.heap∧s'.os=s₁.os∧AllBare s'.gens) s₁:=by
   intro H hO hS hok hA hK
   have base_of:∀{b:Addr}{o:Obj},s₁.heap.get? b=some o→H b=none→(hidT s₁.heap H).get? b=some o:=fun e n=>hidT_get e n
   have noA:∀{b:Addr}{o:Obj}{es:Array DictEntry}{ep:Nat},s₁.heap.get? b=some o→o.data = .dict es ep→H b=none:=fun {b o es ep} e d=>by
     cases q:H b with
     | none=>rfl
     | some u=>
       have e':b=a:=hA b (by rw[q];simp)
       subst e'
       rw[ha] at e;cases e
       have d':Data.seq vs.toArray _=Data.dict es ep:=d
       cases d'
   have nsK:∀{b:Addr}{m:Str→Option Value},s₁.heap.Ns b m→(hidT s₁.heap H).Ns b m:=fun {b m} ⟨o,es,ep,e,d,r⟩=>⟨o,es,ep,base_of e (noA e d),d,r⟩
   have hKb:K.In (hidT s₁.heap H):=fun b o e=>base_of (KX b o e) (by
     cases q:H b with
     | none=>rfl
     | some u=>
       have e':b=a:=hA b (by rw[q];simp)
       subst e'
       rw[hK (by rw[q];simp)] at e;cases e)
   have hM:Mod K mg (hidT s₁.heap H):=⟨hKb,nsK hns,⟨mb,nsK hb,hbb⟩,let ⟨mc,h1,h2⟩:=hlim;⟨mc,nsK h1,h2⟩⟩
   have e0:Env0 P w K mg (hidT s₁.heap H) callerA [] s₁ H:=⟨rfl,hM,fun b o e=>of_hidT e,Nat.le_of_eq (hidT_size _ _),trivial,fun b hb=>absurd (show b∈([]:List Addr) from hb) (by simp),hok,.of_eq hg⟩
   refine codeAny_mono ((F _ hKb (nsK hns)).run callerA [] s₁ H ⟨[.ref a],[]⟩ [.ref a] [.ref a] _ _ hr e0 (hbind s₁ (.ref a)) (.cons rfl .nil) (hsp H hO hS)) fun r s' h=>?_
   cases r with
   | error e=>exact(hCX H e s' h).elim
   | ok fl=>
     cases fl with
     | next=>exact False.elim h
     | brk=>exact False.elim h
     | cont=>exact False.elim h
     | ret u=>
       obtain⟨v,H',os,bare,un,hok',r',q⟩:=h
       have q':v = .bl true:=q
       subst q'
       obtain rfl:u=Value.bool true:=r'
       refine⟨rfl,OldK.of_keep fun b o e=>?_,os,bare⟩
       cases q:H b with
       | none=>exact un.keep b o e q (by intro z;exact absurd (show b∈([]:List Addr) from z) (by simp)) (by simp)
       | some u=>
         rcases hO b with z | ⟨ob,xs,z⟩
         · rw[q] at z;cases z
         · have z2:=un.frzs b ob _ z
           obtain⟨e1,_⟩:=hok b _ z
           obtain⟨e2,_⟩:=hok' b _ z2
           rw[e] at e1;cases e1
           exact e2
 cases hk:K.lookup a with
 | some o=>
   have e:=KX a o hk
   rw[ha] at e
   cases e
   refine core (fun _=>none) (fun _=>.inl rfl) (.inr ⟨_,vs.toArray,_,hk,rfl,rfl,rfl,by rw[List.size_toArray,lenV];exact hl,by simpa using rv⟩) (fun b u z=>by have z':(none:Option HO)=some u:=z;cases z') (fun b z=>absurd rfl z) fun z=>absurd rfl z
 | none=>
   refine core (fun b=>if b=a then some (.frz { cls:=.type "list", data:=.seq vs.toArray } (.lst (ns.map V.int))) else none) (fun b=>?_) (.inl (.inr ⟨{ cls:=.type "list", data:=.seq vs.toArray },if_pos rfl⟩)) (fun b u z=>?_) (fun b z=>?_) fun _=>hk
   · by_cases hb:b=a
     · exact .inr ⟨_,_,if_pos hb⟩
     · exact .inl (if_neg hb)
   · by_cases hb:b=a
     · have z':=(if_pos hb).symm.trans z
       cases z'
       subst hb
       exact⟨ha,by rw[List.length_map];exact hl,vs,_,rv,ha⟩
     · have z':=(if_neg hb).symm.trans z
       cases z'
   · by_cases hb:b=a
     · exact hb
     · exact absurd (if_neg hb) z
end L2
namespace L2
open PySem PySem.Spec PyProof.Rows
def defArgs (s:Stmt):Arguments:=match s with
 | .FunctionDef _ a _ _ _ _ _ _ _ _=>a
 | _=>{ posonlyargs:=[],args:=[],vararg:=none,kwonlyargs:=[],kw_defaults:=[],kwarg:=none,defaults:=[] }
def defBody (s:Stmt):List Stmt:=match s with
 | .FunctionDef _ _ b _ _ _ _ _ _ _=>b
 | _=>[]
def defScope (s:Stmt):Scope:=match s with
 | .FunctionDef _ _ _ _ _ _ sc _ _ _=>sc
 | _=>{ kind:=.function,names:=[],isGenerator:=false,isCoroutine:=false }
abbrev CX0:CXT:=fun _ _ _ _ _ _=>False
abbrev E0:XK:=fun _ _ _=>False
theorem pass0 {X:Cx}:Passes CX0 X E0:=fun _ _ _ _ _ _ _ h=>h.elim
structure Fun (K:Frg) (x qual:Str) (st:Stmt) (f:Addr) (fd:FuncData):Prop where
 ex:∃(oc:Value) (od:Option Addr) (kV doc pm:Value) (an:Option Addr) (cdv ct:Value) (osl:Array (Option Value)),
   fd=PySem.W.fnOf x qual (defArgs st) (defBody st) (defScope st) .none kV doc pm an cdv ct∧K.lookup f=some ⟨oc,od,.func fd,osl⟩∧PySem.W.codeIn K cdv qual=true
 kp:PySem.W.keepIn K (.ref f)=true
section
variable {P:Program}{w:World}{K:Frg}{mg:Str→Option Value}{base:Heap}
theorem Fun.ok {x qual:Str}{st:Stmt}{f:Addr}{fd:FuncData}{N ps:List Str}{k:Nat}{sp:Sp}(F:Fun K x qual st f fd) (S:FnScope N ps (defScope st)) (len:∀vs H Q E,sp vs H Q E→vs.length=ps.length)
   (hbody:∀(cdv:Value) (A:Around) (outer:List Env) (s:Shared) (H:Hp) (vs:List V) (Q:VK) (E:XK),Room k (A.deeper (envOfC qual (defScope st) s.heap.objs.size f cdv))→sp vs H Q E →
     ∃t,PSs (cxOf CX0 P w K mg base N qual (defScope st) f cdv A outer s H E).nox (defBody st) t∧t { nx:=fun _ H'=>Q .non H',rt:=Q } (start N vs) H):FnOk P w K mg base CX0 (k+1) f fd ps sp:=by
 obtain⟨oc,od,kV,doc,pm,an,cdv,ct,osl,rfl,lk,hcd⟩:=F.ex
 refine fn_of lk hcd S len fun A outer s H vs Q E hr hsp=>?_
 obtain⟨t,h,q⟩:=hbody cdv A outer s H vs Q E hr hsp
 exact⟨t,h.nox,q⟩
theorem Fun.binds {x qual:Str}{st:Stmt}{f:Addr}{fd:FuncData}{ps:List Str}(F:Fun K x qual st f fd)
   (h:∀(kV doc pm:Value) (an:Option Addr) (cdv ct:Value) (us:List Value),us.length=ps.length→bindArgs (PySem.W.fnOf x qual (defArgs st) (defBody st) (defScope st) .none kV doc pm an cdv ct) ⟨us,[]⟩=pure (ps.zip us)):Binds K fd ps []:=by
 obtain⟨oc,od,kV,doc,pm,an,cdv,ct,osl,rfl,lk,hcd⟩:=F.ex
 exact .all (h kV doc pm an cdv ct)
theorem fun_mk {x qual:Str}{st:Stmt}{f:Addr}{oc:Value}{od an:Option Addr}{osl:Array (Option Value)}{kV doc pm cdv ct:Value}(l:K.lookup f=some ⟨oc,od,.func (PySem.W.fnOf x qual (defArgs st) (defBody st) (defScope st) .none kV doc pm an cdv ct),osl⟩)
   (c:PySem.W.codeIn K cdv qual=true) (k:PySem.W.keepIn K (.ref f)=true):Fun K x qual st f (PySem.W.fnOf x qual (defArgs st) (defBody st) (defScope st) .none kV doc pm an cdv ct):=⟨⟨oc,od,kV,doc,pm,an,cdv,ct,osl,rfl,l,c⟩,k⟩
end
section
variable {X:Cx}
theorem pv (i:Nat) {x:Str}{pos:Pos}(hN:X.N[i]?=some x:=by rfl) (hv:Vis X.env.scope x:=by first | exact Or.inl rfl | exact Or.inr (Or.inl rfl) | exact Or.inr (Or.inr rfl)) (hd:(x==("__debug__":Str))=false:=by decide)
   (hcd:(x==("__classdict__":Str))=false:=by decide):PE X (.Name x pos) (tVar i):=pe_var hN hv hd hcd
end
theorem iteF {A B:Prop}(h:B):if false=true then A else B:=by
 rw[if_neg nft]
 exact h
theorem iteT {A B:Prop}(h:A):if true=true then A else B:=by
 rw[if_pos rfl]
 exact h
theorem ite2 {c A B:Prop}[Decidable c] (h1:c→A) (h2:¬c→B):if c then A else B:=by
 by_cases h:c
 · rw[if_pos h]
   exact h1 h
 · rw[if_neg h]
   exact h2 h
end L2
namespace L2
open PySem PySem.Spec PyProof.Rows
def clOf (cells:List (Str×Addr)):List (Str×NameKind)→List (Str×Addr)→List (Str×Addr)
 | [],cs=>cs
 | (n,k)::r,cs=>clOf cells r (if k==.free then (match cells.lookup n with | some c=>(n,c)::cs | none=>cs) else cs)
theorem clos_go (env:Env):∀(names:List (Str×NameKind)) (cs:List (Str×Addr)),(∀y∈names,y.2 = .free→∃c,env.cells.lookup y.1=some c) →
   (forIn (m:=Sem) names cs fun x r=>do
     let (name,kind):=x
     if (kind==.free)=true then do let c ← cellOf env name;pure (ForInStep.yield ((name,c)::r)) else pure (ForInStep.yield r))=pure (clOf env.cells names cs)
 | [],cs,_=>rfl
 | (n,k)::r,cs,h=>by
   have hr:∀y∈r,y.2 = .free→∃c,env.cells.lookup y.1=some c:=fun y hy=>h y (List.mem_cons_of_mem _ hy)
   rw[List.forIn_cons]
   by_cases hk:(k==NameKind.free)=true
   · obtain⟨c,hc⟩:=h (n,k) List.mem_cons_self (by simpa using hk)
     have hc':env.cells.lookup n=some c:=hc
     simp only[hk,if_true,cellOf,hc',clOf]
     exact clos_go env r _ hr
   · simp only[hk,if_false,clOf]
     exact clos_go env r _ hr
theorem clos_of {scope:Scope}{env:Env}(h:∀y∈scope.names,y.2 = .free→∃c,env.cells.lookup y.1=some c):closureFor scope env=pure (clOf env.cells scope.names []):=by
 have e:=clos_go env scope.names [] h
 have e2:closureFor scope env=((forIn (m:=Sem) scope.names ([]:List (Str×Addr)) fun x r=>do
     let (name,kind):=x
     if (kind==.free)=true then do let c ← cellOf env name;pure (ForInStep.yield ((name,c)::r)) else pure (ForInStep.yield r)) >>= fun r=>pure r):=rfl
 rw[e2,e]
 rfl
theorem clOf_sub {cells:List (Str×Addr)}:∀{names:List (Str×NameKind)}{cs:List (Str×Addr)},(∀p∈cs,cells.lookup p.1=some p.2)→∀p∈clOf cells names cs,cells.lookup p.1=some p.2
 | [],_,h=>h
 | (n,k)::r,cs,h=>by
   refine clOf_sub (names:=r) ?_
   split
   · cases e:cells.lookup n with
     | none=>exact h
     | some c=>
       intro p hp
       rcases List.mem_cons.mp hp with rfl | hp
       · exact e
       · exact h p hp
   · exact h
theorem clOf_mono {cells:List (Str×Addr)}:∀{names:List (Str×NameKind)}{cs:List (Str×Addr)}{p:Str×Addr},p∈cs→p∈clOf cells names cs
 | [],_,_,h=>h
 | (n,k)::r,cs,p,h=>by
   refine clOf_mono (names:=r) ?_
   split
   · cases e:cells.lookup n with
     | none=>exact h
     | some c=>exact List.mem_cons_of_mem _ h
   · exact h
theorem clOf_has {cells:List (Str×Addr)}{x:Str}{c:Addr}(hc:cells.lookup x=some c):∀{names:List (Str×NameKind)}{cs:List (Str×Addr)},(x,NameKind.free)∈names→(x,c)∈clOf cells names cs
 | [],_,h=>absurd h (by simp)
 | (n,k)::r,cs,h=>by
   rcases List.mem_cons.mp h with e | h
   · cases e
     refine clOf_mono (names:=r) ?_
     simp[hc]
   · exact clOf_has hc (names:=r) h
theorem mem_lookup {α:Type}:∀{l:List (Str×α)}{x:Str}{c:α},(x,c)∈l→∃c',l.lookup x=some c'
 | [],_,_,h=>absurd h (by simp)
 | (n,k)::r,x,c,h=>by
   rw[List.lookup_cons]
   cases e:x==n with
   | true=>exact⟨k,rfl⟩
   | false=>
     rcases List.mem_cons.mp h with e' | h
     · cases e';simp at e
     · exact mem_lookup h
theorem lookup_clOf {cells:List (Str×Addr)}{names:List (Str×NameKind)}{x:Str}{c:Addr}(h:(clOf cells names []).lookup x=some c):cells.lookup x=some c:=
 clOf_sub (names:=names) (cs:=[]) (by simp) (x,c) (PySem.mem_of_lookup h)
structure CSc (X:Cx) (scope:Scope) (NC:List Str) (fr:List (Option Nat)):Prop where
 kind:scope.kind = .function
 nocell:∀y∈scope.names,y.2≠.cell
 names:∀y∈scope.names,y.2 = .local→scope.names.lookup y.1=some .local
 free:∀y∈scope.names,y.2 = .free→X.env.kindOf y.1=some .cell∨X.env.kindOf y.1=some .free
 len:fr.length=NC.length
 slot:∀(i j:Nat) (x:Str),NC[i]?=some x→fr[i]?=some (some j)→X.N[j]?=some x∧scope.names.lookup x=some .free∧Vis X.env.scope x∧X.env.kindOf x≠some .local
def capt (fr:List (Option Nat)) (σ:St):St:=fr.map fun o=>o.bind fun j=>(σ[j]?).join
def compCx (X:Cx) (scope:Scope) (NC:List Str) (C:Addr) (s:Shared) (H:Hp) (ex:List Addr) (pn:List (Addr×Obj)):Cx where
 prog:=X.prog
 w:=X.w
 K:=X.K
 mg:=X.mg
 base:=X.base
 A:=X.A
 N:=NC
 s₀:=s
 H₀:=H
 env:=compEnvC scope (clOf X.env.cells scope.names []) C X.env
 outer:=X.stack
 stack:=X.stack
 ex:=ex
 fn:=fun _=>false
 calm:=X.calm
 pn:=pn
 xe:=fun _ _=>False
theorem relabel_cases {scope:Scope}{env:Env}{x:Str}:∀{names:List (Str×NameKind)},
   ((names.map fun(n,k)=>if (k==NameKind.free&&env.scope.kind==.function&&env.kindOf n==some .cell) then (n,NameKind.cell) else (n,k)).lookup x=some .cell ∨
    (names.map fun(n,k)=>if (k==NameKind.free&&env.scope.kind==.function&&env.kindOf n==some .cell) then (n,NameKind.cell) else (n,k)).lookup x=some .free) →
   (∀y∈names,y.2≠.cell)→(x,NameKind.free)∈names
 | [],h,_=>by simp at h
 | (n,k)::r,h,hn=>by
   have ih:=@relabel_cases scope env x r
   have hn':∀y∈r,y.2≠.cell:=fun y hy=>hn y (List.mem_cons_of_mem _ hy)
   have hk:=hn (n,k) List.mem_cons_self
   simp only[List.map_cons] at h
   by_cases hc:(k==NameKind.free&&env.scope.kind==.function&&env.kindOf n==some .cell)=true
   · simp only[hc,if_true,List.lookup_cons] at h
     cases hx:x==n with
     | true=>
       have e:x=n:=by simpa using hx
       have e2:k = .free:=by simp at hc;exact hc.1.1
       subst e e2
       exact List.mem_cons_self
     | false=>
       simp only[hx] at h
       exact List.mem_cons_of_mem _ (ih h hn')
   · simp only[hc,List.lookup_cons] at h
     cases hx:x==n with
     | true=>
       have e:x=n:=by simpa using hx
       subst e
       simp[List.lookup_cons] at h
       rcases h with h | h
       · exact absurd h hk
       · subst h;exact List.mem_cons_self
     | false=>
       simp[List.lookup_cons,hx] at h
       exact List.mem_cons_of_mem _ (ih (by simpa using h) hn')
section
variable {X:Cx}{scope:Scope}{NC:List Str}{fr:List (Option Nat)}{pins:List (Addr×Obj)}{σ:St}{H:Hp}{s:Shared}
theorem CSc.has (S:CSc X scope NC fr) (ok:X.Ok):∀y∈scope.names,y.2 = .free→∃c,X.env.cells.lookup y.1=some c:=fun y hy hf=>ok.has y.1 (S.free y hy hf)
theorem CSc.cells (S:CSc X scope NC fr) (ok:X.Ok) {x:Str}(h:(x,NameKind.free)∈scope.names):∃c,(clOf X.env.cells scope.names []).lookup x=some c∧X.env.cells.lookup x=some c:=by
 obtain⟨c,hc⟩:=S.has ok _ h rfl
 have hc':X.env.cells.lookup x=some c:=hc
 obtain⟨c',h'⟩:=mem_lookup (clOf_has hc' h (cs:=[]))
 have:=lookup_clOf h'
 rw[hc'] at this;cases this
 exact⟨_,h',hc'⟩
theorem relabel_free {env:Env}{x:Str}{scope:Scope}(hn:∀y∈scope.names,y.2 = .local→scope.names.lookup y.1=some .local) (h:(x,NameKind.free)∈scope.names) (hl:scope.names.lookup x≠some .free→False):(relabel scope env).names.lookup x=some .cell∨(relabel scope env).names.lookup x=some .free:=by
 have hf:scope.names.lookup x=some .free:=by
   cases e:scope.names.lookup x with
   | none=>exact(hl (by rw[e];intro z;cases z)).elim
   | some k=>
     cases k <;> first
       | rfl
       | exact(hl (by rw[e];intro z;cases z)).elim
 have go:∀(names:List (Str×NameKind)),names.lookup x=some .free →
   ((names.map fun(n,k)=>if (k==NameKind.free&&env.scope.kind==.function&&env.kindOf n==some .cell) then (n,NameKind.cell) else (n,k)).lookup x=some .cell ∨
    (names.map fun(n,k)=>if (k==NameKind.free&&env.scope.kind==.function&&env.kindOf n==some .cell) then (n,NameKind.cell) else (n,k)).lookup x=some .free):=by
   intro names
   induction names with
   | nil=>intro h;simp at h
   | cons y r ih=>
     obtain⟨n,k⟩:=y
     intro h
     rw[List.lookup_cons] at h
     simp only[List.map_cons]
     cases hx:x==n with
     | true=>
       simp only[hx] at h
       cases h
       split
       · left;simp[List.lookup_cons,hx]
       · right;simp[List.lookup_cons,hx]
     | false=>
       simp only[hx] at h
       have:=ih h
       split
       · simpa [List.lookup_cons,hx] using this
       · simpa [List.lookup_cons,hx] using this
 exact go scope.names hf
end
end L2
namespace L2
open PySem PySem.Spec PyProof.Rows
theorem wpAny_noex {α:Type}{t:Sem α}{Q:α→Shared→Prop}{M:Model}{A:Around}{E:Value→Shared→Prop}{s:Shared}(h:wpAny M A t Q (fun _ _=>False) s):wpAny M A t Q E s:=
 wpAny_mono h (fun _ _ q=>q) fun _ _ f=>f.elim
def compTestsT (ifs:List Expr) (env:Env):Sem Bool:=forIn ifs true fun c r=>if r=true then do let ok ← isTrue c env (eval c env);pure (ForInStep.yield ok) else pure (ForInStep.yield r)
theorem codeAny_compLoop_go {prog:Program}{w:World}{A:Around}{R:Result→Shared→Prop}{s:Shared}{elt target iter:Expr}{ifs:List Expr}{scope:Scope}{pos:Pos}{it acc:Value}{env:Env}(I:Nat→Shared→Prop)
   (turn:∀n s,I n s→wpAny (model prog w) A (pyNext it) (fun r s₁=>match r with
     | none=>R (.ok .next) s₁
     | some v=>wpAny (model prog w) A (letOwnedTupleGo target it v) (fun _ s₀=>wpAny (model prog w) A (assign target env v) (fun _ s₂=>
         wpAny (model prog w) A (compTestsT ifs env) (fun ok s₃=>
           if ok=true then wpAny (model prog w) A (eval elt env) (fun x s₄=>
             wpAny (model prog w) A (call (.builtin "list.append") [acc,x]) (fun _ s₅=>∃m,m < n∧I m s₅) (fun _ _=>False) s₄) (fun _ _=>False) s₃
           else ∃m,m < n∧I m s₃) (fun _ _=>False) s₂) (fun _ _=>False) s₀) (fun _ _=>False) s₁) (fun _ _=>False) s)
   (n:Nat) (h:I n s) :
   codeAny (model prog w) A (.compLoop (.ListComp elt [⟨target,iter,ifs,0⟩] scope pos) 0 it acc env) R s:=by
 refine codeAny_loop rfl I (fun n s hI=>?_) n h
 show wpAny _ A ((compTurn (.ListComp elt [⟨target,iter,ifs,0⟩] scope pos) 0 it acc env).onRaise (fun x=>do noteFrame x env;theTreesLotGoes x)) _ _ s
 refine wpAny_noted ?_
 rw[compTurn_list]
 refine wpAny_bind (wpAny_standAt (wpAny_bind (wpAny_mono (wpAny_noex (turn n s hI)) (fun r s₁ h₁=>?_) fun _ _ h'=>h')))
 cases r with
 | none=>exact wpAny_pure h₁
 | some v=>
   refine wpAny_bind (wpAny_mono (wpAny_noex h₁) (fun _ s₀ h₀=>?_) fun _ _ h'=>h')
   refine wpAny_bind (wpAny_mono (wpAny_noex h₀) (fun _ s₂ h₂=>wpAny_bind (wpAny_mono (wpAny_noex h₂) (fun ok s₃ h₃=>?_) fun _ _ h'=>h')) fun _ _ h'=>h')
   cases ok with
   | false=>exact wpAny_pure ⟨rfl,h₃⟩
   | true=>
     exact wpAny_bind (wpAny_bind (wpAny_mono (wpAny_noex h₃) (fun x s₄ h₄=>wpAny_bind (wpAny_mono (wpAny_noex h₄) (fun _ s₅ h₅=>wpAny_pure (wpAny_pure ⟨rfl,h₅⟩)) fun _ _ h'=>h')) fun _ _ h'=>h'))
def PTs (X:Cx) (ifs:List Expr) (t:TT):Prop:=
 ∀(pins:List (Addr×Obj)) (s:Shared) (σ:St) (H:Hp) (Q:Bool→Hp→Prop),Inv X pins σ H s→t σ H Q→wpAny (model X.prog X.w) X.A (compTestsT ifs X.env) (TP X pins σ Q) X.xe s
def tYes:TT:=fun _ H Q=>Q true H
theorem pts_nil {X:Cx}:PTs X [] tYes:=fun _ _ _ H _ I h=>wpAny_tests_nil ⟨H,I,h⟩
theorem pts_one {X:Cx}{c:Expr}{t:TT}(h:PT X c t):PTs X [c] t:=fun pins s σ H Q I q=>wpAny_tests_one (h pins s σ H Q I q)
def tComp (fr:List (Option Nat)) (wi:TI) (g:TG) (tt:TT) (te:TE):TE:=fun σ H Q=>wi σ H fun J H1=>∀D,H1 D=none→∃W:Nat→Nat→List V→Hp→Prop,(∃m,W 0 m [] (upd H1 D (.lst []))) ∧
 ∀i m ys H2,W i m ys H2→H2 D=some (.lst ys)∧((J.stop i H2∧Q (.ref D) H2)∨(J.go i H2∧∀x H3,J.yld i H2 x H3→g x (capt fr σ) H3 fun σ2 H4=>
   (∀(i:Nat) v,(capt fr σ)[i]?=some (some v)→σ2[i]?=some (some v))∧tt σ2 H4 fun c H5=>if c=true then te σ2 H5 fun y H6=>∃ys',H6 D=some (.lst ys')∧ys'.length < sizeLine∧∃m',m' < m∧W (i+1) m' (ys'++[y]) (upd H6 D (.lst (ys'++[y])))
     else ∃ys' m',m' < m∧W (i+1) m' ys' H5))
section
variable {X:Cx}{scope:Scope}{NC:List Str}{fr:List (Option Nat)}{pins:List (Addr×Obj)}{σ:St}{H:Hp}{s:Shared}
theorem comp_start {fp:List Addr}{h1:Heap}{m:Str→Option Value}{tk:Nat}(S:CSc X scope NC fr) (I:Inv X pins σ H s) (hfp:∀b∈fp,FpOk X pins H b) (hlt:∀b∈fp,b < s.heap.objs.size)
   (hns:h1.Ns s.heap.objs.size m) (hk:∀b o,s.heap.get? b=some o→h1.get? b=some o) :
   Inv (compCx X scope NC s.heap.objs.size s H fp (X.pn++pins)) [] (capt fr σ) H { s with heap:=h1,toks:=tk }:=by
 have I4:Inv X pins σ H { s with heap:=h1,toks:=tk }:=I.kept hk
 have nstk:∀b,b≠X.env.locals→b∉X.fs→b∉frs X.stack:=fun b h1 h2 z=>(List.mem_cons.mp (I.stkSub b z)).elim h1 h2
 refine⟨⟨I.ok.mod,S.kind,I.ok.glob,I.ok.blt,Nat.le_refl _,fun x y c h1 h2=>I.ok.inj x y c (lookup_clOf h1) (lookup_clOf h2),fun x hx=>?_,fun x c h=>absurd h (by intro z;cases z),I.ok.hd,I.ok.frames,.inl rfl,fun b hb=>?_,I.bs,Nat.le_trans I.ok.bsz I.sz,fun b o e hb=>?_,fun b hb=>?_,I.stack,I.stkFree⟩,
   rfl,I.bare,Un.kept hk,⟨m,hns,fun i x v e1 e2 e3=>?_⟩,fun x c e=>I4.cell x c (lookup_clOf e),I.hok.fresh (Nat.le_refl _),fun x c e=>I4.freeC x c (lookup_clOf e),fun p hp=>?_,I4.hok,?_⟩
 · have hx':=relabel_cases (scope:=scope) (env:=X.env) (x:=x) (names:=scope.names) hx S.nocell
   obtain⟨c,h,_⟩:=S.cells I.ok hx'
   exact⟨c,h⟩
 · exact⟨Nat.ne_of_lt (hlt b hb),fun x c e=>(hfp b hb).2.2.2.2.1 x c (lookup_clOf e)⟩
 · rcases (hfp b hb).2.2.2.1 with z | z
   · exact I.ok.noex b o e z
   · exact absurd (Nat.lt_of_lt_of_le (Heap.lt_size e) (Nat.le_trans I.ok.bsz z)) (Nat.lt_irrefl _)
 · exact nstk b (hfp b hb).2.1 (hfp b hb).2.2.1
 · have e2':∃j,fr[i]?=some (some j)∧σ[j]?=some (some v):=by
     unfold capt at e2
     rw[List.getElem?_map] at e2
     cases hf:fr[i]? with
     | none=>rw[hf] at e2;cases e2
     | some o=>
       rw[hf] at e2
       cases o with
       | none=>cases e2
       | some j=>
         refine⟨j,rfl,?_⟩
         have e2:((σ[j]?).join)=some v:=Option.some.inj e2
         cases hs:σ[j]? with
         | none=>rw[hs] at e2;cases e2
         | some q=>rw[hs] at e2;cases q with
           | none=>cases e2
           | some v'=>cases e2;rfl
   obtain⟨j,f1,f2⟩:=e2'
   obtain⟨g1,g2,g3,g4⟩:=S.slot i j x e1 f1
   obtain⟨m',hn',hl'⟩:=I4.loc
   obtain⟨u,r,l⟩:=hl' j x v g1 f2 g3
   rcases l with ⟨k,_⟩ | ⟨k,c,hc,hcell⟩
   · exact absurd k g4
   · obtain⟨c',q1,q2⟩:=S.cells I.ok (PySem.mem_of_lookup g2)
     rw[hc] at q2;cases q2
     exact⟨u,r,.inr ⟨relabel_free S.names (PySem.mem_of_lookup g2) (fun z=>z g2),c,q1,hcell⟩⟩
 · have hp':p∈X.pn++pins:=by rw[List.append_nil] at hp;exact hp
   obtain⟨p1,p2,p3,p4,p5⟩:=I4.pin p hp'
   exact⟨p1,p2,Nat.ne_of_lt (Heap.lt_size (I.pin p hp').1),nstk _ p3 p4,p5⟩
 · unfold capt
   rw[List.length_map]
   exact S.len
theorem comp_run {elt iter tg:Expr}{ifs:List Expr}{pos cpos:Pos}{wi:TI}{g:TG}{tt:TT}{te:TE}{use:Option (Value→Sem Unit)}{Q:VK}{QQ:Value→Shared→Prop}
   (hc:X.calm=true) (S:CSc X scope NC fr) (hi:PI X tg iter wi)
   (hb:∀(C:Addr) (s:Shared) (H:Hp) (ex:List Addr) (pn:List (Addr×Obj)),PG (compCx X scope NC C s H ex pn) tg g∧PTs (compCx X scope NC C s H ex pn) ifs tt∧PE (compCx X scope NC C s H ex pn) elt te)
   (I:Inv X pins σ H s) (h:tComp fr wi g tt te σ H Q)
   (fin:∀(D C:Addr) (H':Hp) (s':Shared) (m:Str→Option Value) (oC:Obj),Inv X (pins++[(C,oC)]) σ H' s'→s'.heap.Ns C m→Q (.ref D) H' →
     (∀(pins':List (Addr×Obj)) (σ2:St) (H2:Hp) (s2:Shared) (h2:Heap),Inv X (pins++[(C,oC)]) σ2 H2 s2→Heap.SameBut C s2.heap h2→Inv X pins σ2 H2 { s2 with heap:=h2 }) →
     s'.heap.get? C=some oC →
     match use with
     | none=>∀h',Heap.SameBut C s'.heap h'→QQ (.ref D) { s' with heap:=h' }
     | some u=>wpAny (model X.prog X.w) X.A (u (.ref D)) (fun _ s''=>∃m,s''.heap.Ns C m∧∀h',Heap.SameBut C s''.heap h'→QQ .none { s'' with heap:=h' }) X.xe s')
   (hs:∀x,foldedSetIterable iter X.env x=pure x) :
   wpAny (model X.prog X.w) X.A (comprehension (.ListComp elt [⟨tg,iter,ifs,0⟩] scope pos) scope X.env cpos (newList []) false (eval iter X.env) use) QQ X.xe s:=by
 refine wpAny_comprehension_free (use:=use) rfl hs (clos_of (S.has I.ok)) S.kind S.names (thn (hi pins s σ H _ I h) fun v s1 h1=>thn h1 fun itv s2 h2=>?_)
 obtain⟨it,fp,tn,J,H2,e,I2,T,st2,f2,hq⟩:=h2
 subst e
 have hDn:H2 s2.heap.objs.size=none:=I2.hok.fresh (Nat.le_refl _)
 obtain⟨W,⟨m0,w0⟩,turn⟩:=hq s2.heap.objs.size hDn
 refine wpAny_newObj_type (wpAny_newFunctionEnv S.nocell (by intro y hy;simp at hy) (fun h₁ hns₁ hsb₁=>?_) S.kind)
 dsimp only at hns₁ hsb₁ ⊢
 generalize hs3:({ s2 with heap:=s2.heap.push { cls:=.type "list", dict:=none,data:=.seq ([]:List Value).toArray } }:Shared)=s3
 have hh3:s2.heap.push { cls:=.type "list", dict:=none,data:=.seq ([]:List Value).toArray }=s3.heap:=by rw[← hs3]
 have I3:Inv X pins σ (upd H2 s2.heap.objs.size (.lst [])) s3:=by
   rw[← hs3]
   refine I2.laid (t':=s2.toks) (fun b u e=>Heap.get?_push_of_some _ e) (Nat.le_refl _) ?_
   exact⟨Nat.zero_le _,[],0,.nil,Heap.get?_push_size _ rfl⟩
 rw[hh3] at hns₁ hsb₁ ⊢
 have sz3:s3.heap.objs.size=s2.heap.objs.size+1:=by rw[← hh3,Heap.size_push]
 have lt2:∀b∈fp,b < s2.heap.objs.size:=fun b hb=>by
   obtain⟨o,e,_⟩:=T.obj _ _ st2 b hb
   exact Heap.lt_size e
 have lt3:∀b∈fp,b < s3.heap.objs.size:=fun b hb=>by rw[sz3];exact Nat.lt_succ_of_lt (lt2 b hb)
 have f3:∀b∈fp,FpOk X pins (upd H2 s2.heap.objs.size (.lst [])) b:=fun b hb=>⟨by rw[upd_ne (Nat.ne_of_lt (lt2 b hb))];exact(f2 b hb).1,(f2 b hb).2⟩
 have keep1:∀b o,s3.heap.get? b=some o→h₁.get? b=some o:=fun b o e=>hsb₁.extBut b o (Nat.ne_of_lt (Heap.lt_size e)) (Heap.get?_push_of_some _ e)
 generalize hC:s3.heap.objs.size=C at hns₁ hsb₁ ⊢
 have I0:Inv (compCx X scope NC C s3 (upd H2 s2.heap.objs.size (.lst [])) fp (X.pn++pins)) [] (capt fr σ) (upd H2 s2.heap.objs.size (.lst [])) { s2 with heap:=h₁,toks:=s2.toks+([]:List (Str×Value)).length }:=by
   have:=comp_start (tk:=s2.toks+([]:List (Str×Value)).length) (h1:=h₁) S I3 f3 lt3 (hC▸hns₁) keep1
   rw[hC] at this
   rw[← hs3] at this
   rw[← hs3]
   exact this
 obtain⟨hbg,hbt,hbe⟩:=hb C s3 (upd H2 s2.heap.objs.size (.lst [])) fp (X.pn++pins)
 generalize hX':compCx X scope NC C s3 (upd H2 s2.heap.objs.size (.lst [])) fp (X.pn++pins)=X' at I0 hbg hbt hbe
 have eP:X'.prog=X.prog:=by rw[← hX'];rfl
 have eW:X'.w=X.w:=by rw[← hX'];rfl
 have eK:X'.K=X.K:=by rw[← hX'];rfl
 have eA:X'.A=X.A:=by rw[← hX'];rfl
 have eE:X'.env=compEnvC scope (clOf X.env.cells scope.names []) C X.env:=by rw[← hX'];rfl
 have eX:X'.xe=fun _ _=>False:=by rw[← hX'];rfl
 have ec:X'.calm=true:=by rw[← hX'];exact hc
 have stat:∀{H':Hp},(∀b∈fp,H' b=none)→∀b∈fp,FpOk X' [] H' b:=fun {H'} hn b hb=>by
   obtain⟨q1,q2,q3,q4,q5,q6⟩:=f3 b hb
   rw[← hX']
   exact⟨hn b hb,by show b≠C;rw[← hC];exact Nat.ne_of_lt (lt3 b hb),fun z=>(List.mem_cons.mp (I3.stkSub b z)).elim q2 q3,.inl hb,fun x c e=>q5 x c (lookup_clOf e),fun p hp=>q6 p (by rw[List.append_nil] at hp;exact hp)⟩
 have ends:∀(i m:Nat) (ys:List V) (H':Hp) (s':Shared),Inv X' [] (capt fr σ) H' s'→Q (.ref s2.heap.objs.size) H' →
     compPost (model X.prog X.w) X.A X.xe use QQ (.ref s2.heap.objs.size) C (.ok .next) s':=by
   intro i m ys H' s' I' q'
   have eC:X'.env.locals=C:=by rw[eE];rfl
   obtain⟨mC,hnC,_⟩:=I'.loc
   rw[eC] at hnC
   have hCn:H' C=none:=by have:=I'.free;rw[eC] at this;exact this
   have un:Un (frs X.stack) fp (upd H2 s2.heap.objs.size (.lst [])) H' s3.heap s'.heap:=by
     have:=I'.base
     rw[← hX'] at this
     exact this
   have os':s'.os=s3.os:=by have:=I'.os;rw[← hX'] at this;exact this
   have hok':HOk X.prog X.w H' s'.heap:=by have:=I'.hok;rw[eP,eW] at this;exact this
   have Iout:Inv X pins σ H' s':=I3.call' (ch:=fp) os' un hok' I'.bare fun b hb=>⟨(f3 b hb).2.2.2.1,(f3 b hb).2.1,(f3 b hb).2.2.2.2.1,(f3 b hb).2.2.2.2.2⟩
   have C1:C≠X.env.locals:=by rw[← hC];exact Nat.ne_of_gt I3.lt
   have C2:C∉X.fs:=by rw[← hC];exact I3.nofs (Nat.le_refl _)
   have C3:X.s₀.heap.objs.size≤C:=by rw[← hC];exact I3.sz
   have C4:∀x c,X.env.cells.lookup x=some c→c≠C:=fun x c e z=>by
     obtain⟨v,q⟩:=I3.cell x c e
     rw[z,← hC] at q
     exact absurd q.lt (Nat.lt_irrefl _)
   have C5:∀p∈X.pn++pins,p.1≠C:=fun p hp z=>by
     have:=Heap.lt_size (I3.pin p hp).1
     rw[z,← hC] at this
     exact absurd this (Nat.lt_irrefl _)
   obtain⟨oC,esC,epC,hoC,hdC,hrC⟩:=id hnC
   have Ipin:Inv X (pins++[(C,oC)]) σ H' s':=Iout.pins_of fun p hp=>(List.mem_append.mp hp).elim (fun z=>Iout.pin p (List.mem_append_right _ z)) fun z=>by
     have e:p=(C,oC):=by simpa using z
     subst e
     exact⟨hoC,hCn,C1,C2,fun v z=>by rw[hdC] at z;cases z⟩
   have res:=fin s2.heap.objs.size C H' s' mC oC Ipin hnC q' (fun _ σ2 H3 s4 h4 I4 sb=>by
     have J4:Inv X pins σ2 H3 s4:=I4.unpinned
     have hn4:H3 C=none:=(I4.pin (C,oC) (List.mem_append_right _ (List.mem_append_right _ (by simp)))).2.1
     exact J4.turned (t':=s4.toks) (it:=C) (fun b o hb e=>sb.extBut b o hb e) hn4 C1 (.inr C3) C4 C5) hoC
   cases use with
   | none=>exact⟨mC,hnC,res⟩
   | some u=>exact res
 have loop:∀s':Shared,s'={ s2 with heap:=h₁,toks:=s2.toks+([]:List (Str×Value)).length } →
     codeAny (model X.prog X.w) X.A (.compLoop (.ListComp elt [⟨tg,iter,ifs,0⟩] scope pos) 0 (.ref it) (.ref s2.heap.objs.size) (compEnvC scope (clOf X.env.cells scope.names []) C X.env))
       (compPost (model X.prog X.w) X.A X.xe use QQ (.ref s2.heap.objs.size) C) s':=by
   rintro s' rfl
   refine codeAny_compLoop_go (fun n s'=>∃i ys H',Inv X' [] (capt fr σ) H' s'∧tn i s'.heap∧(∀b∈fp,H' b=none)∧W i n ys H') ?_ m0
     ⟨0,[],_,I0,T.keep _ _ _ st2 (fun b hb o e=>keep1 b o (by rw[← hh3];exact Heap.get?_push_of_some _ e)),fun b hb=>(f3 b hb).1,w0⟩
   rintro n s5 ⟨i,ys,H5,I5,st5,fr5,w5⟩
   obtain⟨hD5,hturn⟩:=turn i n ys H5 w5
   rcases hturn with ⟨stop,qn⟩ | ⟨go,step⟩
   · have:=T.done X' eP eW eK ec i [] s5 (capt fr σ) H5 (fun _ _=>False) I5 (stat fr5) st5 stop
     rw[eA] at this
     refine thn this fun r s6 ⟨hr,I6⟩=>?_
     subst hr
     exact ends i n ys H5 s6 I6 qn
   · have:=T.item X' eP eW eK ec i [] s5 (capt fr σ) H5 (fun _ _=>False) I5 (stat fr5) st5 go
     rw[eA] at this
     refine thn this fun r s6 ⟨u,hr,h6⟩=>?_
     subst hr
     refine thn h6 fun _ s7 ⟨x,H7,I7,r7,y7,st7,fr7⟩=>?_
     have I7':=I7.pinned (stat fr7) (T.obj _ _ st7)
     have hg1:=hbg _ s7 (capt fr σ) H7 x u _ I7' r7 (step x H7 y7)
     rw[eP,eW,eA,eE,eX] at hg1
     refine thn hg1 fun _ s8 ⟨σ8,H8,I8,ext8,q8⟩=>?_
     have ht1:=hbt _ s8 σ8 H8 _ I8 q8
     rw[eP,eW,eA,eE,eX] at ht1
     refine thn ht1 fun ok s9 ⟨H9,I9,q9⟩=>?_
     have weak:∀{H':Hp}{s':Shared},Inv X' ([]++pinsAt fp s7.heap) σ8 H' s'→Inv X' [] (capt fr σ) H' s'∧tn (i+1) s'.heap∧∀b∈fp,H' b=none:=fun {H' s'} I'=>by
       refine⟨I'.unpinned.weak (by rw[I'.len];rw[I0.len]) ext8,T.keep _ _ _ st7 fun b hb o e=>(I'.pin (b,o) (List.mem_append_right _ (List.mem_append_right _ (mem_pinsAt hb e)))).1,fun b hb=>?_⟩
       obtain⟨o,e,d⟩:=T.obj _ _ st7 b hb
       exact(I'.pin (b,o) (List.mem_append_right _ (List.mem_append_right _ (mem_pinsAt hb e)))).2.1
     cases ok with
     | false=>
       rw[if_neg nft] at q9
       obtain⟨ys',m',hm',w'⟩:=q9
       obtain⟨a1,a2,a3⟩:=weak I9
       exact⟨m',hm',i+1,ys',H9,a1,a2,a3,w'⟩
     | true=>
       rw[if_pos rfl] at q9
       have he1:=hbe _ s9 σ8 H9 _ I9 q9
       rw[eP,eW,eA,eE,eX] at he1
       refine thn he1 fun y s10 ⟨yv,H10,I10,r10,ys',hD10,hsz,m',hm',w'⟩=>?_
       have ha:=mt_append (X:=X') _ s10 σ8 H10 (.ref s2.heap.objs.size) [yv] (.ref s2.heap.objs.size) [y] (fun _ H'=>∃m',m' < n∧W (i+1) m' (ys'++[yv]) H') I10 rfl (.cons r10 .nil) ⟨_,ys',yv,rfl,rfl,hD10,hsz,m',hm',w'⟩
       rw[eP,eW,eA,eX] at ha
       refine thn ha fun _ s11 ⟨_,H11,I11,_,m'',hm'',w''⟩=>?_
       obtain⟨a1,a2,a3⟩:=weak I11
       exact⟨m'',hm'',i+1,_,H11,a1,a2,a3,w''⟩
 refine codeAny_compStart_list (loop _ rfl) (T.self _ 0 _ _ _ ?_ (loop _ rfl))
 exact T.keep _ _ _ st2 (fun b hb o e=>keep1 b o (by rw[← hh3];exact Heap.get?_push_of_some _ e))
end
end L2
namespace L2
open PySem PySem.Spec PyProof.Rows
section
variable {X:Cx}{scope:Scope}{NC:List Str}{fr:List (Option Nat)}{elt iter tg:Expr}{ifs:List Expr}{pos:Pos}{wi:TI}{g:TG}{tt:TT}{te:TE}
theorem pe_comp (hc:X.calm=true) (S:CSc X scope NC fr) (hi:PI X tg iter wi)
   (hb:∀(C:Addr) (s:Shared) (H:Hp) (ex:List Addr) (pn:List (Addr×Obj)),PG (compCx X scope NC C s H ex pn) tg g∧PTs (compCx X scope NC C s H ex pn) ifs tt∧PE (compCx X scope NC C s H ex pn) elt te)
   (hs:∀x,foldedSetIterable iter X.env x=pure x:=by intro _;rfl):PE X (.ListComp elt [⟨tg,iter,ifs,0⟩] scope pos) (tComp fr wi g tt te):=by
 intro pins s σ H Q I h
 rw[eval_ListComp]
 refine comp_run (use:=none) (Q:=Q) hc S hi hb I h (fun D C H' s' m oC I' hn q back _ h' sb=>?_) hs
 exact⟨.ref D,H',back pins σ H' s' h' I' sb,rfl,q⟩
theorem ps_setc {i:Nat}{x:Str}{py spos:Pos}(hc:X.calm=true) (hN:X.N.Nodup) (hix:X.N[i]?=some x) (hx:Loc X.env.scope x) (S:CSc X scope NC fr) (hi:PI X tg iter wi)
   (hb:∀(C:Addr) (s:Shared) (H:Hp) (ex:List Addr) (pn:List (Addr×Obj)),PG (compCx X scope NC C s H ex pn) tg g∧PTs (compCx X scope NC C s H ex pn) ifs tt∧PE (compCx X scope NC C s H ex pn) elt te)
   (hsw:swapsWith (.ListComp elt [⟨tg,iter,ifs,0⟩] scope pos) (some (.Name x py)) spos.line X.env=pure true)
   (hf:X.fn x=true∨X.env.scope.names.lookup x=some .local:=by first | exact .inl rfl | exact .inr rfl | assumption)
   (hs:∀x,foldedSetIterable iter X.env x=pure x:=by intro _;rfl) :
   PS X (.Assign [.Name x py] (.ListComp elt [⟨tg,iter,ifs,0⟩] scope pos) spos) (fun D σ H=>tComp fr wi g tt te σ H fun v H'=>D.nx (σ.set i (some v)) H'):=by
 intro pins s σ H D I h
 rw[exec_Assign_Name_used _ _ _ _ hsw]
 refine wpAny_bind (wpAny_standAt (wpAny_bind ?_))
 show wpAny _ X.A (do let _ ← comprehension (.ListComp elt [⟨tg,iter,ifs,0⟩] scope pos) scope X.env _ (newList []) false (eval iter X.env) (some (assign (.Name x py) X.env))) _ _ s
 refine wpAny_bind (thn (comp_run (use:=some (assign (.Name x py) X.env)) (Q:=fun v H'=>D.nx (σ.set i (some v)) H') (QQ:=fun _ s'=>∃σ' H',Inv X pins σ' H' s'∧D.nx σ' H') hc S hi hb I h (fun A C H' s' m oC I' hn q back hoC=>?_) hs) fun _ s' hq=>wpAny_pure (wpAny_pure hq))
 have hst:=pg_name (X:=X) (pos:=py) hN hix hx hf (pins++[(C,oC)]) s' σ H' (.ref A) (.ref A) (fun σ' H'=>D.nx σ' H') I' rfl q
 refine thn hst fun _ s2 ⟨σ2,H2,I2,q2⟩=>?_
 have hC2:s2.heap.get? C=some oC:=(I2.pin (C,oC) (List.mem_append_right _ (List.mem_append_right _ (by simp)))).1
 obtain⟨o',es,ep,ho',hd',hr'⟩:=hn
 rw[hoC] at ho';cases ho'
 exact⟨m,⟨_,es,ep,hC2,hd',hr'⟩,fun h' sb=>⟨σ2,H2,back pins σ2 H2 s2 h' I2 sb,q2⟩⟩
end
def Its (x:Str):It:=⟨fun i _=>i < x.cps.size,fun i H v H'=>H'=H∧∃c,x.cps[i]?=some c∧v = .str ⟨#[c]⟩,fun i _=>i=x.cps.size⟩
theorem turn_str {P:Program}{w:World}{K:Frg}{tg:Expr}(it:Addr) (ty:String) (x:Str) (t:Tok) (hty:["enumerate", "zip", "dict_itemiterator", "dict_reverseitemiterator", "odict_iterator", "itertools.zip_longest", "itertools.pairwise"].contains ty=false)
   (W:∀A:Around,A.handled=none→Walks P w A it [it] [it] x.cps.size (SignAt x) (fun i h=>h.IsStrIter it ty x t i))
   (hself:∀(A:Around) (i:Nat) (s:Shared) (Q:Value→Shared→Prop) (E:Value→Shared→Prop),s.heap.IsStrIter it ty x t i→Q (.ref it) s→wpAny (model P w) A (pyIter (.ref it)) Q E s) :
   Turn P w K tg (Its x) [it] it (fun i h=>h.IsStrIter it ty x t i) where
 mem:=by simp
 obj:=fun i h st b hb=>by
   have e:b=it:=by simpa using hb
   subst e
   obtain⟨o,e,c,d⟩:=st
   exact⟨o,e,fun v z=>by rw[d] at z;cases z⟩
 keep:=fun i h h' st k=>by
   obtain⟨o,e,r⟩:=st
   exact⟨o,k it (by simp) o e,r⟩
 item:=by
   intro X hP hw hK hc i pins s σ H E I hf st hg
   subst hP hw hK
   obtain⟨f0,f1,f2,f3,f4,f5⟩:=hf it (by simp)
   refine(W X.A (I.ok.hd hc)).item i s _ _ hg st fun v h' tk hv st' kk=>?_
   obtain⟨c,u,hcx,rfl⟩:=hv
   have I1:Inv X pins σ H { s with heap:=h',toks:=tk }:=I.turned (fun b o hb e=>kk b o (by simpa using hb) e) f0 f1 f3 f4 f5
   obtain⟨o,e,c',d⟩:=id st'
   exact⟨_,rfl,go_of (s:={ s with heap:=h',toks:=tk }) e c' d hty ⟨.str ⟨#[c]⟩,H,I1,⟨u,rfl⟩,⟨rfl,c,hcx,rfl⟩,st',fun b hb=>(hf b hb).1⟩⟩
 done:=by
   intro X hP hw hK hc i pins s σ H E I hf st hg
   subst hP hw hK
   obtain⟨f0,f1,f2,f3,f4,f5⟩:=hf it (by simp)
   have hi:i=x.cps.size:=hg
   subst hi
   refine(W X.A (I.ok.hd hc)).done s _ _ st fun h' tk kk=>⟨rfl,I.turned (fun b o hb e=>kk b o (by simpa using hb) e) f0 f1 f3 f4 f5⟩
 self:=hself
theorem range_all_bl (bs:List Bool):(List.range bs.length).all (fun i=>(bs[i]?).getD false)=bs.all id:=by
 rw[Bool.eq_iff_iff,List.all_eq_true,List.all_eq_true]
 constructor
 · intro h b hb
   obtain⟨i,hi,rfl⟩:=List.mem_iff_getElem.mp hb
   have:=h i (by simpa using hi)
   simpa [hi] using this
 · intro h i hi
   have hi:i < bs.length:=by simpa using hi
   have:=h bs[i] (List.getElem_mem hi)
   simpa [hi] using this
section
variable {X:Cx}
theorem bls_get {bs:List Bool}{its:List Value}(r:Vals (bs.map V.bl) its) {i:Nat}{v:Value}(h:its.toArray[i]?=some v):v = .bool ((bs[i]?).getD false):=by
 have h':its[i]?=some v:=by simpa using h
 have hl:i < its.length:=(List.getElem?_eq_some_iff.mp h').1
 have e:=r.length
 rw[List.length_map] at e
 have hb:(bs.map V.bl)[i]?=some (V.bl bs[i]):=by rw[List.getElem?_map];simp[show i < bs.length by omega]
 obtain⟨u,hu,ru⟩:=r.get hb
 rw[h'] at hu;cases hu
 simp[show i < bs.length by omega]
 exact ru
def rAll (X:Cx):List V→Hp→VK→Prop:=fun xs H Q=>∃(p:Addr) (bs:List Bool),xs=[.ref p]∧SqL X.K H p (bs.map V.bl)∧Q (.bl (bs.all id)) H
theorem call_all (hc:X.calm=true):CallR X (.builtin "all") (rAll X):=by
 intro pins s σ H xs us Q I r h
 obtain⟨p,bs,rfl,hp,q⟩:=h
 obtain⟨u,rfl,ru⟩:=vals1 r
 cases ru
 obtain⟨its,rv,pl,hz⟩:=I.list hp
 have hne:p≠s.heap.objs.size:=by obtain⟨o,n,e,_⟩:=pl;exact Nat.ne_of_lt (Heap.lt_size e)
 have el:=rv.length
 rw[List.length_map] at el
 refine call_all_walk (wpAny_pyIter_list pl.isList ?_)
 refine⟨s.heap.objs.size,_,_,_,_,_,fun i=>(bs[i]?).getD false,rfl,Walks.list (show X.A.in1.handled=none from I.ok.hd hc) s.heap.objs.size p hne its.toArray,⟨⟨_,Heap.get?_push_size _ rfl,rfl,rfl⟩,?_⟩,fun i v s' Q' E' hv hq=>?_,fun h' tk hk=>?_⟩
 · obtain⟨o,n,e,c,d,dd⟩:=pl
   exact⟨o,Heap.get?_push_of_some _ e,c,n,dd⟩
 · rw[bls_get rv hv]
   exact wpAny_truthy_bool hq
 · refine⟨.bl (bs.all id),H,?_,?_,q⟩
   · exact I.kept (t':=tk) fun b o e=>hk b o (by simp;exact Nat.ne_of_lt (Heap.lt_size e)) (Heap.get?_push_of_some _ e)
   · rw[List.size_toArray,← el,range_all_bl];rfl
def rSlS:V→Option Int→Option Int→Hp→VK→Prop:=fun x lo hi H Q=>∃y,x = .str y∧y.length≤sizeLine∧Q (.str (Txt.slice y lo hi)) H
theorem sl_str:SlR X rSlS:=by
 intro pins s σ H x v vl vu lo hi sl Q I rx hs pl pu h
 obtain⟨y,rfl,hz,q⟩:=h
 obtain⟨t,rfl⟩:=rx
 refine⟨"str", _,F.slot_str_getitem.lookup,typeIs_str _ _ _,?_⟩
 cases pl with
 | none=>
   cases pu with
   | none=>exact wpAny_getItem_str_slice (l:=none) (u:=none) (st:=none) hs rfl (post_val_or_str ⟨Nat.le_trans (Txt.slice_le y _ _) hz,fun t' k=>⟨.str _,H,I.tok _,⟨_,rfl⟩,q⟩⟩)
   | int j tj=>exact wpAny_getItem_str_slice (l:=none) (u:=some (j,tj)) (st:=none) hs rfl (post_val_or_str ⟨Nat.le_trans (Txt.slice_le y _ _) hz,fun t' k=>⟨.str _,H,I.tok _,⟨_,rfl⟩,q⟩⟩)
 | int i ti=>
   cases pu with
   | none=>exact wpAny_getItem_str_slice (l:=some (i,ti)) (u:=none) (st:=none) hs rfl (post_val_or_str ⟨Nat.le_trans (Txt.slice_le y _ _) hz,fun t' k=>⟨.str _,H,I.tok _,⟨_,rfl⟩,q⟩⟩)
   | int j tj=>exact wpAny_getItem_str_slice (l:=some (i,ti)) (u:=some (j,tj)) (st:=none) hs rfl (post_val_or_str ⟨Nat.le_trans (Txt.slice_le y _ _) hz,fun t' k=>⟨.str _,H,I.tok _,⟨_,rfl⟩,q⟩⟩)
theorem strs_of:∀{ys:List Str}{its:List Value},Vals (ys.map V.str) its→StrsAre its ys
 | [],_,.nil=>.nil
 | y::r,_,.cons h t=>by
   obtain⟨tk,rfl⟩:=h
   exact .cons y tk (strs_of t)
def rJoin (K:Frg):V→List V→Hp→VK→Prop:=fun x xs H Q=>∃(y:Str) (p:Addr) (ys:List Str),x = .str y∧xs=[.ref p]∧SqL K H p (ys.map V.str)∧(ys.map (·.length)).sum+ys.length*y.length≤16777216∧Q (.str (Txt.join y ys)) H
theorem mt_join:MtR X "str.join" (rJoin X.K):=by
 intro pins s σ H x xs v us Q I rx rv h
 obtain⟨y,p,ys,rfl,rfl,hp,hz,q⟩:=h
 obtain⟨t,rfl⟩:=rx
 obtain⟨u,rfl,ru⟩:=vals1 rv
 cases ru
 obtain⟨its,r,pl,_⟩:=I.list hp
 exact join_list pl.isList (by simpa using strs_of r) hz fun t' k=>⟨.str _,H,I.tok _,⟨_,rfl⟩,q⟩
def rCatL (K:Frg):R2:=fun x y H Q=>∃a b xs ys,x = .ref a∧y = .ref b∧SqL K H a xs∧SqL K H b ys∧xs.length+ys.length≤sizeLine∧∀p,H p=none→Q (.ref p) (upd H p (.lst (xs++ys)))
theorem op_catL:OpR X (binaryOp .Add) (rCatL X.K):=by
 intro pins s σ H x y v u Q I rx ry h
 obtain⟨l,b,xs,zs,rfl,rfl,hH,hB,hz,q⟩:=h
 cases rx
 cases ry
 obtain⟨its,r,pl,hl⟩:=I.list hH
 obtain⟨its2,r2,pl2,hl2⟩:=I.list hB
 have e1:=r.length
 have e2:=r2.length
 obtain⟨⟨cls,dd,data,sl⟩,n,ho,hc,_,hd⟩:=pl
 obtain⟨⟨cls2,dd2,data2,sl2⟩,n2,ho2,hc2,_,hd2⟩:=pl2
 dsimp only at hc hd hc2 hd2
 subst hc hd hc2 hd2
 have ea:its.toArray++its2.toArray=(its++its2).toArray:=by simp
 have fin:EP X pins σ Q (.ref s.heap.objs.size) { s with heap:=s.heap.push { cls:=.type "list", data:=.seq (its.toArray++its2.toArray) } }:=by
   rw[ea]
   exact⟨.ref _,_,I.lnew (t':=s.toks) (r.append r2) (by rw[List.length_append];omega),rfl,q _ I.fresh⟩
 exact concat_meets ⟨_,ho,rfl⟩ ⟨_,ho2,rfl⟩ noFill_list_add seq_list_add PySem.F.slot_list_add PySem.F.entry_list_add (PySem.F.args_list_add_2 _ _) (list_addW l b its.toArray its2.toArray n n2 dd dd2 sl sl2 (by rw[List.size_toArray,List.size_toArray];omega)) ⟨ho,ho2,fin⟩
def CDivL (i j:Int):Prop:=0 < j∧j < 2 ^ 64
theorem op_fdivL:OpR X (binaryOp .FloorDiv) (rI CDivL fun i j=>.int (i/j)):=opI fun i j _ _ _ _ _ hc q=>by
 have h1:(0:Int) < j:=hc.1
 have h2:j.natAbs.log2 < 9000:=by
   have h0:j.natAbs≠0:=by omega
   have:j.natAbs < 2 ^ 64:=by have:=hc.2;omega
   exact Nat.lt_of_lt_of_le ((Nat.log2_lt h0).mpr this) (by decide)
 exact floordiv_int (by omega) (by rw[Int.fdiv_eq_ediv_of_nonneg i (by omega)];exact q) (.inl (PyProof.noPylong_of_log2 h2))
end
end L2
namespace L2
open PySem PySem.Spec PyProof.Rows
def keyD:Key→PyData
 | .inl i=>.int i
 | .inr x=>.str x
def LW (K:Frg) (H:Hp) (W:Addr→Prop) (a:Addr) (xs:List V):Prop:=
 (¬W a∧Rd H a (.lst xs))∨∃(o:Obj) (its:Array Value) (n:Nat),K.lookup a=some o∧o.cls = .type "list" ∧ o.dict=none∧o.data = .seq its n∧its.size≤sizeLine∧Vals xs its.toList
def TW (K:Frg) (H:Hp) (W:Addr→Prop) (a:Addr) (xs:List V):Prop:=
 (¬W a∧Rd H a (.tup xs))∨∃(o:Obj) (its:Array Value) (n:Nat),K.lookup a=some o∧o.cls = .type "tuple" ∧ o.data = .seq its n∧its.size≤sizeLine∧Vals xs its.toList
theorem LW.sq {K:Frg}{H:Hp}{W:Addr→Prop}{a:Addr}{xs:List V}(h:LW K H W a xs):SqL K H a xs:=h.elim (fun z=>.inl z.2) .inr
theorem TW.sq {K:Frg}{H:Hp}{W:Addr→Prop}{a:Addr}{xs:List V}(h:TW K H W a xs):SqT K H a xs:=h.elim (fun z=>.inl z.2) .inr
mutual
def DV (K:Frg) (H:Hp) (W:Addr→Prop):PyData→V→Prop
 | .none,v=>v = .non
 | .bool b,v=>v = .bl b
 | .int i,v=>v = .int i
 | .str x,v=>v = .str x
 | .list ds,v=>∃a vs,v = .ref a∧LW K H W a vs∧DVs K H W ds vs
 | .tuple ds,v=>∃a vs,v = .ref a∧TW K H W a vs∧DVs K H W ds vs
 | .dict kvs,v=>∃a kvs',v = .ref a∧¬W a∧Rd H a (.dK kvs')∧DKV K H W kvs kvs'
def DVs (K:Frg) (H:Hp) (W:Addr→Prop):List PyData→List V→Prop
 | [],vs=>vs=[]
 | d::ds,vs=>∃v r,vs=v::r∧DV K H W d v∧DVs K H W ds r
def DKV (K:Frg) (H:Hp) (W:Addr→Prop):List (PyData×PyData)→List (Key×V)→Prop
 | [],vs=>vs=[]
 | (k,d)::ds,vs=>∃k' v r,vs=(k',v)::r∧k=keyD k'∧DV K H W d v∧DKV K H W ds r
end
structure Grow (K:Frg) (W W':Addr→Prop) (H H':Hp):Prop where
 keep:∀b o,H b=some o→¬W b→H' b=some o∨∃ks ob,o = .dK ks∧H' b=some (.frz ob o)
 new:∀b,W' b→W b∨H b=none
theorem Grow.refl {K:Frg}{W:Addr→Prop}{H:Hp}:Grow K W W H H:=⟨fun _ _ h _=>.inl h,fun _ h=>.inl h⟩
section
variable {K:Frg}{W W' W2:Addr→Prop}{H H' H2:Hp}
theorem Rd.grow (g:Grow K W W' H H') {a:Addr}{o:HO}(nw:¬W a) (h:Rd H a o):Rd H' a o:=by
 rcases h with h | ⟨o',h⟩
 · rcases g.keep _ _ h nw with e | ⟨ks,ob,_,e⟩
   · exact .inl e
   · exact .inr ⟨ob,e⟩
 · rcases g.keep _ _ h nw with e | ⟨ks,ob,e,_⟩
   · exact .inr ⟨o',e⟩
   · cases e
theorem Grow.kept (g:Grow K W W' H H') {a:Addr}{o:HO}(h:H a=some o) (nw:¬W a) (n:∀ks,o≠.dK ks):H' a=some o:=(g.keep a o h nw).elim id fun⟨ks,_,e,_⟩=>absurd e (n ks)
theorem Rd.ne_none {H:Hp}{a:Addr}{o:HO}(h:Rd H a o):H a≠none:=by
 rcases h with h | ⟨o',h⟩ <;> rw[h] <;> simp
theorem Rd.nw (g:Grow K W W' H H') {a:Addr}{o:HO}(nw:¬W a) (h:Rd H a o):¬W' a:=fun w=>by
 rcases g.new a w with z | z
 · exact nw z
 · exact Rd.ne_none h z
theorem LW.grow (g:Grow K W W' H H') {a:Addr}{xs:List V}(h:LW K H W a xs):LW K H' W' a xs:=h.elim (fun z=>.inl ⟨z.2.nw g z.1,z.2.grow g z.1⟩) .inr
theorem TW.grow (g:Grow K W W' H H') {a:Addr}{xs:List V}(h:TW K H W a xs):TW K H' W' a xs:=h.elim (fun z=>.inl ⟨z.2.nw g z.1,z.2.grow g z.1⟩) .inr
mutual
theorem DV.grow (g:Grow K W W' H H'):∀{d:PyData}{v:V},DV K H W d v→DV K H' W' d v
 | .none,v,h=>by unfold DV at h ⊢;exact h
 | .bool b,v,h=>by unfold DV at h ⊢;exact h
 | .int i,v,h=>by unfold DV at h ⊢;exact h
 | .str x,v,h=>by unfold DV at h ⊢;exact h
 | .list ds,v,h=>by
   unfold DV at h ⊢
   obtain⟨a,vs,e,hs,hd⟩:=h
   exact⟨a,vs,e,hs.grow g,DVs.grow g hd⟩
 | .tuple ds,v,h=>by
   unfold DV at h ⊢
   obtain⟨a,vs,e,hs,hd⟩:=h
   exact⟨a,vs,e,hs.grow g,DVs.grow g hd⟩
 | .dict kvs,v,h=>by
   unfold DV at h ⊢
   obtain⟨a,vs,e,nw,hs,hd⟩:=h
   exact⟨a,vs,e,hs.nw g nw,hs.grow g nw,DKV.grow g hd⟩
theorem DVs.grow (g:Grow K W W' H H'):∀{ds:List PyData}{vs:List V},DVs K H W ds vs→DVs K H' W' ds vs
 | [],vs,h=>by unfold DVs at h ⊢;exact h
 | d::ds,vs,h=>by
   unfold DVs at h ⊢
   obtain⟨v,r,e,h1,h2⟩:=h
   exact⟨v,r,e,DV.grow g h1,DVs.grow g h2⟩
theorem DKV.grow (g:Grow K W W' H H'):∀{ds:List (PyData×PyData)}{vs:List (Key×V)},DKV K H W ds vs→DKV K H' W' ds vs
 | [],vs,h=>by unfold DKV at h ⊢;exact h
 | (k,d)::ds,vs,h=>by
   unfold DKV at h ⊢
   obtain⟨k',v,r,e,e2,h1,h2⟩:=h
   exact⟨k',v,r,e,e2,DV.grow g h1,DKV.grow g h2⟩
end
theorem Grow.trans (a:Grow K W W' H H') (b:Grow K W' W2 H' H2):Grow K W W2 H H2:=by
 refine⟨fun x o h nw=>?_,fun x w=>?_⟩
 · have nw':¬W' x:=fun w=>by
     rcases a.new x w with z | z
     · exact nw z
     · rw[h] at z;cases z
   rcases a.keep x o h nw with e | ⟨ks,ob,e1,e2⟩
   · exact b.keep x o e nw'
   · exact .inr ⟨ks,ob,e1,b.kept e2 nw' fun _ z=>nomatch z⟩
 · rcases b.new x w with z | z1
   · exact a.new x z
   · by_cases hx:W x
     · exact .inl hx
     · refine .inr ?_
       cases e:H x with
       | none=>rfl
       | some o=>
         rcases a.keep x o e hx with q | ⟨_,_,_,q⟩ <;> (rw[q] at z1;cases z1)
theorem DVs.length:∀{ds:List PyData}{vs:List V},DVs K H W ds vs→vs.length=ds.length
 | [],vs,h=>by unfold DVs at h;subst h;rfl
 | d::ds,vs,h=>by
   unfold DVs at h
   obtain⟨v,r,e,h1,h2⟩:=h
   subst e
   simp[DVs.length h2]
theorem DVs.get:∀{ds:List PyData}{vs:List V}{i:Nat}{v:V},DVs K H W ds vs→vs[i]?=some v→∃d,ds[i]?=some d∧DV K H W d v
 | [],vs,i,v,h,e=>by unfold DVs at h;subst h;simp at e
 | d::ds,vs,i,v,h,e=>by
   unfold DVs at h
   obtain⟨u,r,e',h1,h2⟩:=h
   subst e'
   cases i with
   | zero=>simp at e;subst e;exact⟨d,rfl,h1⟩
   | succ i=>simpa using DVs.get h2 (by simpa using e)
theorem DVs.get':∀{ds:List PyData}{vs:List V}{i:Nat}{d:PyData},DVs K H W ds vs→ds[i]?=some d→∃v,vs[i]?=some v∧DV K H W d v
 | [],vs,i,v,h,e=>by simp at e
 | d::ds,vs,i,v,h,e=>by
   unfold DVs at h
   obtain⟨u,r,e',h1,h2⟩:=h
   subst e'
   cases i with
   | zero=>simp at e;subst e;exact⟨u,rfl,h1⟩
   | succ i=>simpa using DVs.get' h2 (by simpa using e)
theorem DVs.nil:DVs K H W [] []:=by unfold DVs;rfl
theorem DVs.cons {d:PyData}{v:V}{ds:List PyData}{vs:List V}(h:DV K H W d v) (t:DVs K H W ds vs):DVs K H W (d::ds) (v::vs):=by unfold DVs;exact⟨v,vs,rfl,h,t⟩
theorem DVs.append:∀{ds es:List PyData}{vs us:List V},DVs K H W ds vs→DVs K H W es us→DVs K H W (ds++es) (vs++us)
 | [],es,vs,us,h,t=>by unfold DVs at h;subst h;exact t
 | d::ds,es,vs,us,h,t=>by
   unfold DVs at h
   obtain⟨u,r,e',h1,h2⟩:=h
   subst e'
   exact DVs.cons h1 (DVs.append h2 t)
theorem DVs.set:∀{ds:List PyData}{vs:List V}{d:PyData}{v:V}(i:Nat),DVs K H W ds vs→DV K H W d v→DVs K H W (ds.set i d) (vs.set i v)
 | [],vs,d,v,i,h,t=>by unfold DVs at h;subst h;exact DVs.nil
 | e::ds,vs,d,v,i,h,t=>by
   unfold DVs at h
   obtain⟨u,r,e',h1,h2⟩:=h
   subst e'
   cases i with
   | zero=>exact DVs.cons t h2
   | succ i=>exact DVs.cons h1 (DVs.set i h2 t)
theorem DVs.drop:∀{ds:List PyData}{vs:List V}(i:Nat),DVs K H W ds vs→DVs K H W (ds.drop i) (vs.drop i)
 | ds,vs,0,h=>h
 | [],vs,i+1,h=>by unfold DVs at h;subst h;exact DVs.nil
 | e::ds,vs,i+1,h=>by
   unfold DVs at h
   obtain⟨u,r,e',h1,h2⟩:=h
   subst e'
   exact DVs.drop i h2
theorem DVs.take:∀{ds:List PyData}{vs:List V}(i:Nat),DVs K H W ds vs→DVs K H W (ds.take i) (vs.take i)
 | ds,vs,0,h=>DVs.nil
 | [],vs,i+1,h=>by unfold DVs at h;subst h;exact DVs.nil
 | e::ds,vs,i+1,h=>by
   unfold DVs at h
   obtain⟨u,r,e',h1,h2⟩:=h
   subst e'
   exact DVs.cons h1 (DVs.take i h2)
theorem dvs_bools:∀{bs:List Bool}{vs:List V},DVs K H W (bs.map PyData.bool) vs→vs=bs.map V.bl
 | [],vs,h=>by unfold DVs at h;exact h
 | b::bs,vs,h=>by
   simp only[List.map_cons] at h
   unfold DVs at h
   obtain⟨u,r,e',h1,h2⟩:=h
   unfold DV at h1
   subst e' h1
   rw[dvs_bools h2];rfl
theorem dvs_strs:∀{bs:List Str}{vs:List V},DVs K H W (bs.map PyData.str) vs→vs=bs.map V.str
 | [],vs,h=>by unfold DVs at h;exact h
 | b::bs,vs,h=>by
   simp only[List.map_cons] at h
   unfold DVs at h
   obtain⟨u,r,e',h1,h2⟩:=h
   unfold DV at h1
   subst e' h1
   rw[dvs_strs h2];rfl
theorem dvs_of_ints:∀{bs:List Int},DVs K H W (bs.map PyData.int) (bs.map V.int)
 | []=>DVs.nil
 | b::bs=>DVs.cons (by unfold DV;rfl) dvs_of_ints
end
section
variable {X:Cx}{pins:List (Addr×Obj)}{σ:St}{H:Hp}{s:Shared}{W:Addr→Prop}
mutual
theorem DV.reads (I:Inv X pins σ H s):∀{d:PyData}{v:V}{u:Value},d.canLay0=true→DV X.K H W d v→RelV v u→∃as,PySem.Reads s.heap u d as
 | .none,v,u,c,h,r=>by unfold DV at h;subst h;cases r;exact⟨_,.none⟩
 | .bool b,v,u,c,h,r=>by unfold DV at h;subst h;cases r;exact⟨_,.bool b⟩
 | .int i,v,u,c,h,r=>by unfold DV at h;subst h;obtain⟨t,rfl⟩:=r;exact⟨_,.int i t⟩
 | .str x,v,u,c,h,r=>by unfold DV at h;subst h;obtain⟨t,rfl⟩:=r;exact⟨_,.str x t⟩
 | .list ds,v,u,c,h,r=>by
   unfold DV at h
   obtain⟨a,vs,rfl,hs,hd⟩:=h
   cases r
   obtain⟨its,rv,⟨o,n,e,hc,_,dd⟩,_⟩:=I.list hs.sq
   obtain⟨as,q⟩:=DVs.reads I (by simpa [PyData.canLay0] using c) hd rv
   exact⟨_,.list e hc dd (by simpa using q)⟩
 | .tuple ds,v,u,c,h,r=>by
   unfold DV at h
   obtain⟨a,vs,rfl,hs,hd⟩:=h
   cases r
   obtain⟨its,rv,⟨o,e,hc,n,dd⟩,_⟩:=I.tuple hs.sq
   obtain⟨as,q⟩:=DVs.reads I (by simpa [PyData.canLay0] using c) hd rv
   exact⟨_,.tuple e hc dd (by simpa using q)⟩
 | .dict kvs,v,u,c,h,r=>by simp[PyData.canLay0] at c
theorem DVs.reads (I:Inv X pins σ H s):∀{ds:List PyData}{vs:List V}{us:List Value},PyData.canLayAll0 ds=true→DVs X.K H W ds vs→Vals vs us→∃as,PySem.ReadsAll s.heap us ds as
 | [],vs,us,c,h,r=>by unfold DVs at h;subst h;cases r;exact⟨_,.nil⟩
 | d::ds,vs,us,c,h,r=>by
   unfold DVs at h
   obtain⟨v,q,rfl,h1,h2⟩:=h
   cases r with
   | cons r1 r2=>
     simp[PyData.canLayAll0] at c
     obtain⟨as,q1⟩:=DV.reads I c.1 h1 r1
     obtain⟨bs,q2⟩:=DVs.reads I c.2 h2 r2
     exact⟨_,.cons q1 q2⟩
end
def rEqD (K:Frg) (neg:Bool):R2:=fun x y H Q=>∃(W:Addr→Prop) (da db:PyData),DV K H W da x∧DV K H W db y∧PySem.SeqAt.shaped da=true∧PySem.SeqAt.shaped db=true∧Q (.bl (if neg then !PyData.eqv da db else PyData.eqv da db)) H
theorem op_eqD (hu:X.A.units+64 < cLine):OpR X (compareOp .Eq) (rEqD X.K false):=by
 intro pins s σ H x y v u Q I rx ry h
 obtain⟨W,da,db,h1,h2,s1,s2,q⟩:=h
 obtain⟨as,r1⟩:=h1.reads I (PySem.SeqAt.canLay_of_shaped s1) rx
 obtain⟨bs,r2⟩:=h2.reads I (PySem.SeqAt.canLay_of_shaped s2) ry
 exact PySem.SeqAt.compareEq_shaped r1 r2 s1 s2 hu ⟨.bl _,H,I,rfl,q⟩
theorem op_neD (hu:X.A.units+64 < cLine):OpR X (compareOp .NotEq) (rEqD X.K true):=by
 intro pins s σ H x y v u Q I rx ry h
 obtain⟨W,da,db,h1,h2,s1,s2,q⟩:=h
 obtain⟨as,r1⟩:=h1.reads I (PySem.SeqAt.canLay_of_shaped s1) rx
 obtain⟨bs,r2⟩:=h2.reads I (PySem.SeqAt.canLay_of_shaped s2) ry
 exact PySem.SeqAt.compareNe_shaped r1 r2 s1 s2 hu ⟨.bl _,H,I,rfl,q⟩
end
end L2
namespace DL
open PySem PySem.Spec L2
abbrev St:=L2.St
inductive MO where
 | l (ds:List PyData)
 | d (kvs:List (PyData×PyData))
 | x (C:Addr) (fs:List (Str×PyData))
abbrev Own:=Addr→Option MO
def Own.W (M:Own):Addr→Prop:=fun a=>M a≠none
def Own.put (M:Own) (a:Addr) (o:MO):Own:=fun b=>if b=a then some o else M b
def Own.del (M:Own) (a:Addr):Own:=fun b=>if b=a then none else M b
def Own.Sub (M N:Own):Prop:=∀a o,M a=some o→N a=some o
theorem Own.put_same {M:Own}{a:Addr}{o:MO}:M.put a o a=some o:=by unfold Own.put;rw[if_pos rfl]
theorem Own.put_ne {M:Own}{a b:Addr}{o:MO}(h:b≠a):M.put a o b=M b:=by unfold Own.put;rw[if_neg h]
theorem Own.put_put {M:Own}{a:Addr}{o o':MO}:(M.put a o).put a o'=M.put a o':=by
 funext b;unfold Own.put;by_cases h:b=a <;> simp[h]
theorem Own.del_put {M:Own}{a:Addr}{o:MO}(h:M a=none):(M.put a o).del a=M:=by
 funext b;unfold Own.put Own.del
 by_cases e:b=a
 · subst e;simp[h]
 · simp[e]
theorem Own.put_self {M:Own}{a:Addr}{o:MO}(h:M a=some o):M.put a o=M:=by
 funext b;unfold Own.put
 by_cases e:b=a
 · subst e;simp[h]
 · simp[e]
theorem Own.Sub.refl (M:Own):M.Sub M:=fun _ _ h=>h
theorem Own.Sub.put {M N:Own}{a:Addr}{o:MO}(h:M.Sub N) (n:M a=none):M.Sub (N.put a o):=fun b x e=>by
 rw[Own.put_ne (by rintro rfl;rw[n] at e;cases e)];exact h b x e
inductive DS where
 | d (x:PyData)
 | loc (a:Addr)
 | ty (n:String)
def SI (K:Frg) (H:Hp) (M:Own):DS→V→Prop
 | .d x,v=>DV K H M.W x v
 | .loc a,v=>v = .ref a
 | .ty n,v=>v = .ty n
def SIs (K:Frg) (H:Hp) (M:Own):List DS→List V→Prop
 | [],vs=>vs=[]
 | d::ds,vs=>∃v r,vs=v::r∧SI K H M d v∧SIs K H M ds r
def XI (K:Frg) (H:Hp) (W:Addr→Prop):Option Addr→List (Str×PyData)→Prop
 | none,[]=>True
 | some d,[(n,x)]=>∃v,¬W d∧H d=some (.xd [(n,v)])∧DV K H W x v
 | _,_=>False
theorem XI.grow {K:Frg}{W W':Addr→Prop}{H H':Hp}(g:Grow K W W' H H') {dd:Option Addr}{fs:List (Str×PyData)}(h:XI K H W dd fs):XI K H' W' dd fs:=by
 unfold XI at h ⊢
 split at h
 · trivial
 · obtain⟨v,nw,a,b⟩:=h
   exact⟨v,fun z=>(g.new _ z).elim nw fun q=>by(rw[a] at q;cases q),g.kept a nw (fun _ z=>nomatch z),b.grow g⟩
 · exact h.elim
def exK (a C:Addr) (dd:Option Addr):HO:=.ext fun h=>∃o vs,h.get? a=some o∧o.cls = .ref C∧o.dict=dd∧o.data = .fields vs
def OA1 (K:Frg) (H:Hp) (M:Own) (a:Addr):MO→Prop
 | .x C fs=>∃dd,H a=some (exK a C dd)∧XI K H M.W dd fs
 | .l ds=>∃vs,H a=some (.lst vs)∧DVs K H M.W ds vs
 | .d kvs=>∃ks,H a=some (.dK ks)∧DKV K H M.W kvs ks
def OA (K:Frg) (H:Hp) (M:Own):Prop:=∀a o,M a=some o→OA1 K H M a o
structure Step (K:Frg) (M M':Own) (H H':Hp):Prop where
 grow:Grow K M.W M'.W H H'
structure Rel (K:Frg) (M:Own) (ρ:List (Option DS)) (σ:St) (H:Hp):Prop where
 own:OA K H M
 len:ρ.length=σ.length
 slot:∀(i:Nat) x,ρ[i]?=some (some x)→∃v,σ[i]?=some (some v)∧SI K H M x v
section
variable {K:Frg}{M M' M2:Own}{H H' H2:Hp}{ρ:List (Option DS)}{σ:St}
theorem Step.refl:Step K M M H H:=⟨Grow.refl⟩
theorem Step.trans (a:Step K M M' H H') (b:Step K M' M2 H' H2):Step K M M2 H H2:=⟨a.grow.trans b.grow⟩
theorem SI.step (st:Step K M M' H H'):∀{x:DS}{v:V},SI K H M x v→SI K H' M' x v
 | .d _,_,h=>DV.grow st.grow h
 | .loc _,_,h=>h
 | .ty _,_,h=>h
theorem Rel.step (R:Rel K M ρ σ H) (oa:OA K H' M') (st:Step K M M' H H'):Rel K M' ρ σ H':=
 ⟨oa,R.len,fun i x e=>let ⟨v,h1,h2⟩:=R.slot i x e;⟨v,h1,h2.step st⟩⟩
theorem Rel.set (R:Rel K M ρ σ H) {x:DS}{v:V}(h:SI K H M x v) (i:Nat):Rel K M (ρ.set i (some x)) (σ.set i (some v)) H:=by
 refine⟨R.own,by rw[List.length_set,List.length_set];exact R.len,fun j y e=>?_⟩
 rw[List.getElem?_set] at e ⊢
 by_cases hij:i=j
 · rw[if_pos hij] at e ⊢
   subst hij
   by_cases hl:i < ρ.length
   · rw[if_pos hl] at e
     cases e
     rw[if_pos (by rw[← R.len];exact hl)]
     exact⟨v,rfl,h⟩
   · rw[if_neg hl] at e;cases e
 · rw[if_neg hij] at e ⊢
   exact R.slot j y e
theorem OA.none (oa:OA K H M) {p:Addr}(h:H p=Option.none):M p=Option.none:=by
 cases e:M p with
 | none=>rfl
 | some o=>
   have:=oa p o e
   cases o with
   | l ds=>obtain⟨vs,q,_⟩:=this;rw[h] at q;cases q
   | d kvs=>obtain⟨vs,q,_⟩:=this;rw[h] at q;cases q
   | x C fs=>obtain⟨vs,q,_⟩:=this;rw[h] at q;cases q
theorem grow_new {p:Addr}{o:HO}(W:Addr→Prop) (h:H p=Option.none):Grow K W W H (upd H p o):=
 ⟨fun b u e _=>.inl (by rw[upd_ne (ne_of_none e h)];exact e),fun _ w=>.inl w⟩
theorem OA.grow (oa:OA K H M) (g:Grow K M.W M.W H H') (hk:∀a o,M a=some o→H' a=H a):OA K H' M:=fun a o e=>by
 have q:=oa a o e
 cases o with
 | l ds=>obtain⟨vs,q1,q2⟩:=q;exact⟨vs,by rw[hk a _ e];exact q1,q2.grow g⟩
 | d kvs=>obtain⟨vs,q1,q2⟩:=q;exact⟨vs,by rw[hk a _ e];exact q1,q2.grow g⟩
 | x C fs=>obtain⟨vs,q1,q2⟩:=q;exact⟨vs,by rw[hk a _ e];exact q1,q2.grow g⟩
theorem OA.new {p:Addr}{o:HO}(oa:OA K H M) (h:H p=Option.none):OA K (upd H p o) M:=oa.grow (grow_new _ h) fun a x e=>by
 rw[upd_ne (by rintro rfl;rw[oa.none h] at e;cases e)]
theorem own_new {p:Addr}{vs:List V}{ds:List PyData}(oa:OA K H M) (h:H p=Option.none) (hd:DVs K H M.W ds vs) :
   OA K (upd H p (.lst vs)) (M.put p (.l ds))∧Step K M (M.put p (.l ds)) H (upd H p (.lst vs)):=by
 have hM:=oa.none h
 have g:Grow K M.W (M.put p (.l ds)).W H (upd H p (.lst vs)):=⟨fun b u e _=>.inl (by rw[upd_ne (ne_of_none e h)];exact e),fun b w=>by
   by_cases hb:b=p
   · subst hb;exact .inr h
   · left;unfold Own.W at w ⊢;rw[Own.put_ne hb] at w;exact w⟩
 refine⟨fun a o e=>?_,⟨g⟩⟩
 · by_cases ha:a=p
   · subst ha;rw[Own.put_same] at e;cases e;exact⟨vs,upd_same,hd.grow g⟩
   · rw[Own.put_ne ha] at e
     have q:=oa a o e
     cases o with
     | l ds=>obtain⟨vs,q1,q2⟩:=q;exact⟨vs,by rw[upd_ne ha];exact q1,q2.grow g⟩
     | d kvs=>obtain⟨vs,q1,q2⟩:=q;exact⟨vs,by rw[upd_ne ha];exact q1,q2.grow g⟩
     | x C fs=>obtain⟨vs,q1,q2⟩:=q;exact⟨vs,by rw[upd_ne ha];exact q1,q2.grow g⟩
theorem own_write {p:Addr}{vs':List V}{ds':List PyData}{o:MO}(oa:OA K H M) (h:M p=some o) (hd:DVs K H M.W ds' vs') :
   OA K (upd H p (.lst vs')) (M.put p (.l ds'))∧Step K M (M.put p (.l ds')) H (upd H p (.lst vs')):=by
 have hw:∀b,(M.put p (.l ds')).W b→M.W b:=fun b w=>by
   unfold Own.W at w ⊢
   by_cases hb:b=p
   · subst hb;rw[h];simp
   · rw[Own.put_ne hb] at w;exact w
 have g:Grow K M.W (M.put p (.l ds')).W H (upd H p (.lst vs')):=⟨fun b u e nw=>.inl (by
   rw[upd_ne (by rintro rfl;exact nw (by unfold Own.W;rw[h];simp))];exact e),fun b w=>.inl (hw b w)⟩
 refine⟨fun a o e=>?_,⟨g⟩⟩
 · by_cases ha:a=p
   · subst ha;rw[Own.put_same] at e;cases e;exact⟨vs',upd_same,hd.grow g⟩
   · rw[Own.put_ne ha] at e
     have q:=oa a o e
     cases o with
     | l ds=>obtain⟨vs,q1,q2⟩:=q;exact⟨vs,by rw[upd_ne ha];exact q1,q2.grow g⟩
     | d kvs=>obtain⟨vs,q1,q2⟩:=q;exact⟨vs,by rw[upd_ne ha];exact q1,q2.grow g⟩
     | x C fs=>obtain⟨vs,q1,q2⟩:=q;exact⟨vs,by rw[upd_ne ha];exact q1,q2.grow g⟩
theorem sub_grow (hs:M'.Sub M):Grow K M.W M'.W H H:=⟨fun _ _ e _=>.inl e,fun b w=>.inl (by
 unfold Own.W at w ⊢
 cases e:M' b with
 | none=>exact absurd e w
 | some o=>rw[hs b o e];simp)⟩
theorem OA.sub (oa:OA K H M) (hs:M'.Sub M):OA K H M':=fun a o e=>by
 have q:=oa a o (hs a o e)
 cases o with
 | l ds=>obtain⟨vs,q1,q2⟩:=q;exact⟨vs,q1,q2.grow (sub_grow hs)⟩
 | d kvs=>obtain⟨vs,q1,q2⟩:=q;exact⟨vs,q1,q2.grow (sub_grow hs)⟩
 | x C fs=>obtain⟨vs,q1,q2⟩:=q;exact⟨vs,q1,q2.grow (sub_grow hs)⟩
theorem SI.sub (hs:M'.Sub M):∀{x:DS}{v:V},SI K H M x v→SI K H M' x v
 | .d _,_,h=>DV.grow (sub_grow hs) h
 | .loc _,_,h=>h
 | .ty _,_,h=>h
end
def DE (K:Frg) (t:TE) (ρ:List (Option DS)) (M:Own) (Q:DS→Own→Prop):Prop:=
 ∀(σ:St) (H:Hp) (QQ:VK),Rel K M ρ σ H→(∀v H' x M',OA K H' M'→SI K H' M' x v→Step K M M' H H'→Q x M'→QQ v H')→t σ H QQ
def DT (K:Frg) (t:TT) (ρ:List (Option DS)) (M:Own) (Q:Bool→Own→Prop):Prop:=
 ∀(σ:St) (H:Hp) (QQ:Bool→Hp→Prop),Rel K M ρ σ H→(∀b H' M',OA K H' M'→Step K M M' H H'→Q b M'→QQ b H')→t σ H QQ
def DA (K:Frg) (t:TA) (ρ:List (Option DS)) (M:Own) (Q:List DS→Own→Prop):Prop:=
 ∀(σ:St) (H:Hp) (QQ:List V→Hp→Prop),Rel K M ρ σ H→(∀vs H' xs M',OA K H' M'→SIs K H' M' xs vs→Step K M M' H H'→Q xs M'→QQ vs H')→t σ H QQ
def DP (K:Frg) (t:TO) (ρ:List (Option DS)) (M:Own) (Q:Option Int→Own→Prop):Prop:=
 ∀(σ:St) (H:Hp) (QQ:Option Int→Hp→Prop),Rel K M ρ σ H→(∀b H' M',OA K H' M'→Step K M M' H H'→Q b M'→QQ b H')→t σ H QQ
structure EndsD where
 nx:List (Option DS)→Own→Prop
 rt:DS→Own→Prop
 bk:List (Option DS)→Own→Prop:=fun _ _=>False
 ct:List (Option DS)→Own→Prop:=fun _ _=>False
def DSt (K:Frg) (t:TS) (ρ:List (Option DS)) (M:Own) (D:EndsD):Prop:=
 ∀(σ:St) (H:Hp) (E:Ends),Rel K M ρ σ H→(∀ρ' M' σ' H',Rel K M' ρ' σ' H'→Step K M M' H H'→D.nx ρ' M'→E.nx σ' H')→(∀v H' x M',OA K H' M'→SI K H' M' x v→Step K M M' H H'→D.rt x M'→E.rt v H') →
   (∀ρ' M' σ' H',Rel K M' ρ' σ' H'→Step K M M' H H'→D.bk ρ' M'→E.bk σ' H')→(∀ρ' M' σ' H',Rel K M' ρ' σ' H'→Step K M M' H H'→D.ct ρ' M'→E.ct σ' H')→t E σ H
def D1 (K:Frg) (r:V→Hp→VK→Prop) (x:DS) (M:Own) (Q:DS→Own→Prop):Prop:=
 ∀(H:Hp) (v:V) (QQ:VK),OA K H M→SI K H M x v→(∀w H' z M',OA K H' M'→SI K H' M' z w→Step K M M' H H'→Q z M'→QQ w H')→r v H QQ
def D2 (K:Frg) (r:R2) (x y:DS) (M:Own) (Q:DS→Own→Prop):Prop:=
 ∀(H:Hp) (v u:V) (QQ:VK),OA K H M→SI K H M x v→SI K H M y u→(∀w H' z M',OA K H' M'→SI K H' M' z w→Step K M M' H H'→Q z M'→QQ w H')→r v u H QQ
def DR (K:Frg) (r:List V→Hp→VK→Prop) (xs:List DS) (M:Own) (Q:DS→Own→Prop):Prop:=
 ∀(H:Hp) (vs:List V) (QQ:VK),OA K H M→SIs K H M xs vs→(∀w H' z M',OA K H' M'→SI K H' M' z w→Step K M M' H H'→Q z M'→QQ w H')→r vs H QQ
def DM (K:Frg) (r:V→List V→Hp→VK→Prop) (x:DS) (xs:List DS) (M:Own) (Q:DS→Own→Prop):Prop:=
 ∀(H:Hp) (v:V) (vs:List V) (QQ:VK),OA K H M→SI K H M x v→SIs K H M xs vs→(∀w H' z M',OA K H' M'→SI K H' M' z w→Step K M M' H H'→Q z M'→QQ w H')→r v vs H QQ
def DSl (K:Frg) (r:V→Option Int→Option Int→Hp→VK→Prop) (x:DS) (lo hi:Option Int) (M:Own) (Q:DS→Own→Prop):Prop:=
 ∀(H:Hp) (v:V) (QQ:VK),OA K H M→SI K H M x v→(∀w H' z M',OA K H' M'→SI K H' M' z w→Step K M M' H H'→Q z M'→QQ w H')→r v lo hi H QQ
def DTy (K:Frg) (T:String) (x:DS) (M:Own):Prop:=∀(H:Hp) (v:V),OA K H M→SI K H M x v→tyV K T v H
section
variable {K:Frg}{ρ:List (Option DS)}{M:Own}{Q:DS→Own→Prop}{QB:Bool→Own→Prop}{ta tb tc:TE}{tA tB':TT}{r r':R2}
theorem de_mono {t:TE}{Q':DS→Own→Prop}(h:DE K t ρ M Q) (hq:∀x M',Q x M'→Q' x M'):DE K t ρ M Q':=fun σ H QQ R k=>h σ H QQ R fun v H' x M' a b c q=>k v H' x M' a b c (hq x M' q)
theorem de_var {i:Nat}{x:DS}(e:ρ[i]?=some (some x)) (h:Q x M):DE K (tVar i) ρ M Q:=fun σ H QQ R k=>by
 obtain⟨v,h1,h2⟩:=R.slot i x e
 exact⟨v,h1,k v H x M R.own h2 Step.refl h⟩
theorem de_int {i:Int}(h:Q (.d (.int i)) M):DE K (tC (.int i)) ρ M Q:=fun σ H QQ R k=>k _ H (.d (.int i)) M R.own (by unfold SI DV;rfl) Step.refl h
theorem de_bl {i:Bool}(h:Q (.d (.bool i)) M):DE K (tC (.bl i)) ρ M Q:=fun σ H QQ R k=>k _ H (.d (.bool i)) M R.own (by unfold SI DV;rfl) Step.refl h
theorem de_str {i:Str}(h:Q (.d (.str i)) M):DE K (tC (.str i)) ρ M Q:=fun σ H QQ R k=>k _ H (.d (.str i)) M R.own (by unfold SI DV;rfl) Step.refl h
theorem de_non (h:Q (.d .none) M):DE K (tC .non) ρ M Q:=fun σ H QQ R k=>k _ H (.d .none) M R.own (by unfold SI DV;rfl) Step.refl h
theorem de_ty {n:String}(h:Q (.ty n) M):DE K (tC (.ty n)) ρ M Q:=fun σ H QQ R k=>k _ H (.ty n) M R.own rfl Step.refl h
theorem de_op (h:DE K ta ρ M fun x M1=>DE K tb ρ M1 fun y M2=>D2 K r x y M2 Q):DE K (tOp r ta tb) ρ M Q:=fun σ H QQ R k=>
 h σ H _ R fun v H1 x M1 o1 s1 t1 h1=>h1 σ H1 _ (R.step o1 t1) fun u H2 y M2 o2 s2 t2 h2=>h2 H2 v u QQ o2 (s1.step t2) s2 fun w H3 z M3 o3 s3 t3 q=>k w H3 z M3 o3 s3 ((t1.trans t2).trans t3) q
theorem de_un {r:V→Hp→VK→Prop}(h:DE K ta ρ M fun x M1=>D1 K r x M1 Q):DE K (tUn r ta) ρ M Q:=fun σ H QQ R k=>
 h σ H _ R fun v H1 x M1 o1 s1 t1 h1=>h1 H1 v QQ o1 s1 fun w H3 z M3 o3 s3 t3 q=>k w H3 z M3 o3 s3 (t1.trans t3) q
theorem de_chain (h:DE K ta ρ M fun x M1=>DE K tb ρ M1 fun y M2=>D2 K r x y M2 fun z M3=>∃c,z = .d (.bool c)∧if c=true then DE K tc ρ M3 (fun w M4=>D2 K r' y w M4 Q) else Q (.d (.bool false)) M3) :
   DE K (tChain r r' ta tb tc) ρ M Q:=fun σ H QQ R k=>
 h σ H _ R fun v H1 x M1 o1 s1 t1 h1=>h1 σ H1 _ (R.step o1 t1) fun u H2 y M2 o2 s2 t2 h2=>h2 H2 v u _ o2 (s1.step t2) s2 fun w H3 z M3 o3 s3 t3 q=>by
   obtain⟨c,rfl,q⟩:=q
   unfold SI DV at s3
   refine⟨c,s3,?_⟩
   cases c with
   | false=>
     rw[if_neg nft] at q ⊢
     exact k _ H3 _ M3 o3 (by unfold SI DV;rfl) ((t1.trans t2).trans t3) q
   | true=>
     rw[if_pos rfl] at q ⊢
     exact q σ H3 _ (R.step o3 ((t1.trans t2).trans t3)) fun w4 H4 z4 M4 o4 s4 t4 h4=>h4 H4 u w4 QQ o4 (s2.step (t3.trans t4)) s4 fun w5 H5 z5 M5 o5 s5 t5 q5=>k w5 H5 z5 M5 o5 s5 ((((t1.trans t2).trans t3).trans t4).trans t5) q5
theorem dt_test (h:DE K ta ρ M fun x M1=>∃c,x = .d (.bool c)∧QB c M1):DT K (tTest ta) ρ M QB:=fun σ H QQ R k=>
 h σ H _ R fun v H1 x M1 o1 s1 t1 h1=>by
   obtain⟨c,rfl,q⟩:=h1
   unfold SI DV at s1
   exact⟨c,s1,k c H1 M1 o1 t1 q⟩
theorem dt_b (h:DE K ta ρ M fun x M1=>∃c,x = .d (.bool c)∧QB c M1):DT K (L2.tB ta) ρ M QB:=fun σ H QQ R k=>
 h σ H _ R fun v H1 x M1 o1 s1 t1 h1=>by
   obtain⟨c,rfl,q⟩:=h1
   unfold SI DV at s1
   exact⟨c,s1,k c H1 M1 o1 t1 q⟩
theorem dt_and (h:DT K tA ρ M fun c M1=>if c=true then DT K tB' ρ M1 QB else QB false M1):DT K (tAnd tA tB') ρ M QB:=fun σ H QQ R k=>
 h σ H _ R fun c H1 M1 o1 t1 h1=>by
   cases c with
   | false=>rw[if_neg nft] at h1 ⊢;exact k _ H1 M1 o1 t1 h1
   | true=>rw[if_pos rfl] at h1 ⊢;exact h1 σ H1 QQ (R.step o1 t1) fun b H2 M2 o2 t2 q=>k b H2 M2 o2 (t1.trans t2) q
theorem dt_or (h:DT K tA ρ M fun c M1=>if c=true then QB true M1 else DT K tB' ρ M1 QB):DT K (tOr tA tB') ρ M QB:=fun σ H QQ R k=>
 h σ H _ R fun c H1 M1 o1 t1 h1=>by
   cases c with
   | true=>rw[if_pos rfl] at h1 ⊢;exact k _ H1 M1 o1 t1 h1
   | false=>rw[if_neg nft] at h1 ⊢;exact h1 σ H1 QQ (R.step o1 t1) fun b H2 M2 o2 t2 q=>k b H2 M2 o2 (t1.trans t2) q
theorem dt_not (h:DT K tA ρ M fun c M1=>QB (!c) M1):DT K (tNot tA) ρ M QB:=fun σ H QQ R k=>h σ H _ R fun c H1 M1 o1 t1 h1=>k _ H1 M1 o1 t1 h1
theorem dt_yes (h:QB true M):DT K tYes ρ M QB:=fun σ H QQ R k=>k true H M R.own Step.refl h
theorem de_and (h:DE K ta ρ M fun x M1=>∃c,x = .d (.bool c)∧if c=true then DE K tb ρ M1 Q else Q (.d (.bool false)) M1):DE K (tAndV ta tb) ρ M Q:=fun σ H QQ R k=>
 h σ H _ R fun v H1 x M1 o1 s1 t1 h1=>by
   obtain⟨c,rfl,q⟩:=h1
   unfold SI DV at s1
   refine⟨c,s1,?_⟩
   cases c with
   | false=>rw[if_neg nft] at q ⊢;exact k _ H1 _ M1 o1 (by unfold SI DV;rfl) t1 q
   | true=>rw[if_pos rfl] at q ⊢;exact q σ H1 QQ (R.step o1 t1) fun w H2 z M2 o2 s2 t2 q=>k w H2 z M2 o2 s2 (t1.trans t2) q
theorem de_or (h:DE K ta ρ M fun x M1=>∃c,x = .d (.bool c)∧if c=true then Q (.d (.bool true)) M1 else DE K tb ρ M1 Q):DE K (tOrV ta tb) ρ M Q:=fun σ H QQ R k=>
 h σ H _ R fun v H1 x M1 o1 s1 t1 h1=>by
   obtain⟨c,rfl,q⟩:=h1
   unfold SI DV at s1
   refine⟨c,s1,?_⟩
   cases c with
   | true=>rw[if_pos rfl] at q ⊢;exact k _ H1 _ M1 o1 (by unfold SI DV;rfl) t1 q
   | false=>rw[if_neg nft] at q ⊢;exact q σ H1 QQ (R.step o1 t1) fun w H2 z M2 o2 s2 t2 q=>k w H2 z M2 o2 s2 (t1.trans t2) q
theorem de_not (h:DE K ta ρ M fun x M1=>∃c,x = .d (.bool c)∧Q (.d (.bool (!c))) M1):DE K (tNotV ta) ρ M Q:=fun σ H QQ R k=>
 h σ H _ R fun v H1 x M1 o1 s1 t1 h1=>by
   obtain⟨c,rfl,q⟩:=h1
   unfold SI DV at s1
   exact⟨c,s1,k _ H1 _ M1 o1 (by unfold SI DV;rfl) t1 q⟩
theorem de_if (h:DT K tA ρ M fun c M1=>if c=true then DE K ta ρ M1 Q else DE K tb ρ M1 Q):DE K (tIf tA ta tb) ρ M Q:=fun σ H QQ R k=>
 h σ H _ R fun c H1 M1 o1 t1 h1=>by
   cases c with
   | true=>rw[if_pos rfl] at h1 ⊢;exact h1 σ H1 QQ (R.step o1 t1) fun w H2 z M2 o2 s2 t2 q=>k w H2 z M2 o2 s2 (t1.trans t2) q
   | false=>rw[if_neg nft] at h1 ⊢;exact h1 σ H1 QQ (R.step o1 t1) fun w H2 z M2 o2 s2 t2 q=>k w H2 z M2 o2 s2 (t1.trans t2) q
variable {QL:List DS→Own→Prop}{tl:TA}
theorem da_nil (h:QL [] M):DA K tNil ρ M QL:=fun σ H QQ R k=>k [] H [] M R.own rfl Step.refl h
theorem da_cons (h:DE K ta ρ M fun x M1=>DA K tl ρ M1 fun xs M2=>QL (x::xs) M2):DA K (tCons ta tl) ρ M QL:=fun σ H QQ R k=>
 h σ H _ R fun v H1 x M1 o1 s1 t1 h1=>h1 σ H1 _ (R.step o1 t1) fun vs H2 xs M2 o2 s2 t2 q=>k (v::vs) H2 (x::xs) M2 o2 ⟨v,vs,rfl,s1.step t2,s2⟩ (t1.trans t2) q
def allD:List DS→Option (List PyData)
 | []=>some []
 | .d x::r=>match allD r with
   | some l=>some (x::l)
   | none=>none
 | .loc _::_=>none
 | .ty _::_=>none
theorem SIs.data {H:Hp}:∀{xs:List DS}{ds:List PyData}{vs:List V},allD xs=some ds→SIs K H M xs vs→DVs K H M.W ds vs
 | [],ds,vs,e,h=>by cases e;cases h;exact DVs.nil
 | .d x::r,ds,vs,e,⟨v,q,e2,h1,h2⟩=>by
   cases e3:allD r with
   | none=>rw[allD,e3] at e;cases e
   | some es=>
     rw[allD,e3] at e;cases e
     subst e2
     exact DVs.cons h1 (SIs.data e3 h2)
 | .loc _::_,ds,vs,e,_=>by cases e
 | .ty _::_,ds,vs,e,_=>by cases e
theorem SIs.length {H:Hp}:∀{xs:List DS}{vs:List V},SIs K H M xs vs→vs.length=xs.length
 | [],vs,h=>by cases h;rfl
 | _::r,vs,⟨v,q,e2,h1,h2⟩=>by subst e2;simp[SIs.length h2]
theorem de_tup (h:DA K tl ρ M fun xs M1=>∃ds,allD xs=some ds∧ds.length≤sizeLine∧Q (.d (.tuple ds)) M1):DE K (tTup tl) ρ M Q:=fun σ H QQ R k=>
 h σ H _ R fun vs H1 xs M1 o1 s1 t1 h1=>by
   obtain⟨ds,e,hz,q⟩:=h1
   have hd:=s1.data e
   refine⟨by rw[hd.length];exact hz,fun p hp=>?_⟩
   have g:Grow K M1.W M1.W H1 (upd H1 p (.tup vs)):=grow_new _ hp
   refine k _ _ (.d (.tuple ds)) M1 (o1.new hp) ?_ (t1.trans ⟨g⟩) q
   unfold SI DV
   exact⟨p,vs,rfl,.inl ⟨fun w=>w (o1.none hp),.inl upd_same⟩,hd.grow g⟩
theorem de_lst (h:DA K tl ρ M fun xs M1=>∃ds,allD xs=some ds∧ds.length≤sizeLine∧Q (.d (.list ds)) M1):DE K (tLst tl) ρ M Q:=fun σ H QQ R k=>
 h σ H _ R fun vs H1 xs M1 o1 s1 t1 h1=>by
   obtain⟨ds,e,hz,q⟩:=h1
   have hd:=s1.data e
   refine⟨by rw[hd.length];exact hz,fun p hp=>?_⟩
   have g:Grow K M1.W M1.W H1 (upd H1 p (.lst vs)):=grow_new _ hp
   refine k _ _ (.d (.list ds)) M1 (o1.new hp) ?_ (t1.trans ⟨g⟩) q
   unfold SI DV
   exact⟨p,vs,rfl,.inl ⟨fun w=>w (o1.none hp),.inl upd_same⟩,hd.grow g⟩
theorem de_lstO (h:DA K tl ρ M fun xs M1=>∃ds,allD xs=some ds∧ds.length≤sizeLine∧∀p,M1 p=none→Q (.loc p) (M1.put p (.l ds))):DE K (tLst tl) ρ M Q:=fun σ H QQ R k=>
 h σ H _ R fun vs H1 xs M1 o1 s1 t1 h1=>by
   obtain⟨ds,e,hz,q⟩:=h1
   have hd:=s1.data e
   refine⟨by rw[hd.length];exact hz,fun p hp=>?_⟩
   obtain⟨a,b⟩:=own_new o1 hp hd
   exact k _ _ (.loc p) _ a rfl (t1.trans b) (q p (o1.none hp))
theorem de_cb {r:List V→Hp→VK→Prop}(h:DA K tl ρ M fun xs M1=>DR K r xs M1 Q):DE K (tCB r tl) ρ M Q:=fun σ H QQ R k=>
 h σ H _ R fun vs H1 xs M1 o1 s1 t1 h1=>h1 H1 vs QQ o1 s1 fun w H2 z M2 o2 s2 t2 q=>k w H2 z M2 o2 s2 (t1.trans t2) q
structure FSp where
 pre:List DS→Own→Prop
 post:List DS→Own→DS→Own→Prop
def spD (K:Frg) (n:Nat) (S:FSp):Sp:=fun vs H Q _=>∃xs M,xs.length=n∧OA K H M∧SIs K H M xs vs∧S.pre xs M∧∀x M' v H',S.post xs M x M'→Step K M M' H H'→OA K H' M'→SI K H' M' x v→Q v H'
theorem spD_len {n:Nat}{S:FSp}:∀vs H Q E,spD K n S vs H Q E→vs.length=n:=fun vs H Q E ⟨xs,M,hl,_,h,_⟩=>by rw[h.length,hl]
theorem de_call {n:Nat}{S:FSp}{E:XK}(h:DA K tl ρ M fun xs M1=>xs.length=n∧S.pre xs M1∧∀x M',S.post xs M1 x M'→Q x M'):DE K (tCall (spD K n S) [] E tl) ρ M Q:=fun σ H QQ R k=>
 h σ H _ R fun vs H1 xs M1 o1 s1 t1 ⟨h0,h1,h2⟩=>by
   show spD K n S (vs++[]) H1 QQ E
   rw[List.append_nil]
   exact⟨xs,M1,h0,o1,s1,h1,fun x M' v H' p st oa si=>k v H' x M' oa si (t1.trans st) (h2 x M' p)⟩
theorem de_bm {T:String}{r:V→List V→Hp→VK→Prop}(h:DE K ta ρ M fun x M1=>DTy K T x M1∧DA K tl ρ M1 fun xs M2=>DM K r x xs M2 Q):DE K (tBM K T r ta tl) ρ M Q:=fun σ H QQ R k=>
 h σ H _ R fun v H1 x M1 o1 s1 t1 ⟨h0,h1⟩=>⟨h0 H1 v o1 s1,h1 σ H1 _ (R.step o1 t1) fun vs H2 xs M2 o2 s2 t2 h2=>h2 H2 v vs QQ o2 (s1.step t2) s2 fun w H3 z M3 o3 s3 t3 q=>k w H3 z M3 o3 s3 ((t1.trans t2).trans t3) q⟩
theorem dp_none {QP:Option Int→Own→Prop}(h:QP none M):DP K tNoPart ρ M QP:=fun σ H QQ R k=>k _ H M R.own Step.refl h
theorem dp_some {QP:Option Int→Own→Prop}(h:DE K ta ρ M fun x M1=>∃i,x = .d (.int i)∧QP (some i) M1):DP K (tPart ta) ρ M QP:=fun σ H QQ R k=>
 h σ H _ R fun v H1 x M1 o1 s1 t1 h1=>by
   obtain⟨i,rfl,q⟩:=h1
   unfold SI DV at s1
   exact⟨i,s1,k _ H1 M1 o1 t1 q⟩
theorem de_sl {r:V→Option Int→Option Int→Hp→VK→Prop}{tl th:TO}(h:DE K ta ρ M fun x M1=>DP K tl ρ M1 fun lo M2=>DP K th ρ M2 fun hi M3=>DSl K r x lo hi M3 Q):DE K (tSl r ta tl th) ρ M Q:=fun σ H QQ R k=>
 h σ H _ R fun v H1 x M1 o1 s1 t1 h1=>h1 σ H1 _ (R.step o1 t1) fun lo H2 M2 o2 t2 h2=>h2 σ H2 _ (R.step o2 (t1.trans t2)) fun hi H3 M3 o3 t3 h3=>h3 H3 v QQ o3 (s1.step (t2.trans t3)) fun w H4 z M4 o4 s4 t4 q=>k w H4 z M4 o4 s4 (((t1.trans t2).trans t3).trans t4) q
variable {D:EndsD}{t u:TS}
theorem ds_next (h:D.nx ρ M):DSt K tNext ρ M D:=fun σ H E R k1 _ _ _=>k1 ρ M σ H R Step.refl h
theorem ds_ret (h:DE K ta ρ M D.rt):DSt K (tRet ta) ρ M D:=fun σ H E R _ k2 _ _=>h σ H E.rt R fun v H' x M' a b c q=>k2 v H' x M' a b c q
theorem ds_drop (h:DE K ta ρ M fun _ M1=>D.nx ρ M1):DSt K (tDrop ta) ρ M D:=fun σ H E R k1 _ _ _=>h σ H _ R fun v H' x M' a b c q=>k1 ρ M' σ H' (R.step a c) c q
theorem ds_set {i:Nat}(h:DE K ta ρ M fun x M1=>D.nx (ρ.set i (some x)) M1):DSt K (tAsg ta (gName i)) ρ M D:=fun σ H E R k1 _ _ _=>
 h σ H _ R fun v H' x M' a b c q=>k1 _ M' _ H' ((R.step a c).set b i) c q
theorem ds_setc {i:Nat}(h:DE K ta ρ M fun x M1=>D.nx (ρ.set i (some x)) M1):DSt K (fun D σ H=>ta σ H fun v H'=>D.nx (σ.set i (some v)) H') ρ M D:=fun σ H E R k1 _ _ _=>
 h σ H _ R fun v H' x M' a b c q=>k1 _ M' _ H' ((R.step a c).set b i) c q
theorem ds_seq (h:DSt K t ρ M { D with nx:=fun ρ1 M1=>DSt K u ρ1 M1 D }):DSt K (tSeq t u) ρ M D:=fun σ H E R k1 k2 k3 k4=>by
 refine h σ H { E with nx:=fun σ' H'=>u E σ' H' } R (fun ρ1 M1 σ1 H1 R1 t1 q=>?_) k2 k3 k4
 exact q σ1 H1 E R1 (fun a b c d e f g=>k1 a b c d e (t1.trans f) g) (fun a b c d e f g q=>k2 a b c d e f (t1.trans g) q) (fun a b c d e f g=>k3 a b c d e (t1.trans f) g) (fun a b c d e f g=>k4 a b c d e (t1.trans f) g)
theorem ds_if (h:DT K tA ρ M fun c M1=>if c=true then DSt K t ρ M1 D else DSt K u ρ M1 D):DSt K (tIfS tA t u) ρ M D:=fun σ H E R k1 k2 k3 k4=>
 h σ H _ R fun c H1 M1 o1 t1 h1=>by
   have go:∀{w:TS},DSt K w ρ M1 D→w E σ H1:=fun q=>q σ H1 E (R.step o1 t1) (fun a b c d e f g=>k1 a b c d e (t1.trans f) g) (fun a b c d e f g q=>k2 a b c d e f (t1.trans g) q) (fun a b c d e f g=>k3 a b c d e (t1.trans f) g) (fun a b c d e f g=>k4 a b c d e (t1.trans f) g)
   cases c with
   | true=>rw[if_pos rfl] at h1 ⊢;exact go h1
   | false=>rw[if_neg nft] at h1 ⊢;exact go h1
theorem ds_mono {D':EndsD}(h:DSt K t ρ M D) (h1:∀ρ' M',D.nx ρ' M'→D'.nx ρ' M') (h2:∀x M',D.rt x M'→D'.rt x M') (h3:∀ρ' M',D.bk ρ' M'→D'.bk ρ' M') (h4:∀ρ' M',D.ct ρ' M'→D'.ct ρ' M'):DSt K t ρ M D':=
 fun σ H E R k1 k2 k3 k4=>h σ H E R (fun a b c d e f g=>k1 a b c d e f (h1 _ _ g)) (fun a b c d e f g q=>k2 a b c d e f g (h2 _ _ q)) (fun a b c d e f g=>k3 a b c d e f (h3 _ _ g)) (fun a b c d e f g=>k4 a b c d e f (h4 _ _ g))
theorem ds_freeze {i:Nat}{a:Addr}{ds:List PyData}(e:ρ[i]?=some (some (.loc a))) (m:M a=some (.l ds)) (h:DSt K t (ρ.set i (some (.d (.list ds)))) (M.del a) D):DSt K t ρ M D:=fun σ H E R k1 k2 k3 k4=>by
 have hs:(M.del a).Sub M:=fun b o q=>by
   unfold Own.del at q
   by_cases hb:b=a
   · rw[if_pos hb] at q;cases q
   · rw[if_neg hb] at q;exact q
 have st:Step K M (M.del a) H H:=⟨sub_grow hs⟩
 obtain⟨v,e1,e2⟩:=R.slot i _ e
 obtain⟨vs,q1,q2⟩:=R.own a _ m
 have R1:Rel K (M.del a) ρ σ H:=R.step (R.own.sub hs) st
 have R2:=R1.set (x:=.d (.list ds)) (v:=v) (by
   unfold SI DV
   refine⟨a,vs,e2,.inl ⟨fun w=>w (by unfold Own.del;rw[if_pos rfl]),.inl q1⟩,q2.grow (sub_grow hs)⟩) i
 have e3:σ.set i (some v)=σ:=by
   apply List.ext_getElem?
   intro j
   rw[List.getElem?_set]
   by_cases hij:i=j
   · subst hij
     rw[if_pos rfl,e1]
     split
     · rfl
     · rename_i hl
       rw[List.getElem?_eq_none (by omega)] at e1;cases e1
   · rw[if_neg hij]
 rw[e3] at R2
 exact h σ H E R2 (fun a b c d e f g=>k1 a b c d e (st.trans f) g) (fun a b c d e f g q=>k2 a b c d e f (st.trans g) q) (fun a b c d e f g=>k3 a b c d e (st.trans f) g) (fun a b c d e f g=>k4 a b c d e (st.trans f) g)
end
end DL
namespace DL
open PySem PySem.Spec L2
section
variable {K:Frg}{ρ:List (Option DS)}{M:Own}{Q:DS→Own→Prop}{H:Hp}
theorem si_int {i:Int}{v:V}(h:SI K H M (.d (.int i)) v):v = .int i:=by unfold SI DV at h;exact h
theorem si_bl {i:Bool}{v:V}(h:SI K H M (.d (.bool i)) v):v = .bl i:=by unfold SI DV at h;exact h
theorem si_str {i:Str}{v:V}(h:SI K H M (.d (.str i)) v):v = .str i:=by unfold SI DV at h;exact h
theorem si_non {v:V}(h:SI K H M (.d .none) v):v = .non:=by unfold SI DV at h;exact h
theorem si_of_int {i:Int}:SI K H M (.d (.int i)) (.int i):=by unfold SI DV;rfl
theorem si_of_bl {i:Bool}:SI K H M (.d (.bool i)) (.bl i):=by unfold SI DV;rfl
theorem si_of_str {i:Str}:SI K H M (.d (.str i)) (.str i):=by unfold SI DV;rfl
theorem d2_i {g:Int→Int→Int}{i j:Int}(q:Q (.d (.int (g i j))) M):D2 K (rI0 fun i j=>.int (g i j)) (.d (.int i)) (.d (.int j)) M Q:=fun H v u QQ oa s1 s2 k=>by
 rw[si_int s1,si_int s2];exact⟨i,j,rfl,rfl,k _ H _ M oa si_of_int Step.refl q⟩
theorem d2_b {g:Int→Int→Bool}{i j:Int}(q:Q (.d (.bool (g i j))) M):D2 K (rI0 fun i j=>.bl (g i j)) (.d (.int i)) (.d (.int j)) M Q:=fun H v u QQ oa s1 s2 k=>by
 rw[si_int s1,si_int s2];exact⟨i,j,rfl,rfl,k _ H _ M oa si_of_bl Step.refl q⟩
theorem d2_iC {C:Int→Int→Prop}{g:Int→Int→Int}{i j:Int}(c:C i j) (q:Q (.d (.int (g i j))) M):D2 K (rI C fun i j=>.int (g i j)) (.d (.int i)) (.d (.int j)) M Q:=fun H v u QQ oa s1 s2 k=>by
 rw[si_int s1,si_int s2];exact⟨i,j,rfl,rfl,c,k _ H _ M oa si_of_int Step.refl q⟩
theorem d1_i {g:Int→Int}{i:Int}(q:Q (.d (.int (g i))) M):D1 K (rU fun i=>.int (g i)) (.d (.int i)) M Q:=fun H v QQ oa s1 k=>by
 rw[si_int s1];exact⟨i,rfl,k _ H _ M oa si_of_int Step.refl q⟩
theorem d2_cats {i j:Str}(hz:i.length+j.length≤sizeLine) (q:Q (.d (.str (i++j))) M) :
   D2 K (fun x y H Q=>∃i j,x = .str i∧y = .str j∧i.length+j.length≤sizeLine∧Q (.str (i++j)) H) (.d (.str i)) (.d (.str j)) M Q:=fun H v u QQ oa s1 s2 k=>by
 rw[si_str s1,si_str s2];exact⟨i,j,rfl,rfl,hz,k _ H _ M oa si_of_str Step.refl q⟩
theorem d2_ins {i j:Str}(q:Q (.d (.bool (!(Builtin.Str.occurrences j i 0 j.length 1).isEmpty))) M) :
   D2 K (fun x y H Q=>∃i j,x = .str i∧y = .str j∧Q (.bl (!(Builtin.Str.occurrences j i 0 j.length 1).isEmpty)) H) (.d (.str i)) (.d (.str j)) M Q:=fun H v u QQ oa s1 s2 k=>by
 rw[si_str s1,si_str s2];exact⟨i,j,rfl,rfl,k _ H _ M oa si_of_bl Step.refl q⟩
theorem d2_eq {neg:Bool}{a b:PyData}(ha:PySem.SeqAt.shaped a=true) (hb:PySem.SeqAt.shaped b=true) (q:Q (.d (.bool (if neg then !PyData.eqv a b else PyData.eqv a b))) M):D2 K (rEqD K neg) (.d a) (.d b) M Q:=fun H v u QQ oa s1 s2 k=>
 ⟨M.W,a,b,s1,s2,ha,hb,k _ H _ M oa si_of_bl Step.refl q⟩
theorem dvs_at {W:Addr→Prop}{ds:List PyData}{vs:List V}{i:Int}{d:PyData}(h:DVs K H W ds vs) (e:atI ds i=some d):∃v,atI vs i=some v∧DV K H W d v:=by
 unfold atI at e ⊢
 rw[h.length]
 cases hx:ixN ds.length i with
 | none=>rw[hx] at e;cases e
 | some j=>rw[hx] at e;simpa using h.get' (by simpa using e)
theorem d2_ixl {ds:List PyData}{i:Int}{d:PyData}(e:atI ds i=some d) (q:Q (.d d) M):D2 K (rIxL K) (.d (.list ds)) (.d (.int i)) M Q:=fun H v u QQ oa s1 s2 k=>by
 rw[si_int s2]
 unfold SI DV at s1
 obtain⟨a,vs,rfl,hl,hd⟩:=s1
 obtain⟨w,h1,h2⟩:=dvs_at hd e
 exact⟨a,vs,i,w,rfl,rfl,hl.sq,h1,k _ H (.d d) M oa h2 Step.refl q⟩
theorem d2_ixt {ds:List PyData}{i:Int}{d:PyData}(e:atI ds i=some d) (q:Q (.d d) M):D2 K (rIxT K) (.d (.tuple ds)) (.d (.int i)) M Q:=fun H v u QQ oa s1 s2 k=>by
 rw[si_int s2]
 unfold SI DV at s1
 obtain⟨a,vs,rfl,hl,hd⟩:=s1
 obtain⟨w,h1,h2⟩:=dvs_at hd e
 exact⟨a,vs,i,w,rfl,rfl,hl.sq,h1,k _ H (.d d) M oa h2 Step.refl q⟩
theorem d2_ixo {a:Addr}{ds:List PyData}{i:Int}{d:PyData}(m:M a=some (.l ds)) (e:atI ds i=some d) (q:Q (.d d) M):D2 K (rIxL K) (.loc a) (.d (.int i)) M Q:=fun H v u QQ oa s1 s2 k=>by
 rw[si_int s2]
 unfold SI at s1
 subst s1
 obtain⟨vs,h0,hd⟩:=oa a _ m
 obtain⟨w,h1,h2⟩:=dvs_at hd e
 exact⟨a,vs,i,w,rfl,rfl,SqL.of h0,h1,k _ H (.d d) M oa h2 Step.refl q⟩
theorem d2_ixs {z:Str}{i:Int}{c:Nat}(hz:z.length≤sizeLine) (e:atI z.cps.toList i=some c) (q:Q (.d (.str ⟨#[c]⟩)) M):D2 K rIxS (.d (.str z)) (.d (.int i)) M Q:=fun H v u QQ oa s1 s2 k=>by
 rw[si_int s2,si_str s1]
 exact⟨z,i,c,rfl,rfl,hz,e,k _ H _ M oa si_of_str Step.refl q⟩
theorem d2_or1 {r r':R2}{x y:DS}(h:D2 K r x y M Q):D2 K (fun x y H Q=>r x y H Q∨r' x y H Q) x y M Q:=fun H v u QQ oa s1 s2 k=>.inl (h H v u QQ oa s1 s2 k)
theorem d2_or2 {r r':R2}{x y:DS}(h:D2 K r' x y M Q):D2 K (fun x y H Q=>r x y H Q∨r' x y H Q) x y M Q:=fun H v u QQ oa s1 s2 k=>.inr (h H v u QQ oa s1 s2 k)
theorem d2_cat {as bs:List PyData}(hz:as.length+bs.length≤sizeLine) (q:Q (.d (.list (as++bs))) M):D2 K (fun x y H Q=>∃a b xs ys,x = .ref a∧y = .ref b∧SqL K H a xs∧SqL K H b ys∧xs.length+ys.length≤sizeLine∧∀p,H p=none→Q (.ref p) (upd H p (.lst (xs++ys)))) (.d (.list as)) (.d (.list bs)) M Q:=fun H v u QQ oa s1 s2 k=>by
 unfold SI DV at s1 s2
 obtain⟨a,vs,rfl,hl,hd⟩:=s1
 obtain⟨b,us,rfl,hl2,hd2⟩:=s2
 refine⟨a,b,vs,us,rfl,rfl,hl.sq,hl2.sq,by rw[hd.length,hd2.length];exact hz,fun p hp=>?_⟩
 have g:Grow K M.W M.W H (upd H p (.lst (vs++us))):=grow_new _ hp
 refine k _ _ (.d (.list (as++bs))) M (oa.new hp) ?_ ⟨g⟩ q
 unfold SI DV
 exact⟨p,_,rfl,.inl ⟨fun w=>w (oa.none hp),.inl upd_same⟩,(hd.append hd2).grow g⟩
theorem d2_catO {as bs:List PyData}(hz:as.length+bs.length≤sizeLine) (q:∀p,M p=none→Q (.loc p) (M.put p (.l (as++bs)))):D2 K (fun x y H Q=>∃a b xs ys,x = .ref a∧y = .ref b∧SqL K H a xs∧SqL K H b ys∧xs.length+ys.length≤sizeLine∧∀p,H p=none→Q (.ref p) (upd H p (.lst (xs++ys)))) (.d (.list as)) (.d (.list bs)) M Q:=fun H v u QQ oa s1 s2 k=>by
 unfold SI DV at s1 s2
 obtain⟨a,vs,rfl,hl,hd⟩:=s1
 obtain⟨b,us,rfl,hl2,hd2⟩:=s2
 refine⟨a,b,vs,us,rfl,rfl,hl.sq,hl2.sq,by rw[hd.length,hd2.length];exact hz,fun p hp=>?_⟩
 obtain⟨x,y⟩:=own_new oa hp (hd.append hd2)
 exact k _ _ (.loc p) _ x rfl y (q p (oa.none hp))
theorem dr_lens {z:Str}(hz:z.length≤sizeLine) (q:Q (.d (.int z.length)) M):DR K (fun xs H Q=>∃x n,xs=[x]∧LenV K x H n∧Q (.int (n:Nat)) H) [.d (.str z)] M Q:=fun H vs QQ oa s k=>by
 obtain⟨v,r,rfl,h1,h2⟩:=s
 cases h2
 rw[si_str h1]
 exact⟨_,_,rfl,⟨hz,rfl⟩,k _ H _ M oa si_of_int Step.refl q⟩
theorem dr_lenl {ds:List PyData}(q:Q (.d (.int ds.length)) M):DR K (fun xs H Q=>∃x n,xs=[x]∧LenV K x H n∧Q (.int (n:Nat)) H) [.d (.list ds)] M Q:=fun H vs QQ oa s k=>by
 obtain⟨v,r,rfl,h1,h2⟩:=s
 cases h2
 unfold SI DV at h1
 obtain⟨a,vs,rfl,hl,hd⟩:=h1
 exact⟨_,_,rfl,.inl ⟨vs,hl.sq,rfl⟩,k _ H (.d (.int ds.length)) M oa (by rw[hd.length];exact si_of_int) Step.refl q⟩
theorem dr_lent {ds:List PyData}(q:Q (.d (.int ds.length)) M):DR K (fun xs H Q=>∃x n,xs=[x]∧LenV K x H n∧Q (.int (n:Nat)) H) [.d (.tuple ds)] M Q:=fun H vs QQ oa s k=>by
 obtain⟨v,r,rfl,h1,h2⟩:=s
 cases h2
 unfold SI DV at h1
 obtain⟨a,vs,rfl,hl,hd⟩:=h1
 exact⟨_,_,rfl,.inr ⟨vs,hl.sq,rfl⟩,k _ H (.d (.int ds.length)) M oa (by rw[hd.length];exact si_of_int) Step.refl q⟩
theorem dr_abs {i:Int}(q:Q (.d (.int (if i < 0 then -i else i))) M):DR K (fun xs H Q=>∃i,xs=[.int i]∧Q (.int (if i < 0 then -i else i)) H) [.d (.int i)] M Q:=fun H vs QQ oa s k=>by
 obtain⟨v,r,rfl,h1,h2⟩:=s
 cases h2
 rw[si_int h1]
 exact⟨_,rfl,k _ H _ M oa si_of_int Step.refl q⟩
theorem dr_str {i:Int}(hz:i.natAbs.log2 < 1920) (q:Q (.d (.str (toString i))) M):DR K (fun xs H Q=>∃i:Int,xs=[.int i]∧i.natAbs.log2 < 1920∧Q (.str (toString i)) H) [.d (.int i)] M Q:=fun H vs QQ oa s k=>by
 obtain⟨v,r,rfl,h1,h2⟩:=s
 cases h2
 rw[si_int h1]
 exact⟨_,rfl,hz,k _ H _ M oa si_of_str Step.refl q⟩
theorem dr_all {bs:List Bool}(q:Q (.d (.bool (bs.all id))) M):DR K (fun xs H Q=>∃(p:Addr) (bs:List Bool),xs=[.ref p]∧SqL K H p (bs.map V.bl)∧Q (.bl (bs.all id)) H) [.d (.list (bs.map .bool))] M Q:=fun H vs QQ oa s k=>by
 obtain⟨v,r,rfl,h1,h2⟩:=s
 cases h2
 unfold SI DV at h1
 obtain⟨a,vs,rfl,hl,hd⟩:=h1
 rw[dvs_bools hd] at hl
 exact⟨a,bs,rfl,hl.sq,k _ H _ M oa si_of_bl Step.refl q⟩
theorem dty_str {z:Str}:DTy K "str" (.d (.str z)) M:=fun H v _ s=>by rw[si_str s];exact rfl
theorem dty_loc {a:Addr}{ds:List PyData}(m:M a=some (.l ds)):DTy K "list" (.loc a) M:=fun H v oa s=>by
 unfold SI at s
 subst s
 obtain⟨vs,h0,hd⟩:=oa a _ m
 exact .inl ⟨rfl,vs,SqL.of h0⟩
theorem dm_join {y:Str}{ys:List Str}(hz:(ys.map (·.length)).sum+ys.length*y.length≤16777216) (q:Q (.d (.str (Txt.join y ys))) M):DM K (rJoin K) (.d (.str y)) [.d (.list (ys.map .str))] M Q:=fun H v vs QQ oa s1 s2 k=>by
 obtain⟨u,r,rfl,h1,h2⟩:=s2
 cases h2
 rw[si_str s1]
 unfold SI DV at h1
 obtain⟨a,us,rfl,hl,hd⟩:=h1
 rw[dvs_strs hd] at hl
 exact⟨y,a,ys,rfl,rfl,hl.sq,hz,k _ H _ M oa si_of_str Step.refl q⟩
theorem dm_append {a:Addr}{ds:List PyData}{d:PyData}(m:M a=some (.l ds)) (hz:ds.length < sizeLine) (q:Q (.d .none) (M.put a (.l (ds++[d])))):DM K rAppend (.loc a) [.d d] M Q:=fun H v vs QQ oa s1 s2 k=>by
 obtain⟨u,r,rfl,h1,h2⟩:=s2
 cases h2
 unfold SI at s1
 subst s1
 obtain⟨us,h0,hd⟩:=oa a _ m
 obtain⟨x,y⟩:=own_write oa m (hd.append (DVs.cons h1 DVs.nil))
 exact⟨a,us,u,rfl,rfl,h0,by rw[hd.length];exact hz,k _ _ (.d .none) _ x (by unfold SI DV;rfl) y q⟩
theorem dsl_str {z:Str}{lo hi:Option Int}(hz:z.length≤sizeLine) (q:Q (.d (.str (Txt.slice z lo hi))) M):DSl K rSlS (.d (.str z)) lo hi M Q:=fun H v QQ oa s1 k=>by
 rw[si_str s1]
 exact⟨z,rfl,hz,k _ H _ M oa si_of_str Step.refl q⟩
def cutD (xs:List PyData) (lo hi:Option Int):List PyData:=(xs.drop (HT.sIx xs.length 0 lo)).take (HT.sIx xs.length xs.length hi - HT.sIx xs.length 0 lo)
theorem dsl_list {ds:List PyData}{lo hi:Option Int}(q:Q (.d (.list (cutD ds lo hi))) M):DSl K (rSlL K) (.d (.list ds)) lo hi M Q:=fun H v QQ oa s1 k=>by
 unfold SI DV at s1
 obtain⟨a,vs,rfl,hl,hd⟩:=s1
 refine⟨a,vs,rfl,hl.sq,fun p hp=>?_⟩
 have g:Grow K M.W M.W H (upd H p (.lst (cutV vs lo hi))):=grow_new _ hp
 have key:DVs K H M.W (cutD ds lo hi) (cutV vs lo hi):=by
   unfold cutD cutV
   rw[hd.length]
   exact(hd.drop _).take _
 refine k _ _ (.d (.list (cutD ds lo hi))) M (oa.new hp) ?_ ⟨g⟩ q
 unfold SI DV
 exact⟨p,_,rfl,.inl ⟨fun w=>w (oa.none hp),.inl upd_same⟩,key.grow g⟩
theorem ds_setitem {D:EndsD}{te to ti:TE}(h:DE K te ρ M fun x M1=>∃d,x = .d d∧DE K to ρ M1 fun o M2=>DE K ti ρ M2 fun i M3=>∃a ds k j,o = .loc a∧i = .d (.int k)∧M3 a=some (.l ds)∧ixN ds.length k=some j∧D.nx ρ (M3.put a (.l (ds.set j d)))) :
   DSt K (tAsg te (gSub to ti rSetL)) ρ M D:=fun σ H E R k1 _ _ _=>
 h σ H _ R fun v H1 x M1 o1 s1 t1 h1=>by
   obtain⟨d,rfl,h1⟩:=h1
   refine h1 σ H1 _ (R.step o1 t1) fun w H2 y M2 o2 s2 t2 h2=>h2 σ H2 _ (R.step o2 (t1.trans t2)) fun u H3 z M3 o3 s3 t3 h3=>?_
   obtain⟨a,ds,k,j,rfl,rfl,m,hj,q⟩:=h3
   rw[si_int s3]
   have e:=s2.step t3
   unfold SI at e
   subst e
   obtain⟨vs,h0,hd⟩:=o3 a _ m
   obtain⟨p1,p2⟩:=own_write o3 m (hd.set j (s1.step (t2.trans t3)))
   have st:=((t1.trans t2).trans t3).trans p2
   exact⟨a,vs,k,j,rfl,rfl,h0,by rw[hd.length];exact hj,k1 _ _ _ _ (R.step p1 st) st q⟩
end
end DL
namespace DL
open PySem PySem.Spec L2
structure WD (K:Frg) (J:It) (ds:List PyData) (H1:Hp) (M1:Own):Prop where
 go:∀(i:Nat) H' M',i < ds.length→OA K H' M'→Step K M1 M' H1 H'→J.go i H'
 stop:∀H' M',OA K H' M'→Step K M1 M' H1 H'→J.stop ds.length H'
 yld:∀(i:Nat) H' M' x H2,OA K H' M'→Step K M1 M' H1 H'→i < ds.length→J.yld i H' x H2→OA K H2 M'∧Step K M' M' H' H2∧∃d,ds[i]?=some d∧DV K H2 M'.W d x
def DI (K:Frg) (wi:TI) (ρ:List (Option DS)) (M:Own) (Q:List PyData→Own→Prop):Prop:=
 ∀(σ:St) (H:Hp) (R:It→Hp→Prop),Rel K M ρ σ H→(∀J ds H1 M1,OA K H1 M1→Step K M M1 H H1→WD K J ds H1 M1→Q ds M1→R J H1)→wi σ H R
def DG (K:Frg) (g:TG) (d:PyData) (ρ:List (Option DS)) (M:Own) (P:List (Option DS)→Own→Prop):Prop:=
 ∀(σ:St) (H:Hp) (v:V) (QQ:St→Hp→Prop),Rel K M ρ σ H→DV K H M.W d v→(∀ρ' M' σ' H',Rel K M' ρ' σ' H'→Step K M M' H H'→P ρ' M'→QQ σ' H')→g v σ H QQ
def GOnly (g:TG) (T:List Nat):Prop:=∀(v:V) (σ:St) (H:Hp) (QQ:St→Hp→Prop),g v σ H (fun σ2 H2=>(∀i,i∉T→σ2[i]?=σ[i]?)→QQ σ2 H2)→g v σ H QQ
section
variable {K:Frg}{ρ:List (Option DS)}{M:Own}{D:EndsD}{tl:TE}{tb:TS}{i:Nat}{QI:List PyData→Own→Prop}{g:TG}{wi:TI}
def signs (z:Str):List PyData:=z.cps.toList.map fun c=>.str ⟨#[c]⟩
def intsD (lo:Int) (n:Nat):List PyData:=(List.range n).map fun(i:Nat)=>.int (lo+i)
theorem di_rng1 {ta:TA}(h:DA K ta ρ M fun xs M1=>∃j:Int,xs=[.d (.int j)]∧-(2 ^ 62)≤j∧j < 2 ^ 62∧QI (intsD 0 j.toNat) M1):DI K (iRng1 ta) ρ M QI:=fun σ H R Rl k=>
 h σ H _ Rl fun vs H1 xs M1 o1 s1 t1 ⟨j,e,h1,h2,q⟩=>by
   subst e
   obtain⟨v,r,rfl,h3,h4⟩:=s1
   cases h4
   rw[show v = .int j by unfold SI DV at h3;exact h3]
   have hlen:(intsD 0 j.toNat).length=j.toNat:=by simp[intsD]
   refine⟨j,rfl,h1,h2,k _ (intsD 0 j.toNat) H1 M1 o1 t1 ⟨fun i H' M' hi oa st=>?_,fun H' M' oa st=>?_,fun i H' M' x H2 oa st hi y=>?_⟩ q⟩
   · show i < j.toNat;rw[← hlen];exact hi
   · show j.toNat≤(intsD 0 j.toNat).length;rw[hlen];exact Nat.le_refl _
   · obtain⟨rfl,rfl⟩:=y
     refine⟨oa,Step.refl,.int (0+i),?_,by unfold DV;rfl⟩
     unfold intsD
     rw[List.getElem?_map]
     rw[hlen] at hi
     simp[hi]
theorem dg_name {d:PyData}{P:List (Option DS)→Own→Prop}(h:P (ρ.set i (some (.d d))) M):DG K (gName i) d ρ M P:=fun σ H v QQ R dv k=>k _ M _ H (R.set (x:=.d d) dv i) Step.refl h
theorem go_name (i:Nat):GOnly (gName i) [i]:=fun v σ H QQ h=>h fun j hj=>by
 rw[List.getElem?_set_ne (by rintro rfl;exact hj (by simp))]
abbrev EndsD.turn (D:EndsD) (P:List (Option DS)→Own→Prop):EndsD:={ nx:=P,ct:=P,bk:=D.nx,rt:=D.rt }
theorem ds_for (h:DI K wi ρ M fun ds M1=>∃P:Nat→List (Option DS)→Own→Prop,P 0 ρ M1∧(∀k d ρ' M',ds[k]?=some d→P k ρ' M'→DG K g d ρ' M' fun ρ2 M2=>DSt K tb ρ2 M2 (D.turn (P (k+1))))∧∀ρ' M',P ds.length ρ' M'→D.nx ρ' M') :
   DSt K (tFor wi g tb) ρ M D:=fun σ H E R k1 k2 k3 k4=>
 h σ H _ R fun J ds H1 M1 o1 t1 wd ⟨P,p0,pt,pe⟩=>by
   refine⟨fun i m σ' H'=>m=ds.length - i∧i≤ds.length∧∃ρ' M',Rel K M' ρ' σ' H'∧Step K M1 M' H1 H'∧P i ρ' M',⟨_,rfl,Nat.zero_le _,ρ,M1,R.step o1 t1,Step.refl,p0⟩,?_⟩
   rintro i m σ' H' ⟨rfl,hi,ρ',M',R',st,p⟩
   by_cases hlt:i < ds.length
   · refine .inr ⟨wd.go i H' M' hlt R'.own st,fun σ2 H2=>∃ρ2 M2,Rel K M2 ρ2 σ2 H2∧Step K M1 M2 H1 H2∧P (i+1) ρ2 M2,fun σ2 H2 ⟨ρ2,M2,a,b,c⟩=>⟨ds.length - (i+1),by omega,rfl,hlt,ρ2,M2,a,b,c⟩,fun x H2 y=>?_⟩
     obtain⟨oa2,st2,d,e1,e2⟩:=wd.yld i H' M' x H2 R'.own st hlt y
     refine pt i d ρ' M' e1 p σ' H2 x _ (R'.step oa2 st2) e2 fun ρ3 M3 σ3 H3 R3 st3 b3=>?_
     have s3:=(st.trans st2).trans st3
     exact b3 σ3 H3 _ R3 (fun r m s hh R4 st4 q=>⟨r,m,R4,s3.trans st4,q⟩) (fun w hh x m a b c q=>k2 w hh x m a b (t1.trans (s3.trans c)) q)
       (fun r m s hh R4 st4 q=>k1 r m s hh R4 (t1.trans (s3.trans st4)) q) (fun r m s hh R4 st4 q=>⟨r,m,R4,s3.trans st4,q⟩)
   · have e:i=ds.length:=by omega
     subst e
     exact .inl ⟨wd.stop H' M' R'.own st,k1 ρ' M' σ' H' R' (t1.trans st) (pe ρ' M' p)⟩
def captD (fr:List (Option Nat)) (ρ:List (Option DS)):List (Option DS):=fr.map fun o=>o.bind fun j=>(ρ[j]?).join
theorem captD_get {fr:List (Option Nat)}{α:Type}{ρ:List (Option α)}{i:Nat}{x:α}(h:(fr.map fun o=>o.bind fun j=>(ρ[j]?).join)[i]?=some (some x)):∃j,fr[i]?=some (some j)∧ρ[j]?=some (some x):=by
 rw[List.getElem?_map] at h
 cases hf:fr[i]? with
 | none=>rw[hf] at h;cases h
 | some o=>
   rw[hf] at h
   cases o with
   | none=>cases h
   | some j=>
     refine⟨j,rfl,?_⟩
     have e2:((ρ[j]?).join)=some x:=Option.some.inj h
     cases hs:ρ[j]? with
     | none=>rw[hs] at e2;cases e2
     | some q=>rw[hs] at e2;cases q with
       | none=>cases e2
       | some v'=>cases e2;rfl
theorem Rel.capt {fr:List (Option Nat)}{σ:St}{H:Hp}(R:Rel K M ρ σ H):Rel K M (captD fr ρ) (L2.capt fr σ) H:=by
 refine⟨R.own,by unfold captD L2.capt;rw[List.length_map,List.length_map],fun i x e=>?_⟩
 obtain⟨j,e1,e2⟩:=captD_get e
 obtain⟨v,h1,h2⟩:=R.slot j x e2
 refine⟨v,?_,h2⟩
 unfold L2.capt
 rw[List.getElem?_map,e1]
 simp[h1]
theorem de_comp {fr:List (Option Nat)}{tt:TT}{te:TE}{T:List Nat}{Q:DS→Own→Prop}(ho:GOnly g T) (hT:∀i∈T,∀j,fr[i]?≠some (some j))
   (h:DI K wi ρ M fun ds M1=>ds.length < sizeLine∧∀D,M1 D=none→∃P:Nat→List PyData→Own→Prop,P 0 [] (M1.put D (.l []))∧(∀k acc M',P k acc M'→M' D=some (.l acc)∧acc.length≤k) ∧
     (∀k d acc M',ds[k]?=some d→P k acc M'→DG K g d (captD fr ρ) M' fun ρ2 M2=>DT K tt ρ2 M2 fun c M3=>if c=true then DE K te ρ2 M3 fun y M4=>∃r,y = .d r∧M4 D=some (.l acc)∧P (k+1) (acc++[r]) (M4.put D (.l (acc++[r]))) else P (k+1) acc M3) ∧
     ∀acc M',P ds.length acc M'→Q (.d (.list acc)) (M'.del D)) :
   DE K (tComp fr wi g tt te) ρ M Q:=fun σ H QQ R k=>
 h σ H _ R fun J ds H1 M1 o1 t1 wd ⟨hsz,hq⟩=>by
   intro A hA
   obtain⟨P,p0,pa,pt,pe⟩:=hq A (o1.none hA)
   obtain⟨oA,sA⟩:=own_new o1 hA (DVs.nil (K:=K) (H:=H1) (W:=M1.W))
   refine⟨fun i m ys H2=>m=ds.length - i∧i≤ds.length∧H2 A=some (.lst ys)∧∃acc M',OA K H2 M'∧Step K M1 M' H1 H2∧P i acc M',⟨_,rfl,Nat.zero_le _,upd_same,[],_,oA,sA,p0⟩,?_⟩
   rintro i m ys H2 ⟨rfl,hi,hys,acc,M',oa,st,p⟩
   refine⟨hys,?_⟩
   have hs0:∀{N:Own},(N.del A).Sub N:=fun {N} b o q=>by
     unfold Own.del at q
     by_cases hb:b=A
     · rw[if_pos hb] at q;cases q
     · rw[if_neg hb] at q;exact q
   by_cases hlt:i < ds.length
   · refine .inr ⟨wd.go i H2 M' hlt oa st,fun x H3 y=>?_⟩
     obtain⟨oa3,st3,d,e1,e2⟩:=wd.yld i H2 M' x H3 oa st hlt y
     have Rc:Rel K M' (captD fr ρ) (L2.capt fr σ) H3:=((R.step o1 t1).step oa3 (st.trans st3)).capt
     refine ho _ _ _ _ (pt i d acc M' e1 p (L2.capt fr σ) H3 x _ Rc e2 fun ρ3 M3 σ3 H4 R3 st4 b3 hext=>⟨fun i' v' hv'=>?_,?_⟩)
     · obtain⟨j,f1,f2⟩:=captD_get hv'
       rw[hext i' fun hm=>hT i' hm j f1]
       exact hv'
     · refine b3 σ3 H4 _ R3 fun c H5 M5 o5 st5 h5=>?_
       have sx:=((st.trans st3).trans st4).trans st5
       cases c with
       | false=>
         rw[if_neg nft] at h5 ⊢
         obtain⟨hm,_⟩:=pa _ _ _ h5
         obtain⟨vs,q1,q2⟩:=o5 A _ hm
         exact⟨vs,ds.length - (i+1),by omega,rfl,hlt,q1,acc,M5,o5,sx,h5⟩
       | true=>
         rw[if_pos rfl] at h5 ⊢
         refine h5 σ3 H5 _ (R3.step o5 st5) fun y H6 z M6 o6 s6 st6 h6=>?_
         obtain⟨r,rfl,hm,p'⟩:=h6
         obtain⟨vs,q1,q2⟩:=o6 A _ hm
         obtain⟨w1,w2⟩:=own_write o6 hm (q2.append (DVs.cons s6 DVs.nil))
         have hlen:acc.length≤i:=(pa _ _ _ p).2
         exact⟨vs,q1,by rw[q2.length];omega,ds.length - (i+1),by omega,rfl,hlt,upd_same,_,_,w1,(sx.trans st6).trans w2,p'⟩
   · have e:i=ds.length:=by omega
     subst e
     refine .inl ⟨wd.stop H2 M' oa st,?_⟩
     obtain⟨hm,_⟩:=pa _ _ _ p
     obtain⟨vs,q1,q2⟩:=oa A _ hm
     have hst:Step K M' (M'.del A) H2 H2:=⟨sub_grow hs0⟩
     refine k _ H2 (.d (.list acc)) (M'.del A) (oa.sub hs0) ?_ ((t1.trans st).trans hst) (pe acc M' p)
     unfold SI DV
     exact⟨A,vs,rfl,.inl ⟨fun w=>w (by unfold Own.del;rw[if_pos rfl]),.inl q1⟩,q2.grow (sub_grow hs0)⟩
theorem de_comp_pure {fr:List (Option Nat)}{tt:TT}{te:TE}{T:List Nat}{Q:DS→Own→Prop}(ho:GOnly g T) (hT:∀i∈T,∀j,fr[i]?≠some (some j))
   (h:DI K wi ρ M fun ds M1=>ds.length < sizeLine∧∃(c:PyData→Bool) (f:PyData→PyData),(∀d∈ds,∀M',DG K g d (captD fr ρ) M' fun ρ2 M2=>M2=M'∧DT K tt ρ2 M2 fun b M3=>M3=M'∧b=c d∧(c d=true→DE K te ρ2 M3 fun y M4=>y = .d (f d)∧M4=M'))∧Q (.d (.list ((ds.filter c).map f))) M1) :
   DE K (tComp fr wi g tt te) ρ M Q:=by
 refine de_comp ho hT fun σ H R Rl k=>h σ H R Rl fun J ds H1 M1 o1 t1 wd q=>k J ds H1 M1 o1 t1 wd ?_
 obtain⟨hsz,c,f,he,q⟩:=q
 refine⟨hsz,fun A hA=>⟨fun k acc M'=>acc=((ds.take k).filter c).map f∧M'=M1.put A (.l acc),⟨by simp,rfl⟩,fun k acc M' ⟨e1,e2⟩=>⟨by rw[e2];exact Own.put_same,?_⟩,fun k d acc M' hd ⟨e1,e2⟩=>?_,fun acc M' ⟨e1,e2⟩=>?_⟩⟩
 · rw[e1,List.length_map]
   exact Nat.le_trans (List.length_filter_le _ _) (by rw[List.length_take];omega)
 · have hm:d∈ds:=List.mem_of_getElem? hd
   intro σ H v QQ R dv kk
   refine he d hm M' σ H v QQ R dv fun ρ' M2 σ' H' R' st ⟨eM,q2⟩=>kk ρ' M2 σ' H' R' st fun σ2 H2 QQ2 R2 k2=>?_
   refine q2 σ2 H2 QQ2 R2 fun b H3 M3 o3 st3 ⟨eM3,eb,q3⟩=>k2 b H3 M3 o3 st3 ?_
   have ts:(ds.take (k+1)).filter c=(ds.take k).filter c++(if c d then [d] else []):=take_succ_filter c ds k d hd
   cases hb:c d with
   | false=>
     rw[hb] at eb
     subst eb
     refine L2.iteF ⟨?_,by rw[eM3,e2]⟩
     rw[ts,hb,e1];simp
   | true=>
     rw[hb] at eb
     subst eb
     refine L2.iteT ?_
     refine de_mono (q3 hb) fun y M4 ⟨ey,e4⟩=>⟨f d,ey,by rw[e4,e2];exact Own.put_same,?_,by rw[e4,e2,Own.put_put]⟩
     rw[ts,hb,e1];simp
 · rw[e2,Own.del_put hA,e1,List.take_length]
   exact q
end
def startD (N:List Str) (xs:List DS):List (Option DS):=xs.map some++List.replicate (N.length - xs.length) none
section
variable {P:Program}{w:World}{K:Frg}{mg:Str→Option Value}{base:Heap}
theorem SIs.get {M:Own}{H:Hp}:∀{xs:List DS}{vs:List V}{i:Nat}{x:DS},SIs K H M xs vs→xs[i]?=some x→∃v,vs[i]?=some v∧SI K H M x v
 | [],_,_,_,_,e=>by simp at e
 | d::ds,vs,i,x,⟨v,r,e',h1,h2⟩,e=>by
   subst e'
   cases i with
   | zero=>simp at e;subst e;exact⟨v,rfl,h1⟩
   | succ i=>simpa using SIs.get h2 (by simpa using e)
theorem rel_start {M:Own}{H:Hp}{N:List Str}{xs:List DS}{vs:List V}(oa:OA K H M) (h:SIs K H M xs vs):Rel K M (startD N xs) (L2.start N vs) H:=by
 have hl:=h.length
 refine⟨oa,by unfold startD L2.start;simp[hl],fun i x e=>?_⟩
 unfold startD at e
 by_cases hi:i < xs.length
 · rw[List.getElem?_append_left (by simpa using hi),List.getElem?_map] at e
   cases q:xs[i]? with
   | none=>rw[q] at e;cases e
   | some y=>
     rw[q] at e
     cases e
     obtain⟨v,h1,h2⟩:=h.get q
     refine⟨v,?_,h2⟩
     unfold L2.start
     rw[List.getElem?_append_left (by rw[List.length_map,hl];exact hi),List.getElem?_map,h1]
     rfl
 · rw[List.getElem?_append_right (by simpa using hi),List.getElem?_replicate] at e
   split at e <;> cases e
theorem fnD {x qual:Str}{st:Stmt}{f:Addr}{fd:FuncData}{N ps:List Str}{k:Nat}{S:FSp}(F:Fun K x qual st f fd) (Sc:FnScope N ps (defScope st))
   (hbody:∀(cdv:Value) (A:Around) (outer:List Env) (s:Shared) (H:Hp) (E:XK),Room k (A.deeper (PyProof.Rows.envOfC qual (defScope st) s.heap.objs.size f cdv)) →
     ∃t,PSs (cxOf CX0 P w K mg base N qual (defScope st) f cdv A outer s H E).nox (defBody st) t∧∀xs M,xs.length=ps.length→S.pre xs M→DSt K t (startD N xs) M { nx:=fun _ M1=>∃M2:Own,M2.Sub M1∧S.post xs M (.d .none) M2,rt:=fun y M1=>∃M2:Own,M2.Sub M1∧S.post xs M y M2 }) :
   FnOk P w K mg base CX0 (k+1) f fd ps (spD K ps.length S):=by
 refine F.ok Sc spD_len fun cdv A outer s H vs Q E hr h=>?_
 obtain⟨t,ht,hq⟩:=hbody cdv A outer s H E hr
 obtain⟨xs,M,hl,oa,si,pre,post⟩:=h
 refine⟨t,ht,hq xs M hl pre (L2.start N vs) H _ (rel_start oa si) ?_ ?_ (fun _ _ _ _ _ _ z=>z.elim) (fun _ _ _ _ _ _ z=>z.elim)⟩
 · rintro ρ' M1 σ' H' R st ⟨M2,hs,p⟩
   exact post (.d .none) M2 .non H' p (st.trans ⟨sub_grow hs⟩) (R.own.sub hs) (by unfold SI DV;rfl)
 · rintro v H' y M1 o s1 st ⟨M2,hs,p⟩
   exact post y M2 v H' p (st.trans ⟨sub_grow hs⟩) (o.sub hs) (s1.sub hs)
end
end DL
namespace L2
open PySem PySem.Spec PyProof.Rows
section
variable {X:Cx}{tg:Expr}
def rAddA (K:Frg):R2:=fun x y H Q=>(rI0 fun i j=>.int (i+j)) x y H Q∨((∃i j,x = .str i∧y = .str j∧i.length+j.length≤sizeLine∧Q (.str (i++j)) H)∨rCatL K x y H Q)
theorem op_addA:OpR X (binaryOp .Add) (rAddA X.K):=op_add.or (op_add_str.or op_catL)
def rIxA (K:Frg):R2:=fun x y H Q=>rIxL K x y H Q∨(rIxT K x y H Q∨rIxS x y H Q)
theorem ix_any:IxR X (rIxA X.K):=ix_list.or (ix_tup.or ix_str)
def rSlA (K:Frg):V→Option Int→Option Int→Hp→VK→Prop:=fun x lo hi H Q=>rSlL K x lo hi H Q∨rSlS x lo hi H Q
theorem sl_any:SlR X (rSlA X.K):=sl_list.or sl_str
def rLtA:R2:=fun x y H Q=>(rI0 fun i j=>.bl (decide (i < j))) x y H Q∨∃i j,x = .str i∧y = .str j∧Q (.bl (decide (i.cps.toList < j.cps.toList))) H
theorem op_ltA:OpR X (compareOp .Lt) rLtA:=op_lt.or op_lt_str
def rInA (K:Frg):R2:=fun x y H Q=>(∃i j,x = .str i∧y = .str j∧Q (.bl (!(Builtin.Str.occurrences j i 0 j.length 1).isEmpty)) H)∨rIn K false x y H Q
theorem op_inA:OpR X (compareOp .In) (rInA X.K):=op_in_str.or op_in_seq
def iAny (K:Frg) (tl:TE):TI:=fun σ H R=>tl σ H fun x H1=>(∃a,x = .ref a∧(∃xs,SqL K H1 a xs)∧R (Itl K a) H1)∨(∃a,x = .ref a∧(∃xs,SqT K H1 a xs)∧R (Itt K a) H1)∨∃y,x = .str y∧R (Its y) H1
theorem pi_any {l:Expr}{tl:TE}(hl:PE X l tl):PI X tg l (iAny X.K tl):=by
 intro pins s σ H R I h
 refine thn (hl pins s σ H _ I h) fun v s1 ⟨x,H1,I1,r1,q1⟩=>?_
 have fp:∀b∈[s1.heap.objs.size],FpOk X pins H1 b:=fun b hb=>by
   have e:b=s1.heap.objs.size:=by simpa using hb
   subst e
   exact I1.fpOk (Nat.le_refl _) (I1.hok.fresh (Nat.le_refl _))
 rcases q1 with ⟨a,e,⟨xs,hq⟩,q⟩ | ⟨a,e,⟨xs,hq⟩,q⟩ | ⟨y,e,q⟩
 · subst e
   cases r1
   obtain⟨its,rv,p,hz⟩:=I1.list hq
   refine wpAny_pyIter_list p.isList ?_
   exact⟨s1.heap.objs.size,[s1.heap.objs.size],_,_,H1,rfl,I1.kept (t':=s1.toks) fun b o e=>Heap.get?_push_of_some _ e,turn_list a _,⟨_,Heap.get?_push_size _ rfl,rfl,rfl⟩,fp,q⟩
 · subst e
   cases r1
   obtain⟨its,rv,p,hz⟩:=I1.tuple hq
   refine wpAny_pyIter_tuple (show s1.heap.IsTuple a its.toArray from p) ?_
   exact⟨s1.heap.objs.size,[s1.heap.objs.size],_,_,H1,rfl,I1.kept (t':=s1.toks) fun b o e=>Heap.get?_push_of_some _ e,turn_tuple a _,⟨_,Heap.get?_push_size _ rfl,rfl,rfl⟩,fp,q⟩
 · subst e
   obtain⟨t,rfl⟩:=r1
   cases ha:y.cps.all (· < 128)
   · exact wpAny_pyIter_wide ha ⟨s1.heap.objs.size,[s1.heap.objs.size],_,_,H1,rfl,I1.kept (t':=s1.toks) fun b o e=>Heap.get?_push_of_some _ e,
       turn_str s1.heap.objs.size "str_iterator" y t (by decide) (fun A hA=>Walks.strWide hA _ y t) (fun _ _ _ _ _ st h=>wpAny_pyIter_striter_wide st h),⟨_,Heap.get?_push_size _ rfl,rfl,rfl⟩,fp,q⟩
   · exact wpAny_pyIter_ascii ha ⟨s1.heap.objs.size,[s1.heap.objs.size],_,_,H1,rfl,I1.kept (t':=s1.toks) fun b o e=>Heap.get?_push_of_some _ e,
       turn_str s1.heap.objs.size "str_ascii_iterator" y t (by decide) (fun A hA=>Walks.strAscii hA _ y t) (fun _ _ _ _ _ st h=>wpAny_pyIter_striter_ascii st h),⟨_,Heap.get?_push_size _ rfl,rfl,rfl⟩,fp,q⟩
end
def isFree:NameKind→Bool | .free=>true | _=>false
def isCell:NameKind→Bool | .cell=>true | _=>false
def isLocal:NameKind→Bool | .local=>true | _=>false
def cscOk (osc:Scope) (ON:List Str) (scope:Scope) (NC:List Str) (fr:List (Option Nat)):Bool:=
 (match scope.kind with | .function=>true | _=>false)&&scope.names.all (fun y=>!isCell y.2) &&
 scope.names.all (fun y=>!isLocal y.2||(match scope.names.lookup y.1 with | some .local=>true | _=>false)) &&
 scope.names.all (fun y=>!isFree y.2||(match osc.names.lookup y.1 with | some .cell=>true | some .free=>true | _=>false)) &&
 fr.length==NC.length &&
 (List.range NC.length).all fun i=>match fr[i]?,NC[i]? with
   | some (some j),some x=>ON[j]?==some x&&(match scope.names.lookup x with | some .free=>true | _=>false)&&(match osc.names.lookup x with | some .cell=>true | some .free=>true | _=>false)
   | _,_=>true
theorem CSc.of {X:Cx}{scope:Scope}{NC:List Str}{fr:List (Option Nat)}{osc:Scope}{ON:List Str}(h:cscOk osc ON scope NC fr=true) (e:X.env.scope=osc) (eN:X.N=ON):CSc X scope NC fr:=by
 subst e eN
 unfold cscOk at h
 simp only[Bool.and_eq_true,List.all_eq_true,List.mem_range,beq_iff_eq] at h
 obtain⟨⟨⟨⟨⟨h1,h2⟩,h3⟩,h4⟩,h5⟩,h6⟩:=h
 refine⟨?_,fun y hy e=>?_,fun y hy e=>?_,fun y hy e=>?_,h5,fun i j x e1 e2=>?_⟩
 · cases hk:scope.kind <;> rw[hk] at h1 <;> simp at h1 ⊢
 · have:=h2 y hy;rw[e] at this;simp[isCell] at this
 · have:=h3 y hy
   rw[e] at this
   simp only[isLocal,Bool.not_true,Bool.false_or] at this
   cases hl:scope.names.lookup y.1 with
   | none=>rw[hl] at this;cases this
   | some k=>rw[hl] at this;cases k <;> first | rfl | cases this
 · have:=h4 y hy
   rw[e] at this
   simp only[isFree,Bool.not_true,Bool.false_or] at this
   cases hl:X.env.scope.names.lookup y.1 with
   | none=>rw[hl] at this;cases this
   | some k=>
     rw[hl] at this
     cases k <;> first
       | exact .inl hl
       | exact .inr hl
       | cases this
 · have hi:i < NC.length:=(List.getElem?_eq_some_iff.mp e1).1
   have:=h6 i hi
   rw[e1,e2] at this
   simp only[Bool.and_eq_true,beq_iff_eq] at this
   obtain⟨⟨q1,q2⟩,q3⟩:=this
   refine⟨q1,?_,?_⟩
   · cases hl:scope.names.lookup x with
     | none=>rw[hl] at q2;cases q2
     | some k=>rw[hl] at q2;cases k <;> first | rfl | cases q2
   · cases hl:X.env.scope.names.lookup x with
     | none=>rw[hl] at q3;cases q3
     | some k=>
       rw[hl] at q3
       cases k <;> first
         | exact⟨.inr (.inl hl),fun z=>by have z':X.env.scope.names.lookup x=some .local:=z;rw[hl] at z';cases z'⟩
         | exact⟨.inr (.inr hl),fun z=>by have z':X.env.scope.names.lookup x=some .local:=z;rw[hl] at z';cases z'⟩
         | cases q3
end L2
namespace DL
open PySem PySem.Spec L2
section
variable {K:Frg}{ρ:List (Option DS)}{M:Own}{Q:DS→Own→Prop}{H:Hp}{QI:List PyData→Own→Prop}{tl ta tb:TE}
theorem d2A_addi {i j:Int}(q:Q (.d (.int (i+j))) M):D2 K (rAddA K) (.d (.int i)) (.d (.int j)) M Q:=d2_or1 (d2_i q)
theorem d2A_adds {i j:Str}(hz:i.length+j.length≤sizeLine) (q:Q (.d (.str (i++j))) M):D2 K (rAddA K) (.d (.str i)) (.d (.str j)) M Q:=d2_or2 (d2_or1 (d2_cats hz q))
theorem d2A_addl {a b:List PyData}(hz:a.length+b.length≤sizeLine) (q:Q (.d (.list (a++b))) M):D2 K (rAddA K) (.d (.list a)) (.d (.list b)) M Q:=d2_or2 (d2_or2 (d2_cat hz q))
theorem d2A_addO {a b:List PyData}(hz:a.length+b.length≤sizeLine) (q:∀p,M p=none→Q (.loc p) (M.put p (.l (a++b)))):D2 K (rAddA K) (.d (.list a)) (.d (.list b)) M Q:=d2_or2 (d2_or2 (d2_catO hz q))
theorem d2A_ixl {ds:List PyData}{i:Int}{d:PyData}(e:atI ds i=some d) (q:Q (.d d) M):D2 K (rIxA K) (.d (.list ds)) (.d (.int i)) M Q:=d2_or1 (d2_ixl e q)
theorem d2A_ixo {a:Addr}{ds:List PyData}{i:Int}{d:PyData}(m:M a=some (.l ds)) (e:atI ds i=some d) (q:Q (.d d) M):D2 K (rIxA K) (.loc a) (.d (.int i)) M Q:=d2_or1 (d2_ixo m e q)
theorem d2A_ixt {ds:List PyData}{i:Int}{d:PyData}(e:atI ds i=some d) (q:Q (.d d) M):D2 K (rIxA K) (.d (.tuple ds)) (.d (.int i)) M Q:=d2_or2 (d2_or1 (d2_ixt e q))
theorem d2A_ixs {z:Str}{i:Int}{c:Nat}(hz:z.length≤sizeLine) (e:atI z.cps.toList i=some c) (q:Q (.d (.str ⟨#[c]⟩)) M):D2 K (rIxA K) (.d (.str z)) (.d (.int i)) M Q:=d2_or2 (d2_or2 (d2_ixs hz e q))
theorem dslA_str {z:Str}{lo hi:Option Int}(hz:z.length≤sizeLine) (q:Q (.d (.str (Txt.slice z lo hi))) M):DSl K (rSlA K) (.d (.str z)) lo hi M Q:=fun H v QQ oa s1 k=>.inr (dsl_str hz q H v QQ oa s1 k)
theorem dslA_list {ds:List PyData}{lo hi:Option Int}(q:Q (.d (.list (cutD ds lo hi))) M):DSl K (rSlA K) (.d (.list ds)) lo hi M Q:=fun H v QQ oa s1 k=>.inl (dsl_list q H v QQ oa s1 k)
theorem d2A_lti {i j:Int}(q:Q (.d (.bool (decide (i < j)))) M):D2 K rLtA (.d (.int i)) (.d (.int j)) M Q:=d2_or1 (d2_b q)
theorem d2A_ins {i j:Str}(q:Q (.d (.bool (!(Builtin.Str.occurrences j i 0 j.length 1).isEmpty))) M):D2 K (rInA K) (.d (.str i)) (.d (.str j)) M Q:=d2_or1 (d2_ins q)
theorem diA_list (h:DE K tl ρ M fun x M1=>∃ds,x = .d (.list ds)∧QI ds M1):DI K (iAny K tl) ρ M QI:=fun σ H R Rl k=>
 h σ H _ Rl fun v H1 x M1 o1 s1 t1 ⟨ds,e,q⟩=>by
   subst e
   unfold SI DV at s1
   obtain⟨a,vs,rfl,hl,hd⟩:=s1
   refine .inl ⟨a,rfl,⟨vs,hl.sq⟩,k _ ds H1 M1 o1 t1 ⟨fun i H' M' hi oa st=>?_,fun H' M' oa st=>?_,fun i H' M' x H2 oa st hi y=>?_⟩ q⟩
   · exact⟨vs,vs[i]'(by rw[hd.length];exact hi),(hl.grow st.grow).sq,by simp[hd.length,hi]⟩
   · exact⟨vs,(hl.grow st.grow).sq,by rw[hd.length];exact Nat.le_refl _⟩
   · obtain⟨rfl,y⟩:=y
     obtain⟨d,e1,e2⟩:=hd.get (y vs (hl.grow st.grow).sq)
     exact⟨oa,Step.refl,d,e1,e2.grow st.grow⟩
theorem diA_tup (h:DE K tl ρ M fun x M1=>∃ds,x = .d (.tuple ds)∧QI ds M1):DI K (iAny K tl) ρ M QI:=fun σ H R Rl k=>
 h σ H _ Rl fun v H1 x M1 o1 s1 t1 ⟨ds,e,q⟩=>by
   subst e
   unfold SI DV at s1
   obtain⟨a,vs,rfl,hl,hd⟩:=s1
   refine .inr (.inl ⟨a,rfl,⟨vs,hl.sq⟩,k _ ds H1 M1 o1 t1 ⟨fun i H' M' hi oa st=>?_,fun H' M' oa st=>?_,fun i H' M' x H2 oa st hi y=>?_⟩ q⟩)
   · exact⟨vs,vs[i]'(by rw[hd.length];exact hi),(hl.grow st.grow).sq,by simp[hd.length,hi]⟩
   · exact⟨vs,(hl.grow st.grow).sq,by rw[hd.length];exact Nat.le_refl _⟩
   · obtain⟨rfl,y⟩:=y
     obtain⟨d,e1,e2⟩:=hd.get (y vs (hl.grow st.grow).sq)
     exact⟨oa,Step.refl,d,e1,e2.grow st.grow⟩
theorem diA_str (h:DE K tl ρ M fun x M1=>∃z,x = .d (.str z)∧QI (signs z) M1):DI K (iAny K tl) ρ M QI:=fun σ H R Rl k=>
 h σ H _ Rl fun v H1 x M1 o1 s1 t1 ⟨z,e,q⟩=>by
   subst e
   have hlen:(signs z).length=z.cps.size:=by simp[signs]
   rw[show v = .str z by unfold SI DV at s1;exact s1]
   refine .inr (.inr ⟨z,rfl,k _ (signs z) H1 M1 o1 t1 ⟨fun i H' M' hi oa st=>?_,fun H' M' oa st=>?_,fun i H' M' x H2 oa st hi y=>?_⟩ q⟩)
   · show i < z.cps.size;rw[← hlen];exact hi
   · exact hlen
   · obtain⟨rfl,c,e1,rfl⟩:=y
     exact⟨oa,Step.refl,.str ⟨#[c]⟩,by unfold signs;rw[List.getElem?_map];simp[e1],by unfold DV;rfl⟩
def tyD:PyData→String
 | .none => "NoneType"
 | .bool _ => "bool"
 | .int _ => "int"
 | .str _ => "str"
 | .list _ => "list"
 | .tuple _ => "tuple"
 | .dict _ => "dict"
end
end DL
namespace L2
open PySem PySem.Spec PyProof.Rows
section
variable {X:Cx}
def rIsiD (K:Frg):List V→Hp→VK→Prop:=fun xs H Q=>∃(x:V) (T:String) (d:PyData) (W:Addr→Prop) (b:Bool),xs=[x,.ty T]∧DV K H W d x∧PySem.W.kitOne K (.type (DL.tyD d)) (.type T)=some b∧Q (.bl b) H
theorem call_isiD:CallR X (.builtin "isinstance") (rIsiD X.K):=by
 intro pins s σ H xs us Q I r h
 obtain⟨x,T,d,W,b,rfl,dv,e,q⟩:=h
 obtain⟨u,u',rfl,ru,ru'⟩:=vals2 r
 cases ru'
 have fin:∀tk,EP X pins σ Q (.bool b) { s with toks:=tk }:=fun tk=>⟨.bl b,H,I.tok _,rfl,q⟩
 cases d with
 | none=>unfold DV at dv;subst dv;exact isinst_ok I ru (TyOf.non) e fin
 | bool y=>unfold DV at dv;subst dv;exact isinst_ok I ru (TyOf.bl _) e fin
 | int i=>unfold DV at dv;subst dv;exact isinst_ok I ru (TyOf.int _) e fin
 | str y=>unfold DV at dv;subst dv;exact isinst_ok I ru (TyOf.str _) e fin
 | list ds=>
   unfold DV at dv
   obtain⟨a,vs,rfl,hl,_⟩:=dv
   cases ru
   obtain⟨its,rv,⟨o,n,h1,h2,_,_⟩,_⟩:=I.list hl.sq
   exact PySem.W.kia_one PySem.W.kitx_list I.kIn ⟨o,h1,h2⟩ e (fun z=>nomatch z) fin
 | tuple ds=>
   unfold DV at dv
   obtain⟨a,vs,rfl,hl,_⟩:=dv
   cases ru
   obtain⟨its,rv,⟨o,h1,h2,_⟩,_⟩:=I.tuple hl.sq
   exact PySem.W.kia_one PySem.W.kitx_tuple I.kIn ⟨o,h1,h2⟩ e (fun z=>nomatch z) fin
 | dict kvs=>
   unfold DV at dv
   obtain⟨a,vs,rfl,_,hl,_⟩:=dv
   rcases hl with hl | ⟨o',hl⟩
   · exact isinst_ok I ru (TyOf.dK hl) e fin
   · cases ru
     obtain⟨_,_,vs',_,dd⟩:=dk_rd I.hok (.inr ⟨o',hl⟩)
     exact PySem.W.kia_one PySem.W.kitx_dict I.kIn dd.typeIs e (fun z=>nomatch z) fin
end
end L2
namespace DL
open PySem PySem.Spec L2
section
variable {K:Frg}{ρ:List (Option DS)}{M:Own}{Q:DS→Own→Prop}{H:Hp}{ta tb:TE}
theorem dr_isi {d:PyData}{T:String}{b:Bool}(e:PySem.W.kitOne K (.type (tyD d)) (.type T)=some b) (q:Q (.d (.bool b)) M):DR K (rIsiD K) [.d d,.ty T] M Q:=fun H vs QQ oa s k=>by
 obtain⟨v,r,rfl,h1,v2,r2,rfl,h2,h3⟩:=s
 cases h3
 rw[show v2 = .ty T from h2]
 exact⟨v,T,d,M.W,b,rfl,h1,e,k _ H _ M oa si_of_bl Step.refl q⟩
theorem own_newD {p:Addr}{ks:List (Key×V)}{kvs:List (PyData×PyData)}(oa:OA K H M) (h:H p=Option.none) (hd:DKV K H M.W kvs ks) :
   OA K (upd H p (.dK ks)) (M.put p (.d kvs))∧Step K M (M.put p (.d kvs)) H (upd H p (.dK ks)):=by
 have hM:=oa.none h
 have g:Grow K M.W (M.put p (.d kvs)).W H (upd H p (.dK ks)):=⟨fun b u e _=>.inl (by rw[upd_ne (ne_of_none e h)];exact e),fun b w=>by
   by_cases hb:b=p
   · subst hb;exact .inr h
   · left;unfold Own.W at w ⊢;rw[Own.put_ne hb] at w;exact w⟩
 refine⟨fun a o e=>?_,⟨g⟩⟩
 by_cases ha:a=p
 · subst ha;rw[Own.put_same] at e;cases e;exact⟨ks,upd_same,hd.grow g⟩
 · rw[Own.put_ne ha] at e
   have q:=oa a o e
   cases o with
   | l ds=>obtain⟨vs,q1,q2⟩:=q;exact⟨vs,by rw[upd_ne ha];exact q1,q2.grow g⟩
   | d kvs=>obtain⟨vs,q1,q2⟩:=q;exact⟨vs,by rw[upd_ne ha];exact q1,q2.grow g⟩
   | x C fs=>obtain⟨vs,q1,q2⟩:=q;exact⟨vs,by rw[upd_ne ha];exact q1,q2.grow g⟩
theorem own_writeD {p:Addr}{ks:List (Key×V)}{kvs:List (PyData×PyData)}{o:MO}(oa:OA K H M) (h:M p=some o) (hd:DKV K H M.W kvs ks) :
   OA K (upd H p (.dK ks)) (M.put p (.d kvs))∧Step K M (M.put p (.d kvs)) H (upd H p (.dK ks)):=by
 have hw:∀b,(M.put p (.d kvs)).W b→M.W b:=fun b w=>by
   unfold Own.W at w ⊢
   by_cases hb:b=p
   · subst hb;rw[h];simp
   · rw[Own.put_ne hb] at w;exact w
 have g:Grow K M.W (M.put p (.d kvs)).W H (upd H p (.dK ks)):=⟨fun b u e nw=>.inl (by
   rw[upd_ne (by rintro rfl;exact nw (by unfold Own.W;rw[h];simp))];exact e),fun b w=>.inl (hw b w)⟩
 refine⟨fun a o e=>?_,⟨g⟩⟩
 by_cases ha:a=p
 · subst ha;rw[Own.put_same] at e;cases e;exact⟨ks,upd_same,hd.grow g⟩
 · rw[Own.put_ne ha] at e
   have q:=oa a o e
   cases o with
   | l ds=>obtain⟨vs,q1,q2⟩:=q;exact⟨vs,by rw[upd_ne ha];exact q1,q2.grow g⟩
   | d kvs=>obtain⟨vs,q1,q2⟩:=q;exact⟨vs,by rw[upd_ne ha];exact q1,q2.grow g⟩
   | x C fs=>obtain⟨vs,q1,q2⟩:=q;exact⟨vs,by rw[upd_ne ha];exact q1,q2.grow g⟩
end
end DL
namespace DL
open PySem PySem.Spec L2
structure Has (P:Program) (w:World) (K:Frg) (mg:Str→Option Value) (base:Heap) (x:Str) (k:Nat) (ps:List Str) (S:FSp):Prop where
 ex:∃f fd,FnOk P w K mg base CX0 k f fd ps (spD K ps.length S)∧mg x=some (.ref f)∧PySem.W.keepIn K (.ref f)=true∧Binds K fd ps []
theorem pe_callH {X:Cx}{x:Str}{k:Nat}{ps:List Str}{S:FSp}{e:Expr}{es:List Expr}{t:TA}{p pos:Pos}(h:Has X.prog X.w X.K X.mg X.base x k ps S) (hr:Room k X.A) (hg:Gl X x) (ha:PA X (e::es) t)
   (hdb:(x==("__debug__":Str))=false:=by decide) (he:starEach (e::es) X.env=(false,eval e X.env)::starEach es X.env:=by rfl) (hpl:(backTo pos (starEach es X.env)).any (·.1)=false:=by rfl) :
   PE X (.Call (.Name x p) (e::es) [] pos) (tCall (spD X.K ps.length S) [] E0 t):=by
 obtain⟨f,fd,F,hm,hk,hb⟩:=h.ex
 exact pe_call F hr hg hm hk hb .nil pass0 ha hdb he hpl
theorem pe_gstr {X:Cx}{x z:Str}{pos:Pos}(hg:Gl X x) (h:∃t,X.mg x=some (.str z t)) (hd:(x==("__debug__":Str))=false:=by decide):PE X (.Name x pos) (tC (.str z)):=by
 obtain⟨t,h⟩:=h
 exact pe_glob hg h ⟨t,rfl⟩ hd
theorem pe_gint {X:Cx}{x:Str}{z:Int}{pos:Pos}(hg:Gl X x) (h:∃t,X.mg x=some (.int z t)) (hd:(x==("__debug__":Str))=false:=by decide):PE X (.Name x pos) (tC (.int z)):=by
 obtain⟨t,h⟩:=h
 exact pe_glob hg h ⟨t,rfl⟩ hd
end DL
namespace DL
open PySem PySem.Spec L2
section
variable {X:Cx}{K:Frg}
theorem kIx (h:X.K=K):IxR X (rIxA K):=h▸ix_any
theorem kIn (h:X.K=K):OpR X (compareOp .In) (rInA K):=h▸op_inA
theorem kEq (h:X.K=K) (hu:X.A.units+64 < cLine):OpR X (compareOp .Eq) (rEqD K false):=h▸op_eqD hu
theorem kNe (h:X.K=K) (hu:X.A.units+64 < cLine):OpR X (compareOp .NotEq) (rEqD K true):=h▸op_neD hu
def rLen (K:Frg):List V→Hp→VK→Prop:=fun xs H Q=>∃x n,xs=[x]∧LenV K x H n∧Q (.int (n:Nat)) H
def rAllK (K:Frg):List V→Hp→VK→Prop:=fun xs H Q=>∃(p:Addr) (bs:List Bool),xs=[.ref p]∧SqL K H p (bs.map V.bl)∧Q (.bl (bs.all id)) H
def rAbs:List V→Hp→VK→Prop:=fun xs H Q=>∃i,xs=[.int i]∧Q (.int (if i < 0 then -i else i)) H
def rStrI:List V→Hp→VK→Prop:=fun xs H Q=>∃i:Int,xs=[.int i]∧i.natAbs.log2 < 1920∧Q (.str (toString i)) H
theorem kLen (h:X.K=K):CallR X (.builtin "len") (rLen K):=h▸call_len
theorem kAll (h:X.K=K) (hc:X.calm=true):CallR X (.builtin "all") (rAllK K):=h▸call_all hc
theorem kAbs (_:X.K=K):CallR X (.builtin "abs") rAbs:=call_abs
theorem kIsi (h:X.K=K):CallR X (.builtin "isinstance") (rIsiD K):=h▸call_isiD
theorem kStr (_:X.K=K):CallR X (.type "str") rStrI:=call_str_int
theorem kJoin (h:X.K=K):MtR X "str.join" (rJoin K):=h▸mt_join
theorem kIter {tg l:Expr}{tl:TE}(h:X.K=K) (hl:PE X l tl):PI X tg l (iAny K tl):=h▸pi_any hl
theorem kCall {P:Program}{w:World}{mg:Str→Option Value}{base:Heap}{x:Str}{k:Nat}{ps:List Str}{S:FSp}{e:Expr}{es:List Expr}{t:TA}{p pos:Pos}(hK:X.K=K) (hP:X.prog=P) (hw:X.w=w) (hmg:X.mg=mg) (hbs:X.base=base)
   (h:Has P w K mg base x k ps S) (hr:Room k X.A) (hg:Gl X x) (ha:PA X (e::es) t)
   (hdb:(x==("__debug__":Str))=false:=by decide) (he:starEach (e::es) X.env=(false,eval e X.env)::starEach es X.env:=by rfl) (hpl:(backTo pos (starEach es X.env)).any (·.1)=false:=by rfl) :
   PE X (.Call (.Name x p) (e::es) [] pos) (tCall (spD K ps.length S) [] E0 t):=by
 subst hK hP hw hmg hbs
 exact pe_callH h hr hg ha hdb he hpl
variable {o e:Expr}{es:List Expr}{to:TE}{t:TA}{name:Str}{apos cpos:Pos}{T id:String}{r:V→List V→Hp→VK→Prop}
theorem kBm (h:X.K=K) (pa:PlainAttrs T) (slot:Slot T name id) (hty:typeOf (.builtin id)=pure (.type "method_descriptor")) (hm:MtR X id r) (ho:PE X o to) (ha:PA X (e::es) t)
   (hbase:attributeBase o name X.env (eval o X.env)=eval o X.env:=by rfl)
   (hfew:((backTo cpos (starEach (e::es) X.env)).all (fun x=>!x.1)&&(backToKw cpos (keywordEach [] X.env)).all (fun x=>x.1.isSome)
     && decide ((e::es).length+([]:List Keyword).length+(if ([]:List Keyword).isEmpty then 0 else 1) < 30))=true:=by rfl)
   (hline:(apos.endLine==cpos.line)=true:=by rfl) (hs:starEach (e::es) X.env=(false,eval e X.env)::starEach es X.env:=by rfl) (hplain:(backTo cpos (starEach es X.env)).any (·.1)=false:=by rfl) :
   PE X (.Call (.Attribute o name apos) (e::es) [] cpos) (tBM K T r to t):=h▸pe_bm pa slot hty hm ho ha hbase hfew hline hs hplain
end
section
variable {K:Frg}{M:Own}{Q:DS→Own→Prop}
theorem rd_lens {z:Str}(hz:z.length≤sizeLine) (q:Q (.d (.int z.length)) M):DR K (rLen K) [.d (.str z)] M Q:=dr_lens hz q
theorem rd_lenl {ds:List PyData}(q:Q (.d (.int ds.length)) M):DR K (rLen K) [.d (.list ds)] M Q:=dr_lenl q
theorem rd_lent {ds:List PyData}(q:Q (.d (.int ds.length)) M):DR K (rLen K) [.d (.tuple ds)] M Q:=dr_lent q
theorem rd_abs {i:Int}(q:Q (.d (.int (if i < 0 then -i else i))) M):DR K rAbs [.d (.int i)] M Q:=dr_abs q
theorem rd_str {i:Int}(hz:i.natAbs.log2 < 1920) (q:Q (.d (.str (toString i))) M):DR K rStrI [.d (.int i)] M Q:=dr_str hz q
theorem rd_all {bs:List Bool}(q:Q (.d (.bool (bs.all id))) M):DR K (rAllK K) [.d (.list (bs.map .bool))] M Q:=dr_all q
end
end DL
namespace DL
open PySem PySem.Spec L2
section
variable {X:Cx}{K:Frg}
def rTupleOf (K:Frg):List V→Hp→VK→Prop:=fun xs H Q=>∃p ys,xs=[.ref p]∧((SqL K H p ys∧∀l,H l=none→Q (.ref l) (upd H l (.tup ys)))∨(SqT K H p ys∧Q (.ref p) H))
theorem kTuple (h:X.K=K):CallR X (.type "tuple") (rTupleOf K):=h▸call_tuple_of
end
section
variable {K:Frg}{M:Own}{Q:DS→Own→Prop}{ρ:List (Option DS)}{H:Hp}
theorem rd_tupl {ds:List PyData}(q:Q (.d (.tuple ds)) M):DR K (rTupleOf K) [.d (.list ds)] M Q:=fun H vs QQ oa s k=>by
 obtain⟨v,r,rfl,h1,h2⟩:=s
 cases h2
 unfold SI DV at h1
 obtain⟨a,vs,rfl,hl,hd⟩:=h1
 refine⟨a,vs,rfl,.inl ⟨hl.sq,fun p hp=>?_⟩⟩
 have g:Grow K M.W M.W H (upd H p (.tup vs)):=grow_new _ hp
 refine k _ _ (.d (.tuple ds)) M (oa.new hp) ?_ ⟨g⟩ q
 unfold SI DV
 exact⟨p,vs,rfl,.inl ⟨fun w=>w (oa.none hp),.inl upd_same⟩,hd.grow g⟩
theorem dvs_of_strs {W:Addr→Prop}:∀{bs:List Str},DVs K H W (bs.map PyData.str) (bs.map V.str)
 | []=>DVs.nil
 | b::bs=>DVs.cons (by unfold DV;rfl) dvs_of_strs
def isNoneD:PyData→Bool | .none=>true | _=>false
theorem d2_isN {d:PyData}(q:Q (.d (.bool (isNoneD d))) M):D2 K (fun x y H Q=>y = .non∧Q (.bl (decide (x = .non))) H) (.d d) (.d .none) M Q:=fun H v u QQ oa s1 s2 k=>by
 refine⟨si_non s2,k _ H (.d (.bool (isNoneD d))) M oa ?_ Step.refl q⟩
 cases d <;> unfold SI DV at s1
 · rw[s1];exact si_of_bl
 · rw[s1];exact si_of_bl
 · rw[s1];exact si_of_bl
 · rw[s1];exact si_of_bl
 · obtain⟨a,_,rfl,_⟩:=s1;exact si_of_bl
 · obtain⟨a,_,rfl,_⟩:=s1;exact si_of_bl
 · obtain⟨a,_,rfl,_⟩:=s1;exact si_of_bl
theorem d2_notN {d:PyData}(q:Q (.d (.bool (!isNoneD d))) M):D2 K (fun x y H Q=>y = .non∧Q (.bl (!decide (x = .non))) H) (.d d) (.d .none) M Q:=fun H v u QQ oa s1 s2 k=>by
 refine⟨si_non s2,k _ H (.d (.bool (!isNoneD d))) M oa ?_ Step.refl q⟩
 cases d <;> unfold SI DV at s1
 · rw[s1];exact si_of_bl
 · rw[s1];exact si_of_bl
 · rw[s1];exact si_of_bl
 · rw[s1];exact si_of_bl
 · obtain⟨a,_,rfl,_⟩:=s1;exact si_of_bl
 · obtain⟨a,_,rfl,_⟩:=s1;exact si_of_bl
 · obtain⟨a,_,rfl,_⟩:=s1;exact si_of_bl
end
def DGs (K:Frg) (g:TGs) (ds:List PyData) (ρ:List (Option DS)) (M:Own) (P:List (Option DS)→Own→Prop):Prop:=
 ∀(σ:St) (H:Hp) (vs:List V) (QQ:St→Hp→Prop),Rel K M ρ σ H→DVs K H M.W ds vs→(∀ρ' M' σ' H',Rel K M' ρ' σ' H'→Step K M M' H H'→P ρ' M'→QQ σ' H')→g vs σ H QQ
section
variable {K:Frg}{M:Own}{ρ:List (Option DS)}{P:List (Option DS)→Own→Prop}
theorem dgs_nil (h:P ρ M):DGs K gNil [] ρ M P:=fun σ H vs QQ R hd k=>by
 unfold DVs at hd
 subst hd
 exact⟨rfl,k ρ M σ H R Step.refl h⟩
theorem dgs_cons {i:Nat}{g:TGs}{d:PyData}{ds:List PyData}(h:DGs K g ds (ρ.set i (some (.d d))) M P):DGs K (gCons (gName i) g) (d::ds) ρ M P:=fun σ H vs QQ R hd k=>by
 unfold DVs at hd
 obtain⟨v,r,rfl,h1,h2⟩:=hd
 exact⟨v,r,rfl,h (σ.set i (some v)) H r QQ (R.set (x:=.d d) h1 i) h2 k⟩
theorem dg_tup {n:Nat}{g:TGs}{ds:List PyData}(hn:ds.length=n) (h:DGs K g ds ρ M P):DG K (gTup K n g) (.tuple ds) ρ M P:=fun σ H v QQ R dv k=>by
 unfold DV at dv
 obtain⟨a,vs,rfl,hl,hd⟩:=dv
 exact⟨a,vs,rfl,hl.sq,by rw[hd.length];exact hn,h σ H vs QQ R hd k⟩
def GsOk (g:TGs) (T:List Nat):Prop:=(∀(vs:List V) (σ:St) (H:Hp) (Q Q':St→Hp→Prop),(∀a b,Q a b→Q' a b)→g vs σ H Q→g vs σ H Q') ∧
 (∀(vs:List V) (σ:St) (H:Hp) (QQ:St→Hp→Prop),g vs σ H QQ→g vs σ H fun σ2 H2=>(∀i,i∉T→σ2[i]?=σ[i]?)∧QQ σ2 H2)
theorem gs_nil:GsOk gNil []:=⟨fun vs σ H Q Q' m ⟨e,h⟩=>⟨e,m _ _ h⟩,fun vs σ H QQ ⟨e,h⟩=>⟨e,fun _ _=>rfl,h⟩⟩
theorem gs_cons {i:Nat}{g:TGs}{T:List Nat}(hg:GsOk g T):GsOk (gCons (gName i) g) (i::T):=by
 refine⟨fun vs σ H Q Q' m ⟨v,r,e,h⟩=>⟨v,r,e,hg.1 r _ H Q Q' m h⟩,fun vs σ H QQ ⟨v,r,e,h⟩=>⟨v,r,e,?_⟩⟩
 refine hg.1 r _ H _ _ (fun σ2 H2 ⟨h1,h2⟩=>⟨fun j hj=>?_,h2⟩) (hg.2 r (σ.set i (some v)) H QQ h)
 rw[h1 j fun z=>hj (List.mem_cons_of_mem _ z),List.getElem?_set_ne (by rintro rfl;exact hj List.mem_cons_self)]
theorem go_tup {n:Nat}{g:TGs}{T:List Nat}(hg:GsOk g T):GOnly (gTup K n g) T:=fun v σ H QQ ⟨a,xs,e,hs,hl,h⟩=>
 ⟨a,xs,e,hs,hl,hg.1 xs σ H _ _ (fun σ2 H2 ⟨h1,h2⟩=>h2 h1) (hg.2 xs σ H _ h)⟩
end
end DL
namespace L2
open PySem PySem.Spec PyProof.Rows
section
variable {X:Cx}{pins:List (Addr×Obj)}{σ:St}{H:Hp}{s:Shared}{h':Heap}
theorem Inv.turnedT {ch:List Addr}{T:Addr}{ys:List V}{t':Nat}(I:Inv X pins σ H s) (k:∀b o,b∉ch→s.heap.get? b=some o→h'.get? b=some o) (hn:∀b∈ch,H b=none)
   (hch:∀b∈ch,(b∈X.ex∨X.s₀.heap.objs.size≤b)∧b≠X.env.locals∧(∀x c,X.env.cells.lookup x=some c→c≠b)∧∀p∈X.pn++pins,p.1≠b)
   (hT:s.heap.objs.size≤T) (new:ObjOk X.prog X.w (upd H T (.tup ys)) h' T (.tup ys)):Inv X pins σ (upd H T (.tup ys)) { s with heap:=h',toks:=t' }:=by
 have hTn:H T=none:=I.hok.fresh hT
 have nch:∀b u,H b=some u→b∉ch:=fun b u e z=>by rw[hn b z] at e;cases e
 refine I.step (g':=s.gens) (d':=s.drawn) (ch:=ch) hch (fun b o _ _ hc e _=>k b o hc e) (fun b o _ _ hc e _=>⟨o.slots,k b o hc e⟩) (fun b o hc e n=>?_)
   (fun b o hc e=>⟨o,k b o hc e⟩) (fun b xs e=>?_) (fun b o u e=>?_) (fun b ps e=>⟨#[],?_⟩) (fun m hm=>?_) (fun b u e=>?_) I.bare
 · rw[upd_ne (Nat.ne_of_lt (Nat.lt_of_lt_of_le (Heap.lt_size e) hT))];exact n
 · rw[upd_ne (ne_of_none e hTn)];exact e
 · rw[upd_ne (ne_of_none e hTn)];exact e
 · rw[upd_ne (ne_of_none e hTn),e];simp
 · obtain⟨o,es,ep,ho,r⟩:=hm
   exact⟨o,es,ep,k _ o (fun z=>(hch _ z).2.1 rfl) ho,r⟩
 · by_cases hb:b=T
   · subst hb;rw[upd_same] at e;cases e;exact new
   · rw[upd_ne hb] at e
     refine(I.hok b u e).stay (fun c v hc q=>k c v ?_ q) (fun c q=>by rw[upd_ne (ne_of_none q hTn)];exact q) fun c xs q=>by rw[upd_ne (ne_of_none q hTn)];exact q
     rcases hc with z | z
     · rw[z];exact nch b u e
     · exact nch c _ z
theorem Inv.turnedL {ch:List Addr}{t':Nat}(I:Inv X pins σ H s) (k:∀b o,b∉ch→s.heap.get? b=some o→h'.get? b=some o) (hn:∀b∈ch,H b=none)
   (hch:∀b∈ch,(b∈X.ex∨X.s₀.heap.objs.size≤b)∧b≠X.env.locals∧(∀x c,X.env.cells.lookup x=some c→c≠b)∧∀p∈X.pn++pins,p.1≠b):Inv X pins σ H { s with heap:=h',toks:=t' }:=by
 have nch:∀b u,H b=some u→b∉ch:=fun b u e z=>by rw[hn b z] at e;cases e
 refine I.step (g':=s.gens) (d':=s.drawn) (ch:=ch) hch (fun b o _ _ hc e _=>k b o hc e) (fun b o _ _ hc e _=>⟨o.slots,k b o hc e⟩) (fun b o hc e n=>n)
   (fun b o hc e=>⟨o,k b o hc e⟩) (fun b xs e=>e) (fun b o u e=>e) (fun b ps e=>⟨#[],by rw[e];simp⟩) (fun m hm=>?_) (fun b u e=>?_) I.bare
 · obtain⟨o,es,ep,ho,r⟩:=hm
   exact⟨o,es,ep,k _ o (fun z=>(hch _ z).2.1 rfl) ho,r⟩
 · refine(I.hok b u e).stay (fun c v hc q=>k c v ?_ q) (fun c q=>q) fun c xs q=>q
   rcases hc with z | z
   · rw[z];exact nch b u e
   · exact nch c _ z
end
end L2
namespace DL
open PySem PySem.Spec L2
section
variable {K:Frg}{M:Own}{ρ:List (Option DS)}{QI:List PyData→Own→Prop}
def zipD (as bs:List PyData):List PyData:=(as.zip bs).map fun p=>.tuple [p.1,p.2]
end
end DL
namespace HT
open PySem PySem.Spec PyProof.Rows
section
variable {prog:Program}{w:World}{A:Around}{E:Value→Shared→Prop}{s:Shared}
theorem getItem_tuple_whole {t sl:Addr}{items:Array Value}{vl vu:Value}{lo hi:Option Int}{Q:Value→Shared→Prop}(ht:IsTup s.heap t items) (hs:s.heap.IsSliceOf sl vl vu .none) (pl:IsPart vl lo) (pu:IsPart vu hi)
   (hw:sIx items.size 0 lo=0∧sIx items.size items.size hi=items.size) (h:Q (.ref t) s):wpAny (model prog w) A (getItem (.ref t) (.ref sl)) Q E s:=by
 obtain⟨os,hos,hcs,hds⟩:=id hs
 have hTs:s.TypeIs (.ref sl) "slice" := ⟨os,hos,hcs⟩
 unfold getItem
 try with_reducible refine wpAny_holding ?_
 first | refine wpAny_bind (wpAny_pure ?_) | skip
 refine wpAny_bind (wpAny_sequenceKey ht.typeIs (by decide) ?_)
 refine wpAny_bind (wpAny_callSpecial?_slot (name:=Str.ofString "__getitem__") ht.typeIs PyProof.Rows.slot_tuple_getitem
   (wpAny_call_entry PyProof.Rows.slot_tuple_getitem ht.typeIs entry_tuple_getitem ?_ (args_tuple_getitem _ _)))
 show wpAny _ _ (Builtin.Tuple.tupleItemsOf (.ref t) >>= _) _ _ s
 refine wpAny_bind (tupleItemsOf_ ht ?_)
 refine wpAny_bind (wpAny_typeOf hTs ?_)
 rw[if_pos (by decide)]
 refine wpAny_bind (sliceApplied_gen hs pl pu ?_)
 have hno:((((sIx items.size 0 lo:Nat):Int)==0&&(1:Int)==1&&(sIx items.size items.size hi - sIx items.size 0 lo)==items.size)=true):=by
   rw[hw.1,hw.2];simp
 show wpAny _ _ (if (((sIx items.size 0 lo:Nat):Int)==0&&(1:Int)==1&&(sIx items.size items.size hi - sIx items.size 0 lo)==items.size)=true then _ else _) _ _ s
 rw[if_pos hno]
 refine wpAny_bind (m:=Builtin.Tuple.tupleIsExact _) (wpAny_bind (wpAny_typeOf ht.typeIs (wpAny_pure ?_)))
 show wpAny _ _ (if true=true then _ else _) _ _ s
 rw[if_pos rfl]
 first
   | exact wpAny_bind (wpAny_rule (wpAny_bind (wpAny_pure ⟨_,rfl,wpAny_pure h⟩)))
   | exact wpAny_bind (wpAny_rule (wpAny_pure ⟨_,rfl,wpAny_pure h⟩))
   | exact wpAny_bind (wpAny_rule (wpAny_bind (wpAny_pure (wpAny_pure ⟨_,rfl,wpAny_pure h⟩))))
end
end HT
namespace L2
open PySem PySem.Spec PyProof.Rows
section
variable {X:Cx}
def rSlTA (K:Frg):V→Option Int→Option Int→Hp→VK→Prop:=fun x lo hi H Q=>∃a xs,x = .ref a∧SqT K H a xs∧(cutV xs lo hi=xs→Q (.ref a) H)∧∀p,H p=none→Q (.ref p) (upd H p (.tup (cutV xs lo hi)))
theorem sl_tupA:SlR X (rSlTA X.K):=by
 intro pins s σ H x v vl vu lo hi sl Q I rx hs pl pu h
 obtain⟨a,xs,rfl,hx,q1,q2⟩:=h
 cases rx
 obtain⟨its,r,ht,hz⟩:=I.tuple hx
 have hlen:its.toArray.size=xs.length:=by rw[List.size_toArray];exact r.length.symm
 by_cases hw:HT.sIx xs.length 0 lo=0∧HT.sIx xs.length xs.length hi=xs.length
 · refine⟨"tuple", _,PyProof.Rows.slot_tuple_getitem.lookup,ht.typeIs,?_⟩
   refine HT.getItem_tuple_whole ht hs pl pu (by rw[hlen];exact hw) ⟨.ref a,H,I,rfl,q1 ?_⟩
   unfold cutV
   rw[hw.1,hw.2];simp
 · exact sl_tup pins s σ H (.ref a) (.ref a) vl vu lo hi sl Q I rfl hs pl pu ⟨a,xs,rfl,hx,hw,q2⟩
def rCatTA (K:Frg):R2:=fun x y H Q=>∃a b xs ys,x = .ref a∧y = .ref b∧SqT K H a xs∧SqT K H b ys∧xs.length+ys.length≤sizeLine ∧
 (xs=[]→Q (.ref b) H)∧(ys=[]→Q (.ref a) H)∧(∀p,H p=none→Q (.ref p) (upd H p (.tup (xs++ys))))
theorem op_catTA:OpR X (binaryOp .Add) (rCatTA X.K):=by
 intro pins s σ H x y v u Q I rx ry h
 obtain⟨t,b,xs,ys,rfl,rfl,hx,hy,hz,q0,q1,q2⟩:=h
 cases rx
 cases ry
 obtain⟨its,r,ht,_⟩:=I.tuple hx
 obtain⟨its2,r2,hb,_⟩:=I.tuple hy
 have e1:=r.length
 have e2:=r2.length
 obtain⟨⟨cls,dd,data,sl⟩,ho,hc,n,hd⟩:=id ht
 obtain⟨⟨cls2,dd2,data2,sl2⟩,ho2,hc2,n2,hd2⟩:=id hb
 dsimp only at hc hd hc2 hd2
 subst hc hd hc2 hd2
 have e:its.toArray++its2.toArray=(its++its2).toArray:=by simp
 by_cases hv:its=[]
 · have hx0:xs=[]:=by cases r with | nil=>rfl | cons _ _=>cases hv
   exact concat_meets ⟨_,ho,rfl⟩ ⟨_,ho2,rfl⟩ noFill_tuple_add seq_tuple_add PySem.F.slot_tuple_add PySem.F.entry_tuple_add (PySem.F.args_tuple_add_2 _ _)
     (tuple_addW0 t b its.toArray its2.toArray n n2 dd dd2 sl sl2 (by simp[hv])) ⟨ho,ho2,⟨.ref b,H,I,rfl,q0 hx0⟩⟩
 · by_cases hw:its2=[]
   · have hy0:ys=[]:=by cases r2 with | nil=>rfl | cons _ _=>cases hw
     exact concat_meets ⟨_,ho,rfl⟩ ⟨_,ho2,rfl⟩ noFill_tuple_add seq_tuple_add PySem.F.slot_tuple_add PySem.F.entry_tuple_add (PySem.F.args_tuple_add_2 _ _)
       (tuple_addW1 t b its.toArray its2.toArray n n2 dd dd2 sl sl2 (by simpa using hv) (by simp[hw])) ⟨ho,ho2,⟨.ref t,H,I,rfl,q1 hy0⟩⟩
   · refine concat_meets ⟨_,ho,rfl⟩ ⟨_,ho2,rfl⟩ noFill_tuple_add seq_tuple_add PySem.F.slot_tuple_add PySem.F.entry_tuple_add (PySem.F.args_tuple_add_2 _ _)
       (tuple_addW2 t b its.toArray its2.toArray n n2 dd dd2 sl sl2 (by simpa using hv) (by simpa using hw) (by rw[List.size_toArray,List.size_toArray];omega)) ⟨ho,ho2,?_⟩
     rw[e]
     refine⟨.ref s.heap.objs.size,_,I.laid (t':=s.toks) (o:=.tup (xs++ys)) (fun b ob q=>Heap.get?_push_of_some _ q) (Nat.le_refl _) ?_,rfl,q2 _ I.fresh⟩
     exact⟨by rw[List.length_append];exact hz,its++its2,r.append r2,IsTup.new _ _⟩
end
end L2
namespace DL
open PySem PySem.Spec L2
section
variable {X:Cx}{K:Frg}
def rAddB (K:Frg):R2:=fun x y H Q=>rAddA K x y H Q∨rCatTA K x y H Q
theorem kAddB (h:X.K=K):OpR X (binaryOp .Add) (rAddB K):=h▸op_addA.or op_catTA
def rSlB (K:Frg):V→Option Int→Option Int→Hp→VK→Prop:=fun x lo hi H Q=>rSlA K x lo hi H Q∨rSlTA K x lo hi H Q
theorem kSlB (h:X.K=K):SlR X (rSlB K):=h▸sl_any.or sl_tupA
end
section
variable {K:Frg}{M:Own}{Q:DS→Own→Prop}
theorem d2B_addi {i j:Int}(q:Q (.d (.int (i+j))) M):D2 K (rAddB K) (.d (.int i)) (.d (.int j)) M Q:=d2_or1 (d2A_addi q)
theorem d2B_adds {i j:Str}(hz:i.length+j.length≤sizeLine) (q:Q (.d (.str (i++j))) M):D2 K (rAddB K) (.d (.str i)) (.d (.str j)) M Q:=d2_or1 (d2A_adds hz q)
theorem d2B_addl {a b:List PyData}(hz:a.length+b.length≤sizeLine) (q:Q (.d (.list (a++b))) M):D2 K (rAddB K) (.d (.list a)) (.d (.list b)) M Q:=d2_or1 (d2A_addl hz q)
theorem d2B_addO {a b:List PyData}(hz:a.length+b.length≤sizeLine) (q:∀p,M p=none→Q (.loc p) (M.put p (.l (a++b)))):D2 K (rAddB K) (.d (.list a)) (.d (.list b)) M Q:=d2_or1 (d2A_addO hz q)
theorem d2B_addt {as bs:List PyData}(hz:as.length+bs.length≤sizeLine) (q:Q (.d (.tuple (as++bs))) M):D2 K (rAddB K) (.d (.tuple as)) (.d (.tuple bs)) M Q:=d2_or2 fun H v u QQ oa s1 s2 k=>by
 have s1':=s1
 have s2':=s2
 unfold SI DV at s1 s2
 obtain⟨a,vs,rfl,hl,hd⟩:=s1
 obtain⟨b,us,rfl,hl2,hd2⟩:=s2
 refine⟨a,b,vs,us,rfl,rfl,hl.sq,hl2.sq,by rw[hd.length,hd2.length];exact hz,fun e=>?_,fun e=>?_,fun p hp=>?_⟩
 · have:as=[]:=by have:=hd.length;rw[e] at this;exact List.length_eq_zero_iff.mp this.symm
   subst this
   exact k _ H (.d (.tuple ([]++bs))) M oa s2' Step.refl q
 · have:bs=[]:=by have:=hd2.length;rw[e] at this;exact List.length_eq_zero_iff.mp this.symm
   subst this
   rw[List.append_nil] at q
   exact k _ H (.d (.tuple as)) M oa s1' Step.refl q
 · have g:Grow K M.W M.W H (upd H p (.tup (vs++us))):=grow_new _ hp
   refine k _ _ (.d (.tuple (as++bs))) M (oa.new hp) ?_ ⟨g⟩ q
   unfold SI DV
   exact⟨p,_,rfl,.inl ⟨fun w=>w (oa.none hp),.inl upd_same⟩,(hd.append hd2).grow g⟩
theorem dslB_str {z:Str}{lo hi:Option Int}(hz:z.length≤sizeLine) (q:Q (.d (.str (Txt.slice z lo hi))) M):DSl K (rSlB K) (.d (.str z)) lo hi M Q:=fun H v QQ oa s1 k=>.inl (dslA_str hz q H v QQ oa s1 k)
theorem dslB_list {ds:List PyData}{lo hi:Option Int}(q:Q (.d (.list (cutD ds lo hi))) M):DSl K (rSlB K) (.d (.list ds)) lo hi M Q:=fun H v QQ oa s1 k=>.inl (dslA_list q H v QQ oa s1 k)
theorem dslB_tup {ds:List PyData}{lo hi:Option Int}(q:Q (.d (.tuple (cutD ds lo hi))) M):DSl K (rSlB K) (.d (.tuple ds)) lo hi M Q:=fun H v QQ oa s1 k=>.inr (by
 have s1':=s1
 unfold SI DV at s1
 obtain⟨a,vs,rfl,hl,hd⟩:=s1
 have key:DVs K H M.W (cutD ds lo hi) (cutV vs lo hi):=by
   unfold cutD cutV
   rw[hd.length]
   exact(hd.drop _).take _
 refine⟨a,vs,rfl,hl.sq,fun e=>?_,fun p hp=>?_⟩
 · refine k _ H (.d (.tuple (cutD ds lo hi))) M oa ?_ Step.refl q
   unfold SI DV
   exact⟨a,vs,rfl,hl,by rw[← e];rw[e] at key;rw[e];exact key⟩
 · have g:Grow K M.W M.W H (upd H p (.tup (cutV vs lo hi))):=grow_new _ hp
   refine k _ _ (.d (.tuple (cutD ds lo hi))) M (oa.new hp) ?_ ⟨g⟩ q
   unfold SI DV
   exact⟨p,_,rfl,.inl ⟨fun w=>w (oa.none hp),.inl upd_same⟩,key.grow g⟩)
end
end DL
namespace DL
open PySem PySem.Spec L2
theorem kTup {X:Cx}{K:Frg}{pos:Pos}{es:List Expr}{k:Nat}{t:TGs}{n:Nat}(hK:X.K=K) (hc:X.calm=true) (h:PGs X es t)
   (hn:(assignEach es X.env).length=n:=by rfl) (hst:(assignEach es X.env).findIdx? (·.1)=none:=by rfl):PG X (.Tuple es k pos) (gTup K n t):=hK▸pg_tup hc h hn hst
end DL
namespace DL
open PySem PySem.Spec L2
def fn1 (pre:PyData→Prop) (f:PyData→PyData):FSp:=⟨fun xs _=>∃d,xs=[.d d]∧pre d,fun xs M y M'=>∀d,xs=[.d d]→y = .d (f d)∧M'=M⟩
theorem fn1_call {pre:PyData→Prop}{f:PyData→PyData}{d:PyData}{M:Own}{Q:DS→Own→Prop}(p:pre d) (q:Q (.d (f d)) M):[DS.d d].length=1∧(fn1 pre f).pre [.d d] M∧∀x M',(fn1 pre f).post [.d d] M x M'→Q x M':=
 ⟨rfl,⟨d,rfl,p⟩,fun x M' h=>by obtain⟨rfl,rfl⟩:=h d rfl;exact q⟩
def isLet (c:Nat):Bool:=decide (97≤c)&&decide (c≤122)
def wholeD:PyData→Bool | .int _=>true | _=>false
def nameD:PyData→Bool | .str z=>decide (1≤z.cps.size)&&decide (z.cps.size≤8)&&z.cps.toList.all isLet | _=>false
def placeD:PyData→Bool | .int i=>decide (0≤i)&&decide (i≤999) | _=>false
def okS (z:Str):Prop:=z.cps.size≤5000∧∀c∈z.cps.toList,c < 128
def okD:PyData→Prop | .str z=>okS z | _=>True
def S_is_whole:FSp:=fn1 (fun _=>True) fun d=>.bool (wholeD d)
def S_is_name:FSp:=fn1 okD fun d=>.bool (nameD d)
def S_is_place:FSp:=fn1 (fun _=>True) fun d=>.bool (placeD d)
def withinD (d:PyData) (lo hi:Int):Bool:=match d with | .int i=>decide (lo≤i)&&decide (i≤hi) | _=>false
def S_is_within:FSp:=⟨fun xs _=>∃(d:PyData) (lo hi:Int),xs=[.d d,.d (.int lo),.d (.int hi)],fun xs M y M'=>∀(d:PyData) (lo hi:Int),xs=[.d d,.d (.int lo),.d (.int hi)]→y = .d (.bool (withinD d lo hi))∧M'=M⟩
theorem within_call {d:PyData}{lo hi:Int}{M:Own}{Q:DS→Own→Prop}(q:Q (.d (.bool (withinD d lo hi))) M):[DS.d d,.d (.int lo),.d (.int hi)].length=3∧S_is_within.pre [.d d,.d (.int lo),.d (.int hi)] M∧∀x M',S_is_within.post [.d d,.d (.int lo),.d (.int hi)] M x M'→Q x M':=
 ⟨rfl,⟨d,lo,hi,rfl⟩,fun x M' h=>by obtain⟨rfl,rfl⟩:=h d lo hi rfl;exact q⟩
theorem within_place (d:PyData):withinD d 0 999=placeD d:=by cases d <;> rfl
end DL
namespace DL
open PySem PySem.Spec L2
theorem in_letters:∀c:Nat,c < 128→(!(Builtin.Str.occurrences (Str.ofString "abcdefghijklmnopqrstuvwxyz") ⟨#[c]⟩ 0 (Str.ofString "abcdefghijklmnopqrstuvwxyz").length 1).isEmpty)=isLet c:=by decide +kernel
def letD:PyData→Bool | .str z=>z.cps.toList.all isLet | _=>false
theorem signs_let (z:Str):((signs z).filter fun _=>true).map (fun d=>PyData.bool (letD d))=(z.cps.toList.map isLet).map .bool:=by
 rw[List.filter_eq_self.mpr (by simp)]
 unfold signs
 rw[List.map_map,List.map_map]
 apply List.map_congr_left
 intro c hc
 simp[letD]
theorem all_map_id (l:List Nat) (f:Nat→Bool):(l.map f).all id=l.all f:=by simp
end DL
namespace DL
open PySem PySem.Spec L2
section
variable {K:Frg}{ρ:List (Option DS)}{M:Own}{D:EndsD}{t u:TS}
theorem ds_cut (P:List (Option DS)→Own→Prop) (h:DSt K t ρ M { D with nx:=P }) (h2:∀ρ1 M1,P ρ1 M1→DSt K u ρ1 M1 D):DSt K (tSeq t u) ρ M D:=
 ds_seq (ds_mono h (fun ρ' M' p=>h2 ρ' M' p) (fun _ _ q=>q) (fun _ _ q=>q) (fun _ _ q=>q))
end
def nameZ (z:Str):Prop:=1≤z.cps.size∧z.cps.size≤8∧∀c∈z.cps.toList,isLet c=true
end DL
namespace DL
open PySem PySem.Spec L2
theorem p64:(2:Int) ^ 64=18446744073709551616:=by decide
theorem cmul_l {i j:Int}(h1 : -1000000000000000 < i) (h2:i < 1000000000000000):CMul i j:=by
 refine .inl ⟨?_,?_⟩ <;> rw[p64] <;> omega
theorem cmul_r {i j:Int}(h1 : -1000000000000000 < j) (h2:j < 1000000000000000):CMul i j:=by
 refine .inr ⟨?_,?_⟩ <;> rw[p64] <;> omega
end DL
namespace DL
open PySem PySem.Spec L2
theorem setq {M:Own}{a:Addr}{ds:List PyData}{k:Int}{j:Nat}{F:Addr→List PyData→Nat→Prop}(m:M a=some (.l ds)) (e:ixN ds.length k=some j) (q:F a ds j) :
   ∃a' ds' k' j',DS.loc a = .loc a'∧DS.d (.int k) = .d (.int k')∧M a'=some (.l ds')∧ixN ds'.length k'=some j'∧F a' ds' j':=⟨a,ds,k,j,rfl,rfl,m,e,q⟩
end DL
namespace DL
open PySem PySem.Spec L2
theorem lstq {xs:List DS}{ds:List PyData}{Q:List PyData→Prop}(e:allD xs=some ds) (h:ds.length≤sizeLine) (q:Q ds):∃ds,allD xs=some ds∧ds.length≤sizeLine∧Q ds:=⟨ds,e,h,q⟩
end DL
namespace DL
open PySem PySem.Spec L2
theorem str_ext {x y:Str}(h:x.cps.toList=y.cps.toList):x=y:=by
 obtain⟨⟨a⟩⟩:=x
 obtain⟨⟨b⟩⟩:=y
 simp at h
 subst h
 rfl
theorem idx_take (n len:Nat):Builtin.Str.strSliceIndices none (some (n:Int)) 1 len=List.range (min n len):=by
 unfold Builtin.Str.strSliceIndices sliceRange
 have h1:¬((n:Int) < 0):=by omega
 have h2:max 0 (min (n:Int) (len:Int))=((min n len:Nat):Int):=by omega
 simp only[show(1:Int) > 0 by decide,if_true,h1,if_false,h2]
 have h3:(if (0:Int) < ((min n len:Nat):Int) then (((min n len:Nat):Int) - 0+1 - 1)/1 else 0).toNat=min n len:=by
   split
   · rw[Int.ediv_one];omega
   · omega
 rw[h3]
 apply List.ext_getElem?
 intro i
 rw[List.getElem?_map]
 by_cases h:i < min n len
 · simp[List.getElem?_range h]
 · simp[List.getElem?_eq_none (show(List.range (min n len)).length≤i by simp;omega)]
theorem pick_take (l:List Nat) (a:Array Nat) (m:Nat) (h:a.toList=l):(List.range m).filterMap (fun i=>a[i]?)=l.take m:=by
 induction m with
 | zero=>simp
 | succ m ih=>
   rw[List.range_succ,List.filterMap_append,ih,List.take_add_one]
   have e:a[m]?=l[m]?:=by rw[← h];simp
   simp only[List.filterMap_cons,List.filterMap_nil,e]
   cases l[m]? <;> simp
theorem slice_take (z:Str) (n:Nat):(Txt.slice z none (some (n:Int))).cps.toList=z.cps.toList.take n:=by
 unfold Txt.slice
 rw[idx_take]
 have hl:z.length=z.cps.toList.length:=by simp[Str.length]
 split
 · rename_i h
   simp only[List.length_range,beq_self_eq_true,Bool.true_and,beq_iff_eq] at h
   rw[List.take_of_length_le (by rw[← hl];omega)]
 · show(List.filterMap _ _).toArray.toList=_
   rw[pick_take z.cps.toList z.cps _ rfl,List.toList_toArray,hl,List.take_eq_take_iff]
   omega
theorem slice_let {z:Str}{n:Nat}{c:Nat}(h:c∈(Txt.slice z none (some (n:Int))).cps.toList):c∈z.cps.toList:=by
 rw[slice_take] at h;exact List.mem_of_mem_take h
theorem append_toList (x y:Str):(x++y).cps.toList=x.cps.toList++y.cps.toList:=by
 show(x.cps++y.cps).toList=_
 simp
theorem letters_len:(Str.ofString "abcdefghijklmnopqrstuvwxyz").length=26:=by decide +kernel
end DL
namespace DL
open PySem PySem.Spec L2
theorem flt (l:List PyData):l.filter (fun _=>true)=l:=List.filter_eq_self.mpr (by simp)
theorem signs_len (z:Str):(signs z).length=z.cps.size:=by simp[signs]
theorem let_size:(Str.ofString "abcdefghijklmnopqrstuvwxyz").cps.size=26:=by decide +kernel
theorem slice_len (z:Str) (l u:Option Int) {n:Nat}(h:z.length≤n):(Txt.slice z l u).length≤n:=Nat.le_trans (Txt.slice_le z l u) h
end DL
namespace DL
open PySem PySem.Spec L2
theorem let_lt {c:Nat}(h:isLet c=true):c < 128:=by
 unfold isLet at h;simp at h;omega
theorem nameD_str (s:Str):nameD (.str s)=(decide (1≤s.cps.size)&&decide (s.cps.size≤8)&&s.cps.toList.all isLet):=rfl
theorem size_list (s:Str):s.cps.size=s.cps.toList.length:=by simp
end DL
namespace DL
open PySem PySem.Spec L2
theorem shaped_of {d:PyData}(h1:d.canLay0=true) (h2:d.depth≤64):PySem.SeqAt.shaped d=true:=by
 unfold PySem.SeqAt.shaped;rw[h1,decide_eq_true h2];rfl
theorem canAll {ds:List PyData}(h:∀d∈ds,d.canLay0=true):PyData.canLayAll0 ds=true:=by
 induction ds with
 | nil=>rfl
 | cons d r ih=>rw[PyData.canLayAll0,h d List.mem_cons_self,ih fun x hx=>h x (List.mem_cons_of_mem _ hx)];rfl
theorem depAll {ds:List PyData}{n:Nat}(h:∀d∈ds,d.depth≤n):PyData.depthAll ds≤n:=by
 induction ds with
 | nil=>simp[PyData.depthAll]
 | cons d r ih=>
   have h1:=h d List.mem_cons_self
   have h2:=ih fun x hx=>h x (List.mem_cons_of_mem _ hx)
   simp only[PyData.depthAll];omega
theorem strOk_name {z:Str}(h:nameZ z):PyData.strOk z=true:=by
 unfold PyData.strOk
 rw[Array.all_eq_true']
 intro c hc
 have:=let_lt (h.2.2 c (by simpa using hc))
 simp;omega
theorem lets_isLet:∀c∈(Str.ofString "abcdefghijklmnopqrstuvwxyz").cps.toList,isLet c=true:=by decide +kernel
theorem lets_nodup:(Str.ofString "abcdefghijklmnopqrstuvwxyz").cps.toList.Nodup:=by decide +kernel
end DL
namespace DL
open PySem PySem.Spec L2
theorem sIx_nat (n d k:Nat):HT.sIx n d (some (k:Int))=min k n:=HT.sIx_nat n d k
theorem cut_from (xs:List PyData) (k:Nat):cutD xs (some (k:Int)) none=xs.drop k:=by
 unfold cutD
 rw[sIx_nat]
 show(xs.drop (min k xs.length)).take (xs.length - min k xs.length)=_
 rw[List.take_of_length_le (by rw[List.length_drop];omega)]
 by_cases h:k≤xs.length
 · rw[Nat.min_eq_left h]
 · rw[Nat.min_eq_right (by omega),List.drop_eq_nil_of_le (Nat.le_refl _),List.drop_eq_nil_of_le (by omega)]
theorem cut_to (xs:List PyData) (k:Nat):cutD xs none (some (k:Int))=xs.take k:=by
 unfold cutD
 rw[sIx_nat]
 show(xs.drop 0).take (min k xs.length - 0)=_
 rw[List.drop_zero,Nat.sub_zero,List.take_eq_take_iff];omega
theorem cut_mid (xs:List PyData) (a b:Nat):cutD xs (some (a:Int)) (some (b:Int))=(xs.take b).drop a:=by
 unfold cutD
 rw[sIx_nat,sIx_nat,List.drop_take]
 by_cases h:a≤xs.length
 · rw[Nat.min_eq_left h,List.take_eq_take_iff,List.length_drop];omega
 · rw[List.drop_eq_nil_of_le (show xs.length≤min a xs.length by omega),List.drop_eq_nil_of_le (show xs.length≤a by omega)];simp
theorem cut_len (xs:List PyData) (lo hi:Option Int):(cutD xs lo hi).length≤xs.length:=by
 unfold cutD;rw[List.length_take,List.length_drop];omega
def fn2 (pre:PyData→PyData→Prop) (f:PyData→PyData→PyData):FSp:=⟨fun xs _=>∃a b,xs=[.d a,.d b]∧pre a b,fun xs M y M'=>∀a b,xs=[.d a,.d b]→y = .d (f a b)∧M'=M⟩
theorem fn2_call {pre:PyData→PyData→Prop}{f:PyData→PyData→PyData}{a b:PyData}{M:Own}{Q:DS→Own→Prop}(p:pre a b) (q:Q (.d (f a b)) M):[DS.d a,.d b].length=2∧(fn2 pre f).pre [.d a,.d b] M∧∀x M',(fn2 pre f).post [.d a,.d b] M x M'→Q x M':=
 ⟨rfl,⟨a,b,rfl,p⟩,fun x M' h=>by obtain⟨rfl,rfl⟩:=h a b rfl;exact q⟩
def strOf:PyData→Str | .str z=>z | _=>⟨#[]⟩
theorem nameD_iff {d:PyData}(h:nameD d=true):∃z,d = .str z∧nameZ z:=by
 cases d with
 | str z=>
   rw[nameD_str] at h
   simp only[Bool.and_eq_true,decide_eq_true_eq,List.all_eq_true] at h
   exact⟨z,rfl,h.1.1,h.1.2,h.2⟩
 | _=>cases h
theorem nameD_of {z:Str}(h:nameZ z):nameD (.str z)=true:=by
 rw[nameD_str,decide_eq_true h.1,decide_eq_true h.2.1,List.all_eq_true.mpr h.2.2];rfl
end DL
namespace DL
open PySem PySem.Spec L2
theorem atI_some {α:Type}{xs:List α}{v:Int}(h0:0≤v) (h1:v < xs.length):∃x,atI xs v=some x∧x∈xs:=by
 obtain⟨n,rfl⟩:∃n:Nat,v=(n:Int):=⟨v.toNat,by omega⟩
 have hn:n < xs.length:=by omega
 exact⟨xs[n],atI_nat (List.getElem?_eq_getElem hn),List.getElem_mem hn⟩
end DL
namespace DL
open PySem PySem.Spec L2
theorem ds_asg {K:Frg}{ρ:List (Option DS)}{M:Own}{D:EndsD}{te:TE}{g:TG}(h:DE K te ρ M fun x M1=>∃d,x = .d d∧DG K g d ρ M1 D.nx):DSt K (tAsg te g) ρ M D:=fun σ H E R k1 _ _ _=>
 h σ H _ R fun v H' x M' a b c q=>by
   obtain⟨d,rfl,q⟩:=q
   exact q σ H' v _ (R.step a c) b fun ρ2 M2 σ2 H2 R2 st2 p=>k1 ρ2 M2 σ2 H2 R2 (c.trans st2) p
end DL
namespace DL
open PySem PySem.Spec L2
theorem kAppendM {X:Cx}:MtR X "list.append" rAppend:=mt_append
end DL
namespace L2
open PySem PySem.Spec PyProof.Rows
def EntS (w:World):List DictEntry→List (Str×Str)→Prop
 | [],[]=>True
 | e::es,kv::r=>e.hash=hashStr w kv.1∧(∃t,e.key = .str kv.1 t)∧(∃t,e.val = .str kv.2 t)∧EntS w es r
 | _,_=>False
def GDict (w:World) (K:Frg) (a:Addr) (kvs:List (Str×Str)):Prop:=
 (a==sysModules)=false∧(kvs.map (·.1)).Nodup∧∃es ep,K.lookup a=some { cls:=.type "dict", data:=.dict es ep }∧EntS w es.toList kvs
theorem EntS.pairs {P:Program}{w:World}:∀{es:List DictEntry}{kvs:List (Str×Str)},EntS w es kvs→∃vs:List (Key×Value),Pairs (mixKind P w) es vs∧KV (kvs.map fun kv=>((Sum.inr kv.1:Key),V.str kv.2)) vs∧vs.map (·.1)=kvs.map (fun kv=>(Sum.inr kv.1:Key))∧∀e∈es,∃k,(mixKind P w).is k e.key=true∧e.hash=(mixKind P w).hash k
 | [],[],_=>⟨[],.nil,.nil,rfl,by simp⟩
 | e::es,kv::r,⟨h1,⟨t,h2⟩,⟨t',h3⟩,h4⟩=>by
   obtain⟨vs,a,b,c,d⟩:=EntS.pairs (P:=P) h4
   have hk:(mixKind P w).is (Sum.inr kv.1) e.key=true:=by rw[h2];exact mixKind_str P w kv.1 t
   refine⟨(Sum.inr kv.1,e.val)::vs,.cons hk rfl a,.cons ⟨rfl,⟨t',h3⟩⟩ b,by rw[List.map_cons,List.map_cons,c],fun x hx=>?_⟩
   rcases List.mem_cons.mp hx with rfl | hx
   · exact⟨_,hk,h1⟩
   · exact d x hx
section
variable {X:Cx}{pins:List (Addr×Obj)}{σ:St}{H:Hp}{s:Shared}
theorem GDict.at {a:Addr}{kvs:List (Str×Str)}(g:GDict X.w X.K a kvs) (I:Inv X pins σ H s):∃vs,KV (kvs.map fun kv=>((Sum.inr kv.1:Key),V.str kv.2)) vs∧s.heap.DictOf (mixKind X.prog X.w) a vs:=by
 obtain⟨_,nd,es,ep,hk,he⟩:=g
 obtain⟨vs,p1,p2,p3,p4⟩:=he.pairs (P:=X.prog)
 refine⟨vs,p2,_,es,ep,I.kIn a _ hk,⟨rfl,rfl,rfl⟩,rfl,fun e he=>p4 e (by simpa using he),p1,?_⟩
 rw[p3]
 have:kvs.map (fun kv=>(Sum.inr kv.1:Key))=(kvs.map (·.1)).map Sum.inr:=by rw[List.map_map];rfl
 rw[this]
 unfold List.Nodup
 rw[List.pairwise_map]
 exact nd.imp fun {a b} q e=>q (by injection e)
def tGGet (kvs:List (Str×Str)) (ty:TE):TE:=fun σ H Q=>ty σ H fun y H1=>∃k:Str,y = .str k∧Q (((kvs.lookup k).map V.str).getD .non) H1
theorem valV_lookup (kvs:List (Str×Str)) (k:Str):valV (kvs.map fun kv=>((Sum.inr kv.1:Key),V.str kv.2)) (Sum.inr k)=(kvs.lookup k).map V.str:=by
 induction kvs with
 | nil=>rfl
 | cons kv r ih=>
   obtain⟨a,b⟩:=kv
   unfold valV at ih ⊢
   rw[List.map_cons,List.find?_cons,List.lookup_cons]
   by_cases h:a=k
   · subst h;simp
   · have h1:decide ((Sum.inr a:Key)=Sum.inr k)=false:=decide_eq_false fun e=>h (by injection e)
     have h2:(k==a)=false:=by simpa using fun e=>h e.symm
     simp only[h1,h2]
     exact ih
theorem pe_gget {x:Str}{p apos cpos:Pos}{e:Expr}{ty:TE}{kvs:List (Str×Str)}(hg:Gl X x) (hm:∃a,X.mg x=some (.ref a)∧GDict X.w X.K a kvs) (he:PE X e ty) (m:M1 X (.Name x p) "get" apos e cpos) (hd:(x==("__debug__":Str))=false:=by decide) :
   PE X (.Call (.Attribute (.Name x p) "get" apos) [e] [] cpos) (tGGet kvs ty):=by
 obtain⟨a,hm,g⟩:=hm
 intro pins s σ H Q I h
 refine wpAny_Call_method m.base m.few m.line PySem.F.plainAttrs_dict PySem.F.slot_dict_get PySem.F.type_dict_get (ld_glob I hg hm ?_ hd)
 obtain⟨vs,rel,dd⟩:=g.at I
 refine⟨dd.typeIs,fun b q=>?_,?_⟩
 · cases q
   obtain⟨ob,_,_,h1,h2,_⟩:=dd
   exact⟨ob,h1,h2.2.1⟩
 rw[m.trees]
 refine Calls.callWith_builtin rfl (Calls.evalArgs_plain (Calls.spliced_cons (thn (he pins s σ H _ I h) fun iv s2 ⟨y,H2,I2,ry,k,ey,q2⟩=>Calls.spliced_nil ?_)))
 subst ey
 obtain⟨vs',rel',dd'⟩:=g.at I2
 refine call_meetsIn PySem.F.slot_dict_get dd'.typeIs PySem.F.entry_dict_get (PySem.F.args_dict_get_2 _ _) (meets_dict_get (mixKind X.prog X.w) a (kV_is (k:=Sum.inr k) ry) g.1) ⟨_,dd'.mapOf,?_⟩
 refine⟨_,H2,I2.tok _,?_,q2⟩
 have:=(rel'.val (Sum.inr k)).getD (show RelV .non .none from rfl)
 rw[valV_lookup] at this
 exact this
end
end L2
namespace DL
open PySem PySem.Spec L2
section
variable {K:Frg}{ρ:List (Option DS)}{M:Own}{Q:DS→Own→Prop}{ty:TE}
def optD:Option Str→PyData | some z=>.str z | none=>.none
theorem de_gget {kvs:List (Str×Str)}(h:DE K ty ρ M fun y M1=>∃k,y = .d (.str k)∧Q (.d (optD (kvs.lookup k))) M1):DE K (tGGet kvs ty) ρ M Q:=fun σ H QQ R k=>
 h σ H _ R fun v H1 x M1 o1 s1 t1 h1=>by
   obtain⟨z,rfl,q⟩:=h1
   refine⟨z,si_str s1,?_⟩
   cases e:kvs.lookup z with
   | none=>rw[e] at q;exact k _ H1 (.d .none) M1 o1 (by unfold SI DV;rfl) t1 q
   | some y=>rw[e] at q;exact k _ H1 (.d (.str y)) M1 o1 si_of_str t1 q
theorem pe_gref {X:Cx}{x:Str}{a:Addr}{pos:Pos}(hg:Gl X x) (hm:X.mg x=some (.ref a)) (hd:(x==("__debug__":Str))=false:=by decide):PE X (.Name x pos) (tC (.ref a)):=pe_glob hg hm rfl hd
end
end DL
namespace L2
open PySem PySem.Spec PyProof.Rows
section
variable {X:Cx}
def rStarts:V→List V→Hp→VK→Prop:=fun v vs H Q=>∃x y,v = .str x∧vs=[.str y]∧Q (.bl (Txt.startswith x y)) H
theorem mt_starts:MtR X "str.startswith" rStarts:=by
 intro pins s σ H x xs v us Q I rx rv h
 obtain⟨y,z,rfl,rfl,q⟩:=h
 obtain⟨t,rfl⟩:=rx
 obtain⟨u,rfl,t',rfl⟩:=vals1 rv
 exact SC.startswith ⟨.bl _,H,I,rfl,q⟩
def repS (z:Str) (n:Int):Str:=if (n==1||z.length==0)=true then z else ⟨(List.replicate n.toNat z.cps).foldl (·++·) #[]⟩
def rMulB:R2:=fun x y H Q=>(rI (fun i j=>IntMulOk i j) fun i j=>.int (i*j)) x y H Q∨∃z n,x = .str z∧y = .int n∧1≤n∧n≤8∧z.length≤1000∧Q (.str (repS z n)) H
theorem rep_size (a:Array Nat):∀(n:Nat) (b:Array Nat),(List.foldl (fun x1 x2=>x1++x2) b (List.replicate n a)).size=b.size+n*a.size
 | 0,b=>by simp
 | n+1,b=>by
   rw[List.replicate_succ,List.foldl_cons,rep_size a n,Array.size_append,Nat.succ_mul];omega
theorem rep_toList (a:Array Nat):∀(n:Nat) (b:Array Nat),(List.foldl (fun x1 x2=>x1++x2) b (List.replicate n a)).toList=b.toList++(List.replicate n a.toList).flatten
 | 0,b=>by simp
 | n+1,b=>by
   rw[List.replicate_succ,List.foldl_cons,rep_toList a n,List.replicate_succ];simp
theorem op_mulB:OpR X (binaryOp .Mult) rMulB:=by
 intro pins s σ H x y v u Q I rx ry h
 rcases h with h | ⟨z,n,rfl,rfl,h1,h2,h3,q⟩
 · exact(opI (C:=fun i j=>IntMulOk i j) fun _ _ _ _ _ _ _ hc q=>mul_int q hc) pins s σ H x y v u Q I rx ry h
 · obtain⟨t,rfl⟩:=rx
   obtain⟨t',rfl⟩:=ry
   have hp:(2:Int) ^ 63=9223372036854775808:=by decide
   refine P.mul_str ?_ (fun _ _=>?_) (fun _ _=>?_) ?_
   · rw[decide_eq_false (Int.not_lt.mpr (Int.le_trans (by decide) h1)),decide_eq_false (Int.not_le.mpr (Int.lt_of_le_of_lt h2 (by decide)))];rfl
   · rw[hp]
     have h5:(1000:Int)≤(9223372036854775808 - 1)/n:=Int.le_ediv_of_mul_le (Int.lt_of_lt_of_le (by decide) h1) (Int.le_trans (Int.mul_le_mul_of_nonneg_left h2 (by decide)) (by decide))
     exact fun hc=>absurd (Int.lt_of_le_of_lt h5 hc) (Int.not_lt.mpr (Int.ofNat_le.mpr h3))
   · have hm:z.length*n.toNat≤1000*1000:=Nat.mul_le_mul h3 (by omega)
     unfold Builtin.Str.tooLong
     rw[decide_eq_false]
     exact fun hc=>absurd (Nat.lt_of_lt_of_le hc hm) (by decide)
   · rw[if_neg (by omega)]
     have q':=q
     unfold repS at q'
     split
     · rename_i e
       rw[if_pos e] at q'
       exact⟨.str z,H,I,⟨_,rfl⟩,q'⟩
     · rename_i e
       rw[if_neg e] at q'
       refine⟨?_,⟨.str _,H,I.tok _,⟨_,rfl⟩,q'⟩⟩
       show(List.foldl (fun x1 x2=>x1++x2) #[] (List.replicate n.toNat z.cps)).size≤sizeLine
       rw[rep_size]
       have hm:(#[]:Array Nat).size+n.toNat*z.cps.size≤8*1000:=by
         rw[show(#[]:Array Nat).size=0 from rfl,Nat.zero_add]
         exact Nat.mul_le_mul (by omega) h3
       exact Nat.le_trans hm (by decide)
end
end L2
namespace DL
open PySem PySem.Spec L2
section
variable {X:Cx}{K:Frg}
theorem kStartswith (_:X.K=K):MtR X "str.startswith" rStarts:=mt_starts
theorem kMul (_:X.K=K):OpR X (binaryOp .Mult) rMulB:=op_mulB
def rInt1:List V→Hp→VK→Prop:=fun xs H Q=>(∃i,xs=[.int i]∧Q (.int i) H)∨∃k,xs=[.bl k]∧Q (.int (if k then 1 else 0)) H
def rDivmod:List V→Hp→VK→Prop:=fun xs H Q=>∃i j,xs=[.int i,.int j]∧CDiv i j∧∀p,H p=none→Q (.ref p) (upd H p (.tup [.int (i/j),.int (i % j)]))
theorem kDivmod (_:X.K=K):CallR X (.builtin "divmod") rDivmod:=call_divmod
end
section
variable {K:Frg}{ρ:List (Option DS)}{M:Own}{Q:DS→Own→Prop}
theorem dm_starts {x y:Str}(q:Q (.d (.bool (Txt.startswith x y))) M):DM K rStarts (.d (.str x)) [.d (.str y)] M Q:=fun H v vs QQ oa s1 s2 k=>by
 obtain⟨u,r,rfl,h1,h2⟩:=s2
 cases h2
 rw[si_str s1,si_str h1]
 exact⟨x,y,rfl,rfl,k _ H _ M oa si_of_bl Step.refl q⟩
theorem d2_mul {i j:Int}(c:IntMulOk i j) (q:Q (.d (.int (i*j))) M):D2 K rMulB (.d (.int i)) (.d (.int j)) M Q:=fun H v u QQ oa s1 s2 k=>by
 rw[si_int s1,si_int s2]
 exact .inl ⟨i,j,rfl,rfl,c,k _ H _ M oa si_of_int Step.refl q⟩
theorem d2_rep {z:Str}{n:Int}(h1:1≤n) (h2:n≤8) (h3:z.length≤1000) (q:Q (.d (.str (repS z n))) M):D2 K rMulB (.d (.str z)) (.d (.int n)) M Q:=fun H v u QQ oa s1 s2 k=>by
 rw[si_str s1,si_int s2]
 exact .inr ⟨z,n,rfl,rfl,h1,h2,h3,k _ H _ M oa si_of_str Step.refl q⟩
theorem rd_divmod {i j:Int}(h0:0 < j) (hj:j < 1073741824) (q:Q (.d (.tuple [.int (i/j),.int (i % j)])) M):DR K rDivmod [.d (.int i),.d (.int j)] M Q:=fun H vs QQ oa s k=>by
 obtain⟨v,r,rfl,h1,v2,r2,rfl,h2,h3⟩:=s
 cases h3
 rw[si_int h1,si_int h2]
 refine⟨i,j,rfl,⟨h0,hj⟩,fun p hp=>?_⟩
 have g:Grow K M.W M.W H (upd H p (.tup [.int (i/j),.int (i % j)])):=grow_new _ hp
 refine k _ _ (.d (.tuple [.int (i/j),.int (i % j)])) M (oa.new hp) ?_ ⟨g⟩ q
 unfold SI DV
 exact⟨p,_,rfl,.inl ⟨fun w=>w (oa.none hp),.inl upd_same⟩,DVs.cons (by unfold DV;rfl) (DVs.cons (by unfold DV;rfl) DVs.nil)⟩
theorem dgs_item {g:TGs}{to ti:TE}{d:PyData}{ds:List PyData}{P:List (Option DS)→Own→Prop}
   (h:DE K to ρ M fun o M1=>DE K ti ρ M1 fun i M2=>∃a xs k j,o = .loc a∧i = .d (.int k)∧M2 a=some (.l xs)∧ixN xs.length k=some j∧DGs K g ds ρ (M2.put a (.l (xs.set j d))) P) :
   DGs K (gCons (gSub to ti rSetL) g) (d::ds) ρ M P:=fun σ H vs QQ R hd kk=>by
 unfold DVs at hd
 obtain⟨v,r,rfl,h1,h2⟩:=hd
 refine⟨v,r,rfl,h σ H _ R fun w H2 y M2 o2 s2 t2 h3=>h3 σ H2 _ (R.step o2 t2) fun u H3 z M3 o3 s3 t3 h4=>?_⟩
 obtain⟨a,xs,k,j,rfl,rfl,m,hj,q⟩:=h4
 rw[si_int s3]
 have e:=s2.step t3
 unfold SI at e
 subst e
 obtain⟨vs,h0,hd'⟩:=o3 a _ m
 have t23:=t2.trans t3
 obtain⟨p1,p2⟩:=own_write o3 m (hd'.set j (DV.grow t23.grow h1))
 have st:=t23.trans p2
 exact⟨a,vs,k,j,rfl,rfl,h0,by rw[hd'.length];exact hj,q σ _ r _ (R.step p1 st) (DVs.grow st.grow h2) fun ρ' M' σ' H' R' st' p=>kk ρ' M' σ' H' R' (st.trans st') p⟩
end
end DL
namespace L2
open PySem PySem.Spec PyProof.Rows PySem.W
theorem layable_bits {ns:List Int}(h:WData.layableAll [WData.list (ns.map WData.int)]=true):∀i∈ns,Builtin.Int.intBits i≤2 ^ 20:=by
 have h1:WData.weightAll (ns.map WData.int)≤2 ^ 20:=by
   have h0:WData.layable (WData.list (ns.map WData.int))=true:=by
     unfold WData.layableAll at h
     simpa using h
   unfold WData.layable at h0
   rw[Bool.and_eq_true] at h0
   exact of_decide_eq_true h0.2
 intro i hi
 refine Nat.le_trans ?_ h1
 clear h h1
 induction ns with
 | nil=>cases hi
 | cons n r ih=>
   rw[List.map_cons]
   show _≤WData.weight (.int n)+1+WData.weightAll (r.map WData.int)
   rcases List.mem_cons.mp hi with rfl | hi
   · have:WData.weight (.int i)=Builtin.Int.intBits i:=rfl
     omega
   · have:=ih hi
     omega
theorem walk_ofB {l:PySem.W.OpenLaw}{n k:Nat}{q:Program}{loose:List Str}{XP:(Str→Option Value)→Heap→Prop}{YP:World→Heap→Prop}{d:DefRec}{K:Params→Frg}{CX:World→CXT}{sp:World→Sp}{x:Str}
   (hn:l.most=some n) (hn2:n≤sizeLine) (hdf:d.params.defaults=[]) (hr:Room k callerA)
   (hY:∀(w:World) (h:Heap),YP w h→(K w.params).In h)
   (F:∀(w:World) (mg:Str→Option Value) (fa:Addr) (h:Heap),(K w.params).In h→h.Ns mainGlobals mg→mg d.name=some (.ref fa) →
     ∃fd:FuncData,(∀(s:Shared) (u:Value),BindsTo s fd ⟨[u],[]⟩ [(x,u)]) ∧
       ∀base:Heap,(K w.params).In base→base.Ns mainGlobals mg→FnOk l.prog w (K w.params) mg base (CX w) k fa fd [x] (sp w))
   (hsp:∀(w:World) (H:Hp) (a:Addr) (ns:List Int),ns.length≤n→(∀i∈ns,Builtin.Int.intBits i≤2 ^ 20)→Only H→SqL (K w.params) H a (ns.map V.int)→sp w [.ref a] H (fun v _=>v = .bl true) fun _ _ _=>False)
   (hCX:∀(w:World) (H:Hp) (s:Shared) (e:Value) (s':Shared),CX w [] H s (fun _ _ _=>False) e s'→False) :
   PySem.W.WalkO q loose XP YP l.row.toRowW d [] (fun f vs=>PySem.call f vs):=by
 intro w s₀ s₁ mg mb G Y fa o pm cd doc dV kV ho hd hcd hD hmg hg args vals as hpre hlay hrd hwl hlo
 have e1:dV = .none:=Dflts.none hD hdf
 subst e1
 have e2:kV = .none:=Dflts.noKw hD
 subst e2
 obtain⟨a,vs,ns,rfl,rfl,hobj,hints,hlen⟩:=Att.script_of hn hpre hwl
 have hbits:=layable_bits hlay
 refine enter_call (codeAny_mono (R:=fun r s'=>r = .ok (.ret (.bool true))∧OldK s₁.heap s'.heap∧s'.os=s₁.os∧AllBare s'.gens) ?_ fun r s' hq=>?_)
 · have KX:=hY w _ Y
   obtain⟨fd,hb,hF⟩:=F w mg fa _ KX G.T.g hmg
   exact law_call KX G.T.g G.T.b G.T.builtins G.T.nolimit hg hobj hints (Nat.le_trans hlen hn2) hr hF hb (fun H hO hS=>hsp w H a ns hlen hbits hO hS) fun H e s'=>hCX w H s₁ e s'
 · have h1:=hq.1
   subst h1
   exact⟨.inl ⟨.bool true,.bool true,[],rfl,fun _=>rfl,.bool true,Att.post_true l _,fun _=>⟨List.Pairwise.nil,fun _ hm=>(nomatch hm)⟩⟩,hq.2.1,hq.2.2.1,hq.2.2.2⟩
end L2
namespace DL
open PySem PySem.Spec L2
theorem range_from (i m:Nat) (a:Array Nat):((List.range m).map (i+·)).filterMap (fun j=>a[j]?)=(a.toList.drop i).take m:=by
 induction m with
 | zero=>simp
 | succ m ih=>
   rw[List.range_succ,List.map_append,List.filterMap_append,ih,List.take_add_one]
   have e:a[i+m]?=(a.toList.drop i)[m]?:=by rw[List.getElem?_drop];simp
   simp only[List.map_cons,List.map_nil,List.filterMap_cons,List.filterMap_nil,e]
   cases (a.toList.drop i)[m]? <;> simp
theorem clampN (n len:Nat):max 0 (min (n:Int) (len:Int))=((min n len:Nat):Int):=by
 rcases Nat.le_total n len with h | h
 · rw[Nat.min_eq_left h,Int.min_eq_left (Int.ofNat_le.mpr h),Int.max_eq_right (Int.natCast_nonneg _)]
 · rw[Nat.min_eq_right h,Int.min_eq_right (Int.ofNat_le.mpr h),Int.max_eq_right (Int.natCast_nonneg _)]
theorem countN (a b:Nat):(if (a:Int) < (b:Int) then ((b:Int) - (a:Int)+1 - 1)/1 else 0).toNat=b - a:=by
 split
 · rw[Int.ediv_one];omega
 · omega
theorem idx_from (n len:Nat):Builtin.Str.strSliceIndices (some (n:Int)) none 1 len=(List.range (len - min n len)).map (min n len+·):=by
 unfold Builtin.Str.strSliceIndices sliceRange
 have h1:¬((n:Int) < 0):=Int.not_lt.mpr (Int.natCast_nonneg n)
 have h2:=clampN n len
 simp only[show(1:Int) > 0 by decide,if_true,h1,if_false,h2]
 have h3:(if ((min n len:Nat):Int) < (len:Int) then ((len:Int) - ((min n len:Nat):Int)+1 - 1)/1 else 0).toNat=len - min n len:=countN _ _
 rw[h3]
 apply List.map_congr_left
 intro i hi
 omega
theorem idx_mid (n k len:Nat):Builtin.Str.strSliceIndices (some (n:Int)) (some (k:Int)) 1 len=(List.range (min k len - min n len)).map (min n len+·):=by
 unfold Builtin.Str.strSliceIndices sliceRange
 have h1:¬((n:Int) < 0):=Int.not_lt.mpr (Int.natCast_nonneg n)
 have h1':¬((k:Int) < 0):=Int.not_lt.mpr (Int.natCast_nonneg k)
 have h2:=clampN n len
 have h2':=clampN k len
 simp only[show(1:Int) > 0 by decide,if_true,h1,h1',if_false,h2,h2']
 have h3:(if ((min n len:Nat):Int) < ((min k len:Nat):Int) then (((min k len:Nat):Int) - ((min n len:Nat):Int)+1 - 1)/1 else 0).toNat=min k len - min n len:=countN _ _
 rw[h3]
 apply List.map_congr_left
 intro i hi
 omega
theorem slice_from (z:Str) (n:Nat):(Txt.slice z (some (n:Int)) none).cps.toList=z.cps.toList.drop n:=by
 unfold Txt.slice
 rw[idx_from]
 have hl:z.length=z.cps.toList.length:=by simp[Str.length]
 split
 · rename_i h
   rw[Bool.and_eq_true] at h
   have h:=eq_of_beq h.2
   rw[List.length_map,List.length_range] at h
   have h0:n=0∨z.cps.toList.length=0:=by rw[hl] at h;omega
   rcases h0 with rfl | h0
   · simp
   · rw[List.length_eq_zero_iff.mp h0];simp
 · show(List.filterMap _ _).toArray.toList=_
   rw[range_from,List.toList_toArray,hl]
   by_cases h:n≤z.cps.toList.length
   · rw[Nat.min_eq_left h,List.take_of_length_le (by rw[List.length_drop];exact Nat.le_refl _)]
   · rw[Nat.min_eq_right (by omega),List.drop_eq_nil_of_le (Nat.le_refl _),List.drop_eq_nil_of_le (by omega)];simp
theorem slice_mid (z:Str) (n k:Nat):(Txt.slice z (some (n:Int)) (some (k:Int))).cps.toList=(z.cps.toList.take k).drop n:=by
 unfold Txt.slice
 rw[idx_mid]
 have hl:z.length=z.cps.toList.length:=by simp[Str.length]
 have key:(z.cps.toList.drop (min n z.length)).take (min k z.length - min n z.length)=(z.cps.toList.take k).drop n:=by
   rw[hl,List.drop_take]
   by_cases h:n≤z.cps.toList.length
   · rw[Nat.min_eq_left h,List.take_eq_take_iff,List.length_drop]
     rcases Nat.le_total k z.cps.toList.length with h' | h'
     · rw[Nat.min_eq_left h']
     · rw[Nat.min_eq_right h',Nat.min_self,Nat.min_eq_right (Nat.sub_le_sub_right h' n)]
   · rw[List.drop_eq_nil_of_le (show z.cps.toList.length≤min n z.cps.toList.length by omega),List.drop_eq_nil_of_le (show z.cps.toList.length≤n by omega)];simp
 split
 · rename_i h
   rw[Bool.and_eq_true] at h
   have h:=eq_of_beq h.2
   rw[List.length_map,List.length_range] at h
   rw[← key]
   have h5:=Nat.min_le_right k z.length
   have h0:min n z.length=0∨z.cps.toList.length=0:=by
     rw[← hl]
     revert h h5
     generalize min k z.length=a
     generalize min n z.length=b
     omega
   rcases h0 with h0 | h0
   · have h6:z.cps.toList.length≤min k z.length - 0:=by rw[← hl];rw[h0] at h;exact Nat.le_of_eq h.symm
     rw[h0,List.drop_zero,List.take_of_length_le h6]
   · rw[List.length_eq_zero_iff.mp h0];simp
 · show(List.filterMap _ _).toArray.toList=_
   rw[range_from,List.toList_toArray,key]
theorem om_div {i N:Nat}(h:i < N) (hN:N≤26):i/8 < 26:=Nat.lt_of_le_of_lt (Nat.div_le_self i 8) (Nat.lt_of_lt_of_le h hN)
theorem om_rep (k:Nat):(1:Int)≤1+(k:Int) % 8∧1+(k:Int) % 8≤8∧1≤(1+(k:Int) % 8).toNat∧(1+(k:Int) % 8).toNat≤8:=by
 have e:(k:Int) % 8=((k % 8:Nat):Int):=rfl
 rw[e]
 have:=Nat.mod_lt k (show 8 > 0 by decide)
 clear e
 generalize k % 8=r at *
 omega
theorem om_eq {i j:Nat}(h1:(1:Int)+(i:Int) % 8=1+(j:Int) % 8) (h2:i/8=j/8):i=j:=by
 have a:=Nat.div_add_mod i 8
 have b:=Nat.div_add_mod j 8
 have c:i % 8=j % 8:=by
   have:=Int.add_left_cancel h1
   exact Int.ofNat.inj this
 rw[← a,← b,h2,c]
theorem om_rot {t:Nat}(h:t≤26):26 - t+min t 26=26:=by rw[Nat.min_eq_left h,Nat.sub_add_cancel h]
theorem om_mid {s L:Nat}(h:s≤7):min (3+s) L - 3≤7:=Nat.le_trans (Nat.sub_le_sub_right (Nat.min_le_left _ _) 3) (by rw[Nat.add_sub_cancel_left];exact h)
def letZ (z:Str):Prop:=∀c∈z.cps.toList,isLet c=true
theorem nameZ_of {z:Str}(h:letZ z) (h1:1≤z.cps.toList.length) (h2:z.cps.toList.length≤8):nameZ z:=⟨by rw[size_list];exact h1,by rw[size_list];exact h2,h⟩
theorem letZ_app {a b:Str}(h1:letZ a) (h2:letZ b):letZ (a++b):=fun c hc=>by
 rw[append_toList] at hc
 exact(List.mem_append.mp hc).elim (h1 c) (h2 c)
theorem letZ_one {c:Nat}(h:isLet c=true):letZ ⟨#[c]⟩:=fun d hd=>by
 have:d=c:=by simpa using hd
 subst this;exact h
theorem rep_one {c:Nat}{n:Int}(h1:1≤n):(repS ⟨#[c]⟩ n).cps.toList=List.replicate n.toNat c:=by
 unfold repS
 split
 · rename_i h
   have:n=1:=by
     rw[Bool.or_eq_true,beq_iff_eq,beq_iff_eq] at h
     rcases h with h | h
     · exact h
     · exact absurd h (show ¬(1=0) by decide)
   subst this;rfl
 · show(List.foldl _ _ _:Array Nat).toList=_
   rw[rep_toList]
   show []++(List.replicate n.toNat [c]).flatten=_
   rw[List.nil_append]
   induction n.toNat with
   | zero=>rfl
   | succ m ih=>rw[List.replicate_succ,List.flatten_cons,ih,List.replicate_succ];rfl
end DL
namespace L2
open PySem PySem.Spec PyProof.Rows PySem.Builtin PySem.Builtin.Str
section
variable {X:Cx}
theorem numV:∀(k:Nat) (ss:List Str),Vals (ss.map V.str) (strsFrom k ss)
 | _,[]=>.nil
 | k,x::r=>.cons ⟨_,rfl⟩ (numV (k+1) r)
def rSplit:V→List V→Hp→VK→Prop:=fun v vs H Q=>∃x y,v = .str x∧vs=[.str y]∧(y.length==0)=false∧x.length+2≤sizeLine∧∀p,H p=none→Q (.ref p) (upd H p (.lst ((Txt.split x y).map V.str)))
theorem mt_split:MtR X "str.split" rSplit:=by
 intro pins s σ H v vs v' us Q I rx rv h
 obtain⟨x,y,rfl,rfl,hy,hsz,q⟩:=h
 obtain⟨t,rfl⟩:=rx
 obtain⟨u,rfl,t',rfl⟩:=vals1 rv
 have hno:H s.heap.objs.size=none:=I.hok.fresh (Nat.le_refl _)
 have hn:(partsBetween x (occurrences x y 0 x.length (x.length+1)) y.length).length≤sizeLine:=by
   have e1:=StrLaws.occ_length_le x y 0 x.length (x.length+1)
   rw[length_partsBetween];omega
 have fin:∀(its:List Value) (k:Nat),Vals ((Txt.split x y).map V.str) its→(Txt.split x y).length≤sizeLine→EP X pins σ Q (.ref s.heap.objs.size) { s with toks:=k,heap:=s.heap.push { cls:=.type "list", data:=.seq its.toArray } }:=fun its k hv hl=>
   ⟨.ref s.heap.objs.size,_,I.laid (o:=.lst ((Txt.split x y).map V.str)) (fun b o e=>Heap.get?_push_of_some _ e) (Nat.le_refl _) ⟨by rw[List.length_map];exact hl,its,0,hv,Heap.get?_push_size s.heap rfl⟩,rfl,q _ hno⟩
 have one:Txt.split x y=[x]→EP X pins σ Q (.ref s.heap.objs.size) { s with heap:=s.heap.push { cls:=.type "list", data:=.seq [Value.str x t].toArray } }:=fun e=>
   fin [.str x t] s.toks (by rw[e];exact .cons ⟨t,rfl⟩ .nil) (by rw[e];exact Nat.le_trans (show 1≤2 by decide) (Nat.le_trans (Nat.le_add_left _ _) hsz))
 cases h1:(decide (x.length < y.length)||decide (strKind x < strKind y))
 · cases hf:(occurrences x y 0 x.length (x.length+1)).isEmpty
   · refine call_meets F.slot_str_split (typeIs_str _ _ _) F.entry_str_split (F.args_str_split_2 _ _) (meets_str_split_sep x y t t' h1 hy hf (by omega) hn) ?_
     have e:Txt.split x y=partsBetween x (occurrences x y 0 x.length (x.length+1)) y.length:=(if_neg (ne_true_of_eq_false h1)).trans (if_neg (ne_true_of_eq_false hf))
     exact fin _ _ (by rw[e];exact numV _ _) (by rw[e];exact hn)
   · exact call_meets F.slot_str_split (typeIs_str _ _ _) F.entry_str_split (F.args_str_split_2 _ _) (meets_str_split_not_found x y t t' h1 hy hf) (one ((if_neg (ne_true_of_eq_false h1)).trans (if_pos hf)))
 · exact call_meets F.slot_str_split (typeIs_str _ _ _) F.entry_str_split (F.args_str_split_2 _ _) (meets_str_split_cannot_occur x y t t' h1) (one (if_pos h1))
def rIndex:V→List V→Hp→VK→Prop:=fun v vs H Q=>∃x y i r,v = .str x∧vs=[.str y]∧occurrences x y 0 x.length 1=i::r∧Q (.int (i:Nat)) H
theorem mt_index:MtR X "str.index" rIndex:=by
 intro pins s σ H v vs v' us Q I rx rv h
 obtain⟨x,y,i,r,rfl,rfl,ho,q⟩:=h
 obtain⟨t,rfl⟩:=rx
 obtain⟨u,rfl,t',rfl⟩:=vals1 rv
 exact SC.index ho ⟨.int i,H,I.tok _,⟨_,rfl⟩,q⟩
end
end L2
namespace L2
open PySem PySem.Spec PyProof.Rows PySem.Builtin PySem.Builtin.Str
section
variable {prog:Program}{w:World}{A:Around}{E:Value→Shared→Prop}{s:Shared}{I l:Addr}{items:Array Value}
theorem rev_nolen:typeLookup (.type "list_reverseiterator") "__len__"=pure none:=by rw[typeLookup_type,builtinLookup_eq_fast];kernel_rfl
theorem rev_hint:typeLookup (.type "list_reverseiterator") "__length_hint__"=pure (some (.builtin "list_reverseiterator.__length_hint__")):=by rw[typeLookup_type,builtinLookup_eq_fast];kernel_rfl
theorem collect_rev {Q:List Value→Shared→Prop}(hh:A.handled=none) (hne:l≠I) (hit:s.heap.IsRevIter I l ((items.size:Int) - 1)) (hl:s.heap.IsList l items) (hn:items.size≤sizeLine)
   (hQ:∀s',(∀b o,b≠I→s.heap.get? b=some o→s'.heap.get? b=some o)→s'.gens=s.gens→s'.drawn=s.drawn→s'.os=s.os→Q items.toList.reverse s'):wpAny (model prog w) A (collect (.ref I)) Q E s:=by
 have W:=(Walks.listRev (prog:=prog) (w:=w) (A:=A.in1) hh I l hne items).toS
 have st0:0≤items.size∧s.heap.IsRevIter I l ((items.size:Int) - 1 - ((0:Nat):Int))∧s.heap.IsList l items:=⟨Nat.zero_le _,by simpa using hit,hl⟩
 have hT:∀(i:Nat) (r:Shared),(i≤items.size∧r.heap.IsRevIter I l ((items.size:Int) - 1 - (i:Int))∧r.heap.IsList l items)→r.TypeIs (.ref I) "list_reverseiterator" := fun i r x=>x.2.1.typeIs
 have hI:I < s.heap.objs.size:=by obtain⟨o,ho,_⟩:=hit;exact Heap.lt_size ho
 have hl':l < s.heap.objs.size:=by obtain⟨o,ho,_⟩:=hl;exact Heap.lt_size ho
 have hSf:s.heap.objs.size∉[I,l]:=fun hm=>by
   rcases List.mem_cons.mp hm with e | e
   · exact Nat.ne_of_gt hI e
   · exact Nat.ne_of_gt hl' (List.mem_singleton.mp e)
 have hSI:s.heap.objs.size≠I:=Nat.ne_of_gt hI
 unfold collect
 refine wpAny_bind (wpAny_runValue (codeAny_builtin F.entry_proto_collect ?_))
 rw[Around.under_plainId F.plain_proto_collect _]
 show wpAny _ A.in1 (newList [] >>= fun l=>again (.builtin "list.__iadd__" ⟨[l,.ref I],[]⟩)) _ _ s
 refine wpAny_bind (wpAny_newObj_type (wpAny_pure ⟨plainId_quiet F.plain_list_iadd _,codeAny_builtin F.entry_list_iadd ?_⟩))
 rw[Around.under_plainId F.plain_list_iadd _]
 have st1:=W.frame 0 s (s.heap.push { cls:=.type "list", data:=.seq ([]:List Value).toArray }) s.toks st0 (Nat.le_refl _) fun b _ o e=>Heap.get?_push_of_some _ e
 have hS1:(s.heap.push { cls:=.type "list", data:=.seq ([]:List Value).toArray }).get? s.heap.objs.size=some { cls:=.type "list", data:=.seq ([]:List Value).toArray }:=Heap.get?_push_size _ rfl
 have h1:Builtin.List.listSameRef (.ref s.heap.objs.size) (.ref I)=false:=by simp[Builtin.List.listSameRef,hSI]
 show wpAny _ A.in1 (Builtin.List.listExtendWith (.ref s.heap.objs.size) (.ref I) (.ref s.heap.objs.size)) _ _ _
 unfold Builtin.List.listExtendWith
 refine wpAny_bind (wpAny_typeOf (hT 0 _ st1) ?_)
 rw[if_neg (by rw[h1];decide)]
 refine wpAny_bind (W.self 0 _ _ _ st1 (wpAny_bind (wpAny_holding ?_)))
 unfold Builtin.List.listLengthHint
 refine wpAny_bind (wpAny_specialOf (hT 0 _ st1) rev_nolen ?_)
 show wpAny _ A.in1 (specialOf (Value.ref I) (Str.ofString "__length_hint__") >>= _) _ _ _
 refine wpAny_bind (wpAny_specialOf (hT 0 _ st1) rev_hint ?_)
 generalize hid:("list_reverseiterator.__length_hint__":String)=id0
 wp_delta
 rw[show splitId id0=some ("list_reverseiterator", "__length_hint__") from by subst hid;decide +kernel]
 subst hid
 refine wpAny_bind (wpAny_isInstance (b:=true) (hT 0 _ st1) (by rw[isSubtype_type];kernel_rfl) (wpAny_pure ?_))
 rw[if_neg (by decide)]
 refine wpAny_pure ⟨plainId_quiet F.plain_extend_loop _,codeAny_extend_loopS W hn _ hSf _ items.size 0 _ _ _ rfl (Nat.zero_le _) st1 hS1 (ItemsOf.nil _) fun s' acc' c' hm hS' hacc=>?_⟩
 show wpAny _ A (load s.heap.objs.size >>= _) _ _ s'
 refine wpAny_bind (wpAny_load hS' (wpAny_pure ?_))
 have M:=Moved.drop_new (o:={ cls:=.type "list", data:=.seq ([]:List Value).toArray }) (tk:=s.toks) hm (Nat.le_refl _)
 have e:acc'.toList=items.toList.reverse:=by
   refine List.ext_getElem? fun i=>?_
   by_cases hi:i < items.size
   · have h2:i < acc'.size:=by rw[hacc.1];exact hi
     have:=hacc.2 i _ (Array.getElem?_eq_getElem h2)
     rw[List.getElem?_reverse (by simpa using hi)]
     simp only[Array.length_toList,Array.getElem?_toList]
     rw[Array.getElem?_eq_getElem h2]
     exact this.symm
   · rw[List.getElem?_eq_none (by simp[hacc.1];omega),List.getElem?_eq_none (by simp;omega)]
 show Q acc'.toList s'
 rw[e]
 exact hQ s' (fun b o hb eo=>M.heap b o (fun h=>hb (List.mem_singleton.mp h)) eo) M.gens M.drawn M.os
end
section
variable {X:Cx}
def tJoinRev (K:Frg) (y:Str) (te:TE):TE:=fun σ H Q=>tCons te tNil σ H fun vs H1=>∃(l:Addr) (ys:List Str),vs=[.ref l]∧SqL K H1 l (ys.map V.str)∧(ys.map (·.length)).sum+ys.length*y.length≤16777216∧Q (.str (Txt.join y ys.reverse)) H1
theorem join_gives (y:Str):∀m:List (Str×Tok),tooLong ((m.map (·.1)).toArray.foldl (·+·.length+y.length) 0)=false→Gives (joinTail y (strValues m)) (joinMade y m)
 | [],h=>gives_joinTail y [] h
 | [p],h=>gives_joinTail y [p] h
 | p::q::r,h=>gives_joinTail y (p::q::r) h
theorem join_rev {A:Around}{E:Value→Shared→Prop}{s:Shared}{prog:Program}{w:World}{y:Str}{t:Tok}{I l:Addr}{ys:List Str}{its:List Value}{Q:Value→Shared→Prop}(hh:A.handled=none) (hne:l≠I) (hit:s.heap.IsRevIter I l ((its.toArray.size:Int) - 1)) (hl:s.heap.IsList l its.toArray) (hs:StrsAre its ys)
   (hz:(ys.map (·.length)).sum+ys.length*y.length≤16777216) (hn:its.length≤sizeLine)
   (hQ:∀(s':Shared) (t':Tok) (k:Nat),(∀b o,b≠I→s.heap.get? b=some o→s'.heap.get? b=some o)→s'.gens=s.gens→s'.drawn=s.drawn→s'.os=s.os→Q (.str (Txt.join y ys.reverse) t') { s' with toks:=k }) :
   wpAny (model prog w) A (call (.builtin "str.join") [.str y t,.ref I]) Q E s:=by
 refine wpAny_call (codeAny_call_builtin F.slot_str_join.plain F.entry_str_join (F.slot_str_join.check _ _ _ _ _ _ _ _ (typeIs_str _ _ _) (F.args_str_join_2 _ _) ?_))
 rw[join_tree_other]
 refine wpAny_bind (wpAny_typeOf hit.typeIs ?_)
 show wpAny _ A.in1 ((pyIter (.ref I)).tryCatch _ >>= fun it=>collect it >>= fun items=>joinTail y items) _ _ s
 refine wpAny_bind (wpAny_tryCatch (wpAny_pyIter_revIter hit ?_))
 refine wpAny_bind (collect_rev hh hne hit hl (by simpa using hn) fun s' k1 k2 k3 k4=>?_)
 obtain⟨l0,hv,ht⟩:=strsAre_values hs
 have e:its.toArray.toList.reverse=strValues l0.reverse:=by
   show its.reverse=_
   rw[hv];unfold strValues;rw[List.map_reverse]
 have e2:l0.reverse.map (·.1)=ys.reverse:=by rw[List.map_reverse,ht]
 rw[e]
 have hok:JoinOk y (l0.reverse.map (·.1))=true:=joinOk_of (by rw[e2,List.map_reverse,List.sum_reverse,List.length_reverse];exact hz)
 unfold JoinOk at hok
 rw[Bool.not_eq_true'] at hok
 have g:=join_gives y l0.reverse hok
 exact g prog w A (wants Q E) s' (post_join _ ⟨joinFit_length hok,fun t' k=>by rw[e2];exact hQ s' t' k k1 k2 k3 k4⟩)
theorem pe_joinRev {y:Str}{j:Nat}{e:Expr}{x:Str}{te:TE}{cp ap np rp pos:Pos}(he:PE X e te) (hh:X.A.handled=none) (hg:Gl X x) (hm:X.mg x=none) (hv:bootBuiltins x=some (.type "reversed"))
   (hn:x ≠ "__name__" := by decide) (hdb:(x==("__debug__":Str))=false:=by decide)
   (hbase:attributeBase (.Constant (.str y) j cp) "join" X.env (eval (.Constant (.str y) j cp) X.env)=eval (.Constant (.str y) j cp) X.env:=by rfl)
   (hfew:((backTo pos (starEach [.Call (.Name x np) [e] [] rp] X.env)).all (fun x=>!x.1)&&(backToKw pos (keywordEach [] X.env)).all (fun x=>x.1.isSome)
     && decide ([Expr.Call (.Name x np) [e] [] rp].length+([]:List Keyword).length+(if ([]:List Keyword).isEmpty then 0 else 1) < 30))=true:=by rfl)
   (hline:(ap.endLine==pos.line)=true:=by rfl) (hs:starEach [.Call (.Name x np) [e] [] rp] X.env=[(false,eval (.Call (.Name x np) [e] [] rp) X.env)]:=by rfl)
   (he1:starEach [e] X.env=[(false,eval e X.env)]:=by rfl) :
   PE X (.Call (.Attribute (.Constant (.str y) j cp) "join" ap) [.Call (.Name x np) [e] [] rp] [] pos) (tJoinRev X.K y te):=by
 intro pins s σ H Q I h
 refine wpAny_Call_method_late hbase hfew hline rfl (Calls.Constant_str ?_)
 refine⟨"str", "str.join", F.plainAttrs_str,F.slot_str_join,F.type_str_join,typeIs_str _ _ _,?_⟩
 refine⟨(fun a e=>nomatch e),?_⟩
 rw[hs]
 refine Calls.callWith_builtin rfl (Calls.evalArgs_plain ?_)
 show wpAny _ _ (spliced ((false,eval (.Call (.Name x np) [e] [] rp) X.env)::backTo pos (starEach [] X.env))) _ _ _
 refine Calls.spliced_cons ?_
 have I1:Inv X pins σ H { s with toks:=s.toks+1 }:=I.tok _
 refine wpAny_Call_Name_kw (ld_blt I1 hg hm hv ?_ hn hdb)
 refine PyProof.Rows.callWith_type1 (thn ((pa_cons he pa_nil he1) rp pins _ σ H (fun vs H2=>∃(l:Addr) (ys:List Str),vs=[.ref l]∧SqL X.K H2 l (ys.map V.str)∧(ys.map (·.length)).sum+ys.length*y.length≤16777216∧Q (.str (Txt.join y ys.reverse)) H2) I1 ?_) fun us s2 ⟨vs,H2,I2,r2,l,ys,evs,hl,hz,q⟩=>?_) he1 rfl
 · exact h
 subst evs
 obtain⟨u,rfl,ru⟩:=vals1 r2
 cases ru
 obtain⟨its,rv,pl,hsz⟩:=I2.list hl
 refine call_reversed_list pl.isList ?_
 show wpAny _ _ (spliced []) _ _ _
 refine wpAny_pure ?_
 have hlt:l < s2.heap.objs.size:=by obtain⟨o,ho,_⟩:=pl.isList;exact Heap.lt_size ho
 have hle:its.length≤sizeLine:=by rw[← rv.length];exact hsz
 refine join_rev (l:=l) (its:=its) (ys:=ys) hh (Nat.ne_of_lt hlt) ⟨_,Heap.get?_push_size _ rfl,rfl,rfl⟩ (pl.isList.at fun o eo=>Heap.get?_push_of_some _ eo) (strs_of rv) hz hle fun s' t' k k1 k2 k3 k4=>?_
 refine⟨.str _,H2,?_,⟨_,rfl⟩,q⟩
 obtain⟨h',g',d',tk',os'⟩:=s'
 cases k2
 cases k3
 cases k4
 exact I2.kept fun b u eb=>k1 b u (Nat.ne_of_lt (Heap.lt_size eb)) (Heap.get?_push_of_some _ eb)
end
end L2
namespace DL
open PySem PySem.Spec L2 PySem.Builtin.Str
section
variable {X:Cx}{K:Frg}
theorem kSplit (_:X.K=K):MtR X "str.split" rSplit:=mt_split
theorem kIndex (_:X.K=K):MtR X "str.index" rIndex:=mt_index
theorem kJoinRev {y:Str}{j:Nat}{e:Expr}{x:Str}{te:TE}{cp ap np rp pos:Pos}(h:X.K=K) (he:PE X e te) (hh:X.A.handled=none) (hg:Gl X x) (hm:X.mg x=none) (hv:bootBuiltins x=some (.type "reversed"))
   (hn:x ≠ "__name__" := by decide) (hdb:(x==("__debug__":Str))=false:=by decide)
   (hbase:attributeBase (.Constant (.str y) j cp) "join" X.env (eval (.Constant (.str y) j cp) X.env)=eval (.Constant (.str y) j cp) X.env:=by rfl)
   (hfew:((backTo pos (starEach [.Call (.Name x np) [e] [] rp] X.env)).all (fun x=>!x.1)&&(backToKw pos (keywordEach [] X.env)).all (fun x=>x.1.isSome)
     && decide ([Expr.Call (.Name x np) [e] [] rp].length+([]:List Keyword).length+(if ([]:List Keyword).isEmpty then 0 else 1) < 30))=true:=by rfl)
   (hline:(ap.endLine==pos.line)=true:=by rfl) (hs:starEach [.Call (.Name x np) [e] [] rp] X.env=[(false,eval (.Call (.Name x np) [e] [] rp) X.env)]:=by rfl)
   (he1:starEach [e] X.env=[(false,eval e X.env)]:=by rfl) :
   PE X (.Call (.Attribute (.Constant (.str y) j cp) "join" ap) [.Call (.Name x np) [e] [] rp] [] pos) (tJoinRev K y te):=h▸pe_joinRev he hh hg hm hv hn hdb hbase hfew hline hs he1
end
section
variable {K:Frg}{ρ:List (Option DS)}{M:Own}{Q:DS→Own→Prop}{te:TE}{tc:TT}{D:EndsD}
theorem dm_split {x y:Str}(hy:(y.length==0)=false) (hx:x.length+2≤sizeLine) (q:Q (.d (.list ((Txt.split x y).map .str))) M):DM K rSplit (.d (.str x)) [.d (.str y)] M Q:=fun H v vs QQ oa s1 s2 k=>by
 obtain⟨u,r,rfl,h1,h2⟩:=s2
 cases h2
 rw[si_str s1,si_str h1]
 refine⟨x,y,rfl,rfl,hy,hx,fun p hp=>?_⟩
 have g:Grow K M.W M.W H (upd H p (.lst ((Txt.split x y).map V.str))):=grow_new _ hp
 refine k _ _ (.d (.list ((Txt.split x y).map .str))) M (oa.new hp) ?_ ⟨g⟩ q
 unfold SI DV
 exact⟨p,_,rfl,.inl ⟨fun w=>w (oa.none hp),.inl upd_same⟩,dvs_of_strs⟩
theorem dm_index {x y:Str}{i:Nat}{r:List Nat}(ho:occurrences x y 0 x.length 1=i::r) (q:Q (.d (.int i)) M):DM K rIndex (.d (.str x)) [.d (.str y)] M Q:=fun H v vs QQ oa s1 s2 k=>by
 obtain⟨u,r',rfl,h1,h2⟩:=s2
 cases h2
 rw[si_str s1,si_str h1]
 exact⟨x,y,i,r,rfl,rfl,ho,k _ H _ M oa si_of_int Step.refl q⟩
theorem de_joinRevO {y:Str}(h:DE K te ρ M fun v M1=>∃(a:Addr) (ys:List Str),v = .loc a∧M1 a=some (.l (ys.map .str))∧(ys.map (·.length)).sum+ys.length*y.length≤16777216∧Q (.d (.str (Txt.join y ys.reverse))) M1):DE K (tJoinRev K y te) ρ M Q:=fun σ H QQ R k=>
 h σ H _ R fun v H1 x M1 o1 s1 t1 ⟨a,ys,e,m,hz,q⟩=>by
   subst e
   unfold SI at s1
   subst s1
   obtain⟨vs,e,hd⟩:=o1 a _ m
   rw[dvs_strs hd] at e
   exact⟨a,ys,rfl,.inl (.inl e),hz,k _ H1 _ M1 o1 si_of_str t1 q⟩
theorem ds_while0 (h:DT K tc ρ M fun c M1=>c=false∧D.nx ρ M1):DSt K (tWhile tc tNever) ρ M D:=fun σ H E R k1 k2 k3 k4=>by
 refine⟨fun _ σ' H'=>σ'=σ∧H'=H,⟨0,rfl,rfl⟩,?_⟩
 rintro m σ' H' ⟨rfl,rfl⟩
 refine h _ _ _ R fun c H1 M1 o1 t1 ⟨e,q⟩=>?_
 subst e
 rw[if_neg nft]
 exact k1 ρ M1 _ H1 (R.step o1 t1) t1 q
end
end DL
namespace DL
open PySem PySem.Spec L2 PySem.Builtin.Str PySem.StrLaws
theorem app_list (a b:Str):(a++b).cps.toList=a.cps.toList++b.cps.toList:=by
 show(a.cps++b.cps).toList=_
 simp
theorem sub_list (x:Str) (i j:Nat):(strSub x i j).cps.toList=(x.cps.toList.drop i).take (j - i):=by
 show(x.cps.extract i j).toList=_
 rw[Array.toList_extract,List.extract_eq_take_drop]
def digs (n:Nat):List Nat:=(Nat.toDigits 10 n).map Char.toNat
theorem digs_lt {n:Nat}(h:n < 10):digs n=[48+n]:=by
 unfold digs
 rw[Nat.toDigits_of_lt_base h]
 show [(Nat.digitChar n).toNat]=_
 rw[Nat.toNat_digitChar_of_lt_ten h]
theorem digs_ge {n:Nat}(h:10≤n):digs n=digs (n/10)++[48+n % 10]:=by
 unfold digs
 rw[Nat.toDigits_of_base_le (by decide) h,List.map_append]
 show _++[(Nat.digitChar (n % 10)).toNat]=_
 rw[Nat.toNat_digitChar_of_lt_ten (Nat.mod_lt _ (by decide))]
def valL (l:List Nat) (a:Int):Int:=l.foldl (fun a c=>a*10+((c - 48:Nat):Int)) a
theorem digs_all (n:Nat):(∀c∈digs n,48≤c∧c≤57)∧digs n≠[]∧valL (digs n) 0=n∧(∀r,digs n=48::r→n=0)∧(∀k,n < 10 ^ (k+1)→(digs n).length≤k+1):=by
 induction n using Nat.strongRecOn with
 | ind n ih=>
   by_cases h:n < 10
   · rw[digs_lt h]
     refine⟨fun c hc=>?_,by simp,?_,fun r e=>?_,fun k _=>by simp⟩
     · have:c=48+n:=by simpa using hc
       omega
     · show(0:Int)*10+((48+n - 48:Nat):Int)=n
       omega
     · injection e with e1 e2;omega
   · have h10:10≤n:=by omega
     obtain⟨i1,i2,i3,i4,i5⟩:=ih (n/10) (by omega)
     rw[digs_ge h10]
     refine⟨fun c hc=>?_,by simp,?_,fun r e=>?_,fun k hk=>?_⟩
     · rcases List.mem_append.mp hc with q | q
       · exact i1 c q
       · have:c=48+n % 10:=by simpa using q
         omega
     · unfold valL at i3 ⊢
       rw[List.foldl_append,i3]
       show((n/10:Nat):Int)*10+((48+n % 10 - 48:Nat):Int)=n
       omega
     · cases hd:digs (n/10) with
       | nil=>exact absurd hd i2
       | cons y ys=>
         rw[hd] at e
         injection e with e1 e2
         have:=i4 ys (by rw[hd,e1])
         omega
     · cases k with
       | zero=>omega
       | succ k=>
         have:=i5 k (by rw[Nat.div_lt_iff_lt_mul (by decide)];rw[← Nat.pow_succ];exact hk)
         rw[List.length_append]
         simp only[List.length_cons,List.length_nil]
         omega
def decS (n:Int):Str:=Str.ofString (toString n)
theorem ofStr_list (cs:List Char):(Str.ofString (String.ofList cs)).cps.toList=cs.map Char.toNat:=by
 rw[PySem.W.Fast.ofString_ofList]
theorem decS_nat (n:Nat):(decS n).cps.toList=digs n:=by
 unfold decS
 show(Str.ofString (toString n)).cps.toList=_
 rw[Nat.toString_eq_ofList_toDigits,ofStr_list]
 rfl
theorem decS_neg (m:Nat):decS (-((m:Int)+1))=Str.ofString "-" ++ decS ((m:Int)+1):=by
 refine str_ext ?_
 rw[app_list,show((m:Int)+1)=((m+1:Nat):Int) from rfl,decS_nat]
 unfold decS
 show(Str.ofString (toString (Int.negSucc m))).cps.toList=_
 show(Str.ofString ("-" ++ toString (m+1))).cps.toList=_
 rw[show("-" ++ toString (m+1):String)=String.ofList ('-'::Nat.toDigits 10 (m+1)) by rw[Nat.toString_eq_ofList_toDigits,show("-":String)=String.ofList ['-'] by decide +kernel,← String.ofList_append];rfl,ofStr_list]
 rfl
end DL
namespace DL
open PySem PySem.Spec L2 PySem.Builtin.Str PySem.StrLaws
def big (n:Int):Prop:=-1000000000000000000 < n∧n < 1000000000000000000
theorem dec_cases (n:Int) (h:big n):∃m:Nat,m < 10 ^ 18∧((0≤n∧n=m∧(decS n).cps.toList=digs m)∨(n < 0∧n = -(m:Int)∧0 < m∧(decS n).cps.toList=45::digs m)):=by
 obtain⟨h1,h2⟩:=h
 by_cases hn:0≤n
 · obtain⟨m,rfl⟩:=Int.eq_ofNat_of_zero_le hn
   exact⟨m,by omega,.inl ⟨hn,rfl,decS_nat m⟩⟩
 · obtain⟨m,hm⟩:∃m:Nat,n = -((m:Int)+1):=⟨(-n - 1).toNat,by omega⟩
   subst hm
   refine⟨m+1,by omega,.inr ⟨by omega,by omega,by omega,?_⟩⟩
   rw[decS_neg,app_list,show((m:Int)+1)=((m+1:Nat):Int) from rfl,decS_nat]
   rfl
theorem dec_chars {n:Int}(h:big n):(∀c∈(decS n).cps.toList,c=45∨(48≤c∧c≤57))∧(decS n).length≤19:=by
 obtain⟨m,hm,⟨_,_,e⟩ | ⟨_,_,_,e⟩⟩:=dec_cases n h
 all_goals
   obtain⟨d1,d2,d3,d4,d5⟩:=digs_all m
   have hl:=d5 17 hm
   have el:(decS n).length=(decS n).cps.toList.length:=by show(decS n).cps.size=_;simp
   rw[el,e]
 · exact⟨fun c hc=>.inr (d1 c hc),by omega⟩
 · refine⟨fun c hc=>?_,by simp only[List.length_cons];omega⟩
   rcases List.mem_cons.mp hc with q | q
   · exact .inl q
   · exact .inr (d1 c q)
theorem log_big {n:Int}(h:big n):n.natAbs.log2 < 1920:=by
 obtain⟨h1,h2⟩:=h
 by_cases h0:n.natAbs=0
 · rw[h0];decide
 · rw[Nat.log2_lt h0]
   exact Nat.lt_of_lt_of_le (show n.natAbs < 2 ^ 60 by omega) (Nat.pow_le_pow_right (by decide) (by decide))
theorem big_nat {n:Nat}(h:n < 1000000000000000000):big n:=⟨by omega,by omega⟩
theorem figs_all:∀c:Fin 10,∃r,occurrences (Str.ofString "0123456789") ⟨#[c.val+48]⟩ 0 (Str.ofString "0123456789").length 1=c.val::r:=by
 have:∀c:Fin 10,occurrences (Str.ofString "0123456789") ⟨#[c.val+48]⟩ 0 (Str.ofString "0123456789").length 1=[c.val]:=by decide +kernel
 exact fun c=>⟨[],this c⟩
theorem fig_at {c:Nat}(h:48≤c∧c≤57):∃r,occurrences (Str.ofString "0123456789") ⟨#[c]⟩ 0 (Str.ofString "0123456789").length 1=(c - 48)::r:=by
 obtain⟨r,hr⟩:=figs_all ⟨c - 48,by omega⟩
 refine⟨r,?_⟩
 rw[← hr]
 show _=occurrences _ ⟨#[c - 48+48]⟩ _ _ _
 rw[show c - 48+48=c by omega]
theorem starts_minus (x:Str):Txt.startswith x (Str.ofString "-")=decide (x.cps.toList.head?=some 45):=by
 have h:=subAt_one x 45 0
 unfold Txt.startswith
 rw[show Str.ofString "-"=⟨#[45]⟩ by decide +kernel,Bool.eq_iff_iff,decide_eq_true_iff,Bool.and_eq_true,decide_eq_true_iff,h]
 cases x.cps.toList <;> simp
theorem strOk_asc {z:Str}(h2:∀c∈z.cps.toList,c < 128):PyData.strOk z=true:=by
 unfold PyData.strOk
 rw[Array.all_eq_true']
 intro c hc
 have:=h2 c (by simpa using hc)
 simp;omega
theorem shaped_asc {z:Str}(h2:∀c∈z.cps.toList,c < 128):PySem.SeqAt.shaped (.str z)=true:=shaped_of (strOk_asc h2) (by simp[PyData.depth])
theorem eqv_s3 (a b:Str):PyData.eqv (.str a) (.str b)=(a==b):=by simp[PyData.eqv]
def decD:PyData→PyData | .int n=>.str (decS n) | d=>d
def S_show_whole0:FSp:=fn1 (fun d=>∃n:Nat,d = .int n∧n < 1000000000000000000) decD
def S_show_whole:FSp:=fn1 (fun d=>∃n:Int,d = .int n∧big n) decD
end DL
namespace DL
open PySem PySem.Spec L2 PySem.Builtin.Str PySem.StrLaws PySem.Builtin.Str L2
def figB (c:Nat):Bool:=decide (48≤c)&&decide (c≤57)
def rowL (l:List Nat):Bool:=!l.isEmpty&&l.all figB
def rowD:PyData→PyData | .str s=>.bool (rowL s.cps.toList) | d=>d
def isTxt (d:PyData):Prop:=∃s,d = .str s∧okS s
def G_is_row_of_figures:FSp:=fn1 isTxt rowD
def figsL (l:List Nat):List Nat:=if l.head?=some 45 then l.tail else l
def rwL (l:List Nat):Option Int:=
 if rowL (figsL l)&&!(decide ((figsL l).head?=some 48)&&!decide (l=[48])) then some (if l.head?=some 45 then - valL (figsL l) 0 else valL (figsL l) 0) else none
def optI:Option Int→PyData | some n=>.int n | none=>.none
def rwD:PyData→PyData | .str s=>optI (rwL s.cps.toList) | d=>d
def G_read_whole:FSp:=fn1 isTxt rwD
theorem figB_iff {c:Nat}:figB c=true↔48≤c∧c≤57:=by unfold figB;simp
theorem in_figs_all:∀c:Fin 128,(!(occurrences (Str.ofString "0123456789") ⟨#[c.1]⟩ 0 (Str.ofString "0123456789").length 1).isEmpty)=figB c.1:=by decide +kernel
theorem in_figsB {c:Nat}(h:c < 128):(!(occurrences (Str.ofString "0123456789") ⟨#[c]⟩ 0 (Str.ofString "0123456789").length 1).isEmpty)=figB c:=in_figs_all ⟨c,h⟩
def figP:PyData→Bool | .str s=>s.cps.toList.all figB | _=>false
theorem figs_list (l:List Nat):((l.map fun c=>PyData.str ⟨#[c]⟩).filter fun _=>true).map (fun d=>PyData.bool (figP d))=(l.map figB).map .bool:=by
 rw[List.filter_eq_self.mpr (fun _ _=>rfl),List.map_map,List.map_map]
 apply List.map_congr_left
 intro c _
 show PyData.bool (figP (.str ⟨#[c]⟩)) = .bool (figB c)
 simp[figP]
theorem figs_all2 (l:List Nat):(l.map figB).all id=l.all figB:=by rw[List.all_map];rfl
theorem figs_ok {s:Str}(h:okS s):okS ⟨⟨figsL s.cps.toList⟩⟩:=by
 unfold figsL
 split
 · exact⟨by have:=h.1;simp only[Array.size] at this ⊢;rw[List.length_tail];omega,fun c hc=>h.2 c (List.mem_of_mem_tail hc)⟩
 · exact h
theorem sub_ok {x:Str}(h:okS x) (a b:Nat):okS (strSub x a b):=by
 have hx:x.cps.toList.length≤5000:=h.1
 refine⟨?_,fun c hc=>?_⟩
 · show(strSub x a b).cps.toList.length≤5000
   rw[sub_list,List.length_take,List.length_drop];omega
 · rw[sub_list] at hc
   exact h.2 c (List.mem_of_mem_drop (List.mem_of_mem_take hc))
theorem from_ok {x:Str}(h:okS x) (n:Nat):∀(l:List Nat) (a:Nat),∀p∈partsFrom x n a l,okS p
 | [],a,p,hp=>by
   have:p=strSub x a x.length:=by simpa [partsFrom] using hp
   rw[this];exact sub_ok h _ _
 | c::r,a,p,hp=>by
   rcases List.mem_cons.mp hp with e | e
   · rw[e];exact sub_ok h _ _
   · exact from_ok h n r _ p e
theorem from_len (x:Str) (n:Nat):∀(l:List Nat) (a:Nat),(partsFrom x n a l).length=l.length+1
 | [],a=>rfl
 | c::r,a=>by
   show(strSub x a c::partsFrom x n (c+n) r).length=_
   rw[List.length_cons,from_len x n r];rfl
end DL
namespace L2
open PySem PySem.Spec PyProof.Rows
abbrev Stays (F:List Addr) (S:Heap→Prop):Prop:=∀h h':Heap,S h→(∀c∈F,∀o,h.get? c=some o→h'.get? c=some o)→S h'
abbrev NxI (P:Program) (w:World) (A:Around) (i:Addr) (S S':Heap→Prop) (R:Value→Prop):Prop:=
 ∀(s:Shared) (Q:Value→Shared→Prop) (E:Value→Shared→Prop),S s.heap→(∀h' tk x,R x→S' h'→Heap.SameBut i s.heap h'→Q x { s with heap:=h',toks:=tk })→wpAny (model P w) A (Builtin.SmallTypes.nextOf (.ref i)) Q E s
abbrev NxE (P:Program) (w:World) (A:Around) (i:Addr) (S:Heap→Prop):Prop:=
 ∀(s:Shared) (Q:Value→Shared→Prop) (E:Value→Shared→Prop),S s.heap→(∀h' e,Heap.ExtBut i s.heap h'→(∃o,h'.get? e=some o∧o.cls = .type "StopIteration")→E (.ref e) { s with heap:=h' })→wpAny (model P w) A (Builtin.SmallTypes.nextOf (.ref i)) Q E s
structure ZAp (z TI TO i1 i2:Addr) (F1 F2:List Addr):Prop where
 tz:TO≠z
 az:i1≠z
 bz:i2≠z
 ta:TO≠i1
 tb:TO≠i2
 ab:i1≠i2
 f1:∀c∈F1,c≠z∧c≠TO∧c≠i2
 f2:∀c∈F2,c≠z∧c≠TO∧c≠i1
section
variable {prog:Program}{w:World}{A:Around}{E:Value→Shared→Prop}{s:Shared}{z TI TO i1 i2:Addr}{F1 F2:List Addr}{S1 S1' S2 S2':Heap→Prop}{R1 R2:Value→Prop}{a b:Value}
theorem zipG_item {Q:Value→Shared→Prop}(D:ZAp z TI TO i1 i2 F1 F2) (t1:Stays F1 S1) (t1':Stays F1 S1') (t2:Stays F2 S2) (t2':Stays F2 S2') (n1:NxI prog w A i1 S1 S1' R1) (n2:NxI prog w A i2 S2 S2' R2)
   (hz:IsZip s.heap z TI TO .none) (hTI:IsPair s.heap TI (.ref i1) (.ref i2)) (hTO:IsPair s.heap TO a b) (h1:S1 s.heap) (h2:S2 s.heap)
   (l1:∀h,S1' h→i1 < h.objs.size) (l2:∀h,S2' h→i2 < h.objs.size)
   (hQ:∀h' tk x y,R1 x→R2 y→IsZip h' z TI TO (rawInt s.heap.objs.size)→IsPair h' TO x y→S1' h'→S2' h'→IsPair h' s.heap.objs.size x y→h'.objs.size=s.heap.objs.size+1 →
     (∀c o,c≠z→c≠TO→c≠i1→c≠i2→s.heap.get? c=some o→h'.get? c=some o)→Q (.ref s.heap.objs.size) { s with heap:=h',toks:=tk }) :
   wpAny (model prog w) A (Builtin.«zip.__next__» ⟨[.ref z],[]⟩) (fun fin s'=>∃v,fin = .done (.ret v)∧Q v s') E s:=by
 show wpAny _ _ (field (.ref z) 2 >>= _) _ _ _
 refine wpAny_bind (wpAny_field hz rfl (x:=.bool false) rfl ?_);show wpAny _ _ (field (.ref z) 3 >>= _) _ _ _
 refine wpAny_bind (wpAny_field hz rfl (x:=.ref TI) rfl ?_);refine wpAny_bind (wpAny_seqItems hTI rfl ?_)
 show wpAny _ _ (Builtin.SmallTypes.ownedTupleIsFree (.ref z) >>= _) _ _ _;refine wpAny_bind ?_;unfold Builtin.SmallTypes.ownedTupleIsFree
 refine wpAny_bind (wpAny_field hz rfl (x:=.none) rfl (wpAny_pure ?_));simp only[if_true];refine wpAny_bind (wpAny_rule ?_)
 refine wpAny_bind (wpAny_field hz rfl (x:=.ref TO) rfl ?_);refine wpAny_bind (wpAny_setField_rec hz (by simp) fun g1 y1 q1=>?_)
 replace y1:IsZip g1 z TI TO .ellipsis:=y1
 refine wpAny_bind ?_;simp only[List.forIn_cons,List.forIn_nil,List.zipIdx_cons,List.zipIdx_nil]
 refine wpAny_bind (wpAny_bind (wpAny_onRaise ?_));show wpAny _ _ (Builtin.SmallTypes.nextOf (.ref i1) >>= _) _ _ _
 refine wpAny_bind (n1 _ _ _ (t1 _ _ h1 fun c hc o e=>q1.extBut _ _ (D.f1 c hc).1 e) fun g2 k2 x rx x2 q2=>wpAny_pure ?_)
 have p2:IsPair g2 TO a b:=q2.extBut _ _ D.ta (q1.extBut _ _ D.tz hTO)
 refine wpAny_bind (wpAny_seqItems p2 rfl ?_);refine wpAny_bind (wpAny_updateSeq_pair p2 fun g3 p3 q3=>?_)
 replace p3:IsPair g3 TO x b:=p3
 refine wpAny_bind (wpAny_letGo (wpAny_pure ?_));refine wpAny_bind (wpAny_bind (wpAny_onRaise ?_));show wpAny _ _ (Builtin.SmallTypes.nextOf (.ref i2) >>= _) _ _ _
 refine wpAny_bind (n2 _ _ _ (t2 _ _ h2 fun c hc o e=>q3.extBut _ _ (D.f2 c hc).2.1 (q2.extBut _ _ (D.f2 c hc).2.2 (q1.extBut _ _ (D.f2 c hc).1 e))) fun g4 k4 y ry x4 q4=>wpAny_pure ?_)
 have p4:IsPair g4 TO x b:=q4.extBut _ _ D.tb p3
 refine wpAny_bind (wpAny_seqItems p4 rfl ?_);refine wpAny_bind (wpAny_updateSeq_pair p4 fun g5 p5 q5=>?_)
 replace p5:IsPair g5 TO x y:=p5
 refine wpAny_bind (wpAny_letGo (wpAny_pure (wpAny_pure ?_)));refine wpAny_bind (wpAny_seqItems p5 rfl ?_);refine wpAny_bind (wpAny_newTuple ?_)
 have hsz:g5.objs.size=s.heap.objs.size:=by rw[q5.1,q4.1,q3.1,q2.1,q1.1]
 have y5:IsZip g5 z TI TO .ellipsis:=q5.extBut _ _ D.tz.symm (q4.extBut _ _ D.bz.symm (q3.extBut _ _ D.tz.symm (q2.extBut _ _ D.az.symm y1)))
 have k5:∀c o,c≠z→c≠TO→c≠i1→c≠i2→s.heap.get? c=some o→g5.get? c=some o:=fun c o c1 c2 c3 c4 e=>q5.extBut _ _ c2 (q4.extBut _ _ c4 (q3.extBut _ _ c2 (q2.extBut _ _ c3 (q1.extBut _ _ c1 e))))
 have x25:S1' g5:=t1' _ _ x2 fun c hc o e=>q5.extBut _ _ (D.f1 c hc).2.1 (q4.extBut _ _ (D.f1 c hc).2.2 (q3.extBut _ _ (D.f1 c hc).2.1 e))
 have x45:S2' g5:=t2' _ _ x4 fun c hc o e=>q5.extBut _ _ (D.f2 c hc).2.1 e
 have ltz:z < g5.objs.size:=Heap.lt_size y5
 show wpAny _ _ (Builtin.SmallTypes.ownedTupleHandOut (.ref z) (.ref g5.objs.size) >>= _) _ _ _;refine wpAny_bind ?_;unfold Builtin.SmallTypes.ownedTupleHandOut
 have y6:IsZip (g5.push { cls:=.type "tuple", data:=.seq #[x,y] }) z TI TO .ellipsis:=Heap.get?_push_of_some _ y5
 refine wpAny_bind (wpAny_setField_rec y6 (by simp) fun g7 y7 q7=>?_)
 replace y7:IsZip g7 z TI TO (rawInt g5.objs.size):=y7
 refine wpAny_setField_rec y7 (by simp) fun g8 y8 q8=>?_
 replace y8:IsZip g8 z TI TO (rawInt g5.objs.size):=y8
 have up:∀c o,c≠z→g5.get? c=some o→g8.get? c=some o:=fun c o c1 e=>q8.extBut _ _ c1 (q7.extBut _ _ c1 (Heap.get?_push_of_some _ e))
 have p8:IsPair g8 g5.objs.size x y:=q8.extBut _ _ (Nat.ne_of_gt ltz) (q7.extBut _ _ (Nat.ne_of_gt ltz) (Heap.get?_push_size _ rfl))
 have s8:g8.objs.size=g5.objs.size+1:=by rw[q8.1,q7.1,Heap.size_push]
 rw[hsz] at y8 p8 s8
 refine wpAny_pure ⟨_,rfl,?_⟩;show Q (.ref g5.objs.size) _;rw[hsz]
 exact hQ g8 _ x y rx ry y8 (up _ _ D.tz p5) (t1' _ _ x25 fun c hc o e=>up c o (D.f1 c hc).1 e) (t2' _ _ x45 fun c hc o e=>up c o (D.f2 c hc).1 e) p8 s8 fun c o c1 c2 c3 c4 e=>up c o c1 (k5 c o c1 c2 c3 c4 e)
theorem zipG_end1 {Q:Fin→Shared→Prop}(D:ZAp z TI TO i1 i2 F1 F2) (t1:Stays F1 S1) (n1:NxE prog w A i1 S1)
   (hz:IsZip s.heap z TI TO .none) (hTI:IsPair s.heap TI (.ref i1) (.ref i2)) (hTO:IsPair s.heap TO a b) (h1:S1 s.heap)
   (hE:∀h' e tk,(∀c o,c≠z→c≠TO→c≠i1→c≠i2→s.heap.get? c=some o→h'.get? c=some o)→(∃o,h'.get? e=some o∧o.cls = .type "StopIteration")→E (.ref e) { s with heap:=h',toks:=tk }) :
   wpAny (model prog w) A (Builtin.«zip.__next__» ⟨[.ref z],[]⟩) Q E s:=by
 show wpAny _ _ (field (.ref z) 2 >>= _) _ _ _
 refine wpAny_bind (wpAny_field hz rfl (x:=.bool false) rfl ?_);show wpAny _ _ (field (.ref z) 3 >>= _) _ _ _
 refine wpAny_bind (wpAny_field hz rfl (x:=.ref TI) rfl ?_);refine wpAny_bind (wpAny_seqItems hTI rfl ?_)
 show wpAny _ _ (Builtin.SmallTypes.ownedTupleIsFree (.ref z) >>= _) _ _ _;refine wpAny_bind ?_;unfold Builtin.SmallTypes.ownedTupleIsFree
 refine wpAny_bind (wpAny_field hz rfl (x:=.none) rfl (wpAny_pure ?_));simp only[if_true];refine wpAny_bind (wpAny_rule ?_)
 refine wpAny_bind (wpAny_field hz rfl (x:=.ref TO) rfl ?_);refine wpAny_bind (wpAny_setField_rec hz (by simp) fun g1 y1 q1=>?_)
 replace y1:IsZip g1 z TI TO .ellipsis:=y1
 refine wpAny_bind ?_;simp only[List.forIn_cons,List.forIn_nil,List.zipIdx_cons,List.zipIdx_nil]
 refine wpAny_bind (wpAny_bind (wpAny_onRaise ?_));show wpAny _ _ (Builtin.SmallTypes.nextOf (.ref i1) >>= _) _ _ _
 refine wpAny_bind (n1 _ _ _ (t1 _ _ h1 fun c hc o e=>q1.extBut _ _ (D.f1 c hc).1 e) fun g2 e q2 he=>?_)
 obtain⟨oe,hoe,hce⟩:=he
 have y2:IsZip g2 z TI TO .ellipsis:=q2 _ _ D.az.symm y1
 have ez:e≠z:=fun x=>by subst x;rw[y2] at hoe;cases hoe;simp at hce
 exact wpAny_setField_rec y2 (by simp) fun g3 _ q3=>hE g3 e _ (fun c o c1 _ c3 _ x=>q3.extBut _ _ c1 (q2 _ _ c3 (q1.extBut _ _ c1 x))) ⟨oe,q3.extBut _ _ ez hoe,hce⟩
theorem zipG_next {Q:Option Value→Shared→Prop}(D:ZAp z TI TO i1 i2 F1 F2) (t1:Stays F1 S1) (t1':Stays F1 S1') (t2:Stays F2 S2) (t2':Stays F2 S2') (n1:∀A:Around,NxI prog w A i1 S1 S1' R1) (n2:∀A:Around,NxI prog w A i2 S2 S2' R2)
   (hz:IsZip s.heap z TI TO .none) (hTI:IsPair s.heap TI (.ref i1) (.ref i2)) (hTO:IsPair s.heap TO a b) (h1:S1 s.heap) (h2:S2 s.heap)
   (l1:∀h,S1' h→i1 < h.objs.size) (l2:∀h,S2' h→i2 < h.objs.size)
   (hQ:∀h' tk x y,R1 x→R2 y→IsZip h' z TI TO (rawInt s.heap.objs.size)→IsPair h' TO x y→S1' h'→S2' h'→IsPair h' s.heap.objs.size x y→h'.objs.size=s.heap.objs.size+1 →
     (∀c o,c≠z→c≠TO→c≠i1→c≠i2→s.heap.get? c=some o→h'.get? c=some o)→Q (some (.ref s.heap.objs.size)) { s with heap:=h',toks:=tk }) :
   wpAny (model prog w) A (pyNext (.ref z)) Q E s:=by
 have hT:s.TypeIs (.ref z) "zip" := ⟨_,hz,rfl⟩
 unfold pyNext
 exact wpAny_bind (wpAny_attempt (wpAny_callSpecial?_slot (name:=Str.ofString "__next__") hT F.slot_zip_next (wpAny_call_entry F.slot_zip_next hT F.entry_zip_next
   (zipG_item D t1 t1' t2 t2' (n1 _) (n2 _) hz hTI hTO h1 h2 l1 l2 fun h' tk x y b1 b2 b3 b4 b5 b6 b7 b8 b9=>wpAny_pure (hQ h' tk x y b1 b2 b3 b4 b5 b6 b7 b8 b9)) (F.args_zip_next_1 _))))
theorem zipG_stop {Q:Option Value→Shared→Prop}(hh:A.handled=none) (hz:IsZip s.heap z TI TO .none)
   (h:∀(Q':Fin→Shared→Prop) (E':Value→Shared→Prop),(∀h' e tk,(∀c o,c≠z→c≠TO→c≠i1→c≠i2→s.heap.get? c=some o→h'.get? c=some o)→(∃o,h'.get? e=some o∧o.cls = .type "StopIteration")→E' (.ref e) { s with heap:=h',toks:=tk }) →
     ∀A':Around,A'.handled=none→wpAny (model prog w) A' (Builtin.«zip.__next__» ⟨[.ref z],[]⟩) Q' E' s)
   (hQ:∀h' tk,(∀c o,c≠z→c≠TO→c≠i1→c≠i2→s.heap.get? c=some o→h'.get? c=some o)→Q none { s with heap:=h',toks:=tk }):wpAny (model prog w) A (pyNext (.ref z)) Q E s:=by
 have hT:s.TypeIs (.ref z) "zip" := ⟨_,hz,rfl⟩
 unfold pyNext
 refine wpAny_bind (wpAny_attempt (wpAny_callSpecial?_slot (name:=Str.ofString "__next__") hT F.slot_zip_next (wpAny_call_entry F.slot_zip_next hT F.entry_zip_next (h _ _ (fun h' e tk hk he=>?_) _ ?_) (F.args_zip_next_1 _))))
 · obtain⟨o,ho,hc⟩:=he
   refine wpAny_bind (wpAny_isInstance (T:= "StopIteration") (b:=true) ⟨o,ho,hc⟩ isSubtype_stop ?_)
   exact wpAny_pure (hQ _ _ hk)
 · exact hh
end
end L2
namespace L2
open PySem PySem.Spec PyProof.Rows
section
variable {prog:Program}{w:World}{A:Around}{E:Value→Shared→Prop}{s:Shared}
theorem nx_ascii {i:Addr}{x:Str}{t:Tok}{k c:Nat}(hx:x.cps[k]?=some c):NxI prog w A i (fun h=>h.IsStrIter i "str_ascii_iterator" x t k) (fun h=>h.IsStrIter i "str_ascii_iterator" x t (k+1)) (fun v=>RelV (.str ⟨#[c]⟩) v):=
 fun s Q E hit hQ=>wpAny_nextOf_ascii_item hit hx fun h' a b=>hQ h' _ _ ⟨_,rfl⟩ a b
theorem nxE_ascii {i:Addr}{x:Str}{t:Tok}{k:Nat}(hh:A.handled=none) (hx:x.cps[k]?=none):NxE prog w A i (fun h=>h.IsStrIter i "str_ascii_iterator" x t k):=
 fun s Q E hit hE=>wpAny_nextOf_ascii_end hh hit hx hE
theorem nx_tup {i t:Addr}{k:Nat}{items:Array Value}{y:Value}(hne:t≠i) (hx:items[k]?=some y):NxI prog w A i (fun h=>h.IsTupleIter i t k∧h.IsTuple t items) (fun h=>h.IsTupleIter i t (k+1)∧h.IsTuple t items) (fun v=>v=y):=fun s Q E hS hQ=>by
 obtain⟨hit,ht⟩:=hS
 obtain⟨o,ho,hc,hd⟩:=id hit
 obtain⟨ol,hol,hcl,nl,hdl⟩:=id ht
 unfold Builtin.SmallTypes.nextOf;refine wpAny_bind (wpAny_callSpecial?_slot (name:=Str.ofString "__next__") hit.typeIs F.slot_tuple_iterator_next (wpAny_call_entry F.slot_tuple_iterator_next hit.typeIs F.entry_tuple_iterator_next ?_ (F.args_tuple_iterator_next_1 _)))
 show wpAny _ _ (field (.ref i) 0 >>= _) _ _ s
 refine wpAny_bind (wpAny_field ho hd (x:=.ref t) rfl ?_);show wpAny _ _ (if (Value.ref t==Value.none)=true then _ else _) _ _ s
 rw[if_neg (show ¬((Value.ref t==Value.none)=true) from nft)];show wpAny _ _ (field (.ref i) 1 >>= _) _ _ s
 refine wpAny_bind (wpAny_field ho hd (x:=.int k 0) rfl ?_);show wpAny _ _ (seqItems? (.ref t) >>= _) _ _ s
 refine wpAny_bind (wpAny_seqItems hol hdl ?_);simp only[Int.toNat_natCast,hx]
 refine wpAny_bind (wpAny_setField ho hd (by simp) (wpAny_pure ⟨y,rfl,wpAny_pure (hQ _ s.toks y rfl ⟨?_,ht.extBut (Heap.SameBut.update ..).extBut hne⟩ (Heap.SameBut.update ..))⟩))
 exact⟨_,Heap.get?_update_self _ ho (Obj.isFreed_of_fields (Obj.data_mapFields hd _)),(Obj.cls_mapFields ..).trans hc,by rw[Obj.data_mapFields hd];simp[rawInt]⟩
abbrev ItNew (v:Value) (o:Obj) (Pre:Heap→Prop):Prop:=∀(prog:Program) (w:World) (A:Around) (E:Value→Shared→Prop) (s:Shared) (Q:Value→Shared→Prop),Pre s.heap→Q (.ref s.heap.objs.size) { s with heap:=s.heap.push o }→wpAny (model prog w) A (pyIter v) Q E s
theorem new_ascii {x:Str}{t:Tok}(ha:x.cps.all (· < 128)=true):ItNew (.str x t) { cls:=.type "str_ascii_iterator", data:=.fields #[.str x t,.int 0 0] } (fun _=>True):=fun prog w A E s Q _ hQ=>wpAny_pyIter_ascii ha hQ
theorem new_tup {t:Addr}{items:Array Value}:ItNew (.ref t) { cls:=.type "tuple_iterator", data:=.fields #[.ref t,.int 0 0] } (fun h=>h.IsTuple t items):=fun prog w A E s Q ht hQ=>wpAny_pyIter_tuple ht hQ
abbrev zH1 (h:Heap) (o1:Obj):Heap:=h.push o1
abbrev zH2 (h:Heap) (o1 o2:Obj):Heap:=(zH1 h o1).push o2
abbrev zH3 (h:Heap) (o1 o2:Obj):Heap:=(zH2 h o1 o2).push { cls:=.type "tuple", data:=.seq #[.ref h.objs.size,.ref (zH1 h o1).objs.size] }
abbrev zH4 (h:Heap) (o1 o2:Obj):Heap:=(zH3 h o1 o2).push { cls:=.type "tuple", data:=.seq #[.none,.none] }
abbrev zH5 (h:Heap) (o1 o2:Obj):Heap:=(zH4 h o1 o2).push { cls:=.type "zip", data:=.fields #[.none,.bool false,.bool false,.ref (zH2 h o1 o2).objs.size,.ref (zH3 h o1 o2).objs.size] }
theorem meetsG_new {v1 v2:Value}{o1 o2:Obj}{Pre1 Pre2:Heap→Prop}(n1:ItNew v1 o1 Pre1) (n2:ItNew v2 o2 Pre2) (st2:∀h o,Pre2 h→Pre2 (h.push o)) :
   Meets (Builtin.«zip.__new__» ⟨[.type "zip", v1,v2],[]⟩) (fun _ R s=>Pre1 s.heap∧Pre2 s.heap∧R (.ok (.ret (.ref (zH4 s.heap o1 o2).objs.size))) { s with heap:=zH5 s.heap o1 o2 }):=
 .of_wp fun prog w A R s h=>by
   obtain⟨hp,g,d,tk,os⟩:=s
   obtain⟨p1,p2,h⟩:=h
   have hsub:=sub_zip
   have p2':Pre2 (hp.push o1):=st2 _ _ p2
   wp_walk using n1 _ _ _ _ _ _ p1,n2 _ _ _ _ _ _ p2'
   exact⟨_,rfl,h⟩
end
end L2
namespace L2
open PySem PySem.Spec PyProof.Rows
section
variable {prog:Program}{w:World}{A:Around}{E:Value→Shared→Prop}{s:Shared}
theorem callG_zip {v1 v2:Value}{o1 o2:Obj}{Pre1 Pre2:Heap→Prop}{Q:Value→Shared→Prop}(n1:ItNew v1 o1 Pre1) (n2:ItNew v2 o2 Pre2) (st2:∀h o,Pre2 h→Pre2 (h.push o)) (f1:o1.isFreed=false) (f2:o2.isFreed=false) (h1:Pre1 s.heap) (h2:Pre2 s.heap)
   (h:∀h',IsZip h' (s.heap.objs.size+4) (s.heap.objs.size+2) (s.heap.objs.size+3) .none→IsPair h' (s.heap.objs.size+2) (.ref s.heap.objs.size) (.ref (s.heap.objs.size+1)) →
     IsPair h' (s.heap.objs.size+3) .none .none→h'.get? s.heap.objs.size=some o1→h'.get? (s.heap.objs.size+1)=some o2→(∀c o,s.heap.get? c=some o→h'.get? c=some o)→Q (.ref (s.heap.objs.size+4)) { s with heap:=h' }) :
   wpAny (model prog w) A (call (.type "zip") [v1,v2]) Q E s:=by
 refine callType_new F.called_zip (by decide) (F.typeCall_zip_2 _ _) (F.newCall_zip_2 _ _) (fun obj=>F.args_object_init_3 obj _ _) F.entry_zip_new (meetsG_new n1 n2 st2) ⟨h1,h2,?_⟩
 have z1:(zH1 s.heap o1).objs.size=s.heap.objs.size+1:=Heap.size_push ..
 have z2:(zH2 s.heap o1 o2).objs.size=s.heap.objs.size+2:=by rw[Heap.size_push,z1]
 have z3:(zH3 s.heap o1 o2).objs.size=s.heap.objs.size+3:=by rw[Heap.size_push,z2]
 have z4:(zH4 s.heap o1 o2).objs.size=s.heap.objs.size+4:=by rw[Heap.size_push,z3]
 have e5:(zH5 s.heap o1 o2).get? (zH4 s.heap o1 o2).objs.size=some _:=Heap.get?_push_size _ rfl
 have e4:(zH5 s.heap o1 o2).get? (zH3 s.heap o1 o2).objs.size=some _:=Heap.get?_push_of_some _ (Heap.get?_push_size _ rfl)
 have e3:(zH5 s.heap o1 o2).get? (zH2 s.heap o1 o2).objs.size=some _:=Heap.get?_push_of_some _ (Heap.get?_push_of_some _ (Heap.get?_push_size _ rfl))
 have e2:(zH5 s.heap o1 o2).get? (zH1 s.heap o1).objs.size=some o2:=Heap.get?_push_of_some _ (Heap.get?_push_of_some _ (Heap.get?_push_of_some _ (Heap.get?_push_size _ f2)))
 have e1:(zH5 s.heap o1 o2).get? s.heap.objs.size=some o1:=Heap.get?_push_of_some _ (Heap.get?_push_of_some _ (Heap.get?_push_of_some _ (Heap.get?_push_of_some _ (Heap.get?_push_size _ f1))))
 show _∧_
 rw[z2,z3,z4] at e5
 rw[z1,z2] at e3
 rw[z3] at e4
 rw[z1] at e2
 rw[z4]
 exact⟨⟨_,e5,rfl⟩,h _ e5 e3 e4 e1 e2 fun c o x=>Heap.get?_push_of_some _ (Heap.get?_push_of_some _ (Heap.get?_push_of_some _ (Heap.get?_push_of_some _ (Heap.get?_push_of_some _ x))))⟩
end
section
variable {X:Cx}{pins:List (Addr×Obj)}{σ:St}{H:Hp}{s:Shared}
theorem sqT_ne {a z:Addr}{xs:List V}(I:Inv X pins σ H s) (hf:FpOk X pins H z) (h:SqT X.K H a xs):a≠z:=by
 rintro rfl
 rcases h with h | ⟨o,its,n,hk,_⟩
 · rcases h with h | ⟨o',h⟩ <;> rw[hf.1] at h <;> cases h
 · have e:=I.ok.mod.kin a o hk
   rcases hf.2.2.2.1 with z | z
   · exact I.ok.noex a o e z
   · exact absurd (Nat.lt_of_lt_of_le (Heap.lt_size e) (Nat.le_trans I.ok.bsz z)) (Nat.lt_irrefl _)
end
def Itzs (K:Frg) (x:Str) (l2:Addr):It:=
 ⟨fun i H=>∃ys,SqT K H l2 ys∧i < x.cps.size∧i < ys.length,
  fun i H v H'=>∃p c b,H p=none∧v = .ref p∧H'=upd H p (.tup [.str ⟨#[c]⟩,b])∧x.cps[i]?=some c∧∀ys,SqT K H l2 ys→ys[i]?=some b,
  fun i H=>x.cps.size≤i⟩
theorem turn_zipST {P:Program}{w:World}{K:Frg}{elts:List Expr}{kk:Nat}{tpos:Pos}(z TI TO i1 i2:Addr) (x:Str) (t:Tok) (l2:Addr) (d1:TI≠z) (d2:TO≠z) (d3:i1≠z) (d4:i2≠z) (d5:TI≠TO) (d6:TI≠i1) (d7:TI≠i2) (d8:TO≠i1) (d9:TO≠i2) (d10:i1≠i2) :
   Turn P w K (.Tuple elts kk tpos) (Itzs K x l2) [z,TI,TO,i1,i2] z (fun i h=>IsZip h z TI TO .none∧IsPair h TI (.ref i1) (.ref i2)∧(∃a b,IsPair h TO a b)∧h.IsStrIter i1 "str_ascii_iterator" x t i∧h.IsTupleIter i2 l2 i) where
 mem:=by simp
 obj:=fun i h ⟨a1,a2,⟨x,y,a3⟩,a4,a5⟩ b hb=>by
   simp only[List.mem_cons,List.not_mem_nil,or_false] at hb
   rcases hb with rfl | rfl | rfl | rfl | rfl
   · exact⟨_,a1,fun v q=>by cases q⟩
   · exact⟨_,a2,fun v q=>by cases q⟩
   · exact⟨_,a3,fun v q=>by cases q⟩
   · obtain⟨o,e,c,d⟩:=a4;exact⟨o,e,fun v q=>by rw[d] at q;cases q⟩
   · obtain⟨o,e,c,d⟩:=a5;exact⟨o,e,fun v q=>by rw[d] at q;cases q⟩
 keep:=fun i h h' ⟨a1,a2,⟨x,y,a3⟩,⟨o4,e4,r4⟩,a5⟩ k=>⟨k z (by simp) _ a1,k TI (by simp) _ a2,⟨x,y,k TO (by simp) _ a3⟩,⟨o4,k i1 (by simp) o4 e4,r4⟩,a5.at fun o e=>k i2 (by simp) o e⟩
 item:=by
   intro X hP hw hK hc i pins s σ H E I hf ⟨a1,a2,⟨x0,y0,a3⟩,a4,a5⟩ hg
   subst hP hw hK
   obtain⟨ys,hy,lx,ly⟩:=hg
   obtain⟨its2,ry,py,_⟩:=I.tuple hy
   obtain⟨v,hv,rv⟩:=ry.get (List.getElem?_eq_getElem ly)
   have hx:x.cps[i]?=some x.cps[i]:=Array.getElem?_eq_getElem lx
   have py':s.heap.IsTuple l2 its2.toArray:=py
   have ne2:∀c∈[z,TI,TO,i1,i2],l2≠c:=fun c hc=>sqT_ne I (hf c hc) hy
   have D:ZAp z TI TO i1 i2 [i1] [i2,l2]:=⟨d2,d3,d4,d8,d9,d10,fun c hc=>by
       have:c=i1:=by simpa using hc
       subst this;exact⟨d3,d8.symm,d10⟩,fun c hc=>by
       rcases List.mem_cons.mp hc with rfl | hc
       · exact⟨d4,d9.symm,d10.symm⟩
       · have:c=l2:=by simpa using hc
         subst this;exact⟨ne2 z (by simp),ne2 TO (by simp),ne2 i1 (by simp)⟩⟩
   have t1:∀k,Stays [i1] (fun h=>h.IsStrIter i1 "str_ascii_iterator" x t k):=fun k h h' ⟨o,e,r⟩ q=>⟨o,q i1 (by simp) o e,r⟩
   have t2:∀k,Stays [i2,l2] (fun h=>h.IsTupleIter i2 l2 k∧h.IsTuple l2 its2.toArray):=fun k h h' ⟨⟨o,e,r⟩,⟨o',e',r'⟩⟩ q=>⟨⟨o,q i2 (by simp) o e,r⟩,⟨o',q l2 (by simp) o' e',r'⟩⟩
   refine zipG_next (R1:=fun u=>RelV (.str ⟨#[x.cps[i]]⟩) u) (R2:=fun u=>u=v) D (t1 i) (t1 (i+1)) (t2 i) (t2 (i+1)) (fun A=>nx_ascii hx) (fun A=>nx_tup (ne2 i2 (by simp)) (by simpa using hv)) a1 a2 a3 a4 ⟨a5,py'⟩
     (fun h ⟨o,e,_⟩=>Heap.lt_size e) (fun h ⟨⟨o,e,_⟩,_⟩=>Heap.lt_size e) fun h' tk u u2 ru eu2 b1 b2 b3 b4 b5 b6 hk=>?_
   subst eu2
   refine⟨_,rfl,wpAny_letOwnedTupleGo_zip (s:={ s with heap:=h',toks:=tk }) b1 fun h2 c1 sb=>?_⟩
   have lt:∀{c o},s.heap.get? c=some o→s.heap.objs.size≠c:=fun e=>Nat.ne_of_gt (Heap.lt_size e)
   have keep:∀b o,b∉[z,TO,i1,i2]→s.heap.get? b=some o→h2.get? b=some o:=fun b o hb e=>by
     simp only[List.mem_cons,List.not_mem_nil,or_false,not_or] at hb
     exact sb.extBut b o hb.1 (hk b o hb.1 hb.2.1 hb.2.2.1 hb.2.2.2 e)
   have sub:∀b∈[z,TO,i1,i2],b∈[z,TI,TO,i1,i2]:=fun b hb=>by
     simp only[List.mem_cons,List.not_mem_nil,or_false] at hb ⊢
     rcases hb with h | h | h | h <;> simp[h]
   have hTz:s.heap.objs.size≠z:=lt a1
   have I1:Inv X pins σ (upd H s.heap.objs.size (.tup [.str ⟨#[x.cps[i]]⟩,ys[i]])) { s with heap:=h2,toks:=tk }:=I.turnedT (t':=tk) (ch:=[z,TO,i1,i2]) keep (fun b hb=>(hf b (sub b hb)).1)
     (fun b hb=>let q:=hf b (sub b hb);⟨q.2.2.2.1,q.2.1,q.2.2.2.2.1,q.2.2.2.2.2⟩) (Nat.le_refl _)
     ⟨by show 2≤sizeLine;decide,[u,u2],.cons ru (.cons rv .nil),⟨_,sb.extBut _ _ hTz b5,rfl,_,rfl⟩⟩
   refine⟨.ref s.heap.objs.size,_,I1,rfl,⟨s.heap.objs.size,x.cps[i],ys[i],I.hok.fresh (Nat.le_refl _),rfl,rfl,hx,fun ys' hy'=>?_⟩,
     ⟨c1,keep _ _ ?_ a2,⟨_,_,sb.extBut _ _ d2 b2⟩,b3.extBut sb.extBut d3,b4.1.extBut sb.extBut d4⟩,fun b hb=>?_⟩
   · rw[I.tuple_inj hy' hy]
     exact List.getElem?_eq_getElem ly
   · simp[d1,d5,d6,d7]
   · have hlt:s.heap.objs.size≠b:=by
       simp only[List.mem_cons,List.not_mem_nil,or_false] at hb
       rcases hb with rfl | rfl | rfl | rfl | rfl
       · exact lt a1
       · exact lt a2
       · exact lt a3
       · obtain⟨o,e,_⟩:=a4;exact lt e
       · obtain⟨o,e,_⟩:=a5;exact lt e
     rw[upd_ne (Ne.symm hlt)]
     exact(hf b hb).1
 done:=by
   intro X hP hw hK hc i pins s σ H E I hf ⟨a1,a2,⟨x0,y0,a3⟩,a4,a5⟩ hg
   subst hP hw hK
   have hx:x.cps[i]?=none:=Array.getElem?_eq_none hg
   have D:ZAp z TI TO i1 i2 [i1] []:=⟨d2,d3,d4,d8,d9,d10,fun c hc=>by
       have:c=i1:=by simpa using hc
       subst this;exact⟨d3,d8.symm,d10⟩,fun c hc=>nomatch hc⟩
   have t1:Stays [i1] (fun h=>h.IsStrIter i1 "str_ascii_iterator" x t i):=fun h h' ⟨o,e,r⟩ q=>⟨o,q i1 (by simp) o e,r⟩
   have sub:∀b∈[z,TO,i1,i2],b∈[z,TI,TO,i1,i2]:=fun b hb=>by
     simp only[List.mem_cons,List.not_mem_nil,or_false] at hb ⊢
     rcases hb with h | h | h | h <;> simp[h]
   refine zipG_stop (I.ok.hd hc) a1 (fun Q' E' hE' A' hA'=>zipG_end1 D t1 (nxE_ascii hA' hx) a1 a2 a3 a4 hE') fun h' tk hk=>⟨rfl,I.turnedL (t':=tk) (ch:=[z,TO,i1,i2]) (fun b o hb e=>?_) (fun b hb=>(hf b (sub b hb)).1) fun b hb=>let q:=hf b (sub b hb);⟨q.2.2.2.1,q.2.1,q.2.2.2.2.1,q.2.2.2.2.2⟩⟩
   simp only[List.mem_cons,List.not_mem_nil,or_false,not_or] at hb
   exact hk b o hb.1 hb.2.1 hb.2.2.1 hb.2.2.2 e
 self:=fun _ _ _ _ _ st h=>wpAny_pyIter_zip st.1 h
section
variable {X:Cx}{K:Frg}
def iZipA (K:Frg) (ta:TA):TI:=fun σ H R=>ta σ H fun vs H1=>False∨∃x b,vs=[.str x,.ref b]∧x.cps.all (· < 128)=true∧(∃ys,SqT K H1 b ys)∧R (Itzs K x b) H1
theorem pi_zipA {a b:Expr}{ta:TA}{p pos:Pos}{elts:List Expr}{kk:Nat}{tpos:Pos}(hg:Gl X "zip") (hm:X.mg "zip"=none) (ha:PA X [a,b] ta) (hs:starEach [a,b] X.env=[(false,eval a X.env),(false,eval b X.env)]:=by rfl) (hs2:starEach [b] X.env=[(false,eval b X.env)]:=by rfl) :
   PI X (.Tuple elts kk tpos) (.Call (.Name "zip" p) [a,b] [] pos) (iZipA X.K ta):=by
 intro pins s σ H R I h
 refine Call_ (ld_blt I hg hm boot_zip (PyProof.Rows.callWith_type1 (thn (ha pos pins s σ H _ I h) fun us s1 ⟨vs,H1,I1,r1,q1⟩=>?_) (by rw[hs,hs2]) (by rw[hs2];rfl)))
 have ne:∀(m n:Nat),m≠n→s1.heap.objs.size+m≠s1.heap.objs.size+n:=fun m n h e=>h (Nat.add_left_cancel e)
 have fp:∀b∈[s1.heap.objs.size+4,s1.heap.objs.size+2,s1.heap.objs.size+3,s1.heap.objs.size,s1.heap.objs.size+1],FpOk X pins H1 b:=fun b hb=>by
   have hle:s1.heap.objs.size≤b:=by
     simp only[List.mem_cons,List.not_mem_nil,or_false] at hb
     rcases hb with rfl | rfl | rfl | rfl | rfl
     · exact Nat.le_add_right _ _
     · exact Nat.le_add_right _ _
     · exact Nat.le_add_right _ _
     · exact Nat.le_refl _
     · exact Nat.le_add_right _ _
   exact I1.fpOk hle (I1.hok.fresh hle)
 rcases q1 with q1 | ⟨x,l2,e,hx,⟨ys,hy⟩,q⟩
 · exact q1.elim
 · subst e
   cases r1 with
   | cons r rr=>
     cases rr with
     | cons r' rr=>
       cases rr;cases r'
       obtain⟨t,rfl⟩:=r
       obtain⟨its2,ry,py,_⟩:=I1.tuple hy
       refine callG_zip (new_ascii (t:=t) hx) (new_tup (t:=l2) (items:=its2.toArray)) (fun h o q=>q.push o) rfl rfl trivial (show s1.heap.IsTuple l2 its2.toArray from py) fun h' b1 b2 b3 b4 b5 hk=>?_
       refine wpAny_pyIter_zip (s:={ s1 with heap:=h' }) b1 ?_
       exact⟨s1.heap.objs.size+4,[s1.heap.objs.size+4,s1.heap.objs.size+2,s1.heap.objs.size+3,s1.heap.objs.size,s1.heap.objs.size+1],_,_,H1,rfl,I1.kept (t':=s1.toks) hk,
         turn_zipST (s1.heap.objs.size+4) (s1.heap.objs.size+2) (s1.heap.objs.size+3) s1.heap.objs.size (s1.heap.objs.size+1) x t l2 (ne 2 4 (by decide)) (ne 3 4 (by decide)) (ne 0 4 (by decide)) (ne 1 4 (by decide)) (ne 2 3 (by decide)) (ne 2 0 (by decide)) (ne 2 1 (by decide)) (ne 3 0 (by decide)) (ne 3 1 (by decide)) (ne 0 1 (by decide)),
         ⟨b1,b2,⟨_,_,b3⟩,⟨_,b4,rfl,rfl⟩,⟨_,b5,rfl,rfl⟩⟩,fp,q⟩
theorem kZipA {a b:Expr}{ta:TA}{p pos:Pos}{elts:List Expr}{kk:Nat}{tpos:Pos}(h:X.K=K) (hg:Gl X "zip") (hm:X.mg "zip"=none) (ha:PA X [a,b] ta) (hs:starEach [a,b] X.env=[(false,eval a X.env),(false,eval b X.env)]:=by rfl) (hs2:starEach [b] X.env=[(false,eval b X.env)]:=by rfl) :
   PI X (.Tuple elts kk tpos) (.Call (.Name "zip" p) [a,b] [] pos) (iZipA K ta):=h▸pi_zipA hg hm ha hs hs2
end
end L2
namespace L2
open PySem PySem.Spec PyProof.Rows
section
variable {X:Cx}
def rIsA:R2:=fun x y H Q=>(y = .non∧Q (.bl (decide (x = .non))) H)∨∃a b:Bool,x = .bl a∧y = .bl b∧Q (.bl (a==b)) H
theorem op_isA:OpR X (compareOp .Is) rIsA:=by
 intro pins s σ H x y v u Q I rx ry h
 rcases h with h | ⟨a,b,rfl,rfl,q⟩
 · exact op_isN pins s σ H x y v u Q I rx ry h
 · cases rx;cases ry
   refine wpAny_is_plain rfl ⟨.bl (a==b),H,I,?_,q⟩
   cases a <;> cases b <;> rfl
def rNotA:R2:=fun x y H Q=>(y = .non∧Q (.bl (!decide (x = .non))) H)∨∃a b:Bool,x = .bl a∧y = .bl b∧Q (.bl (!(a==b))) H
theorem op_notA:OpR X (compareOp .IsNot) rNotA:=by
 intro pins s σ H x y v u Q I rx ry h
 rcases h with h | ⟨a,b,rfl,rfl,q⟩
 · exact op_notN pins s σ H x y v u Q I rx ry h
 · cases rx;cases ry
   refine wpAny_isNot_plain rfl ⟨.bl (!(a==b)),H,I,?_,q⟩
   cases a <;> cases b <;> rfl
end
end L2
namespace DL
open PySem PySem.Spec L2
section
variable {K:Frg}{ρ:List (Option DS)}{M:Own}{Q:DS→Own→Prop}{QI:List PyData→Own→Prop}
theorem d2_isNA {d:PyData}(q:Q (.d (.bool (isNoneD d))) M):D2 K rIsA (.d d) (.d .none) M Q:=d2_or1 (d2_isN q)
theorem d2_notNA {d:PyData}(q:Q (.d (.bool (!isNoneD d))) M):D2 K rNotA (.d d) (.d .none) M Q:=d2_or1 (d2_notN q)
theorem di_zipS {ta:TA}(h:DA K ta ρ M fun xs M1=>∃z bs,xs=[.d (.str z),.d (.tuple bs)]∧z.cps.all (· < 128)=true∧z.cps.size≤bs.length∧QI (zipD (signs z) bs) M1):DI K (iZipA K ta) ρ M QI:=fun σ H R Rl k=>
 h σ H _ Rl fun vs H1 xs M1 o1 s1 t1 ⟨z,bs,e,hz,hl0,q⟩=>by
   subst e
   obtain⟨v,r,rfl,h1,v2,r2,rfl,h2,h3⟩:=s1
   cases h3
   rw[si_str h1]
   unfold SI DV at h2
   obtain⟨b,vb,rfl,hl2,hd2⟩:=h2
   have hlen:(zipD (signs z) bs).length=z.cps.size:=by unfold zipD;rw[List.length_map,List.length_zip,signs_len];omega
   refine .inr ⟨z,b,rfl,hz,⟨vb,hl2.sq⟩,k _ (zipD (signs z) bs) H1 M1 o1 t1 ⟨fun i H' M' hi oa st=>?_,fun H' M' oa st=>?_,fun i H' M' x H2 oa st hi y=>?_⟩ q⟩
   · rw[hlen] at hi
     exact⟨vb,(hl2.grow st.grow).sq,hi,by rw[hd2.length];omega⟩
   · show z.cps.size≤_
     rw[hlen];exact Nat.le_refl _
   · obtain⟨p,c,xb,hp,rfl,rfl,hc,hy⟩:=y
     have e2:=hy vb (hl2.grow st.grow).sq
     obtain⟨db,g1,g2⟩:=hd2.get e2
     have gg:Grow K M'.W M'.W H' (upd H' p (.tup [.str ⟨#[c]⟩,xb])):=grow_new _ hp
     refine⟨oa.new hp,⟨gg⟩,.tuple [.str ⟨#[c]⟩,db],?_,?_⟩
     · unfold zipD
       rw[List.getElem?_map]
       have hs:(signs z)[i]?=some (.str ⟨#[c]⟩):=by unfold signs;rw[List.getElem?_map];simp[hc]
       have:((signs z).zip bs)[i]?=some (.str ⟨#[c]⟩,db):=by rw[List.getElem?_zip_eq_some];exact⟨hs,g1⟩
       rw[this];rfl
     · unfold DV
       exact⟨p,_,rfl,.inl ⟨fun w=>w (oa.none hp),.inl upd_same⟩,DVs.cons (by unfold DV;rfl) (DVs.cons ((g2.grow st.grow).grow gg) DVs.nil)⟩
def DPs (K:Frg) (trs:List (TE×TE)) (ρ:List (Option DS)) (M:Own) (Q:List (Str×PyData)→Own→Prop):Prop:=
 ∀(σ:St) (H:Hp) (QQ:List (V×V)→Hp→Prop),Rel K M ρ σ H→(∀ps H' kds M',OA K H' M'→(∃vs,DVs K H' M'.W (kds.map (·.2)) vs∧ps=(kds.map fun k=>V.str k.1).zip vs)→Step K M M' H H'→Q kds M'→QQ ps H')→tPairs trs σ H QQ
theorem dps_nil {Q:List (Str×PyData)→Own→Prop}(h:Q [] M):DPs K [] ρ M Q:=fun σ H QQ R k=>k [] H [] M R.own ⟨[],DVs.nil,rfl⟩ Step.refl h
theorem dps_cons {tk tv:TE}{trs:List (TE×TE)}{Q:List (Str×PyData)→Own→Prop}(h:DE K tk ρ M fun x M1=>∃k,x = .d (.str k)∧DE K tv ρ M1 fun y M2=>∃d,y = .d d∧DPs K trs ρ M2 fun kds M3=>Q ((k,d)::kds) M3):DPs K ((tk,tv)::trs) ρ M Q:=fun σ H QQ R kk=>
 h σ H _ R fun v H1 x M1 o1 s1 t1 h1=>by
   obtain⟨k,rfl,h1⟩:=h1
   refine h1 σ H1 _ (R.step o1 t1) fun u H2 y M2 o2 s2 t2 h2=>?_
   obtain⟨d,rfl,h2⟩:=h2
   refine h2 σ H2 _ (R.step o2 (t1.trans t2)) fun ps H3 kds M3 o3 ⟨vs,s3,e3⟩ t3 q=>?_
   refine kk _ H3 ((k,d)::kds) M3 o3 ⟨u::vs,DVs.cons (DV.grow t3.grow s2) s3,?_⟩ ((t1.trans t2).trans t3) q
   rw[si_str s1,e3];rfl
theorem merge_nodup:∀(kvs acc:List (Key×V)),((acc++kvs).map (·.1)).Nodup→mergeK acc kvs=acc++kvs
 | [],acc,_=>by simp[mergeK]
 | kv::r,acc,h=>by
   have h1:(acc.any fun x=>decide (x.1=kv.1))=false:=by
     rw[List.any_eq_false]
     intro x hx
     rw[List.map_append,List.nodup_append] at h
     have:=h.2.2 x.1 (List.mem_map.mpr ⟨x,hx,rfl⟩) kv.1 (by simp)
     simpa using this
   show mergeK (putK acc kv.1 kv.2) r=_
   have e:putK acc kv.1 kv.2=acc++[kv]:=by
     unfold putK
     rw[h1];rfl
   rw[e,merge_nodup r (acc++[kv]) (by rw[List.append_assoc];exact h)]
   simp
theorem dkv_of {H:Hp}{W:Addr→Prop}:∀{kds:List (Str×PyData)}{vs:List V},DVs K H W (kds.map (·.2)) vs→DKV K H W (kds.map fun k=>(.str k.1,k.2)) ((kds.map fun k=>(Sum.inr k.1:Key)).zip vs)
 | [],vs,h=>by unfold DKV;rfl
 | (k,d)::r,vs,h=>by
   rw[List.map_cons] at h
   unfold DVs at h
   obtain⟨v,r',rfl,h1,h2⟩:=h
   rw[List.map_cons]
   unfold DKV
   exact⟨Sum.inr k,v,_,rfl,rfl,h1,dkv_of h2⟩
theorem zip_keys:∀(kds:List (Str×PyData)) (vs:List V),vs.length=kds.length→(kds.map fun k=>V.str k.1).zip vs=((kds.map fun k=>(Sum.inr k.1:Key)).zip vs).map fun kv=>(kV kv.1,kv.2)
 | [],vs,_=>by simp
 | a::r,[],h=>by cases h
 | a::r,v::vs,h=>by
   rw[List.map_cons,List.map_cons,List.zip_cons_cons,List.zip_cons_cons,List.map_cons,zip_keys r vs (by simpa using h)];rfl
theorem de_dispN {trs:List (TE×TE)}(h:∀p,M p=none→DPs K trs ρ (M.put p (.d [])) fun kds M1=>M1 p=some (.d [])∧kds.length≤15∧(kds.map (·.1)).Nodup∧Q (.d (.dict (kds.map fun k=>(.str k.1,k.2)))) (M1.del p)):DE K (tDisp trs) ρ M Q:=fun σ H QQ R k p hp=>by
 have hMp:=R.own.none hp
 obtain⟨oa0,st0⟩:=own_newD (kvs:=[]) (ks:=[]) R.own hp (by unfold DKV;rfl)
 refine h p hMp σ _ _ (R.step oa0 st0) fun ps H2 kds M2 o2 ⟨vs,hd,e⟩ t2 h2=>?_
 obtain⟨hm,hl,nd,q⟩:=h2
 obtain⟨ks,q1,q2⟩:=o2 p _ hm
 unfold DKV at q2
 subst q2
 have hlen:vs.length=kds.length:=by rw[hd.length,List.length_map]
 refine⟨q1,(kds.map fun k=>(Sum.inr k.1:Key)).zip vs,?_,by rw[List.length_zip,List.length_map];omega,?_⟩
 · rw[e];exact zip_keys kds vs hlen
 · have hk:(((kds.map fun k=>(Sum.inr k.1:Key)).zip vs).map (·.1)).Nodup:=by
     rw[List.map_fst_zip (by rw[List.length_map,hlen];exact Nat.le_refl _)]
     have:kds.map (fun k=>(Sum.inr k.1:Key))=(kds.map (·.1)).map Sum.inr:=by rw[List.map_map];rfl
     rw[this]
     unfold List.Nodup
     rw[List.pairwise_map]
     exact nd.imp fun {a b} q e=>q (by injection e)
   rw[merge_nodup _ [] (by simpa using hk),List.nil_append]
   obtain⟨o3,t3⟩:=own_writeD (kvs:=kds.map fun k=>(.str k.1,k.2)) (ks:=(kds.map fun k=>(Sum.inr k.1:Key)).zip vs) o2 hm (dkv_of hd)
   have hs:(M2.del p).Sub (M2.put p (.d (kds.map fun k=>(.str k.1,k.2)))):=fun b o e=>by
     unfold Own.del at e
     by_cases hb:b=p
     · rw[if_pos hb] at e;cases e
     · rw[if_neg hb] at e;rw[Own.put_ne hb];exact e
   refine k _ _ (.d (.dict (kds.map fun k=>(.str k.1,k.2)))) (M2.del p) (o3.sub hs) ?_ (((st0.trans t2).trans t3).trans ⟨sub_grow hs⟩) q
   obtain⟨ks',q1',q2'⟩:=o3 p _ Own.put_same
   unfold SI DV
   exact⟨p,ks',rfl,fun w=>w (by unfold Own.del;rw[if_pos rfl]),.inl q1',q2'.grow (sub_grow hs)⟩
def lookK (k:Str):List (PyData×PyData)→Option PyData
 | (.str a,d)::r=>if a=k then some d else lookK k r
 | _::r=>lookK k r
 | []=>none
theorem dkv_val {H:Hp}{W:Addr→Prop}{k:Str}:∀{kvs:List (PyData×PyData)}{ks:List (Key×V)},DKV K H W kvs ks→(∃d v,lookK k kvs=some d∧valV ks (Sum.inr k)=some v∧DV K H W d v)∨(lookK k kvs=none∧valV ks (Sum.inr k)=none)
 | [],ks,h=>by unfold DKV at h;subst h;exact .inr ⟨rfl,rfl⟩
 | (kd,d)::r,ks,h=>by
   unfold DKV at h
   obtain⟨k',v,r',rfl,rfl,h1,h2⟩:=h
   have ih:=dkv_val (k:=k) h2
   unfold valV at ih ⊢
   rw[List.find?_cons]
   cases k' with
   | inl i=>
     have e1:decide ((Sum.inl i:Key)=Sum.inr k)=false:=rfl
     rw[e1]
     exact ih
   | inr a=>
     by_cases e:a=k
     · subst e
       left
       exact⟨d,v,by simp[keyD,lookK],by simp,h1⟩
     · have e1:decide ((Sum.inr a:Key)=Sum.inr k)=false:=decide_eq_false fun q=>e (by injection q)
       rw[e1]
       rcases ih with ⟨d',v',a1,a2,a3⟩ | ⟨a1,a2⟩
       · exact .inl ⟨d',v',by simp only[keyD,lookK,if_neg e];exact a1,a2,a3⟩
       · exact .inr ⟨by simp only[keyD,lookK,if_neg e];exact a1,a2⟩
theorem de_dget2 {td ty tx:TE}(h:DE K td ρ M fun x M1=>∃kvs,x = .d (.dict kvs)∧DE K ty ρ M1 fun y M2=>∃k,y = .d (.str k)∧DE K tx ρ M2 fun z M3=>∃dz,z = .d dz∧Q (.d ((lookK k kvs).getD dz)) M3):DE K (tDGet2 td ty tx) ρ M Q:=fun σ H QQ R kk=>
 h σ H _ R fun v H1 x M1 o1 s1 t1 h1=>by
   obtain⟨kvs,rfl,h1⟩:=h1
   have s1':=s1
   unfold SI DV at s1'
   obtain⟨a,ks,rfl,nw,ha,hk⟩:=s1'
   refine⟨a,rfl,.inl ⟨ks,ha⟩,h1 σ H1 _ (R.step o1 t1) fun u H2 y M2 o2 s2 t2 h2=>?_⟩
   obtain⟨k,rfl,h2⟩:=h2
   refine h2 σ H2 _ (R.step o2 (t1.trans t2)) fun z H3 zz M3 o3 s3 t3 h3=>?_
   obtain⟨dz,rfl,q⟩:=h3
   have s1'':=s1.step (t2.trans t3)
   unfold SI DV at s1''
   obtain⟨a',ks',e,nw',ha',hk'⟩:=s1''
   cases e
   rw[si_str s2]
   rcases dkv_val (k:=k) hk' with ⟨d,v,e1,e2,e3⟩ | ⟨e1,e2⟩
   · rw[e1] at q
     exact⟨some v,.inl ⟨ks',Sum.inr k,ha',rfl,e2.symm⟩,kk _ H3 (.d d) M3 o3 e3 ((t1.trans t2).trans t3) q⟩
   · rw[e1] at q
     exact⟨none,.inl ⟨ks',Sum.inr k,ha',rfl,e2.symm⟩,kk _ H3 (.d dz) M3 o3 s3 ((t1.trans t2).trans t3) q⟩
end
end DL
namespace L2
open PySem PySem.Spec PyProof.Rows
section
variable {prog:Program}{w:World}{A:Around}{E:Value→Shared→Prop}{s:Shared}
theorem draw_lst {it l:Addr}{its:Array Value}(hne:l≠it):∀(n i:Nat) (s:Shared) (Q:List Value→Shared→Prop),s.heap.IsListIter it l i→s.heap.IsList l its→i+n≤its.size →
   (∀h',h'.IsListIter it l (i+n)→Heap.SameBut it s.heap h'→Q ((its.toList.drop i).take n) { s with heap:=h' })→wpAny (model prog w) A (draw (.ref it) n) Q E s
 | 0,i,s,Q,hit,_,_,hQ=>by
   show wpAny _ _ (pure []) Q E s;exact wpAny_pure (by simpa using hQ s.heap hit (Heap.SameBut.refl ..))
 | n+1,i,s,Q,hit,hl,hle,hQ=>by
   have hlt:i < its.size:=by omega
   show wpAny _ _ (pyNext (.ref it) >>= _) Q E s;refine wpAny_bind (wpAny_pyNext_list_item hit hl (x:=its[i]) (by simp[hlt]) fun g1 t1 q1=>?_)
   refine wpAny_bind (wpAny_holding (draw_lst hne n (i+1) _ _ t1 (hl.extBut q1.extBut hne) (by omega) fun g2 t2 q2=>wpAny_pure ?_))
   have hd:its.toList.drop i=its[i]::its.toList.drop (i+1):=by simp[List.drop_eq_getElem_cons,hlt]
   have h3:=hQ g2 (by rw[show i+(n+1)=i+1+n by omega];exact t2) (q1.trans q2)
   rw[hd,List.take_succ_cons] at h3
   exact h3
theorem unpack_lst {l:Addr}{its:Array Value}{Q:List Value→Shared→Prop}(hh:A.handled=none) (hl:s.heap.IsList l its)
   (hQ:∀h',Heap.ExtBut s.heap.objs.size s.heap h'→Q its.toList { s with heap:=h' }):wpAny (model prog w) A (unpackItems (.ref l) its.size none) Q E s:=by
 have hne:l≠s.heap.objs.size:=by obtain⟨o,ho,_⟩:=hl;exact Nat.ne_of_lt (Heap.lt_size ho)
 unfold unpackItems;refine wpAny_bind ?_;unfold notIterableAtAll
 refine wpAny_bind (wpAny_specialOf hl.typeIs F.slot_list_iter.lookup ?_);refine wpAny_pure ?_;simp only[Bool.false_eq_true,if_false]
 refine wpAny_bind (wpAny_holding (wpAny_pyIter_list hl ?_))
 refine wpAny_bind (wpAny_holding (draw_lst hne its.size 0 _ _ ⟨_,Heap.get?_push_size _ rfl,rfl,rfl⟩ (hl.push _) (by omega) fun g1 t1 q1=>?_))
 rw[show List.take its.size (List.drop 0 its.toList)=its.toList by rw[List.drop_zero];exact List.take_of_length_le (by simp),if_neg (by simp)]
 refine wpAny_bind (wpAny_holding (wpAny_pyNext_list_end hh t1 ((hl.push _).extBut q1.extBut hne) (by simp) fun g2 e2=>?_));simp only[Option.isSome_none,Bool.false_eq_true,if_false]
 exact wpAny_pure (hQ g2 fun b o hb e=>e2 b o hb (q1.extBut b o hb (Heap.get?_push_of_some _ e)))
end
section
variable {X:Cx}{pos:Pos}
def gTupA (K:Frg) (n:Nat) (t:TGs):TG:=fun v σ H Q=>∃a xs,v = .ref a∧(SqT K H a xs∨SqL K H a xs)∧xs.length=n∧t xs σ H Q
theorem pg_tupA {es:List Expr}{k:Nat}{t:TGs}{n:Nat}(hc:X.calm=true) (h:PGs X es t)
   (hn:(assignEach es X.env).length=n:=by rfl) (hst:(assignEach es X.env).findIdx? (·.1)=none:=by rfl):PG X (.Tuple es k pos) (gTupA X.K n t):=by
 intro pins s σ H v u Q I r hw
 obtain⟨a,xs,e1,hq,hl,hw⟩:=hw
 rcases hq with hq | hq
 · exact pg_tup hc h hn hst pins s σ H v u Q I r ⟨a,xs,e1,hq,hl,hw⟩
 · subst e1
   cases r
   obtain⟨its,rv,pl,hz⟩:=I.list hq
   rw[arm_assign_Tuple]
   refine wpAny_bind (wpAny_standAt ?_)
   unfold unpack
   rw[show(assignEach es X.env).length=its.toArray.size by simp[hn,← hl,rv.length],hst]
   refine wpAny_bind (wpAny_holding (unpack_lst (I.ok.hd hc) pl.isList fun h' hx=>?_))
   have I1:Inv X pins σ H { s with heap:=h' }:=I.kept (t':=s.toks) fun b o e=>hx b o (Nat.ne_of_lt (Heap.lt_size e)) e
   exact h pins _ σ H xs _ Q I1 (by simpa using rv) hw
end
end L2
namespace DL
open PySem PySem.Spec L2
theorem kTupA {X:Cx}{K:Frg}{pos:Pos}{es:List Expr}{k:Nat}{t:TGs}{n:Nat}(hK:X.K=K) (hc:X.calm=true) (h:PGs X es t)
   (hn:(assignEach es X.env).length=n:=by rfl) (hst:(assignEach es X.env).findIdx? (·.1)=none:=by rfl):PG X (.Tuple es k pos) (gTupA K n t):=hK▸pg_tupA hc h hn hst
section
variable {K:Frg}{M:Own}{ρ:List (Option DS)}{P:List (Option DS)→Own→Prop}
theorem dg_tupA {n:Nat}{g:TGs}{ds:List PyData}(hn:ds.length=n) (h:DGs K g ds ρ M P):DG K (gTupA K n g) (.tuple ds) ρ M P:=fun σ H v QQ R dv k=>by
 unfold DV at dv
 obtain⟨a,vs,rfl,hl,hd⟩:=dv
 exact⟨a,vs,rfl,.inl hl.sq,by rw[hd.length];exact hn,h σ H vs QQ R hd k⟩
end
end DL
namespace XC
open PySem PySem.Spec
def ExAt (h:Heap) (e:Addr) (cls:Value) (dd:Option Addr) (ar:Value) (T:Option Addr) (fl:Value):Prop:=
 ∃oe vs,h.get? e=some oe∧oe.cls=cls∧oe.dict=dd∧oe.data = .fields vs∧vs[0]?=some ar ∧
   match T with
   | none=>vs[1]?=some .none
   | some T=>vs[1]?=some (.ref T)∧T≠e∧∃oT ts,h.get? T=some oT∧oT.data = .fields ts∧ts[3]?=some fl
structure Moved (fs ch:List Addr) (h h':Heap):Prop where
 keep:∀b o,h.get? b=some o→b∉fs→b∉ch→h'.get? b=some o
 slot:∀b o,h.get? b=some o→b∉ch→∃sl,h'.get? b=some { o with slots:=sl }
 there:∀b o,h.get? b=some o→∃o',h'.get? b=some o'
theorem Moved.refl (fs ch:List Addr) (h:Heap):Moved fs ch h h:=⟨fun _ _ e _ _=>e,fun _ o e _=>⟨o.slots,e⟩,fun _ o e=>⟨o,e⟩⟩
theorem Moved.trans {fs ch:List Addr}{h h1 h2:Heap}(a:Moved fs ch h h1) (b:Moved fs ch h1 h2):Moved fs ch h h2 where
 keep:=fun c o e n m=>b.keep c o (a.keep c o e n m) n m
 slot:=fun c o e m=>by
   obtain⟨sl,e1⟩:=a.slot c o e m
   obtain⟨sl',e2⟩:=b.slot c _ e1 m
   exact⟨sl',e2⟩
 there:=fun c o e=>by
   obtain⟨o',e1⟩:=a.there c o e
   exact b.there c o' e1
theorem Moved.mono {fs fs' ch ch':List Addr}{h h':Heap}(a:Moved fs ch h h') (f:∀b∈fs,b∈fs') (g:∀b∈ch,b∈ch'):Moved fs' ch' h h':=
 ⟨fun b o e n m=>a.keep b o e (fun z=>n (f b z)) fun z=>m (g b z),fun b o e m=>a.slot b o e fun z=>m (g b z),a.there⟩
theorem Moved.drop {fs ch ch':List Addr}{h h':Heap}(a:Moved fs ch h h') (g:∀b∈ch,b∈ch'∨h.get? b=none):Moved fs ch' h h':=
 ⟨fun b o e n m=>a.keep b o e n fun z=>(g b z).elim m fun q=>by(rw[q] at e;cases e),fun b o e m=>a.slot b o e fun z=>(g b z).elim m fun q=>by(rw[q] at e;cases e),a.there⟩
theorem Moved.frames {fs ch:List Addr}{h h' base:Heap}(a:Moved fs ch h h') {l:List Env}(hl:h.FunFrames base l) (hc:∀b∈ch,b∉l.filterMap (·.frame)):h'.FunFrames base l:=by
 induction l with
 | nil=>trivial
 | cons env rest ih=>
   obtain⟨hk,⟨L,o,hf,hn,ho,hd⟩,hr⟩:=hl
   obtain⟨sl,e⟩:=a.slot L o ho fun z=>hc L z (by rw[List.filterMap_cons,hf];exact .head _)
   exact⟨hk,⟨L,_,hf,hn,e,hd⟩,ih hr fun b z q=>hc b z (by rw[List.filterMap_cons,hf];exact .tail _ q)⟩
theorem isFreed_map {o:Obj}{vs:Array Value}(f:Array Value→Array Value) (hd:o.data = .fields vs):(o.mapFields f).isFreed=false:=Obj.isFreed_of_fields (Obj.data_mapFields hd f)
theorem map_eq {o:Obj}{vs:Array Value}(f:Array Value→Array Value) (hd:o.data = .fields vs):o.mapFields f={ o with data:=.fields (f vs) }:=by
 obtain⟨c,d,dt,sl⟩:=o
 cases hd
 rfl
theorem upd_moved {h:Heap}{a:Addr}{o:Obj}{vs:Array Value}(f:Array Value→Array Value) (ho:h.get? a=some o) (hd:o.data = .fields vs) (fs:List Addr):Moved fs [a] h (h.update a (Obj.mapFields f)):=by
 have k:∀b u,h.get? b=some u→b∉[a]→(h.update a (Obj.mapFields f)).get? b=some u:=fun b u e m=>by
   rw[Heap.get?_update_other _ _ (fun z=>m (by simp[z]))];exact e
 refine⟨fun b u e _ m=>k b u e m,fun b u e m=>⟨u.slots,k b u e m⟩,fun b u e=>?_⟩
 by_cases q:b=a
 · subst q;exact⟨_,Heap.get?_update_self _ ho (isFreed_map f hd)⟩
 · exact⟨u,k b u e (by simp[q])⟩
section
variable {M:Model}{A:Around}{E:Value→Shared→Prop}{s:Shared}{base:Heap}{env:Env}{outer:List Env}{L e:Addr}{cls ar:Value}{dd:Option Addr}{T:Option Addr}
theorem flight_ok {T:Addr}{fl:Value}{Q:Unit→Shared→Prop}(x:ExAt s.heap e cls dd ar (some T) fl)
   (h:∀h',ExAt h' e cls dd ar (some T) .none→Moved [] [T] s.heap h'→Q () { s with heap:=h' }):wpAny M A (setFlight (.ref e) none) Q E s:=by
 obtain⟨oe,vs,he,hc,hdd,hd,h0,h1,hT,oT,ts,hoT,hdT,h3⟩:=x
 unfold setFlight
 refine wpAny_bind (wpAny_field he hd h1 ?_)
 rw[if_pos (show(Value.ref T != Value.none)=true from by simp)]
 have hsz:3 < ts.size:=(Array.getElem?_eq_some_iff.mp h3).1
 refine wpAny_setField hoT hdT hsz (h _ ⟨oe,vs,?_,hc,hdd,hd,h0,h1,hT,_,_,Heap.get?_update_self _ hoT (isFreed_map _ hdT),Obj.data_mapFields hdT _,by simp[hsz]⟩ (upd_moved _ hoT hdT []))
 rw[Heap.get?_update_other _ _ hT];exact he
theorem entry_ok {oe:Obj}{vs:Array Value}{head:Value}{hadNext:Bool}{Q:Unit→Shared→Prop}(hfr:A.frames=some (env::outer)) (hl:s.heap.FunFrames base (env::outer)) (hf:env.frame=some L)
   (he:s.heap.get? e=some oe) (hd:oe.data = .fields vs) (hsz:1 < vs.size) (h0:vs[0]?=some ar)
   (h:∀h' T',ExAt h' e oe.cls oe.dict ar (some T') (rawInt L)→s.heap.get? T'=none→s.heap.objs.size≤T'→Moved ((env::outer).filterMap (·.frame)) [e] s.heap h'→Q () { s with heap:=h' }) :
   wpAny M A (do let a ← frameOf env;let pl ← entryPlaceOf L hadNext;let b ← EntryCells.newEntry head a .none (rawInt L) .none pl;setField (.ref e) 1 b) Q E s:=by
 have hene:e∉(env::outer).filterMap (·.frame):=fun hm=>by
   obtain⟨_,o,ho,hnf⟩:=hl.mem hm
   rw[he] at ho;injection ho with ho;subst ho;exact hnf vs hd
 refine wpAny_bind (wpAny_frameOf_fun hfr hl hf fun h₁ hs₁=>?_)
 refine wpAny_bind (wpAny_entryPlaceOf fun pl hpl=>?_)
 unfold EntryCells.newEntry newFields
 refine wpAny_bind (wpAny_newObj_type ?_ (hpl.sizeOk5 _ _ _ _ _))
 have he₁:h₁.get? e=some oe:=(hs₁.2.1 e hene).trans he
 generalize hob:({ cls:=.type "traceback", dict:=none,data:=.fields ([head,.ref L,.none,rawInt L,.none]++(if pl.isEmpty then List.replicate 6 Value.none else pl)).toArray }:Obj)=ob
 have he₂:=Heap.get?_push_of_some (h:=h₁) ob he₁
 have hTe:h₁.objs.size≠e:=Nat.ne_of_gt (Heap.lt_size he₁)
 refine wpAny_setField he₂ hd hsz (h _ h₁.objs.size ⟨_,_,Heap.get?_update_self _ he₂ (isFreed_map _ hd),?_,?_,Obj.data_mapFields hd _,?_,?_,hTe,ob,([head,.ref L,.none,rawInt L,.none]++(if pl.isEmpty then List.replicate 6 Value.none else pl)).toArray,?_,?_,?_⟩ ?_ ?_ ?_)
 · rw[map_eq _ hd]
 · rw[map_eq _ hd]
 · rw[Array.getElem?_setIfInBounds_ne (by decide)];exact h0
 · simp[hsz]
 · rw[Heap.get?_update_other _ _ (Ne.symm hTe)]
   exact Heap.get?_push_size h₁ (by rw[← hob];rfl)
 · rw[← hob]
 · simp
 · rw[hs₁.1];exact Heap.get?_none_of_le (Nat.le_refl _)
 · rw[hs₁.1];exact Nat.le_refl _
 · have k1:Moved ((env::outer).filterMap (·.frame)) [e] s.heap h₁:=⟨fun b o q n _=>(hs₁.2.1 b n).trans q,fun b o q _=>hs₁.2.2 b o q,fun b o q=>let ⟨sl,z⟩:=hs₁.2.2 b o q;⟨_,z⟩⟩
   have k2:Moved ((env::outer).filterMap (·.frame)) [e] h₁ (h₁.push ob):=⟨fun b o q _ _=>Heap.get?_push_of_some _ q,fun b o q _=>⟨o.slots,Heap.get?_push_of_some _ q⟩,fun b o q=>⟨o,Heap.get?_push_of_some _ q⟩⟩
   exact(k1.trans k2).trans (upd_moved _ he₂ hd _)
theorem note_ok {Q:Unit→Shared→Prop}(hfr:A.frames=some (env::outer)) (hl:s.heap.FunFrames base (env::outer)) (hf:env.frame=some L) (x:ExAt s.heap e cls dd ar T .none)
   (h:∀h' T',ExAt h' e cls dd ar (some T') (rawInt L)→s.heap.get? T'=none→s.heap.objs.size≤T'→Moved ((env::outer).filterMap (·.frame)) (e::T.toList) s.heap h'→Q () { s with heap:=h' }) :
   wpAny M A (noteFrame (.ref e) env) Q E s:=by
 obtain⟨oe,vs,he,hc,hdd,hd,h0,hT⟩:=x
 subst hc hdd
 unfold noteFrame
 simp only[hf]
 cases T with
 | none=>
   refine wpAny_bind (wpAny_field he hd hT ?_)
   rw[if_neg (by decide)]
   exact entry_ok hfr hl hf he hd (Array.getElem?_eq_some_iff.mp hT).1 h0 fun h' T' a b c d=>h h' T' a b c d
 | some T=>
   obtain⟨h1,hTe,oT,ts,hoT,hdT,h3⟩:=hT
   refine wpAny_bind (wpAny_field he hd h1 ?_)
   rw[if_pos (show(Value.ref T != Value.none)=true from by simp)]
   refine wpAny_bind (wpAny_field hoT hdT h3 ?_)
   rw[if_neg (show ¬((Value.none==rawInt L)=true) from by simp[rawInt])]
   refine wpAny_bind (wpAny_setField hoT hdT (Array.getElem?_eq_some_iff.mp h3).1 ?_)
   have mv:=upd_moved (h:=s.heap) (·.setIfInBounds 3 Value.none) hoT hdT ((env::outer).filterMap (·.frame))
   have hnT:T∉(env::outer).filterMap (·.frame):=fun hm=>by
     obtain⟨_,o,ho,hnf⟩:=hl.mem hm
     rw[hoT] at ho;injection ho with ho;subst ho;exact hnf ts hdT
   refine entry_ok hfr (mv.frames hl fun b hb=>by(rw[List.mem_singleton] at hb;subst hb;exact hnT)) hf (by rw[Heap.get?_update_other _ _ hTe];exact he) hd (Array.getElem?_eq_some_iff.mp h1).1 h0 fun h' T' a b c d=>?_
   have hsz:(s.heap.update T (Obj.mapFields (·.setIfInBounds 3 Value.none))).objs.size=s.heap.objs.size:=Heap.size_after_update ..
   rw[hsz] at c
   refine h h' T' a (Heap.get?_none_of_le c) c ((mv.mono (fun _ z=>z) fun b z=>by simp at z;simp[z]).trans (d.mono (fun _ z=>z) fun b z=>by simp at z;simp[z]))
theorem note_any {fl:Value}{Q:Unit→Shared→Prop}(hfr:A.frames=some (env::outer)) (hl:s.heap.FunFrames base (env::outer)) (hf:env.frame=some L) (x:ExAt s.heap e cls dd ar T fl) (hfl:fl = .none∨(T≠none∧fl=rawInt L))
   (h:∀h' T',ExAt h' e cls dd ar (some T') (rawInt L)→(T=some T'∨s.heap.get? T'=none∧s.heap.objs.size≤T')→Moved ((env::outer).filterMap (·.frame)) (e::T.toList) s.heap h'→Q () { s with heap:=h' }) :
   wpAny M A (noteFrame (.ref e) env) Q E s:=by
 rcases hfl with rfl | ⟨hT,rfl⟩
 · exact note_ok hfr hl hf x fun h' T' a b c d=>h h' T' a (.inr ⟨b,c⟩) d
 · cases T with
   | none=>exact absurd rfl hT
   | some T=>
     obtain⟨oe,vs,he,hc,hdd,hd,h0,h1,hTe,oT,ts,hoT,hdT,h3⟩:=id x
     unfold noteFrame
     simp only[hf]
     refine wpAny_bind (wpAny_field he hd h1 ?_)
     rw[if_pos (show(Value.ref T != Value.none)=true from by simp)]
     refine wpAny_bind (wpAny_field hoT hdT h3 ?_)
     rw[if_pos (show(rawInt L==rawInt L)=true from by simp)]
     exact wpAny_pure (h s.heap T x (.inl rfl) (Moved.refl ..))
theorem leave_any {fl:Value}{Q:Unit→Shared→Prop}(hfr:A.frames=some (env::outer)) (hl:s.heap.FunFrames base (env::outer)) (hf:env.frame=some L) (x:ExAt s.heap e cls dd ar T fl) (hfl:fl = .none∨(T≠none∧fl=rawInt L))
   (h:∀h' T',ExAt h' e cls dd ar (some T') .none→(T=some T'∨s.heap.objs.size≤T')→Moved ((env::outer).filterMap (·.frame)) (e::T.toList) s.heap h'→Q () { s with heap:=h' }) :
   wpAny M A (leaving env (.ref e)) Q E s:=by
 unfold leaving
 refine wpAny_bind (note_any hfr hl hf x hfl fun h1 T' x1 n1 m1=>?_)
 refine flight_ok (s:={ s with heap:=h1 }) x1 fun h2 x2 m2=>h h2 T' x2 (n1.imp id fun z=>z.2) ?_
 have m1':Moved ((env::outer).filterMap (·.frame)) (T'::e::T.toList) s.heap h1:=m1.mono (fun _ z=>z) fun b z=>.tail _ z
 have m2':Moved ((env::outer).filterMap (·.frame)) (T'::e::T.toList) h1 h2:=m2.mono (fun _ z=>absurd z (by simp)) fun b z=>by simp at z;simp[z]
 refine(m1'.trans m2').drop fun b z=>(List.mem_cons.mp z).elim (fun q=>?_) fun q=>.inl q
 rcases n1 with n1 | n1
 · left;rw[q,n1];simp
 · right;rw[q];exact n1.1
end
end XC
namespace XC
open PySem PySem.Spec
abbrev exNew (C t:Addr):Obj:={ cls:=.ref C,data:=.fields #[.ref t,.none,.none,.none,.bool false,.none] }
abbrev hNew (h:Heap) (C:Addr) (rest:List Value):Heap:=(h.push { cls:=.type "tuple", data:=.seq rest.toArray }).push (exNew C h.objs.size)
theorem hNew_keeps {h:Heap}{C:Addr}{rest:List Value}:∀b o,h.get? b=some o→(hNew h C rest).get? b=some o:=fun b o e=>Heap.get?_push_of_some _ (Heap.get?_push_of_some _ e)
theorem hNew_at {h:Heap}{C:Addr}{rest:List Value}:(hNew h C rest).get? (h.objs.size+1)=some (exNew C h.objs.size):=by heap_get
section
variable {prog:Program}{w:World}{A:Around}{E:Value→Shared→Prop}{h:Heap}{g:Array GenState}{d:Drawn}{t:Nat}{os:OsState}
variable {nm q:Str}{C N:Addr}{bs bm bmN:List Value}{hdct:Bool}{sn:List Str}{sub:List Value}{ab:Bool}{col:Option Bool}{dd:Option Addr}{k0 k1 k2 k3 k5:Option Value}{B newId initId:String}{init:Value}
theorem check_new_c {M:Model}(F:ExcBaseFacts B newId initId bmN) (hB:bm.contains (.type B)=true) {rest:List Value}{Q:Unit→Shared→Prop}(hC:h.get? C=some (excClassObj nm q C N bs bm hdct sn sub ab col dd k0 k1 k2 k3 k5 newId))
   (hq:Q () ⟨h,g,d,t,os⟩):wpAny M A (checkBuiltinCall newId ⟨.ref C::rest,[]⟩) Q E ⟨h,g,d,t,os⟩:=by
 have hcont:(Value.ref C::bm).contains (.type B)=true:=by rw[List.contains_cons,hB,Bool.or_true]
 have hstar:=F.noStar
 simp only[checkBuiltinCall,F.newKind,F.newSplit,F.newRow]
 repeat (first | refine wpAny_loadPart_at hC ?_ | (refine wpAny_isSubtype_exc hC ?_;rw[hcont]) | refine wpAny_staticBase_exc hC ?_ | refine wpAny_madeBy_exc hC ?_ | simp only[bne_self_eq_false,Bool.false_eq_true,if_false] | wp_step)
 exact hq
theorem new_c {R:Result→Shared→Prop}(F:ExcBaseFacts B newId initId bmN) (hB:bm.contains (.type B)=true) (hA:bm.contains (.type "AttributeError")=false) (hN:bm.contains (.type "NameError")=false) {rest:List Value}
   (hC:h.get? C=some (excClassObj nm q C N bs bm hdct sn sub ab col dd k0 k1 k2 k3 k5 newId))
   (hq:R (.ok (.ret (.ref (h.objs.size+1)))) ⟨hNew h C rest,g,d,t,os⟩) (hrest:rest.length≤sizeLine) :
   codeAny (model prog w) A (.builtin newId ⟨.ref C::rest,[]⟩) R ⟨h,g,d,t,os⟩:=by
 have hends:=F.ends
 have hcB:(Value.ref C::bm).contains (.type B)=true:=by rw[List.contains_cons,hB,Bool.or_true]
 have hcA:(Value.ref C::bm).contains (.type "AttributeError")=false:=by rw[List.contains_cons,hA];rfl
 have hcN:(Value.ref C::bm).contains (.type "NameError")=false:=by rw[List.contains_cons,hN];rfl
 refine codeAny_builtinAt F.entry ?_
 unfold Builtin.«BaseException.__new__»
 refine wpAt_bind ?_
 show wpAt _ _ _ (stack >>= _) _ _ _
 refine wpAt_bind (wpAt_stack fun p below=>wpAt_of_wpAny ?_)
 wp_walk
 refine wpAt_of_wpAny ?_
 rw[F.owner]
 repeat (first | with_reducible refine wpAny_madeHere_exc F.canon hC ?_ | with_reducible refine wpAny_loadPart_at hC ?_ | (with_reducible refine wpAny_isSubtype_exc hC ?_;first | rw[hcB] | rw[hcA] | rw[hcN]) | wp_step)
 show R _ _
 rw[Heap.size_push]
 exact hq
theorem type_call_c (F:ExcBaseFacts B newId initId bmN) (hB:bm.contains (.type B)=true) (hA:bm.contains (.type "AttributeError")=false) (hN:bm.contains (.type "NameError")=false) {rest:List Value}{Q:Fin→Shared→Prop}
   (hC:h.get? C=some (excClassObj nm q C N bs bm hdct sn sub ab col dd k0 k1 k2 k3 k5 newId)) (hi:PySem.W.Looks (model prog w) h (typeLookup (.ref C) "__init__") (some init))
   (hb:∀self:Value,PySem.W.Looks (model prog w) h (bindSpecial init self) (init,[self]))
   (hq:codeAny (model prog w) A (.call init ⟨.ref (h.objs.size+1)::rest,[]⟩)
     (fun r s'=>match r with | .ok (.ret v)=>v = .none∧Q (.done (.ret (.ref (h.objs.size+1)))) s' | .ok _=>False | .error e=>E e s') ⟨hNew h C rest,g,d,t,os⟩) (hrest:rest.length≤sizeLine) :
   wpAny (model prog w) A (Builtin.«type.__call__» ⟨.ref C::rest,[]⟩) Q E ⟨h,g,d,t,os⟩:=by
 repeat (first | with_reducible refine wpAny_loadPart_at hC ?_ | with_reducible refine wpAny_madeBy_exc hC ?_ | wp_step)
 refine codeAny_call_builtin_code (Code.quiet_builtin _ F.quiet) (check_new_c F hB hC ?_)
 refine new_c F hB hA hN hC ?_ hrest
 show wpAny _ _ _ _ _ _
 have hC₁:(hNew h C rest).get? C=_:=hNew_keeps _ _ hC
 have hget:(hNew h C rest).get? (h.objs.size+1)=some (exNew C h.objs.size):=hNew_at
 have hcC:(Value.ref C::bm).contains (.ref C)=true:=by simp
 unfold isInstance
 repeat (first | with_reducible refine wpAny_loadPart_at hget ?_ | (with_reducible refine wpAny_isSubtype_exc hC₁ ?_;rw[hcC]) | wp_step)
 show wpAny _ _ (typeLookup (.ref C) _) _ _ _
 refine(hi.keeps hNew_keeps).here (s:=⟨hNew h C rest,g,d,t,os⟩) ?_
 refine wpAny_holding (wpAny_bind (((hb _).keeps hNew_keeps).here (s:=⟨hNew h C rest,g,d,t,os⟩) ?_))
 refine wpAny_bind (wpAny_call (codeAny_mono hq fun r s' z=>?_))
 rcases r with e | (v | _ | _ | _) <;> first | exact z | exact z.elim | skip
 obtain⟨rfl,z⟩:=z
 wp_walk
 exact z
theorem call_c (F:ExcBaseFacts B newId initId bmN) (hB:bm.contains (.type B)=true) (hA:bm.contains (.type "AttributeError")=false) (hN:bm.contains (.type "NameError")=false) {rest:List Value}{Q:Value→Shared→Prop}
   (hC:h.get? C=some (excClassObj nm q C N bs bm hdct sn sub ab col dd k0 k1 k2 k3 k5 newId)) (hi:PySem.W.Looks (model prog w) h (typeLookup (.ref C) "__init__") (some init))
   (hb:∀self:Value,PySem.W.Looks (model prog w) h (bindSpecial init self) (init,[self]))
   (hq:codeAny (model prog w) (A.under (.builtin "type.__call__" ⟨.ref C::rest,[]⟩)) (.call init ⟨.ref (h.objs.size+1)::rest,[]⟩)
     (fun r s'=>match r with | .ok (.ret v)=>v = .none∧Q (.ref (h.objs.size+1)) s' | .ok _=>False | .error e=>E e s') ⟨hNew h C rest,g,d,t,os⟩) (hrest:rest.length≤sizeLine) :
   wpAny (model prog w) A (call (.ref C) rest) Q E ⟨h,g,d,t,os⟩:=by
 have f1:=tc_lookup
 have f2:=tc_bind (.ref C)
 have hT:(⟨h,g,d,t,os⟩:Shared).TypeIs (.ref C) "type" := ⟨_,hC,rfl⟩
 refine wpAny_call (codeAny_of_tree ?_)
 show wpAny _ _ (callAny (.ref C) _) _ _ _
 repeat (any_goals (first | assumption | with_reducible refine wpAny_loadPart_at hC ?_ | wp_step))
 refine⟨rfl,?_⟩
 refine codeAny_call_builtin_at (Code.quiet_builtin _ (by decide +kernel)) entry_typeCall (wpAny_check_type_call_sub hC (type_call_c F hB hA hN hC hi hb (codeAny_mono hq fun r s' z=>?_) hrest))
 rcases r with e | (v | _ | _ | _) <;> first | exact z | exact z.elim
theorem raise_any {s:Shared}{env:Env}{x:Sem Value}{Q:Flow→Shared→Prop}(hbase:bm.contains (.type "BaseException")=true) (hh:A.handled=none)
   (hx:wpAny (model prog w) A x (fun v s₁=>∃e t dx,v = .ref e∧s₁.heap.get? C=some (excClassObj nm q C N bs bm hdct sn sub ab col dd k0 k1 k2 k3 k5 newId) ∧
     s₁.heap.get? e=some { cls:=.ref C,dict:=dx,data:=.fields #[.ref t,.none,.none,.none,.bool false,.none] }∧E (.ref e) s₁) E s) :
   wpAny (model prog w) A (raiseStmt env (some x) none) Q E s:=by
 have hcB:(Value.ref C::bm).contains (.type "BaseException")=true:=by rw[List.contains_cons,hbase,Bool.or_true]
 unfold raiseStmt
 refine wpAny_bind (wpAny_mono hx (fun v s₁ h₁=>?_) fun _ _ x=>x)
 obtain⟨e,t,dx,rfl,hC,he,hE⟩:=h₁
 obtain⟨hp,g,d,tk,os⟩:=s₁
 repeat (first | with_reducible refine wpAny_loadPart_at he ?_ | with_reducible refine wpAny_loadPart_at hC ?_ | (with_reducible refine wpAny_isSubtype_exc hC ?_;rw[hcB]) | wp_step)
 exact wpAny_raiseNew_none hh hE
end
end XC
namespace XC
open PySem PySem.Spec PySem.W Builtin Builtin.ObjectAttr
section
variable {prog:Program}{w:World}{A:Around}{E:Value→Shared→Prop}{K:Frag}{C x:Addr}{s:Shared}{o:Obj}{vs:Array Value}{name:Str}{v:Value}{cd:ClassData}
theorem osa_exc {R:Result→Shared→Prop}{tk:Tok}(X:K.In s.heap) (hx:s.heap.get? x=some o) (hc:o.cls = .ref C) (hdn:o.dict=none) (hdt:o.data = .fields vs)
   (hcd:clsIn K C=some cd) (hm:cd.mro.contains (.type "object")=true) (hp:∀self,refuseLoop self "__setattr__" cd.mro=pure ()) (ht:takerIn K C name=some none) (hh:cd.hasDict=true)
   (hq:∀h' tk' dx,s.heap.objs.size≤dx→h'.get? x=some { o with dict:=some dx }→h'.Ns1 dx (fun y=>if y=name then some v else none)→(∀b u,b≠x→s.heap.get? b=some u→h'.get? b=some u) →
     R (.ok (.ret .none)) { s with heap:=h',toks:=tk' }) :
   codeAny (model prog w) A (.call (.builtin "object.__setattr__") ⟨[.ref x,.str name tk,v],[]⟩) R s:=by
 have SF:=PySem.F.store_object
 have ne:cd.mro.isEmpty=false:=by cases q:cd.mro with | nil=>rw[q] at hm;cases hm | cons _ _=>rfl
 have ty:Looks (model prog w) s.heap (typeOf (.ref x)) (.ref C):=(Looks.ld hx).andThen (by rw[hc];exact .now)
 have sub:Looks (model prog w) s.heap (isInstance (.ref x) (.type "object")) true:=ty.andThen (looks_mroIn X (by unfold mroIn;rw[hcd,Option.bind_some,if_neg (by rw[ne];decide),hm]))
 refine codeAny_call_builtin SF.slot.plain SF.entry (@check_slot (model prog w) _ _ s "object.__setattr__" "object" "__setattr__" (.ref x) [.str name tk,v] [] _ SF.kind SF.split sub (SF.args (.ref x) (.str name tk) v) ?_)
 obtain⟨attr,ha,hr⟩:=Option.bind_eq_some_iff.mp ht
 have hmr:Looks (model prog w) s.heap (mroOf (.ref C)) cd.mro:=(looks_clsIn X hcd).andThen .now
 have L3:Looks (model prog w) s.heap (storeTaker? attr) none:=by
   cases attr with
   | none=>cases hr;exact .now
   | some a=>
     obtain⟨b,hb,e⟩:=Option.map_eq_some_iff.mp hr
     refine(looks_takesIn X hb).andThen ?_
     cases b <;> first | exact .now | cases e
 rw[osa_eq,refuse_eq]
 refine wpAny_bind (wpAny_bind (ty.here (wpAny_bind (hmr.here ?_))))
 rw[hp]
 refine wpAny_pure (wpAny_bind (ty.here (wpAny_bind ((looks_findIn X ha).here (wpAny_bind (L3.here ?_))))))
 obtain⟨hp0,g,d,t,os⟩:=s
 obtain⟨oc,od,oda,osl⟩:=o
 dsimp only at hc hdn hdt hq
 subst hc hdn hdt
 have hx':hp0.get? x=some ⟨.ref C,none,.fields vs,osl⟩:=hx
 refine wpAny_bind (wpAny_pure (wpAny_bind (wpAny_bind (wpAny_loadPart hx' (wpAny_bind ((looks_clsIn X hcd).here ?_))))))
 rw[hh]
 have hx₁:(hp0.push { cls:=.type "dict", data:=.dict #[] }).get? x=some ⟨.ref C,none,.fields vs,osl⟩:=Heap.get?_push_of_some _ hx'
 have hxs:x≠hp0.objs.size:=Nat.ne_of_lt (Heap.lt_size hx')
 refine wpAny_bind (wpAny_alloc' ?_)
 refine wpAny_bind (wpAny_update' hx₁ ?_)
 refine wpAny_pure (a:=some hp0.objs.size) ?_
 have hgd:((hp0.push { cls:=.type "dict", data:=.dict #[] }).update x fun o=>{ cls:=o.cls,dict:=some hp0.objs.size,data:=o.data,slots:=o.slots }).get? hp0.objs.size
     = some { cls:=.type "dict", data:=.dict #[] }:=
   (Heap.get?_update_ne _ _ _ _ hxs.symm).trans (Heap.get?_push_at rfl rfl)
 have hnd:((hp0.push { cls:=.type "dict", data:=.dict #[] }).update x fun o=>{ cls:=o.cls,dict:=some hp0.objs.size,data:=o.data,slots:=o.slots }).Ns hp0.objs.size (fun _=>none):=
   ⟨_,#[],_,hgd,rfl,fun e he=>absurd he (by simp),fun _=>rfl⟩
 show wpAny _ _ (storeInDict hp0.objs.size (.str name tk) name v) _ _ _
 unfold storeInDict newKeyGuard
 refine wpAny_bind (wpAny_pure (wpAny_bind (wpAny_nsSet1 (Heap.Ns1.of_empty hnd) fun h' hn' hs=>?_)))
 obtain⟨oD,esD,epD,hoD,hdD,hcD⟩:=hn'.count (Within.cons name v Within.nil)
 refine wpAny_bind (wpAny_lookBehind hoD (by rw[hdD];exact pastItsLine_dict (Nat.le_trans hcD (by rw[List.length_cons,List.length_nil,sizeLine_eq];omega))) ?_)
 refine wpAny_pure (hq h' _ hp0.objs.size (Nat.le_refl _) ?_ hn' fun b u hbx hb=>?_)
 · exact(hs.2 x hxs).trans (Heap.get?_update_self _ hx₁ rfl)
 · exact(hs.2 b (Nat.ne_of_lt (Heap.lt_size hb))).trans ((Heap.get?_update_ne _ _ _ _ hbx).trans (Heap.get?_push_of_some _ hb))
theorem set_exc {Q:Unit→Shared→Prop}(X:K.In s.heap) (hx:s.heap.get? x=some o) (hc:o.cls = .ref C) (hdn:o.dict=none) (hdt:o.data = .fields vs)
   (hs:findIn K (.ref C) "__setattr__"=some (some (.builtin "object.__setattr__"))) (hcd:clsIn K C=some cd) (hm:cd.mro.contains (.type "object")=true) (hp:∀self,refuseLoop self "__setattr__" cd.mro=pure ())
   (ht:takerIn K C name=some none) (hh:cd.hasDict=true)
   (hq:∀h' tk' dx,s.heap.objs.size≤dx→h'.get? x=some { o with dict:=some dx }→h'.Ns1 dx (fun y=>if y=name then some v else none)→(∀b u,b≠x→s.heap.get? b=some u→h'.get? b=some u) →
     Q () { s with heap:=h',toks:=tk' }) :
   wpAny (model prog w) A (setAttr (.ref x) name v) Q E s:=by
 have J:InstAt s.heap x o C none:=⟨hx,hc,by obtain⟨_,_,_,_⟩:=o;cases hdt;rfl,by rw[hdn];trivial⟩
 exact set_plain X J hs (osa_exc (s:={ s with toks:=s.toks+1 }) X hx hc hdn hdt hcd hm hp ht hh fun h' tk' dx a b c d=>hq h' tk' dx a b c d)
end
end XC
namespace XC
open PySem PySem.Spec L2
open PyProof.Rows (envOfC AllBare)
abbrev St:=L2.St
theorem hok_moved {P:Program}{w:World}{H:Hp}{h h':Heap}{fs ch:List Addr}(ok:HOk P w H h) (m:Moved fs ch h h') (f1:∀b∈fs,H b=none) (f2:∀b∈ch,H b=none):HOk P w H h':=fun a o e=>by
 have ne:∀b u,H b=some u→b∉fs∧b∉ch:=fun b u q=>⟨fun z=>(by rw[f1 b z] at q;cases q),fun z=>(by rw[f2 b z] at q;cases q)⟩
 refine(ok a o e).stay (fun b u hb q=>?_) (fun _ q=>q) fun _ _ q=>q
 rcases hb with rfl | hb
 · exact m.keep b u q (ne b o e).1 (ne b o e).2
 · exact m.keep b u q (ne b _ hb).1 (ne b _ hb).2
def CXE (P:Program) (w:World):CXT:=fun outer H s E e s'=>∃(a T:Addr) (cls:Value) (dd:Option Addr) (ar:Value) (H':Hp),e = .ref a∧s'.os=s.os∧AllBare s'.gens∧Un (frs outer) [] H H' s.heap s'.heap∧HOk P w H' s'.heap ∧
 ExAt s'.heap a cls dd ar (some T) .none∧s.heap.objs.size≤a∧s.heap.objs.size≤T∧H' a=none∧H' T=none∧E cls dd H'
structure Loose (X:Cx) (H:Hp) (b:Addr):Prop where
 above:X.s₀.heap.objs.size≤b
 loc:b≠X.env.locals
 cel:∀x c,X.env.cells.lookup x=some c→c≠b
 fre:H b=none
 pn:∀p∈X.pn,p.1≠b
theorem Loose.of {X:Cx}{pins:List (Addr×Obj)}{σ:St}{H H':Hp}{s:Shared}{b:Addr}(I:Inv X pins σ H s) (h:s.heap.objs.size≤b) (f:H' b=none):Loose X H' b:=by
 refine⟨Nat.le_trans I.sz h,fun z=>?_,fun x c e z=>?_,f,fun p hp z=>?_⟩
 · have:=I.lt;rw[← z] at this;exact absurd (Nat.lt_of_lt_of_le this h) (Nat.lt_irrefl _)
 · obtain⟨v,o,ho,_⟩:=I.cell x c e
   have:=Heap.lt_size ho
   rw[z] at this
   exact absurd (Nat.lt_of_lt_of_le this h) (Nat.lt_irrefl _)
 · have:=Heap.lt_size (I.pin p (List.mem_append_left _ hp)).1
   rw[z] at this
   exact absurd (Nat.lt_of_lt_of_le this h) (Nat.lt_irrefl _)
def Fly (X:Cx) (R:St→XK) (e:Value) (s':Shared):Prop:=
 ∃(a:Addr) (T:Option Addr) (cls:Value) (dd:Option Addr) (ar:Value) (σ:St) (H:Hp) (fl:Value),e = .ref a∧Inv X [] σ H s'∧(ExAt s'.heap a cls dd ar T fl∧(fl = .none∨(T≠none∧fl=rawInt X.env.locals)))∧Loose X H a∧(∀t,T=some t→Loose X H t)∧R σ cls dd H
theorem nopins {X:Cx}{pins:List (Addr×Obj)}{σ:St}{H:Hp}{s:Shared}(I:Inv X pins σ H s):Inv X [] σ H s:=I.pins_of fun p hp=>nomatch hp
theorem pass_fly {X:Cx}{R:St→XK}{pins:List (Addr×Obj)}{σ:St}{H:Hp}{s:Shared}{e:Value}{s':Shared}(I:Inv (X.wish (Fly X R)) pins σ H s) (h:CXE X.prog X.w X.stack H s (R σ) e s'):Fly X R e s':=by
 obtain⟨a,T,cls,dd,ar,H',rfl,os,bare,un,hok,x,h1,h2,f1,f2,r⟩:=h
 have I':=I.unwish
 have J:Inv X pins σ H' s':=I'.call' (ch:=[]) os un hok bare fun b z=>absurd z (by simp)
 exact⟨a,some T,cls,dd,ar,σ,H',.none,rfl,nopins J,⟨x,.inl rfl⟩,Loose.of I' h1 f1,fun t e=>(by cases e;exact Loose.of I' h2 f2),r⟩
def tCallX (sp:Sp) (R:St→XK) (t:TA):TE:=fun σ H Q=>t σ H fun vs H1=>sp vs H1 Q (R σ)
theorem pe_callX {X:Cx}{R:St→XK}{k:Nat}{f:Addr}{fd:FuncData}{ps:List Str}{sp:Sp}{x:Str}{p pos:Pos}{e:Expr}{es:List Expr}{t:TA}(F:FnOk X.prog X.w X.K X.mg X.base (CXE X.prog X.w) k f fd ps sp) (hr:Room k X.A) (hg:Gl X x) (hm:X.mg x=some (.ref f)) (hk:PySem.W.keepIn X.K (.ref f)=true) (hb:Binds X.K fd ps [])
   (ha:PA (X.wish (Fly X R)) (e::es) t) (hdb:(x==("__debug__":Str))=false:=by decide) (he:starEach (e::es) X.env=(false,eval e X.env)::starEach es X.env:=by rfl) (hpl:(backTo pos (starEach es X.env)).any (·.1)=false:=by rfl) :
   PE (X.wish (Fly X R)) (.Call (.Name x p) (e::es) [] pos) (tCallX sp R t):=by
 intro pins s σ H Q I h
 refine wpAny_Call_Name_kw (ld_glob (X:=X.wish (Fly X R)) I hg hm ?_ hdb)
 refine PySem.W.callWith_K (h₀:=X.base) I.ok.mod.kin hk (thn (ha pos pins s σ H _ I h) fun us s1 ⟨vs,H1,I1,r,q⟩=>⟨I1.kIn,?_⟩) he hpl
 have hl:(us++[]).length=ps.length:=by rw[List.append_nil,← r.length];exact F.len _ _ _ _ q
 have r2:Vals vs (us++[]):=by rw[List.append_nil];exact r
 refine wpAny_call (codeAny_mono (F.run X.A X.stack s1 H1 ⟨us,[]⟩ (us++[]) vs Q (R σ) hr I1.env0 (hb s1 us I1.kIn hl) r2 q) fun r' s' hq=>?_)
 cases r' with
 | error e=>exact pass_fly I1 hq
 | ok fl=>
   cases fl with
   | ret u=>exact I1.after hq
   | next=>exact False.elim hq
   | brk=>exact False.elim hq
   | cont=>exact False.elim hq
theorem inv_moved {X:Cx}{pins:List (Addr×Obj)}{σ:St}{H:Hp}{s:Shared}{ch:List Addr}{h':Heap}(I:Inv X pins σ H s) (m:Moved (frs X.stack) ch s.heap h') (hch:∀b∈ch,H b=none∧X.s₀.heap.objs.size≤b∧b≠X.env.locals∧(∀x c,X.env.cells.lookup x=some c→c≠b)∧∀p∈X.pn++pins,p.1≠b) :
   Inv X pins σ H { s with heap:=h' }:=by
 refine I.call' (s':={ s with heap:=h' }) (ch:=ch) rfl ⟨fun b o q n f c=>m.keep b o q f c,fun b o q n f c=>m.slot b o q c,fun _ _ _ n _=>n,fun b o q _=>m.there b o q,fun _ _ q=>q,fun _ _ _ q=>q,fun b ps q=>⟨#[],by rw[q];simp⟩⟩
   (hok_moved I.hok m I.stkFree fun b hb=>(hch b hb).1) I.bare fun b hb=>⟨.inr (hch b hb).2.1,(hch b hb).2.2⟩
section
variable {P:Program}{w:World}{K:Frg}{mg:Str→Option Value}{base:Heap}
theorem leaves {N:List Str}{qual:Str}{scope:Scope}{f:Addr}{cd:Value}{A:Around}{outer:List Env}{s:Shared}{H:Hp}{E:XK}{e:Value}{s':Shared}
   (h:Fly (cxOf (CXE P w) P w K mg base N qual scope f cd A outer s H E) (fun _=>E) e s'):(cxOf (CXE P w) P w K mg base N qual scope f cd A outer s H E).xe e s':=by
 obtain⟨a,T,cls,dd,ar,σ,H',fl,rfl,I,⟨x,hfl⟩,la,lT,r⟩:=h
 have hst:=I.stack
 have hfre:=I.stkFree
 refine leave_any (base:=base) (env:=envOfC qual scope s.heap.objs.size f cd) (outer:=outer) (L:=s.heap.objs.size) I.ok.frames hst rfl x hfl fun h' T' x' z m=>?_
 have hfr:∀b∈(envOfC qual scope s.heap.objs.size f cd::outer).filterMap (·.frame),H' b=none:=hfre
 have hch:∀b∈a::T.toList,Loose (cxOf (CXE P w) P w K mg base N qual scope f cd A outer s H E) H' b:=fun b hb=>by
   rcases List.mem_cons.mp hb with q | q
   · rw[q];exact la
   · exact lT b (by cases T with | none=>simp at q | some t=>simp at q;rw[q])
 have nch:∀b o,s.heap.get? b=some o→b∉a::T.toList:=fun b o q hb=>absurd (Nat.lt_of_lt_of_le (Heap.lt_size q) (hch b hb).above) (Nat.lt_irrefl _)
 have nfr:∀b o,s.heap.get? b=some o→b∉frs outer→b∉(envOfC qual scope s.heap.objs.size f cd::outer).filterMap (·.frame):=fun b o q n hb=>by
   rcases List.mem_cons.mp (show b∈s.heap.objs.size::frs outer from hb) with z | z
   · rw[z] at q;exact absurd (Heap.lt_size q) (Nat.lt_irrefl _)
   · exact n z
 have B:=I.base
 have hok:=hok_moved I.hok m hfr fun b hb=>(hch b hb).fre
 have sz:=I.sz
 have hT2:s.heap.objs.size≤T'∧H' T'=none:=by
   rcases z with z | z
   · exact⟨(lT T' z).above,(lT T' z).fre⟩
   · exact⟨Nat.le_trans sz z,I.hok.fresh z⟩
 refine⟨a,T',cls,dd,ar,H',rfl,I.os,I.bare,⟨fun b o q n hb hx=>?_,fun b o q n hb hx=>?_,B.free,fun b o q hx=>?_,B.tups,B.frzs,B.tbls⟩,hok,x',la.above,hT2.1,la.fre,hT2.2,r⟩
 · exact m.keep b o (B.keep b o q n hb hx) (nfr b o q hb) (nch b o q)
 · obtain⟨sl,q1⟩:=B.slot b o q n hb hx
   obtain⟨sl',q2⟩:=m.slot b _ q1 (nch b o q)
   exact⟨sl',q2⟩
 · obtain⟨o',q1⟩:=B.there b o q hx
   exact m.there b o' q1
theorem pss_wish {X:Cx}{E:Value→Shared→Prop}{st:List Stmt}{t:TS}(h:PSs (X.wish E) st t) (hE:∀e s,E e s→X.xe e s):PSs X st t:=fun pins s σ H D I hw=>
 wpAny_mono (h pins s σ H D (I.wish _) hw) (fun _ _ q=>q.unwish) hE
theorem funX {x qual:Str}{st:Stmt}{f:Addr}{fd:FuncData}{N ps:List Str}{k:Nat}{sp:Sp}(F:Fun K x qual st f fd) (S:FnScope N ps (defScope st)) (len:∀vs H Q E,sp vs H Q E→vs.length=ps.length)
   (hbody:∀(cdv:Value) (A:Around) (outer:List Env) (s:Shared) (H:Hp) (vs:List V) (Q:VK) (E:XK),Room k (A.deeper (envOfC qual (defScope st) s.heap.objs.size f cdv))→sp vs H Q E →
     ∃t,PSs ((cxOf (CXE P w) P w K mg base N qual (defScope st) f cdv A outer s H E).wish (Fly (cxOf (CXE P w) P w K mg base N qual (defScope st) f cdv A outer s H E) fun _=>E)) (defBody st) t∧t { nx:=fun _ H'=>Q .non H',rt:=Q } (start N vs) H):FnOk P w K mg base (CXE P w) (k+1) f fd ps sp:=by
 obtain⟨oc,od,kV,doc,pm,an,cdv,ct,osl,rfl,lk,hcd⟩:=F.ex
 refine fn_of lk hcd S len fun A outer s H vs Q E hr hsp=>?_
 obtain⟨t,h,q⟩:=hbody cdv A outer s H vs Q E hr hsp
 exact⟨t,pss_wish h fun e s' z=>leaves z,q⟩
end
end XC
namespace XC
open PySem PySem.Spec L2
open PyProof.Rows (envOfC AllBare)
abbrev bmV:List Value:=[.type "ValueError", .type "Exception", .type "BaseException", .type "object"]
structure XCls (K:Frg) (C S:Addr) (init:Value):Prop where
 lk:∃(nm q:Str) (N:Addr) (bs:List Value) (sn:List Str) (sub:List Value) (ab:Bool) (col:Option Bool) (dd:Option Addr) (k0 k1 k2 k3 k5:Option Value),K.lookup C=some (excClassObj nm q C N bs (.ref S::bmV) true sn sub ab col dd k0 k1 k2 k3 k5 "ValueError.__new__")
 init:PySem.W.findIn K (.ref C) "__init__"=some (some init)
 kp:PySem.W.keepIn K (.ref C)=true
theorem bmV_has {S:Addr}:(Value.ref S::bmV).contains (.type "ValueError")=true:=by rw[List.contains_cons];rfl
theorem bmV_noA {S:Addr}:(Value.ref S::bmV).contains (.type "AttributeError")=false:=by rw[List.contains_cons];rfl
theorem bmV_noN {S:Addr}:(Value.ref S::bmV).contains (.type "NameError")=false:=by rw[List.contains_cons];rfl
theorem bmV_base {S:Addr}:(Value.ref S::bmV).contains (.type "BaseException")=true:=by rw[List.contains_cons];rfl
end XC
namespace XC
open PySem PySem.Spec L2
open PyProof.Rows (envOfC AllBare)
def xo (e C t:Addr) (dx:Option Addr):HO:=.ext fun h=>h.get? e=some { cls:=.ref C,dict:=dx,data:=.fields #[.ref t,.none,.none,.none,.bool false,.none] }
theorem xo_ok {P:Program}{w:World}{H:Hp}{h:Heap}{e C t:Addr}{dx:Option Addr}(q:h.get? e=some { cls:=.ref C,dict:=dx,data:=.fields #[.ref t,.none,.none,.none,.bool false,.none] }):ObjOk P w H h e (xo e C t dx):=
 ⟨q,⟨_,q⟩,fun _ _ a b=>b _ a⟩
structure XSet (K:Frg) (C:Addr) (fn:Str):Prop where
 sa:PySem.W.findIn K (.ref C) "__setattr__"=some (some (.builtin "object.__setattr__"))
 ta:PySem.W.takerIn K C fn=some none
def sX (C:Addr) (fn:Str) (ta tv:TE):TS:=fun D σ H=>tv σ H fun y H1=>ta σ H1 fun x H2=>∃e t,x = .ref e∧H2 e=some (xo e C t none) ∧
 ∀d,H2 d=none→d≠e→D.nx σ (upd (upd H2 d (.xd [(fn,y)])) e (xo e C t (some d)))
section
variable {X:Cx}{pins:List (Addr×Obj)}{σ:St}{H:Hp}{s:Shared}
theorem inv_xset {e C t dx:Addr}{fn:Str}{y:V}{u:Value}{h':Heap}{t':Nat}(I:Inv X pins σ H s) (he:H e=some (xo e C t none)) (ry:RelV y u) (hd:s.heap.objs.size≤dx)
   (q1:h'.get? e=some { cls:=.ref C,dict:=some dx,data:=.fields #[.ref t,.none,.none,.none,.bool false,.none] }) (q2:h'.Ns1 dx (fun z=>if z=fn then some u else none))
   (k:∀b o,b≠e→s.heap.get? b=some o→h'.get? b=some o):Inv X pins σ (upd (upd H dx (.xd [(fn,y)])) e (xo e C t (some dx))) { s with heap:=h',toks:=t' }:=by
 have hdn:H dx=none:=I.hok.fresh hd
 have hne:dx≠e:=fun z=>by rw[z,he] at hdn;cases hdn
 have lo:∀b o,s.heap.get? b=some o→b≠dx:=fun b o q z=>by rw[z] at q;exact absurd (Nat.lt_of_lt_of_le (Heap.lt_size q) hd) (Nat.lt_irrefl _)
 have same:∀b,b≠e→b≠dx→upd (upd H dx (.xd [(fn,y)])) e (xo e C t (some dx)) b=H b:=fun b h1 h2=>by rw[upd_ne h1,upd_ne h2]
 have tr:∀b o,H b=some o→b≠dx:=fun b o q z=>by rw[z,hdn] at q;cases q
 refine I.un ⟨fun b o q n _ _=>k b o (fun z=>by rw[z,he] at n;cases n) q,fun b o q n _ _=>⟨o.slots,k b o (fun z=>by rw[z,he] at n;cases n) q⟩,fun b o q n _=>?_,fun b o q _=>?_,fun b xs q=>?_,fun b o xs q=>?_,fun b ps q=>⟨#[],?_⟩⟩ fun b o q=>?_
 · rw[same b (fun z=>by rw[z,he] at n;cases n) (lo b o q)];exact n
 · by_cases z:b=e
   · rw[z];exact⟨_,q1⟩
   · exact⟨o,k b o z q⟩
 · rw[same b (fun z=>by rw[z,he] at q;cases q) (tr b _ q)];exact q
 · rw[same b (fun z=>by rw[z,he] at q;cases q) (tr b _ q)];exact q
 · rw[same b (fun z=>by rw[z,he] at q;cases q) (tr b _ q)];rw[q];simp
 · by_cases z:b=e
   · subst z;rw[upd_same] at q;cases q;exact xo_ok q1
   · by_cases z2:b=dx
     · subst z2
       rw[upd_ne z,upd_same] at q
       cases q
       refine⟨_,q2,fun f=>?_⟩
       by_cases hf:f=fn
       · subst hf;simp[List.lookup];exact ry
       · have:(f==fn)=false:=by simp[hf]
         simp[List.lookup,this,hf,RelO]
     · rw[same b z z2] at q
       refine(I.hok b o q).stay (fun c v hc qq=>k c v ?_ qq) (fun c qq=>?_) fun c xs qq=>?_
       · rcases hc with rfl | hc
         · exact z
         · rintro rfl;rw[he] at hc;cases hc
       · rw[same c (fun z=>by rw[z,he] at qq;cases qq) (tr c _ qq)];exact qq
       · rw[same c (fun z=>by rw[z,he] at qq;cases qq) (tr c _ qq)];exact qq
theorem ps_xset {C S:Addr}{init:Value}{fn:Str}{o value:Expr}{pos pos':Pos}{ta tv:TE}(c:XCls X.K C S init) (cs:XSet X.K C fn) (ha:PE X o ta) (hv:PE X value tv) (hs:swapsWith value (some (.Attribute o fn pos')) pos.line X.env=pure false) :
   PS X (.Assign [.Attribute o fn pos'] value pos) (sX C fn ta tv):=by
 intro pins s σ H D I h
 refine plainObj_wpAny_Assign_Attribute (thn (hv pins s σ H _ I h) fun u s1 ⟨y,H1,I1,ry,q⟩=>thn (ha pins s1 σ H1 _ I1 q) fun ov s2 ⟨x,H2,I2,rx,e,t,ex,ea,q2⟩=>?_) hs
 subst ex
 obtain rfl:ov=Value.ref e:=rx
 obtain⟨nm,q,N,bs,sn,sub,ab,col,dd,k0,k1,k2,k3,k5,lk⟩:=c.lk
 have hx:=(I2.hok e _ ea).1
 refine set_exc (cd:={ name:=nm,bases:=bs,mro:=.ref C::.ref S::bmV,ns:=N,qualname:=q,hasDict:=true,slotNames:=sn,subclasses:=sub,abstract:=ab,collection:=col,hasDel:=false }) I2.kIn hx rfl rfl rfl cs.sa (by unfold PySem.W.clsIn;rw[lk]) (by rw[List.contains_cons,List.contains_cons];rfl)
   (fun self=>by show refuseLoop self "__setattr__" (.ref C::.ref S::bmV)=pure ();rw[refuseLoop_ref,refuseLoop_ref];exact PySem.F.store_ValueError.passes self) cs.ta rfl fun h' tk' dx z1 z2 z3 z4=>?_
 have hdn:H2 dx=none:=I2.hok.fresh z1
 have hne:dx≠e:=fun z=>by rw[z,ea] at hdn;cases hdn
 exact⟨σ,_,inv_xset (t':=tk') I2 ea ry z1 z2 z3 z4,q2 dx hdn hne⟩
end
def spInit (C:Addr) (fn:Str):Sp:=fun vs H Q _=>∃e v t,vs=[.ref e,v]∧H e=some (xo e C t none)∧∀d,H d=none→d≠e→Q .non (upd (upd H d (.xd [(fn,v)])) e (xo e C t (some d)))
theorem inv_forget {X:Cx}{pins:List (Addr×Obj)}{σ:St}{H:Hp}{s:Shared}{e C t:Addr}{dx:Option Addr}(I:Inv X pins σ (upd H e (xo e C t dx)) s) (hn:H e=none) (ha:X.s₀.heap.objs.size≤e):Inv X pins σ H s:=by
 have B:=I.base
 have sm:∀b,b≠e→upd H e (xo e C t dx) b=H b:=fun b z=>upd_ne z
 have ne:∀b o,X.s₀.heap.get? b=some o→b≠e:=fun b o q z=>by rw[z] at q;exact absurd (Nat.lt_of_lt_of_le (Heap.lt_size q) ha) (Nat.lt_irrefl _)
 have nn:∀b,upd H e (xo e C t dx) b=none→H b=none:=fun b q=>by
   by_cases z:b=e
   · rw[z];exact hn
   · rw[sm b z] at q;exact q
 have nt:∀{b o},upd H e (xo e C t dx) b=some o→o≠xo e C t dx→H b=some o:=fun {b o} q no=>by
   by_cases z:b=e
   · rw[z,upd_same] at q;cases q;exact absurd rfl no
   · rw[sm b z] at q;exact q
 refine⟨I.ok,I.os,I.bare,⟨B.keep,B.slot,fun b o q n hx=>nn b (B.free b o q n hx),B.there,fun b xs q=>nt (B.tups b xs q) (by unfold xo;simp),fun b o xs q=>nt (B.frzs b o xs q) (by unfold xo;simp),fun b ps q=>?_⟩,I.loc,I.cell,nn _ I.free,fun x c q=>nn _ (I.freeC x c q),fun p hp=>?_,fun b o q=>?_,I.len⟩
 · obtain⟨m,q'⟩:=B.tbls b ps q
   exact⟨m,nt q' (by unfold xo;simp)⟩
 · obtain⟨a1,a2,a3⟩:=I.pin p hp
   exact⟨a1,nn _ a2,a3⟩
 · have z:b≠e:=fun z=>by rw[z,hn] at q;cases q
   have q':upd H e (xo e C t dx) b=some o:=by rw[sm b z];exact q
   exact(I.hok b o q').stay (fun _ _ _ a=>a) (fun c a=>nt a (by unfold xo;simp)) fun c xs a=>nt a (by unfold xo;simp)
section
variable {X:Cx}{R:St→XK}{C S f:Addr}{x fn:Str}{np cpos pos:Pos}{arg:Expr}{t:TA}{k:Nat}{fd:FuncData}{ps:List Str}
def tRaise1 (C:Addr) (fn:Str) (R:St→XK) (t:TA):TS:=fun _ σ H=>t σ H fun vs H1=>∃v,vs=[v]∧∀d,H1 d=none→R σ (.ref C) (some d) (upd H1 d (.xd [(fn,v)]))
theorem ps_raise1 (c:XCls X.K C S (.ref f)) (hfn:PySem.W.isFn X.K (.ref f)=true) (F:FnOk X.prog X.w X.K X.mg X.base CX0 k f fd ps (spInit C fn)) (hb:Binds X.K fd ps []) (hr:Room (k+1) X.A) (hg:Gl X x) (hm:X.mg x=some (.ref C))
   (ha:PA (X.wish (Fly X R)) [arg] t) (hdb:(x==("__debug__":Str))=false:=by decide) (he:starEach [arg] X.env=[(false,eval arg X.env)]:=by rfl) :
   PS (X.wish (Fly X R)) (.Raise (some (.Call (.Name x np) [arg] [] cpos)) none pos) (tRaise1 C fn R t):=by
 intro pins s σ H D I h
 have FB:=PySem.F.excBase_ValueError
 obtain⟨nm,q,N,bs,sn,sub,ab,col,dd,k0,k1,k2,k3,k5,lk⟩:=c.lk
 rw[arm_exec_Raise]
 refine wpAny_bind (wpAny_standAt (raise_any (C:=C) (hbase:=bmV_base (S:=S)) (hh:=hr.hd) (nm:=nm) (q:=q) (N:=N) (bs:=bs) (hdct:=true) (sn:=sn) (sub:=sub) (ab:=ab) (col:=col) (dd:=dd) (k0:=k0) (k1:=k1) (k2:=k2) (k3:=k3) (k5:=k5) (newId:= "ValueError.__new__") ?_))
 refine wpAny_bind (thn (wpAny_Call_Name_kw (ld_glob I (X:=X.wish (Fly X R)) hg hm (PySem.W.callWith_K (h₀:=X.base) I.ok.mod.kin c.kp (Q:=fun v s₁=>∃e t dx,v = .ref e∧s₁.heap.get? C=some (excClassObj nm q C N bs (.ref S::bmV) true sn sub ab col dd k0 k1 k2 k3 k5 "ValueError.__new__") ∧
     s₁.heap.get? e=some { cls:=.ref C,dict:=dx,data:=.fields #[.ref t,.none,.none,.none,.bool false,.none] }∧Fly X R (.ref e) s₁) (thn (ha cpos pins s σ H _ I h) fun us s1 ⟨vs,H1,I1,r,v,ev,q1⟩=>⟨I1.kIn,?_⟩) he rfl) hdb)) fun v s3 h3=>wpAny_bind (wpAny_standAt (wpAny_pure h3)))
 subst ev
 obtain⟨u,rfl,ru⟩:∃u,us=[u]∧RelV v u:=by cases r with | cons a b=>cases b;exact⟨_,rfl,a⟩
 have I0:=I1.unwish
 have hC:=I0.kIn _ _ lk
 obtain⟨hp,g,d,tk,os⟩:=s1
 have kk:=hNew_keeps (h:=hp) (C:=C) (rest:=[u])
 have hat:=hNew_at (h:=hp) (C:=C) (rest:=[u])
 have I2:Inv X pins σ (upd H1 (hp.objs.size+1) (xo (hp.objs.size+1) C hp.objs.size none)) ⟨hNew hp C [u],g,d,tk,os⟩:=I0.laid (a:=hp.objs.size+1) (t':=tk) kk (Nat.le_succ _) (xo_ok hat)
 have hen:H1 (hp.objs.size+1)=none:=I0.hok.fresh (Nat.le_succ _)
 have r2:Vals [V.ref (hp.objs.size+1),v] [Value.ref (hp.objs.size+1),u]:=.cons rfl (.cons ru .nil)
 have hsp:spInit C fn [V.ref (hp.objs.size+1),v] (upd H1 (hp.objs.size+1) (xo (hp.objs.size+1) C hp.objs.size none))
     (fun w H2=>w = .non∧∃d',H1 d'=none∧d'≠hp.objs.size+1∧H2=upd (upd H1 d' (.xd [(fn,v)])) (hp.objs.size+1) (xo (hp.objs.size+1) C hp.objs.size (some d'))) (fun _ _ _=>False):=by
   refine⟨_,v,hp.objs.size,rfl,upd_same,fun d' hd' hne=>⟨rfl,d',by rw[upd_ne hne] at hd';exact hd',hne,?_⟩⟩
   funext b
   unfold upd
   by_cases z:b=hp.objs.size+1 <;> simp[z]
 have hl:([Value.ref (hp.objs.size+1),u]++[]).length=ps.length:=by
   have:=F.len _ _ _ _ hsp
   simpa using this
 refine call_c FB bmV_has bmV_noA bmV_noN hC (PySem.W.looks_findIn I0.kIn c.init) (fun self=>PySem.W.bind_fn I0.kIn self (beq_iff_eq.mp hfn)) (codeAny_mono (F.run _ X.stack _ _ ⟨[Value.ref (hp.objs.size+1),u],[]⟩ ([Value.ref (hp.objs.size+1),u]++[]) _ _ _ (hr.make C [u] []) (I2.env0.make C [u] []) (hb _ [Value.ref (hp.objs.size+1),u] I2.kIn hl) r2 hsp) fun r' s' hq'=>?_) (by show 1≤sizeLine;decide)
 rcases r' with e | (w | _ | _ | _) <;> first | exact hq'.elim | skip
 obtain⟨w',H2,I3,rw',rfl,d',hd1,hd2,rfl⟩:=I2.after hq'
 have hx:=(I3.hok _ _ upd_same).1
 have hen':(upd H1 d' (.xd [(fn,v)])) (hp.objs.size+1)=none:=by rw[upd_ne (Ne.symm hd2)];exact hen
 have ab':X.s₀.heap.objs.size≤hp.objs.size+1:=Nat.le_trans I0.sz (Nat.le_succ _)
 have I4:=inv_forget I3 hen' ab'
 refine⟨rw',hp.objs.size+1,hp.objs.size,some d',rfl,I3.kIn _ _ lk,hx,hp.objs.size+1,none,.ref C,some d',.ref hp.objs.size,σ,_,.none,rfl,nopins I4,⟨⟨_,_,hx,rfl,rfl,rfl,rfl,rfl⟩,.inl rfl⟩,Loose.of I0 (Nat.le_succ _) hen',fun t e=>(by cases e),q1 d' hd1⟩
end
end XC
namespace XC
open PySem PySem.Spec L2
open PyProof.Rows (envOfC AllBare)
def XM (K:Frg) (C D:Addr):Prop:=∀(prog:Program) (w:World) (A:Around) (E:Value→Shared→Prop) (s:Shared) (e:Addr) (oe:Obj) (Q:Bool→Shared→Prop),K.In s.heap→s.heap.get? e=some oe→oe.cls = .ref C→Q true s →
 wpAny (model prog w) A (excMatches (.ref e) (.ref D)) Q E s
structure XTop (K:Frg) (S:Addr):Prop where
 lk:∃(nm q:Str) (N:Addr) (bs:List Value) (sn:List Str) (sub:List Value) (ab:Bool) (col:Option Bool) (dd:Option Addr) (k0 k1 k2 k3 k5:Option Value),K.lookup S=some (excClassObj nm q S N bs bmV true sn sub ab col dd k0 k1 k2 k3 k5 "ValueError.__new__")
theorem xm_top {K:Frg}{C S:Addr}{init:Value}(c:XCls K C S init) (u:XTop K S):XM K C S:=fun prog w A E s e oe Q X he hc q=>by
 obtain⟨nm,q',N,bs,sn,sub,ab,col,dd,k0,k1,k2,k3,k5,lk⟩:=c.lk
 obtain⟨nm',q'',N',bs',sn',sub',ab',col',dd',j0,j1,j2,j3,j5,lk'⟩:=u.lk
 obtain⟨hp,g,d,t,os⟩:=s
 have hC:=X _ _ lk
 have hS:=X _ _ lk'
 have hcB:(Value.ref S::bmV).contains (.type "BaseException")=true:=by rw[List.contains_cons];rfl
 have hcC:(Value.ref C::Value.ref S::bmV).contains (.ref S)=true:=by rw[List.contains_cons,List.contains_cons];simp
 have f:=tc_notTuple
 have he':hp.get? e=some oe:=he
 unfold excMatches
 repeat (first | (with_reducible refine wpAny_loadPart_at he' ?_;rw[hc]) | with_reducible refine wpAny_loadPart_at hS ?_ | (with_reducible refine wpAny_isSubtype_exc hS ?_;rw[hcB]) | (with_reducible refine wpAny_isSubtype_exc hC ?_;rw[hcC]) | wp_step)
 exact q
abbrev hand (X:Cx) (a:Addr):Cx:={ X with A:=X.A.mark (some (.ref a)),calm:=false,xe:=fun _ _=>False }
abbrev pinned (X:Cx) (pn:List (Addr×Obj)):Cx:={ X with pn:=pn }
section
variable {X:Cx}{pins:List (Addr×Obj)}{σ:St}{H:Hp}{s:Shared}{a:Addr}
theorem inv_hand (I:Inv X pins σ H s) (a:Addr):Inv (hand X a) pins σ H s:=
 ⟨⟨I.ok.mod,I.ok.kind,I.ok.glob,I.ok.blt,I.ok.above,I.ok.inj,I.ok.has,I.ok.cab,(fun z=>nomatch z),I.ok.frames,I.ok.stk,I.ok.exf,I.ok.bs,I.ok.bsz,I.ok.noex,I.ok.exfs,I.ok.funs,I.ok.frf⟩,I.os,I.bare,I.base,I.loc,I.cell,I.free,I.freeC,I.pin,I.hok,I.len⟩
theorem inv_unhand {X:Cx}(ok:X.Ok) (I:Inv (hand X a) pins σ H s):Inv X pins σ H s:=
 ⟨ok,I.os,I.bare,I.base,I.loc,I.cell,I.free,I.freeC,I.pin,I.hok,I.len⟩
theorem inv_pin (I:Inv X pins σ H s):Inv (pinned X (X.pn++pins)) [] σ H s:=
 ⟨⟨I.ok.mod,I.ok.kind,I.ok.glob,I.ok.blt,I.ok.above,I.ok.inj,I.ok.has,I.ok.cab,I.ok.hd,I.ok.frames,I.ok.stk,I.ok.exf,I.ok.bs,I.ok.bsz,I.ok.noex,I.ok.exfs,I.ok.funs,I.ok.frf⟩,I.os,I.bare,I.base,I.loc,I.cell,I.free,I.freeC,fun p hp=>I.pin p (by simpa using hp),I.hok,I.len⟩
theorem inv_unpin {X:Cx}(ok:X.Ok) (I:Inv (pinned X (X.pn++pins)) [] σ H s):Inv X pins σ H s:=
 ⟨ok,I.os,I.bare,I.base,I.loc,I.cell,I.free,I.freeC,fun p hp=>I.pin p (by simpa using hp),I.hok,I.len⟩
theorem sp_unpin {X:Cx}(ok:X.Ok) {D:Ends}{f:Flow}{s':Shared}(h:SP (pinned X (X.pn++pins)) [] D f s'):SP X pins D f s':=by
 cases f with
 | next=>obtain⟨σ',H',I,q⟩:=h;exact⟨σ',H',inv_unpin ok I,q⟩
 | brk=>obtain⟨σ',H',I,q⟩:=h;exact⟨σ',H',inv_unpin ok I,q⟩
 | cont=>obtain⟨σ',H',I,q⟩:=h;exact⟨σ',H',inv_unpin ok I,q⟩
 | ret u=>obtain⟨v,σ',H',I,r,q⟩:=h;exact⟨v,σ',H',inv_unpin ok I,r,q⟩
theorem sp_unhand {X:Cx}(ok:X.Ok) {D:Ends}{f:Flow}{s':Shared}(h:SP (hand X a) pins D f s'):SP X pins D f s':=by
 cases f with
 | next=>obtain⟨σ',H',I,q⟩:=h;exact⟨σ',H',inv_unhand ok I,q⟩
 | brk=>obtain⟨σ',H',I,q⟩:=h;exact⟨σ',H',inv_unhand ok I,q⟩
 | cont=>obtain⟨σ',H',I,q⟩:=h;exact⟨σ',H',inv_unhand ok I,q⟩
 | ret u=>obtain⟨v,σ',H',I,r,q⟩:=h;exact⟨v,σ',H',inv_unhand ok I,r,q⟩
end
end XC
namespace DL
open PySem PySem.Spec L2 XC
open PyProof.Rows (envOfC AllBare)
abbrev Rx:=L2.St→XK
theorem XI.sub {K:Frg}{H:Hp}{M M':Own}(hs:M'.Sub M) {dd:Option Addr}{fs:List (Str×PyData)}(h:XI K H M.W dd fs):XI K H M'.W dd fs:=h.grow (sub_grow hs)
abbrev DXK:=List (Option DS)→Value→List (Str×PyData)→Own→Prop
def KX (K:Frg) (R:Rx) (M:Own) (H:Hp) (DX:DXK):Prop:=∀(ρ':List (Option DS)) (cls:Value) (fs:List (Str×PyData)) (M':Own) (σ':St) (dd:Option Addr) (H':Hp),Rel K M' ρ' σ' H'→Step K M M' H H'→XI K H' M'.W dd fs→DX ρ' cls fs M'→R σ' cls dd H'
theorem KX.step {K:Frg}{R:Rx}{M M1:Own}{H H1:Hp}{DX:DXK}(k:KX K R M H DX) (t:Step K M M1 H H1):KX K R M1 H1 DX:=fun a b c d e f g h i j l=>k a b c d e f g h (t.trans i) j l
def DXt (K:Frg) (R:Rx) (t:TS) (ρ:List (Option DS)) (M:Own) (D:EndsD) (DX:DXK):Prop:=
 ∀(σ:St) (H:Hp) (E:Ends),Rel K M ρ σ H→(∀ρ' M' σ' H',Rel K M' ρ' σ' H'→Step K M M' H H'→D.nx ρ' M'→E.nx σ' H')→(∀v H' x M',OA K H' M'→SI K H' M' x v→Step K M M' H H'→D.rt x M'→E.rt v H') →
   (∀ρ' M' σ' H',Rel K M' ρ' σ' H'→Step K M M' H H'→D.bk ρ' M'→E.bk σ' H')→(∀ρ' M' σ' H',Rel K M' ρ' σ' H'→Step K M M' H H'→D.ct ρ' M'→E.ct σ' H')→KX K R M H DX→t E σ H
def DEx (K:Frg) (R:Rx) (t:TE) (ρ:List (Option DS)) (M:Own) (Q:DS→Own→Prop) (DX:DXK):Prop:=
 ∀(σ:St) (H:Hp) (QQ:VK),Rel K M ρ σ H→(∀v H' x M',OA K H' M'→SI K H' M' x v→Step K M M' H H'→Q x M'→QQ v H')→KX K R M H DX→t σ H QQ
structure FSpX where
 pre:List DS→Own→Prop
 post:List DS→Own→DS→Own→Prop
 xpost:List DS→Own→Value→List (Str×PyData)→Own→Prop
def spX (K:Frg) (n:Nat) (S:FSpX):Sp:=fun vs H Q E=>∃xs M,xs.length=n∧OA K H M∧SIs K H M xs vs∧S.pre xs M∧(∀x M' v H',S.post xs M x M'→Step K M M' H H'→OA K H' M'→SI K H' M' x v→Q v H') ∧
 ∀cls fs M' dd H',S.xpost xs M cls fs M'→Step K M M' H H'→OA K H' M'→XI K H' M'.W dd fs→E cls dd H'
section
variable {K:Frg}{R:Rx}{ρ:List (Option DS)}{M:Own}{D:EndsD}{DX:DXK}{t u:TS}{ta:TE}{tl:TA}{tA:TT}{Q:DS→Own→Prop}
theorem dx_lift (h:DSt K t ρ M D):DXt K R t ρ M D DX:=fun σ H E Rl k1 k2 k3 k4 _=>h σ H E Rl k1 k2 k3 k4
theorem dx_seq (h:DXt K R t ρ M { D with nx:=fun ρ1 M1=>DXt K R u ρ1 M1 D DX } DX):DXt K R (tSeq t u) ρ M D DX:=fun σ H E Rl k1 k2 k3 k4 k5=>by
 refine h σ H { E with nx:=fun σ' H'=>u E σ' H' } Rl (fun ρ1 M1 σ1 H1 R1 t1 q=>?_) k2 k3 k4 k5
 exact q σ1 H1 E R1 (fun a b c d e f g=>k1 a b c d e (t1.trans f) g) (fun a b c d e f g q=>k2 a b c d e f (t1.trans g) q) (fun a b c d e f g=>k3 a b c d e (t1.trans f) g) (fun a b c d e f g=>k4 a b c d e (t1.trans f) g) (k5.step t1)
theorem dx_if (h:DT K tA ρ M fun c M1=>if c=true then DXt K R t ρ M1 D DX else DXt K R u ρ M1 D DX):DXt K R (tIfS tA t u) ρ M D DX:=fun σ H E Rl k1 k2 k3 k4 k5=>
 h σ H _ Rl fun c H1 M1 o1 t1 h1=>by
   have go:∀{w:TS},DXt K R w ρ M1 D DX→w E σ H1:=fun q=>q σ H1 E (Rl.step o1 t1) (fun a b c d e f g=>k1 a b c d e (t1.trans f) g) (fun a b c d e f g q=>k2 a b c d e f (t1.trans g) q) (fun a b c d e f g=>k3 a b c d e (t1.trans f) g) (fun a b c d e f g=>k4 a b c d e (t1.trans f) g) (k5.step t1)
   cases c with
   | true=>rw[if_pos rfl] at h1 ⊢;exact go h1
   | false=>rw[if_neg nft] at h1 ⊢;exact go h1
theorem dx_raise1 {C:Addr}{fn:Str}(h:DA K tl ρ M fun xs M1=>∃d,xs=[.d d]∧DX ρ (.ref C) [(fn,d)] M1):DXt K R (tRaise1 C fn R tl) ρ M D DX:=fun σ H E Rl _ _ _ _ k5=>
 h σ H _ Rl fun vs H1 xs M1 o1 s1 t1 ⟨d,ex,q⟩=>by
   subst ex
   obtain⟨v,r,rfl,sv,rfl⟩:=s1
   refine⟨v,rfl,fun p hp=>?_⟩
   have g:Step K M1 M1 H1 (upd H1 p (.xd [(fn,v)])):=⟨grow_new _ hp⟩
   exact k5 ρ _ [(fn,d)] M1 σ (some p) _ ((Rl.step o1 t1).step (o1.new hp) g) (t1.trans g) ⟨v,fun z=>z (o1.none hp),upd_same,DV.grow g.grow sv⟩ q
theorem dex_call {n:Nat}{S:FSpX}(h:DA K tl ρ M fun xs M1=>xs.length=n∧S.pre xs M1∧(∀x M',S.post xs M1 x M'→Q x M')∧∀cls fs M',S.xpost xs M1 cls fs M'→DX ρ cls fs M'):DEx K R (tCallX (spX K n S) R tl) ρ M Q DX:=fun σ H QQ Rl k k5=>
 h σ H _ Rl fun vs H1 xs M1 o1 s1 t1 ⟨h0,h1,h2,h3⟩=>
   ⟨xs,M1,h0,o1,s1,h1,fun x M' v H' p st oa si=>k v H' x M' oa si (t1.trans st) (h2 x M' p),fun cls fs M' dd H' p st oa xi=>k5 ρ cls fs M' σ dd H' ((Rl.step o1 t1).step oa st) (t1.trans st) xi (h3 cls fs M' p)⟩
theorem dx_set {i:Nat}(h:DEx K R ta ρ M (fun x M1=>D.nx (ρ.set i (some x)) M1) DX):DXt K R (tAsg ta (gName i)) ρ M D DX:=fun σ H E Rl k1 _ _ _ k5=>
 h σ H _ Rl (fun v H' x M' a b c q=>k1 _ M' _ H' ((Rl.step a c).set b i) c q) k5
end
section
variable {P:Program}{w:World}{K:Frg}{mg:Str→Option Value}{base:Heap}
theorem spX_len {n:Nat}{S:FSpX}:∀vs H Q E,spX K n S vs H Q E→vs.length=n:=fun vs H Q E ⟨xs,M,hl,_,h,_⟩=>by rw[h.length,hl]
theorem fnDX {x qual:Str}{st:Stmt}{f:Addr}{fd:FuncData}{N ps:List Str}{k:Nat}{S:FSpX}(F:Fun K x qual st f fd) (Sc:FnScope N ps (defScope st))
   (hbody:∀(cdv:Value) (A:Around) (outer:List Env) (s:Shared) (H:Hp) (E:XK),Room k (A.deeper (envOfC qual (defScope st) s.heap.objs.size f cdv)) →
     ∃t,PSs ((cxOf (CXE P w) P w K mg base N qual (defScope st) f cdv A outer s H E).wish (Fly (cxOf (CXE P w) P w K mg base N qual (defScope st) f cdv A outer s H E) fun _=>E)) (defBody st) t ∧
       ∀xs M,xs.length=ps.length→S.pre xs M→DXt K (fun _=>E) t (startD N xs) M { nx:=fun _ M1=>∃M2:Own,M2.Sub M1∧S.post xs M (.d .none) M2,rt:=fun y M1=>∃M2:Own,M2.Sub M1∧S.post xs M y M2 } fun _ cls fs M1=>∃M2:Own,M2.Sub M1∧S.xpost xs M cls fs M2) :
   FnOk P w K mg base (CXE P w) (k+1) f fd ps (spX K ps.length S):=by
 refine funX F Sc spX_len fun cdv A outer s H vs Q E hr h=>?_
 obtain⟨t,ht,hq⟩:=hbody cdv A outer s H E hr
 obtain⟨xs,M,hl,oa,si,pre,post,xpost⟩:=h
 refine⟨t,ht,hq xs M hl pre (L2.start N vs) H _ (rel_start oa si) ?_ ?_ (fun _ _ _ _ _ _ z=>z.elim) (fun _ _ _ _ _ _ z=>z.elim) ?_⟩
 · rintro ρ' M1 σ' H' R st ⟨M2,hs,p⟩
   exact post (.d .none) M2 .non H' p (st.trans ⟨sub_grow hs⟩) (R.own.sub hs) (by unfold SI DV;rfl)
 · rintro v H' y M1 o s1 st ⟨M2,hs,p⟩
   exact post y M2 v H' p (st.trans ⟨sub_grow hs⟩) (o.sub hs) (s1.sub hs)
 · rintro ρ' cls fs M1 σ' dd H' R st xi ⟨M2,hs,p⟩
   exact xpost cls fs M2 dd H' p (st.trans ⟨sub_grow hs⟩) (R.own.sub hs) (xi.sub hs)
structure HasX (P:Program) (w:World) (K:Frg) (mg:Str→Option Value) (base:Heap) (x:Str) (k:Nat) (ps:List Str) (S:FSpX):Prop where
 ex:∃f fd,FnOk P w K mg base (CXE P w) k f fd ps (spX K ps.length S)∧mg x=some (.ref f)∧PySem.W.keepIn K (.ref f)=true∧Binds K fd ps []
theorem pe_callHX {X:Cx}{R:Rx}{x:Str}{k:Nat}{ps:List Str}{S:FSpX}{e:Expr}{es:List Expr}{t:TA}{p pos:Pos}(h:HasX X.prog X.w X.K X.mg X.base x k ps S) (hr:Room k X.A) (hg:Gl X x) (ha:PA (X.wish (Fly X R)) (e::es) t)
   (hdb:(x==("__debug__":Str))=false:=by decide) (he:starEach (e::es) X.env=(false,eval e X.env)::starEach es X.env:=by rfl) (hpl:(backTo pos (starEach es X.env)).any (·.1)=false:=by rfl) :
   PE (X.wish (Fly X R)) (.Call (.Name x p) (e::es) [] pos) (tCallX (spX X.K ps.length S) R t):=by
 obtain⟨f,fd,F,hm,hk,hb⟩:=h.ex
 exact pe_callX F hr hg hm hk hb ha hdb he hpl
end
end DL
namespace DL
open PySem PySem.Spec L2 XC
open PyProof.Rows (envOfC AllBare)
def inCls (k:Nat):Stmt→Stmt
 | .ClassDef _ _ _ b _ _ _ _ _ _ _=>b.getD k (.Pass ⟨0,0,0,0⟩)
 | _=>.Pass ⟨0,0,0,0⟩
section
variable {P:Program}{w:World}{K:Frg}{mg:Str→Option Value}{base:Heap}
theorem kCallX (X:Cx) (R:Rx) {x:Str}{k:Nat}{ps:List Str}{S:FSpX}{e:Expr}{es:List Expr}{t:TA}{p pos:Pos}(hK:X.K=K) (hP:X.prog=P) (hw:X.w=w) (hmg:X.mg=mg) (hbs:X.base=base)
   (h:HasX P w K mg base x k ps S) (hr:Room k X.A) (hg:Gl X x) (ha:PA (X.wish (Fly X R)) (e::es) t)
   (hdb:(x==("__debug__":Str))=false:=by decide) (he:starEach (e::es) X.env=(false,eval e X.env)::starEach es X.env:=by rfl) (hpl:(backTo pos (starEach es X.env)).any (·.1)=false:=by rfl) :
   PE (X.wish (Fly X R)) (.Call (.Name x p) (e::es) [] pos) (tCallX (spX K ps.length S) R t):=by
 subst hK hP hw hmg hbs
 exact pe_callHX h hr hg ha hdb he hpl
structure HasR (P:Program) (w:World) (K:Frg) (mg:Str→Option Value) (base:Heap) (x fn:Str) (C S:Addr):Prop where
 ex:∃(f:Addr) (fd:FuncData) (ps:List Str),XCls K C S (.ref f)∧PySem.W.isFn K (.ref f)=true∧FnOk P w K mg base CX0 1 f fd ps (spInit C fn)∧Binds K fd ps []∧mg x=some (.ref C)
theorem kRaise1 (X:Cx) (R:Rx) {x fn:Str}{C S:Addr}{arg:Expr}{t:TA}{np cpos pos:Pos}(hK:X.K=K) (hP:X.prog=P) (hw:X.w=w) (hmg:X.mg=mg) (hbs:X.base=base)
   (h:HasR P w K mg base x fn C S) (hr:Room 2 X.A) (hg:Gl X x) (ha:PA (X.wish (Fly X R)) [arg] t) (hdb:(x==("__debug__":Str))=false:=by decide) (he:starEach [arg] X.env=[(false,eval arg X.env)]:=by rfl) :
   PS (X.wish (Fly X R)) (.Raise (some (.Call (.Name x np) [arg] [] cpos)) none pos) (tRaise1 C fn R t):=by
 subst hK hP hw hmg hbs
 obtain⟨f,fd,ps,c,hf,F,hb,hm⟩:=h.ex
 exact ps_raise1 c hf F hb hr hg hm ha hdb he
theorem init_ok {qual fn pn:Str}{st:Stmt}{f C S:Addr}{fd:FuncData}{p1 p2 p3 p4:Pos}(F:Fun K "__init__" qual st f fd) (Sc:FnScope ["self", pn] ["self", pn] (defScope st)) (hb:defBody st=[.Assign [.Attribute (.Name "self" p1) fn p2] (.Name pn p3) p4])
   (c:XCls K C S (.ref f)) (cs:XSet K C fn) (nd:(["self", pn]:List Str).Nodup) (hs:∀env:Env,swapsWith (.Name pn p3) (some (.Attribute (.Name "self" p1) fn p2)) p4.line env=pure false)
   (h0:∀X:Cx,X.N=(["self", pn]:List Str)→X.env.scope=defScope st→PE X (.Name "self" p1) (tVar 0)) (h1:∀X:Cx,X.N=(["self", pn]:List Str)→X.env.scope=defScope st→PE X (.Name pn p3) (tVar 1)):FnOk P w K mg base CX0 1 f fd ["self", pn] (spInit C fn):=by
 refine F.ok Sc (fun vs H Q E ⟨e,v,t,h,_⟩=>by rw[h];rfl) fun cdv A outer s H vs Q E hr ⟨e,v,t,ev,he,hq⟩=>?_
 subst ev
 rw[hb]
 refine⟨_,pss_one (ps_xset (C:=C) (S:=S) (fn:=fn) c cs (h0 _ rfl rfl) (h1 _ rfl rfl) (hs _)),?_⟩
 exact⟨v,rfl,.ref e,rfl,e,t,rfl,he,fun d hd hne=>hq d hd hne⟩
end
end DL
namespace XC
open PySem PySem.Spec L2
open PyProof.Rows (envOfC AllBare)
theorem inv_track {X:Cx}{pins:List (Addr×Obj)}{σ:St}{H:Hp}{s:Shared}{a:Addr}{o:HO}(I:Inv X pins σ H s) (hn:H a=none) (ha:X.s₀.heap.objs.size≤a) (hl:a≠X.env.locals) (hc:∀x c,X.env.cells.lookup x=some c→c≠a) (hp:∀p∈X.pn++pins,p.1≠a)
   (new:ObjOk X.prog X.w (upd H a o) s.heap a o):Inv X pins σ (upd H a o) s:=by
 have B:=I.base
 have sm:∀b u,H b=some u→upd H a o b=some u:=fun b u q=>by rw[upd_ne (fun z=>by rw[z,hn] at q;cases q)];exact q
 have ne:∀b u,X.s₀.heap.get? b=some u→b≠a:=fun b u q z=>by rw[z] at q;exact absurd (Nat.lt_of_lt_of_le (Heap.lt_size q) ha) (Nat.lt_irrefl _)
 refine⟨I.ok,I.os,I.bare,⟨B.keep,B.slot,fun b u q n hx=>by rw[upd_ne (ne b u q)];exact B.free b u q n hx,B.there,fun b xs q=>sm _ _ (B.tups b xs q),fun b u xs q=>sm _ _ (B.frzs b u xs q),fun b ps q=>?_⟩,I.loc,I.cell,by rw[upd_ne hl.symm];exact I.free,fun x c q=>by rw[upd_ne (hc x c q)];exact I.freeC x c q,fun p hq=>?_,fun b u q=>?_,I.len⟩
 · obtain⟨m,q'⟩:=B.tbls b ps q
   exact⟨m,sm _ _ q'⟩
 · obtain⟨a1,a2,a3⟩:=I.pin p hq
   exact⟨a1,by rw[upd_ne (hp p hq)];exact a2,a3⟩
 · by_cases z:b=a
   · subst z;rw[upd_same] at q;cases q;exact new
   · rw[upd_ne z] at q
     exact(I.hok b u q).stay (fun _ _ _ q=>q) (fun c q=>sm _ _ q) fun c xs q=>sm _ _ q
theorem goes_ok {X:Cx}{pins:List (Addr×Obj)}{σ:St}{H:Hp}{s:Shared}{M:Model}{A:Around}{E:Value→Shared→Prop}{i:Nat}{x:Str}{pos:Pos}{Q:Unit→Shared→Prop}(I:Inv X pins σ H s) (hN:X.N.Nodup) (hi:X.N[i]?=some x) (hk:X.env.kindOf x=some .local)
   (h:∀s',Inv X pins (σ.set i none) H s'→Q () s'):wpAny M A (do bindName X.env x .none;unbindBehindTheSuite X.env x pos) Q E s:=by
 obtain⟨m,hn,hl⟩:=id I.loc
 have hcls:(X.env.scope.kind==.class||(X.env.scope.kind==.module&&X.env.locals != X.env.globals))=false:=by rw[I.ok.kind];rfl
 have cne:=I.cne
 refine wpAny_nameGoes_keeps hk hn hcls fun h' v hn' hs=>?_
 obtain⟨oL,_,_,hoL,_⟩:=id hn
 refine h _ ⟨I.ok,I.os,I.bare,⟨fun b o e n hb hx=>?_,fun b o e n hb hx=>?_,I.base.free,fun b o e hx=>?_,I.base.tups,I.base.frzs,I.base.tbls⟩,⟨_,hn',fun j y v' e1 e2 e3=>?_⟩,fun y c e=>?_,I.free,I.freeC,fun p hp=>?_,fun b ob e=>?_,by rw[List.length_set];exact I.len⟩
 · exact(hs.2 b (Nat.ne_of_lt (Nat.lt_of_lt_of_le (Heap.lt_size e) I.ok.above))).trans (I.base.keep b o e n hb hx)
 · obtain⟨sl,e1⟩:=I.base.slot b o e n hb hx
   exact⟨sl,(hs.2 b (Nat.ne_of_lt (Nat.lt_of_lt_of_le (Heap.lt_size e) I.ok.above))).trans e1⟩
 · obtain⟨o',e1⟩:=I.base.there b o e hx
   exact⟨o',(hs.2 b (Nat.ne_of_lt (Nat.lt_of_lt_of_le (Heap.lt_size e) I.ok.above))).trans e1⟩
 · by_cases hj:j=i
   · subst hj
     rw[List.getElem?_set] at e2
     simp at e2
   · rw[List.getElem?_set_ne (Ne.symm hj)] at e2
     obtain⟨u',r',q⟩:=hl j y v' e1 e2 e3
     refine⟨u',r',?_⟩
     rcases q with ⟨k,e⟩ | ⟨k,c,e,z⟩
     · refine .inl ⟨k,?_⟩
       have:y≠x:=fun e=>hj (nodup_ix hN e1 (e▸hi))
       simp[this,e]
     · exact .inr ⟨k,c,e,z.sameBut hs (cne y c e)⟩
 · obtain⟨w',z⟩:=I.cell y c e
   exact⟨w',z.sameBut hs (cne y c e)⟩
 · obtain⟨e,n,ne,nf,d⟩:=I.pin p hp
   exact⟨(hs.2 p.1 ne).trans e,n,ne,nf,d⟩
 · refine(I.hok b ob e).stay (fun c w' hc q=>(hs.2 c ?_).trans q) (fun _ q=>q) fun _ _ q=>q
   rintro rfl
   rcases hc with rfl | hc
   · rw[I.free] at e;cases e
   · rw[I.free] at hc;cases hc
theorem exK_ok {P:Program}{w:World}{H:Hp}{h:Heap}{a C:Addr}{dd:Option Addr}{ar:Value}{T:Option Addr}{fl:Value}(x:ExAt h a (.ref C) dd ar T fl):ObjOk P w H h a (DL.exK a C dd):=by
 obtain⟨oe,vs,he,hc,hd,hdt,_⟩:=x
 exact⟨⟨oe,vs,he,hc,hd,hdt⟩,⟨_,he⟩,fun _ _ ⟨o,v,a1,a2⟩ b=>⟨o,v,b _ a1,a2⟩⟩
def tTryAs (K:Frg) (D:Addr) (i:Nat) (tb:(St→XK)→TS) (ts:TS):TS:=fun D' σ H=>tb (fun σ' cls dd H'=>∃C,cls = .ref C∧XM K C D ∧
 ∀a,H' a=none→ts { nx:=fun σ2 H2=>D'.nx (σ2.set i none) H2,rt:=D'.rt,bk:=fun σ2 H2=>D'.bk (σ2.set i none) H2,ct:=fun σ2 H2=>D'.ct (σ2.set i none) H2 } (σ'.set i (some (.ref a))) (upd H' a (DL.exK a C dd))) D' σ H
theorem ps_tryAs {X:Cx}{D:Addr}{i:Nat}{body:List Stmt}{b₀:Stmt}{suite:List Stmt}{x n:Str}{np hpos pos:Pos}{tb:(St→XK)→TS}{ts:TS}(hstk:X.stack=X.env::X.outer) (hfr:X.env.frame=some X.env.locals)
   (hN:X.N.Nodup) (hi:X.N[i]?=some n) (hk:X.env.kindOf n=some .local)
   (hg:Gl X x) (hm:X.mg x=some (.ref D)) (hb:∀(pn:List (Addr×Obj)) (R:St→XK),PSs ((pinned X pn).wish (Fly (pinned X pn) R)) body (tb R)) (hs:∀a,PSs (hand X a) (b₀::suite) ts) (hdb:(x==("__debug__":Str))=false:=by decide) :
   PS X (.Try body [.ExceptHandler (some (.Name x np)) (some n) (b₀::suite) hpos] [] [] pos) (tTryAs X.K D i tb ts):=by
 intro pins s σ H D' I h
 have ok:=I.ok
 refine wpAny_Try_except ?_
 have hbody:=hb (X.pn++pins) _ [] s σ H D' ((inv_pin I).wish _) h
 refine wpAny_mono hbody (fun f s1 q=>?_) fun e s1 q=>?_
 · have q':=sp_unpin ok q.unwish
   cases f with
   | next=>exact wpAny_execs_nil q'
   | ret v=>exact q'
   | brk=>exact q'
   | cont=>exact q'
 · obtain⟨a,T,cls,dd,ar,σ',H',fl,rfl,J,⟨x1,hfl⟩,la,lT,⟨C,rfl,xm,r⟩⟩:=q
   have I1:=inv_unpin ok J
   have fr:X.A.frames=some (X.env::X.outer):=by rw[← hstk];exact ok.frames
   have hl:s1.heap.FunFrames X.base (X.env::X.outer):=by rw[← hstk];exact I1.stack
   refine note_any fr hl hfr x1 hfl fun h2 T' x2 n2 m2=>?_
   have hfs:(X.env::X.outer).filterMap (·.frame)=frs X.stack:=by rw[hstk];rfl
   rw[hfs] at m2
   have lo:∀b,Loose (pinned X (X.pn++pins)) H' b→H' b=none∧X.s₀.heap.objs.size≤b∧b≠X.env.locals∧(∀x c,X.env.cells.lookup x=some c→c≠b)∧∀p∈X.pn++pins,p.1≠b:=fun b l=>⟨l.fre,l.above,l.loc,l.cel,l.pn⟩
   have I2:Inv X pins σ' H' { s1 with heap:=h2 }:=inv_moved I1 m2 fun b hb=>by
     rcases List.mem_cons.mp hb with q | q
     · rw[q];exact lo _ la
     · exact lo _ (lT b (by cases T with | none=>simp at q | some t=>simp at q;rw[q]))
   have lT':=lo _ (n2.elim (fun z=>lT T' z) fun z=>Loose.of (b:=T') J z.2 (J.hok.fresh z.2))
   refine flight_ok (s:={ s1 with heap:=h2 }) x2 fun h3 x3 m3=>?_
   have I3:Inv X pins σ' H' { s1 with heap:=h3 }:=inv_moved (s:={ s1 with heap:=h2 }) (ch:=[T']) I2 (m3.mono (fun b z=>absurd z (by simp)) fun b z=>z) fun b hb=>by
     have:b=T':=by simpa using hb
     rw[this];exact lT'
   have I4:=inv_hand I3 a
   refine wpAny_handleBy_cons (codeAny_handlers_test (ld_glob (X:=hand X a) I4 hg hm ?_ hdb)) (by intro q;cases q)
   obtain⟨oe,vs,he,hc,_⟩:=id x3
   refine xm _ _ _ _ { s1 with heap:=h3 } a oe _ I3.kIn he hc (codeAny_handlers_suite_as ?_)
   refine flight_ok (s:={ s1 with heap:=h3 }) x3 fun h4 x4 m4=>?_
   have I5:Inv X pins σ' H' { s1 with heap:=h4 }:=inv_moved (s:={ s1 with heap:=h3 }) (ch:=[T']) I3 (m4.mono (fun b z=>absurd z (by simp)) fun b z=>z) fun b hb=>by
     have:b=T':=by simpa using hb
     rw[this];exact lT'
   obtain⟨q1,q2,q3,q4,q5⟩:=lo _ la
   have I6:Inv X pins σ' (upd H' a (DL.exK a C dd)) { s1 with heap:=h4 }:=inv_track I5 q1 q2 q3 q4 q5 (exK_ok x4)
   have hkl:Loc X.env.scope n:=.inl hk
   refine store_ok (X:=X) I6 hN hi hkl (v:=.ref a) (u:=.ref a) rfl (fun s5 I7=>?_) (.inr hk)
   refine wpAny_mono (hs a pins s5 _ _ _ (inv_hand I7 a) (r a q1)) (fun f s' q=>?_) fun _ _ z=>False.elim z
   have q':=sp_unhand ok q
   cases f with
   | next=>obtain⟨σ2,H2,I8,z⟩:=q';exact goes_ok I8 hN hi hk fun s9 I9=>⟨_,_,I9,z⟩
   | brk=>obtain⟨σ2,H2,I8,z⟩:=q';exact goes_ok I8 hN hi hk fun s9 I9=>⟨_,_,I9,z⟩
   | cont=>obtain⟨σ2,H2,I8,z⟩:=q';exact goes_ok I8 hN hi hk fun s9 I9=>⟨_,_,I9,z⟩
   | ret u=>obtain⟨v,σ2,H2,I8,rv,z⟩:=q';exact goes_ok I8 hN hi hk fun s9 I9=>⟨v,_,_,I9,rv,z⟩
end XC
namespace DL
open PySem PySem.Spec L2 XC
section
variable {K:Frg}{ρ:List (Option DS)}{M:Own}{H:Hp}{σ:St}{D:EndsD}
theorem own_newX {a C:Addr}{dd:Option Addr}{fs:List (Str×PyData)}(oa:OA K H M) (h:H a=Option.none) (hd:XI K H M.W dd fs) :
   OA K (upd H a (exK a C dd)) (M.put a (.x C fs))∧Step K M (M.put a (.x C fs)) H (upd H a (exK a C dd)):=by
 have g:Grow K M.W (M.put a (.x C fs)).W H (upd H a (exK a C dd)):=⟨fun b u e _=>.inl (by rw[upd_ne (ne_of_none e h)];exact e),fun b w=>by
   by_cases hb:b=a
   · subst hb;exact .inr h
   · left;unfold Own.W at w ⊢;rw[Own.put_ne hb] at w;exact w⟩
 refine⟨fun b o e=>?_,⟨g⟩⟩
 by_cases ha:b=a
 · subst ha;rw[Own.put_same] at e;cases e;exact⟨dd,upd_same,hd.grow g⟩
 · rw[Own.put_ne ha] at e
   have q:=oa b o e
   cases o with
   | l ds=>obtain⟨vs,q1,q2⟩:=q;exact⟨vs,by rw[upd_ne ha];exact q1,q2.grow g⟩
   | d kvs=>obtain⟨vs,q1,q2⟩:=q;exact⟨vs,by rw[upd_ne ha];exact q1,q2.grow g⟩
   | x C fs=>obtain⟨vs,q1,q2⟩:=q;exact⟨vs,by rw[upd_ne ha];exact q1,q2.grow g⟩
theorem Rel.unset (R:Rel K M ρ σ H) (i:Nat):Rel K M (ρ.set i none) (σ.set i none) H:=by
 refine⟨R.own,by rw[List.length_set,List.length_set];exact R.len,fun j y e=>?_⟩
 rw[List.getElem?_set] at e ⊢
 by_cases hij:i=j
 · rw[if_pos hij] at e
   split at e <;> cases e
 · rw[if_neg hij] at e ⊢
   exact R.slot j y e
abbrev EndsD.gone (D:EndsD) (i:Nat):EndsD:={ nx:=fun ρ2 M2=>D.nx (ρ2.set i none) M2,rt:=D.rt,bk:=fun ρ2 M2=>D.bk (ρ2.set i none) M2,ct:=fun ρ2 M2=>D.ct (ρ2.set i none) M2 }
theorem ds_tryAs {Da:Addr}{i:Nat}{tb:Rx→TS}{ts:TS}(h:∀R,DXt K R (tb R) ρ M D fun ρ' cls fs M'=>∃C,cls = .ref C∧XM K C Da∧∀a,M' a=none→DSt K ts (ρ'.set i (some (.loc a))) (M'.put a (.x C fs)) (D.gone i)):DSt K (tTryAs K Da i tb ts) ρ M D:=fun σ H E Rl k1 k2 k3 k4=>by
 refine h _ σ H E Rl k1 k2 k3 k4 fun ρ' cls fs M' σ' dd H' R' st xi ⟨C,e,xm,q⟩=>⟨C,e,xm,fun a ha=>?_⟩
 obtain⟨o2,t2⟩:=own_newX (C:=C) R'.own ha xi
 have R2:=(R'.step o2 t2).set (x:=.loc a) (v:=.ref a) rfl i
 have s2:=st.trans t2
 exact q a (R'.own.none ha) _ _ _ R2 (fun a b c d e f g=>k1 _ b _ d (e.unset i) (s2.trans f) g) (fun a b c d e f g q=>k2 a b c d e f (s2.trans g) q) (fun a b c d e f g=>k3 _ b _ d (e.unset i) (s2.trans f) g) (fun a b c d e f g=>k4 _ b _ d (e.unset i) (s2.trans f) g)
end
section
variable {P:Program}{w:World}{K:Frg}{mg:Str→Option Value}{base:Heap}
theorem kTryAs (X:Cx) {D:Addr}{i:Nat}{body:List Stmt}{b₀:Stmt}{suite:List Stmt}{x n:Str}{np hpos pos:Pos}{tb:Rx→TS}{ts:TS}(hK:X.K=K) (hstk:X.stack=X.env::X.outer) (hfr:X.env.frame=some X.env.locals)
   (hN:X.N.Nodup) (hi:X.N[i]?=some n) (hk:X.env.kindOf n=some .local)
   (hg:Gl X x) (hm:X.mg x=some (.ref D)) (hb:∀(pn:List (Addr×Obj)) (R:Rx),PSs ((pinned X pn).wish (Fly (pinned X pn) R)) body (tb R)) (hs:∀a,PSs (hand X a) (b₀::suite) ts) (hdb:(x==("__debug__":Str))=false:=by decide) :
   PS X (.Try body [.ExceptHandler (some (.Name x np)) (some n) (b₀::suite) hpos] [] [] pos) (tTryAs K D i tb ts):=by
 subst hK
 exact ps_tryAs hstk hfr hN hi hk hg hm hb hs hdb
end
end DL
namespace XC
open PySem PySem.Spec L2
section
open PySem.W
variable {K:Frag}{prog:Program}{w:World}{A:Around}{E:Value→Shared→Prop}{s:Shared}{x D C:Addr}{ox:Obj}{odo:Option Obj}{name:Str}
structure XKit (K:Frag) (D:Addr):Prop where
 ga:findIn K (.ref D) "__getattribute__"=some (some (.builtin "BaseException.__getattribute__"))
 gg:findIn K (.ref D) "__getattr__"=some none
 hd:hasDictIn K D=true
 ca:findIn K (.ref D) "__class__"=some (some (.builtin "object.__class__"))
 gt:specialIn K (.builtin "object.__class__") "__get__"=some (some (.builtin "getset_descriptor.__get__"))
 tk:takesIn K (.builtin "object.__class__")=some true
 ob:mroIn K D (.type "object")=some true
 bx:mroIn K D (.type "BaseException")=some true
theorem check_ga {nameV:Value}{Q:Unit→Shared→Prop}(X:K.In s.heap) (I:InstAt s.heap x ox D odo) (c:XKit K D) (hq:Q () s):wpAny (model prog w) A (checkBuiltinCall "BaseException.__getattribute__" ⟨[.ref x,nameV],[]⟩) Q E s:=by
 have hk:builtinKind "BaseException.__getattribute__"=some .slot:=by decide +kernel
 have hsplit:splitId "BaseException.__getattribute__"=some ("BaseException", "__getattribute__"):=by decide +kernel
 have ha:=F.args_bexc_ga (.ref x) nameV
 have L0:=I.type (M:=model prog w)
 have L1:=looks_mroIn (M:=model prog w) X c.bx
 simp only[checkBuiltinCall,hk,hsplit]
 refine wpAny_bind ?_
 unfold isInstance
 refine wpAny_bind (L0.at (L1.at ?_))
 repeat (first | assumption | wp_step)
theorem ga_call {tk:Tok}{R:Result→Shared→Prop}(X:K.In s.heap) (I:InstAt s.heap x ox D odo) (c:XKit K D)
   (h:wpAny (model prog w) A.in1 (Builtin.«object.__getattribute__» ⟨[.ref x,.str name tk],[]⟩) (fun fin s'=>match fin with | .done f=>R (.ok f) s' | .again _=>False) (fun e s'=>R (.error e) s') s) :
   codeAny (model prog w) A (.call (.builtin "BaseException.__getattribute__") ⟨[.ref x,.str name tk],[]⟩) R s:=by
 refine codeAny_call_builtin F.attr_ValueError.ga.plain F.entry_bexc_ga (check_ga X I c (wpAny_mono h (fun fin s' z=>?_) fun _ _ z=>z))
 cases fin with
 | done f=>exact z
 | again c=>exact z.elim
theorem exc_by {tk:Tok}{fill expr:Bool}{Q:Value→Shared→Prop}(X:K.In s.heap) (I:InstAt s.heap x ox D odo) (c:XKit K D)
   (h:wpAny (model prog w) A.in1 (Builtin.«object.__getattribute__» ⟨[.ref x,.str name tk],[]⟩) (fun fin s'=>match fin with | .done (.ret v)=>wpAny (model prog w) A (handedOut v) Q E s' | _=>False) (fun _ _=>False) s) :
   wpAny (model prog w) A (getAttrBy (.ref x) (.str name tk) fill expr) Q E s:=by
 have L0:=I.type (M:=model prog w)
 have L1:=looks_findIn (M:=model prog w) X c.ga
 have L2:=looks_findIn (M:=model prog w) X c.gg
 have hx0:(expr&&onTheHeap (Value.builtin "BaseException.__getattribute__"))=false:=by cases expr <;> rfl
 have hx2:(Value.builtin "BaseException.__getattribute__" == Value.builtin "object.__getattribute__")=false:=by decide +kernel
 have hx1:(onTheHeap (Value.ref D)&&Value.builtin "BaseException.__getattribute__" == Value.builtin "object.__getattribute__")=false:=by rw[hx2];rfl
 obtain⟨hh,g,d,t,os⟩:=s
 unfold getAttrBy
 refine wpAny_holding (wpAny_bind (L0.at (wpAny_bind (L1.at ?_))))
 simp only[hx1]
 unfold getAttrByItsOwn hookBefore
 refine wpAny_bind ?_
 rw[if_pos (show onTheHeap (Value.ref D)=true from rfl)]
 refine L2.at ?_
 refine wpAny_bind (wpAny_attempt (wpAny_holding ?_))
 unfold callGetattribute
 rw[if_neg (by rw[hx0];decide)]
 unfold boundAndCalled
 rw[F.attr_ValueError.ga.bind]
 refine wpAny_bind (wpAny_pure ?_)
 refine wpAny_call (ga_call X I c (wpAny_mono h (fun fin s' z=>?_) fun _ _ z=>z.elim))
 rcases fin with (_ | _ | _ | _) | _ <;> first | exact z | exact z.elim
theorem exc_value {tk:Tok}{v:Value}{P:Value→Shared→Prop}{E':Value→Shared→Prop}(X:K.In s.heap) (I:InstAt s.heap x ox D odo) (hf:findObj K D odo name=some (.value v)) (h:P v s) :
   wpAny (model prog w) A (Builtin.«object.__getattribute__» ⟨[.ref x,.str name tk],[]⟩) (fun fin s'=>match fin with | .done (.ret v)=>P v s' | _=>False) E' s:=by
 obtain⟨hh',g,d,t,os⟩:=s
 have L0:=I.type (M:=model prog w)
 have L1:=looks_find (M:=model prog w) X I hf
 refine wpAny_bind (wpAny_pure (wpAny_bind (wpAny_pure (wpAny_bind (L0.at (wpAny_bind (L1.at ?_)))))))
 exact wpAny_pure h
theorem exc_bind {tk:Tok}{g a:Value}{P:Value→Shared→Prop}{E':Value→Shared→Prop}(X:K.In s.heap) (I:InstAt s.heap x ox D odo) (hf:findObj K D odo name=some (.bind g a)) (h:wpAny (model prog w) A (call g [a,.ref x,.ref D]) P E' s) :
   wpAny (model prog w) A (Builtin.«object.__getattribute__» ⟨[.ref x,.str name tk],[]⟩) (fun fin s'=>match fin with | .done (.ret v)=>P v s' | _=>False) E' s:=by
 obtain⟨hh',gg,d,t,os⟩:=s
 have L0:=I.type (M:=model prog w)
 have L1:=looks_find (M:=model prog w) X I hf
 refine wpAny_bind (wpAny_pure (wpAny_bind (wpAny_pure (wpAny_bind (L0.at (wpAny_bind (L1.at ?_)))))))
 show wpAny _ _ (holding [a] (call g [a,.ref x,.ref D]) >>= ret) _ _ _
 exact wpAny_bind (wpAny_holding (wpAny_mono h (fun v s' z=>wpAny_pure z) fun _ _ z=>z))
theorem get_excv {expr:Bool}{v:Value}{Q:Value→Shared→Prop}(X:K.In s.heap) (I:InstAt s.heap x ox D odo) (c:XKit K D) (hf:findObj K D odo name=some (.value v)) (hh:handedIn v=true) (h:Q v { s with toks:=s.toks+1 }) :
   wpAny (model prog w) A (getAttr (.ref x) name expr) Q E s:=by
 obtain⟨hp,g,d,t,os⟩:=s
 unfold getAttr
 refine wpAny_bind (wpAny_mkText (exc_by (s:=⟨hp,g,d,t+1,os⟩) X I c (exc_value (s:=⟨hp,g,d,t+1,os⟩) X I hf ?_)))
 rw[handedOut_of hh];exact wpAny_pure h
theorem findObj_dataO {a g:Value}(hc:(clsIn K C).isSome=true) (ha:findIn K (.ref C) name=some (some a)) (hg:specialIn K a "__get__"=some (some g)) (ht:takesIn K a=some true):findObj K C odo name=some (.bind g a):=by
 obtain⟨cd,hc⟩:=Option.isSome_iff_exists.mp hc
 unfold findObj
 rw[hc,Option.bind_some,ha,Option.bind_some]
 simp[hg,ht]
theorem kitx_exc (c:XKit K D):KitX K (.ref x) (.ref D) (fun h=>∃ox od,InstAt h x ox D od) where
 ty:=fun _ _ _ ⟨_,_,I⟩=>I.type
 it:=fun _ _ X _=>by
   obtain⟨cdD,hcD,_⟩:=any_some c.hd
   unfold clsIn at hcD
   split at hcD
   · rename_i c' d' cd' sl' ho
     intro A' Q' E' s' k q
     unfold isType loadHead
     exact wpAny_bind (wpAny_loadPart (k _ _ (X _ _ ho)) (wpAny_pure q))
   · cases hcD
 ne:=fun h tp dd its n sl X htp=>by
   obtain⟨cdD,hcD,_⟩:=any_some c.hd
   refine Bool.eq_false_iff.mpr fun q=>?_
   have e:D=tp:=Value.ref.inj (beq_iff_eq.mp q)
   subst e
   unfold clsIn at hcD
   split at hcD
   · rename_i c' d' cd' sl' ho
     have z:=(X _ _ ho).symm.trans htp
     cases z
   · cases hcD
 ca:=fun {prog w A E Q s} X ⟨ox,od,I⟩ k=>by
   have hf:findObj K D od "__class__"=some (.bind (.builtin "getset_descriptor.__get__") (.builtin "object.__class__")):=findObj_dataO (by obtain⟨cd,hc,_⟩:=any_some c.hd;rw[hc];rfl) c.ca c.gt c.tk
   obtain⟨hp,g,dr,t,os⟩:=s
   unfold getAttr? getAttrBy?
   refine wpAny_bind (wpAny_mkText (wpAny_bind (wpAny_attempt ?_)))
   refine exc_by (s:=⟨hp,g,dr,t+1,os⟩) X I c (exc_bind (s:=⟨hp,g,dr,t+1,os⟩) X I hf ?_)
   exact wpAny_call (class_get (s:=⟨hp,g,dr,t+1,os⟩) (ox:=ox) (od:=od) X I c.ob (handed_on rfl (wpAny_pure k)))
end
section
variable {X:Cx}{pins:List (Addr×Obj)}{σ:St}{H:Hp}{s:Shared}{a C:Addr}{dd:Option Addr}
def DdOk (H:Hp):Option Addr→Prop
 | none=>True
 | some d=>∃fs,H d=some (.xd fs)
theorem exc_inst (I:Inv X pins σ H s) (e:H a=some (DL.exK a C dd)) (hd:DdOk H dd):∃ox od,PySem.W.InstAt s.heap a ox C od∧ox.dict=dd:=by
 obtain⟨o,vs,ho,hc,hdd,hdt⟩:=(I.hok a _ e).1
 have no:PySem.W.notCls o=true:=by unfold PySem.W.notCls;rw[hdt]
 cases dd with
 | none=>exact⟨o,none,⟨ho,hc,no,by rw[hdd];trivial⟩,hdd⟩
 | some d=>
   obtain⟨fs,q⟩:=hd
   obtain⟨mA,⟨od,_,_,hod,_⟩,_⟩:=I.hok d _ q
   exact⟨o,some od,⟨ho,hc,no,by rw[hdd];exact hod⟩,hdd⟩
def rIsiX (K:Frg):List V→Hp→VK→Prop:=fun xs H Q=>∃(a C:Addr) (dd:Option Addr) (c:V) (u:Value) (b:Bool),xs=[.ref a,c]∧H a=some (DL.exK a C dd)∧DdOk H dd∧XKit K C∧(∀u',RelV c u'→u'=u)∧PySem.W.kitOne K (.ref C) u=some b∧Q (.bl b) H
theorem call_isiX:CallR X (.builtin "isinstance") (rIsiX X.K):=by
 intro pins s σ H vs us Q I r h
 obtain⟨a,C,dd,c,u,b,rfl,e,hd,k,hu,hb,q⟩:=h
 obtain⟨ua,uc,rfl,ra,rc⟩:∃ua uc,us=[ua,uc]∧RelV (.ref a) ua∧RelV c uc:=by
   cases r with | cons r1 r2=>cases r2 with | cons r3 r4=>cases r4;exact⟨_,_,rfl,r1,r3⟩
 cases (show ua=Value.ref a from ra)
 cases hu _ rc
 obtain⟨ox,od,J,_⟩:=exc_inst I e hd
 exact PySem.W.kia_one (kitx_exc k) I.kIn ⟨ox,od,J⟩ hb (fun z=>nomatch z) fun tk=>⟨.bl b,H,I.tok _,rfl,q⟩
end
end XC
namespace XC
open PySem PySem.Spec L2
section
variable {X:Cx}{pins:List (Addr×Obj)}{σ:St}{H:Hp}{s:Shared}{a C d:Addr}
theorem exc_get {fs:List (Str×V)}{f:Str}{v:V}{A:Around}{E:Value→Shared→Prop}{b:Bool}{Q:Value→Shared→Prop}(I:Inv X pins σ H s) (e:H a=some (DL.exK a C (some d))) (hd:H d=some (.xd fs)) (k:XKit X.K C) (n:NoAttr X.K C f) (l:fs.lookup f=some v)
   (h:∀u s',Inv X pins σ H s'→RelV v u→Q u s'):wpAny (model X.prog X.w) A (getAttr (.ref a) f b) Q E s:=by
 obtain⟨o,vs,ho,hc,hdd,hdt⟩:=(I.hok a _ e).1
 have no:PySem.W.notCls o=true:=by unfold PySem.W.notCls;rw[hdt]
 obtain⟨mA,ns,hr⟩:=I.hok d _ hd
 obtain⟨od,hod,hl⟩:=lookIn_ns ns
 have J:PySem.W.InstAt s.heap a o C (some od):=⟨ho,hc,no,by rw[hdd];exact hod⟩
 obtain⟨u,hu,ru⟩:=RelO.some_of (v:=v) (o:=mA f) (by rw[← l];exact hr f)
 exact get_excv I.kIn J k (PySem.W.findObj_own k.hd n rfl (by rw[hl,hu])) (handed_of ru) (h u _ (I.tok _) ru)
def tFldX (K:Frg) (ta:TE) (f:Str):TE:=fun σ H Q=>ta σ H fun x H1=>∃a C d fs v,x = .ref a∧H1 a=some (DL.exK a C (some d))∧H1 d=some (.xd fs)∧XKit K C∧NoAttr K C f∧fs.lookup f=some v∧Q v H1
theorem pe_fldX {e:Expr}{f:Str}{pos:Pos}{ta:TE}(he:PE X e ta) (hb:attributeBase e f X.env (eval e X.env)=eval e X.env):PE X (.Attribute e f pos) (tFldX X.K ta f):=by
 intro pins s σ H Q I h
 refine attr_of hb (thn (he pins s σ H _ I h) fun u s1 ⟨x,H1,I1,rx,a,C,d,fs,v,ex,ea,ed,k,n,l,q⟩=>?_)
 subst ex
 obtain rfl:u=Value.ref a:=rx
 exact exc_get I1 ea ed k n l fun u' s2 I2 ru=>⟨v,H1,I2,ru,q⟩
end
end XC
namespace DL
open PySem PySem.Spec L2 XC
section
variable {K:Frg}{ρ:List (Option DS)}{M:Own}{H:Hp}{Q:DS→Own→Prop}{ta:TE}
theorem XI.dd {W:Addr→Prop}{dd:Option Addr}{fs:List (Str×PyData)}(h:XI K H W dd fs):DdOk H dd:=by
 unfold XI at h
 split at h
 · trivial
 · obtain⟨v,_,q,_⟩:=h;exact⟨_,q⟩
 · exact h.elim
theorem rd_isiX {a C C':Addr}{fs:List (Str×PyData)}{b:Bool}(m:M a=some (.x C fs)) (k:XKit K C) (hb:PySem.W.kitOne K (.ref C) (.ref C')=some b) (q:Q (.d (.bool b)) M):DR K (rIsiX K) [.loc a,.loc C'] M Q:=fun H vs QQ oa s kk=>by
 obtain⟨v,r,rfl,h1,v2,r2,rfl,h2,h3⟩:=s
 cases h3
 unfold SI at h1 h2
 subst h1 h2
 obtain⟨dd,e,xi⟩:=oa a _ m
 exact⟨a,C,dd,.ref C',.ref C',b,rfl,e,xi.dd,k,(fun u' z=>z),hb,kk _ _ (.d (.bool b)) M oa (by unfold SI DV;rfl) Step.refl q⟩
theorem rd_isiXT {a C:Addr}{T:String}{fs:List (Str×PyData)}{b:Bool}(m:M a=some (.x C fs)) (k:XKit K C) (hb:PySem.W.kitOne K (.ref C) (.type T)=some b) (q:Q (.d (.bool b)) M):DR K (rIsiX K) [.loc a,.ty T] M Q:=fun H vs QQ oa s kk=>by
 obtain⟨v,r,rfl,h1,v2,r2,rfl,h2,h3⟩:=s
 cases h3
 unfold SI at h1 h2
 subst h1 h2
 obtain⟨dd,e,xi⟩:=oa a _ m
 exact⟨a,C,dd,.ty T,.type T,b,rfl,e,xi.dd,k,(fun u' z=>z),hb,kk _ _ (.d (.bool b)) M oa (by unfold SI DV;rfl) Step.refl q⟩
theorem de_fldX {f:Str}(h:DE K ta ρ M fun x M1=>∃(a C:Addr) (d:PyData),x = .loc a∧M1 a=some (.x C [(f,d)])∧XKit K C∧NoAttr K C f∧Q (.d d) M1):DE K (tFldX K ta f) ρ M Q:=fun σ H QQ R kk=>
 h σ H _ R fun v H1 x M1 o1 s1 t1 h1=>by
   obtain⟨a,C,d,rfl,m,k,n,q⟩:=h1
   unfold SI at s1
   subst s1
   obtain⟨dd,e,xi⟩:=o1 a _ m
   cases dd with
   | none=>exact xi.elim
   | some p=>
     obtain⟨u,nw,e2,dv⟩:=xi
     exact⟨a,C,p,_,u,rfl,e,e2,k,n,by simp[List.lookup],kk _ _ (.d d) M1 o1 dv t1 q⟩
theorem kIsiX {X:Cx}{K:Frg}(h:X.K=K):CallR X (.builtin "isinstance") (rIsiX K):=h▸call_isiX
theorem kFldX {X:Cx}{K:Frg}{e:Expr}{f:Str}{pos:Pos}{ta:TE}(h:X.K=K) (he:PE X e ta) (hb:attributeBase e f X.env (eval e X.env)=eval e X.env):PE X (.Attribute e f pos) (tFldX K ta f):=h▸pe_fldX he hb
end
end DL
namespace L2
open PySem PySem.Spec PyProof.Rows
section
variable {X:Cx}
def rInD (K:Frg) (neg:Bool):R2:=fun x y H Q=>∃(W:Addr→Prop) (d:PyData) (ds:List PyData),DV K H W d x∧PySem.SeqAt.shaped d=true∧((DV K H W (.list ds) y∧PySem.SeqAt.shaped (.list ds)=true)∨(DV K H W (.tuple ds) y∧PySem.SeqAt.shaped (.tuple ds)=true)) ∧
 Q (.bl (if neg then !(ds.any fun e=>PyData.eqv e d) else ds.any fun e=>PyData.eqv e d)) H
theorem dep_in {A:Around}{d:PyData}{ds:List PyData}(hu:A.units+64 < cLine) (h:PyData.depthAll ds+1≤64):A.units+1+min (PyData.depthAll ds) d.depth < cLine:=by
 have:=Nat.min_le_left (PyData.depthAll ds) d.depth
 omega
theorem op_inD (hu:X.A.units+64 < cLine):OpR X (compareOp .In) (rInD X.K false):=by
 intro pins s σ H x y v u Q I rx ry h
 obtain⟨W,d,ds,h1,s1,⟨h2,s2⟩ | ⟨h2,s2⟩,q⟩:=h
 all_goals
   obtain⟨as,r1⟩:=h1.reads I (PySem.SeqAt.canLay_of_shaped s1) rx
   obtain⟨bs,r2⟩:=h2.reads I (PySem.SeqAt.canLay_of_shaped s2) ry
   have dep:=PySem.SeqAt.depth_of_shaped s2
 · exact PySem.SeqAt.in_list_reads r2 r1 (PySem.SeqAt.canLay_of_shaped s2) (PySem.SeqAt.canLay_of_shaped s1) (dep_in hu dep) ⟨.bl _,H,I,rfl,q⟩
 · exact PySem.SeqAt.in_tuple_reads r2 r1 (PySem.SeqAt.canLay_of_shaped s2) (PySem.SeqAt.canLay_of_shaped s1) (dep_in hu dep) ⟨.bl _,H,I,rfl,q⟩
end
end L2
namespace DL
open PySem PySem.Spec L2
section
variable {X:Cx}{K:Frg}
theorem kInD (h:X.K=K) (hu:X.A.units+64 < cLine):OpR X (compareOp .In) (rInD K false):=h▸op_inD hu
end
section
variable {K:Frg}{M:Own}{ρ:List (Option DS)}{g:TG}{wi:TI}{Q:DS→Own→Prop}
theorem d2_inD {neg:Bool}{d:PyData}{ds:List PyData}(s1:PySem.SeqAt.shaped d=true) (s2:PySem.SeqAt.shaped (.list ds)=true) (q:Q (.d (.bool (if neg then !(ds.any fun e=>PyData.eqv e d) else ds.any fun e=>PyData.eqv e d))) M):D2 K (rInD K neg) (.d d) (.d (.list ds)) M Q:=fun H v u QQ oa h1 h2 k=>
 ⟨M.W,d,ds,h1,s1,.inl ⟨h2,s2⟩,k _ H _ M oa si_of_bl Step.refl q⟩
end
end DL
namespace DL
open PySem PySem.Spec L2
theorem row_digs (m:Nat):rowL (digs m)=true:=by
 obtain⟨d1,d2,_⟩:=digs_all m
 unfold rowL
 rw[show(digs m).isEmpty=false by simpa using d2,Bool.and_eq_true]
 exact⟨rfl,List.all_eq_true.mpr fun c hc=>figB_iff.mpr (d1 c hc)⟩
theorem digs_zero:digs 0=[48]:=digs_lt (by decide)
theorem rw_dec {n:Int}(hb:big n):rwL (decS n).cps.toList=some n:=by
 obtain⟨m,hm,hc⟩:=dec_cases n hb
 obtain⟨d1,d2,d3,d4,d5⟩:=digs_all m
 rcases hc with ⟨h0,hn,e⟩ | ⟨h0,hn,hm0,e⟩
 · rw[e]
   have hh:¬(digs m).head?=some 45:=fun h=>by
     have:=d1 45 (List.mem_of_mem_head? h)
     omega
   have hf:figsL (digs m)=digs m:=by unfold figsL;rw[if_neg hh]
   unfold rwL
   rw[hf,row_digs,if_neg hh,d3,if_pos,hn]
   by_cases h48:(digs m).head?=some 48
   · have:m=0:=by
       cases hd:digs m with
       | nil=>exact absurd hd d2
       | cons y ys=>
         rw[hd] at h48
         have:y=48:=by simpa using h48
         subst this
         exact d4 ys hd
     subst this
     rw[digs_zero];rfl
   · rw[decide_eq_false h48];rfl
 · rw[e]
   have hh:(45::digs m).head?=some 45:=rfl
   have hf:figsL (45::digs m)=digs m:=by unfold figsL;rw[if_pos hh];rfl
   have h48:¬(digs m).head?=some 48:=fun h=>by
     cases hd:digs m with
     | nil=>exact absurd hd d2
     | cons y ys=>
       rw[hd] at h
       have:y=48:=by simpa using h
       subst this
       have:=d4 ys hd
       omega
   unfold rwL
   rw[hf,row_digs,if_pos hh,d3,decide_eq_false h48,hn];rfl
example:(placeD (rwD (.str (Txt.partition (Str.ofString "01:1") (Str.ofString ":")).1))&&wholeD (rwD (.str (Txt.partition (Str.ofString "01:1") (Str.ofString ":")).2.2)))=false:=by decide +kernel
example:(placeD (rwD (.str (Txt.partition (Str.ofString "1:1.0") (Str.ofString ":")).1))&&wholeD (rwD (.str (Txt.partition (Str.ofString "1:1.0") (Str.ofString ":")).2.2)))=false:=by decide +kernel
end DL
namespace DL
open PySem PySem.Spec L2
inductive Deed where
 | put (x:Str) (p k:Int) | take (x:Str) | move (x:Str) (p:Int) | count (x:Str) (k:Int) | name (x y:Str) | split (x y:Str) (p k:Int) | join (x y:Str)
def Deed.d:Deed→PyData
 | .put x p k=>.tuple [.str (Str.ofString "put"),.str x,.int p,.int k]
 | .take x=>.tuple [.str (Str.ofString "take"),.str x]
 | .move x p=>.tuple [.str (Str.ofString "move"),.str x,.int p]
 | .count x k=>.tuple [.str (Str.ofString "count"),.str x,.int k]
 | .name x y=>.tuple [.str (Str.ofString "name"),.str x,.str y]
 | .split x y p k=>.tuple [.str (Str.ofString "split"),.str x,.str y,.int p,.int k]
 | .join x y=>.tuple [.str (Str.ofString "join"),.str x,.str y]
def Deed.names:Deed→List Str
 | .put x _ _=>[x] | .take x=>[x] | .move x _=>[x] | .count x _=>[x] | .name x y=>[x,y] | .split x y _ _=>[x,y] | .join x y=>[x,y]
def Deed.ok (D:Deed):Prop:=∀x∈D.names,nameZ x
def FORMS:List (Str×Str):=[("put", "npk"),("take", "n"),("move", "np"),("count", "nk"),("name", "nn"),("split", "nnpk"),("join", "nn")]
def formD:PyData→PyData | .str z=>optD (FORMS.lookup z) | _=>.none
def twoW (z:Str):Bool:=z == "name" || z == "split" || z == "join"
def namesD:PyData→PyData | .tuple (.str w::r)=>.tuple (r.take (if twoW w then 2 else 1)) | d=>d
theorem forms_at {w f:Str}(h:FORMS.lookup w=some f):(w = "put" ∧ f = "npk")∨(w = "take" ∧ f = "n")∨(w = "move" ∧ f = "np")∨(w = "count" ∧ f = "nk")∨(w = "name" ∧ f = "nn")∨(w = "split" ∧ f = "nnpk")∨(w = "join" ∧ f = "nn"):=by
 unfold FORMS at h
 simp only[List.lookup_cons,List.lookup_nil] at h
 split at h
 · rename_i e;exact .inl ⟨eq_of_beq e,by injection h with h;exact h.symm⟩
 split at h
 · rename_i e;exact .inr (.inl ⟨eq_of_beq e,by injection h with h;exact h.symm⟩)
 split at h
 · rename_i e;exact .inr (.inr (.inl ⟨eq_of_beq e,by injection h with h;exact h.symm⟩))
 split at h
 · rename_i e;exact .inr (.inr (.inr (.inl ⟨eq_of_beq e,by injection h with h;exact h.symm⟩)))
 split at h
 · rename_i e;exact .inr (.inr (.inr (.inr (.inl ⟨eq_of_beq e,by injection h with h;exact h.symm⟩))))
 split at h
 · rename_i e;exact .inr (.inr (.inr (.inr (.inr (.inl ⟨eq_of_beq e,by injection h with h;exact h.symm⟩)))))
 split at h
 · rename_i e;exact .inr (.inr (.inr (.inr (.inr (.inr ⟨eq_of_beq e,by injection h with h;exact h.symm⟩)))))
 cases h
theorem form_facts {w f:Str}(h:FORMS.lookup w=some f):f.cps.all (· < 128)=true∧f.cps.size≤4∧Txt.startswith f (Str.ofString "nn")=twoW w∧(twoW w=true→2≤f.cps.size∧f.cps[0]?=some 110∧f.cps[1]?=some 110)∧1≤f.cps.size:=by
 rcases forms_at h with ⟨rfl,rfl⟩ | ⟨rfl,rfl⟩ | ⟨rfl,rfl⟩ | ⟨rfl,rfl⟩ | ⟨rfl,rfl⟩ | ⟨rfl,rfl⟩ | ⟨rfl,rfl⟩ <;> decide +kernel
def wordOk (d:PyData):Prop:=∃w f r,d = .tuple (.str w::r)∧FORMS.lookup w=some f
def S_form_of:FSp:=fn1 (fun _=>True) formD
def S_names_in:FSp:=fn1 wordOk namesD
def pack1 (o:MO):Prop:=∃a v:Int,o = .l [.int a,.int v]
def S__law_pack:FSp:=⟨fun xs M=>∃c:Int,xs=[.d (.int c)],fun xs M y M'=>∃p o,M p=none∧pack1 o∧y = .loc p∧M'=M.put p o⟩
def S__law_take:FSp:=⟨fun xs M=>∃p size o,xs=[.loc p,.d (.int size)]∧M p=some o∧pack1 o∧0 < size∧size < 1073741824,
 fun xs M y M'=>∀p size,xs=[.loc p,.d (.int size)]→∃v o,y = .d (.int v)∧0≤v∧v < size∧pack1 o∧M'=M.put p o⟩
theorem take_call {p:Addr}{size:Int}{o:MO}{M:Own}{Q:DS→Own→Prop}(m:M p=some o) (ho:pack1 o) (h0:0 < size) (h1:size < 1073741824) (q:∀v o',0≤v→v < size→pack1 o'→Q (.d (.int v)) (M.put p o')) :
   [DS.loc p,.d (.int size)].length=2∧S__law_take.pre [.loc p,.d (.int size)] M∧∀x M',S__law_take.post [.loc p,.d (.int size)] M x M'→Q x M':=
 ⟨rfl,⟨p,size,o,rfl,m,ho,h0,h1⟩,fun x M' h=>by obtain⟨v,o',rfl,h2,h3,h4,rfl⟩:=h p size rfl;exact q v o' h2 h3 h4⟩
def badW:List Str:=["take", "name", "join"]
theorem bad_lists {z:Str}(h:z∈badW):z.cps.toList=[116,97,107,101]∨z.cps.toList=[110,97,109,101]∨z.cps.toList=[106,111,105,110]:=by
 simp only[badW,List.mem_cons,List.not_mem_nil,or_false] at h
 rcases h with rfl | rfl | rfl
 · exact .inl (by decide +kernel)
 · exact .inr (.inl (by decide +kernel))
 · exact .inr (.inr (by decide +kernel))
def nxL (a:Nat):Nat:=if a=122 then 97 else a+1
def Run (l:List Nat):Prop:=∀i a b,l[i]?=some a→l[i+1]?=some b→b=nxL a
theorem Run.drop {l:List Nat}(h:Run l) (n:Nat):Run (l.drop n):=fun i a b h1 h2=>by
 rw[List.getElem?_drop] at h1 h2
 exact h (n+i) a b h1 (by rw[← Nat.add_assoc] at h2;exact h2)
theorem Run.take {l:List Nat}(h:Run l) (n:Nat):Run (l.take n):=fun i a b h1 h2=>by
 rw[List.getElem?_take] at h1 h2
 split at h1
 · split at h2
   · exact h i a b h1 h2
   · cases h2
 · cases h1
theorem rep_bad {z:Str}{n c:Nat}(h:z.cps.toList=List.replicate n c):z∉badW:=fun hb=>by
 have key:∀a∈z.cps.toList,a=c:=fun a ha=>by rw[h] at ha;exact List.eq_of_mem_replicate ha
 rcases bad_lists hb with e | e | e
 · rw[e] at key
   have h1:=key 116 (by simp);have h2:=key 97 (by simp);omega
 · rw[e] at key
   have h1:=key 110 (by simp);have h2:=key 97 (by simp);omega
 · rw[e] at key
   have h1:=key 106 (by simp);have h2:=key 111 (by simp);omega
theorem pre_bad {z:Str}{c:Nat}{m:List Nat}(h:z.cps.toList=c::m) (hr:Run m):z∉badW:=fun hb=>by
 rcases bad_lists hb with e | e | e
 · rw[e] at h;injection h with _ h;subst h
   exact absurd (hr 0 97 107 rfl rfl) (by decide)
 · rw[e] at h;injection h with _ h;subst h
   exact absurd (hr 0 97 109 rfl rfl) (by decide)
 · rw[e] at h;injection h with _ h;subst h
   exact absurd (hr 0 111 105 rfl rfl) (by decide)
theorem suf_bad {z:Str}{c:Nat}{m:List Nat}(h:z.cps.toList=m++[c]) (hr:Run m):z∉badW:=fun hb=>by
 have hm:m=z.cps.toList.dropLast:=by rw[h];simp
 rcases bad_lists hb with e | e | e
 · rw[e] at hm;subst hm
   exact absurd (hr 0 116 97 rfl rfl) (by decide)
 · rw[e] at hm;subst hm
   exact absurd (hr 0 110 97 rfl rfl) (by decide)
 · rw[e] at hm;subst hm
   exact absurd (hr 0 106 111 rfl rfl) (by decide)
def runB (l:List Nat):Bool:=(List.range l.length).all fun i=>match l[i]?,l[i+1]? with | some a,some b=>b==nxL a | _,_=>true
theorem run_of {l:List Nat}(h:runB l=true):Run l:=fun i a b h1 h2=>by
 have hi:i < l.length:=(List.getElem?_eq_some_iff.mp h1).1
 have:=List.all_eq_true.mp h i (List.mem_range.mpr hi)
 rw[h1,h2] at this
 exact eq_of_beq this
theorem rot_runB:∀t,t < 26→runB ((Str.ofString "abcdefghijklmnopqrstuvwxyz").cps.toList.drop t++(Str.ofString "abcdefghijklmnopqrstuvwxyz").cps.toList.take t)=true:=by decide +kernel
def S__law_names:FSp:=⟨fun xs M=>∃p n o,xs=[.loc p,.d (.int n)]∧M p=some o∧pack1 o∧0≤n∧n≤26,
 fun xs M y M'=>∀p n,xs=[.loc p,.d (.int n)]→∃(ys:List Str) (o:MO),y = .d (.list (ys.map .str))∧(ys.length:Int)=n∧(∀z∈ys,nameZ z)∧(∀z∈ys,z∉badW)∧ys.Nodup∧pack1 o∧M'=M.put p o⟩
theorem names_call {p:Addr}{n:Int}{o:MO}{M:Own}{Q:DS→Own→Prop}(m:M p=some o) (ho:pack1 o) (h0:0≤n) (h1:n≤26) (q:∀(ys:List Str) o',(ys.length:Int)=n→(∀z∈ys,nameZ z)→(∀z∈ys,z∉badW)→ys.Nodup→pack1 o'→Q (.d (.list (ys.map .str))) (M.put p o')) :
   [DS.loc p,.d (.int n)].length=2∧S__law_names.pre [.loc p,.d (.int n)] M∧∀x M',S__law_names.post [.loc p,.d (.int n)] M x M'→Q x M':=
 ⟨rfl,⟨p,n,o,rfl,m,ho,h0,h1⟩,fun x M' h=>by obtain⟨v,o',rfl,h2,h3,h4,h5,h6,rfl⟩:=h p n rfl;exact q v o' h2 h3 h4 h5 h6⟩
theorem pack_call {c:Int}{M:Own}{Q:DS→Own→Prop}(q:∀p o,M p=none→pack1 o→Q (.loc p) (M.put p o)):[DS.d (.int c)].length=1∧S__law_pack.pre [.d (.int c)] M∧∀x M',S__law_pack.post [.d (.int c)] M x M'→Q x M':=
 ⟨rfl,⟨c,rfl⟩,fun x M' h=>by obtain⟨p,o,h1,h2,rfl,rfl⟩:=h;exact q p o h1 h2⟩
theorem shaped_str {z:Str}(h:nameZ z):PySem.SeqAt.shaped (.str z)=true:=shaped_of (strOk_name h) (by simp[PyData.depth])
end DL
namespace DL
open PySem PySem.Spec L2
def Deed.word:Deed→Str
 | .put .. => "put" | .take .. => "take" | .move .. => "move" | .count .. => "count" | .name .. => "name" | .split .. => "split" | .join .. => "join"
def Deed.fst:Deed→Str
 | .put x _ _=>x | .take x=>x | .move x _=>x | .count x _=>x | .name x _=>x | .split x _ _ _=>x | .join x _=>x
def Deed.rest:Deed→List PyData
 | .put _ p k=>[.int p,.int k] | .take _=>[] | .move _ p=>[.int p] | .count _ k=>[.int k] | .name _ y=>[.str y] | .split _ y p k=>[.str y,.int p,.int k] | .join _ y=>[.str y]
def Deed.form:Deed→Str
 | .put .. => "npk" | .take .. => "n" | .move .. => "np" | .count .. => "nk" | .name .. => "nn" | .split .. => "nnpk" | .join .. => "nn"
theorem Deed.d_eq (D:Deed):D.d = .tuple (.str D.word::.str D.fst::D.rest):=by cases D <;> rfl
theorem Deed.fst_ok {D:Deed}(h:D.ok):nameZ D.fst:=by cases D <;> exact h _ List.mem_cons_self
theorem eqv_str (a b:Str):PyData.eqv (.str a) (.str b)=(a==b):=by simp[PyData.eqv]
theorem atI_str {ys:List Str}{v:Int}(h0:0≤v) (h1:v < ys.length):∃y,atI (ys.map PyData.str) v=some (.str y)∧y∈ys:=by
 obtain⟨n,rfl⟩:∃n:Nat,v=(n:Int):=⟨v.toNat,by omega⟩
 have hn:n < ys.length:=by omega
 exact⟨ys[n],atI_nat (by rw[List.getElem?_map,List.getElem?_eq_getElem hn];rfl),List.getElem_mem hn⟩
end DL
namespace DL
open PySem PySem.Spec L2
def nmA (R:Str):PyData→PyData
 | .int i=>match atI R.cps.toList (i/8) with | some c=>.str (repS ⟨#[c]⟩ (1+i % 8)) | none=>.none
 | d=>d
def nmB (R t:Str):PyData→PyData
 | .int i=>match atI R.cps.toList i with | some c=>.str (⟨#[c]⟩++t) | none=>.none
 | d=>d
def nmC (R t:Str):PyData→PyData
 | .int i=>match atI R.cps.toList i with | some c=>.str (t++⟨#[c]⟩) | none=>.none
 | d=>d
theorem nmA_at {R:Str}{i:Int}{c:Nat}(h:atI R.cps.toList (i/8)=some c):nmA R (.int i) = .str (repS ⟨#[c]⟩ (1+i % 8)):=by simp only[nmA,h]
theorem nmB_at {R t:Str}{i:Int}{c:Nat}(h:atI R.cps.toList i=some c):nmB R t (.int i) = .str (⟨#[c]⟩++t):=by simp only[nmB,h]
theorem nmC_at {R t:Str}{i:Int}{c:Nat}(h:atI R.cps.toList i=some c):nmC R t (.int i) = .str (t++⟨#[c]⟩):=by simp only[nmC,h]
end DL
namespace DL
open PySem PySem.Spec L2
def S_law:FSp:=⟨fun xs M=>∃ns:List Int,xs=[.d (.list (ns.map .int))]∧ns.length≤63∧∀i∈ns,Builtin.Int.intBits i≤2 ^ 20,fun xs M y M'=>y = .d (.bool true)⟩
end DL
namespace DL
open PySem PySem.Spec L2
theorem nodup_at {R:List Nat}(h:R.Nodup) {i j:Nat}{c:Nat}(h1:atI R (i:Int)=some c) (h2:atI R (j:Int)=some c) (hi:i < R.length) (hj:j < R.length):i=j:=by
 have e1:atI R (i:Int)=some R[i]:=atI_nat (List.getElem?_eq_getElem hi)
 have e2:atI R (j:Int)=some R[j]:=atI_nat (List.getElem?_eq_getElem hj)
 rw[e1] at h1
 rw[e2] at h2
 have:R[i]=R[j]:=by rw[Option.some.inj h1,Option.some.inj h2]
 exact(List.getElem_inj h).mp this
theorem nodup_range {N:Nat}{f:Nat→Str}(h:∀i j,i < N→j < N→f i=f j→i=j):((List.range N).map f).Nodup:=by
 unfold List.Nodup
 rw[List.pairwise_map]
 exact(List.nodup_range (n:=N)).imp_of_mem fun {a b} ha hb hab e=>hab (h a b (List.mem_range.mp ha) (List.mem_range.mp hb) e)
theorem rot_nodup (t:Nat):((Str.ofString "abcdefghijklmnopqrstuvwxyz").cps.toList.drop t++(Str.ofString "abcdefghijklmnopqrstuvwxyz").cps.toList.take t).Nodup:=by
 have h:((Str.ofString "abcdefghijklmnopqrstuvwxyz").cps.toList.drop t++(Str.ofString "abcdefghijklmnopqrstuvwxyz").cps.toList.take t).Perm (Str.ofString "abcdefghijklmnopqrstuvwxyz").cps.toList:=by
   refine List.perm_append_comm.trans ?_
   rw[List.take_append_drop]
 exact h.nodup_iff.mpr lets_nodup
theorem app1_inj {c d:Nat}{t:Str}(h:(⟨#[c]⟩:Str)++t=⟨#[d]⟩++t):c=d:=by
 have:=congrArg (fun s:Str=>s.cps.toList) h
 simp only[append_toList] at this
 have:=List.append_cancel_right this
 simpa using this
theorem app2_inj {c d:Nat}{t:Str}(h:t++(⟨#[c]⟩:Str)=t++⟨#[d]⟩):c=d:=by
 have:=congrArg (fun s:Str=>s.cps.toList) h
 simp only[append_toList] at this
 have:=List.append_cancel_left this
 simpa using this
theorem rep_inj {c d:Nat}{m n:Int}(hm:1≤m) (hn:1≤n) (h:repS ⟨#[c]⟩ m=repS ⟨#[d]⟩ n):c=d∧m=n:=by
 have:=congrArg (fun s:Str=>s.cps.toList) h
 simp only[rep_one hm,rep_one hn] at this
 have hl:=congrArg List.length this
 rw[List.length_replicate,List.length_replicate] at hl
 have hmn:m=n:=by omega
 refine⟨?_,hmn⟩
 subst hmn
 have hc:c∈List.replicate m.toNat d:=by rw[← this];exact List.mem_replicate.mpr ⟨by omega,rfl⟩
 exact List.eq_of_mem_replicate hc
end DL
namespace DL
open PySem PySem.Spec L2
def fitsB:PyData→PyData→Bool
 | .str s,p=>if s == "n" then nameD p else if s == "p" then placeD p else wholeD p
 | _,p=>wholeD p
def S_fits:FSp:=fn2 (fun a b=>∃c:Nat,a = .str ⟨#[c]⟩∧c < 128∧okD b) fun a b=>.bool (fitsB a b)
def fitsAll (f:Str) (r:List PyData):Bool:=((signs f).zip r).all fun p=>fitsB p.1 p.2
def isDeedL:List PyData→Bool
 | .str w::r=>match FORMS.lookup w with
   | some f=>(r.length==f.cps.size)&&fitsAll f r&&(!twoW w||!PyData.eqv (r.getD 0 .none) (r.getD 1 .none))
   | none=>false
 | _=>false
def isDeedB:PyData→Bool | .tuple ds=>isDeedL ds | _=>false
def okP:PyData→Prop | .tuple ds=>ds.length≤5000∧∀d∈ds,okD d | _=>True
def S_is_deed:FSp:=fn1 okP fun d=>.bool (isDeedB d)
def fitP:PyData→PyData | .tuple [a,b]=>.bool (fitsB a b) | d=>d
theorem zip_fitP (f:Str) (r:List PyData):((zipD (signs f) r).filter fun _=>true).map fitP=(((signs f).zip r).map fun p=>fitsB p.1 p.2).map .bool:=by
 rw[flt]
 unfold zipD
 rw[List.map_map,List.map_map];rfl
theorem fits_two {f:Str}{a b:PyData}{r:List PyData}(h0:f.cps[0]?=some 110) (h1:f.cps[1]?=some 110) (h:fitsAll f (a::b::r)=true):nameD a=true∧nameD b=true:=by
 unfold fitsAll at h
 rw[List.all_eq_true] at h
 have e0:((signs f).zip (a::b::r))[0]?=some (.str ⟨#[110]⟩,a):=by
   rw[List.getElem?_zip_eq_some]
   exact⟨by unfold signs;rw[List.getElem?_map];simp[h0],rfl⟩
 have e1:((signs f).zip (a::b::r))[1]?=some (.str ⟨#[110]⟩,b):=by
   rw[List.getElem?_zip_eq_some]
   exact⟨by unfold signs;rw[List.getElem?_map];simp[h1],rfl⟩
 have q:∀d,fitsB (.str ⟨#[110]⟩) d=nameD d:=fun d=>rfl
 exact⟨by rw[← q];exact h _ (List.mem_of_getElem? e0),by rw[← q];exact h _ (List.mem_of_getElem? e1)⟩
end DL
namespace DL
open PySem PySem.Spec L2
def Deed.apart:Deed→Prop | .name x y=>x≠y | .split x y _ _=>x≠y | .join x y=>x≠y | _=>True
def Deed.placed:Deed→Prop | .put _ p _=>0≤p∧p≤999 | .move _ p=>0≤p∧p≤999 | .split _ _ p _=>0≤p∧p≤999 | _=>True
def Deed.real (D:Deed):Prop:=D.ok∧D.apart∧D.placed
end DL
namespace DL
open PySem PySem.Spec L2
def wT (s:String):PyData:=.str (Str.ofString s)
theorem rl_put (a b c:PyData):isDeedL [wT "put", a,b,c]=(nameD a&&(placeD b&&(wholeD c&&true))&&true):=rfl
theorem rl_take (a:PyData):isDeedL [wT "take", a]=(nameD a&&true&&true):=rfl
theorem rl_move (a b:PyData):isDeedL [wT "move", a,b]=(nameD a&&(placeD b&&true)&&true):=rfl
theorem rl_count (a b:PyData):isDeedL [wT "count", a,b]=(nameD a&&(wholeD b&&true)&&true):=rfl
theorem rl_name (a b:PyData):isDeedL [wT "name", a,b]=(nameD a&&(nameD b&&true)&&(!PyData.eqv a b)):=rfl
theorem rl_join (a b:PyData):isDeedL [wT "join", a,b]=(nameD a&&(nameD b&&true)&&(!PyData.eqv a b)):=rfl
theorem rl_split (a b c d:PyData):isDeedL [wT "split", a,b,c,d]=(nameD a&&(nameD b&&(placeD c&&(wholeD d&&true)))&&(!PyData.eqv a b)):=rfl
theorem real_is {D:Deed}(h:D.real):isDeedB D.d=true:=by
 obtain⟨h1,nd,pl⟩:=h
 have nm:∀x∈D.names,nameD (.str x)=true:=fun x hx=>nameD_of (h1 x hx)
 have ne:∀x y:Str,x≠y→PyData.eqv (.str x) (.str y)=false:=fun x y hn=>by simp[PyData.eqv,hn]
 have pp:∀p:Int,0≤p∧p≤999→placeD (.int p)=true:=fun p hp=>by
   show(decide (0≤p)&&decide (p≤999))=true
   rw[decide_eq_true hp.1,decide_eq_true hp.2];rfl
 cases D with
 | put x p k=>show isDeedL [wT "put", .str x,.int p,.int k]=true;rw[rl_put,nm x (by simp[Deed.names]),pp p pl];rfl
 | take x=>show isDeedL [wT "take", .str x]=true;rw[rl_take,nm x (by simp[Deed.names])];rfl
 | move x p=>show isDeedL [wT "move", .str x,.int p]=true;rw[rl_move,nm x (by simp[Deed.names]),pp p pl];rfl
 | count x k=>show isDeedL [wT "count", .str x,.int k]=true;rw[rl_count,nm x (by simp[Deed.names])];rfl
 | name x y=>show isDeedL [wT "name", .str x,.str y]=true;rw[rl_name,nm x (by simp[Deed.names]),nm y (by simp[Deed.names]),ne x y nd];rfl
 | split x y p k=>show isDeedL [wT "split", .str x,.str y,.int p,.int k]=true;rw[rl_split,nm x (by simp[Deed.names]),nm y (by simp[Deed.names]),ne x y nd,pp p pl];rfl
 | join x y=>show isDeedL [wT "join", .str x,.str y]=true;rw[rl_join,nm x (by simp[Deed.names]),nm y (by simp[Deed.names]),ne x y nd];rfl
end DL
namespace DL
open PySem PySem.Spec L2
def S__law_place:FSp:=⟨fun xs M=>∃p o,xs=[.loc p]∧M p=some o∧pack1 o,fun xs M y M'=>∀p,xs=[.loc p]→∃n o,y = .d (.int n)∧0≤n∧n≤999∧pack1 o∧M'=M.put p o⟩
theorem place_call {p:Addr}{o:MO}{M:Own}{Q:DS→Own→Prop}(m:M p=some o) (ho:pack1 o) (q:∀n o',0≤n→n≤999→pack1 o'→Q (.d (.int n)) (M.put p o')):[DS.loc p].length=1∧S__law_place.pre [.loc p] M∧∀x M',S__law_place.post [.loc p] M x M'→Q x M':=
 ⟨rfl,⟨p,o,rfl,m,ho⟩,fun x M' h=>by obtain⟨n,o',rfl,h1,h2,h3,rfl⟩:=h p rfl;exact q n o' h1 h2 h3⟩
end DL
namespace DL
open PySem PySem.Spec L2
def goodY (ys:List Str):Prop:=(∀z∈ys,nameZ z)∧ys.Nodup
theorem others_eq {ys:List Str}{y:Str}:((ys.map PyData.str).filter fun d=>!PyData.eqv d (.str y)).map id=(ys.filter fun z=>decide (z≠y)).map .str:=by
 rw[List.map_id,List.filter_map]
 congr 1
 apply List.filter_congr
 intro z _
 show(!PyData.eqv (.str z) (.str y))=_
 rw[eqv_str]
 by_cases e:z=y <;> simp[e]
theorem others_pos {ys:List Str}{y:Str}(nd:ys.Nodup) (hy:y∈ys) (h2:2≤ys.length):0 < (ys.filter fun z=>decide (z≠y)).length∧(ys.filter fun z=>decide (z≠y)).length≤ys.length:=by
 refine⟨?_,List.length_filter_le _ _⟩
 rw[List.length_pos_iff_exists_mem]
 match ys,nd,hy,h2 with
 | a::b::r,nd,hy,_=>
   by_cases e:a=y
   · refine⟨b,List.mem_filter.mpr ⟨by simp,?_⟩⟩
     rw[List.nodup_cons] at nd
     simp
     intro q
     exact nd.1 (by rw[e,← q];simp)
   · exact⟨a,List.mem_filter.mpr ⟨by simp,by simpa using e⟩⟩
theorem kinds_real {y1 y2:Str}{pl k:Int}{D:Deed}(h1:nameZ y1) (h2:nameZ y2) (hne:y1≠y2) (hp:0≤pl∧pl≤999) (h:D∈[Deed.put y1 pl k,.take y1,.move y1 pl,.count y1 k,.name y1 y2,.split y1 y2 pl k,.join y1 y2]):D.real:=by
 have o1:∀x∈[y1],nameZ x:=by simpa using h1
 have o2:∀x∈[y1,y2],nameZ x:=fun x hx=>by simp at hx;rcases hx with rfl | rfl;exact h1;exact h2
 simp only[List.mem_cons,List.not_mem_nil,or_false] at h
 rcases h with rfl | rfl | rfl | rfl | rfl | rfl | rfl
 · exact⟨o1,trivial,hp⟩
 · exact⟨o1,trivial,trivial⟩
 · exact⟨o1,trivial,hp⟩
 · exact⟨o1,trivial,trivial⟩
 · exact⟨o2,hne,trivial⟩
 · exact⟨o2,hne,hp⟩
 · exact⟨o2,hne,trivial⟩
end DL
theorem PyProof.Rows.boot_ValueError:PySem.bootBuiltins "ValueError"=some (.type "ValueError"):=by first | kernel_rfl | decide +kernel | rfl
namespace DL
open PySem PySem.Spec L2 XC
structure OnlyAt (K:Frg) (cs:List Addr) (S C:Addr) (k:Nat):Prop where
 kit:XKit K C
 all:∀j c,cs[j]?=some c→PySem.W.kitOne K (.ref C) (.ref c)=some (decide (j=k))
 top:PySem.W.kitOne K (.ref C) (.ref S)=some true
 val:PySem.W.kitOne K (.ref C) (.type "ValueError")=some true
theorem de_cref {K:Frg}{ρ:List (Option DS)}{M:Own}{Q:DS→Own→Prop}{a:Addr}(h:Q (.loc a) M):DE K (tC (.ref a)) ρ M Q:=fun σ H QQ R k=>k _ H (.loc a) M R.own rfl Step.refl h
def S9_only (K:Frg) (cs:List Addr) (S:Addr):FSp:=⟨fun xs M=>∃(a C:Addr) (fs:List (Str×PyData)) (k:Nat),xs=[.loc a,.d (.int k)]∧M a=some (.x C fs)∧OnlyAt K cs S C k∧k < 13,fun xs M y M'=>y = .d (.bool true)∧M'=M⟩
theorem only_call {K:Frg}{cs:List Addr}{S a C:Addr}{fs:List (Str×PyData)}{k:Nat}{M:Own}{Q:DS→Own→Prop}(m:M a=some (.x C fs)) (h:OnlyAt K cs S C k) (hk:k < 13) (q:Q (.d (.bool true)) M) :
   [DS.loc a,.d (.int k)].length=2∧(S9_only K cs S).pre [.loc a,.d (.int k)] M∧∀x M',(S9_only K cs S).post [.loc a,.d (.int k)] M x M'→Q x M':=
 ⟨rfl,⟨a,C,fs,k,rfl,m,h,hk⟩,fun x M' h=>by obtain⟨rfl,rfl⟩:=h;exact q⟩
def l13 (k:Nat):List PyData:=([PyData.bool (decide (0=k)),PyData.bool (decide (1=k)),PyData.bool (decide (2=k)),PyData.bool (decide (3=k))]++[PyData.bool (decide (4=k)),PyData.bool (decide (5=k)),PyData.bool (decide (6=k)),PyData.bool (decide (7=k))] ++
 [PyData.bool (decide (8=k)),PyData.bool (decide (9=k)),PyData.bool (decide (10=k)),PyData.bool (decide (11=k))])++[PyData.bool (decide (12=k))]
theorem thirteen (k:Nat) (hk:k < 13):PySem.SeqAt.shaped (.list (l13 k))=true∧PySem.SeqAt.shaped (.list (((intsD 0 13).filter fun _=>true).map fun d=>.bool (PyData.eqv d (.int k))))=true∧PyData.eqv (.list (l13 k)) (.list (((intsD 0 13).filter fun _=>true).map fun d=>.bool (PyData.eqv d (.int k))))=true:=by
 have:∀j:Fin 13,PySem.SeqAt.shaped (.list (l13 j.val))=true∧PySem.SeqAt.shaped (.list (((intsD 0 13).filter fun _=>true).map fun d=>.bool (PyData.eqv d (.int j.val))))=true∧PyData.eqv (.list (l13 j.val)) (.list (((intsD 0 13).filter fun _=>true).map fun d=>.bool (PyData.eqv d (.int j.val))))=true:=by decide +kernel
 exact this ⟨k,hk⟩
end DL
namespace L2
open PySem PySem.Spec PyProof.Rows
theorem walks_shift {prog:Program}{w:World}{A:Around}{I:Addr}{fp wr:List Addr}{G:Array GenState→Array GenState→Prop}{n:Nat}{P:Nat→Value→Prop}{St:Nat→Shared→Prop}
   (W:WalksS prog w A I fp wr G (n+1) P St):WalksS prog w A I fp wr G n (fun i v=>P (i+1) v) (fun i s=>St (i+1) s):=
 ⟨W.sub,W.grefl,W.gtrans,fun i=>W.frame (i+1),fun i s Q E hi st hQ=>W.item (i+1) s Q E (Nat.succ_lt_succ hi) st hQ,W.done,fun i=>W.self (i+1)⟩
section
variable {prog:Program}{w:World}{A:Around}{E:Value→Shared→Prop}{s:Shared}
theorem unpack_star {l:Addr}{x:Value}{xs:List Value}{Q:List Value→Shared→Prop}(hh:A.handled=none) (hl:s.heap.IsList l (x::xs).toArray) (hn:xs.length≤sizeLine)
   (hQ:∀(h':Heap) (k:Nat),(∀b o,s.heap.get? b=some o→h'.get? b=some o)→Q [x,.ref h'.objs.size] { s with heap:=h'.push { cls:=.type "list", data:=.seq xs.toArray },toks:=k }) :
   wpAny (model prog w) A (unpackItems (.ref l) 2 (some 1)) Q E s:=by
 have hne:l≠s.heap.objs.size:=by obtain⟨o,ho,_⟩:=hl;exact Nat.ne_of_lt (Heap.lt_size ho)
 have hlt:l < s.heap.objs.size:=by obtain⟨o,ho,_⟩:=hl;exact Heap.lt_size ho
 unfold unpackItems;refine wpAny_bind ?_;unfold notIterableAtAll
 refine wpAny_bind (wpAny_specialOf hl.typeIs F.slot_list_iter.lookup ?_);refine wpAny_pure ?_;simp only[Bool.false_eq_true,if_false]
 refine wpAny_bind (wpAny_holding (wpAny_pyIter_list hl ?_))
 refine wpAny_bind (wpAny_holding (draw_lst hne 1 0 _ _ ⟨_,Heap.get?_push_size _ rfl,rfl,rfl⟩ (hl.push _) (by simp) fun g1 t1 q1=>?_))
 rw[show List.take 1 (List.drop 0 ((x::xs).toArray).toList)=[x] from rfl,if_neg (by simp)]
 have hl1:=(hl.push { cls:=.type "list_iterator", data:=.fields #[.ref l,rawInt 0] }).extBut q1.extBut hne
 have hW:=walks_shift (n:=xs.length) ((Walks.list (prog:=prog) (w:=w) (A:=A.in1) hh s.heap.objs.size l hne (x::xs).toArray).toS)
 refine wpAny_bind (wpAny_holding (wpAny_collect_iter (T:= "list_iterator") (.inr (.inr (.inl rfl))) hW (fun i r st=>st.1.typeIs) ⟨t1,hl1⟩ (fun b hb=>?_) (by simp) (fun s' acc hm hacc=>?_) hn))
 · obtain⟨o,ho,_⟩:=id t1
   obtain⟨o2,ho2,_⟩:=id hl1
   rcases List.mem_cons.mp hb with e | e
   · rw[e];exact Heap.lt_size ho
   · rw[List.mem_singleton.mp e];exact Heap.lt_size ho2
 have he:acc.toList=xs:=by
   apply List.ext_getElem?
   intro j
   obtain⟨e1,e2⟩:=hacc
   by_cases hj:j < xs.length
   · have h1:=e2 j acc[j] (by simp[e1,hj])
     rw[Array.getElem?_toList,Array.getElem?_eq_getElem (by omega)]
     have h2:xs[j]?=some acc[j]:=by simpa using h1
     exact h2.symm
   · rw[List.getElem?_eq_none (by rw[Array.length_toList];omega),List.getElem?_eq_none (by omega)]
 rw[he,if_neg (by simp)]
 have hk:∀b o,s.heap.get? b=some o→s'.heap.get? b=some o:=fun b o e=>hm.heap b o (fun hI=>absurd (Heap.lt_size e) (by rw[List.mem_singleton.mp hI];exact Nat.lt_irrefl _)) (q1.extBut b o (Nat.ne_of_lt (Heap.lt_size e)) (Heap.get?_push_of_some _ e))
 have hsz:sizeOk (.seq (xs.take (xs.length - (2 - 1 - 1))).toArray):=by
   show(xs.take (xs.length - (2 - 1 - 1))).toArray.size≤sizeLine
   rw[List.size_toArray]
   exact Nat.le_trans (List.length_take_le _ _) (Nat.le_trans (Nat.sub_le _ _) hn)
 refine wpAny_bind (wpAny_newObj_type (wpAny_pure ?_) hsz)
 have hq:=hQ s'.heap s'.toks hk
 rw[Moved.eq_with hm]
 have e1:xs.take (xs.length - (2 - 1 - 1))=xs:=List.take_of_length_le (by simp)
 have e2:xs.drop (xs.length - (2 - 1 - 1))=[]:=List.drop_of_length_le (by simp)
 rw[e1,e2]
 exact hq
end
section
variable {X:Cx}{pos:Pos}
def gStar (K:Frg) (t:TGs):TG:=fun v σ H Q=>∃a x xs,v = .ref a∧SqL K H a (x::xs)∧∀p,H p=none→t [x,.ref p] σ (upd H p (.lst xs)) Q
theorem pg_star {es es':List Expr}{k:Nat}{t:TGs}(hc:X.calm=true) (h:PGs X es' t) (he:(assignEach es X.env).map (·.2)=(assignEach es' X.env).map (·.2):=by rfl)
   (hn:(assignEach es X.env).length=2:=by rfl) (hst:(assignEach es X.env).findIdx? (·.1)=some 1:=by rfl):PG X (.Tuple es k pos) (gStar X.K t):=by
 intro pins s σ H v u Q I r hw
 obtain⟨a,x,xs,e1,hq,hw⟩:=hw
 subst e1
 cases r
 obtain⟨its,rv,pl,hz⟩:=I.list hq
 cases rv with
 | @cons _ y _ ys r1 r2=>
 rw[arm_assign_Tuple]
 refine wpAny_bind (wpAny_standAt ?_)
 unfold unpack
 rw[hn,hst]
 refine wpAny_bind (wpAny_holding (unpack_star (I.ok.hd hc) pl.isList (by rw[← r2.length];exact Nat.le_trans (Nat.le_succ _) hz) fun h' k' hx=>?_))
 have I1:Inv X pins σ H { s with heap:=h',toks:=k' }:=I.kept (t':=k') fun b o e=>hx b o e
 have hno:H h'.objs.size=none:=I1.hok.fresh (Nat.le_refl _)
 have I2:=I1.laid (t':=k') (o:=.lst xs) (fun b o e=>Heap.get?_push_of_some _ e) (Nat.le_refl _) ⟨Nat.le_trans (Nat.le_succ _) hz,ys,0,r2,Heap.get?_push_size _ rfl⟩
 rw[he]
 exact h pins _ σ _ [x,.ref h'.objs.size] _ Q I2 (.cons r1 (.cons rfl .nil)) (hw _ hno)
end
end L2
namespace DL
open PySem PySem.Spec L2
theorem kStar {X:Cx}{K:Frg}{pos:Pos}{es es':List Expr}{k:Nat}{t:TGs}(hK:X.K=K) (hc:X.calm=true) (h:PGs X es' t) (he:(assignEach es X.env).map (·.2)=(assignEach es' X.env).map (·.2):=by rfl)
   (hn:(assignEach es X.env).length=2:=by rfl) (hst:(assignEach es X.env).findIdx? (·.1)=some 1:=by rfl):PG X (.Tuple es k pos) (gStar K t):=hK▸pg_star hc h he hn hst
section
variable {K:Frg}{M:Own}{ρ:List (Option DS)}{P:List (Option DS)→Own→Prop}
theorem dg_star {g:TGs}{d:PyData}{ds:List PyData}(h:DGs K g [d,.list ds] ρ M P):DG K (gStar K g) (.list (d::ds)) ρ M P:=fun σ H v QQ R dv k=>by
 unfold DV at dv
 obtain⟨a,vs,rfl,hl,hd⟩:=dv
 unfold DVs at hd
 obtain⟨x,xs,rfl,h1,h2⟩:=hd
 refine⟨a,x,xs,rfl,hl.sq,fun p hp=>?_⟩
 have g':Grow K M.W M.W H (upd H p (.lst xs)):=grow_new _ hp
 refine h σ _ _ QQ (R.step (R.own.new hp) ⟨g'⟩) ?_ fun ρ1 M1 σ1 H1 R1 st1 q=>k ρ1 M1 σ1 H1 R1 (Step.trans ⟨g'⟩ st1) q
 refine DVs.cons (h1.grow g') (DVs.cons ?_ DVs.nil)
 unfold DV
 exact⟨p,_,rfl,.inl ⟨fun w=>w (R.own.none hp),.inl upd_same⟩,h2.grow g'⟩
end
end DL
namespace L2
open PySem PySem.Spec PyProof.Rows
def rIntT:List V→Hp→VK→Prop:=fun xs H Q=>DL.rInt1 xs H Q∨∃(x:Str) (n:Int),xs=[.str x]∧PySem.intText? x=some n∧x.length≤640∧Q (.int n) H
theorem call_intT {X:Cx}:CallR X (.type "int") rIntT:=by
 intro pins s σ H xs us Q I r h
 rcases h with h | ⟨x,n,rfl,hn,hl,q⟩
 · exact call_int1 pins s σ H xs us Q I r h
 · obtain⟨u,rfl,t,rfl⟩:=vals1 r
   exact PySem.W.KIN.call_text hn hl ⟨.int n,H,I.tok _,⟨_,rfl⟩,q⟩
def rStrA:List V→Hp→VK→Prop:=fun xs H Q=>DL.rStrI xs H Q∨∃x:Str,xs=[.str x]∧Q (.str x) H
theorem call_strA {X:Cx}:CallR X (.type "str") rStrA:=by
 intro pins s σ H xs us Q I r h
 rcases h with h | ⟨x,rfl,q⟩
 · exact call_str_int pins s σ H xs us Q I r h
 · obtain⟨u,rfl,t,rfl⟩:=vals1 r
   exact P.str_of_str ⟨.str x,H,I,⟨_,rfl⟩,q⟩
end L2
namespace DL
open PySem PySem.Spec L2
theorem kStrA {X:Cx}{K:Frg}(_:X.K=K):CallR X (.type "str") rStrA:=call_strA
theorem rd_strN {K:Frg}{M:Own}{Q:DS→Own→Prop}{i:Int}(hz:i.natAbs.log2 < 1920) (q:Q (.d (.str (toString i))) M):DR K rStrA [.d (.int i)] M Q:=fun H vs QQ oa s k=>.inl (rd_str hz q H vs QQ oa s k)
theorem rd_strT {K:Frg}{M:Own}{Q:DS→Own→Prop}{x:Str}(q:Q (.d (.str x)) M):DR K rStrA [.d (.str x)] M Q:=fun H vs QQ oa s k=>by
 obtain⟨v,r,rfl,h1,h2⟩:=s
 cases h2
 rw[si_str h1]
 exact .inr ⟨x,rfl,k _ H (.d (.str x)) M oa si_of_str Step.refl q⟩
theorem kIntT {X:Cx}{K:Frg}(_:X.K=K):CallR X (.type "int") rIntT:=call_intT
section
variable {K:Frg}{M:Own}{Q:DS→Own→Prop}
theorem rd_intT {x:Str}{n:Int}(hn:PySem.intText? x=some n) (hl:x.length≤640) (q:Q (.d (.int n)) M):DR K rIntT [.d (.str x)] M Q:=fun H vs QQ oa s k=>by
 obtain⟨v,r,rfl,h1,h2⟩:=s
 cases h2
 rw[si_str h1]
 exact .inr ⟨x,n,rfl,hn,hl,k _ H (.d (.int n)) M oa si_of_int Step.refl q⟩
end
theorem valL_nat:∀(l:List Nat) (a:Nat),valL l (a:Int)=((l.foldl (fun acc c=>acc*10+(c - 48)) a:Nat):Int)
 | [],a=>rfl
 | c::r,a=>by
   show valL r ((a:Int)*10+((c - 48:Nat):Int))=_
   rw[show(a:Int)*10+((c - 48:Nat):Int)=((a*10+(c - 48):Nat):Int) by push_cast;rfl,valL_nat r];rfl
theorem text_pos {x:Str}(h:∀c∈x.cps.toList,48≤c∧c≤57) (h1:x.cps.toList≠[]) (h2:x.length≤4300):PySem.intText? x=some (valL x.cps.toList 0):=by
 rw[PySem.intText_digits h h1 h2,show(0:Int)=((0:Nat):Int) from rfl,valL_nat];rfl
theorem text_neg {x:Str}{cs:List Nat}(hx:x.cps.toList=45::cs) (h:∀c∈cs,48≤c∧c≤57) (h1:cs≠[]) (h2:x.length≤4300):PySem.intText? x=some (- valL cs 0):=by
 rw[PySem.intText_neg hx h h1 h2,show(0:Int)=((0:Nat):Int) from rfl,valL_nat];rfl
end DL
namespace L2
open PySem PySem.Spec PyProof.Rows
section
variable {prog:Program}{w:World}{A:Around}{E:Value→Shared→Prop}{s:Shared}
theorem nx_lstI {i t:Addr}{k:Nat}{items:Array Value}{y:Value}(hne:t≠i) (hx:items[k]?=some y):NxI prog w A i (fun h=>h.IsListIter i t k∧h.IsList t items) (fun h=>h.IsListIter i t (k+1)∧h.IsList t items) (fun v=>v=y):=fun s Q E hS hQ=>by
 obtain⟨hit,ht⟩:=hS
 exact wpAny_nextOf_list_item hit ht hx fun h' a b=>hQ h' _ y rfl ⟨a,ht.extBut b.extBut hne⟩ b
theorem new_lstI {t:Addr}{items:Array Value}:ItNew (.ref t) { cls:=.type "list_iterator", data:=.fields #[.ref t,.int 0 0] } (fun h=>h.IsList t items):=fun prog w A E s Q ht hQ=>wpAny_pyIter_list ht hQ
end
section
variable {X:Cx}{pins:List (Addr×Obj)}{σ:St}{H:Hp}{s:Shared}
theorem sqL_ne {a z:Addr}{xs:List V}(I:Inv X pins σ H s) (hf:FpOk X pins H z) (h:SqL X.K H a xs):a≠z:=by
 rintro rfl
 rcases h with h | ⟨o,its,n,hk,_⟩
 · rcases h with h | ⟨o',h⟩ <;> rw[hf.1] at h <;> cases h
 · have e:=I.ok.mod.kin a o hk
   rcases hf.2.2.2.1 with z | z
   · exact I.ok.noex a o e z
   · exact absurd (Nat.lt_of_lt_of_le (Heap.lt_size e) (Nat.le_trans I.ok.bsz z)) (Nat.lt_irrefl _)
end
def Itzl (K:Frg) (x:Str) (l2:Addr):It:=
 ⟨fun i H=>∃ys,SqL K H l2 ys∧i < x.cps.size∧i < ys.length,
  fun i H v H'=>∃p c b,H p=none∧v = .ref p∧H'=upd H p (.tup [.str ⟨#[c]⟩,b])∧x.cps[i]?=some c∧∀ys,SqL K H l2 ys→ys[i]?=some b,
  fun i H=>x.cps.size≤i⟩
theorem turn_zipSL {P:Program}{w:World}{K:Frg}{elts:List Expr}{kk:Nat}{tpos:Pos}(z TI TO i1 i2:Addr) (x:Str) (t:Tok) (l2:Addr) (d1:TI≠z) (d2:TO≠z) (d3:i1≠z) (d4:i2≠z) (d5:TI≠TO) (d6:TI≠i1) (d7:TI≠i2) (d8:TO≠i1) (d9:TO≠i2) (d10:i1≠i2) :
   Turn P w K (.Tuple elts kk tpos) (Itzl K x l2) [z,TI,TO,i1,i2] z (fun i h=>IsZip h z TI TO .none∧IsPair h TI (.ref i1) (.ref i2)∧(∃a b,IsPair h TO a b)∧h.IsStrIter i1 "str_ascii_iterator" x t i∧h.IsListIter i2 l2 i) where
 mem:=by simp
 obj:=fun i h ⟨a1,a2,⟨x,y,a3⟩,a4,a5⟩ b hb=>by
   simp only[List.mem_cons,List.not_mem_nil,or_false] at hb
   rcases hb with rfl | rfl | rfl | rfl | rfl
   · exact⟨_,a1,fun v q=>by cases q⟩
   · exact⟨_,a2,fun v q=>by cases q⟩
   · exact⟨_,a3,fun v q=>by cases q⟩
   · obtain⟨o,e,c,d⟩:=a4;exact⟨o,e,fun v q=>by rw[d] at q;cases q⟩
   · obtain⟨o,e,c,d⟩:=a5;exact⟨o,e,fun v q=>by rw[d] at q;cases q⟩
 keep:=fun i h h' ⟨a1,a2,⟨x,y,a3⟩,⟨o4,e4,r4⟩,a5⟩ k=>⟨k z (by simp) _ a1,k TI (by simp) _ a2,⟨x,y,k TO (by simp) _ a3⟩,⟨o4,k i1 (by simp) o4 e4,r4⟩,a5.at fun o e=>k i2 (by simp) o e⟩
 item:=by
   intro X hP hw hK hc i pins s σ H E I hf ⟨a1,a2,⟨x0,y0,a3⟩,a4,a5⟩ hg
   subst hP hw hK
   obtain⟨ys,hy,lx,ly⟩:=hg
   obtain⟨its2,ry,py,_⟩:=I.list hy
   obtain⟨v,hv,rv⟩:=ry.get (List.getElem?_eq_getElem ly)
   have hx:x.cps[i]?=some x.cps[i]:=Array.getElem?_eq_getElem lx
   have py':s.heap.IsList l2 its2.toArray:=py.isList
   have ne2:∀c∈[z,TI,TO,i1,i2],l2≠c:=fun c hc=>sqL_ne I (hf c hc) hy
   have D:ZAp z TI TO i1 i2 [i1] [i2,l2]:=⟨d2,d3,d4,d8,d9,d10,fun c hc=>by
       have:c=i1:=by simpa using hc
       subst this;exact⟨d3,d8.symm,d10⟩,fun c hc=>by
       rcases List.mem_cons.mp hc with rfl | hc
       · exact⟨d4,d9.symm,d10.symm⟩
       · have:c=l2:=by simpa using hc
         subst this;exact⟨ne2 z (by simp),ne2 TO (by simp),ne2 i1 (by simp)⟩⟩
   have t1:∀k,Stays [i1] (fun h=>h.IsStrIter i1 "str_ascii_iterator" x t k):=fun k h h' ⟨o,e,r⟩ q=>⟨o,q i1 (by simp) o e,r⟩
   have t2:∀k,Stays [i2,l2] (fun h=>h.IsListIter i2 l2 k∧h.IsList l2 its2.toArray):=fun k h h' ⟨⟨o,e,r⟩,⟨o',e',r'⟩⟩ q=>⟨⟨o,q i2 (by simp) o e,r⟩,⟨o',q l2 (by simp) o' e',r'⟩⟩
   refine zipG_next (R1:=fun u=>RelV (.str ⟨#[x.cps[i]]⟩) u) (R2:=fun u=>u=v) D (t1 i) (t1 (i+1)) (t2 i) (t2 (i+1)) (fun A=>nx_ascii hx) (fun A=>nx_lstI (ne2 i2 (by simp)) (by simpa using hv)) a1 a2 a3 a4 ⟨a5,py'⟩
     (fun h ⟨o,e,_⟩=>Heap.lt_size e) (fun h ⟨⟨o,e,_⟩,_⟩=>Heap.lt_size e) fun h' tk u u2 ru eu2 b1 b2 b3 b4 b5 b6 hk=>?_
   subst eu2
   refine⟨_,rfl,wpAny_letOwnedTupleGo_zip (s:={ s with heap:=h',toks:=tk }) b1 fun h2 c1 sb=>?_⟩
   have lt:∀{c o},s.heap.get? c=some o→s.heap.objs.size≠c:=fun e=>Nat.ne_of_gt (Heap.lt_size e)
   have keep:∀b o,b∉[z,TO,i1,i2]→s.heap.get? b=some o→h2.get? b=some o:=fun b o hb e=>by
     simp only[List.mem_cons,List.not_mem_nil,or_false,not_or] at hb
     exact sb.extBut b o hb.1 (hk b o hb.1 hb.2.1 hb.2.2.1 hb.2.2.2 e)
   have sub:∀b∈[z,TO,i1,i2],b∈[z,TI,TO,i1,i2]:=fun b hb=>by
     simp only[List.mem_cons,List.not_mem_nil,or_false] at hb ⊢
     rcases hb with h | h | h | h <;> simp[h]
   have hTz:s.heap.objs.size≠z:=lt a1
   have I1:Inv X pins σ (upd H s.heap.objs.size (.tup [.str ⟨#[x.cps[i]]⟩,ys[i]])) { s with heap:=h2,toks:=tk }:=I.turnedT (t':=tk) (ch:=[z,TO,i1,i2]) keep (fun b hb=>(hf b (sub b hb)).1)
     (fun b hb=>let q:=hf b (sub b hb);⟨q.2.2.2.1,q.2.1,q.2.2.2.2.1,q.2.2.2.2.2⟩) (Nat.le_refl _)
     ⟨by show 2≤sizeLine;decide,[u,u2],.cons ru (.cons rv .nil),⟨_,sb.extBut _ _ hTz b5,rfl,_,rfl⟩⟩
   refine⟨.ref s.heap.objs.size,_,I1,rfl,⟨s.heap.objs.size,x.cps[i],ys[i],I.hok.fresh (Nat.le_refl _),rfl,rfl,hx,fun ys' hy'=>?_⟩,
     ⟨c1,keep _ _ ?_ a2,⟨_,_,sb.extBut _ _ d2 b2⟩,b3.extBut sb.extBut d3,b4.1.extBut sb.extBut d4⟩,fun b hb=>?_⟩
   · rw[I.list_inj hy' hy]
     exact List.getElem?_eq_getElem ly
   · simp[d1,d5,d6,d7]
   · have hlt:s.heap.objs.size≠b:=by
       simp only[List.mem_cons,List.not_mem_nil,or_false] at hb
       rcases hb with rfl | rfl | rfl | rfl | rfl
       · exact lt a1
       · exact lt a2
       · exact lt a3
       · obtain⟨o,e,_⟩:=a4;exact lt e
       · obtain⟨o,e,_⟩:=a5;exact lt e
     rw[upd_ne (Ne.symm hlt)]
     exact(hf b hb).1
 done:=by
   intro X hP hw hK hc i pins s σ H E I hf ⟨a1,a2,⟨x0,y0,a3⟩,a4,a5⟩ hg
   subst hP hw hK
   have hx:x.cps[i]?=none:=Array.getElem?_eq_none hg
   have D:ZAp z TI TO i1 i2 [i1] []:=⟨d2,d3,d4,d8,d9,d10,fun c hc=>by
       have:c=i1:=by simpa using hc
       subst this;exact⟨d3,d8.symm,d10⟩,fun c hc=>nomatch hc⟩
   have t1:Stays [i1] (fun h=>h.IsStrIter i1 "str_ascii_iterator" x t i):=fun h h' ⟨o,e,r⟩ q=>⟨o,q i1 (by simp) o e,r⟩
   have sub:∀b∈[z,TO,i1,i2],b∈[z,TI,TO,i1,i2]:=fun b hb=>by
     simp only[List.mem_cons,List.not_mem_nil,or_false] at hb ⊢
     rcases hb with h | h | h | h <;> simp[h]
   refine zipG_stop (I.ok.hd hc) a1 (fun Q' E' hE' A' hA'=>zipG_end1 D t1 (nxE_ascii hA' hx) a1 a2 a3 a4 hE') fun h' tk hk=>⟨rfl,I.turnedL (t':=tk) (ch:=[z,TO,i1,i2]) (fun b o hb e=>?_) (fun b hb=>(hf b (sub b hb)).1) fun b hb=>let q:=hf b (sub b hb);⟨q.2.2.2.1,q.2.1,q.2.2.2.2.1,q.2.2.2.2.2⟩⟩
   simp only[List.mem_cons,List.not_mem_nil,or_false,not_or] at hb
   exact hk b o hb.1 hb.2.1 hb.2.2.1 hb.2.2.2 e
 self:=fun _ _ _ _ _ st h=>wpAny_pyIter_zip st.1 h
section
variable {X:Cx}{K:Frg}
def iZipSL (K:Frg) (ta:TA):TI:=fun σ H R=>ta σ H fun vs H1=>False∨∃x b,vs=[.str x,.ref b]∧x.cps.all (· < 128)=true∧(∃ys,SqL K H1 b ys)∧R (Itzl K x b) H1
theorem pi_zipSL {a b:Expr}{ta:TA}{p pos:Pos}{elts:List Expr}{kk:Nat}{tpos:Pos}(hg:Gl X "zip") (hm:X.mg "zip"=none) (ha:PA X [a,b] ta) (hs:starEach [a,b] X.env=[(false,eval a X.env),(false,eval b X.env)]:=by rfl) (hs2:starEach [b] X.env=[(false,eval b X.env)]:=by rfl) :
   PI X (.Tuple elts kk tpos) (.Call (.Name "zip" p) [a,b] [] pos) (iZipSL X.K ta):=by
 intro pins s σ H R I h
 refine Call_ (ld_blt I hg hm boot_zip (PyProof.Rows.callWith_type1 (thn (ha pos pins s σ H _ I h) fun us s1 ⟨vs,H1,I1,r1,q1⟩=>?_) (by rw[hs,hs2]) (by rw[hs2];rfl)))
 have ne:∀(m n:Nat),m≠n→s1.heap.objs.size+m≠s1.heap.objs.size+n:=fun m n h e=>h (Nat.add_left_cancel e)
 have fp:∀b∈[s1.heap.objs.size+4,s1.heap.objs.size+2,s1.heap.objs.size+3,s1.heap.objs.size,s1.heap.objs.size+1],FpOk X pins H1 b:=fun b hb=>by
   have hle:s1.heap.objs.size≤b:=by
     simp only[List.mem_cons,List.not_mem_nil,or_false] at hb
     rcases hb with rfl | rfl | rfl | rfl | rfl
     · exact Nat.le_add_right _ _
     · exact Nat.le_add_right _ _
     · exact Nat.le_add_right _ _
     · exact Nat.le_refl _
     · exact Nat.le_add_right _ _
   exact I1.fpOk hle (I1.hok.fresh hle)
 rcases q1 with q1 | ⟨x,l2,e,hx,⟨ys,hy⟩,q⟩
 · exact q1.elim
 · subst e
   cases r1 with
   | cons r rr=>
     cases rr with
     | cons r' rr=>
       cases rr;cases r'
       obtain⟨t,rfl⟩:=r
       obtain⟨its2,ry,py,_⟩:=I1.list hy
       refine callG_zip (new_ascii (t:=t) hx) (new_lstI (t:=l2) (items:=its2.toArray)) (fun h o q=>q.push o) rfl rfl trivial (show s1.heap.IsList l2 its2.toArray from py.isList) fun h' b1 b2 b3 b4 b5 hk=>?_
       refine wpAny_pyIter_zip (s:={ s1 with heap:=h' }) b1 ?_
       exact⟨s1.heap.objs.size+4,[s1.heap.objs.size+4,s1.heap.objs.size+2,s1.heap.objs.size+3,s1.heap.objs.size,s1.heap.objs.size+1],_,_,H1,rfl,I1.kept (t':=s1.toks) hk,
         turn_zipSL (s1.heap.objs.size+4) (s1.heap.objs.size+2) (s1.heap.objs.size+3) s1.heap.objs.size (s1.heap.objs.size+1) x t l2 (ne 2 4 (by decide)) (ne 3 4 (by decide)) (ne 0 4 (by decide)) (ne 1 4 (by decide)) (ne 2 3 (by decide)) (ne 2 0 (by decide)) (ne 2 1 (by decide)) (ne 3 0 (by decide)) (ne 3 1 (by decide)) (ne 0 1 (by decide)),
         ⟨b1,b2,⟨_,_,b3⟩,⟨_,b4,rfl,rfl⟩,⟨_,b5,rfl,rfl⟩⟩,fp,q⟩
theorem kZipSL {a b:Expr}{ta:TA}{p pos:Pos}{elts:List Expr}{kk:Nat}{tpos:Pos}(h:X.K=K) (hg:Gl X "zip") (hm:X.mg "zip"=none) (ha:PA X [a,b] ta) (hs:starEach [a,b] X.env=[(false,eval a X.env),(false,eval b X.env)]:=by rfl) (hs2:starEach [b] X.env=[(false,eval b X.env)]:=by rfl) :
   PI X (.Tuple elts kk tpos) (.Call (.Name "zip" p) [a,b] [] pos) (iZipSL K ta):=h▸pi_zipSL hg hm ha hs hs2
end
end L2
namespace DL
open PySem PySem.Spec L2
section
variable {K:Frg}{ρ:List (Option DS)}{M:Own}{QI:List PyData→Own→Prop}
theorem di_zipSL {ta:TA}(h:DA K ta ρ M fun xs M1=>∃z bs,xs=[.d (.str z),.d (.list bs)]∧z.cps.all (· < 128)=true∧z.cps.size≤bs.length∧QI (zipD (signs z) bs) M1):DI K (iZipSL K ta) ρ M QI:=fun σ H R Rl k=>
 h σ H _ Rl fun vs H1 xs M1 o1 s1 t1 ⟨z,bs,e,hz,hl0,q⟩=>by
   subst e
   obtain⟨v,r,rfl,h1,v2,r2,rfl,h2,h3⟩:=s1
   cases h3
   rw[si_str h1]
   unfold SI DV at h2
   obtain⟨b,vb,rfl,hl2,hd2⟩:=h2
   have hlen:(zipD (signs z) bs).length=z.cps.size:=by unfold zipD;rw[List.length_map,List.length_zip,signs_len];omega
   refine .inr ⟨z,b,rfl,hz,⟨vb,hl2.sq⟩,k _ (zipD (signs z) bs) H1 M1 o1 t1 ⟨fun i H' M' hi oa st=>?_,fun H' M' oa st=>?_,fun i H' M' x H2 oa st hi y=>?_⟩ q⟩
   · rw[hlen] at hi
     exact⟨vb,(hl2.grow st.grow).sq,hi,by rw[hd2.length];omega⟩
   · show z.cps.size≤_
     rw[hlen];exact Nat.le_refl _
   · obtain⟨p,c,xb,hp,rfl,rfl,hc,hy⟩:=y
     have e2:=hy vb (hl2.grow st.grow).sq
     obtain⟨db,g1,g2⟩:=hd2.get e2
     have gg:Grow K M'.W M'.W H' (upd H' p (.tup [.str ⟨#[c]⟩,xb])):=grow_new _ hp
     refine⟨oa.new hp,⟨gg⟩,.tuple [.str ⟨#[c]⟩,db],?_,?_⟩
     · unfold zipD
       rw[List.getElem?_map]
       have hs:(signs z)[i]?=some (.str ⟨#[c]⟩):=by unfold signs;rw[List.getElem?_map];simp[hc]
       have:((signs z).zip bs)[i]?=some (.str ⟨#[c]⟩,db):=by rw[List.getElem?_zip_eq_some];exact⟨hs,g1⟩
       rw[this];rfl
     · unfold DV
       exact⟨p,_,rfl,.inl ⟨fun w=>w (oa.none hp),.inl upd_same⟩,DVs.cons (by unfold DV;rfl) (DVs.cons ((g2.grow st.grow).grow gg) DVs.nil)⟩
end
end DL
namespace DL
open PySem PySem.Spec L2 PySem.Builtin.Str PySem.StrLaws
def glue1 (c:Nat):List (List Nat)→List Nat
 | []=>[]
 | [p]=>p
 | p::q::r=>p++c::glue1 c (q::r)
theorem parts_of1 {x:Str}{d:Nat}:∀(ps:List (List Nat)) (pre:List Nat) (cuts:List Nat) (f:Nat),ps≠[]→x.cps.toList=pre++glue1 d ps→(∀p∈ps,d∉p) →
   ChainG x ⟨#[d]⟩ x.length pre.length cuts f→(∀k,f≤k→¬At x ⟨#[d]⟩ x.length k)→(partsFrom x 1 pre.length cuts).map (·.cps.toList)=ps
 | [],_,_,_,h,_,_,_,_=>absurd rfl h
 | [p],pre,[],f,_,hx,hp,hc,hn=>by
   show [(strSub x pre.length x.length).cps.toList]=[p]
   rw[sub_list,hx]
   have hl:x.length=(pre++p).length:=by show x.cps.size=_;rw[← Array.length_toList,hx];rfl
   show [((pre++p).drop pre.length).take (x.length - pre.length)]=[p]
   rw[List.drop_left,hl,List.length_append,Nat.add_sub_cancel_left,List.take_length]
 | [p],pre,c::r,f,_,hx,hp,hc,hn=>by
   obtain⟨h1,h2,_⟩:=hc
   have:=(subAt_one x d c).mp h2
   rw[hx] at this
   rw[List.getElem?_append_right h1] at this
   exact absurd (List.mem_of_getElem? this) (hp p (by simp))
 | p::q::r,pre,cuts,f,_,hx,hp,hc,hn=>by
   have hx':x.cps.toList=pre++(p++(d::glue1 d (q::r))):=by rw[hx];rfl
   have hA:At x ⟨#[d]⟩ x.length (pre.length+p.length):=by
     refine(subAt_one x d _).mpr ?_
     rw[hx',List.getElem?_append_right (by omega),List.getElem?_append_right (by omega)]
     simp
   cases cuts with
   | nil=>
     have e:f=pre.length:=hc
     exact absurd hA (hn _ (by omega))
   | cons c cs=>
     obtain⟨h1,h2,h3,h4⟩:=hc
     have hle:c≤pre.length+p.length:=Nat.le_of_not_lt fun h=>h3 _ (Nat.le_add_right _ _) h hA
     have hce:c=pre.length+p.length:=by
       refine Nat.le_antisymm hle (Nat.le_of_not_lt fun hlt=>?_)
       have:=(subAt_one x d c).mp h2
       rw[hx',List.getElem?_append_right h1,List.getElem?_append_left (by omega)] at this
       exact hp p (by simp) (List.mem_of_getElem? this)
     subst hce
     show(strSub x pre.length (pre.length+p.length)).cps.toList::(partsFrom x 1 (pre.length+p.length+1) cs).map (·.cps.toList)=_
     have e2:pre.length+p.length+1=(pre++p++[d]).length:=by simp only[List.length_append,List.length_cons,List.length_nil]
     rw[e2,parts_of1 (q::r) (pre++p++[d]) cs f (by simp) (by rw[hx'];simp[List.append_assoc]) (fun z hz=>hp z (List.mem_cons_of_mem _ hz)) (e2▸h4) hn,sub_list,hx',List.drop_left,Nat.add_sub_cancel_left,List.take_left]
theorem join_glue1 (c:Nat):∀ps:List Str,(Str.join ⟨#[c]⟩ ps).cps.toList=glue1 c (ps.map (·.cps.toList))
 | []=>rfl
 | [p]=>rfl
 | p::q::r=>by
   show(p++⟨#[c]⟩++Str.join ⟨#[c]⟩ (q::r)).cps.toList=p.cps.toList++c::glue1 c ((q::r).map (·.cps.toList))
   rw[app_list,app_list,join_glue1 c (q::r),List.append_assoc];rfl
theorem split_one {c:Nat}(hc128:c < 128) {ps:List Str}(hne:ps≠[]) (hp:∀p∈ps,c∉p.cps.toList):Txt.split (Txt.join ⟨#[c]⟩ ps) ⟨#[c]⟩=ps:=by
 have hj:Txt.join ⟨#[c]⟩ ps=Str.join ⟨#[c]⟩ ps:=glued_eq_join _ _
 rw[hj]
 generalize hx:Str.join ⟨#[c]⟩ ps=x
 have hxl:x.cps.toList=[]++glue1 c (ps.map (·.cps.toList)):=by rw[← hx,join_glue1];rfl
 obtain⟨f,hG,hn⟩:=occ_tight x ⟨#[c]⟩ (by show 1≤1;decide)
 have key:=parts_of1 (x:=x) (ps.map (·.cps.toList)) [] _ f (by simpa using hne) hxl (fun p hp'=>by
   obtain⟨q,hq,rfl⟩:=List.mem_map.mp hp'
   exact hp q hq) hG hn
 have fin:partsFrom x 1 0 (occurrences x ⟨#[c]⟩ 0 x.length (x.length+1))=ps:=by
   have:=key
   exact(List.map_inj_right (fun _ _ h=>str_ext h)).mp this
 have whole:occurrences x ⟨#[c]⟩ 0 x.length (x.length+1)=[]→[x]=ps:=fun e0=>by
   rw[e0] at fin
   rw[← fin]
   show [x]=[strSub x 0 x.length]
   have:x=strSub x 0 x.length:=str_ext (by
     rw[sub_list,List.drop_zero,Nat.sub_zero,show x.length=x.cps.toList.length by show x.cps.size=_;simp,List.take_length])
   rw[← this]
 unfold Txt.split
 split
 · rename_i hc
   refine whole ?_
   have hk:PySem.Builtin.Str.strKind ⟨#[c]⟩=1:=by
     unfold PySem.Builtin.Str.strKind
     rw[if_pos]
     simp;omega
   have hs:1≤PySem.Builtin.Str.strKind x:=by unfold PySem.Builtin.Str.strKind;split;exact Nat.le_refl _;split <;> decide
   have hlen:x.length < 1:=by
     rcases Bool.or_eq_true_iff.mp hc with h | h
     · exact of_decide_eq_true h
     · have:=of_decide_eq_true h;omega
   cases hcut:occurrences x ⟨#[c]⟩ 0 x.length (x.length+1) with
   | nil=>rfl
   | cons c' r=>
     rw[hcut] at hG
     have h2:c'+1≤x.length:=hG.2.1.1
     omega
 · split
   · rename_i he
     exact whole (List.isEmpty_iff.mp he)
   · rw[partsBetween_eq];exact fin
theorem split_ok1 {x y:Str}(h:okS x):∀p∈Txt.split x y,okS p:=fun p hp=>by
 unfold Txt.split at hp
 split at hp
 · have:p=x:=by simpa using hp
   rw[this];exact h
 · split at hp
   · have:p=x:=by simpa using hp
     rw[this];exact h
   · rw[partsBetween_eq] at hp;exact from_ok h _ _ _ p hp
theorem from_le (x:Str) (n:Nat):∀(l:List Nat) (a:Nat),∀p∈partsFrom x n a l,p.length≤x.length
 | [],a,p,hp=>by
   have:p=strSub x a x.length:=by simpa [partsFrom] using hp
   rw[this]
   show(strSub x a x.length).cps.size≤x.cps.size
   rw[← Array.length_toList,sub_list,List.length_take,List.length_drop,Array.length_toList];omega
 | c::r,a,p,hp=>by
   rcases List.mem_cons.mp hp with e | e
   · rw[e]
     show(strSub x a c).cps.size≤x.cps.size
     rw[← Array.length_toList,sub_list,List.length_take,List.length_drop,Array.length_toList];omega
   · exact from_le x n r _ p e
theorem split_le {x y:Str}:∀p∈Txt.split x y,p.length≤x.length:=fun p hp=>by
 unfold Txt.split at hp
 split at hp
 · have:p=x:=by simpa using hp
   rw[this];exact Nat.le_refl _
 · split at hp
   · have:p=x:=by simpa using hp
     rw[this];exact Nat.le_refl _
   · rw[partsBetween_eq] at hp;exact from_le _ _ _ _ p hp
theorem split_cnt {x y:Str}:1≤(Txt.split x y).length∧(Txt.split x y).length≤x.length+2:=by
 unfold Txt.split
 split
 · exact⟨by simp,by simp⟩
 · split
   · exact⟨by simp,by simp⟩
   · rw[partsBetween_eq,from_len]
     have:=occ_length_le x y 0 x.length (x.length+1)
     omega
end DL
namespace DL
open PySem PySem.Spec L2 PySem.Builtin.Str PySem.StrLaws
def glueG (s:List Nat):List (List Nat)→List Nat
 | []=>[]
 | [p]=>p
 | p::q::r=>p++s++glueG s (q::r)
theorem join_list (s:Str):∀ps:List Str,(Str.join s ps).cps.toList=glueG s.cps.toList (ps.map (·.cps.toList))
 | []=>rfl
 | [p]=>rfl
 | p::q::r=>by
   show(p++s++Str.join s (q::r)).cps.toList=p.cps.toList++s.cps.toList++glueG s.cps.toList ((q::r).map (·.cps.toList))
   rw[app_list,app_list,join_list s (q::r)]
theorem txt_list (s:Str) (ps:List Str):(Txt.join s ps).cps.toList=glueG s.cps.toList (ps.map (·.cps.toList)):=by
 rw[show Txt.join s ps=Str.join s ps from glued_eq_join _ _];exact join_list s ps
theorem glue_mem {s:List Nat}{c:Nat}:∀{ps:List (List Nat)},c∈glueG s ps→c∈s∨∃p∈ps,c∈p
 | [],h=>by simp[glueG] at h
 | [p],h=>.inr ⟨p,by simp,h⟩
 | p::q::r,h=>by
   rcases List.mem_append.mp h with h | h
   · rcases List.mem_append.mp h with h | h
     · exact .inr ⟨p,by simp,h⟩
     · exact .inl h
   · rcases glue_mem h with h | ⟨p',hp,h⟩
     · exact .inl h
     · exact .inr ⟨p',List.mem_cons_of_mem _ hp,h⟩
theorem glue_len {s:List Nat}{k:Nat}(hs:s.length≤3):∀{ps:List (List Nat)},(∀p∈ps,p.length≤k)→(glueG s ps).length≤ps.length*(k+3)
 | [],h=>by simp[glueG]
 | [p],h=>by
   have:=h p (by simp)
   show p.length≤1*(k+3);omega
 | p::q::r,h=>by
   have h1:=h p (by simp)
   have h2:=glue_len hs (ps:=q::r) (k:=k) fun p' hp=>h p' (List.mem_cons_of_mem _ hp)
   show(p++s++glueG s (q::r)).length≤_
   rw[List.length_append,List.length_append,List.length_cons,Nat.succ_mul]
   omega
end DL
namespace DL
open PySem PySem.Spec L2 XC PySem.Builtin.Str PySem.StrLaws
def rawP:PyData→PyData→PyData
 | .str s,p=>if s == "n" then p else rwD p
 | _,p=>rwD p
def partsR (f:Str) (ps:List Str):List PyData:=((signs f).zip (ps.map .str)).map fun q=>rawP q.1 q.2
def rdL:List Str→Option PyData
 | w::ps=>match FORMS.lookup w with
   | some f=>if ps.length=f.cps.size then (if isDeedL (.str w::partsR f ps) then some (.tuple (.str w::partsR f ps)) else none) else none
   | none=>none
 | []=>none
def rdD:PyData→Option PyData | .str x=>rdL (Txt.split x (Str.ofString " ")) | _=>none
def optP:Option PyData→PyData | some d=>d | none=>.none
def G_read_deed (cT:Addr):FSpX:=⟨fun xs M=>∃d,xs=[.d d]∧okD d,fun xs M y M'=>∀d,xs=[.d d]→∃r,rdD d=some r∧y = .d r∧M'=M,
 fun xs M cls fs M'=>∀d,xs=[.d d]→rdD d=none∧cls = .ref cT∧fs=[(Str.ofString "part", .none)]∧M'=M⟩
theorem deed_read {cT:Addr}{d:PyData}{M:Own}{Q:DS→Own→Prop}{DX:Value→List (Str×PyData)→Own→Prop}(ha:okD d) (q:∀r,rdD d=some r→Q (.d r) M) (q2:rdD d=none→DX (.ref cT) [(Str.ofString "part", .none)] M) :
   [DS.d d].length=1∧(G_read_deed cT).pre [.d d] M∧(∀x M',(G_read_deed cT).post [.d d] M x M'→Q x M')∧∀cls fs M',(G_read_deed cT).xpost [.d d] M cls fs M'→DX cls fs M':=
 ⟨rfl,⟨d,rfl,ha⟩,fun x M' h=>(by obtain⟨r,a,rfl,rfl⟩:=h d rfl;exact q r a),fun cls fs M' h=>by obtain⟨a,rfl,rfl,rfl⟩:=h d rfl;exact q2 a⟩
def partS:PyData→Str | .str s=>s | .int n=>decS n | _=>Str.empty
def Deed.list:Deed→List PyData:=fun D=>.str D.word::.str D.fst::D.rest
def showD:PyData→PyData | .tuple ds=>.str (Txt.join (Str.ofString " ") (ds.map partS)) | d=>d
def Deed.fit:Deed→Prop | .put _ _ k=>-1000000000000≤k∧k≤1000000000000 | .count _ k=>-1000000000000≤k∧k≤1000000000000 | .split _ _ _ k=>-1000000000000≤k∧k≤1000000000000 | _=>True
def S_show_deed:FSp:=fn1 (fun d=>∃D:Deed,d=D.d∧D.real∧D.fit) showD
def dS (D:Deed):Str:=Txt.join (Str.ofString " ") (D.list.map partS)
theorem showD_d (D:Deed):showD D.d = .str (dS D):=by rw[D.d_eq];rfl
def okPart (d:PyData):Prop:=(∃s:Str,d = .str s∧s.length≤8∧∀c∈s.cps.toList,isLet c=true)∨∃n:Int,d = .int n∧big n
theorem word_let (D:Deed):D.word.length≤8∧∀c∈D.word.cps.toList,isLet c=true:=by cases D <;> (simp only[Deed.word];decide +kernel)
theorem big_of {n:Int}(h : -1000000000000≤n∧n≤1000000000000):big n:=by unfold big;omega
theorem big_pl {n:Int}(h:0≤n∧n≤999):big n:=by unfold big;omega
theorem part_name {x:Str}(h:nameZ x):okPart (.str x):=.inl ⟨x,rfl,h.2.1,h.2.2⟩
theorem parts_ok {D:Deed}(h:D.real) (hf:D.fit):∀d∈D.list,okPart d:=by
 obtain⟨h1,h2,h3⟩:=h
 intro d hd
 rcases List.mem_cons.mp hd with rfl | hd
 · exact .inl ⟨_,rfl,(word_let D).1,(word_let D).2⟩
 rcases List.mem_cons.mp hd with rfl | hd
 · exact part_name (Deed.fst_ok h1)
 cases D with
 | put x p k=>
   rcases List.mem_cons.mp hd with rfl | hd
   · exact .inr ⟨p,rfl,big_pl h3⟩
   · rw[List.mem_singleton.mp hd];exact .inr ⟨k,rfl,big_of hf⟩
 | take x=>simp[Deed.rest] at hd
 | move x p=>rw[List.mem_singleton.mp hd];exact .inr ⟨p,rfl,big_pl h3⟩
 | count x k=>rw[List.mem_singleton.mp hd];exact .inr ⟨k,rfl,big_of hf⟩
 | name x y=>rw[List.mem_singleton.mp hd];exact part_name (h1 y (by simp[Deed.names]))
 | split x y p k=>
   rcases List.mem_cons.mp hd with rfl | hd
   · exact part_name (h1 y (by simp[Deed.names]))
   rcases List.mem_cons.mp hd with rfl | hd
   · exact .inr ⟨p,rfl,big_pl h3⟩
   · rw[List.mem_singleton.mp hd];exact .inr ⟨k,rfl,big_of hf⟩
 | join x y=>rw[List.mem_singleton.mp hd];exact part_name (h1 y (by simp[Deed.names]))
theorem partS_ok {d:PyData}(h:okPart d):(partS d).cps.toList.length≤19∧(∀c∈(partS d).cps.toList,c < 128)∧32∉(partS d).cps.toList:=by
 rcases h with ⟨s,rfl,h1,h2⟩ | ⟨n,rfl,hb⟩
 · refine⟨?_,fun c hc=>let_lt (h2 c hc),fun hc=>?_⟩
   · have:s.cps.toList.length≤8:=by rw[Array.length_toList];exact h1
     exact Nat.le_trans this (by decide)
   · have:=h2 32 hc
     exact absurd this (by decide)
 · obtain⟨c1,c2⟩:=dec_chars hb
   refine⟨by show(decS n).cps.toList.length≤19;rw[Array.length_toList];exact c2,fun c hc=>?_,fun hc=>?_⟩
   · rcases c1 c hc with rfl | h
     · decide
     · omega
   · have:=c1 32 hc;omega
theorem sp_is:Str.ofString " "=⟨#[32]⟩:=by decide +kernel
theorem list_len2 (D:Deed):D.list.length≤5:=by cases D <;> simp[Deed.list,Deed.rest]
theorem sum_leK {α:Type}(f:α→Nat) {k:Nat}:∀(l:List α),(∀a∈l,f a≤k)→(l.map f).sum≤l.length*k
 | [],_=>by simp
 | a::r,h=>by
   have h1:=h a (by simp)
   have h2:=sum_leK f r fun b hb=>h b (List.mem_cons_of_mem _ hb)
   rw[List.map_cons,List.sum_cons,List.length_cons,Nat.succ_mul];omega
theorem deed_fits {D:Deed}(h:D.real) (hf:D.fit):((D.list.map partS).map (·.length)).sum+(D.list.map partS).length*(Str.ofString " ").length≤16777216:=by
 have h1:=sum_leK (fun s:Str=>s.length) (k:=19) (D.list.map partS) fun s hs=>by
   obtain⟨d,hd,rfl⟩:=List.mem_map.mp hs
   have:=(partS_ok (parts_ok h hf d hd)).1
   rwa [Array.length_toList] at this
 have h2:=list_len2 D
 rw[List.length_map] at h1 ⊢
 rw[show(Str.ofString " ").length=1 by decide +kernel]
 omega
theorem split_dS {D:Deed}(h:D.real) (hf:D.fit):Txt.split (dS D) (Str.ofString " ")=D.list.map partS:=by
 unfold dS
 rw[sp_is]
 exact split_one (by decide) (by simp[Deed.list]) fun p hp=>by
   obtain⟨d,hd,rfl⟩:=List.mem_map.mp hp
   exact(partS_ok (parts_ok h hf d hd)).2.2
theorem raw_n (s:Str):rawP (.str ⟨#[110]⟩) (.str s) = .str s:=rfl
theorem raw_p {n:Int}(hb:big n):rawP (.str ⟨#[112]⟩) (.str (decS n)) = .int n:=by
 show optI (rwL (decS n).cps.toList)=_
 rw[rw_dec hb];rfl
theorem raw_k {n:Int}(hb:big n):rawP (.str ⟨#[107]⟩) (.str (decS n)) = .int n:=by
 show optI (rwL (decS n).cps.toList)=_
 rw[rw_dec hb];rfl
theorem parts_back {D:Deed}(h:D.real) (hf:D.fit):FORMS.lookup D.word=some D.form∧(D.list.map partS).tail.length=D.form.cps.size∧partsR D.form (D.list.map partS).tail = .str D.fst::D.rest:=by
 obtain⟨h1,h2,h3⟩:=h
 have g1:signs (Str.ofString "npk")=[.str ⟨#[110]⟩,.str ⟨#[112]⟩,.str ⟨#[107]⟩]:=by unfold signs;rw[show(Str.ofString "npk").cps.toList=[110,112,107] by decide +kernel];rfl
 have g2:signs (Str.ofString "n")=[.str ⟨#[110]⟩]:=by unfold signs;rw[show(Str.ofString "n").cps.toList=[110] by decide +kernel];rfl
 have g3:signs (Str.ofString "np")=[.str ⟨#[110]⟩,.str ⟨#[112]⟩]:=by unfold signs;rw[show(Str.ofString "np").cps.toList=[110,112] by decide +kernel];rfl
 have g4:signs (Str.ofString "nk")=[.str ⟨#[110]⟩,.str ⟨#[107]⟩]:=by unfold signs;rw[show(Str.ofString "nk").cps.toList=[110,107] by decide +kernel];rfl
 have g5:signs (Str.ofString "nn")=[.str ⟨#[110]⟩,.str ⟨#[110]⟩]:=by unfold signs;rw[show(Str.ofString "nn").cps.toList=[110,110] by decide +kernel];rfl
 have g6:signs (Str.ofString "nnpk")=[.str ⟨#[110]⟩,.str ⟨#[110]⟩,.str ⟨#[112]⟩,.str ⟨#[107]⟩]:=by unfold signs;rw[show(Str.ofString "nnpk").cps.toList=[110,110,112,107] by decide +kernel];rfl
 cases D with
 | put x p k=>
   refine⟨rfl,by show 3=(Str.ofString "npk").cps.size;decide +kernel,?_⟩
   show((signs (Str.ofString "npk")).zip [.str x,.str (decS p),.str (decS k)]).map (fun q=>rawP q.1 q.2)=[.str x,.int p,.int k]
   rw[g1]
   show [rawP _ _,rawP _ _,rawP _ _]=_
   rw[raw_n,raw_p (big_pl h3),raw_k (big_of hf)]
 | take x=>
   refine⟨rfl,by show 1=(Str.ofString "n").cps.size;decide +kernel,?_⟩
   show((signs (Str.ofString "n")).zip [.str x]).map (fun q=>rawP q.1 q.2)=[.str x]
   rw[g2];rfl
 | move x p=>
   refine⟨rfl,by show 2=(Str.ofString "np").cps.size;decide +kernel,?_⟩
   show((signs (Str.ofString "np")).zip [.str x,.str (decS p)]).map (fun q=>rawP q.1 q.2)=[.str x,.int p]
   rw[g3]
   show [rawP _ _,rawP _ _]=_
   rw[raw_n,raw_p (big_pl h3)]
 | count x k=>
   refine⟨rfl,by show 2=(Str.ofString "nk").cps.size;decide +kernel,?_⟩
   show((signs (Str.ofString "nk")).zip [.str x,.str (decS k)]).map (fun q=>rawP q.1 q.2)=[.str x,.int k]
   rw[g4]
   show [rawP _ _,rawP _ _]=_
   rw[raw_n,raw_k (big_of hf)]
 | name x y=>
   refine⟨rfl,by show 2=(Str.ofString "nn").cps.size;decide +kernel,?_⟩
   show((signs (Str.ofString "nn")).zip [.str x,.str y]).map (fun q=>rawP q.1 q.2)=[.str x,.str y]
   rw[g5];rfl
 | split x y p k=>
   refine⟨rfl,by show 4=(Str.ofString "nnpk").cps.size;decide +kernel,?_⟩
   show((signs (Str.ofString "nnpk")).zip [.str x,.str y,.str (decS p),.str (decS k)]).map (fun q=>rawP q.1 q.2)=[.str x,.str y,.int p,.int k]
   rw[g6]
   show [rawP _ _,rawP _ _,rawP _ _,rawP _ _]=_
   rw[raw_n,raw_n,raw_p (big_pl h3),raw_k (big_of hf)]
 | join x y=>
   refine⟨rfl,by show 2=(Str.ofString "nn").cps.size;decide +kernel,?_⟩
   show((signs (Str.ofString "nn")).zip [.str x,.str y]).map (fun q=>rawP q.1 q.2)=[.str x,.str y]
   rw[g5];rfl
theorem rd_dS {D:Deed}(h:D.real) (hf:D.fit):rdD (.str (dS D))=some D.d:=by
 show rdL (Txt.split (dS D) (Str.ofString " "))=_
 rw[split_dS h hf]
 obtain⟨e1,e2,e3⟩:=parts_back h hf
 show rdL (D.word::(D.list.map partS).tail)=_
 unfold rdL
 dsimp only
 rw[e1]
 dsimp only
 rw[if_pos e2,e3,if_pos (by have:=real_is h;rw[D.d_eq] at this;exact this),D.d_eq]
def fitD (c p:PyData):PyData:=if fitsB c (rawP c p) then rawP c p else .none
def fitL (f:Str) (ps:List Str):List PyData:=((signs f).zip (ps.map .str)).map fun q=>fitD q.1 q.2
def dueL:List Str→PyData
 | w::ps=>match FORMS.lookup w with
   | some f=>if ps.length=f.cps.size then (if (fitL f ps).any (fun e=>PyData.eqv e .none)||(twoW w&&PyData.eqv ((fitL f ps).getD 0 .none) ((fitL f ps).getD 1 .none)) then .none else .tuple (.str w::fitL f ps)) else .none
   | none=>.none
 | []=>.none
theorem zip_all {α β:Type}(g:α×β→β) (h:α×β→Bool):∀(as:List α) (bs:List β),(as.zip ((as.zip bs).map g)).all h=(as.zip bs).all fun q=>h (q.1,g q)
 | [],_=>rfl
 | _::_,[]=>rfl
 | a::as,b::bs=>by
   rw[List.zip_cons_cons,List.map_cons,List.zip_cons_cons,List.all_cons,List.all_cons,zip_all g h as bs]
theorem fit_none {c p:PyData}(h:fitsB c (rawP c p)=false):fitD c p = .none:=by unfold fitD;rw[h];rfl
theorem fit_some {c p:PyData}(h:fitsB c (rawP c p)=true):fitD c p=rawP c p:=by unfold fitD;rw[h];rfl
theorem fits_notnone {c d:PyData}(h:fitsB c d=true):PyData.eqv d .none=false:=by
 cases d <;> first | rfl | (exfalso;unfold fitsB at h;revert h;cases c <;> simp[nameD,placeD,wholeD])
theorem fit_any (f:Str) (ps:List Str):(fitL f ps).any (fun e=>PyData.eqv e .none) = !fitsAll f (partsR f ps):=by
 unfold fitL fitsAll partsR
 rw[zip_all,List.any_map,List.not_all_eq_any_not]
 congr 1
 funext q
 show PyData.eqv (fitD q.1 q.2) .none = !fitsB q.1 (rawP q.1 q.2)
 cases h:fitsB q.1 (rawP q.1 q.2) with
 | false=>rw[fit_none h];rfl
 | true=>rw[fit_some h,fits_notnone h];rfl
theorem fit_all {f:Str}{ps:List Str}(h:fitsAll f (partsR f ps)=true):fitL f ps=partsR f ps:=by
 unfold fitsAll partsR at h
 rw[zip_all,List.all_eq_true] at h
 unfold fitL partsR
 apply List.map_congr_left
 intro q hq
 exact fit_some (h q hq)
theorem partsR_len {f:Str}{ps:List Str}(h:ps.length=f.cps.size):(partsR f ps).length=f.cps.size:=by
 unfold partsR
 rw[List.length_map,List.length_zip,signs_len,List.length_map,h,Nat.min_self]
theorem due_rd:∀ws:List Str,dueL ws=optP (rdL ws)
 | []=>rfl
 | w::ps=>by
   unfold dueL rdL
   dsimp only
   cases hf:FORMS.lookup w with
   | none=>rfl
   | some f=>
     dsimp only
     by_cases hl:ps.length=f.cps.size
     · rw[if_pos hl,if_pos hl]
       have e:isDeedL (.str w::partsR f ps)=(fitsAll f (partsR f ps)&&(!twoW w||!PyData.eqv ((partsR f ps).getD 0 .none) ((partsR f ps).getD 1 .none))):=by
         unfold isDeedL
         dsimp only
         rw[hf]
         dsimp only
         rw[partsR_len hl,beq_self_eq_true,Bool.true_and]
       rw[e,fit_any]
       cases ha:fitsAll f (partsR f ps) with
       | false=>rfl
       | true=>
         rw[fit_all ha]
         cases twoW w <;> cases PyData.eqv ((partsR f ps).getD 0 .none) ((partsR f ps).getD 1 .none) <;> rfl
     · rw[if_neg hl,if_neg hl];rfl
theorem first_minus (s:Str):(Txt.slice s none (some 1)==Str.ofString "-")=decide (s.cps.toList.head?=some 45):=by
 have e:(Txt.slice s none (some 1)).cps.toList=s.cps.toList.take 1:=slice_take s 1
 rw[show Str.ofString "-"=⟨#[45]⟩ by decide +kernel,Bool.eq_iff_iff,beq_iff_eq,decide_eq_true_iff]
 constructor
 · intro h
   rw[h] at e
   cases hl:s.cps.toList with
   | nil=>rw[hl] at e;simp at e
   | cons y ys=>
     rw[hl] at e
     have:y=45:=by simpa using e.symm
     rw[this];rfl
 · intro h
   apply str_ext
   rw[e]
   cases hl:s.cps.toList with
   | nil=>rw[hl] at h;cases h
   | cons y ys=>
     rw[hl] at h
     have:y=45:=by simpa using h
     rw[this];rfl
theorem int_of_row {s:Str}(h:rowL (figsL s.cps.toList)=true) (hl:s.length≤640):PySem.intText? s=some (if decide (s.cps.toList.head?=some 45) then - valL (figsL s.cps.toList) 0 else valL (figsL s.cps.toList) 0):=by
 unfold rowL at h
 rw[Bool.and_eq_true] at h
 have ha:∀c∈figsL s.cps.toList,48≤c∧c≤57:=fun c hc=>figB_iff.mp (List.all_eq_true.mp h.2 c hc)
 have hne:figsL s.cps.toList≠[]:=by
   intro e;rw[e] at h;exact absurd h.1 (by decide)
 by_cases hm:s.cps.toList.head?=some 45
 · have hf:figsL s.cps.toList=s.cps.toList.tail:=by unfold figsL;rw[if_pos hm]
   rw[decide_eq_true hm,if_pos rfl]
   rw[hf] at ha hne ⊢
   refine text_neg (cs:=s.cps.toList.tail) ?_ ha hne (Nat.le_trans hl (by decide))
   cases hl:s.cps.toList with
   | nil=>rw[hl] at hm;cases hm
   | cons y ys=>
     rw[hl] at hm
     have:y=45:=by simpa using hm
     rw[this];rfl
 · have hf:figsL s.cps.toList=s.cps.toList:=by unfold figsL;rw[if_neg hm]
   rw[decide_eq_false hm,if_neg nft]
   rw[hf] at ha hne ⊢
   exact text_pos ha hne (Nat.le_trans hl (by decide))
theorem fit_n {c:Nat}{s:Str}(h:((⟨#[c]⟩:Str)==Str.ofString "n")=true):fitD (.str ⟨#[c]⟩) (.str s)=if nameD (.str s) then .str s else .none:=by
 have e:rawP (.str ⟨#[c]⟩) (.str s) = .str s:=by show(if ((⟨#[c]⟩:Str)==Str.ofString "n") then PyData.str s else rwD (.str s))=_;rw[h];rfl
 have e2:∀d,fitsB (.str ⟨#[c]⟩) d=nameD d:=fun d=>by show(if ((⟨#[c]⟩:Str)==Str.ofString "n") then nameD d else _)=_;rw[h];rfl
 unfold fitD
 rw[e,e2]
theorem fit_p {c:Nat}{s:Str}(h:((⟨#[c]⟩:Str)==Str.ofString "n")=false) (h2:((⟨#[c]⟩:Str)==Str.ofString "p")=true):fitD (.str ⟨#[c]⟩) (.str s)=if placeD (rwD (.str s)) then rwD (.str s) else .none:=by
 have e:rawP (.str ⟨#[c]⟩) (.str s)=rwD (.str s):=by show(if ((⟨#[c]⟩:Str)==Str.ofString "n") then PyData.str s else rwD (.str s))=_;rw[h];rfl
 have e2:∀d,fitsB (.str ⟨#[c]⟩) d=placeD d:=fun d=>by show(if ((⟨#[c]⟩:Str)==Str.ofString "n") then nameD d else if ((⟨#[c]⟩:Str)==Str.ofString "p") then placeD d else wholeD d)=_;rw[h,h2];rfl
 unfold fitD
 rw[e,e2]
theorem fit_k {c:Nat}{s:Str}(h:((⟨#[c]⟩:Str)==Str.ofString "n")=false) (h2:((⟨#[c]⟩:Str)==Str.ofString "p")=false):fitD (.str ⟨#[c]⟩) (.str s)=rwD (.str s):=by
 have e:rawP (.str ⟨#[c]⟩) (.str s)=rwD (.str s):=by show(if ((⟨#[c]⟩:Str)==Str.ofString "n") then PyData.str s else rwD (.str s))=_;rw[h];rfl
 have e2:∀d,fitsB (.str ⟨#[c]⟩) d=wholeD d:=fun d=>by show(if ((⟨#[c]⟩:Str)==Str.ofString "n") then nameD d else if ((⟨#[c]⟩:Str)==Str.ofString "p") then placeD d else wholeD d)=_;rw[h,h2];rfl
 unfold fitD
 rw[e,e2]
 show(if wholeD (optI (rwL s.cps.toList)) then optI (rwL s.cps.toList) else .none)=optI (rwL s.cps.toList)
 cases rwL s.cps.toList <;> rfl
def S11_count:FSp:=⟨fun xs M=>∃p o,xs=[.loc p]∧M p=some o∧pack1 o,fun xs M y M'=>∀p,xs=[.loc p]→∃n o,y = .d (.int n)∧(-1000000000000≤n∧n≤1000000000000)∧pack1 o∧M'=M.put p o⟩
theorem count11_call {p:Addr}{o:MO}{M:Own}{Q:DS→Own→Prop}(m:M p=some o) (ho:pack1 o) (q:∀n o',-1000000000000≤n∧n≤1000000000000→pack1 o'→Q (.d (.int n)) (M.put p o')):[DS.loc p].length=1∧S11_count.pre [.loc p] M∧∀x M',S11_count.post [.loc p] M x M'→Q x M':=
 ⟨rfl,⟨p,o,rfl,m,ho⟩,fun x M' h=>by obtain⟨n,o',rfl,h1,h2,rfl⟩:=h p rfl;exact q n o' h1 h2⟩
def S11_any:FSp:=⟨fun xs M=>∃(p:Addr) (o:MO) (ys:List Str),xs=[.loc p,.d (.list (ys.map .str))]∧M p=some o∧pack1 o∧2≤ys.length∧ys.length≤100∧goodY ys,
 fun xs M y M'=>∀p k,xs=[.loc p,k]→∃(D:Deed) (o:MO),y = .d D.d∧D.real∧D.fit∧pack1 o∧M'=M.put p o⟩
theorem any11_call {p:Addr}{ys:List Str}{o:MO}{M:Own}{Q:DS→Own→Prop}(m:M p=some o) (ho:pack1 o) (h0:2≤ys.length) (h1:ys.length≤100) (hy:goodY ys) (q:∀(D:Deed) o',D.real→D.fit→pack1 o'→Q (.d D.d) (M.put p o')) :
   [DS.loc p,.d (.list (ys.map .str))].length=2∧S11_any.pre [.loc p,.d (.list (ys.map .str))] M∧∀x M',S11_any.post [.loc p,.d (.list (ys.map .str))] M x M'→Q x M':=
 ⟨rfl,⟨p,o,ys,rfl,m,ho,h0,h1,hy⟩,fun x M' h=>by obtain⟨D,o',rfl,a,b,c,rfl⟩:=h p _ rfl;exact q D o' a b c⟩
theorem kinds_fit {y1 y2:Str}{pl k:Int}{D:Deed}(hk : -1000000000000≤k∧k≤1000000000000) (h:D∈[Deed.put y1 pl k,.take y1,.move y1 pl,.count y1 k,.name y1 y2,.split y1 y2 pl k,.join y1 y2]):D.fit:=by
 simp only[List.mem_cons,List.not_mem_nil,or_false] at h
 rcases h with rfl | rfl | rfl | rfl | rfl | rfl | rfl <;> first | exact hk | trivial
def shortT (d:PyData):Prop:=∃s:Str,d = .str s∧okS s∧s.length≤640
def S11_number:FSp:=fn1 shortT rwD
def S11_part:FSp:=fn2 (fun a b=>shortT a∧∃c:Nat,b = .str ⟨#[c]⟩∧c < 128) fun a b=>fitD b a
def S11_due:FSp:=⟨fun xs M=>∃x:Str,xs=[.d (.str x)]∧okS x∧∀w∈Txt.split x (Str.ofString " "),w.length≤640,fun xs M y M'=>∀x,xs=[.d (.str x)]→y = .d (optP (rdD (.str x)))∧M'=M⟩
theorem due11_call {x:Str}{M:Own}{Q:DS→Own→Prop}(h:okS x) (hw:∀w∈Txt.split x (Str.ofString " "),w.length≤640) (q:Q (.d (optP (rdD (.str x)))) M) :
   [DS.d (.str x)].length=1∧S11_due.pre [.d (.str x)] M∧∀y M',S11_due.post [.d (.str x)] M y M'→Q y M':=
 ⟨rfl,⟨x,rfl,h,hw⟩,fun y M' g=>by obtain⟨rfl,rfl⟩:=g x rfl;exact q⟩
def S11_turned:FSp:=⟨fun xs M=>∃(p:Addr) (o:MO) (x:Str),xs=[.loc p,.d (.str x)]∧M p=some o∧pack1 o∧x.cps.toList.length≤110∧(∀c∈x.cps.toList,c < 128)∧(Txt.split x (Str.ofString " ")).length≤5,fun xs M y M'=>∀p k,xs=[.loc p,k]→∃(z:Str) (o:MO),y = .d (.str z)∧okS z∧pack1 o∧M'=M.put p o⟩
theorem turned_call {p:Addr}{o:MO}{x:Str}{M:Own}{Q:DS→Own→Prop}(m:M p=some o) (ho:pack1 o) (h1:x.cps.toList.length≤110) (h2:∀c∈x.cps.toList,c < 128) (h3:(Txt.split x (Str.ofString " ")).length≤5) (q:∀z o',okS z→pack1 o'→Q (.d (.str z)) (M.put p o')) :
   [DS.loc p,.d (.str x)].length=2∧S11_turned.pre [.loc p,.d (.str x)] M∧∀y M',S11_turned.post [.loc p,.d (.str x)] M y M'→Q y M':=
 ⟨rfl,⟨p,o,x,rfl,m,ho,h1,h2,h3⟩,fun y M' h=>by obtain⟨z,o',rfl,a,b,rfl⟩:=h p _ rfl;exact q z o' a b⟩
def S11_right:FSp:=⟨fun xs M=>∃d,xs=[.d d,.d (optP (rdD d))]∧okD d,fun xs M y M'=>y = .d (.bool true)∧M'=M⟩
theorem right11_call {d e:PyData}{M:Own}{Q:DS→Own→Prop}(he:e=optP (rdD d)) (h:okD d) (q:Q (.d (.bool true)) M) :
   [DS.d d,.d e].length=2∧S11_right.pre [.d d,.d e] M∧∀y M',S11_right.post [.d d,.d e] M y M'→Q y M':=
 ⟨rfl,⟨d,by rw[he],h⟩,fun y M' g=>by obtain⟨rfl,rfl⟩:=g;exact q⟩
theorem raw_cases (c:PyData) (p:Str):rawP c (.str p) = .str p∨(∃n,rawP c (.str p) = .int n)∨rawP c (.str p) = .none:=by
 have h:(∃n,rwD (.str p) = .int n)∨rwD (.str p) = .none:=by
   show(∃n,optI (rwL p.cps.toList) = .int n)∨optI (rwL p.cps.toList) = .none
   cases rwL p.cps.toList with
   | none=>exact .inr rfl
   | some n=>exact .inl ⟨n,rfl⟩
 unfold rawP
 split
 · split
   · exact .inl rfl
   · exact .inr h
 · exact .inr h
theorem partsR_mem {f:Str}{ps:List Str}{d:PyData}(h:d∈partsR f ps):(∃p∈ps,d = .str p)∨(∃n,d = .int n)∨d = .none:=by
 obtain⟨⟨c,q⟩,hq,rfl⟩:=List.mem_map.mp h
 obtain⟨p,hp,e⟩:=List.mem_map.mp (List.of_mem_zip hq).2
 have e':q = .str p:=e.symm
 subst e'
 rcases raw_cases c p with h | h | h
 · exact .inl ⟨p,hp,h⟩
 · exact .inr (.inl h)
 · exact .inr (.inr h)
def rawQ:PyData→PyData | .tuple [a,b]=>rawP a b | d=>d
theorem zip_rawQ (f:Str) (ps:List Str):((zipD (signs f) (ps.map .str)).filter fun _=>true).map rawQ=partsR f ps:=by
 rw[List.filter_eq_self.mpr (fun _ _=>rfl)]
 unfold zipD partsR
 rw[List.map_map];rfl
theorem shaped_sign {c:Nat}(h:c < 128):PySem.SeqAt.shaped (.str ⟨#[c]⟩)=true:=shaped_asc fun d hd=>by
 have:d=c:=by simpa using hd
 rw[this];exact h
theorem parts_okD {f w:Str}{ps:List Str}(hw:okS w) (hp:∀p∈ps,okS p):∀d∈(.str w::partsR f ps:List PyData),okD d:=fun d hd=>by
 rcases List.mem_cons.mp hd with rfl | hd
 · exact hw
 · rcases partsR_mem hd with ⟨p,h,rfl⟩ | ⟨n,rfl⟩ | rfl
   · exact hp p h
   · trivial
   · trivial
theorem parts_shaped {f w:Str}{ps:List Str}(hw:okS w) (hp:∀p∈ps,okS p):PySem.SeqAt.shaped (.tuple (.str w::partsR f ps))=true:=by
 have hm:∀d∈(.str w::partsR f ps:List PyData),(∃s:Str,d = .str s∧okS s)∨(∃n,d = .int n)∨d = .none:=fun d hd=>by
   rcases List.mem_cons.mp hd with rfl | hd
   · exact .inl ⟨w,rfl,hw⟩
   · rcases partsR_mem hd with ⟨p,h,rfl⟩ | h | h
     · exact .inl ⟨p,rfl,hp p h⟩
     · exact .inr (.inl h)
     · exact .inr (.inr h)
 refine shaped_of (canAll fun d hd=>?_) ?_
 · rcases hm d hd with ⟨s,rfl,hs⟩ | ⟨n,rfl⟩ | rfl
   · exact strOk_asc hs.2
   · rfl
   · rfl
 · have:PyData.depthAll (.str w::partsR f ps)≤0:=depAll fun d hd=>by
     rcases hm d hd with ⟨s,rfl,hs⟩ | ⟨n,rfl⟩ | rfl <;> exact Nat.le_refl 0
   simp only[PyData.depth];omega
theorem rd_shaped {d r:PyData}(ho:okD d) (h:rdD d=some r):∃ds,r = .tuple ds∧PySem.SeqAt.shaped (.tuple ds)=true:=by
 cases d <;> try (cases h;done)
 rename_i x
 have hx:okS x:=ho
 have hs:=split_ok1 (y:=Str.ofString " ") hx
 have h':rdL (Txt.split x (Str.ofString " "))=some r:=h
 revert hs h'
 generalize Txt.split x (Str.ofString " ")=ws
 intro hs h'
 cases ws with
 | nil=>cases h'
 | cons w ps=>
   unfold rdL at h'
   dsimp only at h'
   cases hf:FORMS.lookup w with
   | none=>rw[hf] at h';cases h'
   | some f=>
     rw[hf] at h'
     dsimp only at h'
     by_cases h1:ps.length=f.cps.size
     · rw[if_pos h1] at h'
       by_cases h2:isDeedL (.str w::partsR f ps)=true
       · rw[if_pos h2] at h'
         cases h'
         exact⟨_,rfl,parts_shaped (hs w (by simp)) fun p hp=>hs p (List.mem_cons_of_mem _ hp)⟩
       · rw[if_neg h2] at h';cases h'
     · rw[if_neg h1] at h';cases h'
theorem eqv_ine {a b:Int}(h:a≠b):PyData.eqv (.int a) (.int b)=false:=by simp only[PyData.eqv];exact beq_eq_false_iff_ne.mpr h
theorem eqv_ie {a b:Int}(h:a=b):PyData.eqv (.int a) (.int b)=true:=by simp only[PyData.eqv];exact beq_iff_eq.mpr h
theorem lookK_map (k:Str):∀l:List (Str×Str),lookK k (l.map fun p=>(PyData.str p.1,PyData.str p.2))=(l.lookup k).map .str
 | []=>rfl
 | (a,b)::r=>by
   rw[List.map_cons,List.lookup_cons]
   show(if a=k then some (PyData.str b) else lookK k (r.map _))=_
   by_cases h:a=k
   · subst h;rw[if_pos rfl,beq_self_eq_true];rfl
   · rw[if_neg h,show(k==a)=false from beq_eq_false_iff_ne.mpr fun e=>h e.symm]
     exact lookK_map k r
theorem form_two {w f:Str}(h:FORMS.lookup w=some f):(Txt.slice f none (some 2)==Str.ofString "nn")=twoW w:=by
 rcases forms_at h with ⟨rfl,rfl⟩ | ⟨rfl,rfl⟩ | ⟨rfl,rfl⟩ | ⟨rfl,rfl⟩ | ⟨rfl,rfl⟩ | ⟨rfl,rfl⟩ | ⟨rfl,rfl⟩ <;> decide +kernel
theorem fit_cases (c:PyData) (p:Str):fitD c (.str p) = .str p∨(∃n,fitD c (.str p) = .int n)∨fitD c (.str p) = .none:=by
 cases h:fitsB c (rawP c (.str p)) with
 | true=>rw[fit_some h];exact raw_cases c p
 | false=>rw[fit_none h];exact .inr (.inr rfl)
theorem fit_shaped {c:PyData}{p:Str}(h:okS p):PySem.SeqAt.shaped (fitD c (.str p))=true:=by
 rcases fit_cases c p with e | ⟨n,e⟩ | e
 · rw[e];exact shaped_asc h.2
 · rw[e];rfl
 · rw[e];rfl
theorem fitL_mem {f:Str}{ps:List Str}{d:PyData}(h:d∈fitL f ps):∃c,∃p∈ps,d=fitD c (.str p):=by
 obtain⟨⟨c,q⟩,hq,rfl⟩:=List.mem_map.mp h
 obtain⟨p,hp,e⟩:=List.mem_map.mp (List.of_mem_zip hq).2
 have e':q = .str p:=e.symm
 subst e'
 exact⟨c,p,hp,rfl⟩
theorem fitL_shaped {f:Str}{ps:List Str}(hp:∀p∈ps,okS p):PySem.SeqAt.shaped (.list (fitL f ps))=true:=by
 refine shaped_of (canAll fun d hd=>?_) ?_
 · obtain⟨c,p,h,rfl⟩:=fitL_mem hd
   exact PySem.SeqAt.canLay_of_shaped (fit_shaped (hp p h))
 · have:PyData.depthAll (fitL f ps)≤0:=depAll fun d hd=>by
     obtain⟨c,p,h,rfl⟩:=fitL_mem hd
     rcases fit_cases c p with e | ⟨n,e⟩ | e <;> rw[e] <;> exact Nat.le_refl 0
   simp only[PyData.depth];omega
def fitK (f:Str) (ps:List Str):PyData→PyData
 | .int k=>fitD (.str ⟨#[f.cps.toList.getD k.toNat 0]⟩) (.str (ps.getD k.toNat Str.empty))
 | d=>d
theorem fitL_len {f:Str}{ps:List Str}(h:ps.length=f.cps.size):(fitL f ps).length=f.cps.size:=by
 unfold fitL
 rw[List.length_map,List.length_zip,signs_len,List.length_map,h,Nat.min_self]
theorem fitL_at {f:Str}{ps:List Str}(h:ps.length=f.cps.size) {k:Nat}(hk:k < f.cps.size):(fitL f ps)[k]?=some (fitK f ps (.int (k:Nat))):=by
 have hs:(signs f)[k]?=some (.str ⟨#[f.cps.toList.getD k 0]⟩):=by
   unfold signs
   rw[List.getElem?_map,List.getD_eq_getElem?_getD,List.getElem?_eq_getElem (by simpa using hk)];rfl
 have hp:(ps.map PyData.str)[k]?=some (.str (ps.getD k Str.empty)):=by
   rw[List.getElem?_map,List.getD_eq_getElem?_getD,List.getElem?_eq_getElem (by omega)];rfl
 unfold fitL
 rw[List.getElem?_map,(List.getElem?_zip_eq_some (z:=(PyData.str ⟨#[f.cps.toList.getD k 0]⟩,PyData.str (ps.getD k Str.empty)))).mpr ⟨hs,hp⟩];rfl
theorem ints_fit {f:Str}{ps:List Str}(h:ps.length=f.cps.size):((intsD 0 f.cps.size).filter fun _=>true).map (fitK f ps)=fitL f ps:=by
 rw[List.filter_eq_self.mpr (fun _ _=>rfl)]
 apply List.ext_getElem?
 intro k
 by_cases hk:k < f.cps.size
 · rw[fitL_at h hk,List.getElem?_map]
   have:(intsD 0 f.cps.size)[k]?=some (.int (k:Nat)):=by
     unfold intsD
     simp[hk]
   rw[this];rfl
 · rw[List.getElem?_eq_none (by simp[intsD];omega),List.getElem?_eq_none (by rw[fitL_len h];omega)]
def okA (n:Nat) (s:Str):Prop:=s.cps.toList.length≤n∧∀c∈s.cps.toList,c < 128
theorem okA.len {n:Nat}{s:Str}(h:okA n s):s.length≤n:=by have:=h.1;rwa [Array.length_toList] at this
theorem okA.app {n m:Nat}{a b:Str}(ha:okA n a) (hb:okA m b):okA (n+m) (a++b):=by
 refine⟨by rw[app_list,List.length_append];exact Nat.add_le_add ha.1 hb.1,fun c hc=>?_⟩
 rw[app_list] at hc
 rcases List.mem_append.mp hc with h | h
 · exact ha.2 c h
 · exact hb.2 c h
theorem okA.to {n k:Nat}{s:Str}(h:okA n s):okA n (Txt.slice s none (some (k:Int))):=by
 refine⟨by rw[slice_take,List.length_take];have:=h.1;omega,fun c hc=>?_⟩
 rw[slice_take] at hc
 exact h.2 c (List.mem_of_mem_take hc)
theorem okA.frm {n k:Nat}{s:Str}(h:okA n s):okA n (Txt.slice s (some (k:Int)) none):=by
 refine⟨by rw[slice_from,List.length_drop];have:=h.1;omega,fun c hc=>?_⟩
 rw[slice_from] at hc
 exact h.2 c (List.mem_of_mem_drop hc)
theorem okA.ok {n:Nat}{s:Str}(h:okA n s) (hn:n≤5000):okS s:=⟨Nat.le_trans h.len hn,h.2⟩
theorem okA_join {n k:Nat}{ps:List Str}(hp:∀p∈ps,okA n p) (hk:ps.length≤k):okA (k*(n+3)) (Txt.join (Str.ofString " ") ps):=by
 constructor
 · rw[txt_list]
   have:=glue_len (s:=(Str.ofString " ").cps.toList) (k:=n) (by decide +kernel) (ps:=ps.map (·.cps.toList)) fun p h=>by
     obtain⟨q,hq,rfl⟩:=List.mem_map.mp h
     exact(hp q hq).1
   rw[List.length_map] at this
   exact Nat.le_trans this (Nat.mul_le_mul_right _ hk)
 · intro c hc
   rw[txt_list] at hc
   rcases glue_mem hc with h | ⟨p,hp',h⟩
   · have:∀c∈(Str.ofString " ").cps.toList,c < 128:=by decide +kernel
     exact this c h
   · obtain⟨q,hq,rfl⟩:=List.mem_map.mp hp'
     exact(hp q hq).2 c h
theorem fits_join {n k:Nat}{ps:List Str}(hp:∀p∈ps,okA n p) (hk:ps.length≤k) (hn:n≤1000) (hk2:k≤100):(ps.map (·.length)).sum+ps.length*(Str.ofString " ").length≤16777216:=by
 have h1:=sum_leK (fun s:Str=>s.length) (k:=n) ps fun s hs=>(hp s hs).len
 rw[show(Str.ofString " ").length=1 by decide +kernel]
 have h2:ps.length*n≤100*1000:=Nat.mul_le_mul (Nat.le_trans hk hk2) hn
 have h3:ps.length*1≤100:=by omega
 have h4:(ps.map (·.length)).sum≤ps.length*n:=h1
 omega
def oddW:List Str:=[Str.ofString " ", Str.ofString "-", Str.ofString "0", Str.ofString "00", Str.ofString "-0", Str.ofString "+1", Str.ofString "a", Str.ofString "A", Str.ofString "7", Str.ofString ".", Str.ofString "\n", Str.ofString "1000", Str.ofString "put", Str.ofString "take", Str.ofString "1e2", Str.ofString "x y"]
theorem oddW_ok:∀s∈oddW,s.cps.toList.length≤4∧∀c∈s.cps.toList,c < 128:=by decide +kernel
theorem dS_okA {D:Deed}(h:D.real) (hf:D.fit):okA 110 (dS D):=
 okA_join (n:=19) (k:=5) (fun p hp=>by
   obtain⟨d,hd,rfl⟩:=List.mem_map.mp hp
   have:=partS_ok (parts_ok h hf d hd)
   exact⟨this.1,this.2.1⟩) (by rw[List.length_map];exact list_len2 D)
theorem all_same {l:List PyData}:((l.filter fun _=>true).map fun _=>PyData.bool true)=(List.replicate l.length true).map .bool:=by
 rw[List.filter_eq_self.mpr (fun _ _=>rfl),List.map_replicate]
 induction l with
 | nil=>rfl
 | cons a r ih=>rw[List.map_cons,ih];rfl
theorem all_rep (n:Nat):(List.replicate n true).all id=true:=by rw[List.all_eq_true];intro x hx;exact(List.mem_replicate.mp hx).2
def names11:List Str:=[Str.ofString "put", Str.ofString "take", Str.ofString "split", Str.ofString "name"]
theorem names11_ok:goodY names11:=⟨by
 intro z hz
 simp only[names11,List.mem_cons,List.not_mem_nil,or_false] at hz
 rcases hz with rfl | rfl | rfl | rfl <;> exact⟨by decide +kernel,by decide +kernel,by decide +kernel⟩,by decide +kernel⟩
def shortW:PyData→PyData | .str q=>.bool (decide ((q.length:Int) < 13)) | d=>d
theorem short_list (ws:List Str):(((ws.map PyData.str).filter fun _=>true).map shortW)=(ws.map fun q=>decide ((q.length:Int) < 13)).map .bool:=by
 rw[List.filter_eq_self.mpr (fun _ _=>rfl),List.map_map,List.map_map];rfl
theorem empty_none:rdD (.str (Str.ofString ""))=none:=by
 have e:Txt.split (Str.ofString "") (Str.ofString " ")=[Str.ofString ""]:=by decide +kernel
 show rdL (Txt.split (Str.ofString "") (Str.ofString " "))=none
 rw[e]
 rfl
theorem space_none:rdD (.str (Str.ofString " "))=none:=by
 have e:Txt.split (Str.ofString " ") (Str.ofString " ")=[Str.ofString "", Str.ofString ""]:=by decide +kernel
 show rdL (Txt.split (Str.ofString " ") (Str.ofString " "))=none
 rw[e]
 rfl
end DL
namespace DL
open PySem PySem.Spec L2
def FnIn (K:Frg) (n:Str) (st:Stmt):Prop:=∃(f:Addr) (oc:Value) (od:Option Addr) (kV dc pm:Value) (an:Option Addr) (cd ct:Value) (sl:Array (Option Value)),PySem.W.nsIn K mainGlobals n=some (some (.ref f)) ∧
 K.lookup f=some ⟨oc,od,.func (PySem.W.fnOf n n (defArgs st) (defBody st) (defScope st) .none kV dc pm an cd ct),sl⟩∧PySem.W.codeIn K cd n=true∧PySem.W.keepIn K (.ref f)=true
theorem fnIn_mk {K:Frg}{n:Str}{st:Stmt}{f:Addr}{oc:Value}{od:Option Addr}{kV dc pm:Value}{an:Option Addr}{cd ct:Value}{sl:Array (Option Value)}(a:PySem.W.nsIn K mainGlobals n=some (some (.ref f)))
   (l:K.lookup f=some ⟨oc,od,.func (PySem.W.fnOf n n (defArgs st) (defBody st) (defScope st) .none kV dc pm an cd ct),sl⟩) (c:PySem.W.codeIn K cd n=true) (k:PySem.W.keepIn K (.ref f)=true):FnIn K n st:=⟨f,oc,od,kV,dc,pm,an,cd,ct,sl,a,l,c,k⟩
structure FnAt (K:Frg) (mg:Str→Option Value) (n:Str) (st:Stmt) (f:Addr) (fd:FuncData):Prop where
 fn:Fun K n n st f fd
 mg_:mg n=some (.ref f)
 kp:PySem.W.keepIn K (.ref f)=true
theorem FnIn.at {K:Frg}{n:Str}{st:Stmt}{h:Heap}{mg:Str→Option Value}(b:FnIn K n st) (X:K.In h) (G:h.Ns mainGlobals mg):∃f fd,FnAt K mg n st f fd:=
 let ⟨f,_,_,_,_,_,_,_,_,_,a,l,c,k⟩:=b
 ⟨f,_,fun_mk l c k,PySem.W.mg_of X G a,k⟩
section
variable {P:Program}{w:World}{K:Frg}{mg:Str→Option Value}{base:Heap}{n:Str}{st:Stmt}{f:Addr}{fd:FuncData}{k:Nat}{ps:List Str}
abbrev BindOk (n:Str) (st:Stmt) (ps:List Str):Prop:=∀(kV doc pm:Value) (an:Option Addr) (cdv ct:Value) (us:List Value),us.length=ps.length→bindArgs (PySem.W.fnOf n n (defArgs st) (defBody st) (defScope st) .none kV doc pm an cdv ct) ⟨us,[]⟩=pure (ps.zip us)
theorem FnAt.has {S:FSp}(a:FnAt K mg n st f fd) (h:FnOk P w K mg base CX0 k f fd ps (spD K ps.length S)) (b:BindOk n st ps):Has P w K mg base n k ps S:=⟨f,fd,h,a.mg_,a.kp,a.fn.binds b⟩
theorem FnAt.hasX {S:FSpX}(a:FnAt K mg n st f fd) (h:FnOk P w K mg base (XC.CXE P w) k f fd ps (spX K ps.length S)) (b:BindOk n st ps):HasX P w K mg base n k ps S:=⟨f,fd,h,a.mg_,a.kp,a.fn.binds b⟩
end
end DL
namespace DL
open PySem PySem.Spec L2 XC
local macro_rules | `(tactic| walk_at "lc")=>`(tactic| first | exact Or.inl rfl | exact Or.inr rfl | exact Or.inr (Or.inl rfl) | exact Or.inr (Or.inr rfl))
local macro_rules | `(tactic| walk_at "dl")=>`(tactic| first
 | (with_reducible first | refine ds_seq ?_ | refine dx_seq ?_ | refine ds_set ?_ | refine ds_setc ?_ | refine ds_ret ?_ | refine ds_if ?_ | refine ds_drop ?_ | refine ds_next ?_ | refine ds_setitem ?_ | refine ds_par ?_ | refine dx_if ?_ | refine dx_raise1 ?_ | refine dx_raise0 ?_ | refine dx_drop (dex_call ?_) | refine dx_set (dex_call ?_) | refine dx_ret (dex_call ?_) | refine dx_lift (ds_set ?_) | refine dx_lift (ds_setc ?_) | refine dx_lift (ds_ret ?_) | refine dx_lift (ds_drop ?_) | refine dx_lift (ds_next ?_) | refine dx_lift (ds_setitem ?_) | refine dx_lift (ds_par ?_))
 | ((with_reducible apply de_var);exact rfl)
 | (with_reducible first | refine de_int ?_ | refine de_bl ?_ | refine de_str ?_ | refine de_non ?_ | refine de_fmt ?_ | refine df_val ?_ | refine d2_leI ?_ | refine de_cref ?_ | refine de_ty ?_ | refine de_op ?_ | refine de_un ?_ | refine de_chain ?_ | refine dt_test ?_ | refine dt_b ?_ | refine dt_and ?_ | refine dt_or ?_ | refine dt_not ?_ | refine dt_yes ?_ | refine de_and ?_ | refine de_or ?_ | refine de_not ?_ | refine de_if ?_ | refine da_nil ?_ | refine da_cons ?_ | refine de_cb ?_ | refine de_tup ?_ | refine de_sl ?_ | refine dp_none ?_ | refine dp_some ?_ | refine dg_name ?_ | refine dgs_cons ?_ | refine dgs_nil ?_)
 | ((with_reducible refine dg_tup ?_ ?_);exact rfl)
 | ((with_reducible refine dg_tupA ?_ ?_);exact rfl)
 | (with_reducible first | refine d2_i ?_ | refine d2_b ?_ | refine d1_i ?_ | refine d2B_addi ?_ | refine d2A_lti ?_)
 | ((with_reducible refine d2_iC ?_ ?_);(first
     | ((with_reducible show CMul _ _);first | exact cmul_r (by decide) (by decide) | exact cmul_l (by decide) (by decide) | exact cmul_l (by omega) (by omega))
     | ((with_reducible show CDivL _ _);first | exact⟨by decide,by decide⟩ | exact⟨by assumption,by assumption⟩)
     | ((with_reducible show CPow _ _);exact⟨by decide,by decide,by decide⟩)
     | (show(0:Int) < _;first | decide | assumption | omega)))
 | ((with_reducible apply d2A_ixo);(first | assumption | exact Own.put_same);exact rfl)
 | ((with_reducible apply setq);(first | assumption | exact Own.put_same);exact rfl)
 | ((with_reducible refine d2_mul ?_ ?_);(first | exact CMul.ok (cmul_r (by decide) (by decide)) | exact CMul.ok (cmul_l (by decide) (by decide))))
 | (with_reducible first | refine d2_isB ?_ | refine d2_notB ?_ | refine rd_max ?_ | refine rd_min ?_ | refine rd_intb ?_ | refine dgs_item ?_ | refine rd_abs ?_)
 | ((with_reducible refine dr_isi (b:=true) ?_ ?_);exact rfl)
 | ((with_reducible refine dr_isi (b:=false) ?_ ?_);exact rfl)
 | with_reducible refine de_call ?_
 | ((with_reducible apply lstq);exact rfl;exact Nat.le_of_ble_eq_true rfl)
 | (with_reducible refine Exists.intro _ (And.intro rfl ?_))
 | (with_reducible refine L2.iteT ?_)
 | (with_reducible refine L2.iteF ?_)
 | (refine L2.iteT ?_)
 | (refine L2.iteF ?_))
local macro_rules | `(tactic| walk_at "r")=>`(tactic| repeat walk_at "dl")
local macro_rules | `(tactic| walk_at "wkd")=>`(tactic| repeat (first | walk_at "dl" | refine de_lst ?_ | refine de_dnew ?_))
local macro_rules | `(tactic| walk_at "wks")=>`(tactic| repeat ((fail_if_success (with_reducible show DSt _ _ _ _ _));(first | walk_at "dl" | refine de_lst ?_ | refine de_dnew ?_)))
section
variable {P:Program}{w:World}{K:Frg}{mg:Str→Option Value}{base:Heap}
abbrev s_is_whole:Stmt:=_root_.sT 4
def nm_is_whole:List Str:=["thing"]
theorem sc_is_whole:FnScope nm_is_whole ["thing"] (defScope s_is_whole):=⟨rfl,rfl,rfl,by decide +kernel,rfl,by decide +kernel,by decide +kernel⟩
theorem ok_is_whole {f:Addr}{fd:FuncData}(F:Fun K "is_whole" "is_whole" s_is_whole f fd) (n_bool:mg "bool"=none) (n_int:mg "int"=none) (n_isinstance:mg "isinstance"=none):FnOk P w K mg base CX0 1 f fd ["thing"] (spD K 1 S_is_whole):=by
 refine fnD F sc_is_whole fun cdv A outer s H E hr=>?_
 have hu:=hr.units
 refine⟨_,(@pss_one _ _ _ (@ps_ret _ _ _ _ (@pe_and _ _ _ _ _ _ _ (@pe_callB _ _ _ _ _ _ _ _ _ (@kIsi _ (K) rfl) (by rfl) n_isinstance PyProof.Rows.boot_isinstance (@pa_cons _ _ _ _ _ (@pv _ 0 _ _ (by rfl) (by walk_at "lc") (by decide) (by decide)) (@pa_cons _ _ _ _ _ (@pe_bltn _ _ (.ty "int") _ _ rfl n_int PyProof.Rows.boot_int rfl (by decide) (by decide)) (@pa_nil _) (by rfl)) (by rfl)) (by decide) (by decide) (by rfl) (by rfl)) (@pe_one _ _ _ _ _ (@pe_not _ _ _ _ (@pe_callB _ _ _ _ _ _ _ _ _ (@kIsi _ (K) rfl) (by rfl) n_isinstance PyProof.Rows.boot_isinstance (@pa_cons _ _ _ _ _ (@pv _ 0 _ _ (by rfl) (by walk_at "lc") (by decide) (by decide)) (@pa_cons _ _ _ _ _ (@pe_bltn _ _ (.ty "bool") _ _ rfl n_bool PyProof.Rows.boot_bool rfl (by decide) (by decide)) (@pa_nil _) (by rfl)) (by rfl)) (by decide) (by decide) (by rfl) (by rfl))))))),?_⟩
 rintro xs M hl ⟨d,rfl,-⟩
 walk_at "dl";walk_at "dl";walk_at "dl"
 cases d <;>
 · walk_at "r"
   exact⟨M,Own.Sub.refl M,fun d' e=>by cases e;exact⟨rfl,rfl⟩⟩
abbrev s_is_within:Stmt:=_root_.sT 6
def nm_is_within:List Str:=["thing", "low", "high"]
theorem sc_is_within:FnScope nm_is_within ["thing", "low", "high"] (defScope s_is_within):=⟨rfl,rfl,rfl,by decide +kernel,rfl,by decide +kernel,by decide +kernel⟩
theorem ok_is_within {f:Addr}{fd:FuncData}(F:Fun K "is_within" "is_within" s_is_within f fd) (h_is_whole:Has P w K mg base "is_whole" 1 ["thing"] S_is_whole):FnOk P w K mg base CX0 2 f fd ["thing", "low", "high"] (spD K 3 S_is_within):=by
 refine fnD F sc_is_within fun cdv A outer s H E hr=>?_
 have hu:=hr.units
 refine⟨_,(@pss_one _ _ _ (@ps_ret _ _ _ _ (@pe_and _ _ _ _ _ _ _ (@kCall _ (K) (P) (w) (mg) (base) _ _ _ _ _ _ _ _ _ rfl rfl rfl rfl rfl h_is_whole (hr.mono (by decide)) rfl (@pa_cons _ _ _ _ _ (@pv _ 0 _ _ (by rfl) (by walk_at "lc") (by decide) (by decide)) (@pa_nil _) (by rfl)) (by decide) (by rfl) (by rfl)) (@pe_one _ _ _ _ _ (@pe_chain _ _ _ _ _ _ _ _ _ _ _ _ (@op_le _) (@op_le _) (@pv _ 1 _ _ (by rfl) (by walk_at "lc") (by decide) (by decide)) (@pv _ 0 _ _ (by rfl) (by walk_at "lc") (by decide) (by decide)) (@pv _ 2 _ _ (by rfl) (by walk_at "lc") (by decide) (by decide)) (by with_unfolding_all rfl)))))),?_⟩
 rintro xs M hl ⟨d,lo,hi,rfl⟩
 walk_at "r"
 refine fn1_call trivial ?_
 cases d
 case int i=>
   walk_at "r"
   refine ite2 (fun h=>?_) (fun h=>?_)
   · walk_at "r"
     exact⟨M,Own.Sub.refl M,fun d' lo' hi' e=>by cases e;refine⟨?_,rfl⟩;simp only[withinD];rw[h];rfl⟩
   · exact⟨M,Own.Sub.refl M,fun d' lo' hi' e=>by cases e;refine⟨?_,rfl⟩;simp only[withinD];simp at h;simp;omega⟩
 all_goals
   walk_at "r"
   exact⟨M,Own.Sub.refl M,fun d' lo' hi' e=>by cases e;exact⟨rfl,rfl⟩⟩
abbrev s_is_place:Stmt:=_root_.sT 7
def nm_is_place:List Str:=["thing"]
theorem sc_is_place:FnScope nm_is_place ["thing"] (defScope s_is_place):=⟨rfl,rfl,rfl,by decide +kernel,rfl,by decide +kernel,by decide +kernel⟩
theorem ok_is_place {f:Addr}{fd:FuncData}(F:Fun K "is_place" "is_place" s_is_place f fd) (g_LAST_PLACE:∃t,mg "LAST_PLACE"=some (.int (999) t)) (h_is_within:Has P w K mg base "is_within" 2 ["thing", "low", "high"] S_is_within):FnOk P w K mg base CX0 3 f fd ["thing"] (spD K 1 S_is_place):=by
 refine fnD F sc_is_place fun cdv A outer s H E hr=>?_
 have hu:=hr.units
 refine⟨_,(@pss_one _ _ _ (@ps_ret _ _ _ _ (@kCall _ (K) (P) (w) (mg) (base) _ _ _ _ _ _ _ _ _ rfl rfl rfl rfl rfl h_is_within (hr.mono (by decide)) rfl (@pa_cons _ _ _ _ _ (@pv _ 0 _ _ (by rfl) (by walk_at "lc") (by decide) (by decide)) (@pa_cons _ _ _ _ _ (@pe_int _ _ _ _) (@pa_cons _ _ _ _ _ (@pe_gint _ _ _ _ rfl g_LAST_PLACE (by decide)) (@pa_nil _) (by rfl)) (by rfl)) (by rfl)) (by decide) (by rfl) (by rfl)))),?_⟩
 rintro xs M hl ⟨d,rfl,-⟩
 walk_at "r"
 refine within_call ?_
 exact⟨M,Own.Sub.refl M,fun d' e=>by cases e;exact⟨by rw[within_place],rfl⟩⟩
abbrev s_is_name:Stmt:=_root_.sT 5
def nm_is_name:List Str:=["thing"]
def cc_is_name_0:List Str:=["sign"]
def cf_is_name_0:List (Option Nat):=[none]
theorem cn_is_name_0:cc_is_name_0.Nodup:=by decide +kernel
theorem sc_is_name:FnScope nm_is_name ["thing"] (defScope s_is_name):=⟨rfl,rfl,rfl,by decide +kernel,rfl,by decide +kernel,by decide +kernel⟩
theorem ok_is_name {f:Addr}{fd:FuncData}(F:Fun K "is_name" "is_name" s_is_name f fd) (n_all:mg "all"=none) (n_isinstance:mg "isinstance"=none) (n_len:mg "len"=none) (n_str:mg "str"=none) (g_LETTERS:∃t,mg "LETTERS"=some (.str ("abcdefghijklmnopqrstuvwxyz") t)) (g_LONGEST_NAME:∃t,mg "LONGEST_NAME"=some (.int (8) t)):FnOk P w K mg base CX0 1 f fd ["thing"] (spD K 1 S_is_name):=by
 refine fnD F sc_is_name fun cdv A outer s H E hr=>?_
 have hu:=hr.units
 refine⟨_,(@pss_cons _ _ _ _ _ (@ps_if _ _ _ _ _ _ _ _ (@L2.PW.pt _ _ _ (@pw_or _ _ _ _ _ _ _ (@pt_not _ _ _ _ (@pt_val _ _ _ (@pe_callB _ _ _ _ _ _ _ _ _ (@kIsi _ (K) rfl) (by rfl) n_isinstance PyProof.Rows.boot_isinstance (@pa_cons _ _ _ _ _ (@pv _ 0 _ _ (by rfl) (by walk_at "lc") (by decide) (by decide)) (@pa_cons _ _ _ _ _ (@pe_bltn _ _ (.ty "str") _ _ rfl n_str PyProof.Rows.boot_str rfl (by decide) (by decide)) (@pa_nil _) (by rfl)) (by rfl)) (by decide) (by decide) (by rfl) (by rfl)) (by intro _;rfl))) (@pw_or1 _ _ _ _ (@pt_not _ _ _ _ (@pt_chain _ _ _ _ _ _ _ _ _ _ _ _ (@op_le _) (@op_le _) (@pe_int _ _ _ _) (@pe_callB _ _ _ _ _ _ _ _ _ (@kLen _ (K) rfl) (by rfl) n_len PySem.boot_len (@pa_cons _ _ _ _ _ (@pv _ 0 _ _ (by rfl) (by walk_at "lc") (by decide) (by decide)) (@pa_nil _) (by rfl)) (by decide) (by decide) (by rfl) (by rfl)) (@pe_gint _ _ _ _ rfl g_LONGEST_NAME (by decide)) (by with_unfolding_all rfl)))))) (@pss_one _ _ _ (@ps_ret _ _ _ _ (@pe_bl _ _ _ _))) (@pss_nil _)) (@pss_one _ _ _ (@ps_ret _ _ _ _ (@pe_callB _ _ _ _ _ _ _ _ _ (@kAll _ (K) rfl rfl) (by rfl) n_all PyProof.Rows.boot_all (@pa_cons _ _ _ _ _ (@pe_comp _ _ _ _ _ _ _ _ _ _ _ _ _ rfl (@L2.CSc.of _ _ (cc_is_name_0) (cf_is_name_0) (defScope s_is_name) (nm_is_name) (by decide +kernel) rfl rfl) (@kIter _ (K) _ _ _ rfl (@pv _ 0 _ _ (by rfl) (by walk_at "lc") (by decide) (by decide))) (fun C s' H' ex' pn'=>⟨@pg_name _ _ (0) _ cn_is_name_0 rfl (by walk_at "lc") (by first   | exact .inl rfl   | exact .inr rfl   | assumption),@pts_nil _,(@pe_cmpR _ _ _ _ _ _ _ _ (@kIn _ (K) rfl) (@pv _ 0 _ _ (by rfl) (by walk_at "lc") (by decide) (by decide)) (@pe_gstr _ _ _ _ rfl g_LETTERS (by decide)) (by with_unfolding_all rfl))⟩) (by intro _;rfl)) (@pa_nil _) (by rfl)) (by decide) (by decide) (by rfl) (by rfl))))),?_⟩
 rintro xs M hl ⟨d,rfl,hd⟩
 cases d
 case str z=>
   have hz:z.length≤sizeLine:=Nat.le_trans hd.1 (by decide)
   have hlen:(z.length:Int)=(z.cps.size:Int):=rfl
   walk_at "r"
   refine rd_lens hz ?_
   walk_at "r"
   refine ite2 (fun h1=>?_) (fun h1=>?_)
   · walk_at "r"
     refine ite2 (fun h2=>?_) (fun h2=>?_)
     · walk_at "r"
       exact⟨M,Own.Sub.refl M,fun d' e=>by cases e;refine⟨?_,rfl⟩;simp only[nameD];simp at h1 h2;rw[hlen] at h1 h2;simp;omega⟩
     · walk_at "r"
       refine de_comp_pure (go_name 0) (by simp[cf_is_name_0]) ?_
       refine diA_str ?_
       walk_at "r"
       refine⟨by simp only[signs,List.length_map,Array.length_toList];exact Nat.lt_of_le_of_lt hd.1 (by decide),fun _=>true,fun d=>.bool (letD d),?_,?_⟩
       · intro d hd' M'
         obtain⟨c,hc,rfl⟩:=List.mem_map.mp hd'
         walk_at "dl"
         refine⟨rfl,?_⟩
         walk_at "dl"
         refine⟨rfl,rfl,fun _=>?_⟩
         walk_at "r"
         refine d2A_ins ?_
         rw[in_letters c (hd.2 c hc)]
         exact⟨by simp[letD],rfl⟩
       · walk_at "r"
         rw[signs_let]
         refine rd_all ?_
         rw[all_map_id]
         exact⟨M,Own.Sub.refl M,fun d' e=>by cases e;refine⟨?_,rfl⟩;simp only[nameD];simp at h1 h2;rw[hlen] at h1 h2;simp;omega⟩
   · walk_at "r"
     exact⟨M,Own.Sub.refl M,fun d' e=>by cases e;refine⟨?_,rfl⟩;simp only[nameD];simp at h1;rw[hlen] at h1;simp;omega⟩
 all_goals
   walk_at "r"
   exact⟨M,Own.Sub.refl M,fun d' e=>by cases e;exact⟨rfl,rfl⟩⟩
end
section
variable {P:Program}{w:World}{K:Frg}{mg:Str→Option Value}{base:Heap}
abbrev s_form_of:Stmt:=_root_.sT 10
def nm_form_of:List Str:=["word"]
theorem sc_form_of:FnScope nm_form_of ["word"] (defScope s_form_of):=⟨rfl,rfl,rfl,by decide +kernel,rfl,by decide +kernel,by decide +kernel⟩
theorem ok_form_of {f:Addr}{fd:FuncData}(F:Fun K "form_of" "form_of" s_form_of f fd) (n_isinstance:mg "isinstance"=none) (n_str:mg "str"=none) (g_FORMS:∃a,mg "FORMS"=some (.ref a)∧GDict w K a FORMS):FnOk P w K mg base CX0 1 f fd ["word"] (spD K 1 S_form_of):=by
 refine fnD F sc_form_of fun cdv A outer s H E hr=>?_
 have hu:=hr.units
 refine⟨_,(@pss_one _ _ _ (@ps_ret _ _ _ _ (@pe_ifExp _ _ _ _ _ _ _ _ (@pt_val _ _ _ (@pe_callB _ _ _ _ _ _ _ _ _ (@kIsi _ (K) rfl) (by rfl) n_isinstance PyProof.Rows.boot_isinstance (@pa_cons _ _ _ _ _ (@pv _ 0 _ _ (by rfl) (by walk_at "lc") (by decide) (by decide)) (@pa_cons _ _ _ _ _ (@pe_bltn _ _ (.ty "str") _ _ rfl n_str PyProof.Rows.boot_str rfl (by decide) (by decide)) (@pa_nil _) (by rfl)) (by rfl)) (by decide) (by decide) (by rfl) (by rfl)) (by intro _;rfl)) (@pe_gget _ _ _ _ _ _ _ _ rfl g_FORMS (@pv _ 0 _ _ (by rfl) (by walk_at "lc") (by decide) (by decide)) (@L2.M1.mk _ _ _ _ _ _ rfl rfl rfl rfl) (by decide)) (@pe_non _ _ _)))),?_⟩
 rintro xs M hl ⟨d,rfl,-⟩
 cases d
 case str z=>
   walk_at "r"
   refine de_gget ?_
   walk_at "r"
   exact⟨M,Own.Sub.refl M,fun d' e=>by cases e;exact⟨rfl,rfl⟩⟩
 all_goals
   walk_at "r"
   exact⟨M,Own.Sub.refl M,fun d' e=>by cases e;exact⟨rfl,rfl⟩⟩
abbrev s_fits:Stmt:=_root_.sT 12
def nm_fits:List Str:=["sign", "part"]
theorem sc_fits:FnScope nm_fits ["sign", "part"] (defScope s_fits):=⟨rfl,rfl,rfl,by decide +kernel,rfl,by decide +kernel,by decide +kernel⟩
theorem ok_fits {f:Addr}{fd:FuncData}(F:Fun K "fits" "fits" s_fits f fd) (h_is_name:Has P w K mg base "is_name" 1 ["thing"] S_is_name) (h_is_place:Has P w K mg base "is_place" 3 ["thing"] S_is_place) (h_is_whole:Has P w K mg base "is_whole" 1 ["thing"] S_is_whole):FnOk P w K mg base CX0 4 f fd ["sign", "part"] (spD K 2 S_fits):=by
 refine fnD F sc_fits fun cdv A outer s H E hr=>?_
 have hu:=hr.units
 refine⟨_,(@pss_cons _ _ _ _ _ (@ps_if _ _ _ _ _ _ _ _ (@pt_cmpR _ _ _ _ _ _ _ _ (@kEq _ (K) rfl hu) (@pv _ 0 _ _ (by rfl) (by walk_at "lc") (by decide) (by decide)) (@pe_str _ _ _ _) (@nomark _ _ (by decide) (by decide))) (@pss_one _ _ _ (@ps_ret _ _ _ _ (@kCall _ (K) (P) (w) (mg) (base) _ _ _ _ _ _ _ _ _ rfl rfl rfl rfl rfl h_is_name (hr.mono (by decide)) rfl (@pa_cons _ _ _ _ _ (@pv _ 1 _ _ (by rfl) (by walk_at "lc") (by decide) (by decide)) (@pa_nil _) (by rfl)) (by decide) (by rfl) (by rfl)))) (@pss_nil _)) (@pss_cons _ _ _ _ _ (@ps_if _ _ _ _ _ _ _ _ (@pt_cmpR _ _ _ _ _ _ _ _ (@kEq _ (K) rfl hu) (@pv _ 0 _ _ (by rfl) (by walk_at "lc") (by decide) (by decide)) (@pe_str _ _ _ _) (@nomark _ _ (by decide) (by decide))) (@pss_one _ _ _ (@ps_ret _ _ _ _ (@kCall _ (K) (P) (w) (mg) (base) _ _ _ _ _ _ _ _ _ rfl rfl rfl rfl rfl h_is_place (hr.mono (by decide)) rfl (@pa_cons _ _ _ _ _ (@pv _ 1 _ _ (by rfl) (by walk_at "lc") (by decide) (by decide)) (@pa_nil _) (by rfl)) (by decide) (by rfl) (by rfl)))) (@pss_nil _)) (@pss_one _ _ _ (@ps_ret _ _ _ _ (@kCall _ (K) (P) (w) (mg) (base) _ _ _ _ _ _ _ _ _ rfl rfl rfl rfl rfl h_is_whole (hr.mono (by decide)) rfl (@pa_cons _ _ _ _ _ (@pv _ 1 _ _ (by rfl) (by walk_at "lc") (by decide) (by decide)) (@pa_nil _) (by rfl)) (by decide) (by rfl) (by rfl)))))),?_⟩
 rintro xs M hl ⟨a,b,rfl,c,rfl,hc,hb⟩
 have hsh:PySem.SeqAt.shaped (.str ⟨#[c]⟩)=true:=shaped_of (by show PyData.strOk _=true;simp[PyData.strOk];omega) (by simp[PyData.depth])
 walk_at "r"
 refine d2_eq hsh (by decide +kernel) ?_
 rw[if_neg nft,eqv_str]
 cases h1:((⟨#[c]⟩:Str)==Str.ofString "n") with
 | true=>
   walk_at "r"
   refine fn1_call hb ?_
   exact⟨M,Own.Sub.refl M,fun a b e=>by cases e;exact⟨by simp only[fitsB,h1];rfl,rfl⟩⟩
 | false=>
   walk_at "r"
   refine d2_eq hsh (by decide +kernel) ?_
   rw[if_neg nft,eqv_str]
   cases h2:((⟨#[c]⟩:Str)==Str.ofString "p") with
   | true=>
     walk_at "r"
     refine fn1_call trivial ?_
     exact⟨M,Own.Sub.refl M,fun a b e=>by cases e;exact⟨by simp only[fitsB,h1,h2];rfl,rfl⟩⟩
   | false=>
     walk_at "r"
     refine fn1_call trivial ?_
     exact⟨M,Own.Sub.refl M,fun a b e=>by cases e;exact⟨by simp only[fitsB,h1,h2];rfl,rfl⟩⟩
abbrev s_names_in:Stmt:=_root_.sT 13
def nm_names_in:List Str:=["deed"]
theorem sc_names_in:FnScope nm_names_in ["deed"] (defScope s_names_in):=⟨rfl,rfl,rfl,by decide +kernel,rfl,by decide +kernel,by decide +kernel⟩
theorem ok_names_in {f:Addr}{fd:FuncData}(F:Fun K "names_in" "names_in" s_names_in f fd) (h_form_of:Has P w K mg base "form_of" 1 ["word"] S_form_of):FnOk P w K mg base CX0 2 f fd ["deed"] (spD K 1 S_names_in):=by
 refine fnD F sc_names_in fun cdv A outer s H E hr=>?_
 have hu:=hr.units
 refine⟨_,(@pss_one _ _ _ (@ps_ret _ _ _ _ (@pe_ifExp _ _ _ _ _ _ _ _ (@pt_val _ _ _ (@kBm _ (K) _ _ _ _ _ _ _ _ _ _ _ rfl PySem.F.plainAttrs_str PySem.F.slot_str_startswith PySem.F.type_str_startswith (@kStartswith _ (K) rfl) (@kCall _ (K) (P) (w) (mg) (base) _ _ _ _ _ _ _ _ _ rfl rfl rfl rfl rfl h_form_of (hr.mono (by decide)) rfl (@pa_cons _ _ _ _ _ (@pe_ix _ _ _ _ _ _ _ (@kIx _ (K) rfl) (@pv _ 0 _ _ (by rfl) (by walk_at "lc") (by decide) (by decide)) (@pe_int _ _ _ _) (fun _ _=>rfl)) (@pa_nil _) (by rfl)) (by decide) (by rfl) (by rfl)) (@pa_cons _ _ _ _ _ (@pe_str _ _ _ _) (@pa_nil _) (by rfl)) (by rfl) (by rfl) (by rfl) (by rfl) (by rfl)) (by intro _;rfl)) (@pe_slice _ _ _ _ _ _ _ _ _ _ (@kSlB _ (K) rfl) (@pv _ 0 _ _ (by rfl) (by walk_at "lc") (by decide) (by decide)) (@po_some _ _ _ (@pe_int _ _ _ _)) (@po_some _ _ _ (@pe_int _ _ _ _))) (@pe_slice _ _ _ _ _ _ _ _ _ _ (@kSlB _ (K) rfl) (@pv _ 0 _ _ (by rfl) (by walk_at "lc") (by decide) (by decide)) (@po_some _ _ _ (@pe_int _ _ _ _)) (@po_some _ _ _ (@pe_int _ _ _ _)))))),?_⟩
 rintro xs M hl ⟨d,rfl,w,f,r,rfl,hf⟩
 obtain⟨fa,fs,fn,_,_⟩:=form_facts hf
 have hform:formD (.str w) = .str f:=by
   show optD (FORMS.lookup w)=_
   rw[hf];rfl
 walk_at "r"
 refine de_bm ?_
 walk_at "r"
 refine d2A_ixt (d:=.str w) (atI_nat (j:=0) rfl) ?_
 walk_at "r"
 refine fn1_call trivial ?_
 rw[hform]
 refine⟨dty_str,?_⟩
 walk_at "r"
 refine dm_starts ?_
 rw[fn]
 cases htw:twoW w with
 | true=>
   walk_at "r"
   refine dslB_tup ?_
   rw[show cutD (PyData.str w::r) (some 1) (some 3)=r.take 2 from cut_mid _ 1 3]
   exact⟨M,Own.Sub.refl M,fun d' e=>by cases e;refine⟨?_,rfl⟩;simp only[namesD,htw];rfl⟩
 | false=>
   walk_at "r"
   refine dslB_tup ?_
   rw[show cutD (PyData.str w::r) (some 1) (some 2)=r.take 1 from cut_mid _ 1 2]
   exact⟨M,Own.Sub.refl M,fun d' e=>by cases e;refine⟨?_,rfl⟩;simp only[namesD,htw];rfl⟩
end
section
variable {P:Program}{w:World}{K:Frg}{mg:Str→Option Value}{base:Heap}
abbrev s_is_deed:Stmt:=_root_.sT 11
def nm_is_deed:List Str:=["thing", "form", "names"]
def cc_is_deed_0:List Str:=["sign", "part"]
def cf_is_deed_0:List (Option Nat):=[none,none]
theorem cn_is_deed_0:cc_is_deed_0.Nodup:=by decide +kernel
theorem sc_is_deed:FnScope nm_is_deed ["thing"] (defScope s_is_deed):=⟨rfl,rfl,rfl,by decide +kernel,rfl,by decide +kernel,by decide +kernel⟩
theorem ok_is_deed {f:Addr}{fd:FuncData}(F:Fun K "is_deed" "is_deed" s_is_deed f fd) (n_all:mg "all"=none) (n_isinstance:mg "isinstance"=none) (n_len:mg "len"=none) (n_tuple:mg "tuple"=none) (n_zip:mg "zip"=none) (h_fits:Has P w K mg base "fits" 4 ["sign", "part"] S_fits) (h_form_of:Has P w K mg base "form_of" 1 ["word"] S_form_of) (h_names_in:Has P w K mg base "names_in" 2 ["deed"] S_names_in):FnOk P w K mg base CX0 5 f fd ["thing"] (spD K 1 S_is_deed):=by
 refine fnD F sc_is_deed fun cdv A outer s H E hr=>?_
 have hu:=hr.units
 refine⟨_,(@pss_cons _ _ _ _ _ (@ps_if _ _ _ _ _ _ _ _ (@L2.PW.pt _ _ _ (@pw_or _ _ _ _ _ _ _ (@pt_not _ _ _ _ (@pt_val _ _ _ (@pe_callB _ _ _ _ _ _ _ _ _ (@kIsi _ (K) rfl) (by rfl) n_isinstance PyProof.Rows.boot_isinstance (@pa_cons _ _ _ _ _ (@pv _ 0 _ _ (by rfl) (by walk_at "lc") (by decide) (by decide)) (@pa_cons _ _ _ _ _ (@pe_bltn _ _ (.ty "tuple") _ _ rfl n_tuple PyProof.Rows.boot_tuple rfl (by decide) (by decide)) (@pa_nil _) (by rfl)) (by rfl)) (by decide) (by decide) (by rfl) (by rfl)) (by intro _;rfl))) (@pw_or1 _ _ _ _ (@pt_cmpR _ _ _ _ _ _ _ _ (@kEq _ (K) rfl hu) (@pe_callB _ _ _ _ _ _ _ _ _ (@kLen _ (K) rfl) (by rfl) n_len PySem.boot_len (@pa_cons _ _ _ _ _ (@pv _ 0 _ _ (by rfl) (by walk_at "lc") (by decide) (by decide)) (@pa_nil _) (by rfl)) (by decide) (by decide) (by rfl) (by rfl)) (@pe_int _ _ _ _) (@nomark _ _ (by decide) (by decide)))))) (@pss_one _ _ _ (@ps_ret _ _ _ _ (@pe_bl _ _ _ _))) (@pss_nil _)) (@pss_cons _ _ _ _ _ (@ps_set _ _ (1) _ _ _ _ sc_is_deed.nd rfl (by walk_at "lc") (@kCall _ (K) (P) (w) (mg) (base) _ _ _ _ _ _ _ _ _ rfl rfl rfl rfl rfl h_form_of (hr.mono (by decide)) rfl (@pa_cons _ _ _ _ _ (@pe_ix _ _ _ _ _ _ _ (@kIx _ (K) rfl) (@pv _ 0 _ _ (by rfl) (by walk_at "lc") (by decide) (by decide)) (@pe_int _ _ _ _) (fun _ _=>rfl)) (@pa_nil _) (by rfl)) (by decide) (by rfl) (by rfl)) (by rfl) (by first   | exact .inl rfl   | exact .inr rfl   | assumption)) (@pss_cons _ _ _ _ _ (@ps_if _ _ _ _ _ _ _ _ (@L2.PW.pt _ _ _ (@pw_or _ _ _ _ _ _ _ (@pt_cmpR _ _ _ _ _ _ _ _ (@op_isA _) (@pv _ 1 _ _ (by rfl) (by walk_at "lc") (by decide) (by decide)) (@pe_non _ _ _) (@nomark _ _ (by decide) (by decide))) (@pw_or1 _ _ _ _ (@pt_cmpR _ _ _ _ _ _ _ _ (@kNe _ (K) rfl hu) (@pe_callB _ _ _ _ _ _ _ _ _ (@kLen _ (K) rfl) (by rfl) n_len PySem.boot_len (@pa_cons _ _ _ _ _ (@pv _ 0 _ _ (by rfl) (by walk_at "lc") (by decide) (by decide)) (@pa_nil _) (by rfl)) (by decide) (by decide) (by rfl) (by rfl)) (@pe_op _ _ _ _ _ _ _ _ (@kAddB _ (K) rfl) (@pe_callB _ _ _ _ _ _ _ _ _ (@kLen _ (K) rfl) (by rfl) n_len PySem.boot_len (@pa_cons _ _ _ _ _ (@pv _ 1 _ _ (by rfl) (by walk_at "lc") (by decide) (by decide)) (@pa_nil _) (by rfl)) (by decide) (by decide) (by rfl) (by rfl)) (@pe_int _ _ _ _)) (@nomark _ _ (by decide) (by decide)))))) (@pss_one _ _ _ (@ps_ret _ _ _ _ (@pe_bl _ _ _ _))) (@pss_nil _)) (@pss_cons _ _ _ _ _ (@ps_if _ _ _ _ _ _ _ _ (@pt_not _ _ _ _ (@pt_val _ _ _ (@pe_callB _ _ _ _ _ _ _ _ _ (@kAll _ (K) rfl rfl) (by rfl) n_all PyProof.Rows.boot_all (@pa_cons _ _ _ _ _ (@pe_comp _ _ _ _ _ _ _ _ _ _ _ _ _ rfl (@L2.CSc.of _ _ (cc_is_deed_0) (cf_is_deed_0) (defScope s_is_deed) (nm_is_deed) (by decide +kernel) rfl rfl) (@kZipA _ (K) _ _ _ _ _ _ _ _ rfl rfl n_zip (@pa_cons _ _ _ _ _ (@pv _ 1 _ _ (by rfl) (by walk_at "lc") (by decide) (by decide)) (@pa_cons _ _ _ _ _ (@pe_slice _ _ _ _ _ _ _ _ _ _ (@kSlB _ (K) rfl) (@pv _ 0 _ _ (by rfl) (by walk_at "lc") (by decide) (by decide)) (@po_some _ _ _ (@pe_int _ _ _ _)) (@po_none _)) (@pa_nil _) (by rfl)) (by rfl)) (by rfl) (by rfl)) (fun C s' H' ex' pn'=>⟨@kTup _ (K) _ _ _ _ (2) rfl rfl (@pgs_cons _ _ _ _ _ (@pg_name _ _ (0) _ cn_is_deed_0 rfl (by walk_at "lc") (by first   | exact .inl rfl   | exact .inr rfl   | assumption)) (@pgs_cons _ _ _ _ _ (@pg_name _ _ (1) _ cn_is_deed_0 rfl (by walk_at "lc") (by first   | exact .inl rfl   | exact .inr rfl   | assumption)) (@pgs_nil _) (by rfl)) (by rfl)) (by rfl) (by rfl),@pts_nil _,(@kCall _ (K) (P) (w) (mg) (base) _ _ _ _ _ _ _ _ _ rfl rfl rfl rfl rfl h_fits (hr.mono (by decide)) rfl (@pa_cons _ _ _ _ _ (@pv _ 0 _ _ (by rfl) (by walk_at "lc") (by decide) (by decide)) (@pa_cons _ _ _ _ _ (@pv _ 1 _ _ (by rfl) (by walk_at "lc") (by decide) (by decide)) (@pa_nil _) (by rfl)) (by rfl)) (by decide) (by rfl) (by rfl))⟩) (by intro _;rfl)) (@pa_nil _) (by rfl)) (by decide) (by decide) (by rfl) (by rfl)) (by intro _;rfl))) (@pss_one _ _ _ (@ps_ret _ _ _ _ (@pe_bl _ _ _ _))) (@pss_nil _)) (@pss_cons _ _ _ _ _ (@ps_set _ _ (2) _ _ _ _ sc_is_deed.nd rfl (by walk_at "lc") (@kCall _ (K) (P) (w) (mg) (base) _ _ _ _ _ _ _ _ _ rfl rfl rfl rfl rfl h_names_in (hr.mono (by decide)) rfl (@pa_cons _ _ _ _ _ (@pv _ 0 _ _ (by rfl) (by walk_at "lc") (by decide) (by decide)) (@pa_nil _) (by rfl)) (by decide) (by rfl) (by rfl)) (by rfl) (by first   | exact .inl rfl   | exact .inr rfl   | assumption)) (@pss_one _ _ _ (@ps_ret _ _ _ _ (@pe_or _ _ _ _ _ _ _ (@pe_cmpR _ _ _ _ _ _ _ _ (@kEq _ (K) rfl hu) (@pe_callB _ _ _ _ _ _ _ _ _ (@kLen _ (K) rfl) (by rfl) n_len PySem.boot_len (@pa_cons _ _ _ _ _ (@pv _ 2 _ _ (by rfl) (by walk_at "lc") (by decide) (by decide)) (@pa_nil _) (by rfl)) (by decide) (by decide) (by rfl) (by rfl)) (@pe_int _ _ _ _) (@nomark _ _ (by decide) (by decide))) (@pe_one _ _ _ _ _ (@pe_cmpR _ _ _ _ _ _ _ _ (@kNe _ (K) rfl hu) (@pe_ix _ _ _ _ _ _ _ (@kIx _ (K) rfl) (@pv _ 2 _ _ (by rfl) (by walk_at "lc") (by decide) (by decide)) (@pe_int _ _ _ _) (fun _ _=>rfl)) (@pe_ix _ _ _ _ _ _ _ (@kIx _ (K) rfl) (@pv _ 2 _ _ (by rfl) (by walk_at "lc") (by decide) (by decide)) (@pe_int _ _ _ _) (fun _ _=>rfl)) (@nomark _ _ (by decide) (by decide)))))))))))),?_⟩
 rintro xs M hl ⟨d,rfl,hd⟩
 cases d
 case tuple ds=>
   have fin:∀b:Bool,isDeedL ds=b→∃M2:Own,M2.Sub M∧S_is_deed.post [.d (.tuple ds)] M (.d (.bool b)) M2:=fun b hb=>⟨M,Own.Sub.refl M,fun d' e=>by cases e;exact⟨by show DS.d (.bool b) = .d (.bool (isDeedL ds));rw[hb],rfl⟩⟩
   walk_at "r"
   refine rd_lent ?_
   walk_at "r"
   refine d2_eq rfl rfl ?_
   rw[if_neg nft]
   match ds,hd,fin with
   | [],_,fin=>
     walk_at "r"
     exact fin false rfl
   | a::r,hd,fin=>
     rw[show PyData.eqv (.int ((a::r).length:Nat)) (.int 0)=false by simp[PyData.eqv];omega]
     walk_at "r"
     refine d2A_ixt (d:=a) (atI_nat (j:=0) rfl) ?_
     walk_at "r"
     refine fn1_call trivial ?_
     have hnone:isNoneD (formD a)=true→isDeedL (a::r)=false:=fun h=>by
       cases a with
       | str w=>
         cases hf:FORMS.lookup w with
         | none=>simp only[isDeedL,hf]
         | some f=>simp only[formD,hf,optD,isNoneD] at h;cases h
       | _=>rfl
     cases hn:isNoneD (formD a) with
     | true=>
       walk_at "r"
       refine d2_isNA ?_
       rw[hn]
       walk_at "r"
       exact fin false (hnone hn)
     | false=>
       have hw:∃w f,a = .str w∧FORMS.lookup w=some f:=by
         cases a with
         | str w=>
           cases hf:FORMS.lookup w with
           | none=>simp only[formD,hf,optD,isNoneD] at hn;cases hn
           | some f=>exact⟨w,f,rfl,hf⟩
         | _=>cases hn
       obtain⟨w,f,rfl,hf⟩:=hw
       obtain⟨fa,fs,fn,ft,f1⟩:=form_facts hf
       have hform:formD (.str w) = .str f:=by
         show optD (FORMS.lookup w)=_
         rw[hf];rfl
       have hdl:isDeedL (.str w::r)=((r.length==f.cps.size)&&fitsAll f r&&(!twoW w||!PyData.eqv (r.getD 0 .none) (r.getD 1 .none))):=by simp only[isDeedL,hf]
       rw[hform]
       walk_at "r"
       refine d2_isNA ?_
       walk_at "r"
       refine rd_lent ?_
       walk_at "r"
       refine rd_lens (Nat.le_trans fs (by decide)) ?_
       walk_at "r"
       refine d2_eq rfl rfl ?_
       rw[if_pos rfl]
       have hcmp:PyData.eqv (.int ((PyData.str w::r).length:Nat)) (.int ((f.length:Int)+1))=(r.length==f.cps.size):=by
         show(((r.length+1:Nat):Int)==((f.cps.size:Int)+1))=_
         rw[Bool.eq_iff_iff,beq_iff_eq,beq_iff_eq];omega
       rw[hcmp]
       cases hlen:(r.length==f.cps.size) with
       | false=>
         walk_at "r"
         exact fin false (by rw[hdl,hlen];rfl)
       | true=>
         have hl':r.length=f.cps.size:=eq_of_beq hlen
         have hrl:r.length≤4:=by omega
         walk_at "r"
         refine de_comp_pure (go_tup (gs_cons (gs_cons gs_nil))) (by simp[cf_is_deed_0]) ?_
         refine di_zipS ?_
         walk_at "r"
         refine dslB_tup ?_
         rw[show cutD (PyData.str w::r) (some 1) none=r from cut_from _ 1]
         walk_at "r"
         refine⟨_,_,rfl,fa,by omega,?_,fun _=>true,fitP,?_,?_⟩
         · unfold zipD
           rw[List.length_map,List.length_zip]
           exact Nat.lt_of_le_of_lt (show _≤4 by omega) (by decide)
         · intro d hd' M'
           obtain⟨⟨s1,p1⟩,hm,rfl⟩:=List.mem_map.mp hd'
           have hs:s1∈signs f:=(List.of_mem_zip hm).1
           have hp:p1∈r:=(List.of_mem_zip hm).2
           obtain⟨c,hc,rfl⟩:=List.mem_map.mp hs
           have hc128:c < 128:=by
             have:=Array.all_eq_true'.mp fa c (by simpa using hc)
             simpa using this
           walk_at "r"
           refine⟨rfl,?_⟩
           walk_at "dl"
           refine⟨rfl,rfl,fun _=>?_⟩
           walk_at "r"
           refine fn2_call ⟨c,rfl,hc128,hd.2 p1 (List.mem_cons_of_mem _ hp)⟩ ?_
           exact⟨rfl,rfl⟩
         · rw[zip_fitP]
           walk_at "r"
           refine rd_all ?_
           rw[show(((signs f).zip r).map fun p=>fitsB p.1 p.2).all id=fitsAll f r by unfold fitsAll;rw[List.all_map];rfl]
           cases hfit:fitsAll f r with
           | false=>
             walk_at "r"
             exact fin false (by rw[hdl,hlen,hfit];rfl)
           | true=>
             walk_at "r"
             refine fn1_call ⟨w,f,r,rfl,hf⟩ ?_
             rw[show namesD (.tuple (.str w::r)) = .tuple (r.take (if twoW w then 2 else 1)) from rfl]
             cases htw:twoW w with
             | false=>
               match r,hl',hrl,hdl,hfit,fin with
               | [],hl',_,_,_,_=>exact absurd hl' (by show ¬(0=f.cps.size);omega)
               | x::r',hl',hrl,hdl,hfit,fin=>
                 walk_at "r"
                 refine rd_lent ?_
                 walk_at "r"
                 refine d2_eq rfl rfl ?_
                 walk_at "r"
                 exact fin true (by rw[hdl,hlen,hfit,htw];rfl)
             | true=>
               obtain⟨f2,g0,g1⟩:=ft htw
               match r,hl',hrl,hdl,hfit,fin with
               | [],hl',_,_,_,_=>exact absurd hl' (by show ¬(0=f.cps.size);omega)
               | [_],hl',_,_,_,_=>exact absurd hl' (by show ¬(1=f.cps.size);omega)
               | x::y::r',hl',hrl,hdl,hfit,fin=>
                 obtain⟨nx,ny⟩:=fits_two g0 g1 hfit
                 obtain⟨zx,rfl,hzx⟩:=nameD_iff nx
                 obtain⟨zy,rfl,hzy⟩:=nameD_iff ny
                 walk_at "r"
                 refine rd_lent ?_
                 walk_at "r"
                 refine d2_eq rfl rfl ?_
                 walk_at "r"
                 refine d2A_ixt (d:=.str zx) (atI_nat (j:=0) rfl) ?_
                 walk_at "r"
                 refine d2A_ixt (d:=.str zy) (atI_nat (j:=1) rfl) ?_
                 refine d2_eq (shaped_str hzx) (shaped_str hzy) ?_
                 rw[if_pos rfl]
                 exact fin _ (by rw[hdl,hlen,hfit,htw];rfl)
 all_goals
   walk_at "r"
   exact⟨M,Own.Sub.refl M,fun d' e=>by cases e;exact⟨rfl,rfl⟩⟩
end
section
variable {P:Program}{w:World}{K:Frg}{mg:Str→Option Value}{base:Heap}
abbrev s_show_whole:Stmt:=_root_.sT 33
def nm_show_whole:List Str:=["number", "groups", "low"]
theorem sc_show_whole:FnScope nm_show_whole ["number"] (defScope s_show_whole):=⟨rfl,rfl,rfl,by decide +kernel,rfl,by decide +kernel,by decide +kernel⟩
theorem ok_show_whole0 {f:Addr}{fd:FuncData}(F:Fun K "show_whole" "show_whole" s_show_whole f fd) (n_reversed:mg "reversed"=none) (n_str:mg "str"=none) (g_GROUP:∃t,mg "GROUP"=some (.int (1000000000000000000) t)):FnOk P w K mg base CX0 1 f fd ["number"] (spD K 1 S_show_whole0):=by
 refine fnD F sc_show_whole fun cdv A outer s H E hr=>?_
 have hu:=hr.units
 refine⟨_,(@pss_cons _ _ _ _ _ (@ps_if _ _ _ _ _ _ _ _ (@pt_cmpR _ _ _ _ _ _ _ _ (@op_ltA _) (@pv _ 0 _ _ (by rfl) (by walk_at "lc") (by decide) (by decide)) (@pe_int _ _ _ _) (@nomark _ _ (by decide) (by decide))) (@pss_never _ _) (@pss_nil _)) (@pss_cons _ _ _ _ _ (@ps_set _ _ (1) _ _ _ _ sc_show_whole.nd rfl (by walk_at "lc") (@pe_lst _ _ _ _ (@pa_nil _)) (by rfl) (by first   | exact .inl rfl   | exact .inr rfl   | assumption)) (@pss_cons _ _ _ _ _ (@ps_while _ _ _ _ _ _ PassesOwn.never (@pt_cmpR _ _ _ _ _ _ _ _ (@op_ge _) (@pv _ 0 _ _ (by rfl) (by walk_at "lc") (by decide) (by decide)) (@pe_gint _ _ _ _ rfl g_GROUP (by decide)) (@nomark _ _ (by decide) (by decide))) (@pss_never _ _)) (@pss_cons _ _ _ _ _ (@ps_expr _ _ _ _ (@kBm _ (K) _ _ _ _ _ _ _ _ _ _ _ rfl PySem.F.plainAttrs_list PySem.F.slot_list_append PySem.F.type_list_append (@kAppendM _) (@pv _ 1 _ _ (by rfl) (by walk_at "lc") (by decide) (by decide)) (@pa_cons _ _ _ _ _ (@pe_callTy _ _ _ _ _ _ _ _ _ (@kStr _ (K) rfl) (by rfl) n_str PyProof.Rows.boot_str (@pa_cons _ _ _ _ _ (@pv _ 0 _ _ (by rfl) (by walk_at "lc") (by decide) (by decide)) (@pa_nil _) (by rfl)) (by decide) (by decide) (by rfl) (by rfl)) (@pa_nil _) (by rfl)) (by rfl) (by rfl) (by rfl) (by rfl) (by rfl)) (by rfl)) (@pss_one _ _ _ (@ps_ret _ _ _ _ (@kJoinRev _ (K) _ _ _ _ _ _ _ _ _ _ rfl (@pv _ 1 _ _ (by rfl) (by walk_at "lc") (by decide) (by decide)) hr.hd rfl n_reversed PyProof.Rows.boot_reversed (by decide) (by decide) (by rfl) (by rfl) (by rfl) (by rfl) (by rfl)))))))),?_⟩
 rintro xs M hl ⟨d,rfl,n,rfl,hn⟩
 have hb:big n:=big_nat hn
 walk_at "r"
 refine de_lstO ?_
 walk_at "r"
 intro q hq
 walk_at "dl"
 refine ds_while0 ?_
 walk_at "r"
 refine⟨decide_eq_false (by omega),?_⟩
 walk_at "r"
 refine de_bm ?_
 walk_at "dl"
 refine⟨dty_loc Own.put_same,?_⟩
 walk_at "r"
 refine rd_str (log_big hb) ?_
 walk_at "r"
 refine dm_append Own.put_same (by show 0 < sizeLine;decide) ?_
 rw[Own.put_put]
 walk_at "r"
 refine de_joinRevO ?_
 walk_at "r"
 refine⟨q,[decS (n:Int)],rfl,Own.put_same,?_,?_⟩
 · have:=(dec_chars hb).2
   rw[show(Str.ofString "").length=0 from rfl,Nat.mul_zero]
   simp only[List.map_cons,List.map_nil,List.sum_cons,List.sum_nil]
   omega
 refine⟨M,(Own.Sub.refl M).put hq,fun d' e=>?_⟩
 cases e
 exact⟨rfl,rfl⟩
theorem ok_show_whole {f:Addr}{fd:FuncData}(F:Fun K "show_whole" "show_whole" s_show_whole f fd) (n_reversed:mg "reversed"=none) (n_str:mg "str"=none) (g_GROUP:∃t,mg "GROUP"=some (.int (1000000000000000000) t)) (h_show_whole0:Has P w K mg base "show_whole" 1 ["number"] S_show_whole0):FnOk P w K mg base CX0 2 f fd ["number"] (spD K 1 S_show_whole):=by
 refine fnD F sc_show_whole fun cdv A outer s H E hr=>?_
 have hu:=hr.units
 refine⟨_,(@pss_cons _ _ _ _ _ (@ps_if _ _ _ _ _ _ _ _ (@pt_cmpR _ _ _ _ _ _ _ _ (@op_ltA _) (@pv _ 0 _ _ (by rfl) (by walk_at "lc") (by decide) (by decide)) (@pe_int _ _ _ _) (@nomark _ _ (by decide) (by decide))) (@pss_one _ _ _ (@ps_ret _ _ _ _ (@pe_op _ _ _ _ _ _ _ _ (@kAddB _ (K) rfl) (@pe_str _ _ _ _) (@kCall _ (K) (P) (w) (mg) (base) _ _ _ _ _ _ _ _ _ rfl rfl rfl rfl rfl h_show_whole0 (hr.mono (by decide)) rfl (@pa_cons _ _ _ _ _ (@pe_un _ _ _ _ _ _ (@un_neg _) (@pv _ 0 _ _ (by rfl) (by walk_at "lc") (by decide) (by decide))) (@pa_nil _) (by rfl)) (by decide) (by rfl) (by rfl))))) (@pss_nil _)) (@pss_cons _ _ _ _ _ (@ps_set _ _ (1) _ _ _ _ sc_show_whole.nd rfl (by walk_at "lc") (@pe_lst _ _ _ _ (@pa_nil _)) (by rfl) (by first   | exact .inl rfl   | exact .inr rfl   | assumption)) (@pss_cons _ _ _ _ _ (@ps_while _ _ _ _ _ _ PassesOwn.never (@pt_cmpR _ _ _ _ _ _ _ _ (@op_ge _) (@pv _ 0 _ _ (by rfl) (by walk_at "lc") (by decide) (by decide)) (@pe_gint _ _ _ _ rfl g_GROUP (by decide)) (@nomark _ _ (by decide) (by decide))) (@pss_never _ _)) (@pss_cons _ _ _ _ _ (@ps_expr _ _ _ _ (@kBm _ (K) _ _ _ _ _ _ _ _ _ _ _ rfl PySem.F.plainAttrs_list PySem.F.slot_list_append PySem.F.type_list_append (@kAppendM _) (@pv _ 1 _ _ (by rfl) (by walk_at "lc") (by decide) (by decide)) (@pa_cons _ _ _ _ _ (@pe_callTy _ _ _ _ _ _ _ _ _ (@kStr _ (K) rfl) (by rfl) n_str PyProof.Rows.boot_str (@pa_cons _ _ _ _ _ (@pv _ 0 _ _ (by rfl) (by walk_at "lc") (by decide) (by decide)) (@pa_nil _) (by rfl)) (by decide) (by decide) (by rfl) (by rfl)) (@pa_nil _) (by rfl)) (by rfl) (by rfl) (by rfl) (by rfl) (by rfl)) (by rfl)) (@pss_one _ _ _ (@ps_ret _ _ _ _ (@kJoinRev _ (K) _ _ _ _ _ _ _ _ _ _ rfl (@pv _ 1 _ _ (by rfl) (by walk_at "lc") (by decide) (by decide)) hr.hd rfl n_reversed PyProof.Rows.boot_reversed (by decide) (by decide) (by rfl) (by rfl) (by rfl) (by rfl) (by rfl)))))))),?_⟩
 rintro xs M hl ⟨d,rfl,n,rfl,hb⟩
 have hb2:=hb.2
 walk_at "r"
 by_cases h0:n < 0
 · rw[if_pos (decide_eq_true h0)]
   obtain⟨m,rfl⟩:∃m:Nat,n = -((m:Int)+1):=⟨(-n - 1).toNat,by omega⟩
   have hm:m+1 < 1000000000000000000:=by have:=hb.1;omega
   walk_at "r"
   refine fn1_call (d:=.int (- -((m:Int)+1))) ⟨m+1,by rw[Int.neg_neg];rfl,hm⟩ ?_
   rw[Int.neg_neg]
   have hl:(Str.ofString "-").length+(decS ((m:Int)+1)).length≤sizeLine:=by
     have:(decS ((m:Int)+1)).length≤19:=(dec_chars (n:=((m+1:Nat):Int)) (big_nat hm)).2
     rw[show(Str.ofString "-").length=1 from rfl,sizeLine_eq]
     exact Nat.le_trans (Nat.add_le_add_left this 1) (by decide)
   refine d2B_adds hl ?_
   refine⟨M,Own.Sub.refl M,fun d' e=>?_⟩
   cases e
   exact⟨congrArg (fun z=>DS.d (.str z)) (decS_neg m).symm,rfl⟩
 · rw[if_neg (by rw[decide_eq_false h0];exact nft)]
   walk_at "r"
   refine de_lstO ?_
   walk_at "r"
   intro q hq
   walk_at "dl"
   refine ds_while0 ?_
   walk_at "r"
   refine⟨decide_eq_false (by omega),?_⟩
   walk_at "r"
   refine de_bm ?_
   walk_at "dl"
   refine⟨dty_loc Own.put_same,?_⟩
   walk_at "r"
   refine rd_str (log_big hb) ?_
   walk_at "r"
   refine dm_append Own.put_same (by show 0 < sizeLine;decide) ?_
   rw[Own.put_put]
   walk_at "r"
   refine de_joinRevO ?_
   walk_at "r"
   refine⟨q,[decS n],rfl,Own.put_same,?_,?_⟩
   · have:=(dec_chars hb).2
     rw[show(Str.ofString "").length=0 from rfl,Nat.mul_zero]
     simp only[List.map_cons,List.map_nil,List.sum_cons,List.sum_nil]
     omega
   refine⟨M,(Own.Sub.refl M).put hq,fun d' e=>?_⟩
   cases e
   exact⟨rfl,rfl⟩
end
section
variable {P:Program}{w:World}{K:Frg}{mg:Str→Option Value}{base:Heap}
abbrev s_is_row_of_figures:Stmt:=_root_.sT 35
def nm_is_row_of_figures:List Str:=["text"]
def cc_is_row_of_figures_0:List Str:=["sign"]
def cf_is_row_of_figures_0:List (Option Nat):=[none]
theorem cn_is_row_of_figures_0:cc_is_row_of_figures_0.Nodup:=by decide +kernel
theorem sc_is_row_of_figures:FnScope nm_is_row_of_figures ["text"] (defScope s_is_row_of_figures):=⟨rfl,rfl,rfl,by decide +kernel,rfl,by decide +kernel,by decide +kernel⟩
theorem ok_is_row_of_figures {f:Addr}{fd:FuncData}(F:Fun K "is_row_of_figures" "is_row_of_figures" s_is_row_of_figures f fd) (n_all:mg "all"=none) (n_len:mg "len"=none) (g_FIGURES:∃t,mg "FIGURES"=some (.str ("0123456789") t)):FnOk P w K mg base CX0 1 f fd ["text"] (spD K 1 G_is_row_of_figures):=by
 refine fnD F sc_is_row_of_figures fun cdv A outer s H E hr=>?_
 have hu:=hr.units
 refine⟨_,(@pss_one _ _ _ (@ps_ret _ _ _ _ (@pe_and _ _ _ _ _ _ _ (@pe_cmpR _ _ _ _ _ _ _ _ (@op_gt _) (@pe_callB _ _ _ _ _ _ _ _ _ (@kLen _ (K) rfl) (by rfl) n_len PySem.boot_len (@pa_cons _ _ _ _ _ (@pv _ 0 _ _ (by rfl) (by walk_at "lc") (by decide) (by decide)) (@pa_nil _) (by rfl)) (by decide) (by decide) (by rfl) (by rfl)) (@pe_int _ _ _ _) (@nomark _ _ (by decide) (by decide))) (@pe_one _ _ _ _ _ (@pe_callB _ _ _ _ _ _ _ _ _ (@kAll _ (K) rfl rfl) (by rfl) n_all PyProof.Rows.boot_all (@pa_cons _ _ _ _ _ (@pe_comp _ _ _ _ _ _ _ _ _ _ _ _ _ rfl (@L2.CSc.of _ _ (cc_is_row_of_figures_0) (cf_is_row_of_figures_0) (defScope s_is_row_of_figures) (nm_is_row_of_figures) (by decide +kernel) rfl rfl) (@kIter _ (K) _ _ _ rfl (@pv _ 0 _ _ (by rfl) (by walk_at "lc") (by decide) (by decide))) (fun C s' H' ex' pn'=>⟨@pg_name _ _ (0) _ cn_is_row_of_figures_0 rfl (by walk_at "lc") (by first   | exact .inl rfl   | exact .inr rfl   | assumption),@pts_nil _,(@pe_cmpR _ _ _ _ _ _ _ _ (@kIn _ (K) rfl) (@pv _ 0 _ _ (by rfl) (by walk_at "lc") (by decide) (by decide)) (@pe_gstr _ _ _ _ rfl g_FIGURES (by decide)) (by with_unfolding_all rfl))⟩) (by intro _;rfl)) (@pa_nil _) (by rfl)) (by decide) (by decide) (by rfl) (by rfl)))))),?_⟩
 rintro xs M hl ⟨d,rfl,s,rfl,hs⟩
 have hz:s.length≤sizeLine:=Nat.le_trans hs.1 (by decide)
 walk_at "r"
 refine rd_lens hz ?_
 walk_at "r"
 by_cases h0:s.cps.toList=[]
 · rw[show decide ((0:Int) < (s.length:Int))=false from decide_eq_false (by rw[show s.length=s.cps.toList.length from rfl,h0];simp)]
   walk_at "r"
   refine⟨M,Own.Sub.refl M,fun d' e=>?_⟩
   cases e
   refine⟨congrArg (fun b=>DS.d (.bool b)) ?_,rfl⟩
   unfold rowL;rw[h0];rfl
 · rw[show decide ((0:Int) < (s.length:Int))=true from decide_eq_true (Int.ofNat_lt.mpr (List.length_pos_iff.mpr h0))]
   walk_at "r"
   refine de_comp_pure (go_name 0) (by simp[cf_is_row_of_figures_0]) ?_
   refine diA_str ?_
   walk_at "r"
   refine⟨by simp only[signs,List.length_map];exact Nat.lt_of_le_of_lt hs.1 (by decide),fun _=>true,fun d=>.bool (figP d),?_,?_⟩
   · intro d hd' M'
     obtain⟨c,hc,rfl⟩:=List.mem_map.mp hd'
     walk_at "dl"
     refine⟨rfl,?_⟩
     walk_at "dl"
     refine⟨rfl,rfl,fun _=>?_⟩
     walk_at "r"
     refine d2A_ins ?_
     rw[in_figsB (hs.2 c hc)]
     exact⟨congrArg (fun b=>DS.d (.bool b)) (by simp[figP]),rfl⟩
   · rw[show signs s=s.cps.toList.map fun c=>PyData.str ⟨#[c]⟩ from rfl,figs_list]
     walk_at "r"
     refine rd_all ?_
     rw[figs_all2]
     refine⟨M,Own.Sub.refl M,fun d' e=>?_⟩
     cases e
     refine⟨congrArg (fun b=>DS.d (.bool b)) ?_,rfl⟩
     unfold rowL
     rw[show s.cps.toList.isEmpty=false by simpa using h0];rfl
abbrev s_read_whole:Stmt:=_root_.sT 34
def nm_read_whole:List Str:=["text", "below", "figures", "number", "figure"]
theorem sc_read_whole:FnScope nm_read_whole ["text"] (defScope s_read_whole):=⟨rfl,rfl,rfl,by decide +kernel,rfl,by decide +kernel,by decide +kernel⟩
theorem ok_read_whole {f:Addr}{fd:FuncData}(F:Fun K "read_whole" "read_whole" s_read_whole f fd) (g_FIGURES:∃t,mg "FIGURES"=some (.str ("0123456789") t)) (h_is_row_of_figures:Has P w K mg base "is_row_of_figures" 1 ["text"] G_is_row_of_figures):FnOk P w K mg base CX0 2 f fd ["text"] (spD K 1 G_read_whole):=by
 refine fnD F sc_read_whole fun cdv A outer s H E hr=>?_
 have hu:=hr.units
 refine⟨_,(@pss_cons _ _ _ _ _ (@ps_set _ _ (1) _ _ _ _ sc_read_whole.nd rfl (by walk_at "lc") (@kBm _ (K) _ _ _ _ _ _ _ _ _ _ _ rfl PySem.F.plainAttrs_str PySem.F.slot_str_startswith PySem.F.type_str_startswith (@kStartswith _ (K) rfl) (@pv _ 0 _ _ (by rfl) (by walk_at "lc") (by decide) (by decide)) (@pa_cons _ _ _ _ _ (@pe_str _ _ _ _) (@pa_nil _) (by rfl)) (by rfl) (by rfl) (by rfl) (by rfl) (by rfl)) (by rfl) (by first   | exact .inl rfl   | exact .inr rfl   | assumption)) (@pss_cons _ _ _ _ _ (@ps_set _ _ (2) _ _ _ _ sc_read_whole.nd rfl (by walk_at "lc") (@pe_ifExp _ _ _ _ _ _ _ _ (@pt_val _ _ _ (@pv _ 1 _ _ (by rfl) (by walk_at "lc") (by decide) (by decide)) (by intro _;rfl)) (@pe_slice _ _ _ _ _ _ _ _ _ _ (@kSlB _ (K) rfl) (@pv _ 0 _ _ (by rfl) (by walk_at "lc") (by decide) (by decide)) (@po_some _ _ _ (@pe_int _ _ _ _)) (@po_none _)) (@pv _ 0 _ _ (by rfl) (by walk_at "lc") (by decide) (by decide))) (by rfl) (by first   | exact .inl rfl   | exact .inr rfl   | assumption)) (@pss_cons _ _ _ _ _ (@ps_if _ _ _ _ _ _ _ _ (@L2.PW.pt _ _ _ (@pw_or _ _ _ _ _ _ _ (@pt_not _ _ _ _ (@pt_val _ _ _ (@kCall _ (K) (P) (w) (mg) (base) _ _ _ _ _ _ _ _ _ rfl rfl rfl rfl rfl h_is_row_of_figures (hr.mono (by decide)) rfl (@pa_cons _ _ _ _ _ (@pv _ 2 _ _ (by rfl) (by walk_at "lc") (by decide) (by decide)) (@pa_nil _) (by rfl)) (by decide) (by rfl) (by rfl)) (by intro _;rfl))) (@pw_or1 _ _ _ _ (@L2.PW.pt _ _ _ (@pw_and _ _ _ _ _ _ _ (@pt_cmpR _ _ _ _ _ _ _ _ (@kEq _ (K) rfl hu) (@pe_ix _ _ _ _ _ _ _ (@kIx _ (K) rfl) (@pv _ 2 _ _ (by rfl) (by walk_at "lc") (by decide) (by decide)) (@pe_int _ _ _ _) (fun _ _=>rfl)) (@pe_str _ _ _ _) (@nomark _ _ (by decide) (by decide))) (@pw_and1 _ _ _ _ (@pt_cmpR _ _ _ _ _ _ _ _ (@kNe _ (K) rfl hu) (@pv _ 0 _ _ (by rfl) (by walk_at "lc") (by decide) (by decide)) (@pe_str _ _ _ _) (@nomark _ _ (by decide) (by decide))))))))) (@pss_one _ _ _ (@ps_ret _ _ _ _ (@pe_non _ _ _))) (@pss_nil _)) (@pss_cons _ _ _ _ _ (@ps_set _ _ (3) _ _ _ _ sc_read_whole.nd rfl (by walk_at "lc") (@pe_int _ _ _ _) (by rfl) (by first   | exact .inl rfl   | exact .inr rfl   | assumption)) (@pss_cons _ _ _ _ _ (@ps_for _ _ _ _ _ _ _ _ PassesOwn.never rfl (@kIter _ (K) _ _ _ rfl (@pv _ 2 _ _ (by rfl) (by walk_at "lc") (by decide) (by decide))) (@pg_name _ _ (4) _ sc_read_whole.nd rfl (by walk_at "lc") (by first   | exact .inl rfl   | exact .inr rfl   | assumption)) (@pss_one _ _ _ (@ps_set _ _ (3) _ _ _ _ sc_read_whole.nd rfl (by walk_at "lc") (@pe_op _ _ _ _ _ _ _ _ (@kAddB _ (K) rfl) (@pe_op _ _ _ _ _ _ _ _ (@op_mul _) (@pv _ 3 _ _ (by rfl) (by walk_at "lc") (by decide) (by decide)) (@pe_int _ _ _ _)) (@kBm _ (K) _ _ _ _ _ _ _ _ _ _ _ rfl PySem.F.plainAttrs_str PySem.F.slot_str_index PySem.F.type_str_index (@kIndex _ (K) rfl) (@pe_gstr _ _ _ _ rfl g_FIGURES (by decide)) (@pa_cons _ _ _ _ _ (@pv _ 4 _ _ (by rfl) (by walk_at "lc") (by decide) (by decide)) (@pa_nil _) (by rfl)) (by rfl) (by rfl) (by rfl) (by rfl) (by rfl))) (by rfl) (by first   | exact .inl rfl   | exact .inr rfl   | assumption))) (by intro _;rfl)) (@pss_one _ _ _ (@ps_ret _ _ _ _ (@pe_ifExp _ _ _ _ _ _ _ _ (@pt_val _ _ _ (@pv _ 1 _ _ (by rfl) (by walk_at "lc") (by decide) (by decide)) (by intro _;rfl)) (@pe_un _ _ _ _ _ _ (@un_neg _) (@pv _ 3 _ _ (by rfl) (by walk_at "lc") (by decide) (by decide))) (@pv _ 3 _ _ (by rfl) (by walk_at "lc") (by decide) (by decide)))))))))),?_⟩
 rintro xs M hl ⟨d,rfl,s,rfl,hs⟩
 have hz:s.length≤sizeLine:=Nat.le_trans hs.1 (by decide)
 have hf:=figs_ok hs
 have hz2:(⟨⟨figsL s.cps.toList⟩⟩:Str).length≤sizeLine:=Nat.le_trans hf.1 (by decide)
 generalize hbl:decide (s.cps.toList.head?=some 45)=bl
 walk_at "r"
 refine de_bm ?_
 walk_at "dl"
 refine⟨dty_str,?_⟩
 walk_at "r"
 refine dm_starts ?_
 rw[starts_minus,hbl]
 refine ds_cut (fun ρ1 M1=>M1=M∧ρ1=[some (.d (.str s)),some (.d (.bool bl)),some (.d (.str ⟨⟨figsL s.cps.toList⟩⟩)),none,none]) ?_ ?_
 · walk_at "r"
   cases bl with
   | false=>
     rw[if_neg nft]
     walk_at "r"
     refine⟨rfl,?_⟩
     rw[show(⟨⟨figsL s.cps.toList⟩⟩:Str)=s from str_ext (by unfold figsL;rw[if_neg (of_decide_eq_false hbl)])]
     rfl
   | true=>
     rw[if_pos rfl]
     walk_at "r"
     refine dslB_str hz ?_
     rw[show Txt.slice s (some 1) none=⟨⟨figsL s.cps.toList⟩⟩ from str_ext (by rw[show(1:Int)=((1:Nat):Int) from rfl,slice_from];unfold figsL;rw[if_pos (of_decide_eq_true hbl),List.drop_one])]
     exact⟨rfl,rfl⟩
 · rintro ρ1 M1 ⟨rfl,rfl⟩
   have no:∀b,(rowL (figsL s.cps.toList)&&!(decide ((figsL s.cps.toList).head?=some 48)&&!decide (s.cps.toList=[48])))=b→rwL s.cps.toList=if b then some (if bl then - valL (figsL s.cps.toList) 0 else valL (figsL s.cps.toList) 0) else none:=fun b hb=>by
     unfold rwL
     rw[hb,← hbl]
     cases b <;> simp
   generalize hfl:figsL s.cps.toList=fl at *
   have none_ok:(rowL fl&&!(decide (fl.head?=some 48)&&!decide (s.cps.toList=[48])))=false→∃M',M'.Sub M1∧G_read_whole.post [.d (.str s)] M1 (.d .none) M':=fun hb=>⟨M1,Own.Sub.refl M1,fun d' e=>by
     cases e
     refine⟨congrArg DS.d ?_,rfl⟩
     show _=optI (rwL s.cps.toList)
     rw[no false hb];rfl⟩
   refine ds_cut (fun ρ2 M2=>M2=M1∧ρ2=[some (.d (.str s)),some (.d (.bool bl)),some (.d (.str ⟨⟨fl⟩⟩)),none,none]∧(rowL fl&&!(decide (fl.head?=some 48)&&!decide (s.cps.toList=[48])))=true) ?_ ?_
   · walk_at "r"
     refine fn1_call ⟨_,rfl,hf⟩ ?_
     rw[show rowD (.str ⟨⟨fl⟩⟩) = .bool (rowL fl) from rfl]
     cases hrow:rowL fl with
     | false=>
       walk_at "r"
       exact none_ok (by rw[hrow];rfl)
     | true=>
       obtain⟨y,ys,rfl⟩:∃y ys,fl=y::ys:=by cases fl with | nil=>cases hrow | cons y ys=>exact⟨y,ys,rfl⟩
       have hy:=hf.2 y (show y∈y::ys by simp)
       have h0s:PySem.SeqAt.shaped (.str (Str.ofString "0"))=true:=by decide +kernel
       walk_at "r"
       refine d2A_ixs (c:=y) hz2 (atI_nat (j:=0) rfl) ?_
       walk_at "r"
       refine d2_eq (shaped_asc fun c hc'=>by have e:c=y:=(by simpa using hc');rw[e];omega) h0s ?_
       have e48:((⟨#[y]⟩:Str)==Str.ofString "0")=decide ((y::ys).head?=some 48):=by
         rw[show Str.ofString "0"=⟨#[48]⟩ by decide +kernel,Bool.eq_iff_iff,beq_iff_eq,decide_eq_true_iff]
         exact⟨fun e=>by injection e with e;simpa using e,fun e=>by rw[show y=48 by simpa using e]⟩
       have es:(s==Str.ofString "0")=decide (s.cps.toList=[48]):=by
         rw[show Str.ofString "0"=⟨#[48]⟩ by decide +kernel,Bool.eq_iff_iff,beq_iff_eq,decide_eq_true_iff]
         exact⟨fun e=>by rw[e],fun e=>str_ext e⟩
       rw[if_neg nft,eqv_s3,e48]
       rw[hrow] at none_ok
       cases h8:decide ((y::ys).head?=some 48) with
       | false=>
         walk_at "r"
         exact⟨rfl,rfl,rfl⟩
       | true=>
         rw[h8] at none_ok
         walk_at "r"
         refine d2_eq (shaped_asc hs.2) h0s ?_
         rw[if_pos rfl,eqv_s3,es]
         cases h9:decide (s.cps.toList=[48]) with
         | true=>
           walk_at "r"
           exact⟨rfl,rfl,rfl⟩
         | false=>
           rw[h9] at none_ok
           walk_at "r"
           exact none_ok rfl
   · rintro ρ2 M2 ⟨rfl,rfl,hgo⟩
     have hall:∀c∈fl,48≤c∧c≤57:=fun c hc=>by
       rw[Bool.and_eq_true] at hgo
       have h1:=hgo.1
       unfold rowL at h1
       rw[Bool.and_eq_true] at h1
       exact figB_iff.mp (List.all_eq_true.mp h1.2 c hc)
     have some_ok:∀n,n=(if bl=true then - valL fl 0 else valL fl 0)→∃M',M'.Sub M2∧G_read_whole.post [.d (.str s)] M2 (.d (.int n)) M':=fun n hn=>⟨M2,Own.Sub.refl M2,fun d' e=>by
       cases e
       refine⟨congrArg DS.d ?_,rfl⟩
       show _=optI (rwL s.cps.toList)
       rw[no true hgo,hn];rfl⟩
     walk_at "r"
     refine ds_for ?_
     refine diA_str ?_
     walk_at "r"
     refine⟨fun k ρ' M'=>M'=M2∧∃z,ρ'=[some (.d (.str s)),some (.d (.bool bl)),some (.d (.str ⟨⟨fl⟩⟩)),some (.d (.int (valL (fl.take k) 0))),z],⟨rfl,_,rfl⟩,?_,?_⟩
     · rintro k d ρ' M' hdk ⟨rfl,z,rfl⟩
       unfold signs at hdk
       rw[List.getElem?_map] at hdk
       cases hk:fl[k]? with
       | none=>rw[show(⟨⟨fl⟩⟩:Str).cps.toList[k]?=none from hk] at hdk;cases hdk
       | some c=>
         rw[show(⟨⟨fl⟩⟩:Str).cps.toList[k]?=some c from hk] at hdk
         cases hdk
         obtain⟨r,hr⟩:=fig_at (hall c (List.mem_of_getElem? hk))
         walk_at "r"
         refine de_bm ?_
         walk_at "r"
         refine⟨dty_str,?_⟩
         walk_at "r"
         refine dm_index hr ?_
         walk_at "r"
         refine⟨rfl,some (.d (.str ⟨#[c]⟩)),?_⟩
         have ev:valL (fl.take (k+1)) 0=valL (fl.take k) 0*10+((c - 48:Nat):Int):=by
           unfold valL
           rw[List.take_add_one,hk,List.foldl_append]
           rfl
         rw[ev]
         rfl
     · rintro ρ' M' ⟨rfl,z,rfl⟩
       rw[show(signs (⟨⟨fl⟩⟩:Str)).length=fl.length by simp[signs],List.take_length]
       walk_at "r"
       cases bl with
       | true=>
         rw[if_pos rfl]
         walk_at "r"
         exact some_ok _ rfl
       | false=>
         rw[if_neg nft]
         walk_at "r"
         exact some_ok _ rfl
end
section
variable {P:Program}{w:World}{K:Frg}{mg:Str→Option Value}{base:Heap}
abbrev s_show_deed:Stmt:=_root_.sT 37
def nm_show_deed:List Str:=["deed"]
def cc_show_deed_0:List Str:=["part"]
def cf_show_deed_0:List (Option Nat):=[none]
theorem cn_show_deed_0:cc_show_deed_0.Nodup:=by decide +kernel
theorem sc_show_deed:FnScope nm_show_deed ["deed"] (defScope s_show_deed):=⟨rfl,rfl,rfl,by decide +kernel,rfl,by decide +kernel,by decide +kernel⟩
theorem ok_show_deed {f:Addr}{fd:FuncData}(F:Fun K "show_deed" "show_deed" s_show_deed f fd) (n_isinstance:mg "isinstance"=none) (n_str:mg "str"=none) (h_show_whole:Has P w K mg base "show_whole" 2 ["number"] S_show_whole):FnOk P w K mg base CX0 3 f fd ["deed"] (spD K 1 S_show_deed):=by
 refine fnD F sc_show_deed fun cdv A outer s H E hr=>?_
 have hu:=hr.units
 refine⟨_,(@pss_one _ _ _ (@ps_ret _ _ _ _ (@kBm _ (K) _ _ _ _ _ _ _ _ _ _ _ rfl PySem.F.plainAttrs_str PySem.F.slot_str_join PySem.F.type_str_join (@kJoin _ (K) rfl) (@pe_str _ _ _ _) (@pa_cons _ _ _ _ _ (@pe_comp _ _ _ _ _ _ _ _ _ _ _ _ _ rfl (@L2.CSc.of _ _ (cc_show_deed_0) (cf_show_deed_0) (defScope s_show_deed) (nm_show_deed) (by decide +kernel) rfl rfl) (@kIter _ (K) _ _ _ rfl (@pv _ 0 _ _ (by rfl) (by walk_at "lc") (by decide) (by decide))) (fun C s' H' ex' pn'=>⟨@pg_name _ _ (0) _ cn_show_deed_0 rfl (by walk_at "lc") (by first   | exact .inl rfl   | exact .inr rfl   | assumption),@pts_nil _,(@pe_ifExp _ _ _ _ _ _ _ _ (@pt_val _ _ _ (@pe_callB _ _ _ _ _ _ _ _ _ (@kIsi _ (K) rfl) (by rfl) n_isinstance PyProof.Rows.boot_isinstance (@pa_cons _ _ _ _ _ (@pv _ 0 _ _ (by rfl) (by walk_at "lc") (by decide) (by decide)) (@pa_cons _ _ _ _ _ (@pe_bltn _ _ (.ty "str") _ _ rfl n_str PyProof.Rows.boot_str rfl (by decide) (by decide)) (@pa_nil _) (by rfl)) (by rfl)) (by decide) (by decide) (by rfl) (by rfl)) (by intro _;rfl)) (@pv _ 0 _ _ (by rfl) (by walk_at "lc") (by decide) (by decide)) (@kCall _ (K) (P) (w) (mg) (base) _ _ _ _ _ _ _ _ _ rfl rfl rfl rfl rfl h_show_whole (hr.mono (by decide)) rfl (@pa_cons _ _ _ _ _ (@pv _ 0 _ _ (by rfl) (by walk_at "lc") (by decide) (by decide)) (@pa_nil _) (by rfl)) (by decide) (by rfl) (by rfl)))⟩) (by intro _;rfl)) (@pa_nil _) (by rfl)) (by rfl) (by rfl) (by rfl) (by rfl) (by rfl)))),?_⟩
 rintro xs M hl ⟨d,rfl,D,rfl,hr,hf⟩
 have hp:=parts_ok hr hf
 rw[show D.d = .tuple D.list from D.d_eq]
 walk_at "r"
 refine de_bm ?_
 walk_at "dl"
 refine⟨dty_str,?_⟩
 walk_at "r"
 refine de_comp_pure (go_name 0) (by simp[cf_show_deed_0]) ?_
 refine diA_tup ?_
 walk_at "r"
 refine⟨Nat.lt_of_le_of_lt (list_len2 D) (by decide),fun _=>true,fun d=>.str (partS d),?_,?_⟩
 · intro d hd M'
   rcases hp d hd with ⟨s,rfl,h1,h2⟩ | ⟨n,rfl,hb⟩
   · walk_at "r"
     refine⟨rfl,?_⟩
     walk_at "dl"
     refine⟨rfl,rfl,fun _=>?_⟩
     walk_at "r"
     exact⟨rfl,rfl⟩
   · walk_at "r"
     refine⟨rfl,?_⟩
     walk_at "dl"
     refine⟨rfl,rfl,fun _=>?_⟩
     walk_at "r"
     refine fn1_call ⟨n,rfl,hb⟩ ?_
     exact⟨rfl,rfl⟩
 rw[List.filter_eq_self.mpr (fun _ _=>rfl),show D.list.map (fun d=>PyData.str (partS d))=(D.list.map partS).map .str by rw[List.map_map];rfl]
 walk_at "r"
 refine dm_join (deed_fits hr hf) ?_
 refine⟨M,Own.Sub.refl M,fun d' e=>?_⟩
 cases e
 exact⟨rfl,rfl⟩
end
section
variable {P:Program}{w:World}{K:Frg}{mg:Str→Option Value}{base:Heap}
abbrev s_init_NoText:Stmt:=inCls 0 (_root_.sT 16)
theorem init_NoText {f C S:Addr}{fd:FuncData}(F:Fun K "__init__" "NoText.__init__" s_init_NoText f fd) (c:XCls K C S (.ref f)) (cs:XSet K C "part"):FnOk P w K mg base CX0 1 f fd ["self", "part"] (spInit C "part"):=
 init_ok F ⟨rfl,rfl,rfl,by decide +kernel,rfl,by decide +kernel,by decide +kernel⟩ rfl c cs (by decide) (fun _=>rfl) (fun X hN hS=>pv 0 (by rw[hN];rfl) (by rw[hS];exact Or.inl rfl)) (fun X hN hS=>pv 1 (by rw[hN];rfl) (by rw[hS];exact Or.inl rfl))
abbrev s_read_deed:Stmt:=_root_.sT 38
def nm_read_deed:List Str:=["text", "word", "parts", "form", "deed"]
def cc_read_deed_0:List Str:=["sign", "part"]
def cf_read_deed_0:List (Option Nat):=[none,none]
theorem cn_read_deed_0:cc_read_deed_0.Nodup:=by decide +kernel
theorem sc_read_deed:FnScope nm_read_deed ["text"] (defScope s_read_deed):=⟨rfl,rfl,rfl,by decide +kernel,rfl,by decide +kernel,by decide +kernel⟩
theorem ok_read_deed {f:Addr}{fd:FuncData}{c_S c_NoText:Addr}(F:Fun K "read_deed" "read_deed" s_read_deed f fd) (n_isinstance:mg "isinstance"=none) (n_len:mg "len"=none) (n_str:mg "str"=none) (n_tuple:mg "tuple"=none) (n_zip:mg "zip"=none) (r_NoText:HasR P w K mg base "NoText" "part" c_NoText c_S) (h_form_of:Has P w K mg base "form_of" 1 ["word"] S_form_of) (h_is_deed:Has P w K mg base "is_deed" 5 ["thing"] S_is_deed) (h_read_whole:Has P w K mg base "read_whole" 2 ["text"] G_read_whole):FnOk P w K mg base (CXE P w) 6 f fd ["text"] (spX K 1 (G_read_deed c_NoText)):=by
 refine fnDX F sc_read_deed fun cdv A outer s H E hr=>?_
 have hu:=hr.units
 refine⟨_,(@pss_cons _ _ _ _ _ (@ps_if _ _ _ _ _ _ _ _ (@pt_not _ _ _ _ (@pt_val _ _ _ (@pe_callB _ _ _ _ _ _ _ _ _ (@kIsi _ (K) rfl) (by rfl) n_isinstance PyProof.Rows.boot_isinstance (@pa_cons _ _ _ _ _ (@pv _ 0 _ _ (by rfl) (by walk_at "lc") (by decide) (by decide)) (@pa_cons _ _ _ _ _ (@pe_bltn _ _ (.ty "str") _ _ rfl n_str PyProof.Rows.boot_str rfl (by decide) (by decide)) (@pa_nil _) (by rfl)) (by rfl)) (by decide) (by decide) (by rfl) (by rfl)) (by intro _;rfl))) (@pss_one _ _ _ (@kRaise1 _ _ _ _ _ (cxOf (CXE P w) P w K mg base nm_read_deed "read_deed" (defScope s_read_deed) f cdv A outer s H E) (fun _=>E) _ _ _ _ _ _ _ _ _ rfl rfl rfl rfl rfl r_NoText (hr.mono (by decide)) rfl (@pa_cons _ _ _ _ _ (@pe_non _ _ _) (@pa_nil _) (by rfl)) (by decide) (by rfl))) (@pss_nil _)) (@pss_cons _ _ _ _ _ (@ps_asg _ _ _ _ _ _ (@kBm _ (K) _ _ _ _ _ _ _ _ _ _ _ rfl PySem.F.plainAttrs_str PySem.F.slot_str_split PySem.F.type_str_split (@kSplit _ (K) rfl) (@pv _ 0 _ _ (by rfl) (by walk_at "lc") (by decide) (by decide)) (@pa_cons _ _ _ _ _ (@pe_str _ _ _ _) (@pa_nil _) (by rfl)) (by rfl) (by rfl) (by rfl) (by rfl) (by rfl)) (@kStar _ (K) _ _ _ _ _ rfl rfl (@pgs_cons _ _ _ _ _ (@pg_name _ _ (1) _ sc_read_deed.nd rfl (by walk_at "lc") (by first   | exact .inl rfl   | exact .inr rfl   | assumption)) (@pgs_cons _ _ _ _ _ (@pg_name _ _ (2) _ sc_read_deed.nd rfl (by walk_at "lc") (by first   | exact .inl rfl   | exact .inr rfl   | assumption)) (@pgs_nil _) (by rfl)) (by rfl)) rfl (by rfl) (by rfl)) (by rfl) (by rfl) (by rfl)) (@pss_cons _ _ _ _ _ (@ps_set _ _ (3) _ _ _ _ sc_read_deed.nd rfl (by walk_at "lc") (@kCall _ (K) (P) (w) (mg) (base) _ _ _ _ _ _ _ _ _ rfl rfl rfl rfl rfl h_form_of (hr.mono (by decide)) rfl (@pa_cons _ _ _ _ _ (@pv _ 1 _ _ (by rfl) (by walk_at "lc") (by decide) (by decide)) (@pa_nil _) (by rfl)) (by decide) (by rfl) (by rfl)) (by rfl) (by first   | exact .inl rfl   | exact .inr rfl   | assumption)) (@pss_cons _ _ _ _ _ (@ps_if _ _ _ _ _ _ _ _ (@L2.PW.pt _ _ _ (@pw_or _ _ _ _ _ _ _ (@pt_cmpR _ _ _ _ _ _ _ _ (@op_isA _) (@pv _ 3 _ _ (by rfl) (by walk_at "lc") (by decide) (by decide)) (@pe_non _ _ _) (@nomark _ _ (by decide) (by decide))) (@pw_or1 _ _ _ _ (@pt_cmpR _ _ _ _ _ _ _ _ (@kNe _ (K) rfl hu) (@pe_callB _ _ _ _ _ _ _ _ _ (@kLen _ (K) rfl) (by rfl) n_len PySem.boot_len (@pa_cons _ _ _ _ _ (@pv _ 2 _ _ (by rfl) (by walk_at "lc") (by decide) (by decide)) (@pa_nil _) (by rfl)) (by decide) (by decide) (by rfl) (by rfl)) (@pe_callB _ _ _ _ _ _ _ _ _ (@kLen _ (K) rfl) (by rfl) n_len PySem.boot_len (@pa_cons _ _ _ _ _ (@pv _ 3 _ _ (by rfl) (by walk_at "lc") (by decide) (by decide)) (@pa_nil _) (by rfl)) (by decide) (by decide) (by rfl) (by rfl)) (@nomark _ _ (by decide) (by decide)))))) (@pss_one _ _ _ (@kRaise1 _ _ _ _ _ (cxOf (CXE P w) P w K mg base nm_read_deed "read_deed" (defScope s_read_deed) f cdv A outer s H E) (fun _=>E) _ _ _ _ _ _ _ _ _ rfl rfl rfl rfl rfl r_NoText (hr.mono (by decide)) rfl (@pa_cons _ _ _ _ _ (@pe_non _ _ _) (@pa_nil _) (by rfl)) (by decide) (by rfl))) (@pss_nil _)) (@pss_cons _ _ _ _ _ (@ps_set _ _ (4) _ _ _ _ sc_read_deed.nd rfl (by walk_at "lc") (@pe_op _ _ _ _ _ _ _ _ (@kAddB _ (K) rfl) (@pe_tup _ _ _ _ _ (@pa_cons _ _ _ _ _ (@pv _ 1 _ _ (by rfl) (by walk_at "lc") (by decide) (by decide)) (@pa_nil _) (by rfl))) (@pe_callTy _ _ _ _ _ _ _ _ _ (@kTuple _ (K) rfl) (by rfl) n_tuple PyProof.Rows.boot_tuple (@pa_cons _ _ _ _ _ (@pe_comp _ _ _ _ _ _ _ _ _ _ _ _ _ rfl (@L2.CSc.of _ _ (cc_read_deed_0) (cf_read_deed_0) (defScope s_read_deed) (nm_read_deed) (by decide +kernel) rfl rfl) (@kZipSL _ (K) _ _ _ _ _ _ _ _ rfl rfl n_zip (@pa_cons _ _ _ _ _ (@pv _ 3 _ _ (by rfl) (by walk_at "lc") (by decide) (by decide)) (@pa_cons _ _ _ _ _ (@pv _ 2 _ _ (by rfl) (by walk_at "lc") (by decide) (by decide)) (@pa_nil _) (by rfl)) (by rfl)) (by rfl) (by rfl)) (fun C s' H' ex' pn'=>⟨@kTup _ (K) _ _ _ _ (2) rfl rfl (@pgs_cons _ _ _ _ _ (@pg_name _ _ (0) _ cn_read_deed_0 rfl (by walk_at "lc") (by first   | exact .inl rfl   | exact .inr rfl   | assumption)) (@pgs_cons _ _ _ _ _ (@pg_name _ _ (1) _ cn_read_deed_0 rfl (by walk_at "lc") (by first   | exact .inl rfl   | exact .inr rfl   | assumption)) (@pgs_nil _) (by rfl)) (by rfl)) (by rfl) (by rfl),@pts_nil _,(@pe_ifExp _ _ _ _ _ _ _ _ (@pt_cmpR _ _ _ _ _ _ _ _ (@kEq _ (K) rfl hu) (@pv _ 0 _ _ (by rfl) (by walk_at "lc") (by decide) (by decide)) (@pe_str _ _ _ _) (@nomark _ _ (by decide) (by decide))) (@pv _ 1 _ _ (by rfl) (by walk_at "lc") (by decide) (by decide)) (@kCall _ (K) (P) (w) (mg) (base) _ _ _ _ _ _ _ _ _ rfl rfl rfl rfl rfl h_read_whole (hr.mono (by decide)) rfl (@pa_cons _ _ _ _ _ (@pv _ 1 _ _ (by rfl) (by walk_at "lc") (by decide) (by decide)) (@pa_nil _) (by rfl)) (by decide) (by rfl) (by rfl)))⟩) (by intro _;rfl)) (@pa_nil _) (by rfl)) (by decide) (by decide) (by rfl) (by rfl))) (by rfl) (by first   | exact .inl rfl   | exact .inr rfl   | assumption)) (@pss_cons _ _ _ _ _ (@ps_if _ _ _ _ _ _ _ _ (@pt_not _ _ _ _ (@pt_val _ _ _ (@kCall _ (K) (P) (w) (mg) (base) _ _ _ _ _ _ _ _ _ rfl rfl rfl rfl rfl h_is_deed (hr.mono (by decide)) rfl (@pa_cons _ _ _ _ _ (@pv _ 4 _ _ (by rfl) (by walk_at "lc") (by decide) (by decide)) (@pa_nil _) (by rfl)) (by decide) (by rfl) (by rfl)) (by intro _;rfl))) (@pss_one _ _ _ (@kRaise1 _ _ _ _ _ (cxOf (CXE P w) P w K mg base nm_read_deed "read_deed" (defScope s_read_deed) f cdv A outer s H E) (fun _=>E) _ _ _ _ _ _ _ _ _ rfl rfl rfl rfl rfl r_NoText (hr.mono (by decide)) rfl (@pa_cons _ _ _ _ _ (@pe_non _ _ _) (@pa_nil _) (by rfl)) (by decide) (by rfl))) (@pss_nil _)) (@pss_one _ _ _ (@ps_ret _ _ _ _ (@pv _ 4 _ _ (by rfl) (by walk_at "lc") (by decide) (by decide)))))))))),?_⟩
 rintro xs M hl ⟨d,rfl,hd⟩
 have xn:rdD d=none→∃M2:Own,M2.Sub M∧(G_read_deed c_NoText).xpost [.d d] M (.ref c_NoText) [(Str.ofString "part", .none)] M2:=fun h=>
   ⟨M,Own.Sub.refl M,fun d' e=>by cases e;exact⟨h,rfl,rfl,rfl⟩⟩
 cases d with
 | str x=>
   have hx:okS x:=hd
   have hs:=split_ok1 (y:=Str.ofString " ") hx
   have hc:=split_cnt (x:=x) (y:=Str.ofString " ")
   have hx5:x.length≤5000:=hx.1
   have hrd:rdD (.str x)=rdL (Txt.split x (Str.ofString " ")):=rfl
   walk_at "r"
   refine dx_lift ?_
   refine ds_asg ?_
   refine de_bm ?_
   walk_at "dl"
   refine⟨dty_str,?_⟩
   walk_at "r"
   refine dm_split (by decide +kernel) (Nat.le_trans (Nat.add_le_add_right hx.1 2) (by decide)) ?_
   revert hs hc hrd
   generalize Txt.split x (Str.ofString " ")=ws
   intro hs hc hrd
   cases ws with
   | nil=>exact absurd hc.1 (by decide)
   | cons w ps=>
   have hw:=hs w (by simp)
   have hp:∀p∈ps,okS p:=fun p hp=>hs p (List.mem_cons_of_mem _ hp)
   have hpl:ps.length≤5001:=by have:=hc.2;rw[List.length_cons] at this;omega
   rw[List.map_cons]
   refine⟨_,rfl,?_⟩
   refine dg_star (dgs_cons (dgs_cons (dgs_nil ?_)))
   walk_at "r"
   refine fn1_call trivial ?_
   cases hf:FORMS.lookup w with
   | none=>
     rw[show formD (.str w) = .none by show optD (FORMS.lookup w)=_;rw[hf];rfl]
     walk_at "r"
     refine d2_isNA ?_
     walk_at "r"
     exact xn (by rw[hrd];unfold rdL;dsimp only;rw[hf])
   | some f=>
     obtain⟨fa,fs,_⟩:=form_facts hf
     rw[show formD (.str w) = .str f by show optD (FORMS.lookup w)=_;rw[hf];rfl]
     walk_at "r"
     refine d2_isNA ?_
     walk_at "r"
     refine rd_lenl ?_
     rw[List.length_map]
     walk_at "r"
     refine rd_lens (Nat.le_trans (show f.length≤4 from fs) (by decide)) ?_
     walk_at "r"
     refine d2_eq rfl rfl ?_
     rw[if_pos rfl]
     by_cases hlen:ps.length=f.cps.size
     · rw[show(!PyData.eqv (.int (ps.length:Int)) (.int (f.length:Int)))=false by simp only[PyData.eqv];rw[show f.length=f.cps.size from rfl,hlen];simp]
       walk_at "r"
       refine de_comp_pure (go_tup (gs_cons (gs_cons gs_nil))) (by simp[cf_read_deed_0]) ?_
       refine di_zipSL ?_
       walk_at "r"
       refine⟨_,_,rfl,fa,by rw[List.length_map];omega,?_,fun _=>true,rawQ,?_,?_⟩
       · unfold zipD
         rw[List.length_map,List.length_zip,List.length_map]
         exact Nat.lt_of_le_of_lt (show _≤5001 by omega) (by decide)
       · intro d hd' M'
         obtain⟨⟨s1,p1⟩,hm,rfl⟩:=List.mem_map.mp hd'
         obtain⟨c,hc,rfl⟩:=List.mem_map.mp (List.of_mem_zip hm).1
         obtain⟨q,hq,e⟩:=List.mem_map.mp (List.of_mem_zip hm).2
         have e':p1 = .str q:=e.symm
         subst e'
         have hc128:c < 128:=by
           have:=Array.all_eq_true'.mp fa c (by simpa using hc)
           simpa using this
         walk_at "r"
         refine⟨rfl,?_⟩
         walk_at "dl"
         refine⟨rfl,rfl,fun _=>?_⟩
         walk_at "r"
         refine d2_eq (shaped_sign hc128) (by decide +kernel) ?_
         rw[if_neg nft,eqv_s3]
         cases hcn:((⟨#[c]⟩:Str)==Str.ofString "n") with
         | true=>
           walk_at "r"
           refine⟨congrArg DS.d ?_,rfl⟩
           show PyData.str q=if ((⟨#[c]⟩:Str)==Str.ofString "n") then .str q else rwD (.str q)
           rw[hcn];rfl
         | false=>
           walk_at "r"
           refine fn1_call ⟨q,rfl,hp q hq⟩ ?_
           refine⟨congrArg DS.d ?_,rfl⟩
           show rwD (.str q)=if ((⟨#[c]⟩:Str)==Str.ofString "n") then .str q else rwD (.str q)
           rw[hcn];rfl
       rw[zip_rawQ]
       walk_at "r"
       refine rd_tupl ?_
       have hpr:=partsR_len hlen
       refine d2B_addt (show 1+(partsR f ps).length≤sizeLine by rw[hpr];exact Nat.le_trans (Nat.add_le_add_left fs 1) (by decide)) ?_
       rw[show [PyData.str w]++partsR f ps = .str w::partsR f ps from rfl]
       walk_at "r"
       refine fn1_call (show okP (.tuple (.str w::partsR f ps)) from ⟨by rw[List.length_cons,hpr];omega,parts_okD hw hp⟩) ?_
       cases hdd:isDeedL (.str w::partsR f ps) with
       | true=>
         rw[show isDeedB (.tuple (.str w::partsR f ps))=true from hdd]
         walk_at "r"
         refine⟨M,Own.Sub.refl M,fun d' e=>?_⟩
         cases e
         exact⟨_,by rw[hrd];unfold rdL;dsimp only;rw[hf];dsimp only;rw[if_pos hlen,if_pos hdd],rfl,rfl⟩
       | false=>
         rw[show isDeedB (.tuple (.str w::partsR f ps))=false from hdd]
         walk_at "r"
         exact xn (by rw[hrd];unfold rdL;dsimp only;rw[hf];dsimp only;rw[if_pos hlen,hdd];rfl)
     · rw[show(!PyData.eqv (.int (ps.length:Int)) (.int (f.length:Int)))=true by simp only[PyData.eqv];rw[show f.length=f.cps.size from rfl];simp;omega]
       walk_at "r"
       exact xn (by rw[hrd];unfold rdL;dsimp only;rw[hf];dsimp only;rw[if_neg hlen])
 | _=>
   walk_at "r"
   exact xn rfl
end
section
variable {P:Program}{w:World}{K:Frg}{mg:Str→Option Value}{base:Heap}
abbrev s__law_pack:Stmt:=_root_.sT 40
def nm__law_pack:List Str:=["_law_cell"]
theorem sc__law_pack:FnScope nm__law_pack ["_law_cell"] (defScope s__law_pack):=⟨rfl,rfl,rfl,by decide +kernel,rfl,by decide +kernel,by decide +kernel⟩
theorem ok__law_pack {f:Addr}{fd:FuncData}(F:Fun K "_law_pack" "_law_pack" s__law_pack f fd) (n_abs:mg "abs"=none):FnOk P w K mg base CX0 1 f fd ["_law_cell"] (spD K 1 S__law_pack):=by
 refine fnD F sc__law_pack fun cdv A outer s H E hr=>?_
 have hu:=hr.units
 refine⟨_,(@pss_cons _ _ _ _ _ (@ps_if _ _ _ _ _ _ _ _ (@L2.PW.pt _ _ _ (@pw_or _ _ _ _ _ _ _ (@pt_cmpR _ _ _ _ _ _ _ _ (@op_ltA _) (@pv _ 0 _ _ (by rfl) (by walk_at "lc") (by decide) (by decide)) (@pe_int _ _ _ _) (@nomark _ _ (by decide) (by decide))) (@pw_or1 _ _ _ _ (@pt_cmpR _ _ _ _ _ _ _ _ (@op_ge _) (@pv _ 0 _ _ (by rfl) (by walk_at "lc") (by decide) (by decide)) (@pe_op _ _ _ _ _ _ _ _ (@op_pow _) (@pe_int _ _ _ _) (@pe_int _ _ _ _)) (@nomark _ _ (by decide) (by decide)))))) (@pss_one _ _ _ (@ps_ret _ _ _ _ (@pe_lst _ _ _ _ (@pa_cons _ _ _ _ _ (@pe_int _ _ _ _) (@pa_cons _ _ _ _ _ (@pe_callB _ _ _ _ _ _ _ _ _ (@kAbs _ (K) rfl) (by rfl) n_abs PyProof.Rows.boot_abs (@pa_cons _ _ _ _ _ (@pv _ 0 _ _ (by rfl) (by walk_at "lc") (by decide) (by decide)) (@pa_nil _) (by rfl)) (by decide) (by decide) (by rfl) (by rfl)) (@pa_nil _) (by rfl)) (by rfl))))) (@pss_nil _)) (@pss_one _ _ _ (@ps_ret _ _ _ _ (@pe_lst _ _ _ _ (@pa_cons _ _ _ _ _ (@pe_int _ _ _ _) (@pa_cons _ _ _ _ _ (@pe_op _ _ _ _ _ _ _ _ (@kAddB _ (K) rfl) (@pe_op _ _ _ _ _ _ _ _ (@op_mod _) (@pv _ 0 _ _ (by rfl) (by walk_at "lc") (by decide) (by decide)) (@pe_int _ _ _ _)) (@pe_int _ _ _ _)) (@pa_nil _) (by rfl)) (by rfl)))))),?_⟩
 rintro xs M hl ⟨c,rfl⟩
 walk_at "r"
 refine ite2 (fun h=>?_) (fun h=>?_)
 · walk_at "r"
   refine de_lstO ?_
   walk_at "r"
   intro p hp
   exact⟨_,Own.Sub.refl _,p,_,hp,⟨_,_,rfl⟩,rfl,rfl⟩
 · walk_at "r"
   refine ite2 (fun h=>?_) (fun h=>?_)
   · walk_at "r"
     refine de_lstO ?_
     walk_at "r"
     intro p hp
     exact⟨_,Own.Sub.refl _,p,_,hp,⟨_,_,rfl⟩,rfl,rfl⟩
   · walk_at "r"
     refine de_lstO ?_
     walk_at "r"
     intro p hp
     exact⟨_,Own.Sub.refl _,p,_,hp,⟨_,_,rfl⟩,rfl,rfl⟩
abbrev s__law_take:Stmt:=_root_.sT 41
def nm__law_take:List Str:=["_law_pack_here", "_law_size", "_law_digit", "_law_turn", "_law_upper", "_law_lower"]
theorem sc__law_take:FnScope nm__law_take ["_law_pack_here", "_law_size"] (defScope s__law_take):=⟨rfl,rfl,rfl,by decide +kernel,rfl,by decide +kernel,by decide +kernel⟩
theorem ok__law_take {f:Addr}{fd:FuncData}(F:Fun K "_law_take" "_law_take" s__law_take f fd) (n_divmod:mg "divmod"=none) (n_range:mg "range"=none):FnOk P w K mg base CX0 1 f fd ["_law_pack_here", "_law_size"] (spD K 2 S__law_take):=by
 refine fnD F sc__law_take fun cdv A outer s H E hr=>?_
 have hu:=hr.units
 refine⟨_,(@pss_cons _ _ _ _ _ (@ps_if _ _ _ _ _ _ _ _ (@pt_cmpR _ _ _ _ _ _ _ _ (@kEq _ (K) rfl hu) (@pe_ix _ _ _ _ _ _ _ (@kIx _ (K) rfl) (@pv _ 0 _ _ (by rfl) (by walk_at "lc") (by decide) (by decide)) (@pe_int _ _ _ _) (fun _ _=>rfl)) (@pe_int _ _ _ _) (@nomark _ _ (by decide) (by decide))) (@pss_cons _ _ _ _ _ (@ps_asg _ _ _ _ _ _ (@pe_callB _ _ _ _ _ _ _ _ _ (@kDivmod _ (K) rfl) (by rfl) n_divmod PyProof.Rows.boot_divmod (@pa_cons _ _ _ _ _ (@pe_ix _ _ _ _ _ _ _ (@kIx _ (K) rfl) (@pv _ 0 _ _ (by rfl) (by walk_at "lc") (by decide) (by decide)) (@pe_int _ _ _ _) (fun _ _=>rfl)) (@pa_cons _ _ _ _ _ (@pv _ 1 _ _ (by rfl) (by walk_at "lc") (by decide) (by decide)) (@pa_nil _) (by rfl)) (by rfl)) (by decide) (by decide) (by rfl) (by rfl)) (@kTupA _ (K) _ _ _ _ (2) rfl rfl (@pgs_cons _ _ _ _ _ (@pg_sub _ _ _ _ _ _ _ (@pv _ 0 _ _ (by rfl) (by walk_at "lc") (by decide) (by decide)) (@pe_int _ _ _ _) (@set_list _) (by intro _;rfl)) (@pgs_cons _ _ _ _ _ (@pg_name _ _ (2) _ sc__law_take.nd rfl (by walk_at "lc") (by first   | exact .inl rfl   | exact .inr rfl   | assumption)) (@pgs_nil _) (by rfl)) (by rfl)) (by rfl) (by rfl)) (by rfl) (by rfl) (by rfl)) (@pss_one _ _ _ (@ps_ret _ _ _ _ (@pv _ 2 _ _ (by rfl) (by walk_at "lc") (by decide) (by decide))))) (@pss_nil _)) (@pss_cons _ _ _ _ _ (@ps_for _ _ _ _ _ _ _ _ PassesOwn.never rfl (@pi_range1 _ _ _ _ _ _ rfl n_range (@pa_cons _ _ _ _ _ (@pe_int _ _ _ _) (@pa_nil _) (by rfl)) (by rfl)) (@pg_name _ _ (3) _ sc__law_take.nd rfl (by walk_at "lc") (by first   | exact .inl rfl   | exact .inr rfl   | assumption)) (@pss_cons _ _ _ _ _ (@ps_asg _ _ _ _ _ _ (@pe_callB _ _ _ _ _ _ _ _ _ (@kDivmod _ (K) rfl) (by rfl) n_divmod PyProof.Rows.boot_divmod (@pa_cons _ _ _ _ _ (@pe_ix _ _ _ _ _ _ _ (@kIx _ (K) rfl) (@pv _ 0 _ _ (by rfl) (by walk_at "lc") (by decide) (by decide)) (@pe_int _ _ _ _) (fun _ _=>rfl)) (@pa_cons _ _ _ _ _ (@pe_int _ _ _ _) (@pa_nil _) (by rfl)) (by rfl)) (by decide) (by decide) (by rfl) (by rfl)) (@kTupA _ (K) _ _ _ _ (2) rfl rfl (@pgs_cons _ _ _ _ _ (@pg_name _ _ (4) _ sc__law_take.nd rfl (by walk_at "lc") (by first   | exact .inl rfl   | exact .inr rfl   | assumption)) (@pgs_cons _ _ _ _ _ (@pg_name _ _ (5) _ sc__law_take.nd rfl (by walk_at "lc") (by first   | exact .inl rfl   | exact .inr rfl   | assumption)) (@pgs_nil _) (by rfl)) (by rfl)) (by rfl) (by rfl)) (by rfl) (by rfl) (by rfl)) (@pss_one _ _ _ (@ps_asg _ _ _ _ _ _ (@pe_op _ _ _ _ _ _ _ _ (@op_mod _) (@pe_op _ _ _ _ _ _ _ _ (@kAddB _ (K) rfl) (@pe_op _ _ _ _ _ _ _ _ (@kAddB _ (K) rfl) (@pe_op _ _ _ _ _ _ _ _ (@kMul _ (K) rfl) (@pv _ 5 _ _ (by rfl) (by walk_at "lc") (by decide) (by decide)) (@pe_int _ _ _ _)) (@pe_op _ _ _ _ _ _ _ _ (@kMul _ (K) rfl) (@pv _ 4 _ _ (by rfl) (by walk_at "lc") (by decide) (by decide)) (@pe_int _ _ _ _))) (@pe_int _ _ _ _)) (@pe_int _ _ _ _)) (@pg_sub _ _ _ _ _ _ _ (@pv _ 0 _ _ (by rfl) (by walk_at "lc") (by decide) (by decide)) (@pe_int _ _ _ _) (@set_list _) (by intro _;rfl)) (by rfl) (by rfl) (by rfl)))) (by intro _;rfl)) (@pss_one _ _ _ (@ps_ret _ _ _ _ (@pe_op _ _ _ _ _ _ _ _ (@op_mod _) (@pe_op _ _ _ _ _ _ _ _ (@op_fdivL _) (@pe_ix _ _ _ _ _ _ _ (@kIx _ (K) rfl) (@pv _ 0 _ _ (by rfl) (by walk_at "lc") (by decide) (by decide)) (@pe_int _ _ _ _) (fun _ _=>rfl)) (@pe_int _ _ _ _)) (@pv _ 1 _ _ (by rfl) (by walk_at "lc") (by decide) (by decide))))))),?_⟩
 rintro xs M hl ⟨p,size,o,rfl,m,⟨a,v,rfl⟩,h0,h1⟩
 have h64:size < 2 ^ 64:=by rw[p64];omega
 walk_at "r"
 refine d2_eq rfl rfl ?_
 rw[if_neg nft]
 walk_at "r"
 refine ite2 (fun h=>?_) (fun h=>?_)
 · walk_at "dl"
   refine ds_asg ?_
   walk_at "r"
   refine rd_divmod h0 h1 ?_
   walk_at "r"
   refine⟨_,Own.Sub.refl _,fun p' size' e=>?_⟩
   cases e
   exact⟨_,_,rfl,Int.emod_nonneg _ (by omega),Int.emod_lt_of_pos _ h0,⟨a,_,rfl⟩,rfl⟩
 · walk_at "r"
   refine ds_for ?_
   refine di_rng1 ?_
   walk_at "r"
   refine⟨by decide,by decide,?_⟩
   refine⟨fun k ρ' M'=>∃(v':Int) (x y z u:Option DS),M'=M.put p (.l [.int a,.int v'])∧ρ'=[some (.loc p),some (.d (.int size)),x,y,z,u],⟨v,_,_,_,_,(Own.put_self m).symm,rfl⟩,?_,?_⟩
   · rintro k d ρ' M' hd ⟨v',x,y,z,u,rfl,rfl⟩
     walk_at "r"
     refine ds_asg ?_
     walk_at "r"
     refine rd_divmod (by decide) (by decide) ?_
     walk_at "r"
     exact⟨_,_,_,_,_,by rw[Own.put_put];rfl,rfl⟩
   · rintro ρ' M' ⟨v',x,y,z,u,rfl,rfl⟩
     walk_at "r"
     refine⟨_,Own.Sub.refl _,fun p' size' e=>?_⟩
     cases e
     exact⟨_,_,rfl,Int.emod_nonneg _ (by omega),Int.emod_lt_of_pos _ h0,⟨a,v',rfl⟩,rfl⟩
abbrev s__law_place:Stmt:=_root_.sT 44
def nm__law_place:List Str:=["_law_pack_here"]
theorem sc__law_place:FnScope nm__law_place ["_law_pack_here"] (defScope s__law_place):=⟨rfl,rfl,rfl,by decide +kernel,rfl,by decide +kernel,by decide +kernel⟩
theorem ok__law_place {f:Addr}{fd:FuncData}(F:Fun K "_law_place" "_law_place" s__law_place f fd) (h__law_take:Has P w K mg base "_law_take" 1 ["_law_pack_here", "_law_size"] S__law_take):FnOk P w K mg base CX0 2 f fd ["_law_pack_here"] (spD K 1 S__law_place):=by
 refine fnD F sc__law_place fun cdv A outer s H E hr=>?_
 have hu:=hr.units
 refine⟨_,(@pss_one _ _ _ (@ps_ret _ _ _ _ (@pe_ix _ _ _ _ _ _ _ (@kIx _ (K) rfl) (@pe_lst _ _ _ _ (@pa_cons _ _ _ _ _ (@pe_int _ _ _ _) (@pa_cons _ _ _ _ _ (@pe_int _ _ _ _) (@pa_cons _ _ _ _ _ (@kCall _ (K) (P) (w) (mg) (base) _ _ _ _ _ _ _ _ _ rfl rfl rfl rfl rfl h__law_take (hr.mono (by decide)) rfl (@pa_cons _ _ _ _ _ (@pv _ 0 _ _ (by rfl) (by walk_at "lc") (by decide) (by decide)) (@pa_cons _ _ _ _ _ (@pe_int _ _ _ _) (@pa_nil _) (by rfl)) (by rfl)) (by decide) (by rfl) (by rfl)) (@pa_nil _) (by rfl)) (by rfl)) (by rfl))) (@kCall _ (K) (P) (w) (mg) (base) _ _ _ _ _ _ _ _ _ rfl rfl rfl rfl rfl h__law_take (hr.mono (by decide)) rfl (@pa_cons _ _ _ _ _ (@pv _ 0 _ _ (by rfl) (by walk_at "lc") (by decide) (by decide)) (@pa_cons _ _ _ _ _ (@pe_int _ _ _ _) (@pa_nil _) (by rfl)) (by rfl)) (by decide) (by rfl) (by rfl)) (fun _ _=>rfl)))),?_⟩
 rintro xs M hl ⟨p,o,rfl,m,ho⟩
 walk_at "r"
 refine de_lst ?_
 walk_at "r"
 refine take_call m ho (by decide) (by decide) fun v o1 a0 a1 ho1=>?_
 walk_at "r"
 refine take_call Own.put_same ho1 (by decide) (by decide) fun v2 o2 b0 b1 ho2=>?_
 have hv:v2=0∨v2=1∨v2=2:=by omega
 rcases hv with rfl | rfl | rfl
 · refine d2A_ixl (d:=.int 0) rfl ?_
   refine⟨_,Own.Sub.refl _,fun p' e=>?_⟩
   cases e
   exact⟨0,o2,rfl,by decide,by decide,ho2,by rw[Own.put_put]⟩
 · refine d2A_ixl (d:=.int 999) rfl ?_
   refine⟨_,Own.Sub.refl _,fun p' e=>?_⟩
   cases e
   exact⟨999,o2,rfl,by decide,by decide,ho2,by rw[Own.put_put]⟩
 · refine d2A_ixl (d:=.int v) rfl ?_
   refine⟨_,Own.Sub.refl _,fun p' e=>?_⟩
   cases e
   exact⟨v,o2,rfl,a0,by omega,ho2,by rw[Own.put_put]⟩
abbrev s__law_count:Stmt:=_root_.sT 43
def nm__law_count:List Str:=["_law_pack_here", "_law_pick", "_law_number_here"]
theorem sc__law_count:FnScope nm__law_count ["_law_pack_here"] (defScope s__law_count):=⟨rfl,rfl,rfl,by decide +kernel,rfl,by decide +kernel,by decide +kernel⟩
theorem ok__law_count {f:Addr}{fd:FuncData}(F:Fun K "_law_count" "_law_count" s__law_count f fd) (h__law_take:Has P w K mg base "_law_take" 1 ["_law_pack_here", "_law_size"] S__law_take):FnOk P w K mg base CX0 2 f fd ["_law_pack_here"] (spD K 1 S11_count):=by
 refine fnD F sc__law_count fun cdv A outer s H E hr=>?_
 have hu:=hr.units
 refine⟨_,(@pss_cons _ _ _ _ _ (@ps_set _ _ (1) _ _ _ _ sc__law_count.nd rfl (by walk_at "lc") (@kCall _ (K) (P) (w) (mg) (base) _ _ _ _ _ _ _ _ _ rfl rfl rfl rfl rfl h__law_take (hr.mono (by decide)) rfl (@pa_cons _ _ _ _ _ (@pv _ 0 _ _ (by rfl) (by walk_at "lc") (by decide) (by decide)) (@pa_cons _ _ _ _ _ (@pe_int _ _ _ _) (@pa_nil _) (by rfl)) (by rfl)) (by decide) (by rfl) (by rfl)) (by rfl) (by first   | exact .inl rfl   | exact .inr rfl   | assumption)) (@pss_cons _ _ _ _ _ (@ps_if _ _ _ _ _ _ _ _ (@pt_cmpR _ _ _ _ _ _ _ _ (@op_ltA _) (@pv _ 1 _ _ (by rfl) (by walk_at "lc") (by decide) (by decide)) (@pe_int _ _ _ _) (@nomark _ _ (by decide) (by decide))) (@pss_one _ _ _ (@ps_ret _ _ _ _ (@pe_op _ _ _ _ _ _ _ _ (@op_sub _) (@kCall _ (K) (P) (w) (mg) (base) _ _ _ _ _ _ _ _ _ rfl rfl rfl rfl rfl h__law_take (hr.mono (by decide)) rfl (@pa_cons _ _ _ _ _ (@pv _ 0 _ _ (by rfl) (by walk_at "lc") (by decide) (by decide)) (@pa_cons _ _ _ _ _ (@pe_int _ _ _ _) (@pa_nil _) (by rfl)) (by rfl)) (by decide) (by rfl) (by rfl)) (@pe_int _ _ _ _)))) (@pss_nil _)) (@pss_cons _ _ _ _ _ (@ps_if _ _ _ _ _ _ _ _ (@pt_cmpR _ _ _ _ _ _ _ _ (@kEq _ (K) rfl hu) (@pv _ 1 _ _ (by rfl) (by walk_at "lc") (by decide) (by decide)) (@pe_int _ _ _ _) (@nomark _ _ (by decide) (by decide))) (@pss_one _ _ _ (@ps_ret _ _ _ _ (@pe_ix _ _ _ _ _ _ _ (@kIx _ (K) rfl) (@pe_lst _ _ _ _ (@pa_cons _ _ _ _ _ (@pe_op _ _ _ _ _ _ _ _ (@op_pow _) (@pe_int _ _ _ _) (@pe_int _ _ _ _)) (@pa_cons _ _ _ _ _ (@pe_op _ _ _ _ _ _ _ _ (@op_sub _) (@pe_int _ _ _ _) (@pe_op _ _ _ _ _ _ _ _ (@op_pow _) (@pe_int _ _ _ _) (@pe_int _ _ _ _))) (@pa_nil _) (by rfl)) (by rfl))) (@kCall _ (K) (P) (w) (mg) (base) _ _ _ _ _ _ _ _ _ rfl rfl rfl rfl rfl h__law_take (hr.mono (by decide)) rfl (@pa_cons _ _ _ _ _ (@pv _ 0 _ _ (by rfl) (by walk_at "lc") (by decide) (by decide)) (@pa_cons _ _ _ _ _ (@pe_int _ _ _ _) (@pa_nil _) (by rfl)) (by rfl)) (by decide) (by rfl) (by rfl)) (fun _ _=>rfl)))) (@pss_nil _)) (@pss_cons _ _ _ _ _ (@ps_set _ _ (2) _ _ _ _ sc__law_count.nd rfl (by walk_at "lc") (@kCall _ (K) (P) (w) (mg) (base) _ _ _ _ _ _ _ _ _ rfl rfl rfl rfl rfl h__law_take (hr.mono (by decide)) rfl (@pa_cons _ _ _ _ _ (@pv _ 0 _ _ (by rfl) (by walk_at "lc") (by decide) (by decide)) (@pa_cons _ _ _ _ _ (@pe_op _ _ _ _ _ _ _ _ (@op_pow _) (@pe_int _ _ _ _) (@pe_int _ _ _ _)) (@pa_nil _) (by rfl)) (by rfl)) (by decide) (by rfl) (by rfl)) (by rfl) (by first   | exact .inl rfl   | exact .inr rfl   | assumption)) (@pss_cons _ _ _ _ _ (@ps_if _ _ _ _ _ _ _ _ (@pt_cmpR _ _ _ _ _ _ _ _ (@kEq _ (K) rfl hu) (@pv _ 1 _ _ (by rfl) (by walk_at "lc") (by decide) (by decide)) (@pe_int _ _ _ _) (@nomark _ _ (by decide) (by decide))) (@pss_one _ _ _ (@ps_set _ _ (2) _ _ _ _ sc__law_count.nd rfl (by walk_at "lc") (@pe_op _ _ _ _ _ _ _ _ (@kAddB _ (K) rfl) (@pe_op _ _ _ _ _ _ _ _ (@kMul _ (K) rfl) (@pv _ 2 _ _ (by rfl) (by walk_at "lc") (by decide) (by decide)) (@pe_op _ _ _ _ _ _ _ _ (@op_pow _) (@pe_int _ _ _ _) (@pe_int _ _ _ _))) (@kCall _ (K) (P) (w) (mg) (base) _ _ _ _ _ _ _ _ _ rfl rfl rfl rfl rfl h__law_take (hr.mono (by decide)) rfl (@pa_cons _ _ _ _ _ (@pv _ 0 _ _ (by rfl) (by walk_at "lc") (by decide) (by decide)) (@pa_cons _ _ _ _ _ (@pe_op _ _ _ _ _ _ _ _ (@op_pow _) (@pe_int _ _ _ _) (@pe_int _ _ _ _)) (@pa_nil _) (by rfl)) (by rfl)) (by decide) (by rfl) (by rfl))) (by rfl) (by first   | exact .inl rfl   | exact .inr rfl   | assumption))) (@pss_nil _)) (@pss_one _ _ _ (@ps_ret _ _ _ _ (@pe_op _ _ _ _ _ _ _ _ (@kMul _ (K) rfl) (@pv _ 2 _ _ (by rfl) (by walk_at "lc") (by decide) (by decide)) (@pe_op _ _ _ _ _ _ _ _ (@op_sub _) (@pe_int _ _ _ _) (@pe_op _ _ _ _ _ _ _ _ (@kMul _ (K) rfl) (@pe_int _ _ _ _) (@kCall _ (K) (P) (w) (mg) (base) _ _ _ _ _ _ _ _ _ rfl rfl rfl rfl rfl h__law_take (hr.mono (by decide)) rfl (@pa_cons _ _ _ _ _ (@pv _ 0 _ _ (by rfl) (by walk_at "lc") (by decide) (by decide)) (@pa_cons _ _ _ _ _ (@pe_int _ _ _ _) (@pa_nil _) (by rfl)) (by rfl)) (by decide) (by rfl) (by rfl)))))))))))),?_⟩
 rintro xs M hl ⟨p,o,rfl,m,ho⟩
 walk_at "r"
 refine take_call m ho (by decide) (by decide) fun v o1 a0 a1 ho1=>?_
 walk_at "r"
 refine ite2 (fun h=>?_) (fun h=>?_)
 · walk_at "r"
   refine take_call Own.put_same ho1 (by decide) (by decide) fun v2 o2 b0 b1 ho2=>?_
   walk_at "r"
   refine⟨_,Own.Sub.refl _,fun p' e=>?_⟩
   cases e
   exact⟨_,o2,rfl,⟨by omega,by omega⟩,ho2,by rw[Own.put_put]⟩
 · walk_at "r"
   refine d2_eq rfl rfl ?_
   walk_at "r"
   refine ite2 (fun h=>?_) (fun h=>?_)
   · walk_at "r"
     refine de_lst ?_
     walk_at "r"
     refine take_call Own.put_same ho1 (by decide) (by decide) fun v2 o2 b0 b1 ho2=>?_
     obtain⟨x,ex,mx⟩:=atI_some (xs:=[PyData.int (10 ^ Int.toNat 12),.int (0 - 10 ^ Int.toNat 12)]) b0 b1
     obtain⟨i,rfl,hi⟩:∃i:Int,x = .int i∧(-1000000000000≤i∧i≤1000000000000):=by
       simp only[List.mem_cons,List.not_mem_nil,or_false] at mx
       rcases mx with rfl | rfl
       · exact⟨_,rfl,by decide,by decide⟩
       · exact⟨_,rfl,by decide,by decide⟩
     refine d2A_ixl ex ?_
     refine⟨_,Own.Sub.refl _,fun p' e=>?_⟩
     cases e
     exact⟨_,o2,rfl,hi,ho2,by rw[Own.put_put]⟩
   · walk_at "r"
     refine take_call Own.put_same ho1 (by decide) (by decide) fun v2 o2 b0 b1 ho2=>?_
     rw[Own.put_put]
     refine ds_cut (fun ρ1 M1=>∃(n:Int) (o3:MO) (a b:Option DS),0≤n∧n < 1000000000000∧pack1 o3∧M1=M.put p o3∧ρ1=[a,b,some (.d (.int n))]∧a=some (.loc p)) ?_ ?_
     · walk_at "r"
       refine d2_eq rfl rfl ?_
       walk_at "r"
       have e6:(10:Int) ^ Int.toNat 6=1000000:=by decide
       rw[e6] at b1
       refine ite2 (fun h=>?_) (fun h=>?_)
       · walk_at "r"
         refine take_call Own.put_same ho2 (by decide) (by decide) fun v3 o3 c0 c1 ho3=>?_
         rw[e6] at c1
         rw[Own.put_put,e6]
         walk_at "r"
         exact⟨_,o3,_,_,by omega,by omega,ho3,rfl,rfl,rfl⟩
       · walk_at "r"
         exact⟨v2,o2,_,_,b0,by omega,ho2,rfl,rfl,rfl⟩
     · rintro ρ1 M1 ⟨n,o3,a,b,n0,n1,ho3,rfl,rfl,rfl⟩
       walk_at "r"
       refine take_call Own.put_same ho3 (by decide) (by decide) fun v4 o4 d0 d1 ho4=>?_
       walk_at "r"
       refine d2_mul (CMul.ok (cmul_l (by omega) (by omega))) ?_
       refine⟨_,Own.Sub.refl _,fun p' e=>?_⟩
       cases e
       have hb : -1000000000000≤n*(1 - 2*v4)∧n*(1 - 2*v4)≤1000000000000:=by
         obtain rfl | rfl:v4=0∨v4=1:=by omega
         · rw[show(1 - 2*0:Int)=1 from rfl,Int.mul_one];omega
         · rw[show(1 - 2*1:Int) = -1 from rfl,Int.mul_neg,Int.mul_one];omega
       exact⟨_,o4,rfl,hb,ho4,by rw[Own.put_put]⟩
end
section
variable {P:Program}{w:World}{K:Frg}{mg:Str→Option Value}{base:Heap}
abbrev s__law_names:Stmt:=_root_.sT 42
def nm__law_names:List Str:=["_law_pack_here", "_law_amount", "_law_letters", "_law_turn", "_law_pick", "_law_size"]
def cc__law_names_0:List Str:=["_law_k", "_law_letters"]
def cf__law_names_0:List (Option Nat):=[none,some 2]
theorem cn__law_names_0:cc__law_names_0.Nodup:=by decide +kernel
def cc__law_names_1:List Str:=["_law_k", "_law_letters", "_law_size"]
def cf__law_names_1:List (Option Nat):=[none,some 2,some 5]
theorem cn__law_names_1:cc__law_names_1.Nodup:=by decide +kernel
def cc__law_names_2:List Str:=["_law_k", "_law_letters", "_law_size"]
def cf__law_names_2:List (Option Nat):=[none,some 2,some 5]
theorem cn__law_names_2:cc__law_names_2.Nodup:=by decide +kernel
theorem sc__law_names:FnScope nm__law_names ["_law_pack_here", "_law_amount"] (defScope s__law_names):=⟨rfl,rfl,rfl,by decide +kernel,rfl,by decide +kernel,by decide +kernel⟩
theorem ok__law_names {f:Addr}{fd:FuncData}(F:Fun K "_law_names" "_law_names" s__law_names f fd) (n_range:mg "range"=none) (h__law_take:Has P w K mg base "_law_take" 1 ["_law_pack_here", "_law_size"] S__law_take):FnOk P w K mg base CX0 2 f fd ["_law_pack_here", "_law_amount"] (spD K 2 S__law_names):=by
 refine fnD F sc__law_names fun cdv A outer s H E hr=>?_
 have hu:=hr.units
 refine⟨_,(@pss_cons _ _ _ _ _ (@ps_set _ _ (2) _ _ _ _ sc__law_names.nd rfl (by walk_at "lc") (@pe_str _ _ _ _) (by rfl) (by first   | exact .inl rfl   | exact .inr rfl   | assumption)) (@pss_cons _ _ _ _ _ (@ps_set _ _ (3) _ _ _ _ sc__law_names.nd rfl (by walk_at "lc") (@kCall _ (K) (P) (w) (mg) (base) _ _ _ _ _ _ _ _ _ rfl rfl rfl rfl rfl h__law_take (hr.mono (by decide)) rfl (@pa_cons _ _ _ _ _ (@pv _ 0 _ _ (by rfl) (by walk_at "lc") (by decide) (by decide)) (@pa_cons _ _ _ _ _ (@pe_int _ _ _ _) (@pa_nil _) (by rfl)) (by rfl)) (by decide) (by rfl) (by rfl)) (by rfl) (by first   | exact .inl rfl   | exact .inr rfl   | assumption)) (@pss_cons _ _ _ _ _ (@ps_set _ _ (2) _ _ _ _ sc__law_names.nd rfl (by walk_at "lc") (@pe_op _ _ _ _ _ _ _ _ (@kAddB _ (K) rfl) (@pe_slice _ _ _ _ _ _ _ _ _ _ (@kSlB _ (K) rfl) (@pv _ 2 _ _ (by rfl) (by walk_at "lc") (by decide) (by decide)) (@po_some _ _ _ (@pv _ 3 _ _ (by rfl) (by walk_at "lc") (by decide) (by decide))) (@po_none _)) (@pe_slice _ _ _ _ _ _ _ _ _ _ (@kSlB _ (K) rfl) (@pv _ 2 _ _ (by rfl) (by walk_at "lc") (by decide) (by decide)) (@po_none _) (@po_some _ _ _ (@pv _ 3 _ _ (by rfl) (by walk_at "lc") (by decide) (by decide))))) (by rfl) (by first   | exact .inl rfl   | exact .inr rfl   | assumption)) (@pss_cons _ _ _ _ _ (@ps_set _ _ (4) _ _ _ _ sc__law_names.nd rfl (by walk_at "lc") (@kCall _ (K) (P) (w) (mg) (base) _ _ _ _ _ _ _ _ _ rfl rfl rfl rfl rfl h__law_take (hr.mono (by decide)) rfl (@pa_cons _ _ _ _ _ (@pv _ 0 _ _ (by rfl) (by walk_at "lc") (by decide) (by decide)) (@pa_cons _ _ _ _ _ (@pe_int _ _ _ _) (@pa_nil _) (by rfl)) (by rfl)) (by decide) (by rfl) (by rfl)) (by rfl) (by first   | exact .inl rfl   | exact .inr rfl   | assumption)) (@pss_cons _ _ _ _ _ (@ps_set _ _ (5) _ _ _ _ sc__law_names.nd rfl (by walk_at "lc") (@kCall _ (K) (P) (w) (mg) (base) _ _ _ _ _ _ _ _ _ rfl rfl rfl rfl rfl h__law_take (hr.mono (by decide)) rfl (@pa_cons _ _ _ _ _ (@pv _ 0 _ _ (by rfl) (by walk_at "lc") (by decide) (by decide)) (@pa_cons _ _ _ _ _ (@pe_int _ _ _ _) (@pa_nil _) (by rfl)) (by rfl)) (by decide) (by rfl) (by rfl)) (by rfl) (by first   | exact .inl rfl   | exact .inr rfl   | assumption)) (@pss_cons _ _ _ _ _ (@ps_if _ _ _ _ _ _ _ _ (@pt_cmpR _ _ _ _ _ _ _ _ (@kEq _ (K) rfl hu) (@pv _ 4 _ _ (by rfl) (by walk_at "lc") (by decide) (by decide)) (@pe_int _ _ _ _) (@nomark _ _ (by decide) (by decide))) (@pss_one _ _ _ (@ps_ret _ _ _ _ (@pe_comp _ _ _ _ _ _ _ _ _ _ _ _ _ rfl (@L2.CSc.of _ _ (cc__law_names_0) (cf__law_names_0) (defScope s__law_names) (nm__law_names) (by decide +kernel) rfl rfl) (@pi_range1 _ _ _ _ _ _ rfl n_range (@pa_cons _ _ _ _ _ (@pv _ 1 _ _ (by rfl) (by walk_at "lc") (by decide) (by decide)) (@pa_nil _) (by rfl)) (by rfl)) (fun C s' H' ex' pn'=>⟨@pg_name _ _ (0) _ cn__law_names_0 rfl (by walk_at "lc") (by first   | exact .inl rfl   | exact .inr rfl   | assumption),@pts_nil _,(@pe_op _ _ _ _ _ _ _ _ (@kMul _ (K) rfl) (@pe_ix _ _ _ _ _ _ _ (@kIx _ (K) rfl) (@pv _ 1 _ _ (by rfl) (by walk_at "lc") (by decide) (by decide)) (@pe_op _ _ _ _ _ _ _ _ (@op_fdivL _) (@pv _ 0 _ _ (by rfl) (by walk_at "lc") (by decide) (by decide)) (@pe_int _ _ _ _)) (fun _ _=>rfl)) (@pe_op _ _ _ _ _ _ _ _ (@kAddB _ (K) rfl) (@pe_int _ _ _ _) (@pe_op _ _ _ _ _ _ _ _ (@op_mod _) (@pv _ 0 _ _ (by rfl) (by walk_at "lc") (by decide) (by decide)) (@pe_int _ _ _ _))))⟩) (by intro _;rfl)))) (@pss_nil _)) (@pss_cons _ _ _ _ _ (@ps_if _ _ _ _ _ _ _ _ (@pt_cmpR _ _ _ _ _ _ _ _ (@kEq _ (K) rfl hu) (@pv _ 4 _ _ (by rfl) (by walk_at "lc") (by decide) (by decide)) (@pe_int _ _ _ _) (@nomark _ _ (by decide) (by decide))) (@pss_one _ _ _ (@ps_ret _ _ _ _ (@pe_comp _ _ _ _ _ _ _ _ _ _ _ _ _ rfl (@L2.CSc.of _ _ (cc__law_names_1) (cf__law_names_1) (defScope s__law_names) (nm__law_names) (by decide +kernel) rfl rfl) (@pi_range1 _ _ _ _ _ _ rfl n_range (@pa_cons _ _ _ _ _ (@pv _ 1 _ _ (by rfl) (by walk_at "lc") (by decide) (by decide)) (@pa_nil _) (by rfl)) (by rfl)) (fun C s' H' ex' pn'=>⟨@pg_name _ _ (0) _ cn__law_names_1 rfl (by walk_at "lc") (by first   | exact .inl rfl   | exact .inr rfl   | assumption),@pts_nil _,(@pe_op _ _ _ _ _ _ _ _ (@kAddB _ (K) rfl) (@pe_ix _ _ _ _ _ _ _ (@kIx _ (K) rfl) (@pv _ 1 _ _ (by rfl) (by walk_at "lc") (by decide) (by decide)) (@pv _ 0 _ _ (by rfl) (by walk_at "lc") (by decide) (by decide)) (fun _ _=>rfl)) (@pe_slice _ _ _ _ _ _ _ _ _ _ (@kSlB _ (K) rfl) (@pv _ 1 _ _ (by rfl) (by walk_at "lc") (by decide) (by decide)) (@po_some _ _ _ (@pe_int _ _ _ _)) (@po_some _ _ _ (@pe_op _ _ _ _ _ _ _ _ (@kAddB _ (K) rfl) (@pe_int _ _ _ _) (@pv _ 2 _ _ (by rfl) (by walk_at "lc") (by decide) (by decide))))))⟩) (by intro _;rfl)))) (@pss_nil _)) (@pss_one _ _ _ (@ps_ret _ _ _ _ (@pe_comp _ _ _ _ _ _ _ _ _ _ _ _ _ rfl (@L2.CSc.of _ _ (cc__law_names_2) (cf__law_names_2) (defScope s__law_names) (nm__law_names) (by decide +kernel) rfl rfl) (@pi_range1 _ _ _ _ _ _ rfl n_range (@pa_cons _ _ _ _ _ (@pv _ 1 _ _ (by rfl) (by walk_at "lc") (by decide) (by decide)) (@pa_nil _) (by rfl)) (by rfl)) (fun C s' H' ex' pn'=>⟨@pg_name _ _ (0) _ cn__law_names_2 rfl (by walk_at "lc") (by first   | exact .inl rfl   | exact .inr rfl   | assumption),@pts_nil _,(@pe_op _ _ _ _ _ _ _ _ (@kAddB _ (K) rfl) (@pe_slice _ _ _ _ _ _ _ _ _ _ (@kSlB _ (K) rfl) (@pv _ 1 _ _ (by rfl) (by walk_at "lc") (by decide) (by decide)) (@po_some _ _ _ (@pe_int _ _ _ _)) (@po_some _ _ _ (@pe_op _ _ _ _ _ _ _ _ (@kAddB _ (K) rfl) (@pe_int _ _ _ _) (@pv _ 2 _ _ (by rfl) (by walk_at "lc") (by decide) (by decide))))) (@pe_ix _ _ _ _ _ _ _ (@kIx _ (K) rfl) (@pv _ 1 _ _ (by rfl) (by walk_at "lc") (by decide) (by decide)) (@pv _ 0 _ _ (by rfl) (by walk_at "lc") (by decide) (by decide)) (fun _ _=>rfl)))⟩) (by intro _;rfl))))))))))),?_⟩
 rintro xs M hl ⟨p,n,o,rfl,m,ho,hn0,hn1⟩
 obtain⟨N,rfl⟩:∃N:Nat,n=(N:Int):=⟨n.toNat,by omega⟩
 have hlz:((Str.ofString "abcdefghijklmnopqrstuvwxyz"):Str).length≤sizeLine:=by rw[letters_len];decide
 walk_at "r"
 refine take_call m ho (by decide) (by decide) fun v1 o1 hv0 hv1 ho1=>?_
 obtain⟨t,rfl⟩:∃t:Nat,v1=(t:Int):=⟨v1.toNat,by omega⟩
 walk_at "r"
 refine dslB_str hlz ?_
 walk_at "r"
 refine dslB_str hlz ?_
 refine d2B_adds (Nat.le_trans (Nat.add_le_add (slice_len _ _ _ (Nat.le_of_eq letters_len)) (slice_len _ _ _ (Nat.le_of_eq letters_len))) (by decide)) ?_
 have hRl:letZ (Txt.slice (Str.ofString "abcdefghijklmnopqrstuvwxyz") (some (t:Int)) none++Txt.slice (Str.ofString "abcdefghijklmnopqrstuvwxyz") none (some (t:Int))):=by
   refine letZ_app (fun c hc=>?_) (fun c hc=>?_)
   · rw[slice_from] at hc;exact lets_isLet c (List.mem_of_mem_drop hc)
   · exact lets_isLet c (slice_let hc)
 have hRn:(Txt.slice (Str.ofString "abcdefghijklmnopqrstuvwxyz") (some (t:Int)) none++Txt.slice (Str.ofString "abcdefghijklmnopqrstuvwxyz") none (some (t:Int))).cps.toList.length=26:=by
   rw[append_toList,List.length_append,slice_from,slice_take,List.length_drop,List.length_take,← size_list,let_size];exact om_rot (Nat.le_of_lt (Int.ofNat_lt.mp hv1))
 have hRd:(Txt.slice (Str.ofString "abcdefghijklmnopqrstuvwxyz") (some (t:Int)) none++Txt.slice (Str.ofString "abcdefghijklmnopqrstuvwxyz") none (some (t:Int))).cps.toList.Nodup:=by
   rw[append_toList,slice_from,slice_take];exact rot_nodup t
 have hRrun:Run (Txt.slice (Str.ofString "abcdefghijklmnopqrstuvwxyz") (some (t:Int)) none++Txt.slice (Str.ofString "abcdefghijklmnopqrstuvwxyz") none (some (t:Int))).cps.toList:=by
   rw[append_toList,slice_from,slice_take];exact run_of (rot_runB t (by omega))
 revert hRl hRn hRd hRrun
 generalize Txt.slice (Str.ofString "abcdefghijklmnopqrstuvwxyz") (some (t:Int)) none++Txt.slice (Str.ofString "abcdefghijklmnopqrstuvwxyz") none (some (t:Int))=R
 intro hRl hRn hRd hRrun
 have hRz:R.length≤sizeLine:=by
   have:R.length=R.cps.toList.length:=by simp[Str.length]
   rw[this,hRn];decide
 have hRat:∀k:Nat,k < 26→∃c,atI R.cps.toList (k:Int)=some c∧isLet c=true:=fun k hk=>by
   have hk':k < R.cps.toList.length:=by rw[hRn];exact hk
   exact⟨R.cps.toList[k],atI_nat (List.getElem?_eq_getElem hk'),hRl _ (List.getElem_mem hk')⟩
 walk_at "r"
 refine take_call Own.put_same ho1 (by decide) (by decide) fun v2 o2 _ _ ho2=>?_
 rw[Own.put_put]
 walk_at "r"
 refine take_call Own.put_same ho2 (by decide) (by decide) fun v3 o3 h30 h31 ho3=>?_
 rw[Own.put_put]
 obtain⟨s3,rfl⟩:∃s3:Nat,v3=(s3:Int):=⟨v3.toNat,by omega⟩
 have hmid:letZ (Txt.slice R (some 3) (some (3+(s3:Int))))∧(Txt.slice R (some 3) (some (3+(s3:Int)))).cps.toList.length≤7∧Run (Txt.slice R (some 3) (some (3+(s3:Int)))).cps.toList:=by
   have e:(Txt.slice R (some 3) (some (3+(s3:Int)))).cps.toList=(R.cps.toList.take (3+s3)).drop 3:=slice_mid R 3 (3+s3)
   refine⟨fun c hc=>?_,?_,?_⟩
   · rw[e] at hc;exact hRl c (List.mem_of_mem_take (List.mem_of_mem_drop hc))
   · rw[e,List.length_drop,List.length_take];exact om_mid (Nat.le_of_lt_succ (Int.ofNat_lt.mp h31))
   · rw[e];exact(hRrun.take _).drop _
 have hids:(intsD 0 N).length=N:=by simp[intsD]
 have hN:N≤26:=Int.ofNat_le.mp hn1
 have hsz:(intsD 0 N).length < sizeLine:=by rw[hids];exact Nat.lt_of_le_of_lt hN (by decide)
 have fin:∀(g:PyData→PyData),(∀k:Nat,k < N→∃z,g (.int k) = .str z∧nameZ z∧z∉badW)→(∀i j:Nat,i < N→j < N→g (.int i)=g (.int j)→i=j)→∃ys:List Str,((intsD 0 N).filter fun _=>true).map g=ys.map .str∧ys.length=N∧(∀z∈ys,nameZ z∧z∉badW)∧ys.Nodup:=fun g hg hi=>by
   rw[flt]
   refine⟨(List.range N).map fun(k:Nat)=>strOf (g (.int (k:Int))),?_,by simp,?_,?_⟩
   · unfold intsD
     rw[List.map_map,List.map_map]
     apply List.map_congr_left
     intro k hk
     obtain⟨z,e,_⟩:=hg k (List.mem_range.mp hk)
     show g (.int (0+(k:Int))) = .str (strOf (g (.int k)))
     rw[Int.zero_add,e];rfl
   · intro z hz
     obtain⟨k,hk,rfl⟩:=List.mem_map.mp hz
     obtain⟨z,e,h⟩:=hg k (List.mem_range.mp hk)
     rw[e];exact h
   · refine nodup_range fun i j h1 h2 e=>hi i j h1 h2 ?_
     obtain⟨z1,e1,_⟩:=hg i h1
     obtain⟨z2,e2,_⟩:=hg j h2
     rw[e1,e2] at e ⊢
     exact congrArg PyData.str e
 walk_at "r"
 refine d2_eq rfl rfl ?_
 rw[if_neg nft]
 walk_at "r"
 refine ite2 (fun h=>?_) (fun h=>?_)
 · walk_at "r"
   refine de_comp_pure (go_name 0) (by simp[cf__law_names_0]) ?_
   refine di_rng1 ?_
   walk_at "r"
   refine⟨by omega,by omega,?_⟩
   rw[Int.toNat_natCast]
   have hel:∀k:Nat,k < N→∃c,atI R.cps.toList ((k:Int)/8)=some c∧isLet c=true:=fun k hk=>hRat (k/8) (om_div hk hN)
   refine⟨hsz,fun _=>true,nmA R,?_,?_⟩
   · intro d hd M'
     obtain⟨k,hk,rfl⟩:=List.mem_map.mp hd
     obtain⟨c,e1,e2⟩:=hel k (List.mem_range.mp hk)
     rw[Int.zero_add]
     walk_at "dl"
     refine⟨rfl,?_⟩
     walk_at "dl"
     refine⟨rfl,rfl,fun _=>?_⟩
     walk_at "r"
     refine d2A_ixs hRz e1 ?_
     walk_at "r"
     refine d2_rep (om_rep _).1 (om_rep _).2.1 (by show 1≤1000;decide) ?_
     exact⟨by rw[nmA_at e1],rfl⟩
   · have iA:∀i j:Nat,i < N→j < N→(nmA R) (.int i)=(nmA R) (.int j)→i=j:=fun i j h1 h2 e=>by
       obtain⟨c1,q1,_⟩:=hel i h1
       obtain⟨c2,q2,_⟩:=hel j h2
       rw[nmA_at q1,nmA_at q2] at e
       have e':repS ⟨#[c1]⟩ (1+(i:Int) % 8)=repS ⟨#[c2]⟩ (1+(j:Int) % 8):=by injection e
       obtain⟨hcc,hmn⟩:=rep_inj (om_rep _).1 (om_rep _).1 e'
       subst hcc
       have hq:=nodup_at (i:=i/8) (j:=j/8) hRd q1 q2 (by rw[hRn];exact om_div h1 hN) (by rw[hRn];exact om_div h2 hN)
       exact om_eq hmn hq
     have hA:∀k:Nat,k < N→∃z,(nmA R) (.int k) = .str z∧nameZ z∧z∉badW:=fun k hk=>by
       obtain⟨c,q1,q2⟩:=hel k hk
       have hz:=rep_one (c:=c) (n:=1+(k:Int) % 8) (om_rep k).1
       refine⟨repS ⟨#[c]⟩ (1+(k:Int) % 8),nmA_at q1,?_,rep_bad hz⟩
       refine nameZ_of (fun d hd=>?_) ?_ ?_
       · rw[hz] at hd;rw[List.eq_of_mem_replicate hd];exact q2
       · rw[hz,List.length_replicate];exact(om_rep k).2.2.1
       · rw[hz,List.length_replicate];exact(om_rep k).2.2.2
     obtain⟨ys,e1,e2,e3,e4⟩:=fin (nmA R) hA iA
     rw[e1]
     refine⟨_,Own.Sub.refl _,fun p' n' e=>?_⟩
     cases e
     exact⟨ys,o3,rfl,by rw[e2],fun z hz=>(e3 z hz).1,fun z hz=>(e3 z hz).2,e4,ho3,rfl⟩
 · walk_at "r"
   refine d2_eq rfl rfl ?_
   rw[if_neg nft]
   walk_at "r"
   have hel:∀k:Nat,k < N→∃c,atI R.cps.toList (k:Int)=some c∧isLet c=true:=fun k hk=>hRat k (Nat.lt_of_lt_of_le hk hN)
   have hszs:∀c:Nat,(⟨#[c]⟩:Str).length+(Txt.slice R (some 3) (some (3+(s3:Int)))).length≤sizeLine:=fun c=>by
     have:(Txt.slice R (some 3) (some (3+(s3:Int)))).length=(Txt.slice R (some 3) (some (3+(s3:Int)))).cps.toList.length:=by simp[Str.length]
     rw[this]
     exact Nat.le_trans (Nat.add_le_add (Nat.le_refl 1) hmid.2.1) (by decide)
   refine ite2 (fun h2=>?_) (fun h2=>?_)
   · walk_at "r"
     refine de_comp_pure (go_name 0) (by simp[cf__law_names_1]) ?_
     refine di_rng1 ?_
     walk_at "r"
     refine⟨by omega,by omega,?_⟩
     rw[Int.toNat_natCast]
     refine⟨hsz,fun _=>true,nmB R (Txt.slice R (some 3) (some (3+(s3:Int)))),?_,?_⟩
     · intro d hd M'
       obtain⟨k,hk,rfl⟩:=List.mem_map.mp hd
       obtain⟨c,e1,e2⟩:=hel k (List.mem_range.mp hk)
       rw[Int.zero_add]
       walk_at "dl"
       refine⟨rfl,?_⟩
       walk_at "dl"
       refine⟨rfl,rfl,fun _=>?_⟩
       walk_at "r"
       refine d2A_ixs hRz e1 ?_
       walk_at "r"
       refine dslB_str hRz ?_
       refine d2B_adds (hszs c) ?_
       exact⟨by rw[nmB_at e1],rfl⟩
     · have iB:∀i j:Nat,i < N→j < N→(nmB R (Txt.slice R (some 3) (some (3+(s3:Int))))) (.int i)=(nmB R (Txt.slice R (some 3) (some (3+(s3:Int))))) (.int j)→i=j:=fun i j h1 h2 e=>by
         obtain⟨c1,q1,_⟩:=hel i h1
         obtain⟨c2,q2,_⟩:=hel j h2
         rw[nmB_at q1,nmB_at q2] at e
         have e':(⟨#[c1]⟩:Str)++Txt.slice R (some 3) (some (3+(s3:Int)))=⟨#[c2]⟩++Txt.slice R (some 3) (some (3+(s3:Int))):=by injection e
         have hc:=app1_inj e'
         subst hc
         exact nodup_at hRd q1 q2 (by rw[hRn];exact Nat.lt_of_lt_of_le h1 hN) (by rw[hRn];exact Nat.lt_of_lt_of_le h2 hN)
       have hB:∀k:Nat,k < N→∃z,(nmB R (Txt.slice R (some 3) (some (3+(s3:Int))))) (.int k) = .str z∧nameZ z∧z∉badW:=fun k hk=>by
         obtain⟨c,q1,q2⟩:=hel k hk
         refine⟨_,nmB_at q1,?_,pre_bad (c:=c) (by rw[append_toList];rfl) hmid.2.2⟩
         refine nameZ_of (letZ_app (letZ_one q2) hmid.1) ?_ ?_
         · rw[append_toList,List.length_append];exact Nat.le_add_right 1 _
         · rw[append_toList,List.length_append];exact Nat.add_le_add_left hmid.2.1 1
       obtain⟨ys,e1,e2,e3,e4⟩:=fin (nmB R (Txt.slice R (some 3) (some (3+(s3:Int))))) hB iB
       rw[e1]
       refine⟨_,Own.Sub.refl _,fun p' n' e=>?_⟩
       cases e
       exact⟨ys,o3,rfl,by rw[e2],fun z hz=>(e3 z hz).1,fun z hz=>(e3 z hz).2,e4,ho3,rfl⟩
   · walk_at "r"
     refine de_comp_pure (go_name 0) (by simp[cf__law_names_2]) ?_
     refine di_rng1 ?_
     walk_at "r"
     refine⟨by omega,by omega,?_⟩
     rw[Int.toNat_natCast]
     refine⟨hsz,fun _=>true,nmC R (Txt.slice R (some 3) (some (3+(s3:Int)))),?_,?_⟩
     · intro d hd M'
       obtain⟨k,hk,rfl⟩:=List.mem_map.mp hd
       obtain⟨c,e1,e2⟩:=hel k (List.mem_range.mp hk)
       rw[Int.zero_add]
       walk_at "dl"
       refine⟨rfl,?_⟩
       walk_at "dl"
       refine⟨rfl,rfl,fun _=>?_⟩
       walk_at "r"
       refine dslB_str hRz ?_
       walk_at "r"
       refine d2A_ixs hRz e1 ?_
       refine d2B_adds (by rw[Nat.add_comm];exact hszs c) ?_
       exact⟨by rw[nmC_at e1],rfl⟩
     · have iC:∀i j:Nat,i < N→j < N→(nmC R (Txt.slice R (some 3) (some (3+(s3:Int))))) (.int i)=(nmC R (Txt.slice R (some 3) (some (3+(s3:Int))))) (.int j)→i=j:=fun i j h1 h2 e=>by
         obtain⟨c1,q1,_⟩:=hel i h1
         obtain⟨c2,q2,_⟩:=hel j h2
         rw[nmC_at q1,nmC_at q2] at e
         have e':Txt.slice R (some 3) (some (3+(s3:Int)))++(⟨#[c1]⟩:Str)=Txt.slice R (some 3) (some (3+(s3:Int)))++⟨#[c2]⟩:=by injection e
         have hc:=app2_inj e'
         subst hc
         exact nodup_at hRd q1 q2 (by rw[hRn];exact Nat.lt_of_lt_of_le h1 hN) (by rw[hRn];exact Nat.lt_of_lt_of_le h2 hN)
       have hC:∀k:Nat,k < N→∃z,(nmC R (Txt.slice R (some 3) (some (3+(s3:Int))))) (.int k) = .str z∧nameZ z∧z∉badW:=fun k hk=>by
         obtain⟨c,q1,q2⟩:=hel k hk
         refine⟨_,nmC_at q1,?_,suf_bad (c:=c) (by rw[append_toList]) hmid.2.2⟩
         refine nameZ_of (letZ_app hmid.1 (letZ_one q2)) ?_ ?_
         · rw[append_toList,List.length_append];exact Nat.le_add_left 1 _
         · rw[append_toList,List.length_append];exact Nat.add_le_add_right hmid.2.1 1
       obtain⟨ys,e1,e2,e3,e4⟩:=fin (nmC R (Txt.slice R (some 3) (some (3+(s3:Int))))) hC iC
       rw[e1]
       refine⟨_,Own.Sub.refl _,fun p' n' e=>?_⟩
       cases e
       exact⟨ys,o3,rfl,by rw[e2],fun z hz=>(e3 z hz).1,fun z hz=>(e3 z hz).2,e4,ho3,rfl⟩
end
section
variable {P:Program}{w:World}{K:Frg}{mg:Str→Option Value}{base:Heap}
abbrev s__law_any_deed:Stmt:=_root_.sT 45
def nm__law_any_deed:List Str:=["_law_pack_here", "_law_names_here", "_law_one", "_law_others", "_law_other", "_law_place_here", "_law_number_here", "_law_some"]
def cc__law_any_deed_0:List Str:=["_law_name", "_law_one"]
def cf__law_any_deed_0:List (Option Nat):=[none,some 2]
theorem cn__law_any_deed_0:cc__law_any_deed_0.Nodup:=by decide +kernel
theorem sc__law_any_deed:FnScope nm__law_any_deed ["_law_pack_here", "_law_names_here"] (defScope s__law_any_deed):=⟨rfl,rfl,rfl,by decide +kernel,rfl,by decide +kernel,by decide +kernel⟩
theorem ok__law_any_deed {f:Addr}{fd:FuncData}(F:Fun K "_law_any_deed" "_law_any_deed" s__law_any_deed f fd) (n_len:mg "len"=none) (h__law_count:Has P w K mg base "_law_count" 2 ["_law_pack_here"] S11_count) (h__law_place:Has P w K mg base "_law_place" 2 ["_law_pack_here"] S__law_place) (h__law_take:Has P w K mg base "_law_take" 1 ["_law_pack_here", "_law_size"] S__law_take):FnOk P w K mg base CX0 3 f fd ["_law_pack_here", "_law_names_here"] (spD K 2 S11_any):=by
 refine fnD F sc__law_any_deed fun cdv A outer s H E hr=>?_
 have hu:=hr.units
 refine⟨_,(@pss_cons _ _ _ _ _ (@ps_set _ _ (2) _ _ _ _ sc__law_any_deed.nd rfl (by walk_at "lc") (@pe_ix _ _ _ _ _ _ _ (@kIx _ (K) rfl) (@pv _ 1 _ _ (by rfl) (by walk_at "lc") (by decide) (by decide)) (@kCall _ (K) (P) (w) (mg) (base) _ _ _ _ _ _ _ _ _ rfl rfl rfl rfl rfl h__law_take (hr.mono (by decide)) rfl (@pa_cons _ _ _ _ _ (@pv _ 0 _ _ (by rfl) (by walk_at "lc") (by decide) (by decide)) (@pa_cons _ _ _ _ _ (@pe_callB _ _ _ _ _ _ _ _ _ (@kLen _ (K) rfl) (by rfl) n_len PySem.boot_len (@pa_cons _ _ _ _ _ (@pv _ 1 _ _ (by rfl) (by walk_at "lc") (by decide) (by decide)) (@pa_nil _) (by rfl)) (by decide) (by decide) (by rfl) (by rfl)) (@pa_nil _) (by rfl)) (by rfl)) (by decide) (by rfl) (by rfl)) (fun _ _=>rfl)) (by rfl) (by first   | exact .inl rfl   | exact .inr rfl   | assumption)) (@pss_cons _ _ _ _ _ (@ps_setc _ _ _ _ _ _ _ _ _ _ _ _ _ (3) _ _ _ rfl sc__law_any_deed.nd rfl (by walk_at "lc") (@L2.CSc.of _ _ (cc__law_any_deed_0) (cf__law_any_deed_0) (defScope s__law_any_deed) (nm__law_any_deed) (by decide +kernel) rfl rfl) (@kIter _ (K) _ _ _ rfl (@pv _ 1 _ _ (by rfl) (by walk_at "lc") (by decide) (by decide))) (fun C s' H' ex' pn'=>⟨@pg_name _ _ (0) _ cn__law_any_deed_0 rfl (by walk_at "lc") (by first   | exact .inl rfl   | exact .inr rfl   | assumption),(@pts_one _ _ _ (@pt_cmpR _ _ _ _ _ _ _ _ (@kNe _ (K) rfl hu) (@pv _ 0 _ _ (by rfl) (by walk_at "lc") (by decide) (by decide)) (@pv _ 1 _ _ (by rfl) (by walk_at "lc") (by decide) (by decide)) (@nomark _ _ (by decide) (by decide)))),(@pv _ 0 _ _ (by rfl) (by walk_at "lc") (by decide) (by decide))⟩) rfl (by first   | exact .inl rfl   | exact .inr rfl   | assumption) (by intro _;rfl)) (@pss_cons _ _ _ _ _ (@ps_set _ _ (4) _ _ _ _ sc__law_any_deed.nd rfl (by walk_at "lc") (@pe_ix _ _ _ _ _ _ _ (@kIx _ (K) rfl) (@pv _ 3 _ _ (by rfl) (by walk_at "lc") (by decide) (by decide)) (@kCall _ (K) (P) (w) (mg) (base) _ _ _ _ _ _ _ _ _ rfl rfl rfl rfl rfl h__law_take (hr.mono (by decide)) rfl (@pa_cons _ _ _ _ _ (@pv _ 0 _ _ (by rfl) (by walk_at "lc") (by decide) (by decide)) (@pa_cons _ _ _ _ _ (@pe_callB _ _ _ _ _ _ _ _ _ (@kLen _ (K) rfl) (by rfl) n_len PySem.boot_len (@pa_cons _ _ _ _ _ (@pv _ 3 _ _ (by rfl) (by walk_at "lc") (by decide) (by decide)) (@pa_nil _) (by rfl)) (by decide) (by decide) (by rfl) (by rfl)) (@pa_nil _) (by rfl)) (by rfl)) (by decide) (by rfl) (by rfl)) (fun _ _=>rfl)) (by rfl) (by first   | exact .inl rfl   | exact .inr rfl   | assumption)) (@pss_cons _ _ _ _ _ (@ps_set _ _ (5) _ _ _ _ sc__law_any_deed.nd rfl (by walk_at "lc") (@kCall _ (K) (P) (w) (mg) (base) _ _ _ _ _ _ _ _ _ rfl rfl rfl rfl rfl h__law_place (hr.mono (by decide)) rfl (@pa_cons _ _ _ _ _ (@pv _ 0 _ _ (by rfl) (by walk_at "lc") (by decide) (by decide)) (@pa_nil _) (by rfl)) (by decide) (by rfl) (by rfl)) (by rfl) (by first   | exact .inl rfl   | exact .inr rfl   | assumption)) (@pss_cons _ _ _ _ _ (@ps_set _ _ (6) _ _ _ _ sc__law_any_deed.nd rfl (by walk_at "lc") (@kCall _ (K) (P) (w) (mg) (base) _ _ _ _ _ _ _ _ _ rfl rfl rfl rfl rfl h__law_count (hr.mono (by decide)) rfl (@pa_cons _ _ _ _ _ (@pv _ 0 _ _ (by rfl) (by walk_at "lc") (by decide) (by decide)) (@pa_nil _) (by rfl)) (by decide) (by rfl) (by rfl)) (by rfl) (by first   | exact .inl rfl   | exact .inr rfl   | assumption)) (@pss_cons _ _ _ _ _ (@ps_set _ _ (7) _ _ _ _ sc__law_any_deed.nd rfl (by walk_at "lc") (@pe_lst _ _ _ _ (@pa_cons _ _ _ _ _ (@pe_tup _ _ _ _ _ (@pa_cons _ _ _ _ _ (@pe_str _ _ _ _) (@pa_cons _ _ _ _ _ (@pv _ 2 _ _ (by rfl) (by walk_at "lc") (by decide) (by decide)) (@pa_cons _ _ _ _ _ (@pv _ 5 _ _ (by rfl) (by walk_at "lc") (by decide) (by decide)) (@pa_cons _ _ _ _ _ (@pv _ 6 _ _ (by rfl) (by walk_at "lc") (by decide) (by decide)) (@pa_nil _) (by rfl)) (by rfl)) (by rfl)) (by rfl))) (@pa_cons _ _ _ _ _ (@pe_tup _ _ _ _ _ (@pa_cons _ _ _ _ _ (@pe_str _ _ _ _) (@pa_cons _ _ _ _ _ (@pv _ 2 _ _ (by rfl) (by walk_at "lc") (by decide) (by decide)) (@pa_nil _) (by rfl)) (by rfl))) (@pa_cons _ _ _ _ _ (@pe_tup _ _ _ _ _ (@pa_cons _ _ _ _ _ (@pe_str _ _ _ _) (@pa_cons _ _ _ _ _ (@pv _ 2 _ _ (by rfl) (by walk_at "lc") (by decide) (by decide)) (@pa_cons _ _ _ _ _ (@pv _ 5 _ _ (by rfl) (by walk_at "lc") (by decide) (by decide)) (@pa_nil _) (by rfl)) (by rfl)) (by rfl))) (@pa_cons _ _ _ _ _ (@pe_tup _ _ _ _ _ (@pa_cons _ _ _ _ _ (@pe_str _ _ _ _) (@pa_cons _ _ _ _ _ (@pv _ 2 _ _ (by rfl) (by walk_at "lc") (by decide) (by decide)) (@pa_cons _ _ _ _ _ (@pv _ 6 _ _ (by rfl) (by walk_at "lc") (by decide) (by decide)) (@pa_nil _) (by rfl)) (by rfl)) (by rfl))) (@pa_nil _) (by rfl)) (by rfl)) (by rfl)) (by rfl))) (by rfl) (by first   | exact .inl rfl   | exact .inr rfl   | assumption)) (@pss_cons _ _ _ _ _ (@ps_set _ _ (7) _ _ _ _ sc__law_any_deed.nd rfl (by walk_at "lc") (@pe_op _ _ _ _ _ _ _ _ (@kAddB _ (K) rfl) (@pv _ 7 _ _ (by rfl) (by walk_at "lc") (by decide) (by decide)) (@pe_lst _ _ _ _ (@pa_cons _ _ _ _ _ (@pe_tup _ _ _ _ _ (@pa_cons _ _ _ _ _ (@pe_str _ _ _ _) (@pa_cons _ _ _ _ _ (@pv _ 2 _ _ (by rfl) (by walk_at "lc") (by decide) (by decide)) (@pa_cons _ _ _ _ _ (@pv _ 4 _ _ (by rfl) (by walk_at "lc") (by decide) (by decide)) (@pa_nil _) (by rfl)) (by rfl)) (by rfl))) (@pa_cons _ _ _ _ _ (@pe_tup _ _ _ _ _ (@pa_cons _ _ _ _ _ (@pe_str _ _ _ _) (@pa_cons _ _ _ _ _ (@pv _ 2 _ _ (by rfl) (by walk_at "lc") (by decide) (by decide)) (@pa_cons _ _ _ _ _ (@pv _ 4 _ _ (by rfl) (by walk_at "lc") (by decide) (by decide)) (@pa_cons _ _ _ _ _ (@pv _ 5 _ _ (by rfl) (by walk_at "lc") (by decide) (by decide)) (@pa_cons _ _ _ _ _ (@pv _ 6 _ _ (by rfl) (by walk_at "lc") (by decide) (by decide)) (@pa_nil _) (by rfl)) (by rfl)) (by rfl)) (by rfl)) (by rfl))) (@pa_cons _ _ _ _ _ (@pe_tup _ _ _ _ _ (@pa_cons _ _ _ _ _ (@pe_str _ _ _ _) (@pa_cons _ _ _ _ _ (@pv _ 2 _ _ (by rfl) (by walk_at "lc") (by decide) (by decide)) (@pa_cons _ _ _ _ _ (@pv _ 4 _ _ (by rfl) (by walk_at "lc") (by decide) (by decide)) (@pa_nil _) (by rfl)) (by rfl)) (by rfl))) (@pa_nil _) (by rfl)) (by rfl)) (by rfl)))) (by rfl) (by first   | exact .inl rfl   | exact .inr rfl   | assumption)) (@pss_one _ _ _ (@ps_ret _ _ _ _ (@pe_ix _ _ _ _ _ _ _ (@kIx _ (K) rfl) (@pv _ 7 _ _ (by rfl) (by walk_at "lc") (by decide) (by decide)) (@kCall _ (K) (P) (w) (mg) (base) _ _ _ _ _ _ _ _ _ rfl rfl rfl rfl rfl h__law_take (hr.mono (by decide)) rfl (@pa_cons _ _ _ _ _ (@pv _ 0 _ _ (by rfl) (by walk_at "lc") (by decide) (by decide)) (@pa_cons _ _ _ _ _ (@pe_int _ _ _ _) (@pa_nil _) (by rfl)) (by rfl)) (by decide) (by rfl) (by rfl)) (fun _ _=>rfl))))))))))),?_⟩
 rintro xs M hl ⟨p,o,ys,rfl,m,ho,h2,h3,hy,nd⟩
 walk_at "r"
 refine rd_lenl ?_
 rw[List.length_map]
 walk_at "r"
 refine take_call m ho (by omega) (by omega) fun v1 o1 a0 a1 ho1=>?_
 walk_at "r"
 obtain⟨y1,ey1,my1⟩:=atI_str (ys:=ys) a0 a1
 have hy1:=hy y1 my1
 refine d2A_ixl ey1 ?_
 walk_at "r"
 refine de_comp_pure (go_name 0) (by simp[cf__law_any_deed_0]) ?_
 refine diA_list ?_
 walk_at "r"
 refine⟨by rw[List.length_map];exact Nat.lt_of_le_of_lt h3 (by decide),fun d=>!PyData.eqv d (.str y1),id,?_,?_⟩
 · intro d hd M'
   obtain⟨z,hz,rfl⟩:=List.mem_map.mp hd
   walk_at "r"
   refine⟨rfl,?_⟩
   walk_at "r"
   refine d2_eq (shaped_str (hy z hz)) (shaped_str hy1) ?_
   rw[if_pos rfl]
   walk_at "r"
   refine⟨rfl,rfl,fun _=>?_⟩
   walk_at "r"
   exact⟨rfl,rfl⟩
 rw[others_eq]
 obtain⟨hpos,hle⟩:=others_pos nd my1 h2
 walk_at "r"
 refine rd_lenl ?_
 rw[List.length_map]
 walk_at "r"
 refine take_call Own.put_same ho1 (by omega) (by omega) fun v2 o2 b0 b1 ho2=>?_
 rw[Own.put_put]
 walk_at "r"
 obtain⟨y2,ey2,my2⟩:=atI_str (ys:=ys.filter fun z=>decide (z≠y1)) b0 b1
 have hy2:=hy y2 (List.mem_filter.mp my2).1
 have hne:y1≠y2:=fun e=>by have:=(List.mem_filter.mp my2).2;simp at this;exact this e.symm
 refine d2A_ixl ey2 ?_
 walk_at "r"
 refine place_call Own.put_same ho2 fun pl o3 p0 p1 ho3=>?_
 rw[Own.put_put]
 walk_at "r"
 refine count11_call Own.put_same ho3 fun k o4 hk ho4=>?_
 rw[Own.put_put]
 walk_at "wkd"
 refine d2B_addl (Nat.le_of_ble_eq_true rfl) ?_
 walk_at "r"
 refine take_call Own.put_same ho4 (by decide) (by decide) fun v5 o5 d0 d1 ho5=>?_
 rw[Own.put_put]
 obtain⟨x,ex,mx⟩:=atI_some (xs:=[Deed.put y1 pl k,.take y1,.move y1 pl,.count y1 k,.name y1 y2,.split y1 y2 pl k,.join y1 y2].map Deed.d) d0 d1
 obtain⟨D,hD,rfl⟩:=List.mem_map.mp mx
 refine d2A_ixl ex ?_
 refine⟨_,Own.Sub.refl _,fun p' k' e=>?_⟩
 cases e
 exact⟨D,o5,rfl,kinds_real hy1 hy2 hne ⟨p0,p1⟩ hD,kinds_fit hk hD,ho5,rfl⟩
end
section
variable {P:Program}{w:World}{K:Frg}{mg:Str→Option Value}{base:Heap}
abbrev s__law_only:Stmt:=_root_.sT 46
def nm__law_only:List Str:=["_law_e", "_law_at", "_law_found"]
def cc__law_only_0:List Str:=["_law_k", "_law_at"]
def cf__law_only_0:List (Option Nat):=[none,some 1]
theorem cn__law_only_0:cc__law_only_0.Nodup:=by decide +kernel
theorem sc__law_only:FnScope nm__law_only ["_law_e", "_law_at"] (defScope s__law_only):=⟨rfl,rfl,rfl,by decide +kernel,rfl,by decide +kernel,by decide +kernel⟩
theorem ok__law_only {f:Addr}{fd:FuncData}{c_S c_NoBook c_NoCall c_NoDeed c_NoJoin c_NoLine c_NoLog c_NoMark c_NoName c_NoNeed c_NoRow c_NoStand c_NoText c_NotNow:Addr}(F:Fun K "_law_only" "_law_only" s__law_only f fd) (n_ValueError:mg "ValueError"=none) (n_isinstance:mg "isinstance"=none) (n_range:mg "range"=none) (q_NoBook:mg "NoBook"=some (.ref c_NoBook)) (q_NoCall:mg "NoCall"=some (.ref c_NoCall)) (q_NoDeed:mg "NoDeed"=some (.ref c_NoDeed)) (q_NoJoin:mg "NoJoin"=some (.ref c_NoJoin)) (q_NoLine:mg "NoLine"=some (.ref c_NoLine)) (q_NoLog:mg "NoLog"=some (.ref c_NoLog)) (q_NoMark:mg "NoMark"=some (.ref c_NoMark)) (q_NoName:mg "NoName"=some (.ref c_NoName)) (q_NoNeed:mg "NoNeed"=some (.ref c_NoNeed)) (q_NoRow:mg "NoRow"=some (.ref c_NoRow)) (q_NoStand:mg "NoStand"=some (.ref c_NoStand)) (q_NoText:mg "NoText"=some (.ref c_NoText)) (q_NotNow:mg "NotNow"=some (.ref c_NotNow)) (q_StrikeError:mg "StrikeError"=some (.ref c_S)):FnOk P w K mg base CX0 1 f fd ["_law_e", "_law_at"] (spD K 2 (S9_only K [c_NoText,c_NoDeed,c_NotNow,c_NoRow,c_NoBook,c_NoLine,c_NoStand,c_NoName,c_NoNeed,c_NoMark,c_NoJoin,c_NoCall,c_NoLog] c_S)):=by
 refine fnD F sc__law_only fun cdv A outer s H E hr=>?_
 have hu:=hr.units
 refine⟨_,(@pss_cons _ _ _ _ _ (@ps_set _ _ (2) _ _ _ _ sc__law_only.nd rfl (by walk_at "lc") (@pe_lst _ _ _ _ (@pa_cons _ _ _ _ _ (@pe_callB _ _ _ _ _ _ _ _ _ (@kIsiX _ (K) rfl) (by rfl) n_isinstance PyProof.Rows.boot_isinstance (@pa_cons _ _ _ _ _ (@pv _ 0 _ _ (by rfl) (by walk_at "lc") (by decide) (by decide)) (@pa_cons _ _ _ _ _ (@pe_gref _ _ _ _ rfl q_NoText (by decide)) (@pa_nil _) (by rfl)) (by rfl)) (by decide) (by decide) (by rfl) (by rfl)) (@pa_cons _ _ _ _ _ (@pe_callB _ _ _ _ _ _ _ _ _ (@kIsiX _ (K) rfl) (by rfl) n_isinstance PyProof.Rows.boot_isinstance (@pa_cons _ _ _ _ _ (@pv _ 0 _ _ (by rfl) (by walk_at "lc") (by decide) (by decide)) (@pa_cons _ _ _ _ _ (@pe_gref _ _ _ _ rfl q_NoDeed (by decide)) (@pa_nil _) (by rfl)) (by rfl)) (by decide) (by decide) (by rfl) (by rfl)) (@pa_cons _ _ _ _ _ (@pe_callB _ _ _ _ _ _ _ _ _ (@kIsiX _ (K) rfl) (by rfl) n_isinstance PyProof.Rows.boot_isinstance (@pa_cons _ _ _ _ _ (@pv _ 0 _ _ (by rfl) (by walk_at "lc") (by decide) (by decide)) (@pa_cons _ _ _ _ _ (@pe_gref _ _ _ _ rfl q_NotNow (by decide)) (@pa_nil _) (by rfl)) (by rfl)) (by decide) (by decide) (by rfl) (by rfl)) (@pa_cons _ _ _ _ _ (@pe_callB _ _ _ _ _ _ _ _ _ (@kIsiX _ (K) rfl) (by rfl) n_isinstance PyProof.Rows.boot_isinstance (@pa_cons _ _ _ _ _ (@pv _ 0 _ _ (by rfl) (by walk_at "lc") (by decide) (by decide)) (@pa_cons _ _ _ _ _ (@pe_gref _ _ _ _ rfl q_NoRow (by decide)) (@pa_nil _) (by rfl)) (by rfl)) (by decide) (by decide) (by rfl) (by rfl)) (@pa_nil _) (by rfl)) (by rfl)) (by rfl)) (by rfl))) (by rfl) (by first   | exact .inl rfl   | exact .inr rfl   | assumption)) (@pss_cons _ _ _ _ _ (@ps_set _ _ (2) _ _ _ _ sc__law_only.nd rfl (by walk_at "lc") (@pe_op _ _ _ _ _ _ _ _ (@kAddB _ (K) rfl) (@pv _ 2 _ _ (by rfl) (by walk_at "lc") (by decide) (by decide)) (@pe_lst _ _ _ _ (@pa_cons _ _ _ _ _ (@pe_callB _ _ _ _ _ _ _ _ _ (@kIsiX _ (K) rfl) (by rfl) n_isinstance PyProof.Rows.boot_isinstance (@pa_cons _ _ _ _ _ (@pv _ 0 _ _ (by rfl) (by walk_at "lc") (by decide) (by decide)) (@pa_cons _ _ _ _ _ (@pe_gref _ _ _ _ rfl q_NoBook (by decide)) (@pa_nil _) (by rfl)) (by rfl)) (by decide) (by decide) (by rfl) (by rfl)) (@pa_cons _ _ _ _ _ (@pe_callB _ _ _ _ _ _ _ _ _ (@kIsiX _ (K) rfl) (by rfl) n_isinstance PyProof.Rows.boot_isinstance (@pa_cons _ _ _ _ _ (@pv _ 0 _ _ (by rfl) (by walk_at "lc") (by decide) (by decide)) (@pa_cons _ _ _ _ _ (@pe_gref _ _ _ _ rfl q_NoLine (by decide)) (@pa_nil _) (by rfl)) (by rfl)) (by decide) (by decide) (by rfl) (by rfl)) (@pa_cons _ _ _ _ _ (@pe_callB _ _ _ _ _ _ _ _ _ (@kIsiX _ (K) rfl) (by rfl) n_isinstance PyProof.Rows.boot_isinstance (@pa_cons _ _ _ _ _ (@pv _ 0 _ _ (by rfl) (by walk_at "lc") (by decide) (by decide)) (@pa_cons _ _ _ _ _ (@pe_gref _ _ _ _ rfl q_NoStand (by decide)) (@pa_nil _) (by rfl)) (by rfl)) (by decide) (by decide) (by rfl) (by rfl)) (@pa_cons _ _ _ _ _ (@pe_callB _ _ _ _ _ _ _ _ _ (@kIsiX _ (K) rfl) (by rfl) n_isinstance PyProof.Rows.boot_isinstance (@pa_cons _ _ _ _ _ (@pv _ 0 _ _ (by rfl) (by walk_at "lc") (by decide) (by decide)) (@pa_cons _ _ _ _ _ (@pe_gref _ _ _ _ rfl q_NoName (by decide)) (@pa_nil _) (by rfl)) (by rfl)) (by decide) (by decide) (by rfl) (by rfl)) (@pa_nil _) (by rfl)) (by rfl)) (by rfl)) (by rfl)))) (by rfl) (by first   | exact .inl rfl   | exact .inr rfl   | assumption)) (@pss_cons _ _ _ _ _ (@ps_set _ _ (2) _ _ _ _ sc__law_only.nd rfl (by walk_at "lc") (@pe_op _ _ _ _ _ _ _ _ (@kAddB _ (K) rfl) (@pv _ 2 _ _ (by rfl) (by walk_at "lc") (by decide) (by decide)) (@pe_lst _ _ _ _ (@pa_cons _ _ _ _ _ (@pe_callB _ _ _ _ _ _ _ _ _ (@kIsiX _ (K) rfl) (by rfl) n_isinstance PyProof.Rows.boot_isinstance (@pa_cons _ _ _ _ _ (@pv _ 0 _ _ (by rfl) (by walk_at "lc") (by decide) (by decide)) (@pa_cons _ _ _ _ _ (@pe_gref _ _ _ _ rfl q_NoNeed (by decide)) (@pa_nil _) (by rfl)) (by rfl)) (by decide) (by decide) (by rfl) (by rfl)) (@pa_cons _ _ _ _ _ (@pe_callB _ _ _ _ _ _ _ _ _ (@kIsiX _ (K) rfl) (by rfl) n_isinstance PyProof.Rows.boot_isinstance (@pa_cons _ _ _ _ _ (@pv _ 0 _ _ (by rfl) (by walk_at "lc") (by decide) (by decide)) (@pa_cons _ _ _ _ _ (@pe_gref _ _ _ _ rfl q_NoMark (by decide)) (@pa_nil _) (by rfl)) (by rfl)) (by decide) (by decide) (by rfl) (by rfl)) (@pa_cons _ _ _ _ _ (@pe_callB _ _ _ _ _ _ _ _ _ (@kIsiX _ (K) rfl) (by rfl) n_isinstance PyProof.Rows.boot_isinstance (@pa_cons _ _ _ _ _ (@pv _ 0 _ _ (by rfl) (by walk_at "lc") (by decide) (by decide)) (@pa_cons _ _ _ _ _ (@pe_gref _ _ _ _ rfl q_NoJoin (by decide)) (@pa_nil _) (by rfl)) (by rfl)) (by decide) (by decide) (by rfl) (by rfl)) (@pa_cons _ _ _ _ _ (@pe_callB _ _ _ _ _ _ _ _ _ (@kIsiX _ (K) rfl) (by rfl) n_isinstance PyProof.Rows.boot_isinstance (@pa_cons _ _ _ _ _ (@pv _ 0 _ _ (by rfl) (by walk_at "lc") (by decide) (by decide)) (@pa_cons _ _ _ _ _ (@pe_gref _ _ _ _ rfl q_NoCall (by decide)) (@pa_nil _) (by rfl)) (by rfl)) (by decide) (by decide) (by rfl) (by rfl)) (@pa_nil _) (by rfl)) (by rfl)) (by rfl)) (by rfl)))) (by rfl) (by first   | exact .inl rfl   | exact .inr rfl   | assumption)) (@pss_cons _ _ _ _ _ (@ps_expr _ _ _ _ (@kBm _ (K) _ _ _ _ _ _ _ _ _ _ _ rfl PySem.F.plainAttrs_list PySem.F.slot_list_append PySem.F.type_list_append (@kAppendM _) (@pv _ 2 _ _ (by rfl) (by walk_at "lc") (by decide) (by decide)) (@pa_cons _ _ _ _ _ (@pe_callB _ _ _ _ _ _ _ _ _ (@kIsiX _ (K) rfl) (by rfl) n_isinstance PyProof.Rows.boot_isinstance (@pa_cons _ _ _ _ _ (@pv _ 0 _ _ (by rfl) (by walk_at "lc") (by decide) (by decide)) (@pa_cons _ _ _ _ _ (@pe_gref _ _ _ _ rfl q_NoLog (by decide)) (@pa_nil _) (by rfl)) (by rfl)) (by decide) (by decide) (by rfl) (by rfl)) (@pa_nil _) (by rfl)) (by rfl) (by rfl) (by rfl) (by rfl) (by rfl)) (by rfl)) (@pss_cons _ _ _ _ _ (@ps_if _ _ _ _ _ _ _ _ (@L2.PW.pt _ _ _ (@pw_or _ _ _ _ _ _ _ (@pt_not _ _ _ _ (@pt_val _ _ _ (@pe_callB _ _ _ _ _ _ _ _ _ (@kIsiX _ (K) rfl) (by rfl) n_isinstance PyProof.Rows.boot_isinstance (@pa_cons _ _ _ _ _ (@pv _ 0 _ _ (by rfl) (by walk_at "lc") (by decide) (by decide)) (@pa_cons _ _ _ _ _ (@pe_gref _ _ _ _ rfl q_StrikeError (by decide)) (@pa_nil _) (by rfl)) (by rfl)) (by decide) (by decide) (by rfl) (by rfl)) (by intro _;rfl))) (@pw_or1 _ _ _ _ (@pt_not _ _ _ _ (@pt_val _ _ _ (@pe_callB _ _ _ _ _ _ _ _ _ (@kIsiX _ (K) rfl) (by rfl) n_isinstance PyProof.Rows.boot_isinstance (@pa_cons _ _ _ _ _ (@pv _ 0 _ _ (by rfl) (by walk_at "lc") (by decide) (by decide)) (@pa_cons _ _ _ _ _ (@pe_bltn _ _ (.ty "ValueError") _ _ rfl n_ValueError PyProof.Rows.boot_ValueError rfl (by decide) (by decide)) (@pa_nil _) (by rfl)) (by rfl)) (by decide) (by decide) (by rfl) (by rfl)) (by intro _;rfl)))))) (@pss_one _ _ _ (@ps_ret _ _ _ _ (@pe_bl _ _ _ _))) (@pss_nil _)) (@pss_one _ _ _ (@ps_ret _ _ _ _ (@pe_cmpR _ _ _ _ _ _ _ _ (@kEq _ (K) rfl hu) (@pv _ 2 _ _ (by rfl) (by walk_at "lc") (by decide) (by decide)) (@pe_comp _ _ _ _ _ _ _ _ _ _ _ _ _ rfl (@L2.CSc.of _ _ (cc__law_only_0) (cf__law_only_0) (defScope s__law_only) (nm__law_only) (by decide +kernel) rfl rfl) (@pi_range1 _ _ _ _ _ _ rfl n_range (@pa_cons _ _ _ _ _ (@pe_int _ _ _ _) (@pa_nil _) (by rfl)) (by rfl)) (fun C s' H' ex' pn'=>⟨@pg_name _ _ (0) _ cn__law_only_0 rfl (by walk_at "lc") (by first   | exact .inl rfl   | exact .inr rfl   | assumption),@pts_nil _,(@pe_cmpR _ _ _ _ _ _ _ _ (@kEq _ (K) rfl hu) (@pv _ 0 _ _ (by rfl) (by walk_at "lc") (by decide) (by decide)) (@pv _ 1 _ _ (by rfl) (by walk_at "lc") (by decide) (by decide)) (@nomark _ _ (by decide) (by decide)))⟩) (by intro _;rfl)) (@nomark _ _ (by decide) (by decide)))))))))),?_⟩
 rintro xs M hl ⟨a,C,fs,k,rfl,m,h,hk⟩
 walk_at "r"
 refine de_lst ?_
 walk_at "r"
 refine rd_isiX m h.kit (h.all 0 _ rfl) ?_
 walk_at "r"
 refine rd_isiX m h.kit (h.all 1 _ rfl) ?_
 walk_at "r"
 refine rd_isiX m h.kit (h.all 2 _ rfl) ?_
 walk_at "r"
 refine rd_isiX m h.kit (h.all 3 _ rfl) ?_
 walk_at "r"
 refine de_lst ?_
 walk_at "r"
 refine rd_isiX m h.kit (h.all 4 _ rfl) ?_
 walk_at "r"
 refine rd_isiX m h.kit (h.all 5 _ rfl) ?_
 walk_at "r"
 refine rd_isiX m h.kit (h.all 6 _ rfl) ?_
 walk_at "r"
 refine rd_isiX m h.kit (h.all 7 _ rfl) ?_
 walk_at "r"
 refine d2B_addl (Nat.le_of_ble_eq_true rfl) ?_
 walk_at "r"
 refine de_lst ?_
 walk_at "r"
 refine rd_isiX m h.kit (h.all 8 _ rfl) ?_
 walk_at "r"
 refine rd_isiX m h.kit (h.all 9 _ rfl) ?_
 walk_at "r"
 refine rd_isiX m h.kit (h.all 10 _ rfl) ?_
 walk_at "r"
 refine rd_isiX m h.kit (h.all 11 _ rfl) ?_
 walk_at "r"
 refine d2B_addO (Nat.le_of_ble_eq_true rfl) fun q hq=>?_
 have hqa:q≠a:=fun e=>by rw[e,m] at hq;cases hq
 walk_at "r"
 have m2:∀o,(M.put q o) a=some (.x C fs):=fun o=>by rw[Own.put_ne hqa.symm];exact m
 refine de_bm ?_
 walk_at "dl"
 refine⟨dty_loc Own.put_same,?_⟩
 walk_at "r"
 refine rd_isiX (m2 _) h.kit (h.all 12 _ rfl) ?_
 walk_at "r"
 refine dm_append Own.put_same (Nat.lt_of_lt_of_le (show 12 < 5000 by decide) (by decide)) ?_
 rw[Own.put_put]
 walk_at "r"
 refine rd_isiX (m2 _) h.kit h.top ?_
 walk_at "r"
 refine rd_isiXT (m2 _) h.kit h.val ?_
 walk_at "wks"
 refine ds_freeze (i:=2) (a:=q) rfl Own.put_same ?_
 rw[Own.del_put hq]
 walk_at "r"
 refine de_comp_pure (go_name 0) (by simp[cf__law_only_0]) ?_
 refine di_rng1 ?_
 walk_at "r"
 refine⟨by decide,by decide,by decide,fun _=>true,fun d=>.bool (PyData.eqv d (.int k)),?_,?_⟩
 · intro d hd M'
   obtain⟨j,_,rfl⟩:=List.mem_map.mp hd
   walk_at "r"
   refine⟨rfl,?_⟩
   walk_at "dl"
   refine⟨rfl,rfl,fun _=>?_⟩
   walk_at "r"
   refine d2_eq rfl rfl ?_
   exact⟨rfl,rfl⟩
 obtain⟨e1,e2⟩:=thirteen k hk
 refine d2_eq e1 e2.1 ?_
 rw[if_neg nft]
 exact⟨M,Own.Sub.refl M,congrArg (fun b=>DS.d (.bool b)) e2.2,rfl⟩
end
section
variable {P:Program}{w:World}{K:Frg}{mg:Str→Option Value}{base:Heap}
abbrev s__law_number:Stmt:=_root_.sT 47
def nm__law_number:List Str:=["_law_word", "_law_figures"]
def cc__law_number_0:List Str:=["_law_sign"]
def cf__law_number_0:List (Option Nat):=[none]
theorem cn__law_number_0:cc__law_number_0.Nodup:=by decide +kernel
theorem sc__law_number:FnScope nm__law_number ["_law_word"] (defScope s__law_number):=⟨rfl,rfl,rfl,by decide +kernel,rfl,by decide +kernel,by decide +kernel⟩
theorem ok__law_number {f:Addr}{fd:FuncData}(F:Fun K "_law_number" "_law_number" s__law_number f fd) (n_all:mg "all"=none) (n_int:mg "int"=none):FnOk P w K mg base CX0 1 f fd ["_law_word"] (spD K 1 S11_number):=by
 refine fnD F sc__law_number fun cdv A outer s H E hr=>?_
 have hu:=hr.units
 refine⟨_,(@pss_cons _ _ _ _ _ (@ps_set _ _ (1) _ _ _ _ sc__law_number.nd rfl (by walk_at "lc") (@pv _ 0 _ _ (by rfl) (by walk_at "lc") (by decide) (by decide)) (by rfl) (by first   | exact .inl rfl   | exact .inr rfl   | assumption)) (@pss_cons _ _ _ _ _ (@ps_if _ _ _ _ _ _ _ _ (@pt_cmpR _ _ _ _ _ _ _ _ (@kEq _ (K) rfl hu) (@pe_slice _ _ _ _ _ _ _ _ _ _ (@kSlB _ (K) rfl) (@pv _ 0 _ _ (by rfl) (by walk_at "lc") (by decide) (by decide)) (@po_none _) (@po_some _ _ _ (@pe_int _ _ _ _))) (@pe_str _ _ _ _) (@nomark _ _ (by decide) (by decide))) (@pss_one _ _ _ (@ps_set _ _ (1) _ _ _ _ sc__law_number.nd rfl (by walk_at "lc") (@pe_slice _ _ _ _ _ _ _ _ _ _ (@kSlB _ (K) rfl) (@pv _ 0 _ _ (by rfl) (by walk_at "lc") (by decide) (by decide)) (@po_some _ _ _ (@pe_int _ _ _ _)) (@po_none _)) (by rfl) (by first   | exact .inl rfl   | exact .inr rfl   | assumption))) (@pss_nil _)) (@pss_cons _ _ _ _ _ (@ps_if _ _ _ _ _ _ _ _ (@L2.PW.pt _ _ _ (@pw_or _ _ _ _ _ _ _ (@pt_cmpR _ _ _ _ _ _ _ _ (@kEq _ (K) rfl hu) (@pv _ 1 _ _ (by rfl) (by walk_at "lc") (by decide) (by decide)) (@pe_str _ _ _ _) (@nomark _ _ (by decide) (by decide))) (@pw_or1 _ _ _ _ (@pt_not _ _ _ _ (@pt_val _ _ _ (@pe_callB _ _ _ _ _ _ _ _ _ (@kAll _ (K) rfl rfl) (by rfl) n_all PyProof.Rows.boot_all (@pa_cons _ _ _ _ _ (@pe_comp _ _ _ _ _ _ _ _ _ _ _ _ _ rfl (@L2.CSc.of _ _ (cc__law_number_0) (cf__law_number_0) (defScope s__law_number) (nm__law_number) (by decide +kernel) rfl rfl) (@kIter _ (K) _ _ _ rfl (@pv _ 1 _ _ (by rfl) (by walk_at "lc") (by decide) (by decide))) (fun C s' H' ex' pn'=>⟨@pg_name _ _ (0) _ cn__law_number_0 rfl (by walk_at "lc") (by first   | exact .inl rfl   | exact .inr rfl   | assumption),@pts_nil _,(@pe_cmpR _ _ _ _ _ _ _ _ (@kIn _ (K) rfl) (@pv _ 0 _ _ (by rfl) (by walk_at "lc") (by decide) (by decide)) (@pe_str _ _ _ _) (by with_unfolding_all rfl))⟩) (by intro _;rfl)) (@pa_nil _) (by rfl)) (by decide) (by decide) (by rfl) (by rfl)) (by intro _;rfl)))))) (@pss_one _ _ _ (@ps_ret _ _ _ _ (@pe_non _ _ _))) (@pss_nil _)) (@pss_cons _ _ _ _ _ (@ps_if _ _ _ _ _ _ _ _ (@L2.PW.pt _ _ _ (@pw_and _ _ _ _ _ _ _ (@pt_cmpR _ _ _ _ _ _ _ _ (@kEq _ (K) rfl hu) (@pe_ix _ _ _ _ _ _ _ (@kIx _ (K) rfl) (@pv _ 1 _ _ (by rfl) (by walk_at "lc") (by decide) (by decide)) (@pe_int _ _ _ _) (fun _ _=>rfl)) (@pe_str _ _ _ _) (@nomark _ _ (by decide) (by decide))) (@pw_and1 _ _ _ _ (@pt_cmpR _ _ _ _ _ _ _ _ (@kNe _ (K) rfl hu) (@pv _ 0 _ _ (by rfl) (by walk_at "lc") (by decide) (by decide)) (@pe_str _ _ _ _) (@nomark _ _ (by decide) (by decide)))))) (@pss_one _ _ _ (@ps_ret _ _ _ _ (@pe_non _ _ _))) (@pss_nil _)) (@pss_one _ _ _ (@ps_ret _ _ _ _ (@pe_callTy _ _ _ _ _ _ _ _ _ (@kIntT _ (K) rfl) (by rfl) n_int PyProof.Rows.boot_int (@pa_cons _ _ _ _ _ (@pv _ 0 _ _ (by rfl) (by walk_at "lc") (by decide) (by decide)) (@pa_nil _) (by rfl)) (by decide) (by decide) (by rfl) (by rfl)))))))),?_⟩
 rintro xs M hl ⟨d,rfl,s,rfl,hs,h640⟩
 have hz:s.length≤sizeLine:=Nat.le_trans hs.1 (by decide)
 have hf:=figs_ok hs
 have hz2:(⟨⟨figsL s.cps.toList⟩⟩:Str).length≤sizeLine:=Nat.le_trans hf.1 (by decide)
 generalize hbl:decide (s.cps.toList.head?=some 45)=bl
 refine ds_cut (fun ρ1 M1=>M1=M∧ρ1=[some (.d (.str s)),some (.d (.str s))]) ?_ ?_
 · walk_at "r"
   exact⟨rfl,rfl⟩
 rintro ρ0 M0 ⟨rfl,rfl⟩
 refine ds_cut (fun ρ1 M1=>M1=M0∧ρ1=[some (.d (.str s)),some (.d (.str ⟨⟨figsL s.cps.toList⟩⟩))]) ?_ ?_
 · walk_at "r"
   refine dslB_str hz ?_
   walk_at "r"
   refine d2_eq (shaped_asc fun c hc=>hs.2 c (slice_let (n:=1) hc)) (by decide +kernel) ?_
   rw[if_neg nft,eqv_s3,first_minus,hbl]
   cases bl with
   | false=>
     walk_at "r"
     refine⟨rfl,?_⟩
     rw[show(⟨⟨figsL s.cps.toList⟩⟩:Str)=s from str_ext (by unfold figsL;rw[if_neg (of_decide_eq_false hbl)])]
   | true=>
     walk_at "r"
     refine dslB_str hz ?_
     rw[show Txt.slice s (some 1) none=⟨⟨figsL s.cps.toList⟩⟩ from str_ext (by rw[show(1:Int)=((1:Nat):Int) from rfl,slice_from];unfold figsL;rw[if_pos (of_decide_eq_true hbl),List.drop_one])]
     exact⟨rfl,rfl⟩
 rintro ρ1 M1 ⟨rfl,rfl⟩
 have no:∀b,(rowL (figsL s.cps.toList)&&!(decide ((figsL s.cps.toList).head?=some 48)&&!decide (s.cps.toList=[48])))=b→rwL s.cps.toList=if b then some (if bl then - valL (figsL s.cps.toList) 0 else valL (figsL s.cps.toList) 0) else none:=fun b hb=>by
   unfold rwL
   rw[hb,← hbl]
   cases b <;> simp
 have hint:(rowL (figsL s.cps.toList))=true→PySem.intText? s=some (if bl then - valL (figsL s.cps.toList) 0 else valL (figsL s.cps.toList) 0):=fun h=>by
   rw[← hbl];exact int_of_row h h640
 generalize hfl:figsL s.cps.toList=fl at *
 have none_ok:(rowL fl&&!(decide (fl.head?=some 48)&&!decide (s.cps.toList=[48])))=false→∃M',M'.Sub M1∧S11_number.post [.d (.str s)] M1 (.d .none) M':=fun hb=>⟨M1,Own.Sub.refl M1,fun d' e=>by
   cases e
   refine⟨congrArg DS.d ?_,rfl⟩
   show _=optI (rwL s.cps.toList)
   rw[no false hb];rfl⟩
 refine ds_cut (fun ρ2 M2=>M2=M1∧ρ2=[some (.d (.str s)),some (.d (.str ⟨⟨fl⟩⟩))]∧rowL fl=true) ?_ ?_
 · walk_at "r"
   refine d2_eq (shaped_asc hf.2) (by decide +kernel) ?_
   rw[if_neg nft,eqv_s3]
   by_cases h0:fl=[]
   · subst h0
     rw[show((⟨⟨[]⟩⟩:Str)==Str.ofString "")=true by decide +kernel]
     walk_at "r"
     exact none_ok rfl
   · rw[show((⟨⟨fl⟩⟩:Str)==Str.ofString "")=false by
       rw[beq_eq_false_iff_ne]
       intro e
       have:fl=(Str.ofString "").cps.toList:=by rw[← e]
       rw[show(Str.ofString "").cps.toList=[] by decide +kernel] at this
       exact h0 this]
     walk_at "r"
     refine de_comp_pure (go_name 0) (by simp[cf__law_number_0]) ?_
     refine diA_str ?_
     walk_at "r"
     refine⟨by simp only[signs,List.length_map];exact Nat.lt_of_le_of_lt hf.1 (by decide),fun _=>true,fun d=>.bool (figP d),?_,?_⟩
     · intro d hd' M'
       obtain⟨c,hc,rfl⟩:=List.mem_map.mp hd'
       walk_at "dl"
       refine⟨rfl,?_⟩
       walk_at "dl"
       refine⟨rfl,rfl,fun _=>?_⟩
       walk_at "r"
       refine d2A_ins ?_
       rw[in_figsB (hf.2 c hc)]
       exact⟨congrArg (fun b=>DS.d (.bool b)) (by simp[figP]),rfl⟩
     · rw[show signs (⟨⟨fl⟩⟩:Str)=fl.map fun c=>PyData.str ⟨#[c]⟩ from rfl,figs_list]
       walk_at "r"
       refine rd_all ?_
       rw[figs_all2]
       have hrw:rowL fl=fl.all figB:=by unfold rowL;rw[show fl.isEmpty=false by simpa using h0];rfl
       rw[← hrw]
       cases hrow:rowL fl with
       | false=>
         walk_at "r"
         exact none_ok (by rw[hrow];rfl)
       | true=>
         walk_at "r"
         exact⟨rfl,rfl,rfl⟩
 rintro ρ2 M2 ⟨rfl,rfl,hrow⟩
 obtain⟨y,ys,rfl⟩:∃y ys,fl=y::ys:=by cases fl with | nil=>cases hrow | cons y ys=>exact⟨y,ys,rfl⟩
 have hy:=hf.2 y (show y∈y::ys by simp)
 have h0s:PySem.SeqAt.shaped (.str (Str.ofString "0"))=true:=by decide +kernel
 rw[hrow] at none_ok no
 have some_ok:(!(decide ((y::ys).head?=some 48)&&!decide (s.cps.toList=[48])))=true→∃M',M'.Sub M2∧S11_number.post [.d (.str s)] M2 (.d (.int (if bl then - valL (y::ys) 0 else valL (y::ys) 0))) M':=fun hb=>⟨M2,Own.Sub.refl M2,fun d' e=>by
   cases e
   refine⟨congrArg DS.d ?_,rfl⟩
   show _=optI (rwL s.cps.toList)
   rw[no true (by rw[hb];rfl)];rfl⟩
 walk_at "r"
 refine d2A_ixs (c:=y) hz2 (atI_nat (j:=0) rfl) ?_
 walk_at "r"
 refine d2_eq (shaped_asc fun c hc'=>by have e:c=y:=(by simpa using hc');rw[e];omega) h0s ?_
 have e48:((⟨#[y]⟩:Str)==Str.ofString "0")=decide ((y::ys).head?=some 48):=by
   rw[show Str.ofString "0"=⟨#[48]⟩ by decide +kernel,Bool.eq_iff_iff,beq_iff_eq,decide_eq_true_iff]
   exact⟨fun e=>by injection e with e;simpa using e,fun e=>by rw[show y=48 by simpa using e]⟩
 have es:(s==Str.ofString "0")=decide (s.cps.toList=[48]):=by
   rw[show Str.ofString "0"=⟨#[48]⟩ by decide +kernel,Bool.eq_iff_iff,beq_iff_eq,decide_eq_true_iff]
   exact⟨fun e=>by rw[e],fun e=>str_ext e⟩
 rw[if_neg nft,eqv_s3,e48]
 cases h8:decide ((y::ys).head?=some 48) with
 | false=>
   rw[h8] at some_ok
   walk_at "r"
   refine rd_intT (hint hrow) h640 ?_
   exact some_ok rfl
 | true=>
   rw[h8] at none_ok some_ok
   walk_at "r"
   refine d2_eq (shaped_asc hs.2) h0s ?_
   rw[if_pos rfl,eqv_s3,es]
   cases h9:decide (s.cps.toList=[48]) with
   | true=>
     rw[h9] at some_ok
     walk_at "r"
     refine rd_intT (hint hrow) h640 ?_
     exact some_ok rfl
   | false=>
     rw[h9] at none_ok
     walk_at "r"
     exact none_ok rfl
end
section
variable {P:Program}{w:World}{K:Frg}{mg:Str→Option Value}{base:Heap}
abbrev s__law_part:Stmt:=_root_.sT 48
def nm__law_part:List Str:=["_law_word", "_law_sort", "_law_number_here"]
def cc__law_part_0:List Str:=["_law_sign"]
def cf__law_part_0:List (Option Nat):=[none]
theorem cn__law_part_0:cc__law_part_0.Nodup:=by decide +kernel
theorem sc__law_part:FnScope nm__law_part ["_law_word", "_law_sort"] (defScope s__law_part):=⟨rfl,rfl,rfl,by decide +kernel,rfl,by decide +kernel,by decide +kernel⟩
theorem ok__law_part {f:Addr}{fd:FuncData}(F:Fun K "_law_part" "_law_part" s__law_part f fd) (n_all:mg "all"=none) (n_len:mg "len"=none) (h__law_number:Has P w K mg base "_law_number" 1 ["_law_word"] S11_number):FnOk P w K mg base CX0 2 f fd ["_law_word", "_law_sort"] (spD K 2 S11_part):=by
 refine fnD F sc__law_part fun cdv A outer s H E hr=>?_
 have hu:=hr.units
 refine⟨_,(@pss_cons _ _ _ _ _ (@ps_if _ _ _ _ _ _ _ _ (@pt_cmpR _ _ _ _ _ _ _ _ (@kEq _ (K) rfl hu) (@pv _ 1 _ _ (by rfl) (by walk_at "lc") (by decide) (by decide)) (@pe_str _ _ _ _) (@nomark _ _ (by decide) (by decide))) (@pss_cons _ _ _ _ _ (@ps_if _ _ _ _ _ _ _ _ (@L2.PW.pt _ _ _ (@pw_and _ _ _ _ _ _ _ (@pt_chain _ _ _ _ _ _ _ _ _ _ _ _ (@op_le _) (@op_le _) (@pe_int _ _ _ _) (@pe_callB _ _ _ _ _ _ _ _ _ (@kLen _ (K) rfl) (by rfl) n_len PySem.boot_len (@pa_cons _ _ _ _ _ (@pv _ 0 _ _ (by rfl) (by walk_at "lc") (by decide) (by decide)) (@pa_nil _) (by rfl)) (by decide) (by decide) (by rfl) (by rfl)) (@pe_int _ _ _ _) (by with_unfolding_all rfl)) (@pw_and1 _ _ _ _ (@pt_val _ _ _ (@pe_callB _ _ _ _ _ _ _ _ _ (@kAll _ (K) rfl rfl) (by rfl) n_all PyProof.Rows.boot_all (@pa_cons _ _ _ _ _ (@pe_comp _ _ _ _ _ _ _ _ _ _ _ _ _ rfl (@L2.CSc.of _ _ (cc__law_part_0) (cf__law_part_0) (defScope s__law_part) (nm__law_part) (by decide +kernel) rfl rfl) (@kIter _ (K) _ _ _ rfl (@pv _ 0 _ _ (by rfl) (by walk_at "lc") (by decide) (by decide))) (fun C s' H' ex' pn'=>⟨@pg_name _ _ (0) _ cn__law_part_0 rfl (by walk_at "lc") (by first   | exact .inl rfl   | exact .inr rfl   | assumption),@pts_nil _,(@pe_cmpR _ _ _ _ _ _ _ _ (@kIn _ (K) rfl) (@pv _ 0 _ _ (by rfl) (by walk_at "lc") (by decide) (by decide)) (@pe_str _ _ _ _) (by with_unfolding_all rfl))⟩) (by intro _;rfl)) (@pa_nil _) (by rfl)) (by decide) (by decide) (by rfl) (by rfl)) (by intro _;rfl))))) (@pss_one _ _ _ (@ps_ret _ _ _ _ (@pv _ 0 _ _ (by rfl) (by walk_at "lc") (by decide) (by decide)))) (@pss_nil _)) (@pss_one _ _ _ (@ps_ret _ _ _ _ (@pe_non _ _ _)))) (@pss_nil _)) (@pss_cons _ _ _ _ _ (@ps_set _ _ (2) _ _ _ _ sc__law_part.nd rfl (by walk_at "lc") (@kCall _ (K) (P) (w) (mg) (base) _ _ _ _ _ _ _ _ _ rfl rfl rfl rfl rfl h__law_number (hr.mono (by decide)) rfl (@pa_cons _ _ _ _ _ (@pv _ 0 _ _ (by rfl) (by walk_at "lc") (by decide) (by decide)) (@pa_nil _) (by rfl)) (by decide) (by rfl) (by rfl)) (by rfl) (by first   | exact .inl rfl   | exact .inr rfl   | assumption)) (@pss_cons _ _ _ _ _ (@ps_if _ _ _ _ _ _ _ _ (@L2.PW.pt _ _ _ (@pw_and _ _ _ _ _ _ _ (@pt_cmpR _ _ _ _ _ _ _ _ (@kEq _ (K) rfl hu) (@pv _ 1 _ _ (by rfl) (by walk_at "lc") (by decide) (by decide)) (@pe_str _ _ _ _) (@nomark _ _ (by decide) (by decide))) (@pw_and _ _ _ _ _ _ _ (@pt_cmpR _ _ _ _ _ _ _ _ (@op_notA _) (@pv _ 2 _ _ (by rfl) (by walk_at "lc") (by decide) (by decide)) (@pe_non _ _ _) (@nomark _ _ (by decide) (by decide))) (@pw_and1 _ _ _ _ (@pt_not _ _ _ _ (@pt_chain _ _ _ _ _ _ _ _ _ _ _ _ (@op_le _) (@op_le _) (@pe_int _ _ _ _) (@pv _ 2 _ _ (by rfl) (by walk_at "lc") (by decide) (by decide)) (@pe_int _ _ _ _) (by with_unfolding_all rfl))))))) (@pss_one _ _ _ (@ps_ret _ _ _ _ (@pe_non _ _ _))) (@pss_nil _)) (@pss_one _ _ _ (@ps_ret _ _ _ _ (@pv _ 2 _ _ (by rfl) (by walk_at "lc") (by decide) (by decide))))))),?_⟩
 rintro xs M hl ⟨a,b,rfl,⟨s,rfl,hs,h640⟩,c,rfl,hc⟩
 have fin:∀d,fitD (.str ⟨#[c]⟩) (.str s)=d→∃M',M'.Sub M∧S11_part.post [.d (.str s),.d (.str ⟨#[c]⟩)] M (.d d) M':=fun d hd=>⟨M,Own.Sub.refl M,fun a' b' e=>by
   cases e
   exact⟨by rw[← hd],rfl⟩⟩
 have hz:s.length≤sizeLine:=Nat.le_trans hs.1 (by decide)
 walk_at "r"
 refine d2_eq (shaped_sign hc) (by decide +kernel) ?_
 rw[if_neg nft,eqv_s3]
 cases hn:((⟨#[c]⟩:Str)==Str.ofString "n") with
 | true=>
   have f0:fitD (.str ⟨#[c]⟩) (.str s)=if nameD (.str s) then .str s else .none:=fit_n hn
   have nm:nameD (.str s)=(decide (1≤s.cps.size)&&decide (s.cps.size≤8)&&s.cps.toList.all isLet):=rfl
   walk_at "r"
   refine rd_lens hz ?_
   walk_at "r"
   by_cases h1:1≤s.cps.size
   · rw[decide_eq_true (show(1:Int)≤(s.length:Int) from Int.ofNat_le.mpr h1),if_pos rfl]
     walk_at "r"
     by_cases h2:s.cps.size≤8
     · rw[decide_eq_true (show(s.length:Int)≤8 from Int.ofNat_le.mpr h2)]
       walk_at "r"
       refine de_comp_pure (go_name 0) (by simp[cf__law_part_0]) ?_
       refine diA_str ?_
       walk_at "r"
       refine⟨by simp only[signs,List.length_map,Array.length_toList];exact Nat.lt_of_le_of_lt hs.1 (by decide),fun _=>true,fun d=>.bool (letD d),?_,?_⟩
       · intro d hd' M'
         obtain⟨c,hc,rfl⟩:=List.mem_map.mp hd'
         walk_at "dl"
         refine⟨rfl,?_⟩
         walk_at "dl"
         refine⟨rfl,rfl,fun _=>?_⟩
         walk_at "r"
         refine d2A_ins ?_
         rw[in_letters c (hs.2 c hc)]
         exact⟨by simp[letD],rfl⟩
       · walk_at "r"
         rw[signs_let]
         refine rd_all ?_
         rw[all_map_id]
         cases ha:s.cps.toList.all isLet with
         | true=>
           walk_at "r"
           exact fin _ (by rw[f0,nm,ha,decide_eq_true h1,decide_eq_true h2];rfl)
         | false=>
           walk_at "r"
           exact fin _ (by rw[f0,nm,ha,Bool.and_false];rfl)
     · rw[decide_eq_false (show ¬(s.length:Int)≤8 from fun h=>h2 (Int.ofNat_le.mp h))]
       walk_at "r"
       exact fin _ (by rw[f0,nm,decide_eq_false h2,Bool.and_false,Bool.false_and];rfl)
   · rw[decide_eq_false (show ¬(1:Int)≤(s.length:Int) from fun h=>h1 (Int.ofNat_le.mp h)),if_neg nft]
     walk_at "r"
     exact fin _ (by rw[f0,nm,decide_eq_false h1,Bool.false_and,Bool.false_and];rfl)
 | false=>
   walk_at "r"
   refine fn1_call ⟨s,rfl,hs,h640⟩ ?_
   walk_at "r"
   refine d2_eq (shaped_sign hc) (by decide +kernel) ?_
   rw[if_neg nft,eqv_s3]
   cases hp:((⟨#[c]⟩:Str)==Str.ofString "p") with
   | false=>
     walk_at "r"
     exact fin _ (fit_k hn hp)
   | true=>
     have f1:=fit_p (s:=s) hn hp
     walk_at "r"
     refine d2_notNA ?_
     rw[show rwD (.str s)=optI (rwL s.cps.toList) from rfl] at f1 ⊢
     cases hr:rwL s.cps.toList with
     | none=>
       rw[hr] at f1
       walk_at "r"
       exact fin _ f1
     | some n=>
       rw[hr,show optI (some n) = .int n from rfl,show placeD (.int n)=(decide (0≤n)&&decide (n≤999)) from rfl] at f1
       rw[show optI (some n) = .int n from rfl,show(!isNoneD (.int n))=true from rfl]
       walk_at "r"
       by_cases h1:0≤n
       · rw[decide_eq_true h1] at f1 ⊢
         walk_at "r"
         by_cases h2:n≤999
         · rw[decide_eq_true h2] at f1 ⊢
           walk_at "r"
           exact fin _ f1
         · rw[decide_eq_false h2] at f1 ⊢
           walk_at "r"
           exact fin _ f1
       · rw[decide_eq_false h1] at f1 ⊢
         walk_at "r"
         exact fin _ f1
end
section
variable {P:Program}{w:World}{K:Frg}{mg:Str→Option Value}{base:Heap}
abbrev s__law_due:Stmt:=_root_.sT 49
def nm__law_due:List Str:=["_law_text", "_law_sorts", "_law_words", "_law_form", "_law_parts"]
def cc__law_due_0:List Str:=["_law_k", "_law_words", "_law_form"]
def cf__law_due_0:List (Option Nat):=[none,some 2,some 3]
theorem cn__law_due_0:cc__law_due_0.Nodup:=by decide +kernel
theorem sc__law_due:FnScope nm__law_due ["_law_text"] (defScope s__law_due):=⟨rfl,rfl,rfl,by decide +kernel,rfl,by decide +kernel,by decide +kernel⟩
theorem ok__law_due {f:Addr}{fd:FuncData}(F:Fun K "_law_due" "_law_due" s__law_due f fd) (n_len:mg "len"=none) (n_range:mg "range"=none) (n_tuple:mg "tuple"=none) (h__law_part:Has P w K mg base "_law_part" 2 ["_law_word", "_law_sort"] S11_part):FnOk P w K mg base CX0 3 f fd ["_law_text"] (spD K 1 S11_due):=by
 refine fnD F sc__law_due fun cdv A outer s H E hr=>?_
 have hu:=hr.units
 have hu1:=Nat.lt_of_le_of_lt (Nat.add_le_add_left (show 1≤64 by decide) _) hu
 refine⟨_,(@pss_cons _ _ _ _ _ (@ps_set _ _ (1) _ _ _ _ sc__law_due.nd rfl (by walk_at "lc") (@pe_disp _ _ _ _ _ (@pps_cons _ _ _ _ _ _ _ _ _ (@pe_str _ _ _ _) (@pe_str _ _ _ _) (@pps_cons _ _ _ _ _ _ _ _ _ (@pe_str _ _ _ _) (@pe_str _ _ _ _) (@pps_cons _ _ _ _ _ _ _ _ _ (@pe_str _ _ _ _) (@pe_str _ _ _ _) (@pps_cons _ _ _ _ _ _ _ _ _ (@pe_str _ _ _ _) (@pe_str _ _ _ _) (@pps_cons _ _ _ _ _ _ _ _ _ (@pe_str _ _ _ _) (@pe_str _ _ _ _) (@pps_cons _ _ _ _ _ _ _ _ _ (@pe_str _ _ _ _) (@pe_str _ _ _ _) (@pps_cons _ _ _ _ _ _ _ _ _ (@pe_str _ _ _ _) (@pe_str _ _ _ _) (@pps_nil _ _)))))))) rfl rfl (by simp) (by decide)) (by rfl) (by first   | exact .inl rfl   | exact .inr rfl   | assumption)) (@pss_cons _ _ _ _ _ (@ps_set _ _ (2) _ _ _ _ sc__law_due.nd rfl (by walk_at "lc") (@kBm _ (K) _ _ _ _ _ _ _ _ _ _ _ rfl PySem.F.plainAttrs_str PySem.F.slot_str_split PySem.F.type_str_split (@kSplit _ (K) rfl) (@pv _ 0 _ _ (by rfl) (by walk_at "lc") (by decide) (by decide)) (@pa_cons _ _ _ _ _ (@pe_str _ _ _ _) (@pa_nil _) (by rfl)) (by rfl) (by rfl) (by rfl) (by rfl) (by rfl)) (by rfl) (by first   | exact .inl rfl   | exact .inr rfl   | assumption)) (@pss_cons _ _ _ _ _ (@ps_set _ _ (3) _ _ _ _ sc__law_due.nd rfl (by walk_at "lc") (@pe_dget2 _ _ _ _ _ _ _ _ _ hu1 (@pv _ 1 _ _ (by rfl) (by walk_at "lc") (by decide) (by decide)) (@pe_ix _ _ _ _ _ _ _ (@kIx _ (K) rfl) (@pv _ 2 _ _ (by rfl) (by walk_at "lc") (by decide) (by decide)) (@pe_int _ _ _ _) (fun _ _=>rfl)) (@pe_str _ _ _ _) (@L2.M2.mk _ _ _ _ _ _ _ rfl rfl rfl rfl)) (by rfl) (by first   | exact .inl rfl   | exact .inr rfl   | assumption)) (@pss_cons _ _ _ _ _ (@ps_if _ _ _ _ _ _ _ _ (@L2.PW.pt _ _ _ (@pw_or _ _ _ _ _ _ _ (@pt_cmpR _ _ _ _ _ _ _ _ (@op_ltA _) (@pe_callB _ _ _ _ _ _ _ _ _ (@kLen _ (K) rfl) (by rfl) n_len PySem.boot_len (@pa_cons _ _ _ _ _ (@pv _ 2 _ _ (by rfl) (by walk_at "lc") (by decide) (by decide)) (@pa_nil _) (by rfl)) (by decide) (by decide) (by rfl) (by rfl)) (@pe_int _ _ _ _) (@nomark _ _ (by decide) (by decide))) (@pw_or1 _ _ _ _ (@pt_cmpR _ _ _ _ _ _ _ _ (@kNe _ (K) rfl hu) (@pe_callB _ _ _ _ _ _ _ _ _ (@kLen _ (K) rfl) (by rfl) n_len PySem.boot_len (@pa_cons _ _ _ _ _ (@pv _ 2 _ _ (by rfl) (by walk_at "lc") (by decide) (by decide)) (@pa_nil _) (by rfl)) (by decide) (by decide) (by rfl) (by rfl)) (@pe_op _ _ _ _ _ _ _ _ (@kAddB _ (K) rfl) (@pe_callB _ _ _ _ _ _ _ _ _ (@kLen _ (K) rfl) (by rfl) n_len PySem.boot_len (@pa_cons _ _ _ _ _ (@pv _ 3 _ _ (by rfl) (by walk_at "lc") (by decide) (by decide)) (@pa_nil _) (by rfl)) (by decide) (by decide) (by rfl) (by rfl)) (@pe_int _ _ _ _)) (@nomark _ _ (by decide) (by decide)))))) (@pss_one _ _ _ (@ps_ret _ _ _ _ (@pe_non _ _ _))) (@pss_nil _)) (@pss_cons _ _ _ _ _ (@ps_setc _ _ _ _ _ _ _ _ _ _ _ _ _ (4) _ _ _ rfl sc__law_due.nd rfl (by walk_at "lc") (@L2.CSc.of _ _ (cc__law_due_0) (cf__law_due_0) (defScope s__law_due) (nm__law_due) (by decide +kernel) rfl rfl) (@pi_range1 _ _ _ _ _ _ rfl n_range (@pa_cons _ _ _ _ _ (@pe_callB _ _ _ _ _ _ _ _ _ (@kLen _ (K) rfl) (by rfl) n_len PySem.boot_len (@pa_cons _ _ _ _ _ (@pv _ 3 _ _ (by rfl) (by walk_at "lc") (by decide) (by decide)) (@pa_nil _) (by rfl)) (by decide) (by decide) (by rfl) (by rfl)) (@pa_nil _) (by rfl)) (by rfl)) (fun C s' H' ex' pn'=>⟨@pg_name _ _ (0) _ cn__law_due_0 rfl (by walk_at "lc") (by first   | exact .inl rfl   | exact .inr rfl   | assumption),@pts_nil _,(@kCall _ (K) (P) (w) (mg) (base) _ _ _ _ _ _ _ _ _ rfl rfl rfl rfl rfl h__law_part (hr.mono (by decide)) rfl (@pa_cons _ _ _ _ _ (@pe_ix _ _ _ _ _ _ _ (@kIx _ (K) rfl) (@pv _ 1 _ _ (by rfl) (by walk_at "lc") (by decide) (by decide)) (@pe_op _ _ _ _ _ _ _ _ (@kAddB _ (K) rfl) (@pv _ 0 _ _ (by rfl) (by walk_at "lc") (by decide) (by decide)) (@pe_int _ _ _ _)) (fun _ _=>rfl)) (@pa_cons _ _ _ _ _ (@pe_ix _ _ _ _ _ _ _ (@kIx _ (K) rfl) (@pv _ 2 _ _ (by rfl) (by walk_at "lc") (by decide) (by decide)) (@pv _ 0 _ _ (by rfl) (by walk_at "lc") (by decide) (by decide)) (fun _ _=>rfl)) (@pa_nil _) (by rfl)) (by rfl)) (by decide) (by rfl) (by rfl))⟩) rfl (by first   | exact .inl rfl   | exact .inr rfl   | assumption) (by intro _;rfl)) (@pss_cons _ _ _ _ _ (@ps_if _ _ _ _ _ _ _ _ (@L2.PW.pt _ _ _ (@pw_or _ _ _ _ _ _ _ (@pt_cmpR _ _ _ _ _ _ _ _ (@kInD _ (K) rfl hu) (@pe_non _ _ _) (@pv _ 4 _ _ (by rfl) (by walk_at "lc") (by decide) (by decide)) (by with_unfolding_all rfl)) (@pw_or1 _ _ _ _ (@L2.PW.pt _ _ _ (@pw_and _ _ _ _ _ _ _ (@pt_cmpR _ _ _ _ _ _ _ _ (@kEq _ (K) rfl hu) (@pe_slice _ _ _ _ _ _ _ _ _ _ (@kSlB _ (K) rfl) (@pv _ 3 _ _ (by rfl) (by walk_at "lc") (by decide) (by decide)) (@po_none _) (@po_some _ _ _ (@pe_int _ _ _ _))) (@pe_str _ _ _ _) (@nomark _ _ (by decide) (by decide))) (@pw_and1 _ _ _ _ (@pt_cmpR _ _ _ _ _ _ _ _ (@kEq _ (K) rfl hu) (@pe_ix _ _ _ _ _ _ _ (@kIx _ (K) rfl) (@pv _ 4 _ _ (by rfl) (by walk_at "lc") (by decide) (by decide)) (@pe_int _ _ _ _) (fun _ _=>rfl)) (@pe_ix _ _ _ _ _ _ _ (@kIx _ (K) rfl) (@pv _ 4 _ _ (by rfl) (by walk_at "lc") (by decide) (by decide)) (@pe_int _ _ _ _) (fun _ _=>rfl)) (@nomark _ _ (by decide) (by decide))))))))) (@pss_one _ _ _ (@ps_ret _ _ _ _ (@pe_non _ _ _))) (@pss_nil _)) (@pss_one _ _ _ (@ps_ret _ _ _ _ (@pe_op _ _ _ _ _ _ _ _ (@kAddB _ (K) rfl) (@pe_tup _ _ _ _ _ (@pa_cons _ _ _ _ _ (@pe_ix _ _ _ _ _ _ _ (@kIx _ (K) rfl) (@pv _ 2 _ _ (by rfl) (by walk_at "lc") (by decide) (by decide)) (@pe_int _ _ _ _) (fun _ _=>rfl)) (@pa_nil _) (by rfl))) (@pe_callTy _ _ _ _ _ _ _ _ _ (@kTuple _ (K) rfl) (by rfl) n_tuple PyProof.Rows.boot_tuple (@pa_cons _ _ _ _ _ (@pv _ 4 _ _ (by rfl) (by walk_at "lc") (by decide) (by decide)) (@pa_nil _) (by rfl)) (by decide) (by decide) (by rfl) (by rfl))))))))))),?_⟩
 rintro xs M hl ⟨x,rfl,hx,hsh⟩
 have hs:=split_ok1 (y:=Str.ofString " ") hx
 have hc:=split_cnt (x:=x) (y:=Str.ofString " ")
 have hx5:x.length≤5000:=hx.1
 have hrd:rdD (.str x)=rdL (Txt.split x (Str.ofString " ")):=rfl
 have fin:∀d,dueL (Txt.split x (Str.ofString " "))=d→∃M',M'.Sub M∧S11_due.post [.d (.str x)] M (.d d) M':=fun d hd=>⟨M,Own.Sub.refl M,fun x' e=>by
   cases e
   exact⟨by rw[← hd,due_rd,hrd],rfl⟩⟩
 walk_at "r"
 refine de_dispN fun q hq=>?_
 refine dps_cons ?_
 walk_at "r"
 refine dps_cons ?_
 walk_at "r"
 refine dps_cons ?_
 walk_at "r"
 refine dps_cons ?_
 walk_at "r"
 refine dps_cons ?_
 walk_at "r"
 refine dps_cons ?_
 walk_at "r"
 refine dps_cons ?_
 walk_at "r"
 refine dps_nil ?_
 refine⟨Own.put_same,Nat.le_of_ble_eq_true rfl,by simp only[List.map_cons,List.map_nil];decide +kernel,?_⟩
 rw[Own.del_put hq]
 walk_at "r"
 refine de_bm ?_
 walk_at "dl"
 refine⟨dty_str,?_⟩
 walk_at "r"
 refine dm_split (by decide +kernel) (Nat.le_trans (Nat.add_le_add_right hx.1 2) (by decide)) ?_
 revert hs hc hsh fin
 generalize Txt.split x (Str.ofString " ")=ws
 intro hsh hs hc fin
 cases ws with
 | nil=>exact absurd hc.1 (by decide)
 | cons w ps=>
 have hw:=hs w (by simp)
 have hp:∀p∈ps,okS p:=fun p hp=>hs p (List.mem_cons_of_mem _ hp)
 have hpl:ps.length≤5001:=by have:=hc.2;rw[List.length_cons] at this;omega
 walk_at "r"
 refine de_dget2 ?_
 walk_at "r"
 refine d2A_ixl (d:=.str w) (atI_nat (j:=0) rfl) ?_
 walk_at "r"
 rw[show lookK w (List.map (fun k=>(PyData.str k.fst,k.snd)) [(Str.ofString "put", PyData.str (Str.ofString "npk")),(Str.ofString "take", PyData.str (Str.ofString "n")),(Str.ofString "move", PyData.str (Str.ofString "np")),(Str.ofString "count", PyData.str (Str.ofString "nk")),(Str.ofString "name", PyData.str (Str.ofString "nn")),(Str.ofString "split", PyData.str (Str.ofString "nnpk")),(Str.ofString "join", PyData.str (Str.ofString "nn"))])=(FORMS.lookup w).map .str from lookK_map w FORMS]
 refine rd_lenl ?_
 rw[List.length_map,List.length_cons]
 walk_at "r"
 cases hf:FORMS.lookup w with
 | none=>
   have nn:dueL (w::ps) = .none:=by unfold dueL;dsimp only;rw[hf]
   rw[show((none:Option Str).map PyData.str).getD (.str (Str.ofString "")) = .str (Str.ofString "") from rfl]
   refine ite2 (fun h1=>?_) (fun h1=>?_)
   · walk_at "r"
     exact fin _ nn
   · have h1':¬(((ps.length+1:Nat):Int) < 2):=by simpa using h1
     walk_at "r"
     refine rd_lenl ?_
     rw[List.length_map,List.length_cons]
     walk_at "r"
     refine rd_lens (by decide +kernel) ?_
     walk_at "r"
     refine d2_eq rfl rfl ?_
     rw[if_pos rfl,show(!PyData.eqv (.int ((ps.length+1:Nat):Int)) (.int (((Str.ofString "").length:Int)+1)))=true by
       rw[show(((Str.ofString "").length:Int)+1)=1 by decide +kernel,eqv_ine (by omega)];rfl]
     walk_at "r"
     exact fin _ nn
 | some f=>
   obtain⟨fa,fs,f2,f3,f4⟩:=form_facts hf
   rw[show((some f).map PyData.str).getD (.str (Str.ofString "")) = .str f from rfl]
   have hz:f.length≤sizeLine:=Nat.le_trans (show f.length≤4 from fs) (by decide)
   have fl:f.length=f.cps.size:=rfl
   have nn:¬ps.length=f.cps.size→dueL (w::ps) = .none:=fun h=>by unfold dueL;dsimp only;rw[hf];dsimp only;rw[if_neg h]
   refine ite2 (fun h1=>?_) (fun h1=>?_)
   · have h1':((ps.length+1:Nat):Int) < 2:=by simpa using h1
     walk_at "r"
     exact fin _ (nn (by omega))
   · have h1':¬(((ps.length+1:Nat):Int) < 2):=by simpa using h1
     walk_at "r"
     refine rd_lenl ?_
     rw[List.length_map,List.length_cons]
     walk_at "r"
     refine rd_lens hz ?_
     walk_at "r"
     refine d2_eq rfl rfl ?_
     rw[if_pos rfl]
     by_cases hlen:ps.length=f.cps.size
     · rw[show(!PyData.eqv (.int ((ps.length+1:Nat):Int)) (.int ((f.length:Int)+1)))=false by
         rw[eqv_ie (by omega)];rfl]
       have yy:dueL (w::ps)=if (fitL f ps).any (fun e=>PyData.eqv e .none)||(twoW w&&PyData.eqv ((fitL f ps).getD 0 .none) ((fitL f ps).getD 1 .none)) then .none else .tuple (.str w::fitL f ps):=by
         unfold dueL;dsimp only;rw[hf];dsimp only;rw[if_pos hlen]
       walk_at "r"
       refine de_comp_pure (go_name 0) (by simp[cf__law_due_0]) ?_
       refine di_rng1 ?_
       walk_at "r"
       refine rd_lens hz ?_
       walk_at "r"
       refine⟨by omega,by omega,?_⟩
       rw[show((f.length:Int)).toNat=f.cps.size from rfl]
       refine⟨by simp[intsD];exact Nat.lt_of_le_of_lt fs (by decide),fun _=>true,fitK f ps,?_,?_⟩
       · intro d hd' M'
         obtain⟨k,hk,rfl⟩:∃k:Nat,k < f.cps.size∧d = .int (k:Nat):=by
           unfold intsD at hd'
           obtain⟨k,hk,rfl⟩:=List.mem_map.mp hd'
           exact⟨k,by simpa using hk,by simp⟩
         have hkp:k < ps.length:=by omega
         have hc128:f.cps.toList.getD k 0 < 128:=by
           rw[List.getD_eq_getElem?_getD,List.getElem?_eq_getElem (by simpa using hk)]
           have:=Array.all_eq_true'.mp fa f.cps[k] (Array.getElem_mem hk)
           simpa using this
         have hpm:ps.getD k Str.empty∈ps:=by
           rw[List.getD_eq_getElem?_getD,List.getElem?_eq_getElem hkp];exact List.getElem_mem hkp
         walk_at "dl"
         refine⟨rfl,?_⟩
         walk_at "dl"
         refine⟨rfl,rfl,fun _=>?_⟩
         walk_at "r"
         refine d2A_ixl (d:=.str (ps.getD k Str.empty)) (atI_nat (j:=k+1) (by rw[List.getElem?_map,List.getElem?_cons_succ,List.getD_eq_getElem?_getD,List.getElem?_eq_getElem hkp];rfl)) ?_
         walk_at "r"
         refine d2A_ixs (c:=f.cps.toList.getD k 0) hz (atI_nat (j:=k) (by rw[List.getD_eq_getElem?_getD,List.getElem?_eq_getElem (by simpa using hk)];rfl)) ?_
         walk_at "r"
         refine fn2_call ⟨⟨_,rfl,hp _ hpm,hsh _ (List.mem_cons_of_mem _ hpm)⟩,_,rfl,hc128⟩ ?_
         exact⟨rfl,rfl⟩
       rw[ints_fit hlen]
       walk_at "r"
       refine d2_inD rfl (fitL_shaped hp) ?_
       rw[if_neg nft]
       cases ha:(fitL f ps).any (fun e=>PyData.eqv e .none) with
       | true=>
         rw[ha] at yy
         walk_at "r"
         exact fin _ yy
       | false=>
         rw[ha] at yy
         walk_at "r"
         refine dslB_str hz ?_
         walk_at "r"
         refine d2_eq (shaped_asc fun c hc=>by have:=Array.all_eq_true'.mp fa c (by simpa using slice_let (n:=2) hc);simpa using this) (by decide +kernel) ?_
         rw[if_neg nft,eqv_s3,form_two hf]
         have go:(twoW w&&PyData.eqv ((fitL f ps).getD 0 .none) ((fitL f ps).getD 1 .none))=false→dueL (w::ps) = .tuple (.str w::fitL f ps):=fun h=>by rw[yy,h];rfl
         cases h2:twoW w with
         | false=>
           rw[h2] at go
           walk_at "r"
           refine d2A_ixl (d:=.str w) (atI_nat (j:=0) rfl) ?_
           walk_at "r"
           refine rd_tupl ?_
           refine d2B_addt (show 1+(fitL f ps).length≤sizeLine by rw[fitL_len hlen];exact Nat.le_trans (Nat.add_le_add_left fs 1) (by decide)) ?_
           exact fin _ (go rfl)
         | true=>
           rw[h2] at go yy
           obtain⟨g1,_⟩:=f3 h2
           have hl2:=fitL_len hlen
           have a0:(fitL f ps)[0]?=some ((fitL f ps).getD 0 .none):=by rw[List.getD_eq_getElem?_getD,List.getElem?_eq_getElem (by omega)];rfl
           have a1:(fitL f ps)[1]?=some ((fitL f ps).getD 1 .none):=by rw[List.getD_eq_getElem?_getD,List.getElem?_eq_getElem (by omega)];rfl
           have sh:∀d,d∈fitL f ps→PySem.SeqAt.shaped d=true:=fun d hd=>by
             obtain⟨c,p,h,rfl⟩:=fitL_mem hd
             exact fit_shaped (hp p h)
           walk_at "r"
           refine d2A_ixl (atI_nat (j:=0) a0) ?_
           walk_at "r"
           refine d2A_ixl (atI_nat (j:=1) a1) ?_
           walk_at "r"
           refine d2_eq (sh _ (List.mem_of_getElem? a0)) (sh _ (List.mem_of_getElem? a1)) ?_
           rw[if_neg nft]
           cases he:PyData.eqv ((fitL f ps).getD 0 .none) ((fitL f ps).getD 1 .none) with
           | true=>
             rw[he] at yy
             walk_at "r"
             exact fin _ yy
           | false=>
             rw[he] at go
             walk_at "r"
             refine d2A_ixl (d:=.str w) (atI_nat (j:=0) rfl) ?_
             walk_at "r"
             refine rd_tupl ?_
             refine d2B_addt (show 1+(fitL f ps).length≤sizeLine by rw[fitL_len hlen];exact Nat.le_trans (Nat.add_le_add_left fs 1) (by decide)) ?_
             exact fin _ (go rfl)
     · rw[show(!PyData.eqv (.int ((ps.length+1:Nat):Int)) (.int ((f.length:Int)+1)))=true by
         rw[eqv_ine (by omega)];rfl]
       walk_at "r"
       exact fin _ (nn hlen)
end
section
variable {P:Program}{w:World}{K:Frg}{mg:Str→Option Value}{base:Heap}
abbrev s__law_turned_text:Stmt:=_root_.sT 50
def nm__law_turned_text:List Str:=["_law_pack_here", "_law_text", "_law_words", "_law_odd", "_law_sign", "_law_at", "_law_place_here", "_law_some"]
theorem sc__law_turned_text:FnScope nm__law_turned_text ["_law_pack_here", "_law_text"] (defScope s__law_turned_text):=⟨rfl,rfl,rfl,by decide +kernel,rfl,by decide +kernel,by decide +kernel⟩
theorem ok__law_turned_text {f:Addr}{fd:FuncData}(F:Fun K "_law_turned_text" "_law_turned_text" s__law_turned_text f fd) (n_len:mg "len"=none) (h__law_take:Has P w K mg base "_law_take" 1 ["_law_pack_here", "_law_size"] S__law_take):FnOk P w K mg base CX0 2 f fd ["_law_pack_here", "_law_text"] (spD K 2 S11_turned):=by
 refine fnD F sc__law_turned_text fun cdv A outer s H E hr=>?_
 have hu:=hr.units
 refine⟨_,(@pss_cons _ _ _ _ _ (@ps_set _ _ (2) _ _ _ _ sc__law_turned_text.nd rfl (by walk_at "lc") (@kBm _ (K) _ _ _ _ _ _ _ _ _ _ _ rfl PySem.F.plainAttrs_str PySem.F.slot_str_split PySem.F.type_str_split (@kSplit _ (K) rfl) (@pv _ 1 _ _ (by rfl) (by walk_at "lc") (by decide) (by decide)) (@pa_cons _ _ _ _ _ (@pe_str _ _ _ _) (@pa_nil _) (by rfl)) (by rfl) (by rfl) (by rfl) (by rfl) (by rfl)) (by rfl) (by first   | exact .inl rfl   | exact .inr rfl   | assumption)) (@pss_cons _ _ _ _ _ (@ps_set _ _ (3) _ _ _ _ sc__law_turned_text.nd rfl (by walk_at "lc") (@pe_lst _ _ _ _ (@pa_cons _ _ _ _ _ (@pe_str _ _ _ _) (@pa_cons _ _ _ _ _ (@pe_str _ _ _ _) (@pa_cons _ _ _ _ _ (@pe_str _ _ _ _) (@pa_cons _ _ _ _ _ (@pe_str _ _ _ _) (@pa_cons _ _ _ _ _ (@pe_str _ _ _ _) (@pa_cons _ _ _ _ _ (@pe_str _ _ _ _) (@pa_cons _ _ _ _ _ (@pe_str _ _ _ _) (@pa_cons _ _ _ _ _ (@pe_str _ _ _ _) (@pa_cons _ _ _ _ _ (@pe_str _ _ _ _) (@pa_cons _ _ _ _ _ (@pe_str _ _ _ _) (@pa_cons _ _ _ _ _ (@pe_str _ _ _ _) (@pa_cons _ _ _ _ _ (@pe_str _ _ _ _) (@pa_cons _ _ _ _ _ (@pe_str _ _ _ _) (@pa_cons _ _ _ _ _ (@pe_str _ _ _ _) (@pa_cons _ _ _ _ _ (@pe_str _ _ _ _) (@pa_cons _ _ _ _ _ (@pe_str _ _ _ _) (@pa_nil _) (by rfl)) (by rfl)) (by rfl)) (by rfl)) (by rfl)) (by rfl)) (by rfl)) (by rfl)) (by rfl)) (by rfl)) (by rfl)) (by rfl)) (by rfl)) (by rfl)) (by rfl)) (by rfl))) (by rfl) (by first   | exact .inl rfl   | exact .inr rfl   | assumption)) (@pss_cons _ _ _ _ _ (@ps_set _ _ (4) _ _ _ _ sc__law_turned_text.nd rfl (by walk_at "lc") (@pe_ix _ _ _ _ _ _ _ (@kIx _ (K) rfl) (@pv _ 3 _ _ (by rfl) (by walk_at "lc") (by decide) (by decide)) (@kCall _ (K) (P) (w) (mg) (base) _ _ _ _ _ _ _ _ _ rfl rfl rfl rfl rfl h__law_take (hr.mono (by decide)) rfl (@pa_cons _ _ _ _ _ (@pv _ 0 _ _ (by rfl) (by walk_at "lc") (by decide) (by decide)) (@pa_cons _ _ _ _ _ (@pe_int _ _ _ _) (@pa_nil _) (by rfl)) (by rfl)) (by decide) (by rfl) (by rfl)) (fun _ _=>rfl)) (by rfl) (by first   | exact .inl rfl   | exact .inr rfl   | assumption)) (@pss_cons _ _ _ _ _ (@ps_set _ _ (5) _ _ _ _ sc__law_turned_text.nd rfl (by walk_at "lc") (@kCall _ (K) (P) (w) (mg) (base) _ _ _ _ _ _ _ _ _ rfl rfl rfl rfl rfl h__law_take (hr.mono (by decide)) rfl (@pa_cons _ _ _ _ _ (@pv _ 0 _ _ (by rfl) (by walk_at "lc") (by decide) (by decide)) (@pa_cons _ _ _ _ _ (@pe_op _ _ _ _ _ _ _ _ (@kAddB _ (K) rfl) (@pe_callB _ _ _ _ _ _ _ _ _ (@kLen _ (K) rfl) (by rfl) n_len PySem.boot_len (@pa_cons _ _ _ _ _ (@pv _ 1 _ _ (by rfl) (by walk_at "lc") (by decide) (by decide)) (@pa_nil _) (by rfl)) (by decide) (by decide) (by rfl) (by rfl)) (@pe_int _ _ _ _)) (@pa_nil _) (by rfl)) (by rfl)) (by decide) (by rfl) (by rfl)) (by rfl) (by first   | exact .inl rfl   | exact .inr rfl   | assumption)) (@pss_cons _ _ _ _ _ (@ps_set _ _ (6) _ _ _ _ sc__law_turned_text.nd rfl (by walk_at "lc") (@kCall _ (K) (P) (w) (mg) (base) _ _ _ _ _ _ _ _ _ rfl rfl rfl rfl rfl h__law_take (hr.mono (by decide)) rfl (@pa_cons _ _ _ _ _ (@pv _ 0 _ _ (by rfl) (by walk_at "lc") (by decide) (by decide)) (@pa_cons _ _ _ _ _ (@pe_callB _ _ _ _ _ _ _ _ _ (@kLen _ (K) rfl) (by rfl) n_len PySem.boot_len (@pa_cons _ _ _ _ _ (@pv _ 2 _ _ (by rfl) (by walk_at "lc") (by decide) (by decide)) (@pa_nil _) (by rfl)) (by decide) (by decide) (by rfl) (by rfl)) (@pa_nil _) (by rfl)) (by rfl)) (by decide) (by rfl) (by rfl)) (by rfl) (by first   | exact .inl rfl   | exact .inr rfl   | assumption)) (@pss_cons _ _ _ _ _ (@ps_set _ _ (7) _ _ _ _ sc__law_turned_text.nd rfl (by walk_at "lc") (@pe_lst _ _ _ _ (@pa_cons _ _ _ _ _ (@pe_op _ _ _ _ _ _ _ _ (@kAddB _ (K) rfl) (@pe_op _ _ _ _ _ _ _ _ (@kAddB _ (K) rfl) (@pe_slice _ _ _ _ _ _ _ _ _ _ (@kSlB _ (K) rfl) (@pv _ 1 _ _ (by rfl) (by walk_at "lc") (by decide) (by decide)) (@po_none _) (@po_some _ _ _ (@pv _ 5 _ _ (by rfl) (by walk_at "lc") (by decide) (by decide)))) (@pv _ 4 _ _ (by rfl) (by walk_at "lc") (by decide) (by decide))) (@pe_slice _ _ _ _ _ _ _ _ _ _ (@kSlB _ (K) rfl) (@pv _ 1 _ _ (by rfl) (by walk_at "lc") (by decide) (by decide)) (@po_some _ _ _ (@pv _ 5 _ _ (by rfl) (by walk_at "lc") (by decide) (by decide))) (@po_none _))) (@pa_cons _ _ _ _ _ (@pe_op _ _ _ _ _ _ _ _ (@kAddB _ (K) rfl) (@pe_slice _ _ _ _ _ _ _ _ _ _ (@kSlB _ (K) rfl) (@pv _ 1 _ _ (by rfl) (by walk_at "lc") (by decide) (by decide)) (@po_none _) (@po_some _ _ _ (@pv _ 5 _ _ (by rfl) (by walk_at "lc") (by decide) (by decide)))) (@pe_slice _ _ _ _ _ _ _ _ _ _ (@kSlB _ (K) rfl) (@pv _ 1 _ _ (by rfl) (by walk_at "lc") (by decide) (by decide)) (@po_some _ _ _ (@pe_op _ _ _ _ _ _ _ _ (@kAddB _ (K) rfl) (@pv _ 5 _ _ (by rfl) (by walk_at "lc") (by decide) (by decide)) (@pe_int _ _ _ _))) (@po_none _))) (@pa_cons _ _ _ _ _ (@kBm _ (K) _ _ _ _ _ _ _ _ _ _ _ rfl PySem.F.plainAttrs_str PySem.F.slot_str_join PySem.F.type_str_join (@kJoin _ (K) rfl) (@pe_str _ _ _ _) (@pa_cons _ _ _ _ _ (@pe_op _ _ _ _ _ _ _ _ (@kAddB _ (K) rfl) (@pe_slice _ _ _ _ _ _ _ _ _ _ (@kSlB _ (K) rfl) (@pv _ 2 _ _ (by rfl) (by walk_at "lc") (by decide) (by decide)) (@po_none _) (@po_some _ _ _ (@pv _ 6 _ _ (by rfl) (by walk_at "lc") (by decide) (by decide)))) (@pe_slice _ _ _ _ _ _ _ _ _ _ (@kSlB _ (K) rfl) (@pv _ 2 _ _ (by rfl) (by walk_at "lc") (by decide) (by decide)) (@po_some _ _ _ (@pe_op _ _ _ _ _ _ _ _ (@kAddB _ (K) rfl) (@pv _ 6 _ _ (by rfl) (by walk_at "lc") (by decide) (by decide)) (@pe_int _ _ _ _))) (@po_none _))) (@pa_nil _) (by rfl)) (by rfl) (by rfl) (by rfl) (by rfl) (by rfl)) (@pa_nil _) (by rfl)) (by rfl)) (by rfl))) (by rfl) (by first   | exact .inl rfl   | exact .inr rfl   | assumption)) (@pss_cons _ _ _ _ _ (@ps_set _ _ (7) _ _ _ _ sc__law_turned_text.nd rfl (by walk_at "lc") (@pe_op _ _ _ _ _ _ _ _ (@kAddB _ (K) rfl) (@pv _ 7 _ _ (by rfl) (by walk_at "lc") (by decide) (by decide)) (@pe_lst _ _ _ _ (@pa_cons _ _ _ _ _ (@kBm _ (K) _ _ _ _ _ _ _ _ _ _ _ rfl PySem.F.plainAttrs_str PySem.F.slot_str_join PySem.F.type_str_join (@kJoin _ (K) rfl) (@pe_str _ _ _ _) (@pa_cons _ _ _ _ _ (@pe_op _ _ _ _ _ _ _ _ (@kAddB _ (K) rfl) (@pe_slice _ _ _ _ _ _ _ _ _ _ (@kSlB _ (K) rfl) (@pv _ 2 _ _ (by rfl) (by walk_at "lc") (by decide) (by decide)) (@po_none _) (@po_some _ _ _ (@pe_op _ _ _ _ _ _ _ _ (@kAddB _ (K) rfl) (@pv _ 6 _ _ (by rfl) (by walk_at "lc") (by decide) (by decide)) (@pe_int _ _ _ _)))) (@pe_slice _ _ _ _ _ _ _ _ _ _ (@kSlB _ (K) rfl) (@pv _ 2 _ _ (by rfl) (by walk_at "lc") (by decide) (by decide)) (@po_some _ _ _ (@pv _ 6 _ _ (by rfl) (by walk_at "lc") (by decide) (by decide))) (@po_none _))) (@pa_nil _) (by rfl)) (by rfl) (by rfl) (by rfl) (by rfl) (by rfl)) (@pa_cons _ _ _ _ _ (@kBm _ (K) _ _ _ _ _ _ _ _ _ _ _ rfl PySem.F.plainAttrs_str PySem.F.slot_str_join PySem.F.type_str_join (@kJoin _ (K) rfl) (@pe_str _ _ _ _) (@pa_cons _ _ _ _ _ (@pe_op _ _ _ _ _ _ _ _ (@kAddB _ (K) rfl) (@pe_op _ _ _ _ _ _ _ _ (@kAddB _ (K) rfl) (@pe_slice _ _ _ _ _ _ _ _ _ _ (@kSlB _ (K) rfl) (@pv _ 2 _ _ (by rfl) (by walk_at "lc") (by decide) (by decide)) (@po_none _) (@po_some _ _ _ (@pv _ 6 _ _ (by rfl) (by walk_at "lc") (by decide) (by decide)))) (@pe_lst _ _ _ _ (@pa_cons _ _ _ _ _ (@pv _ 4 _ _ (by rfl) (by walk_at "lc") (by decide) (by decide)) (@pa_nil _) (by rfl)))) (@pe_slice _ _ _ _ _ _ _ _ _ _ (@kSlB _ (K) rfl) (@pv _ 2 _ _ (by rfl) (by walk_at "lc") (by decide) (by decide)) (@po_some _ _ _ (@pe_op _ _ _ _ _ _ _ _ (@kAddB _ (K) rfl) (@pv _ 6 _ _ (by rfl) (by walk_at "lc") (by decide) (by decide)) (@pe_int _ _ _ _))) (@po_none _))) (@pa_nil _) (by rfl)) (by rfl) (by rfl) (by rfl) (by rfl) (by rfl)) (@pa_nil _) (by rfl)) (by rfl)))) (by rfl) (by first   | exact .inl rfl   | exact .inr rfl   | assumption)) (@pss_one _ _ _ (@ps_ret _ _ _ _ (@pe_ix _ _ _ _ _ _ _ (@kIx _ (K) rfl) (@pe_op _ _ _ _ _ _ _ _ (@kAddB _ (K) rfl) (@pv _ 7 _ _ (by rfl) (by walk_at "lc") (by decide) (by decide)) (@pe_lst _ _ _ _ (@pa_cons _ _ _ _ _ (@pe_op _ _ _ _ _ _ _ _ (@kAddB _ (K) rfl) (@pv _ 1 _ _ (by rfl) (by walk_at "lc") (by decide) (by decide)) (@pe_str _ _ _ _)) (@pa_cons _ _ _ _ _ (@pe_op _ _ _ _ _ _ _ _ (@kAddB _ (K) rfl) (@pe_str _ _ _ _) (@pv _ 1 _ _ (by rfl) (by walk_at "lc") (by decide) (by decide))) (@pa_cons _ _ _ _ _ (@pe_op _ _ _ _ _ _ _ _ (@kAddB _ (K) rfl) (@pv _ 1 _ _ (by rfl) (by walk_at "lc") (by decide) (by decide)) (@pe_str _ _ _ _)) (@pa_cons _ _ _ _ _ (@pv _ 1 _ _ (by rfl) (by walk_at "lc") (by decide) (by decide)) (@pa_nil _) (by rfl)) (by rfl)) (by rfl)) (by rfl)))) (@kCall _ (K) (P) (w) (mg) (base) _ _ _ _ _ _ _ _ _ rfl rfl rfl rfl rfl h__law_take (hr.mono (by decide)) rfl (@pa_cons _ _ _ _ _ (@pv _ 0 _ _ (by rfl) (by walk_at "lc") (by decide) (by decide)) (@pa_cons _ _ _ _ _ (@pe_int _ _ _ _) (@pa_nil _) (by rfl)) (by rfl)) (by decide) (by rfl) (by rfl)) (fun _ _=>rfl))))))))))),?_⟩
 rintro xs M hl ⟨p,o,x,rfl,m,ho,h1,h2,h3⟩
 have hA:okA 110 x:=⟨h1,h2⟩
 have hz:x.length≤sizeLine:=Nat.le_trans hA.len (by decide)
 have hxl:=hA.len
 have hs:∀w∈Txt.split x (Str.ofString " "),okA 110 w:=fun w hw=>by
   have:=split_ok1 (hA.ok (by decide)) w hw
   exact⟨by rw[Array.length_toList];exact Nat.le_trans (split_le w hw) hxl,this.2⟩
 have hc:=split_cnt (x:=x) (y:=Str.ofString " ")
 walk_at "r"
 refine de_bm ?_
 walk_at "dl"
 refine⟨dty_str,?_⟩
 walk_at "r"
 refine dm_split (by decide +kernel) (Nat.le_trans (Nat.add_le_add_right hxl 2) (by decide)) ?_
 revert hs hc h3
 generalize Txt.split x (Str.ofString " ")=ws
 intro h3 hs hc
 walk_at "wkd"
 refine take_call m ho (by decide) (by decide) fun v1 o1 a0 a1 ho1=>?_
 obtain⟨y1,ey1,my1⟩:=atI_some (xs:=oddW.map PyData.str) a0 a1
 obtain⟨sg,hsg,rfl⟩:=List.mem_map.mp my1
 have hg:okA 4 sg:=oddW_ok sg hsg
 refine d2A_ixl ey1 ?_
 walk_at "r"
 refine rd_lens hz ?_
 walk_at "r"
 refine take_call Own.put_same ho1 (by omega) (by omega) fun v2 o2 b0 b1 ho2=>?_
 rw[Own.put_put]
 obtain⟨at_,rfl⟩:=Int.eq_ofNat_of_zero_le b0
 walk_at "r"
 refine rd_lenl ?_
 rw[List.length_map]
 walk_at "r"
 refine take_call Own.put_same ho2 (by omega) (by omega) fun v3 o3 c0 c1 ho3=>?_
 rw[Own.put_put]
 obtain⟨j,rfl⟩:=Int.eq_ofNat_of_zero_le c0
 walk_at "r"
 refine de_lst ?_
 have t1:okA 110 (Txt.slice x none (some (at_:Int))):=hA.to
 have t2:okA 110 (Txt.slice x (some (at_:Int)) none):=hA.frm
 have t3:okA 110 (Txt.slice x (some ((at_:Int)+1)) none):=hA.frm (k:=at_+1)
 have szw:∀n:Nat,n≤100→n≤sizeLine:=fun n h=>Nat.le_trans h (by decide)
 have w1:∀q∈ws.take j++ws.drop (j+1),okA 110 q:=fun q hq=>by
   rcases List.mem_append.mp hq with h | h
   · exact hs q (List.mem_of_mem_take h)
   · exact hs q (List.mem_of_mem_drop h)
 have n1:(ws.take j++ws.drop (j+1)).length≤12:=by rw[List.length_append,List.length_take,List.length_drop];omega
 have w2:∀q∈ws.take (j+1)++ws.drop j,okA 110 q:=fun q hq=>by
   rcases List.mem_append.mp hq with h | h
   · exact hs q (List.mem_of_mem_take h)
   · exact hs q (List.mem_of_mem_drop h)
 have n2:(ws.take (j+1)++ws.drop j).length≤12:=by rw[List.length_append,List.length_take,List.length_drop];omega
 have w3:∀q∈ws.take j++[sg]++ws.drop (j+1),okA 110 q:=fun q hq=>by
   rcases List.mem_append.mp hq with h | h
   · rcases List.mem_append.mp h with h | h
     · exact hs q (List.mem_of_mem_take h)
     · rw[List.mem_singleton.mp h];exact⟨Nat.le_trans hg.1 (by decide),hg.2⟩
   · exact hs q (List.mem_of_mem_drop h)
 have n3:(ws.take j++[sg]++ws.drop (j+1)).length≤12:=by rw[List.length_append,List.length_append,List.length_take,List.length_drop,List.length_singleton];omega
 walk_at "r"
 refine dslB_str hz ?_
 walk_at "r"
 refine d2B_adds (Nat.le_trans (Nat.add_le_add t1.len hg.len) (by decide)) ?_
 walk_at "r"
 refine dslB_str hz ?_
 refine d2B_adds (Nat.le_trans (Nat.add_le_add (t1.app hg).len t2.len) (by decide)) ?_
 walk_at "r"
 refine dslB_str hz ?_
 walk_at "r"
 refine dslB_str hz ?_
 refine d2B_adds (Nat.le_trans (Nat.add_le_add t1.len t3.len) (by decide)) ?_
 walk_at "r"
 refine de_bm ?_
 walk_at "dl"
 refine⟨dty_str,?_⟩
 walk_at "r"
 refine dslB_list ?_
 rw[cut_to]
 walk_at "r"
 refine dslB_list ?_
 rw[show((j:Int)+1)=((j+1:Nat):Int) from rfl,cut_from]
 refine d2B_addl (szw _ (by simp only[List.length_take,List.length_drop,List.length_map];omega)) ?_
 rw[show(ws.map PyData.str).take j++(ws.map PyData.str).drop (j+1)=(ws.take j++ws.drop (j+1)).map .str by rw[← List.map_take,← List.map_drop,List.map_append]]
 walk_at "r"
 refine dm_join (fits_join w1 n1 (by decide) (by decide)) ?_
 walk_at "r"
 refine de_lst ?_
 walk_at "r"
 refine de_bm ?_
 walk_at "dl"
 refine⟨dty_str,?_⟩
 walk_at "r"
 rw[show((j:Int)+1)=((j+1:Nat):Int) from rfl]
 refine dslB_list ?_
 rw[cut_to]
 walk_at "r"
 refine dslB_list ?_
 rw[cut_from]
 refine d2B_addl (szw _ (by simp only[List.length_take,List.length_drop,List.length_map];omega)) ?_
 rw[show(ws.map PyData.str).take (j+1)++(ws.map PyData.str).drop j=(ws.take (j+1)++ws.drop j).map .str by rw[← List.map_take,← List.map_drop,List.map_append]]
 walk_at "r"
 refine dm_join (fits_join w2 n2 (by decide) (by decide)) ?_
 walk_at "r"
 refine de_bm ?_
 walk_at "dl"
 refine⟨dty_str,?_⟩
 walk_at "r"
 refine dslB_list ?_
 rw[cut_to]
 walk_at "r"
 refine de_lst ?_
 walk_at "r"
 refine d2B_addl (szw _ (by simp only[List.length_take,List.length_map,List.length_cons,List.length_nil];omega)) ?_
 walk_at "r"
 refine dslB_list ?_
 rw[show((j:Int)+1)=((j+1:Nat):Int) from rfl,cut_from]
 refine d2B_addl (szw _ (by simp only[List.length_append,List.length_take,List.length_drop,List.length_map,List.length_cons,List.length_nil];omega)) ?_
 rw[show(ws.map PyData.str).take j++[PyData.str sg]++(ws.map PyData.str).drop (j+1)=(ws.take j++[sg]++ws.drop (j+1)).map .str by rw[← List.map_take,← List.map_drop,List.map_append,List.map_append];rfl]
 walk_at "r"
 refine dm_join (fits_join w3 n3 (by decide) (by decide)) ?_
 walk_at "r"
 refine d2B_addl (Nat.le_of_ble_eq_true rfl) ?_
 walk_at "r"
 refine de_lst ?_
 walk_at "r"
 have x1:okA 1 (Str.ofString " "):=⟨by decide +kernel,by decide +kernel⟩
 have x2:okA 1 (Str.ofString "\n"):=⟨by decide +kernel,by decide +kernel⟩
 refine d2B_adds (Nat.le_trans (Nat.add_le_add hA.len x1.len) (by decide)) ?_
 walk_at "r"
 refine d2B_adds (Nat.le_trans (Nat.add_le_add x1.len hA.len) (by decide)) ?_
 walk_at "r"
 refine d2B_adds (Nat.le_trans (Nat.add_le_add hA.len x2.len) (by decide)) ?_
 walk_at "r"
 refine d2B_addl (Nat.le_of_ble_eq_true rfl) ?_
 walk_at "r"
 refine take_call Own.put_same ho3 (by decide) (by decide) fun v4 o4 d0 d1 ho4=>?_
 rw[Own.put_put]
 obtain⟨y4,ey4,my4⟩:=atI_some (xs:=[Txt.slice x none (some (at_:Int))++sg++Txt.slice x (some (at_:Int)) none,Txt.slice x none (some (at_:Int))++Txt.slice x (some ((at_:Int)+1)) none,Txt.join (Str.ofString " ") (ws.take j++ws.drop (j+1)),Txt.join (Str.ofString " ") (ws.take (j+1)++ws.drop j),Txt.join (Str.ofString " ") (ws.take j++[sg]++ws.drop (j+1)),x++Str.ofString " ", Str.ofString " " ++ x,x++Str.ofString "\n", x].map PyData.str) d0 d1
 obtain⟨z,hz4,rfl⟩:=List.mem_map.mp my4
 have hok:okS z:=by
   simp only[List.mem_cons,List.not_mem_nil,or_false] at hz4
   rcases hz4 with rfl | rfl | rfl | rfl | rfl | rfl | rfl | rfl | rfl
   · exact((t1.app hg).app t2).ok (by decide)
   · exact(t1.app t3).ok (by decide)
   · exact(okA_join w1 n1).ok (by decide)
   · exact(okA_join w2 n2).ok (by decide)
   · exact(okA_join w3 n3).ok (by decide)
   · exact(hA.app x1).ok (by decide)
   · exact(x1.app hA).ok (by decide)
   · exact(hA.app x2).ok (by decide)
   · exact hA.ok (by decide)
 refine d2A_ixl ey4 ?_
 refine⟨_,Own.Sub.refl _,fun p' k' e=>?_⟩
 cases e
 exact⟨z,o4,rfl,hok,ho4,rfl⟩
end
section
variable {P:Program}{w:World}{K:Frg}{mg:Str→Option Value}{base:Heap}
abbrev s__law_right:Stmt:=_root_.sT 51
def nm__law_right:List Str:=["_law_text", "_law_due_here", "_law_found", "_law_caught", "_law_e"]
theorem sc__law_right:FnScope nm__law_right ["_law_text", "_law_due_here"] (defScope s__law_right):=⟨rfl,rfl,rfl,by decide +kernel,rfl,by decide +kernel,by decide +kernel⟩
theorem ok__law_right {f:Addr}{fd:FuncData}{c_S c_NoText:Addr}(F:Fun K "_law_right" "_law_right" s__law_right f fd) (n_isinstance:mg "isinstance"=none) (n_tuple:mg "tuple"=none) (t_S:mg "StrikeError"=some (.ref c_S)) (u_S:XTop K c_S) (m_T:XM K c_NoText c_S) (o_T:OnlyAt K [c_NoText,c_NoDeed,c_NotNow,c_NoRow,c_NoBook,c_NoLine,c_NoStand,c_NoName,c_NoNeed,c_NoMark,c_NoJoin,c_NoCall,c_NoLog] c_S c_NoText 0) (na_T:NoAttr K c_NoText "part") (h_read_deed:HasX P w K mg base "read_deed" 6 ["text"] (G_read_deed c_NoText)) (h__law_only:Has P w K mg base "_law_only" 1 ["_law_e", "_law_at"] (S9_only K [c_NoText,c_NoDeed,c_NotNow,c_NoRow,c_NoBook,c_NoLine,c_NoStand,c_NoName,c_NoNeed,c_NoMark,c_NoJoin,c_NoCall,c_NoLog] c_S)):FnOk P w K mg base CX0 7 f fd ["_law_text", "_law_due_here"] (spD K 2 S11_right):=by
 refine fnD F sc__law_right fun cdv A outer s H E hr=>?_
 have hu:=hr.units
 refine⟨_,(@pss_cons _ _ _ _ _ (@ps_set _ _ (2) _ _ _ _ sc__law_right.nd rfl (by walk_at "lc") (@pe_non _ _ _) (by rfl) (by first   | exact .inl rfl   | exact .inr rfl   | assumption)) (@pss_cons _ _ _ _ _ (@ps_set _ _ (3) _ _ _ _ sc__law_right.nd rfl (by walk_at "lc") (@pe_non _ _ _) (by rfl) (by first   | exact .inl rfl   | exact .inr rfl   | assumption)) (@pss_cons _ _ _ _ _ (@kTryAs _ (Cx.nox (cxOf CX0 P w K mg base nm__law_right "_law_right" (defScope s__law_right) f cdv A outer s H E)) _ (4) _ _ _ _ _ _ _ _ _ _ rfl rfl rfl sc__law_right.nd rfl rfl rfl t_S (fun pn R=>(@pss_one _ _ _ (@ps_set _ _ (2) _ _ _ _ sc__law_right.nd rfl (by walk_at "lc") (@kCallX _ _ _ _ _ (pinned (Cx.nox (cxOf CX0 P w K mg base nm__law_right "_law_right" (defScope s__law_right) f cdv A outer s H E)) pn) R _ _ _ _ _ _ _ _ _ rfl rfl rfl rfl rfl h_read_deed (hr.mono (by decide)) rfl (@pa_cons _ _ _ _ _ (@pv _ 0 _ _ (by rfl) (by walk_at "lc") (by decide) (by decide)) (@pa_nil _) (by rfl)) (by decide) (by rfl) (by rfl)) (by rfl) (by first   | exact .inl rfl   | exact .inr rfl   | assumption)))) (fun a=>(@pss_one _ _ _ (@ps_set _ _ (3) _ _ _ _ sc__law_right.nd rfl (by walk_at "lc") (@pv _ 4 _ _ (by rfl) (by walk_at "lc") (by decide) (by decide)) (by rfl) (by first   | exact .inl rfl   | exact .inr rfl   | assumption)))) (by decide)) (@pss_cons _ _ _ _ _ (@ps_if _ _ _ _ _ _ _ _ (@pt_cmpR _ _ _ _ _ _ _ _ (@op_isA _) (@pv _ 1 _ _ (by rfl) (by walk_at "lc") (by decide) (by decide)) (@pe_non _ _ _) (@nomark _ _ (by decide) (by decide))) (@pss_one _ _ _ (@ps_ret _ _ _ _ (@pe_and _ _ _ _ _ _ _ (@kCall _ (K) (P) (w) (mg) (base) _ _ _ _ _ _ _ _ _ rfl rfl rfl rfl rfl h__law_only (hr.mono (by decide)) rfl (@pa_cons _ _ _ _ _ (@pv _ 3 _ _ (by rfl) (by walk_at "lc") (by decide) (by decide)) (@pa_cons _ _ _ _ _ (@pe_int _ _ _ _) (@pa_nil _) (by rfl)) (by rfl)) (by decide) (by rfl) (by rfl)) (@pe_one _ _ _ _ _ (@pe_cmpR _ _ _ _ _ _ _ _ (@op_isA _) (@kFldX _ (K) _ _ _ _ rfl (@pv _ 3 _ _ (by rfl) (by walk_at "lc") (by decide) (by decide)) rfl) (@pe_non _ _ _) (@nomark _ _ (by decide) (by decide))))))) (@pss_nil _)) (@pss_one _ _ _ (@ps_ret _ _ _ _ (@pe_and _ _ _ _ _ _ _ (@pe_cmpR _ _ _ _ _ _ _ _ (@op_isA _) (@pv _ 3 _ _ (by rfl) (by walk_at "lc") (by decide) (by decide)) (@pe_non _ _ _) (@nomark _ _ (by decide) (by decide))) (@pe_and _ _ _ _ _ _ _ (@pe_callB _ _ _ _ _ _ _ _ _ (@kIsi _ (K) rfl) (by rfl) n_isinstance PyProof.Rows.boot_isinstance (@pa_cons _ _ _ _ _ (@pv _ 2 _ _ (by rfl) (by walk_at "lc") (by decide) (by decide)) (@pa_cons _ _ _ _ _ (@pe_bltn _ _ (.ty "tuple") _ _ rfl n_tuple PyProof.Rows.boot_tuple rfl (by decide) (by decide)) (@pa_nil _) (by rfl)) (by rfl)) (by decide) (by decide) (by rfl) (by rfl)) (@pe_one _ _ _ _ _ (@pe_cmpR _ _ _ _ _ _ _ _ (@kEq _ (K) rfl hu) (@pv _ 2 _ _ (by rfl) (by walk_at "lc") (by decide) (by decide)) (@pv _ 1 _ _ (by rfl) (by walk_at "lc") (by decide) (by decide)) (@nomark _ _ (by decide) (by decide)))))))))))),?_⟩
 rintro xs M hl ⟨d,rfl,hd⟩
 walk_at "r"
 refine ds_tryAs fun R=>?_
 walk_at "r"
 refine deed_read hd (fun r hr=>?_) (fun hn=>⟨c_NoText,rfl,m_T,fun a hM=>?_⟩)
 · obtain⟨ds,rfl,hsh⟩:=rd_shaped hd hr
   rw[hr,show optP (some (.tuple ds)) = .tuple ds from rfl]
   walk_at "r"
   refine d2_isNA ?_
   walk_at "r"
   refine d2_isNA ?_
   walk_at "r"
   refine d2_eq hsh hsh ?_
   rw[if_neg nft,PySem.SeqAt.eqv_refl _ (PySem.SeqAt.canLay_of_shaped hsh)]
   exact⟨M,Own.Sub.refl M,rfl,rfl⟩
 · rw[hn,show optP none = .none from rfl]
   walk_at "r"
   refine d2_isNA ?_
   walk_at "r"
   refine only_call (k:=0) Own.put_same o_T (by decide) ?_
   walk_at "r"
   refine de_fldX ?_
   walk_at "r"
   refine⟨a,c_NoText,.none,rfl,Own.put_same,o_T.kit,na_T,?_⟩
   walk_at "r"
   refine d2_isNA ?_
   exact⟨M,(Own.Sub.refl M).put hM,rfl,rfl⟩
end
section
variable {P:Program}{w:World}{K:Frg}{mg:Str→Option Value}{base:Heap}
abbrev s_law:Stmt:=_root_.sT 52
def nm_law:List Str:=["_law_script", "_law_cell", "_law_pack_here", "_law_names_here", "_law_deed", "_law_text", "_law_turn", "_law_some", "_law_short"]
def cc_law_0:List Str:=["_law_part_here"]
def cf_law_0:List (Option Nat):=[none]
theorem cn_law_0:cc_law_0.Nodup:=by decide +kernel
def cc_law_1:List Str:=["_law_word"]
def cf_law_1:List (Option Nat):=[none]
theorem cn_law_1:cc_law_1.Nodup:=by decide +kernel
def cc_law_2:List Str:=["_law_thing"]
def cf_law_2:List (Option Nat):=[none]
theorem cn_law_2:cc_law_2.Nodup:=by decide +kernel
theorem sc_law:FnScope nm_law ["_law_script"] (defScope s_law):=⟨rfl,rfl,rfl,by decide +kernel,rfl,by decide +kernel,by decide +kernel⟩
theorem ok_law {f:Addr}{fd:FuncData}(F:Fun K "law" "law" s_law f fd) (n_all:mg "all"=none) (n_len:mg "len"=none) (n_range:mg "range"=none) (n_str:mg "str"=none) (h__law_any_deed:Has P w K mg base "_law_any_deed" 3 ["_law_pack_here", "_law_names_here"] S11_any) (h__law_due:Has P w K mg base "_law_due" 3 ["_law_text"] S11_due) (h__law_names:Has P w K mg base "_law_names" 2 ["_law_pack_here", "_law_amount"] S__law_names) (h__law_pack:Has P w K mg base "_law_pack" 1 ["_law_cell"] S__law_pack) (h__law_right:Has P w K mg base "_law_right" 7 ["_law_text", "_law_due_here"] S11_right) (h__law_take:Has P w K mg base "_law_take" 1 ["_law_pack_here", "_law_size"] S__law_take) (h__law_turned_text:Has P w K mg base "_law_turned_text" 2 ["_law_pack_here", "_law_text"] S11_turned) (h_show_deed:Has P w K mg base "show_deed" 3 ["deed"] S_show_deed):FnOk P w K mg base CX0 8 f fd ["_law_script"] (spD K 1 S_law):=by
 refine fnD F sc_law fun cdv A outer s H E hr=>?_
 have hu:=hr.units
 refine⟨_,(@pss_cons _ _ _ _ _ (@ps_for _ _ _ _ _ _ _ _ PassesOwn.never rfl (@kIter _ (K) _ _ _ rfl (@pe_op _ _ _ _ _ _ _ _ (@kAddB _ (K) rfl) (@pe_lst _ _ _ _ (@pa_cons _ _ _ _ _ (@pe_int _ _ _ _) (@pa_nil _) (by rfl))) (@pe_slice _ _ _ _ _ _ _ _ _ _ (@kSlB _ (K) rfl) (@pv _ 0 _ _ (by rfl) (by walk_at "lc") (by decide) (by decide)) (@po_none _) (@po_some _ _ _ (@pe_int _ _ _ _))))) (@pg_name _ _ (1) _ sc_law.nd rfl (by walk_at "lc") (by first   | exact .inl rfl   | exact .inr rfl   | assumption)) (@pss_cons _ _ _ _ _ (@ps_set _ _ (2) _ _ _ _ sc_law.nd rfl (by walk_at "lc") (@kCall _ (K) (P) (w) (mg) (base) _ _ _ _ _ _ _ _ _ rfl rfl rfl rfl rfl h__law_pack (hr.mono (by decide)) rfl (@pa_cons _ _ _ _ _ (@pv _ 1 _ _ (by rfl) (by walk_at "lc") (by decide) (by decide)) (@pa_nil _) (by rfl)) (by decide) (by rfl) (by rfl)) (by rfl) (by first   | exact .inl rfl   | exact .inr rfl   | assumption)) (@pss_cons _ _ _ _ _ (@ps_set _ _ (3) _ _ _ _ sc_law.nd rfl (by walk_at "lc") (@kCall _ (K) (P) (w) (mg) (base) _ _ _ _ _ _ _ _ _ rfl rfl rfl rfl rfl h__law_names (hr.mono (by decide)) rfl (@pa_cons _ _ _ _ _ (@pv _ 2 _ _ (by rfl) (by walk_at "lc") (by decide) (by decide)) (@pa_cons _ _ _ _ _ (@pe_int _ _ _ _) (@pa_nil _) (by rfl)) (by rfl)) (by decide) (by rfl) (by rfl)) (by rfl) (by first   | exact .inl rfl   | exact .inr rfl   | assumption)) (@pss_cons _ _ _ _ _ (@ps_if _ _ _ _ _ _ _ _ (@pt_cmpR _ _ _ _ _ _ _ _ (@kEq _ (K) rfl hu) (@kCall _ (K) (P) (w) (mg) (base) _ _ _ _ _ _ _ _ _ rfl rfl rfl rfl rfl h__law_take (hr.mono (by decide)) rfl (@pa_cons _ _ _ _ _ (@pv _ 2 _ _ (by rfl) (by walk_at "lc") (by decide) (by decide)) (@pa_cons _ _ _ _ _ (@pe_int _ _ _ _) (@pa_nil _) (by rfl)) (by rfl)) (by decide) (by rfl) (by rfl)) (@pe_int _ _ _ _) (@nomark _ _ (by decide) (by decide))) (@pss_one _ _ _ (@ps_set _ _ (3) _ _ _ _ sc_law.nd rfl (by walk_at "lc") (@pe_lst _ _ _ _ (@pa_cons _ _ _ _ _ (@pe_str _ _ _ _) (@pa_cons _ _ _ _ _ (@pe_str _ _ _ _) (@pa_cons _ _ _ _ _ (@pe_str _ _ _ _) (@pa_cons _ _ _ _ _ (@pe_str _ _ _ _) (@pa_nil _) (by rfl)) (by rfl)) (by rfl)) (by rfl))) (by rfl) (by first   | exact .inl rfl   | exact .inr rfl   | assumption))) (@pss_nil _)) (@pss_cons _ _ _ _ _ (@ps_set _ _ (4) _ _ _ _ sc_law.nd rfl (by walk_at "lc") (@kCall _ (K) (P) (w) (mg) (base) _ _ _ _ _ _ _ _ _ rfl rfl rfl rfl rfl h__law_any_deed (hr.mono (by decide)) rfl (@pa_cons _ _ _ _ _ (@pv _ 2 _ _ (by rfl) (by walk_at "lc") (by decide) (by decide)) (@pa_cons _ _ _ _ _ (@pv _ 3 _ _ (by rfl) (by walk_at "lc") (by decide) (by decide)) (@pa_nil _) (by rfl)) (by rfl)) (by decide) (by rfl) (by rfl)) (by rfl) (by first   | exact .inl rfl   | exact .inr rfl   | assumption)) (@pss_cons _ _ _ _ _ (@ps_set _ _ (5) _ _ _ _ sc_law.nd rfl (by walk_at "lc") (@kCall _ (K) (P) (w) (mg) (base) _ _ _ _ _ _ _ _ _ rfl rfl rfl rfl rfl h_show_deed (hr.mono (by decide)) rfl (@pa_cons _ _ _ _ _ (@pv _ 4 _ _ (by rfl) (by walk_at "lc") (by decide) (by decide)) (@pa_nil _) (by rfl)) (by decide) (by rfl) (by rfl)) (by rfl) (by first   | exact .inl rfl   | exact .inr rfl   | assumption)) (@pss_cons _ _ _ _ _ (@ps_if _ _ _ _ _ _ _ _ (@L2.PW.pt _ _ _ (@pw_or _ _ _ _ _ _ _ (@pt_cmpR _ _ _ _ _ _ _ _ (@kNe _ (K) rfl hu) (@pv _ 5 _ _ (by rfl) (by walk_at "lc") (by decide) (by decide)) (@kBm _ (K) _ _ _ _ _ _ _ _ _ _ _ rfl PySem.F.plainAttrs_str PySem.F.slot_str_join PySem.F.type_str_join (@kJoin _ (K) rfl) (@pe_str _ _ _ _) (@pa_cons _ _ _ _ _ (@pe_comp _ _ _ _ _ _ _ _ _ _ _ _ _ rfl (@L2.CSc.of _ _ (cc_law_0) (cf_law_0) (defScope s_law) (nm_law) (by decide +kernel) rfl rfl) (@kIter _ (K) _ _ _ rfl (@pv _ 4 _ _ (by rfl) (by walk_at "lc") (by decide) (by decide))) (fun C s' H' ex' pn'=>⟨@pg_name _ _ (0) _ cn_law_0 rfl (by walk_at "lc") (by first   | exact .inl rfl   | exact .inr rfl   | assumption),@pts_nil _,(@pe_callTy _ _ _ _ _ _ _ _ _ (@kStrA _ (K) rfl) (by rfl) n_str PyProof.Rows.boot_str (@pa_cons _ _ _ _ _ (@pv _ 0 _ _ (by rfl) (by walk_at "lc") (by decide) (by decide)) (@pa_nil _) (by rfl)) (by decide) (by decide) (by rfl) (by rfl))⟩) (by intro _;rfl)) (@pa_nil _) (by rfl)) (by rfl) (by rfl) (by rfl) (by rfl) (by rfl)) (@nomark _ _ (by decide) (by decide))) (@pw_or1 _ _ _ _ (@pt_not _ _ _ _ (@pt_val _ _ _ (@kCall _ (K) (P) (w) (mg) (base) _ _ _ _ _ _ _ _ _ rfl rfl rfl rfl rfl h__law_right (hr.mono (by decide)) rfl (@pa_cons _ _ _ _ _ (@pv _ 5 _ _ (by rfl) (by walk_at "lc") (by decide) (by decide)) (@pa_cons _ _ _ _ _ (@pv _ 4 _ _ (by rfl) (by walk_at "lc") (by decide) (by decide)) (@pa_nil _) (by rfl)) (by rfl)) (by decide) (by rfl) (by rfl)) (by intro _;rfl)))))) (@pss_one _ _ _ (@ps_ret _ _ _ _ (@pe_bl _ _ _ _))) (@pss_nil _)) (@pss_one _ _ _ (@ps_for _ _ _ _ _ _ _ _ PassesOwn.never rfl (@pi_range1 _ _ _ _ _ _ rfl n_range (@pa_cons _ _ _ _ _ (@pe_int _ _ _ _) (@pa_nil _) (by rfl)) (by rfl)) (@pg_name _ _ (6) _ sc_law.nd rfl (by walk_at "lc") (by first   | exact .inl rfl   | exact .inr rfl   | assumption)) (@pss_cons _ _ _ _ _ (@ps_set _ _ (7) _ _ _ _ sc_law.nd rfl (by walk_at "lc") (@kCall _ (K) (P) (w) (mg) (base) _ _ _ _ _ _ _ _ _ rfl rfl rfl rfl rfl h__law_turned_text (hr.mono (by decide)) rfl (@pa_cons _ _ _ _ _ (@pv _ 2 _ _ (by rfl) (by walk_at "lc") (by decide) (by decide)) (@pa_cons _ _ _ _ _ (@pv _ 5 _ _ (by rfl) (by walk_at "lc") (by decide) (by decide)) (@pa_nil _) (by rfl)) (by rfl)) (by decide) (by rfl) (by rfl)) (by rfl) (by first   | exact .inl rfl   | exact .inr rfl   | assumption)) (@pss_cons _ _ _ _ _ (@ps_set _ _ (8) _ _ _ _ sc_law.nd rfl (by walk_at "lc") (@pe_callB _ _ _ _ _ _ _ _ _ (@kAll _ (K) rfl rfl) (by rfl) n_all PyProof.Rows.boot_all (@pa_cons _ _ _ _ _ (@pe_comp _ _ _ _ _ _ _ _ _ _ _ _ _ rfl (@L2.CSc.of _ _ (cc_law_1) (cf_law_1) (defScope s_law) (nm_law) (by decide +kernel) rfl rfl) (@kIter _ (K) _ _ _ rfl (@kBm _ (K) _ _ _ _ _ _ _ _ _ _ _ rfl PySem.F.plainAttrs_str PySem.F.slot_str_split PySem.F.type_str_split (@kSplit _ (K) rfl) (@pv _ 7 _ _ (by rfl) (by walk_at "lc") (by decide) (by decide)) (@pa_cons _ _ _ _ _ (@pe_str _ _ _ _) (@pa_nil _) (by rfl)) (by rfl) (by rfl) (by rfl) (by rfl) (by rfl))) (fun C s' H' ex' pn'=>⟨@pg_name _ _ (0) _ cn_law_1 rfl (by walk_at "lc") (by first   | exact .inl rfl   | exact .inr rfl   | assumption),@pts_nil _,(@pe_cmpR _ _ _ _ _ _ _ _ (@op_ltA _) (@pe_callB _ _ _ _ _ _ _ _ _ (@kLen _ (K) rfl) (by rfl) n_len PySem.boot_len (@pa_cons _ _ _ _ _ (@pv _ 0 _ _ (by rfl) (by walk_at "lc") (by decide) (by decide)) (@pa_nil _) (by rfl)) (by decide) (by decide) (by rfl) (by rfl)) (@pe_int _ _ _ _) (@nomark _ _ (by decide) (by decide)))⟩) (by intro _;rfl)) (@pa_nil _) (by rfl)) (by decide) (by decide) (by rfl) (by rfl)) (by rfl) (by first   | exact .inl rfl   | exact .inr rfl   | assumption)) (@pss_one _ _ _ (@ps_if _ _ _ _ _ _ _ _ (@L2.PW.pt _ _ _ (@pw_and _ _ _ _ _ _ _ (@pt_val _ _ _ (@pv _ 8 _ _ (by rfl) (by walk_at "lc") (by decide) (by decide)) (by intro _;rfl)) (@pw_and1 _ _ _ _ (@pt_not _ _ _ _ (@pt_val _ _ _ (@kCall _ (K) (P) (w) (mg) (base) _ _ _ _ _ _ _ _ _ rfl rfl rfl rfl rfl h__law_right (hr.mono (by decide)) rfl (@pa_cons _ _ _ _ _ (@pv _ 7 _ _ (by rfl) (by walk_at "lc") (by decide) (by decide)) (@pa_cons _ _ _ _ _ (@kCall _ (K) (P) (w) (mg) (base) _ _ _ _ _ _ _ _ _ rfl rfl rfl rfl rfl h__law_due (hr.mono (by decide)) rfl (@pa_cons _ _ _ _ _ (@pv _ 7 _ _ (by rfl) (by walk_at "lc") (by decide) (by decide)) (@pa_nil _) (by rfl)) (by decide) (by rfl) (by rfl)) (@pa_nil _) (by rfl)) (by rfl)) (by decide) (by rfl) (by rfl)) (by intro _;rfl)))))) (@pss_one _ _ _ (@ps_ret _ _ _ _ (@pe_bl _ _ _ _))) (@pss_nil _))))) (by intro _;rfl))))))))) (by intro _;rfl)) (@pss_one _ _ _ (@ps_ret _ _ _ _ (@pe_callB _ _ _ _ _ _ _ _ _ (@kAll _ (K) rfl rfl) (by rfl) n_all PyProof.Rows.boot_all (@pa_cons _ _ _ _ _ (@pe_comp _ _ _ _ _ _ _ _ _ _ _ _ _ rfl (@L2.CSc.of _ _ (cc_law_2) (cf_law_2) (defScope s_law) (nm_law) (by decide +kernel) rfl rfl) (@kIter _ (K) _ _ _ rfl (@pe_lst _ _ _ _ (@pa_cons _ _ _ _ _ (@pe_non _ _ _) (@pa_cons _ _ _ _ _ (@pe_int _ _ _ _) (@pa_cons _ _ _ _ _ (@pe_bl _ _ _ _) (@pa_cons _ _ _ _ _ (@pe_tup _ _ _ _ _ (@pa_cons _ _ _ _ _ (@pe_str _ _ _ _) (@pa_cons _ _ _ _ _ (@pe_str _ _ _ _) (@pa_nil _) (by rfl)) (by rfl))) (@pa_cons _ _ _ _ _ (@pe_lst _ _ _ _ (@pa_cons _ _ _ _ _ (@pe_str _ _ _ _) (@pa_nil _) (by rfl))) (@pa_cons _ _ _ _ _ (@pe_str _ _ _ _) (@pa_cons _ _ _ _ _ (@pe_str _ _ _ _) (@pa_nil _) (by rfl)) (by rfl)) (by rfl)) (by rfl)) (by rfl)) (by rfl)) (by rfl)))) (fun C s' H' ex' pn'=>⟨@pg_name _ _ (0) _ cn_law_2 rfl (by walk_at "lc") (by first   | exact .inl rfl   | exact .inr rfl   | assumption),@pts_nil _,(@kCall _ (K) (P) (w) (mg) (base) _ _ _ _ _ _ _ _ _ rfl rfl rfl rfl rfl h__law_right (hr.mono (by decide)) rfl (@pa_cons _ _ _ _ _ (@pv _ 0 _ _ (by rfl) (by walk_at "lc") (by decide) (by decide)) (@pa_cons _ _ _ _ _ (@pe_non _ _ _) (@pa_nil _) (by rfl)) (by rfl)) (by decide) (by rfl) (by rfl))⟩) (by intro _;rfl)) (@pa_nil _) (by rfl)) (by decide) (by decide) (by rfl) (by rfl))))),?_⟩
 rintro xs M hl ⟨ns,rfl,hns,_⟩
 walk_at "dl"
 refine ds_for ?_
 refine diA_list ?_
 walk_at "r"
 refine de_lst ?_
 walk_at "r"
 refine dslB_list ?_
 refine d2B_addl ?_ ?_
 · have:=cut_len (ns.map PyData.int) none (some 10)
   rw[List.length_map] at this
   exact Nat.le_trans (show _≤64 by simp only[List.length_cons,List.length_nil];omega) (by decide)
 walk_at "r"
 refine⟨fun k ρ' M'=>∃a b c d e f g h,ρ'=[some (.d (.list (ns.map .int))),a,b,c,d,e,f,g,h],⟨_,_,_,_,_,_,_,_,rfl⟩,?_,?_⟩
 · rintro k d ρ' M1 hd ⟨a1,b1,c1,d1,e1,f1,g1,h1,rfl⟩
   have hi:∃c:Int,d = .int c:=by
     rcases List.mem_append.mp (List.mem_of_getElem? hd) with h | h
     · exact⟨0,by simpa using h⟩
     · unfold cutD at h
       obtain⟨c,_,rfl⟩:=List.mem_map.mp (List.mem_of_mem_drop (List.mem_of_mem_take h))
       exact⟨c,rfl⟩
   obtain⟨c,rfl⟩:=hi
   walk_at "r"
   refine pack_call fun p o hp ho=>?_
   walk_at "r"
   refine names_call Own.put_same ho (by decide) (by decide) fun ys o1 hyl hy hyb hyn ho1=>?_
   rw[Own.put_put]
   refine ds_cut (fun ρ1 M2=>∃(zs:List Str) (o2:MO),zs.length=4∧goodY zs∧pack1 o2∧M2=M1.put p o2∧ρ1=[some (.d (.list (ns.map .int))),some (.d (.int c)),some (.loc p),some (.d (.list (zs.map .str))),d1,e1,f1,g1,h1]) ?_ ?_
   · walk_at "r"
     refine take_call Own.put_same ho1 (by decide) (by decide) fun v o2 _ _ ho2=>?_
     rw[Own.put_put]
     walk_at "r"
     refine d2_eq rfl rfl ?_
     walk_at "r"
     refine ite2 (fun h=>?_) (fun h=>?_)
     · walk_at "r"
       refine de_lst ?_
       walk_at "r"
       exact⟨names11,o2,rfl,names11_ok,ho2,rfl,rfl⟩
     · walk_at "r"
       exact⟨ys,o2,by omega,⟨hy,hyn⟩,ho2,rfl,rfl⟩
   rintro ρ1 M2 ⟨zs,o2,hz4,hzg,ho2,rfl,rfl⟩
   walk_at "r"
   refine any11_call Own.put_same ho2 (by omega) (by omega) hzg fun D o3 hr hf ho3=>?_
   rw[Own.put_put]
   have hp:=parts_ok hr hf
   have hA:=dS_okA hr hf
   walk_at "r"
   refine fn1_call ⟨D,rfl,hr,hf⟩ ?_
   rw[showD_d]
   walk_at "r"
   refine de_bm ?_
   walk_at "dl"
   refine⟨dty_str,?_⟩
   walk_at "r"
   refine de_comp_pure (go_name 0) (by simp[cf_law_0]) ?_
   refine diA_tup ?_
   walk_at "r"
   refine⟨_,congrArg DS.d (show D.d = .tuple D.list from D.d_eq),Nat.lt_of_le_of_lt (list_len2 D) (by decide),fun _=>true,fun d=>.str (partS d),?_,?_⟩
   · intro d hd M'
     rcases hp d hd with ⟨s,rfl,h1,h2⟩ | ⟨n,rfl,hb⟩
     · walk_at "r"
       refine⟨rfl,?_⟩
       walk_at "dl"
       refine⟨rfl,rfl,fun _=>?_⟩
       walk_at "r"
       refine rd_strT ?_
       exact⟨rfl,rfl⟩
     · walk_at "r"
       refine⟨rfl,?_⟩
       walk_at "dl"
       refine⟨rfl,rfl,fun _=>?_⟩
       walk_at "r"
       refine rd_strN (log_big hb) ?_
       exact⟨rfl,rfl⟩
   rw[List.filter_eq_self.mpr (fun _ _=>rfl),show D.list.map (fun d=>PyData.str (partS d))=(D.list.map partS).map .str by rw[List.map_map];rfl]
   walk_at "r"
   refine dm_join (deed_fits hr hf) ?_
   rw[show Txt.join (Str.ofString " ") (D.list.map partS)=dS D from rfl]
   walk_at "r"
   refine d2_eq (shaped_asc hA.2) (shaped_asc hA.2) ?_
   rw[if_pos rfl,PySem.SeqAt.eqv_refl _ (PySem.SeqAt.canLay_of_shaped (shaped_asc hA.2))]
   walk_at "r"
   refine right11_call (by rw[rd_dS hr hf];rfl) (hA.ok (by decide)) ?_
   walk_at "r"
   refine ds_for ?_
   refine di_rng1 ?_
   walk_at "r"
   refine⟨by decide,by decide,?_⟩
   refine⟨fun i ρ3 M3=>∃(o4:MO) (f2 g2 h2:Option DS),pack1 o4∧M3=M1.put p o4∧ρ3=[some (.d (.list (ns.map .int))),some (.d (.int c)),some (.loc p),some (.d (.list (zs.map .str))),some (.d D.d),some (.d (.str (dS D))),f2,g2,h2],⟨o3,_,_,_,ho3,rfl,rfl⟩,?_,?_⟩
   · rintro i d3 ρ3 M3 hd3 ⟨o4,f2,g2,h2,ho4,rfl,rfl⟩
     walk_at "r"
     refine turned_call Own.put_same ho4 hA.1 hA.2 (by rw[split_dS hr hf,List.length_map];exact list_len2 D) fun z o5 hz ho5=>?_
     rw[Own.put_put]
     have hzw:=split_ok1 (y:=Str.ofString " ") hz
     have hzc:=split_cnt (x:=z) (y:=Str.ofString " ")
     have hz5:z.length≤5000:=hz.1
     walk_at "r"
     refine de_comp_pure (go_name 0) (by simp[cf_law_1]) ?_
     refine diA_list ?_
     refine de_bm ?_
     walk_at "dl"
     refine⟨dty_str,?_⟩
     walk_at "r"
     refine dm_split (by decide +kernel) (Nat.le_trans (Nat.add_le_add_right hz.1 2) (by decide)) ?_
     refine⟨_,rfl,by rw[List.length_map];exact Nat.lt_of_le_of_lt (show _≤5002 by omega) (by decide),fun _=>true,shortW,?_,?_⟩
     · intro d hd M'
       obtain⟨q,hq,rfl⟩:=List.mem_map.mp hd
       walk_at "dl"
       refine⟨rfl,?_⟩
       walk_at "dl"
       refine⟨rfl,rfl,fun _=>?_⟩
       walk_at "r"
       refine rd_lens (Nat.le_trans (hzw q hq).1 (by decide)) ?_
       walk_at "r"
       exact⟨rfl,rfl⟩
     rw[short_list]
     walk_at "r"
     refine rd_all ?_
     walk_at "r"
     cases hsh:((Txt.split z (Str.ofString " ")).map fun q=>decide ((q.length:Int) < 13)).all id with
     | false=>
       walk_at "r"
       exact⟨o5,_,_,_,ho5,rfl,rfl⟩
     | true=>
       have hs13:∀q∈Txt.split z (Str.ofString " "),q.length≤640:=fun q hq=>by
         have:=List.all_eq_true.mp hsh _ (List.mem_map.mpr ⟨q,hq,rfl⟩)
         have h13:(q.length:Int) < 13:=of_decide_eq_true this
         omega
       walk_at "r"
       refine due11_call hz hs13 ?_
       walk_at "r"
       refine right11_call rfl hz ?_
       walk_at "r"
       exact⟨o5,_,_,_,ho5,rfl,rfl⟩
   · rintro ρ3 M3 ⟨o4,f2,g2,h2,ho4,rfl,rfl⟩
     exact⟨_,_,_,_,_,_,_,_,rfl⟩
 · rintro ρ' M1 ⟨a1,b1,c1,d1,e1,f1,g1,h1,rfl⟩
   walk_at "wkd"
   refine de_comp_pure (go_name 0) (by simp[cf_law_2]) ?_
   refine diA_list ?_
   walk_at "wkd"
   refine⟨Nat.le_of_ble_eq_true rfl,fun _=>true,fun _=>.bool true,?_,?_⟩
   · intro d hd M'
     have hno:okD d∧rdD d=none:=by
       simp only[List.mem_cons,List.not_mem_nil,or_false] at hd
       rcases hd with rfl | rfl | rfl | rfl | rfl | rfl | rfl
       · exact⟨trivial,rfl⟩
       · exact⟨trivial,rfl⟩
       · exact⟨trivial,rfl⟩
       · exact⟨trivial,rfl⟩
       · exact⟨trivial,rfl⟩
       · exact⟨⟨by decide +kernel,by decide +kernel⟩,empty_none⟩
       · exact⟨⟨by decide +kernel,by decide +kernel⟩,space_none⟩
     walk_at "dl"
     refine⟨rfl,?_⟩
     walk_at "dl"
     refine⟨rfl,rfl,fun _=>?_⟩
     walk_at "r"
     refine right11_call (by rw[hno.2];rfl) hno.1 ?_
     exact⟨rfl,rfl⟩
   rw[all_same]
   walk_at "r"
   refine rd_all ?_
   rw[all_rep]
   exact⟨_,Own.Sub.refl _,rfl⟩
end
end DL
namespace DL
open PySem PySem.Spec L2 XC
local macro_rules | `(tactic| walk_at "b1")=>`(tactic| exact fun _ _ _ _ _ _ us hl=>match us,hl with | [_],_=>rfl)
local macro_rules | `(tactic| walk_at "b2")=>`(tactic| exact fun _ _ _ _ _ _ us hl=>match us,hl with | [_,_],_=>rfl)
local macro_rules | `(tactic| walk_at "b3")=>`(tactic| exact fun _ _ _ _ _ _ us hl=>match us,hl with | [_,_,_],_=>rfl)
theorem all_mk {l:PySem.W.OpenLaw}{w:World}{K:Frg}{h:Heap}{mg:Str→Option Value}{fa:Addr}{C_S:Addr}{t_FIGURES:Tok}{a_FORMS:Addr}{ep_FORMS:Nat}{tk_FORMS_0 tv_FORMS_0:Tok}{tk_FORMS_1 tv_FORMS_1:Tok}{tk_FORMS_2 tv_FORMS_2:Tok}{tk_FORMS_3 tv_FORMS_3:Tok}{tk_FORMS_4 tv_FORMS_4:Tok}{tk_FORMS_5 tv_FORMS_5:Tok}{tk_FORMS_6 tv_FORMS_6:Tok}{t_GROUP:Tok}{t_LAST_PLACE:Tok}{t_LETTERS:Tok}{t_LONGEST_NAME:Tok}{C_NoText N_NoText:Addr}{nm_NoText q_NoText:Str}{bs_NoText sb_NoText:List Value}{sn_NoText:List Str}{ab_NoText:Bool}{co_NoText:Option Bool}{dd_NoText:Option Addr}{k0_NoText k1_NoText k2_NoText k3_NoText k5_NoText:Option Value}{fc_NoText:Addr}{odc_NoText anc_NoText:Option Addr}{slc_NoText:Array (Option Value)}{occ_NoText kVc_NoText dcc_NoText pmc_NoText cdc_NoText ctc_NoText:Value}{C_NoBook:Addr}{C_NoCall:Addr}{C_NoDeed:Addr}{C_NoJoin:Addr}{C_NoLine:Addr}{C_NoLog:Addr}{C_NoMark:Addr}{C_NoName:Addr}{C_NoNeed:Addr}{C_NoRow:Addr}{C_NoStand:Addr}{C_NotNow:Addr}{nm_S q_S:Str}{N_S:Addr}{bs_S sb_S:List Value}{sn_S:List Str}{ab_S:Bool}{co_S:Option Bool}{dd_S:Option Addr}{k0_S k1_S k2_S k3_S k5_S:Option Value}
   (X:K.In h) (G:h.Ns mainGlobals mg) (hfa:mg "law"=some (.ref fa))
   (b0:FnIn K "is_row_of_figures" s_is_row_of_figures)
   (b1:FnIn K "show_whole" s_show_whole)
   (b2:FnIn K "read_whole" s_read_whole)
   (b3:FnIn K "is_whole" s_is_whole)
   (b4:FnIn K "is_name" s_is_name)
   (b5:FnIn K "is_within" s_is_within)
   (b6:FnIn K "is_place" s_is_place)
   (b7:FnIn K "form_of" s_form_of)
   (b8:FnIn K "fits" s_fits)
   (b9:FnIn K "names_in" s_names_in)
   (b10:FnIn K "is_deed" s_is_deed)
   (b11:FnIn K "show_deed" s_show_deed)
   (b12:FnIn K "read_deed" s_read_deed)
   (b13:FnIn K "_law_pack" s__law_pack)
   (b14:FnIn K "_law_take" s__law_take)
   (b15:FnIn K "_law_names" s__law_names)
   (b16:FnIn K "_law_count" s__law_count)
   (b17:FnIn K "_law_place" s__law_place)
   (b18:FnIn K "_law_any_deed" s__law_any_deed)
   (b19:FnIn K "_law_only" s__law_only)
   (b20:FnIn K "_law_number" s__law_number)
   (b21:FnIn K "_law_part" s__law_part)
   (b22:FnIn K "_law_due" s__law_due)
   (b23:FnIn K "_law_turned_text" s__law_turned_text)
   (b24:FnIn K "_law_right" s__law_right)
   (b25:FnIn K "law" s_law)
   (z_ValueError:PySem.W.nsIn K mainGlobals "ValueError"=some none)
   (z_abs:PySem.W.nsIn K mainGlobals "abs"=some none)
   (z_all:PySem.W.nsIn K mainGlobals "all"=some none)
   (z_bool:PySem.W.nsIn K mainGlobals "bool"=some none)
   (z_divmod:PySem.W.nsIn K mainGlobals "divmod"=some none)
   (z_int:PySem.W.nsIn K mainGlobals "int"=some none)
   (z_isinstance:PySem.W.nsIn K mainGlobals "isinstance"=some none)
   (z_len:PySem.W.nsIn K mainGlobals "len"=some none)
   (z_range:PySem.W.nsIn K mainGlobals "range"=some none)
   (z_reversed:PySem.W.nsIn K mainGlobals "reversed"=some none)
   (z_str:PySem.W.nsIn K mainGlobals "str"=some none)
   (z_tuple:PySem.W.nsIn K mainGlobals "tuple"=some none)
   (z_zip:PySem.W.nsIn K mainGlobals "zip"=some none)
   (y_FIGURES:PySem.W.nsIn K mainGlobals "FIGURES"=some (some (.str "0123456789" t_FIGURES)))
   (y_FORMS:PySem.W.nsIn K mainGlobals "FORMS"=some (some (.ref a_FORMS)))
   (x_FORMS:K.lookup a_FORMS=some { cls:=.type "dict", data:=.dict #[{ hash:=PyData.keyHash w.params (Str.ofString "put"),key:=.str (Str.ofString "put") tk_FORMS_0,val:=.str (Str.ofString "npk") tv_FORMS_0 },{ hash:=PyData.keyHash w.params (Str.ofString "take"),key:=.str (Str.ofString "take") tk_FORMS_1,val:=.str (Str.ofString "n") tv_FORMS_1 },{ hash:=PyData.keyHash w.params (Str.ofString "move"),key:=.str (Str.ofString "move") tk_FORMS_2,val:=.str (Str.ofString "np") tv_FORMS_2 },{ hash:=PyData.keyHash w.params (Str.ofString "count"),key:=.str (Str.ofString "count") tk_FORMS_3,val:=.str (Str.ofString "nk") tv_FORMS_3 },{ hash:=PyData.keyHash w.params (Str.ofString "name"),key:=.str (Str.ofString "name") tk_FORMS_4,val:=.str (Str.ofString "nn") tv_FORMS_4 },{ hash:=PyData.keyHash w.params (Str.ofString "split"),key:=.str (Str.ofString "split") tk_FORMS_5,val:=.str (Str.ofString "nnpk") tv_FORMS_5 },{ hash:=PyData.keyHash w.params (Str.ofString "join"),key:=.str (Str.ofString "join") tk_FORMS_6,val:=.str (Str.ofString "nn") tv_FORMS_6 }] ep_FORMS })
   (s_FORMS:(a_FORMS==sysModules)=false)
   (y_GROUP:PySem.W.nsIn K mainGlobals "GROUP"=some (some (.int 1000000000000000000 t_GROUP)))
   (y_LAST_PLACE:PySem.W.nsIn K mainGlobals "LAST_PLACE"=some (some (.int 999 t_LAST_PLACE)))
   (y_LETTERS:PySem.W.nsIn K mainGlobals "LETTERS"=some (some (.str "abcdefghijklmnopqrstuvwxyz" t_LETTERS)))
   (y_LONGEST_NAME:PySem.W.nsIn K mainGlobals "LONGEST_NAME"=some (some (.int 8 t_LONGEST_NAME)))
   (ac_NoText:PySem.W.nsIn K mainGlobals "NoText"=some (some (.ref C_NoText))) (lc_NoText:K.lookup C_NoText=some (excClassObj nm_NoText q_NoText C_NoText N_NoText bs_NoText (.ref C_S::XC.bmV) true sn_NoText sb_NoText ab_NoText co_NoText dd_NoText k0_NoText k1_NoText k2_NoText k3_NoText k5_NoText "ValueError.__new__")) (kc_NoText:PySem.W.keepIn K (.ref C_NoText)=true)
   (ic_NoText:PySem.W.findIn K (.ref C_NoText) "__init__"=some (some (.ref fc_NoText)))
   (fl_NoText:K.lookup fc_NoText=some ⟨occ_NoText,odc_NoText,.func (PySem.W.fnOf "__init__" "NoText.__init__" (defArgs s_init_NoText) (defBody s_init_NoText) (defScope s_init_NoText) .none kVc_NoText dcc_NoText pmc_NoText anc_NoText cdc_NoText ctc_NoText),slc_NoText⟩)
   (cc_NoText:PySem.W.codeIn K cdc_NoText "NoText.__init__"=true) (if_NoText:PySem.W.isFn K (.ref fc_NoText)=true) (kf_NoText:PySem.W.keepIn K (.ref fc_NoText)=true)
   (sa_NoText:PySem.W.findIn K (.ref C_NoText) "__setattr__"=some (some (.builtin "object.__setattr__"))) (ta_NoText:PySem.W.takerIn K C_NoText "part"=some none)
   (ac_NoBook:PySem.W.nsIn K mainGlobals "NoBook"=some (some (.ref C_NoBook)))
   (ac_NoCall:PySem.W.nsIn K mainGlobals "NoCall"=some (some (.ref C_NoCall)))
   (ac_NoDeed:PySem.W.nsIn K mainGlobals "NoDeed"=some (some (.ref C_NoDeed)))
   (ac_NoJoin:PySem.W.nsIn K mainGlobals "NoJoin"=some (some (.ref C_NoJoin)))
   (ac_NoLine:PySem.W.nsIn K mainGlobals "NoLine"=some (some (.ref C_NoLine)))
   (ac_NoLog:PySem.W.nsIn K mainGlobals "NoLog"=some (some (.ref C_NoLog)))
   (ac_NoMark:PySem.W.nsIn K mainGlobals "NoMark"=some (some (.ref C_NoMark)))
   (ac_NoName:PySem.W.nsIn K mainGlobals "NoName"=some (some (.ref C_NoName)))
   (ac_NoNeed:PySem.W.nsIn K mainGlobals "NoNeed"=some (some (.ref C_NoNeed)))
   (ac_NoRow:PySem.W.nsIn K mainGlobals "NoRow"=some (some (.ref C_NoRow)))
   (ac_NoStand:PySem.W.nsIn K mainGlobals "NoStand"=some (some (.ref C_NoStand)))
   (ac_NotNow:PySem.W.nsIn K mainGlobals "NotNow"=some (some (.ref C_NotNow)))
   (ac_S:PySem.W.nsIn K mainGlobals "StrikeError"=some (some (.ref C_S)))
   (lk_S:K.lookup C_S=some (excClassObj nm_S q_S C_S N_S bs_S XC.bmV true sn_S sb_S ab_S co_S dd_S k0_S k1_S k2_S k3_S k5_S "ValueError.__new__"))
   (o_T:OnlyAt K [C_NoText,C_NoDeed,C_NotNow,C_NoRow,C_NoBook,C_NoLine,C_NoStand,C_NoName,C_NoNeed,C_NoMark,C_NoJoin,C_NoCall,C_NoLog] C_S C_NoText 0)
   (na_T:NoAttr K C_NoText "part") :
   ∃fd:FuncData,(∀(s:Shared) (v:Value),BindsTo s fd ⟨[v],[]⟩ [("_law_script", v)])∧∀base:Heap,K.In base→base.Ns mainGlobals mg→FnOk l.prog w K mg base CX0 8 fa fd ["_law_script"] (spD K 1 S_law):=by
 obtain⟨f0,d0,A0⟩:=b0.at X G
 obtain⟨f1,d1,A1⟩:=b1.at X G
 obtain⟨f2,d2,A2⟩:=b2.at X G
 obtain⟨f3,d3,A3⟩:=b3.at X G
 obtain⟨f4,d4,A4⟩:=b4.at X G
 obtain⟨f5,d5,A5⟩:=b5.at X G
 obtain⟨f6,d6,A6⟩:=b6.at X G
 obtain⟨f7,d7,A7⟩:=b7.at X G
 obtain⟨f8,d8,A8⟩:=b8.at X G
 obtain⟨f9,d9,A9⟩:=b9.at X G
 obtain⟨f10,d10,A10⟩:=b10.at X G
 obtain⟨f11,d11,A11⟩:=b11.at X G
 obtain⟨f12,d12,A12⟩:=b12.at X G
 obtain⟨f13,d13,A13⟩:=b13.at X G
 obtain⟨f14,d14,A14⟩:=b14.at X G
 obtain⟨f15,d15,A15⟩:=b15.at X G
 obtain⟨f16,d16,A16⟩:=b16.at X G
 obtain⟨f17,d17,A17⟩:=b17.at X G
 obtain⟨f18,d18,A18⟩:=b18.at X G
 obtain⟨f19,d19,A19⟩:=b19.at X G
 obtain⟨f20,d20,A20⟩:=b20.at X G
 obtain⟨f21,d21,A21⟩:=b21.at X G
 obtain⟨f22,d22,A22⟩:=b22.at X G
 obtain⟨f23,d23,A23⟩:=b23.at X G
 obtain⟨f24,d24,A24⟩:=b24.at X G
 obtain⟨f25,d25,A25⟩:=b25.at X G
 have e:=hfa.symm.trans A25.mg_
 cases e
 have n_ValueError:=PySem.W.mg_none_of X G z_ValueError
 have n_abs:=PySem.W.mg_none_of X G z_abs
 have n_all:=PySem.W.mg_none_of X G z_all
 have n_bool:=PySem.W.mg_none_of X G z_bool
 have n_divmod:=PySem.W.mg_none_of X G z_divmod
 have n_int:=PySem.W.mg_none_of X G z_int
 have n_isinstance:=PySem.W.mg_none_of X G z_isinstance
 have n_len:=PySem.W.mg_none_of X G z_len
 have n_range:=PySem.W.mg_none_of X G z_range
 have n_reversed:=PySem.W.mg_none_of X G z_reversed
 have n_str:=PySem.W.mg_none_of X G z_str
 have n_tuple:=PySem.W.mg_none_of X G z_tuple
 have n_zip:=PySem.W.mg_none_of X G z_zip
 have g_FIGURES:∃t,mg "FIGURES"=some (.str "0123456789" t):=⟨_,PySem.W.mg_of X G y_FIGURES⟩
 have g_FORMS:∃a,mg "FORMS"=some (.ref a)∧GDict w K a FORMS:=⟨_,PySem.W.mg_of X G y_FORMS,s_FORMS,by decide +kernel,_,_,x_FORMS,rfl,⟨_,rfl⟩,⟨_,rfl⟩,rfl,⟨_,rfl⟩,⟨_,rfl⟩,rfl,⟨_,rfl⟩,⟨_,rfl⟩,rfl,⟨_,rfl⟩,⟨_,rfl⟩,rfl,⟨_,rfl⟩,⟨_,rfl⟩,rfl,⟨_,rfl⟩,⟨_,rfl⟩,rfl,⟨_,rfl⟩,⟨_,rfl⟩,trivial⟩
 have g_GROUP:∃t,mg "GROUP"=some (.int 1000000000000000000 t):=⟨_,PySem.W.mg_of X G y_GROUP⟩
 have g_LAST_PLACE:∃t,mg "LAST_PLACE"=some (.int 999 t):=⟨_,PySem.W.mg_of X G y_LAST_PLACE⟩
 have g_LETTERS:∃t,mg "LETTERS"=some (.str "abcdefghijklmnopqrstuvwxyz" t):=⟨_,PySem.W.mg_of X G y_LETTERS⟩
 have g_LONGEST_NAME:∃t,mg "LONGEST_NAME"=some (.int 8 t):=⟨_,PySem.W.mg_of X G y_LONGEST_NAME⟩
 have xc_NoText:XC.XCls K C_NoText C_S (.ref fc_NoText):=⟨⟨_,_,_,_,_,_,_,_,_,_,_,_,_,_,lc_NoText⟩,ic_NoText,kc_NoText⟩
 have Fc_NoText:=fun_mk (st:=s_init_NoText) fl_NoText cc_NoText kf_NoText
 have q_NoBook:=PySem.W.mg_of X G ac_NoBook
 have q_NoCall:=PySem.W.mg_of X G ac_NoCall
 have q_NoDeed:=PySem.W.mg_of X G ac_NoDeed
 have q_NoJoin:=PySem.W.mg_of X G ac_NoJoin
 have q_NoLine:=PySem.W.mg_of X G ac_NoLine
 have q_NoLog:=PySem.W.mg_of X G ac_NoLog
 have q_NoMark:=PySem.W.mg_of X G ac_NoMark
 have q_NoName:=PySem.W.mg_of X G ac_NoName
 have q_NoNeed:=PySem.W.mg_of X G ac_NoNeed
 have q_NoRow:=PySem.W.mg_of X G ac_NoRow
 have q_NoStand:=PySem.W.mg_of X G ac_NoStand
 have q_NotNow:=PySem.W.mg_of X G ac_NotNow
 have q_NoText:=PySem.W.mg_of X G ac_NoText
 have t_S:=PySem.W.mg_of X G ac_S
 have u_S:XC.XTop K C_S:=⟨⟨_,_,_,_,_,_,_,_,_,_,_,_,_,_,lk_S⟩⟩
 refine⟨d25,fun s v=>?_,fun base _ _=>?_⟩
 · obtain⟨oc,od,kV,doc,pm,an,cdv,ct,osl,e,_,_⟩:=A25.fn.ex
   subst e
   exact .of_eq rfl
 have r_NoText:HasR l.prog w K mg base "NoText" "part" C_NoText C_S:=⟨fc_NoText,_,["self", "part"],xc_NoText,if_NoText,init_NoText Fc_NoText xc_NoText ⟨sa_NoText,ta_NoText⟩,Fc_NoText.binds (ps:=["self", "part"]) fun _ _ _ _ _ _ us hl=>match us,hl with | [_,_],_=>rfl,PySem.W.mg_of X G ac_NoText⟩
 have m_T:=XC.xm_top xc_NoText u_S
 have h_is_row_of_figures:Has l.prog w K mg base "is_row_of_figures" 1 ["text"] G_is_row_of_figures:=A0.has (ok_is_row_of_figures A0.fn n_all n_len g_FIGURES) (by walk_at "b1")
 have h_show_whole0:Has l.prog w K mg base "show_whole" 1 ["number"] S_show_whole0:=A1.has (ok_show_whole0 A1.fn n_reversed n_str g_GROUP) (by walk_at "b1")
 have h_show_whole:Has l.prog w K mg base "show_whole" 2 ["number"] S_show_whole:=A1.has (ok_show_whole A1.fn n_reversed n_str g_GROUP h_show_whole0) (by walk_at "b1")
 have h_read_whole:Has l.prog w K mg base "read_whole" 2 ["text"] G_read_whole:=A2.has (ok_read_whole A2.fn g_FIGURES h_is_row_of_figures) (by walk_at "b1")
 have h_is_whole:Has l.prog w K mg base "is_whole" 1 ["thing"] S_is_whole:=A3.has (ok_is_whole A3.fn n_bool n_int n_isinstance) (by walk_at "b1")
 have h_is_name:Has l.prog w K mg base "is_name" 1 ["thing"] S_is_name:=A4.has (ok_is_name A4.fn n_all n_isinstance n_len n_str g_LETTERS g_LONGEST_NAME) (by walk_at "b1")
 have h_is_within:Has l.prog w K mg base "is_within" 2 ["thing", "low", "high"] S_is_within:=A5.has (ok_is_within A5.fn h_is_whole) (by walk_at "b3")
 have h_is_place:Has l.prog w K mg base "is_place" 3 ["thing"] S_is_place:=A6.has (ok_is_place A6.fn g_LAST_PLACE h_is_within) (by walk_at "b1")
 have h_form_of:Has l.prog w K mg base "form_of" 1 ["word"] S_form_of:=A7.has (ok_form_of A7.fn n_isinstance n_str g_FORMS) (by walk_at "b1")
 have h_fits:Has l.prog w K mg base "fits" 4 ["sign", "part"] S_fits:=A8.has (ok_fits A8.fn h_is_name h_is_place h_is_whole) (by walk_at "b2")
 have h_names_in:Has l.prog w K mg base "names_in" 2 ["deed"] S_names_in:=A9.has (ok_names_in A9.fn h_form_of) (by walk_at "b1")
 have h_is_deed:Has l.prog w K mg base "is_deed" 5 ["thing"] S_is_deed:=A10.has (ok_is_deed A10.fn n_all n_isinstance n_len n_tuple n_zip h_fits h_form_of h_names_in) (by walk_at "b1")
 have h_show_deed:Has l.prog w K mg base "show_deed" 3 ["deed"] S_show_deed:=A11.has (ok_show_deed A11.fn n_isinstance n_str h_show_whole) (by walk_at "b1")
 have h_read_deed:HasX l.prog w K mg base "read_deed" 6 ["text"] (G_read_deed C_NoText):=A12.hasX (ok_read_deed A12.fn n_isinstance n_len n_str n_tuple n_zip r_NoText h_form_of h_is_deed h_read_whole) (by walk_at "b1")
 have h__law_pack:Has l.prog w K mg base "_law_pack" 1 ["_law_cell"] S__law_pack:=A13.has (ok__law_pack A13.fn n_abs) (by walk_at "b1")
 have h__law_take:Has l.prog w K mg base "_law_take" 1 ["_law_pack_here", "_law_size"] S__law_take:=A14.has (ok__law_take A14.fn n_divmod n_range) (by walk_at "b2")
 have h__law_names:Has l.prog w K mg base "_law_names" 2 ["_law_pack_here", "_law_amount"] S__law_names:=A15.has (ok__law_names A15.fn n_range h__law_take) (by walk_at "b2")
 have h__law_count:Has l.prog w K mg base "_law_count" 2 ["_law_pack_here"] S11_count:=A16.has (ok__law_count A16.fn h__law_take) (by walk_at "b1")
 have h__law_place:Has l.prog w K mg base "_law_place" 2 ["_law_pack_here"] S__law_place:=A17.has (ok__law_place A17.fn h__law_take) (by walk_at "b1")
 have h__law_any_deed:Has l.prog w K mg base "_law_any_deed" 3 ["_law_pack_here", "_law_names_here"] S11_any:=A18.has (ok__law_any_deed A18.fn n_len h__law_count h__law_place h__law_take) (by walk_at "b2")
 have h__law_only:Has l.prog w K mg base "_law_only" 1 ["_law_e", "_law_at"] (S9_only K [C_NoText,C_NoDeed,C_NotNow,C_NoRow,C_NoBook,C_NoLine,C_NoStand,C_NoName,C_NoNeed,C_NoMark,C_NoJoin,C_NoCall,C_NoLog] C_S):=A19.has (ok__law_only A19.fn n_ValueError n_isinstance n_range q_NoBook q_NoCall q_NoDeed q_NoJoin q_NoLine q_NoLog q_NoMark q_NoName q_NoNeed q_NoRow q_NoStand q_NoText q_NotNow t_S) (by walk_at "b2")
 have h__law_number:Has l.prog w K mg base "_law_number" 1 ["_law_word"] S11_number:=A20.has (ok__law_number A20.fn n_all n_int) (by walk_at "b1")
 have h__law_part:Has l.prog w K mg base "_law_part" 2 ["_law_word", "_law_sort"] S11_part:=A21.has (ok__law_part A21.fn n_all n_len h__law_number) (by walk_at "b2")
 have h__law_due:Has l.prog w K mg base "_law_due" 3 ["_law_text"] S11_due:=A22.has (ok__law_due A22.fn n_len n_range n_tuple h__law_part) (by walk_at "b1")
 have h__law_turned_text:Has l.prog w K mg base "_law_turned_text" 2 ["_law_pack_here", "_law_text"] S11_turned:=A23.has (ok__law_turned_text A23.fn n_len h__law_take) (by walk_at "b2")
 have h__law_right:Has l.prog w K mg base "_law_right" 7 ["_law_text", "_law_due_here"] S11_right:=A24.has (ok__law_right A24.fn n_isinstance n_tuple t_S u_S m_T o_T na_T h_read_deed h__law_only) (by walk_at "b2")
 exact ok_law A25.fn n_all n_len n_range n_str h__law_any_deed h__law_due h__law_names h__law_pack h__law_right h__law_take h__law_turned_text h_show_deed
theorem law_sp {K:Frg}{H:Hp}{a:Addr}{ns:List Int}(hl:ns.length≤63) (hb:∀i∈ns,Builtin.Int.intBits i≤2 ^ 20) (hS:SqL K H a (ns.map V.int)):spD K 1 S_law [.ref a] H (fun v _=>v = .bl true) fun _ _ _=>False:=by
 refine⟨[.d (.list (ns.map .int))],fun _=>none,rfl,(fun a o e=>nomatch e),⟨.ref a,[],rfl,?_,rfl⟩,⟨ns,rfl,hl,hb⟩,fun x M' v H' post st oa si=>?_⟩
 · unfold SI DV
   refine⟨a,ns.map V.int,rfl,?_,dvs_of_ints⟩
   rcases hS with h | h
   · exact .inl ⟨fun w=>w rfl,h⟩
   · exact .inr h
 · have e:x = .d (.bool true):=post
   subst e
   exact si_bl si
theorem walk {l:PySem.W.OpenLaw}{q:Program}{loose:List Str}{XP:(Str→Option Value)→Heap→Prop}{YP:World→Heap→Prop}{d:DefRec}{K:Params→Frg}(hn:l.most=some 63) (hdf:d.params.defaults=[])
   (hY:∀(w:World) (h:Heap),YP w h→(K w.params).In h)
   (F:∀(w:World) (mg:Str→Option Value) (fa:Addr) (h:Heap),(K w.params).In h→h.Ns mainGlobals mg→mg d.name=some (.ref fa) →
     ∃fd:FuncData,(∀(s:Shared) (u:Value),BindsTo s fd ⟨[u],[]⟩ [("_law_script", u)])∧∀base:Heap,(K w.params).In base→base.Ns mainGlobals mg→FnOk l.prog w (K w.params) mg base CX0 8 fa fd ["_law_script"] (spD (K w.params) 1 S_law)) :
   PySem.W.WalkO q loose XP YP l.row.toRowW d [] (fun f vs=>PySem.call f vs):=
 L2.walk_ofB (n:=63) (k:=8) (x:= "_law_script") (CX:=fun _=>CX0) (sp:=fun w=>spD (K w.params) 1 S_law) hn (by decide) hdf ⟨rfl,by decide,by decide⟩ hY F (fun _ _ a ns hl hb _ hS=>law_sp hl hb hS) fun _ _ _ _ _ z=>z
abbrev vS (x:String) (t:Tok):Value:=.str (Str.ofString x) t
abbrev eS (P:Params) (x:String) (t:Tok) (v:Value):DictEntry:=⟨PyData.keyHash P (Str.ofString x),.str (Str.ofString x) t,v⟩
abbrev hs (i:Nat):Stmt:=PySem.Challenge.pw_struckdeeds_k11_texts_of_deeds.main.body.getD i (.Pass ⟨0,0,0,0⟩)
abbrev fO (n q:String) (st:Stmt) (doc pm:Value) (c:Nat):Obj:=⟨.type "function", none,.func (PySem.W.fnOf (Str.ofString n) (Str.ofString q) (defArgs st) (defBody st) (defScope st) .none .none doc pm none (.ref c) .none),#[]⟩
abbrev gO (n q:String) (st:Stmt):Obj:=⟨.none,none,.func (.mk (Str.ofString n) (Str.ofString q) (defArgs st) (.stmts (defBody st)) (defScope st) 0 [] .none .none .none .none none .none .none 0),#[]⟩
abbrev tO (vs:Array Value):Obj:=⟨.type "tuple", none,.seq vs 0,#[]⟩
abbrev kO (n q:String) (a b c:Tok) (l k f:Nat) (x1:Value) (t:Nat) (x2 x3 x4 x5:Value) (u l2:Nat) (d:Tok):Obj:=⟨.type "code", none,.fields #[vS n a,vS q b,vS "/claim/cut.py" c,.int l 0,.int k 0,.int 0 0,.int 0 0,.int f 0,x1,.bool true,.int t 0,x2,.none,x3,x4,x5,.int u 0,.int l2 0,vS "/claim/cut.py" d],#[]⟩
def hV:Program:={ PySem.Challenge.pw_struckdeeds_k11_texts_of_deeds with main:={ PySem.Challenge.pw_struckdeeds_k11_texts_of_deeds.main with body:=([1,2,3,4,5,6,7,9,10,11,12,13,15,16,17,18,19,20,21,22,23,24,25,26,27,28,30,31,32,33,34,35,37,38,40,41,42,43,44,45,46,47,48,49,50,51,52]:List Nat).map hs } }
abbrev hB:List Stmt:=PySem.W.behindTheImports PySem.Challenge.pw_struckdeeds_k11_texts_of_deeds
def hN:Env:={ scope:=PySem.Challenge.pw_struckdeeds_k11_texts_of_deeds.main.scope,locals:=mainNs,globals:=mainNs,cells:=[],code:=PySem.Value.ref 13,frame:=some 14 }
abbrev hC:Code:=.body hB hN
abbrev hF:List Frame:=[PySem.W.topFrame { line:=0,col:=0,endLine:=0,endCol:=0 }]
abbrev hI (t:PySem.W.BT) (l:List (Nat×Obj)):PySem.W.BT:=l.foldl (fun t x=>t.ins x.1 x.2) t
noncomputable def hT0:Params→PySem.W.BT:=fun P=>hI .nil [(0,PySem.W.boot_o_0 P),(1,PySem.W.boot_o_1 P),(2,PySem.W.boot_o_2 P),(3,PySem.W.boot_o_3 P),(4,PySem.W.boot_o_4 P),(5,PySem.W.boot_o_5 P),(6,PySem.W.boot_o_6 P),(7,PySem.W.boot_o_7 P),(8,PySem.W.boot_o_8 P),(9,PySem.W.boot_o_9 P),(10,PySem.W.boot_o_10 P)]
noncomputable def hT1:Params→PySem.W.BT:=fun P=>hI (hT0 P) (
 (11,tO #[]) ::
 (12,(⟨.none,none,(.fields #[]),#[]⟩:Obj)) ::
 (13,(⟨(.type "code"),none,(.fields #[(vS "<module>" 182),(vS "<module>" 183),(vS "/claim/cut.py" 184),(.int 1 0),(.int 0 0),(.int 0 0),(.int 0 0),(.int 0 0),(.ref 11),(.bool false),(.int 181 0),(.ref 12),.none,.none,.none,.none,(.int 185 0),(.int 1 0),(vS "/claim/cut.py" 186)]),#[]⟩:Obj)) ::
 (14,(⟨(.type "frame"),none,.plain,#[(some (.ref 13)),(some (.ref 3)),(some (.ref 3)),none,(some (vS "__main__" 164)),none,(some (.ref 0))]⟩:Obj))::[])
noncomputable abbrev hX1 (w:World) (os:OsState):PySem.W.SharedT:=⟨hT1 w.params,15,{ },⟨[]⟩,{ },187,os⟩
noncomputable abbrev hX2 (w:World) (os:OsState):PySem.W.SharedT:=⟨hT1 w.params,15,{ },⟨[]⟩,{ },187,os⟩
def hD3:Params→List DictEntry:=fun P=>[eS P "__name__" 165 (vS "struckdeeds.errors" 276),eS P "__doc__" 166 .none,eS P "__package__" 167 .none,eS P "__loader__" 168 (.builtin "__main__.__loader__#opaque"),eS P "__spec__" 169 .none,eS P "__annotations__" 170 (.ref 6),eS P "__builtins__" 171 (.ref 4),eS P "__file__" 173 (vS "/claim/cut.py" 172),eS P "__cached__" 174 .none,eS P "LETTERS" 190 (vS "abcdefghijklmnopqrstuvwxyz" 189),eS P "LONGEST_NAME" 192 (.int 8 191),eS P "LAST_PLACE" 194 (.int 999 193),eS P "is_whole" 201 (.ref 21),eS P "is_name" 207 (.ref 26),eS P "is_within" 216 (.ref 33),eS P "is_place" 223 (.ref 40),eS P "FORMS" 247 (.ref 41),eS P "form_of" 254 (.ref 48),eS P "is_deed" 260 (.ref 53),eS P "fits" 268 (.ref 60),eS P "names_in" 275 (.ref 67),eS P "StrikeError" 295 (.ref 77),eS P "NoText" 320 (.ref 97),eS P "NoDeed" 336 (.ref 109),eS P "NotNow" 361 (.ref 128)]
noncomputable def hT3:Params→PySem.W.BT:=fun P=>hI (hT1 P) (
 (3,(⟨.type "dict", none,.dict (hD3 P).toArray 25,#[]⟩:Obj)) ::
 (12,(⟨.none,none,(.fields #[(.int 5 0),(.int 0 0),(.ref 20),(.int 7 0),(.int 0 0),(.ref 25),(.int 11 0),(.int 0 0),(.ref 32),(.int 13 0),(.int 0 0),(.ref 39),(.int 17 0),(.int 0 0),(.ref 47),(.int 19 0),(.int 0 0),(.ref 52),(.int 29 0),(.int 0 0),(.ref 59),(.int 35 0),(.int 0 0),(.ref 66),(.int 38 0),(.int 0 0),(.ref 73),(.int 40 0),(.int 0 0),(.ref 86),(.int 44 0),(.int 0 0),(.ref 105),(.int 46 0),(.int 0 0),(.ref 117)]),#[]⟩:Obj)) ::
 (15,tO #[]) ::
 (16,(⟨.none,none,(.fields #[]),#[]⟩:Obj)) ::
 (17,tO #[(vS "thing" 198)]) ::
 (18,tO #[]) ::
 (19,gO "is_whole" "is_whole" (hs 4)) ::
 (20,kO "is_whole" "is_whole" 195 196 197 5 1 3 (.ref 15) 181 (.ref 16) (.ref 17) (.ref 18) (.ref 19) 199 5 200) ::
 (21,fO "is_whole" "is_whole" (hs 4) .none (vS "struckdeeds.words" 187) 20) ::
 (22,tO #[]) ::
 (23,(⟨.none,none,(.fields #[]),#[]⟩:Obj)) ::
 (24,gO "is_name" "is_name" (hs 5)) ::
 (25,kO "is_name" "is_name" 202 203 204 7 1 3 (.ref 22) 181 (.ref 23) .none .none (.ref 24) 205 7 206) ::
 (26,fO "is_name" "is_name" (hs 5) .none (vS "struckdeeds.words" 187) 25) ::
 (27,tO #[]) ::
 (28,(⟨.none,none,(.fields #[]),#[]⟩:Obj)) ::
 (29,tO #[(vS "thing" 211),(vS "low" 212),(vS "high" 213)]) ::
 (30,tO #[]) ::
 (31,gO "is_within" "is_within" (hs 6)) ::
 (32,kO "is_within" "is_within" 208 209 210 11 3 3 (.ref 27) 181 (.ref 28) (.ref 29) (.ref 30) (.ref 31) 214 11 215) ::
 (33,fO "is_within" "is_within" (hs 6) .none (vS "struckdeeds.words" 187) 32) ::
 (34,tO #[]) ::
 (35,(⟨.none,none,(.fields #[]),#[]⟩:Obj)) ::
 (36,tO #[(vS "thing" 220)]) ::
 (37,tO #[]) ::
 (38,gO "is_place" "is_place" (hs 7)) ::
 (39,kO "is_place" "is_place" 217 218 219 13 1 3 (.ref 34) 181 (.ref 35) (.ref 36) (.ref 37) (.ref 38) 221 13 222) ::
 (40,fO "is_place" "is_place" (hs 7) .none (vS "struckdeeds.words" 187) 39) ::
 (41,(⟨(.type "dict"),none,(.dict #[eS P "put" 226 (vS "npk" 227),eS P "take" 228 (vS "n" 229),eS P "move" 230 (vS "np" 231),eS P "count" 232 (vS "nk" 233),eS P "name" 234 (vS "nn" 235),eS P "split" 236 (vS "nnpk" 237),eS P "join" 238 (vS "nn" 239)] 7),#[]⟩:Obj)) ::
 (42,tO #[]) ::
 (43,(⟨.none,none,(.fields #[]),#[]⟩:Obj)) ::
 (44,tO #[(vS "word" 251)]) ::
 (45,tO #[]) ::
 (46,gO "form_of" "form_of" (hs 10)) ::
 (47,kO "form_of" "form_of" 248 249 250 17 1 3 (.ref 42) 181 (.ref 43) (.ref 44) (.ref 45) (.ref 46) 252 17 253) ::
 (48,fO "form_of" "form_of" (hs 10) .none (vS "struckdeeds.deeds" 224) 47) ::
 (49,tO #[]) ::
 (50,(⟨.none,none,(.fields #[]),#[]⟩:Obj)) ::
 (51,gO "is_deed" "is_deed" (hs 11)) ::
 (52,kO "is_deed" "is_deed" 255 256 257 19 1 3 (.ref 49) 181 (.ref 50) .none .none (.ref 51) 258 19 259) ::
 (53,fO "is_deed" "is_deed" (hs 11) .none (vS "struckdeeds.deeds" 224) 52) ::
 (54,tO #[]) ::
 (55,(⟨.none,none,(.fields #[]),#[]⟩:Obj)) ::
 (56,tO #[(vS "sign" 264),(vS "part" 265)]) ::
 (57,tO #[]) ::
 (58,gO "fits" "fits" (hs 12)) ::
 (59,kO "fits" "fits" 261 262 263 29 2 3 (.ref 54) 181 (.ref 55) (.ref 56) (.ref 57) (.ref 58) 266 29 267) ::
 (60,fO "fits" "fits" (hs 12) .none (vS "struckdeeds.deeds" 224) 59) ::
 (61,tO #[]) ::
 (62,(⟨.none,none,(.fields #[]),#[]⟩:Obj)) ::
 (63,tO #[(vS "deed" 272)]) ::
 (64,tO #[]) ::
 (65,gO "names_in" "names_in" (hs 13)) ::
 (66,kO "names_in" "names_in" 269 270 271 35 1 3 (.ref 61) 181 (.ref 62) (.ref 63) (.ref 64) (.ref 65) 273 35 274) ::
 (67,fO "names_in" "names_in" (hs 13) .none (vS "struckdeeds.deeds" 224) 66) ::
 (68,tO #[(.type "ValueError")]) ::
 (69,(⟨(.type "builtin_function_or_method"),none,(.fields #[(.builtin "type.__prepare__"),(.type "type")]),#[]⟩:Obj)) ::
 (70,(⟨(.type "dict"),none,(.dict #[eS P "__module__" 285 (vS "struckdeeds.errors" 276),eS P "__qualname__" 287 (vS "StrikeError" 286),eS P "__firstlineno__" 289 (.int 38 288),eS P "__static_attributes__" 290 (.ref 75)] 4),#[]⟩:Obj)) ::
 (71,tO #[]) ::
 (72,(⟨.none,none,(.fields #[]),#[]⟩:Obj)) ::
 (73,(⟨(.type "code"),none,(.fields #[(vS "StrikeError" 280),(vS "StrikeError" 281),(vS "/claim/cut.py" 282),(.int 38 0),(.int 0 0),(.int 0 0),(.int 0 0),(.int 0 0),(.ref 71),(.bool false),(.int 181 0),(.ref 72),.none,.none,.none,.none,(.int 283 0),(.int 38 0),(vS "/claim/cut.py" 284)]),#[]⟩:Obj)) ::
 (74,(⟨(.type "frame"),none,.plain,#[(some (.ref 73)),(some (.ref 3)),(some (.ref 70)),none,(some (vS "struckdeeds.errors" 276)),none,(some (.ref 0))]⟩:Obj)) ::
 (75,tO #[]) ::
 (76,(⟨(.type "dict"),none,(.dict #[eS P "__module__" 285 (vS "struckdeeds.errors" 276),eS P "__firstlineno__" 289 (.int 38 288),eS P "__static_attributes__" 290 (.ref 75),eS P "__weakref__" 292 (.ref 78),eS P "__doc__" 293 .none] 3),#[]⟩:Obj)) ::
 (77,(⟨(.type "type"),none,(.cls (.mk "StrikeError" [(.type "ValueError")] [(.ref 77),(.type "ValueError"),(.type "Exception"),(.type "BaseException"),(.type "object")] 76 "StrikeError" true [] [(.ref 97),(.ref 109),(.ref 128)] false none false)),#[(some (.ref 68)),none,(some (vS "StrikeError" 278)),(some (vS "StrikeError" 286)),(some (.builtin "ValueError.__new__")),(some (.bool true))]⟩:Obj)) ::
 (78,(⟨(.type "getset_descriptor"),none,(.fields #[(vS "__weakref__" 291),(.ref 77),(.builtin "ExceptionGroup.__weakref__"),.none]),#[]⟩:Obj)) ::
 (79,(⟨(.type "super"),none,(.fields #[(.ref 77),(.ref 77),(.ref 77)]),#[]⟩:Obj)) ::
 (80,(⟨(.type "builtin_function_or_method"),none,(.fields #[(.builtin "object.__init_subclass__"),(.ref 77)]),#[]⟩:Obj)) ::
 (81,tO #[(.ref 77)]) ::
 (82,(⟨(.type "builtin_function_or_method"),none,(.fields #[(.builtin "type.__prepare__"),(.type "type")]),#[]⟩:Obj)) ::
 (83,(⟨(.type "dict"),none,(.dict #[eS P "__module__" 303 (vS "struckdeeds.errors" 276),eS P "__qualname__" 305 (vS "NoText" 304),eS P "__firstlineno__" 307 (.int 40 306),eS P "__init__" 315 (.ref 94),eS P "__static_attributes__" 317 (.ref 95)] 5),#[]⟩:Obj)) ::
 (84,tO #[]) ::
 (85,(⟨.none,none,(.fields #[(.int 42 0),(.int 4 0),(.ref 93)]),#[]⟩:Obj)) ::
 (86,(⟨(.type "code"),none,(.fields #[(vS "NoText" 298),(vS "NoText" 299),(vS "/claim/cut.py" 300),(.int 40 0),(.int 0 0),(.int 0 0),(.int 0 0),(.int 0 0),(.ref 84),(.bool false),(.int 181 0),(.ref 85),.none,.none,.none,.none,(.int 301 0),(.int 40 0),(vS "/claim/cut.py" 302)]),#[]⟩:Obj)) ::
 (87,(⟨(.type "frame"),none,.plain,#[(some (.ref 86)),(some (.ref 3)),(some (.ref 83)),none,(some (vS "struckdeeds.errors" 276)),none,(some (.ref 0))]⟩:Obj)) ::
 (88,tO #[]) ::
 (89,(⟨.none,none,(.fields #[]),#[]⟩:Obj)) ::
 (90,tO #[(vS "self" 311),(vS "part" 312)]) ::
 (91,tO #[]) ::
 (92,gO "__init__" "NoText.__init__" (inCls 0 (hs 16))) ::
 (93,kO "__init__" "NoText.__init__" 308 309 310 42 2 3 (.ref 88) 181 (.ref 89) (.ref 90) (.ref 91) (.ref 92) 313 42 314) ::
 (94,fO "__init__" "NoText.__init__" (inCls 0 (hs 16)) .none (vS "struckdeeds.errors" 276) 93) ::
 (95,tO #[(vS "part" 316)]) ::
 (96,(⟨(.type "dict"),none,(.dict #[eS P "__module__" 303 (vS "struckdeeds.errors" 276),eS P "__firstlineno__" 307 (.int 40 306),eS P "__init__" 315 (.ref 94),eS P "__static_attributes__" 317 (.ref 95),eS P "__doc__" 318 .none] 2),#[]⟩:Obj)) ::
 (97,(⟨(.type "type"),none,(.cls (.mk "NoText" [(.ref 77)] [(.ref 97),(.ref 77),(.type "ValueError"),(.type "Exception"),(.type "BaseException"),(.type "object")] 96 "NoText" true [] [] false none false)),#[(some (.ref 81)),none,(some (vS "NoText" 296)),(some (vS "NoText" 304)),(some (.builtin "ValueError.__new__")),(some (.bool true))]⟩:Obj)) ::
 (98,(⟨(.type "super"),none,(.fields #[(.ref 97),(.ref 97),(.ref 97)]),#[]⟩:Obj)) ::
 (99,(⟨(.type "builtin_function_or_method"),none,(.fields #[(.builtin "object.__init_subclass__"),(.ref 97)]),#[]⟩:Obj)) ::
 (100,tO #[(.ref 77)]) ::
 (101,(⟨(.type "builtin_function_or_method"),none,(.fields #[(.builtin "type.__prepare__"),(.type "type")]),#[]⟩:Obj)) ::
 (102,(⟨(.type "dict"),none,(.dict #[eS P "__module__" 328 (vS "struckdeeds.errors" 276),eS P "__qualname__" 330 (vS "NoDeed" 329),eS P "__firstlineno__" 332 (.int 44 331),eS P "__static_attributes__" 333 (.ref 107)] 4),#[]⟩:Obj)) ::
 (103,tO #[]) ::
 (104,(⟨.none,none,(.fields #[]),#[]⟩:Obj)) ::
 (105,(⟨(.type "code"),none,(.fields #[(vS "NoDeed" 323),(vS "NoDeed" 324),(vS "/claim/cut.py" 325),(.int 44 0),(.int 0 0),(.int 0 0),(.int 0 0),(.int 0 0),(.ref 103),(.bool false),(.int 181 0),(.ref 104),.none,.none,.none,.none,(.int 326 0),(.int 44 0),(vS "/claim/cut.py" 327)]),#[]⟩:Obj)) ::
 (106,(⟨(.type "frame"),none,.plain,#[(some (.ref 105)),(some (.ref 3)),(some (.ref 102)),none,(some (vS "struckdeeds.errors" 276)),none,(some (.ref 0))]⟩:Obj)) ::
 (107,tO #[]) ::
 (108,(⟨(.type "dict"),none,(.dict #[eS P "__module__" 328 (vS "struckdeeds.errors" 276),eS P "__firstlineno__" 332 (.int 44 331),eS P "__static_attributes__" 333 (.ref 107),eS P "__doc__" 334 .none] 2),#[]⟩:Obj)) ::
 (109,(⟨(.type "type"),none,(.cls (.mk "NoDeed" [(.ref 77)] [(.ref 109),(.ref 77),(.type "ValueError"),(.type "Exception"),(.type "BaseException"),(.type "object")] 108 "NoDeed" true [] [] false none false)),#[(some (.ref 100)),none,(some (vS "NoDeed" 321)),(some (vS "NoDeed" 329)),(some (.builtin "ValueError.__new__")),(some (.bool true))]⟩:Obj)) ::
 (110,(⟨(.type "super"),none,(.fields #[(.ref 109),(.ref 109),(.ref 109)]),#[]⟩:Obj)) ::
 (111,(⟨(.type "builtin_function_or_method"),none,(.fields #[(.builtin "object.__init_subclass__"),(.ref 109)]),#[]⟩:Obj)) ::
 (112,tO #[(.ref 77)]) ::
 (113,(⟨(.type "builtin_function_or_method"),none,(.fields #[(.builtin "type.__prepare__"),(.type "type")]),#[]⟩:Obj)) ::
 (114,(⟨(.type "dict"),none,(.dict #[eS P "__module__" 344 (vS "struckdeeds.errors" 276),eS P "__qualname__" 346 (vS "NotNow" 345),eS P "__firstlineno__" 348 (.int 46 347),eS P "__init__" 356 (.ref 125),eS P "__static_attributes__" 358 (.ref 126)] 5),#[]⟩:Obj)) ::
 (115,tO #[]) ::
 (116,(⟨.none,none,(.fields #[(.int 48 0),(.int 4 0),(.ref 124)]),#[]⟩:Obj)) ::
 (117,(⟨(.type "code"),none,(.fields #[(vS "NotNow" 339),(vS "NotNow" 340),(vS "/claim/cut.py" 341),(.int 46 0),(.int 0 0),(.int 0 0),(.int 0 0),(.int 0 0),(.ref 115),(.bool false),(.int 181 0),(.ref 116),.none,.none,.none,.none,(.int 342 0),(.int 46 0),(vS "/claim/cut.py" 343)]),#[]⟩:Obj)) ::
 (118,(⟨(.type "frame"),none,.plain,#[(some (.ref 117)),(some (.ref 3)),(some (.ref 114)),none,(some (vS "struckdeeds.errors" 276)),none,(some (.ref 0))]⟩:Obj)) ::
 (119,tO #[]) ::
 (120,(⟨.none,none,(.fields #[]),#[]⟩:Obj)) ::
 (121,tO #[(vS "self" 352),(vS "name" 353)]) ::
 (122,tO #[]) ::
 (123,gO "__init__" "NotNow.__init__" (inCls 0 (hs 18))) ::
 (124,kO "__init__" "NotNow.__init__" 349 350 351 48 2 3 (.ref 119) 181 (.ref 120) (.ref 121) (.ref 122) (.ref 123) 354 48 355) ::
 (125,fO "__init__" "NotNow.__init__" (inCls 0 (hs 18)) .none (vS "struckdeeds.errors" 276) 124) ::
 (126,tO #[(vS "name" 357)]) ::
 (127,(⟨(.type "dict"),none,(.dict #[eS P "__module__" 344 (vS "struckdeeds.errors" 276),eS P "__firstlineno__" 348 (.int 46 347),eS P "__init__" 356 (.ref 125),eS P "__static_attributes__" 358 (.ref 126),eS P "__doc__" 359 .none] 2),#[]⟩:Obj)) ::
 (128,(⟨(.type "type"),none,(.cls (.mk "NotNow" [(.ref 77)] [(.ref 128),(.ref 77),(.type "ValueError"),(.type "Exception"),(.type "BaseException"),(.type "object")] 127 "NotNow" true [] [] false none false)),#[(some (.ref 112)),none,(some (vS "NotNow" 337)),(some (vS "NotNow" 345)),(some (.builtin "ValueError.__new__")),(some (.bool true))]⟩:Obj)) ::
 (129,(⟨(.type "super"),none,(.fields #[(.ref 128),(.ref 128),(.ref 128)]),#[]⟩:Obj)) ::
 (130,(⟨(.type "builtin_function_or_method"),none,(.fields #[(.builtin "object.__init_subclass__"),(.ref 128)]),#[]⟩:Obj))::[])
noncomputable abbrev hX3 (w:World) (os:OsState):PySem.W.SharedT:=⟨hT3 w.params,131,{ },⟨[]⟩,{ },362,os⟩
def hD4:Params→List DictEntry:=fun P=>hD3 P++[eS P "NoRow" 386 (.ref 147),eS P "NoBook" 411 (.ref 166),eS P "NoLine" 436 (.ref 185),eS P "NoStand" 452 (.ref 197),eS P "NoName" 477 (.ref 216)]
noncomputable def hT4:Params→PySem.W.BT:=fun P=>hI (hT3 P) (
 (3,(⟨.type "dict", none,.dict (hD4 P).toArray 30,#[]⟩:Obj)) ::
 (12,(⟨.none,none,(.fields #[(.int 5 0),(.int 0 0),(.ref 20),(.int 7 0),(.int 0 0),(.ref 25),(.int 11 0),(.int 0 0),(.ref 32),(.int 13 0),(.int 0 0),(.ref 39),(.int 17 0),(.int 0 0),(.ref 47),(.int 19 0),(.int 0 0),(.ref 52),(.int 29 0),(.int 0 0),(.ref 59),(.int 35 0),(.int 0 0),(.ref 66),(.int 38 0),(.int 0 0),(.ref 73),(.int 40 0),(.int 0 0),(.ref 86),(.int 44 0),(.int 0 0),(.ref 105),(.int 46 0),(.int 0 0),(.ref 117),(.int 50 0),(.int 0 0),(.ref 136),(.int 54 0),(.int 0 0),(.ref 155),(.int 58 0),(.int 0 0),(.ref 174),(.int 62 0),(.int 0 0),(.ref 193),(.int 64 0),(.int 0 0),(.ref 205)]),#[]⟩:Obj)) ::
 (77,(⟨(.type "type"),none,(.cls (.mk "StrikeError" [(.type "ValueError")] [(.ref 77),(.type "ValueError"),(.type "Exception"),(.type "BaseException"),(.type "object")] 76 "StrikeError" true [] [(.ref 97),(.ref 109),(.ref 128),(.ref 147),(.ref 166),(.ref 185),(.ref 197),(.ref 216)] false none false)),#[(some (.ref 68)),none,(some (vS "StrikeError" 278)),(some (vS "StrikeError" 286)),(some (.builtin "ValueError.__new__")),(some (.bool true))]⟩:Obj)) ::
 (131,tO #[(.ref 77)]) ::
 (132,(⟨(.type "builtin_function_or_method"),none,(.fields #[(.builtin "type.__prepare__"),(.type "type")]),#[]⟩:Obj)) ::
 (133,(⟨(.type "dict"),none,(.dict #[eS P "__module__" 369 (vS "struckdeeds.errors" 276),eS P "__qualname__" 371 (vS "NoRow" 370),eS P "__firstlineno__" 373 (.int 50 372),eS P "__init__" 381 (.ref 144),eS P "__static_attributes__" 383 (.ref 145)] 5),#[]⟩:Obj)) ::
 (134,tO #[]) ::
 (135,(⟨.none,none,(.fields #[(.int 52 0),(.int 4 0),(.ref 143)]),#[]⟩:Obj)) ::
 (136,(⟨(.type "code"),none,(.fields #[(vS "NoRow" 364),(vS "NoRow" 365),(vS "/claim/cut.py" 366),(.int 50 0),(.int 0 0),(.int 0 0),(.int 0 0),(.int 0 0),(.ref 134),(.bool false),(.int 181 0),(.ref 135),.none,.none,.none,.none,(.int 367 0),(.int 50 0),(vS "/claim/cut.py" 368)]),#[]⟩:Obj)) ::
 (137,(⟨(.type "frame"),none,.plain,#[(some (.ref 136)),(some (.ref 3)),(some (.ref 133)),none,(some (vS "struckdeeds.errors" 276)),none,(some (.ref 0))]⟩:Obj)) ::
 (138,tO #[]) ::
 (139,(⟨.none,none,(.fields #[]),#[]⟩:Obj)) ::
 (140,tO #[(vS "self" 377),(vS "number" 378)]) ::
 (141,tO #[]) ::
 (142,gO "__init__" "NoRow.__init__" (inCls 0 (hs 19))) ::
 (143,kO "__init__" "NoRow.__init__" 374 375 376 52 2 3 (.ref 138) 181 (.ref 139) (.ref 140) (.ref 141) (.ref 142) 379 52 380) ::
 (144,fO "__init__" "NoRow.__init__" (inCls 0 (hs 19)) .none (vS "struckdeeds.errors" 276) 143) ::
 (145,tO #[(vS "number" 382)]) ::
 (146,(⟨(.type "dict"),none,(.dict #[eS P "__module__" 369 (vS "struckdeeds.errors" 276),eS P "__firstlineno__" 373 (.int 50 372),eS P "__init__" 381 (.ref 144),eS P "__static_attributes__" 383 (.ref 145),eS P "__doc__" 384 .none] 2),#[]⟩:Obj)) ::
 (147,(⟨(.type "type"),none,(.cls (.mk "NoRow" [(.ref 77)] [(.ref 147),(.ref 77),(.type "ValueError"),(.type "Exception"),(.type "BaseException"),(.type "object")] 146 "NoRow" true [] [] false none false)),#[(some (.ref 131)),none,(some (vS "NoRow" 362)),(some (vS "NoRow" 370)),(some (.builtin "ValueError.__new__")),(some (.bool true))]⟩:Obj)) ::
 (148,(⟨(.type "super"),none,(.fields #[(.ref 147),(.ref 147),(.ref 147)]),#[]⟩:Obj)) ::
 (149,(⟨(.type "builtin_function_or_method"),none,(.fields #[(.builtin "object.__init_subclass__"),(.ref 147)]),#[]⟩:Obj)) ::
 (150,tO #[(.ref 77)]) ::
 (151,(⟨(.type "builtin_function_or_method"),none,(.fields #[(.builtin "type.__prepare__"),(.type "type")]),#[]⟩:Obj)) ::
 (152,(⟨(.type "dict"),none,(.dict #[eS P "__module__" 394 (vS "struckdeeds.errors" 276),eS P "__qualname__" 396 (vS "NoBook" 395),eS P "__firstlineno__" 398 (.int 54 397),eS P "__init__" 406 (.ref 163),eS P "__static_attributes__" 408 (.ref 164)] 5),#[]⟩:Obj)) ::
 (153,tO #[]) ::
 (154,(⟨.none,none,(.fields #[(.int 56 0),(.int 4 0),(.ref 162)]),#[]⟩:Obj)) ::
 (155,(⟨(.type "code"),none,(.fields #[(vS "NoBook" 389),(vS "NoBook" 390),(vS "/claim/cut.py" 391),(.int 54 0),(.int 0 0),(.int 0 0),(.int 0 0),(.int 0 0),(.ref 153),(.bool false),(.int 181 0),(.ref 154),.none,.none,.none,.none,(.int 392 0),(.int 54 0),(vS "/claim/cut.py" 393)]),#[]⟩:Obj)) ::
 (156,(⟨(.type "frame"),none,.plain,#[(some (.ref 155)),(some (.ref 3)),(some (.ref 152)),none,(some (vS "struckdeeds.errors" 276)),none,(some (.ref 0))]⟩:Obj)) ::
 (157,tO #[]) ::
 (158,(⟨.none,none,(.fields #[]),#[]⟩:Obj)) ::
 (159,tO #[(vS "self" 402),(vS "number" 403)]) ::
 (160,tO #[]) ::
 (161,gO "__init__" "NoBook.__init__" (inCls 0 (hs 20))) ::
 (162,kO "__init__" "NoBook.__init__" 399 400 401 56 2 3 (.ref 157) 181 (.ref 158) (.ref 159) (.ref 160) (.ref 161) 404 56 405) ::
 (163,fO "__init__" "NoBook.__init__" (inCls 0 (hs 20)) .none (vS "struckdeeds.errors" 276) 162) ::
 (164,tO #[(vS "number" 407)]) ::
 (165,(⟨(.type "dict"),none,(.dict #[eS P "__module__" 394 (vS "struckdeeds.errors" 276),eS P "__firstlineno__" 398 (.int 54 397),eS P "__init__" 406 (.ref 163),eS P "__static_attributes__" 408 (.ref 164),eS P "__doc__" 409 .none] 2),#[]⟩:Obj)) ::
 (166,(⟨(.type "type"),none,(.cls (.mk "NoBook" [(.ref 77)] [(.ref 166),(.ref 77),(.type "ValueError"),(.type "Exception"),(.type "BaseException"),(.type "object")] 165 "NoBook" true [] [] false none false)),#[(some (.ref 150)),none,(some (vS "NoBook" 387)),(some (vS "NoBook" 395)),(some (.builtin "ValueError.__new__")),(some (.bool true))]⟩:Obj)) ::
 (167,(⟨(.type "super"),none,(.fields #[(.ref 166),(.ref 166),(.ref 166)]),#[]⟩:Obj)) ::
 (168,(⟨(.type "builtin_function_or_method"),none,(.fields #[(.builtin "object.__init_subclass__"),(.ref 166)]),#[]⟩:Obj)) ::
 (169,tO #[(.ref 77)]) ::
 (170,(⟨(.type "builtin_function_or_method"),none,(.fields #[(.builtin "type.__prepare__"),(.type "type")]),#[]⟩:Obj)) ::
 (171,(⟨(.type "dict"),none,(.dict #[eS P "__module__" 419 (vS "struckdeeds.errors" 276),eS P "__qualname__" 421 (vS "NoLine" 420),eS P "__firstlineno__" 423 (.int 58 422),eS P "__init__" 431 (.ref 182),eS P "__static_attributes__" 433 (.ref 183)] 5),#[]⟩:Obj)) ::
 (172,tO #[]) ::
 (173,(⟨.none,none,(.fields #[(.int 60 0),(.int 4 0),(.ref 181)]),#[]⟩:Obj)) ::
 (174,(⟨(.type "code"),none,(.fields #[(vS "NoLine" 414),(vS "NoLine" 415),(vS "/claim/cut.py" 416),(.int 58 0),(.int 0 0),(.int 0 0),(.int 0 0),(.int 0 0),(.ref 172),(.bool false),(.int 181 0),(.ref 173),.none,.none,.none,.none,(.int 417 0),(.int 58 0),(vS "/claim/cut.py" 418)]),#[]⟩:Obj)) ::
 (175,(⟨(.type "frame"),none,.plain,#[(some (.ref 174)),(some (.ref 3)),(some (.ref 171)),none,(some (vS "struckdeeds.errors" 276)),none,(some (.ref 0))]⟩:Obj)) ::
 (176,tO #[]) ::
 (177,(⟨.none,none,(.fields #[]),#[]⟩:Obj)) ::
 (178,tO #[(vS "self" 427),(vS "line" 428)]) ::
 (179,tO #[]) ::
 (180,gO "__init__" "NoLine.__init__" (inCls 0 (hs 21))) ::
 (181,kO "__init__" "NoLine.__init__" 424 425 426 60 2 3 (.ref 176) 181 (.ref 177) (.ref 178) (.ref 179) (.ref 180) 429 60 430) ::
 (182,fO "__init__" "NoLine.__init__" (inCls 0 (hs 21)) .none (vS "struckdeeds.errors" 276) 181) ::
 (183,tO #[(vS "line" 432)]) ::
 (184,(⟨(.type "dict"),none,(.dict #[eS P "__module__" 419 (vS "struckdeeds.errors" 276),eS P "__firstlineno__" 423 (.int 58 422),eS P "__init__" 431 (.ref 182),eS P "__static_attributes__" 433 (.ref 183),eS P "__doc__" 434 .none] 2),#[]⟩:Obj)) ::
 (185,(⟨(.type "type"),none,(.cls (.mk "NoLine" [(.ref 77)] [(.ref 185),(.ref 77),(.type "ValueError"),(.type "Exception"),(.type "BaseException"),(.type "object")] 184 "NoLine" true [] [] false none false)),#[(some (.ref 169)),none,(some (vS "NoLine" 412)),(some (vS "NoLine" 420)),(some (.builtin "ValueError.__new__")),(some (.bool true))]⟩:Obj)) ::
 (186,(⟨(.type "super"),none,(.fields #[(.ref 185),(.ref 185),(.ref 185)]),#[]⟩:Obj)) ::
 (187,(⟨(.type "builtin_function_or_method"),none,(.fields #[(.builtin "object.__init_subclass__"),(.ref 185)]),#[]⟩:Obj)) ::
 (188,tO #[(.ref 77)]) ::
 (189,(⟨(.type "builtin_function_or_method"),none,(.fields #[(.builtin "type.__prepare__"),(.type "type")]),#[]⟩:Obj)) ::
 (190,(⟨(.type "dict"),none,(.dict #[eS P "__module__" 444 (vS "struckdeeds.errors" 276),eS P "__qualname__" 446 (vS "NoStand" 445),eS P "__firstlineno__" 448 (.int 62 447),eS P "__static_attributes__" 449 (.ref 195)] 4),#[]⟩:Obj)) ::
 (191,tO #[]) ::
 (192,(⟨.none,none,(.fields #[]),#[]⟩:Obj)) ::
 (193,(⟨(.type "code"),none,(.fields #[(vS "NoStand" 439),(vS "NoStand" 440),(vS "/claim/cut.py" 441),(.int 62 0),(.int 0 0),(.int 0 0),(.int 0 0),(.int 0 0),(.ref 191),(.bool false),(.int 181 0),(.ref 192),.none,.none,.none,.none,(.int 442 0),(.int 62 0),(vS "/claim/cut.py" 443)]),#[]⟩:Obj)) ::
 (194,(⟨(.type "frame"),none,.plain,#[(some (.ref 193)),(some (.ref 3)),(some (.ref 190)),none,(some (vS "struckdeeds.errors" 276)),none,(some (.ref 0))]⟩:Obj)) ::
 (195,tO #[]) ::
 (196,(⟨(.type "dict"),none,(.dict #[eS P "__module__" 444 (vS "struckdeeds.errors" 276),eS P "__firstlineno__" 448 (.int 62 447),eS P "__static_attributes__" 449 (.ref 195),eS P "__doc__" 450 .none] 2),#[]⟩:Obj)) ::
 (197,(⟨(.type "type"),none,(.cls (.mk "NoStand" [(.ref 77)] [(.ref 197),(.ref 77),(.type "ValueError"),(.type "Exception"),(.type "BaseException"),(.type "object")] 196 "NoStand" true [] [] false none false)),#[(some (.ref 188)),none,(some (vS "NoStand" 437)),(some (vS "NoStand" 445)),(some (.builtin "ValueError.__new__")),(some (.bool true))]⟩:Obj)) ::
 (198,(⟨(.type "super"),none,(.fields #[(.ref 197),(.ref 197),(.ref 197)]),#[]⟩:Obj)) ::
 (199,(⟨(.type "builtin_function_or_method"),none,(.fields #[(.builtin "object.__init_subclass__"),(.ref 197)]),#[]⟩:Obj)) ::
 (200,tO #[(.ref 77)]) ::
 (201,(⟨(.type "builtin_function_or_method"),none,(.fields #[(.builtin "type.__prepare__"),(.type "type")]),#[]⟩:Obj)) ::
 (202,(⟨(.type "dict"),none,(.dict #[eS P "__module__" 460 (vS "struckdeeds.errors" 276),eS P "__qualname__" 462 (vS "NoName" 461),eS P "__firstlineno__" 464 (.int 64 463),eS P "__init__" 472 (.ref 213),eS P "__static_attributes__" 474 (.ref 214)] 5),#[]⟩:Obj)) ::
 (203,tO #[]) ::
 (204,(⟨.none,none,(.fields #[(.int 66 0),(.int 4 0),(.ref 212)]),#[]⟩:Obj)) ::
 (205,(⟨(.type "code"),none,(.fields #[(vS "NoName" 455),(vS "NoName" 456),(vS "/claim/cut.py" 457),(.int 64 0),(.int 0 0),(.int 0 0),(.int 0 0),(.int 0 0),(.ref 203),(.bool false),(.int 181 0),(.ref 204),.none,.none,.none,.none,(.int 458 0),(.int 64 0),(vS "/claim/cut.py" 459)]),#[]⟩:Obj)) ::
 (206,(⟨(.type "frame"),none,.plain,#[(some (.ref 205)),(some (.ref 3)),(some (.ref 202)),none,(some (vS "struckdeeds.errors" 276)),none,(some (.ref 0))]⟩:Obj)) ::
 (207,tO #[]) ::
 (208,(⟨.none,none,(.fields #[]),#[]⟩:Obj)) ::
 (209,tO #[(vS "self" 468),(vS "name" 469)]) ::
 (210,tO #[]) ::
 (211,gO "__init__" "NoName.__init__" (inCls 0 (hs 23))) ::
 (212,kO "__init__" "NoName.__init__" 465 466 467 66 2 3 (.ref 207) 181 (.ref 208) (.ref 209) (.ref 210) (.ref 211) 470 66 471) ::
 (213,fO "__init__" "NoName.__init__" (inCls 0 (hs 23)) .none (vS "struckdeeds.errors" 276) 212) ::
 (214,tO #[(vS "name" 473)]) ::
 (215,(⟨(.type "dict"),none,(.dict #[eS P "__module__" 460 (vS "struckdeeds.errors" 276),eS P "__firstlineno__" 464 (.int 64 463),eS P "__init__" 472 (.ref 213),eS P "__static_attributes__" 474 (.ref 214),eS P "__doc__" 475 .none] 2),#[]⟩:Obj)) ::
 (216,(⟨(.type "type"),none,(.cls (.mk "NoName" [(.ref 77)] [(.ref 216),(.ref 77),(.type "ValueError"),(.type "Exception"),(.type "BaseException"),(.type "object")] 215 "NoName" true [] [] false none false)),#[(some (.ref 200)),none,(some (vS "NoName" 453)),(some (vS "NoName" 461)),(some (.builtin "ValueError.__new__")),(some (.bool true))]⟩:Obj)) ::
 (217,(⟨(.type "super"),none,(.fields #[(.ref 216),(.ref 216),(.ref 216)]),#[]⟩:Obj)) ::
 (218,(⟨(.type "builtin_function_or_method"),none,(.fields #[(.builtin "object.__init_subclass__"),(.ref 216)]),#[]⟩:Obj))::[])
noncomputable abbrev hX4 (w:World) (os:OsState):PySem.W.SharedT:=⟨hT4 w.params,219,{ },⟨[]⟩,{ },478,os⟩
def hD5:Params→List DictEntry:=fun P=>(hD4 P).set 0 (eS P "__name__" 165 (vS "law_struckdeeds_k11_texts_of_deeds" 644))++[eS P "NoNeed" 502 (.ref 235),eS P "NoMark" 527 (.ref 254),eS P "NoJoin" 543 (.ref 266),eS P "NoCall" 568 (.ref 285),eS P "NoLog" 593 (.ref 304),eS P "FIGURES" 597 (vS "0123456789" 596),eS P "GROUP_LENGTH" 599 (.int 18 598),eS P "GROUP" 603 (.int 1000000000000000000 602),eS P "show_whole" 612 (.ref 313),eS P "read_whole" 623 (.ref 320),eS P "is_row_of_figures" 629 (.ref 325),eS P "show_deed" 637 (.ref 330),eS P "read_deed" 643 (.ref 335)]
noncomputable def hT5:Params→PySem.W.BT:=fun P=>hI (hT4 P) (
 (3,(⟨.type "dict", none,.dict (hD5 P).toArray 43,#[]⟩:Obj)) ::
 (12,(⟨.none,none,(.fields #[(.int 5 0),(.int 0 0),(.ref 20),(.int 7 0),(.int 0 0),(.ref 25),(.int 11 0),(.int 0 0),(.ref 32),(.int 13 0),(.int 0 0),(.ref 39),(.int 17 0),(.int 0 0),(.ref 47),(.int 19 0),(.int 0 0),(.ref 52),(.int 29 0),(.int 0 0),(.ref 59),(.int 35 0),(.int 0 0),(.ref 66),(.int 38 0),(.int 0 0),(.ref 73),(.int 40 0),(.int 0 0),(.ref 86),(.int 44 0),(.int 0 0),(.ref 105),(.int 46 0),(.int 0 0),(.ref 117),(.int 50 0),(.int 0 0),(.ref 136),(.int 54 0),(.int 0 0),(.ref 155),(.int 58 0),(.int 0 0),(.ref 174),(.int 62 0),(.int 0 0),(.ref 193),(.int 64 0),(.int 0 0),(.ref 205),(.int 68 0),(.int 0 0),(.ref 224),(.int 72 0),(.int 0 0),(.ref 243),(.int 76 0),(.int 0 0),(.ref 262),(.int 78 0),(.int 0 0),(.ref 274),(.int 82 0),(.int 0 0),(.ref 293),(.int 90 0),(.int 0 0),(.ref 312),(.int 99 0),(.int 0 0),(.ref 319),(.int 108 0),(.int 0 0),(.ref 324),(.int 111 0),(.int 0 0),(.ref 329),(.int 113 0),(.int 0 0),(.ref 334)]),#[]⟩:Obj)) ::
 (77,(⟨(.type "type"),none,(.cls (.mk "StrikeError" [(.type "ValueError")] [(.ref 77),(.type "ValueError"),(.type "Exception"),(.type "BaseException"),(.type "object")] 76 "StrikeError" true [] [(.ref 97),(.ref 109),(.ref 128),(.ref 147),(.ref 166),(.ref 185),(.ref 197),(.ref 216),(.ref 235),(.ref 254),(.ref 266),(.ref 285),(.ref 304)] false none false)),#[(some (.ref 68)),none,(some (vS "StrikeError" 278)),(some (vS "StrikeError" 286)),(some (.builtin "ValueError.__new__")),(some (.bool true))]⟩:Obj)) ::
 (219,tO #[(.ref 77)]) ::
 (220,(⟨(.type "builtin_function_or_method"),none,(.fields #[(.builtin "type.__prepare__"),(.type "type")]),#[]⟩:Obj)) ::
 (221,(⟨(.type "dict"),none,(.dict #[eS P "__module__" 485 (vS "struckdeeds.errors" 276),eS P "__qualname__" 487 (vS "NoNeed" 486),eS P "__firstlineno__" 489 (.int 68 488),eS P "__init__" 497 (.ref 232),eS P "__static_attributes__" 499 (.ref 233)] 5),#[]⟩:Obj)) ::
 (222,tO #[]) ::
 (223,(⟨.none,none,(.fields #[(.int 70 0),(.int 4 0),(.ref 231)]),#[]⟩:Obj)) ::
 (224,(⟨(.type "code"),none,(.fields #[(vS "NoNeed" 480),(vS "NoNeed" 481),(vS "/claim/cut.py" 482),(.int 68 0),(.int 0 0),(.int 0 0),(.int 0 0),(.int 0 0),(.ref 222),(.bool false),(.int 181 0),(.ref 223),.none,.none,.none,.none,(.int 483 0),(.int 68 0),(vS "/claim/cut.py" 484)]),#[]⟩:Obj)) ::
 (225,(⟨(.type "frame"),none,.plain,#[(some (.ref 224)),(some (.ref 3)),(some (.ref 221)),none,(some (vS "struckdeeds.errors" 276)),none,(some (.ref 0))]⟩:Obj)) ::
 (226,tO #[]) ::
 (227,(⟨.none,none,(.fields #[]),#[]⟩:Obj)) ::
 (228,tO #[(vS "self" 493),(vS "line" 494)]) ::
 (229,tO #[]) ::
 (230,gO "__init__" "NoNeed.__init__" (inCls 0 (hs 24))) ::
 (231,kO "__init__" "NoNeed.__init__" 490 491 492 70 2 3 (.ref 226) 181 (.ref 227) (.ref 228) (.ref 229) (.ref 230) 495 70 496) ::
 (232,fO "__init__" "NoNeed.__init__" (inCls 0 (hs 24)) .none (vS "struckdeeds.errors" 276) 231) ::
 (233,tO #[(vS "line" 498)]) ::
 (234,(⟨(.type "dict"),none,(.dict #[eS P "__module__" 485 (vS "struckdeeds.errors" 276),eS P "__firstlineno__" 489 (.int 68 488),eS P "__init__" 497 (.ref 232),eS P "__static_attributes__" 499 (.ref 233),eS P "__doc__" 500 .none] 2),#[]⟩:Obj)) ::
 (235,(⟨(.type "type"),none,(.cls (.mk "NoNeed" [(.ref 77)] [(.ref 235),(.ref 77),(.type "ValueError"),(.type "Exception"),(.type "BaseException"),(.type "object")] 234 "NoNeed" true [] [] false none false)),#[(some (.ref 219)),none,(some (vS "NoNeed" 478)),(some (vS "NoNeed" 486)),(some (.builtin "ValueError.__new__")),(some (.bool true))]⟩:Obj)) ::
 (236,(⟨(.type "super"),none,(.fields #[(.ref 235),(.ref 235),(.ref 235)]),#[]⟩:Obj)) ::
 (237,(⟨(.type "builtin_function_or_method"),none,(.fields #[(.builtin "object.__init_subclass__"),(.ref 235)]),#[]⟩:Obj)) ::
 (238,tO #[(.ref 77)]) ::
 (239,(⟨(.type "builtin_function_or_method"),none,(.fields #[(.builtin "type.__prepare__"),(.type "type")]),#[]⟩:Obj)) ::
 (240,(⟨(.type "dict"),none,(.dict #[eS P "__module__" 510 (vS "struckdeeds.errors" 276),eS P "__qualname__" 512 (vS "NoMark" 511),eS P "__firstlineno__" 514 (.int 72 513),eS P "__init__" 522 (.ref 251),eS P "__static_attributes__" 524 (.ref 252)] 5),#[]⟩:Obj)) ::
 (241,tO #[]) ::
 (242,(⟨.none,none,(.fields #[(.int 74 0),(.int 4 0),(.ref 250)]),#[]⟩:Obj)) ::
 (243,(⟨(.type "code"),none,(.fields #[(vS "NoMark" 505),(vS "NoMark" 506),(vS "/claim/cut.py" 507),(.int 72 0),(.int 0 0),(.int 0 0),(.int 0 0),(.int 0 0),(.ref 241),(.bool false),(.int 181 0),(.ref 242),.none,.none,.none,.none,(.int 508 0),(.int 72 0),(vS "/claim/cut.py" 509)]),#[]⟩:Obj)) ::
 (244,(⟨(.type "frame"),none,.plain,#[(some (.ref 243)),(some (.ref 3)),(some (.ref 240)),none,(some (vS "struckdeeds.errors" 276)),none,(some (.ref 0))]⟩:Obj)) ::
 (245,tO #[]) ::
 (246,(⟨.none,none,(.fields #[]),#[]⟩:Obj)) ::
 (247,tO #[(vS "self" 518),(vS "name" 519)]) ::
 (248,tO #[]) ::
 (249,gO "__init__" "NoMark.__init__" (inCls 0 (hs 25))) ::
 (250,kO "__init__" "NoMark.__init__" 515 516 517 74 2 3 (.ref 245) 181 (.ref 246) (.ref 247) (.ref 248) (.ref 249) 520 74 521) ::
 (251,fO "__init__" "NoMark.__init__" (inCls 0 (hs 25)) .none (vS "struckdeeds.errors" 276) 250) ::
 (252,tO #[(vS "name" 523)]) ::
 (253,(⟨(.type "dict"),none,(.dict #[eS P "__module__" 510 (vS "struckdeeds.errors" 276),eS P "__firstlineno__" 514 (.int 72 513),eS P "__init__" 522 (.ref 251),eS P "__static_attributes__" 524 (.ref 252),eS P "__doc__" 525 .none] 2),#[]⟩:Obj)) ::
 (254,(⟨(.type "type"),none,(.cls (.mk "NoMark" [(.ref 77)] [(.ref 254),(.ref 77),(.type "ValueError"),(.type "Exception"),(.type "BaseException"),(.type "object")] 253 "NoMark" true [] [] false none false)),#[(some (.ref 238)),none,(some (vS "NoMark" 503)),(some (vS "NoMark" 511)),(some (.builtin "ValueError.__new__")),(some (.bool true))]⟩:Obj)) ::
 (255,(⟨(.type "super"),none,(.fields #[(.ref 254),(.ref 254),(.ref 254)]),#[]⟩:Obj)) ::
 (256,(⟨(.type "builtin_function_or_method"),none,(.fields #[(.builtin "object.__init_subclass__"),(.ref 254)]),#[]⟩:Obj)) ::
 (257,tO #[(.ref 77)]) ::
 (258,(⟨(.type "builtin_function_or_method"),none,(.fields #[(.builtin "type.__prepare__"),(.type "type")]),#[]⟩:Obj)) ::
 (259,(⟨(.type "dict"),none,(.dict #[eS P "__module__" 535 (vS "struckdeeds.errors" 276),eS P "__qualname__" 537 (vS "NoJoin" 536),eS P "__firstlineno__" 539 (.int 76 538),eS P "__static_attributes__" 540 (.ref 264)] 4),#[]⟩:Obj)) ::
 (260,tO #[]) ::
 (261,(⟨.none,none,(.fields #[]),#[]⟩:Obj)) ::
 (262,(⟨(.type "code"),none,(.fields #[(vS "NoJoin" 530),(vS "NoJoin" 531),(vS "/claim/cut.py" 532),(.int 76 0),(.int 0 0),(.int 0 0),(.int 0 0),(.int 0 0),(.ref 260),(.bool false),(.int 181 0),(.ref 261),.none,.none,.none,.none,(.int 533 0),(.int 76 0),(vS "/claim/cut.py" 534)]),#[]⟩:Obj)) ::
 (263,(⟨(.type "frame"),none,.plain,#[(some (.ref 262)),(some (.ref 3)),(some (.ref 259)),none,(some (vS "struckdeeds.errors" 276)),none,(some (.ref 0))]⟩:Obj)) ::
 (264,tO #[]) ::
 (265,(⟨(.type "dict"),none,(.dict #[eS P "__module__" 535 (vS "struckdeeds.errors" 276),eS P "__firstlineno__" 539 (.int 76 538),eS P "__static_attributes__" 540 (.ref 264),eS P "__doc__" 541 .none] 2),#[]⟩:Obj)) ::
 (266,(⟨(.type "type"),none,(.cls (.mk "NoJoin" [(.ref 77)] [(.ref 266),(.ref 77),(.type "ValueError"),(.type "Exception"),(.type "BaseException"),(.type "object")] 265 "NoJoin" true [] [] false none false)),#[(some (.ref 257)),none,(some (vS "NoJoin" 528)),(some (vS "NoJoin" 536)),(some (.builtin "ValueError.__new__")),(some (.bool true))]⟩:Obj)) ::
 (267,(⟨(.type "super"),none,(.fields #[(.ref 266),(.ref 266),(.ref 266)]),#[]⟩:Obj)) ::
 (268,(⟨(.type "builtin_function_or_method"),none,(.fields #[(.builtin "object.__init_subclass__"),(.ref 266)]),#[]⟩:Obj)) ::
 (269,tO #[(.ref 77)]) ::
 (270,(⟨(.type "builtin_function_or_method"),none,(.fields #[(.builtin "type.__prepare__"),(.type "type")]),#[]⟩:Obj)) ::
 (271,(⟨(.type "dict"),none,(.dict #[eS P "__module__" 551 (vS "struckdeeds.errors" 276),eS P "__qualname__" 553 (vS "NoCall" 552),eS P "__firstlineno__" 555 (.int 78 554),eS P "__init__" 563 (.ref 282),eS P "__static_attributes__" 565 (.ref 283)] 5),#[]⟩:Obj)) ::
 (272,tO #[]) ::
 (273,(⟨.none,none,(.fields #[(.int 80 0),(.int 4 0),(.ref 281)]),#[]⟩:Obj)) ::
 (274,(⟨(.type "code"),none,(.fields #[(vS "NoCall" 546),(vS "NoCall" 547),(vS "/claim/cut.py" 548),(.int 78 0),(.int 0 0),(.int 0 0),(.int 0 0),(.int 0 0),(.ref 272),(.bool false),(.int 181 0),(.ref 273),.none,.none,.none,.none,(.int 549 0),(.int 78 0),(vS "/claim/cut.py" 550)]),#[]⟩:Obj)) ::
 (275,(⟨(.type "frame"),none,.plain,#[(some (.ref 274)),(some (.ref 3)),(some (.ref 271)),none,(some (vS "struckdeeds.errors" 276)),none,(some (.ref 0))]⟩:Obj)) ::
 (276,tO #[]) ::
 (277,(⟨.none,none,(.fields #[]),#[]⟩:Obj)) ::
 (278,tO #[(vS "self" 559),(vS "row" 560)]) ::
 (279,tO #[]) ::
 (280,gO "__init__" "NoCall.__init__" (inCls 0 (hs 27))) ::
 (281,kO "__init__" "NoCall.__init__" 556 557 558 80 2 3 (.ref 276) 181 (.ref 277) (.ref 278) (.ref 279) (.ref 280) 561 80 562) ::
 (282,fO "__init__" "NoCall.__init__" (inCls 0 (hs 27)) .none (vS "struckdeeds.errors" 276) 281) ::
 (283,tO #[(vS "row" 564)]) ::
 (284,(⟨(.type "dict"),none,(.dict #[eS P "__module__" 551 (vS "struckdeeds.errors" 276),eS P "__firstlineno__" 555 (.int 78 554),eS P "__init__" 563 (.ref 282),eS P "__static_attributes__" 565 (.ref 283),eS P "__doc__" 566 .none] 2),#[]⟩:Obj)) ::
 (285,(⟨(.type "type"),none,(.cls (.mk "NoCall" [(.ref 77)] [(.ref 285),(.ref 77),(.type "ValueError"),(.type "Exception"),(.type "BaseException"),(.type "object")] 284 "NoCall" true [] [] false none false)),#[(some (.ref 269)),none,(some (vS "NoCall" 544)),(some (vS "NoCall" 552)),(some (.builtin "ValueError.__new__")),(some (.bool true))]⟩:Obj)) ::
 (286,(⟨(.type "super"),none,(.fields #[(.ref 285),(.ref 285),(.ref 285)]),#[]⟩:Obj)) ::
 (287,(⟨(.type "builtin_function_or_method"),none,(.fields #[(.builtin "object.__init_subclass__"),(.ref 285)]),#[]⟩:Obj)) ::
 (288,tO #[(.ref 77)]) ::
 (289,(⟨(.type "builtin_function_or_method"),none,(.fields #[(.builtin "type.__prepare__"),(.type "type")]),#[]⟩:Obj)) ::
 (290,(⟨(.type "dict"),none,(.dict #[eS P "__module__" 576 (vS "struckdeeds.errors" 276),eS P "__qualname__" 578 (vS "NoLog" 577),eS P "__firstlineno__" 580 (.int 82 579),eS P "__init__" 588 (.ref 301),eS P "__static_attributes__" 590 (.ref 302)] 5),#[]⟩:Obj)) ::
 (291,tO #[]) ::
 (292,(⟨.none,none,(.fields #[(.int 84 0),(.int 4 0),(.ref 300)]),#[]⟩:Obj)) ::
 (293,(⟨(.type "code"),none,(.fields #[(vS "NoLog" 571),(vS "NoLog" 572),(vS "/claim/cut.py" 573),(.int 82 0),(.int 0 0),(.int 0 0),(.int 0 0),(.int 0 0),(.ref 291),(.bool false),(.int 181 0),(.ref 292),.none,.none,.none,.none,(.int 574 0),(.int 82 0),(vS "/claim/cut.py" 575)]),#[]⟩:Obj)) ::
 (294,(⟨(.type "frame"),none,.plain,#[(some (.ref 293)),(some (.ref 3)),(some (.ref 290)),none,(some (vS "struckdeeds.errors" 276)),none,(some (.ref 0))]⟩:Obj)) ::
 (295,tO #[]) ::
 (296,(⟨.none,none,(.fields #[]),#[]⟩:Obj)) ::
 (297,tO #[(vS "self" 584),(vS "name" 585)]) ::
 (298,tO #[]) ::
 (299,gO "__init__" "NoLog.__init__" (inCls 0 (hs 28))) ::
 (300,kO "__init__" "NoLog.__init__" 581 582 583 84 2 3 (.ref 295) 181 (.ref 296) (.ref 297) (.ref 298) (.ref 299) 586 84 587) ::
 (301,fO "__init__" "NoLog.__init__" (inCls 0 (hs 28)) .none (vS "struckdeeds.errors" 276) 300) ::
 (302,tO #[(vS "name" 589)]) ::
 (303,(⟨(.type "dict"),none,(.dict #[eS P "__module__" 576 (vS "struckdeeds.errors" 276),eS P "__firstlineno__" 580 (.int 82 579),eS P "__init__" 588 (.ref 301),eS P "__static_attributes__" 590 (.ref 302),eS P "__doc__" 591 .none] 2),#[]⟩:Obj)) ::
 (304,(⟨(.type "type"),none,(.cls (.mk "NoLog" [(.ref 77)] [(.ref 304),(.ref 77),(.type "ValueError"),(.type "Exception"),(.type "BaseException"),(.type "object")] 303 "NoLog" true [] [] false none false)),#[(some (.ref 288)),none,(some (vS "NoLog" 569)),(some (vS "NoLog" 577)),(some (.builtin "ValueError.__new__")),(some (.bool true))]⟩:Obj)) ::
 (305,(⟨(.type "super"),none,(.fields #[(.ref 304),(.ref 304),(.ref 304)]),#[]⟩:Obj)) ::
 (306,(⟨(.type "builtin_function_or_method"),none,(.fields #[(.builtin "object.__init_subclass__"),(.ref 304)]),#[]⟩:Obj)) ::
 (307,tO #[]) ::
 (308,(⟨.none,none,(.fields #[]),#[]⟩:Obj)) ::
 (309,tO #[(vS "number" 607),(vS "groups" 608),(vS "low" 609)]) ::
 (310,tO #[]) ::
 (311,gO "show_whole" "show_whole" (hs 33)) ::
 (312,kO "show_whole" "show_whole" 604 605 606 90 1 3 (.ref 307) 181 (.ref 308) (.ref 309) (.ref 310) (.ref 311) 610 90 611) ::
 (313,fO "show_whole" "show_whole" (hs 33) .none (vS "struckdeeds.figures" 594) 312) ::
 (314,tO #[]) ::
 (315,(⟨.none,none,(.fields #[]),#[]⟩:Obj)) ::
 (316,tO #[(vS "text" 616),(vS "below" 617),(vS "figures" 618),(vS "number" 619),(vS "figure" 620)]) ::
 (317,tO #[]) ::
 (318,gO "read_whole" "read_whole" (hs 34)) ::
 (319,kO "read_whole" "read_whole" 613 614 615 99 1 3 (.ref 314) 181 (.ref 315) (.ref 316) (.ref 317) (.ref 318) 621 99 622) ::
 (320,fO "read_whole" "read_whole" (hs 34) .none (vS "struckdeeds.figures" 594) 319) ::
 (321,tO #[]) ::
 (322,(⟨.none,none,(.fields #[]),#[]⟩:Obj)) ::
 (323,gO "is_row_of_figures" "is_row_of_figures" (hs 35)) ::
 (324,kO "is_row_of_figures" "is_row_of_figures" 624 625 626 108 1 3 (.ref 321) 181 (.ref 322) .none .none (.ref 323) 627 108 628) ::
 (325,fO "is_row_of_figures" "is_row_of_figures" (hs 35) .none (vS "struckdeeds.figures" 594) 324) ::
 (326,tO #[]) ::
 (327,(⟨.none,none,(.fields #[]),#[]⟩:Obj)) ::
 (328,gO "show_deed" "show_deed" (hs 37)) ::
 (329,kO "show_deed" "show_deed" 632 633 634 111 1 3 (.ref 326) 181 (.ref 327) .none .none (.ref 328) 635 111 636) ::
 (330,fO "show_deed" "show_deed" (hs 37) .none (vS "struckdeeds.deedtexts" 630) 329) ::
 (331,tO #[]) ::
 (332,(⟨.none,none,(.fields #[]),#[]⟩:Obj)) ::
 (333,gO "read_deed" "read_deed" (hs 38)) ::
 (334,kO "read_deed" "read_deed" 638 639 640 113 1 3 (.ref 331) 181 (.ref 332) .none .none (.ref 333) 641 113 642) ::
 (335,fO "read_deed" "read_deed" (hs 38) .none (vS "struckdeeds.deedtexts" 630) 334)::[])
noncomputable abbrev hX5 (w:World) (os:OsState):PySem.W.SharedT:=⟨hT5 w.params,336,{ },⟨[]⟩,{ },646,os⟩
def hD6:Params→List DictEntry:=fun P=>hD5 P++[eS P "_law_pack" 652 (.ref 342),eS P "_law_take" 664 (.ref 349),eS P "_law_names" 670 (.ref 354),eS P "_law_count" 679 (.ref 361),eS P "_law_place" 686 (.ref 368),eS P "_law_any_deed" 692 (.ref 373),eS P "_law_only" 698 (.ref 378),eS P "_law_number" 704 (.ref 383),eS P "_law_part" 710 (.ref 388),eS P "_law_due" 716 (.ref 393),eS P "_law_turned_text" 730 (.ref 400),eS P "_law_right" 741 (.ref 407),eS P "law" 747 (.ref 412)]
noncomputable def hT6:Params→PySem.W.BT:=fun P=>hI (hT5 P) (
 (3,(⟨.type "dict", none,.dict (hD6 P).toArray 56,#[]⟩:Obj)) ::
 (12,(⟨.none,none,(.fields #[(.int 5 0),(.int 0 0),(.ref 20),(.int 7 0),(.int 0 0),(.ref 25),(.int 11 0),(.int 0 0),(.ref 32),(.int 13 0),(.int 0 0),(.ref 39),(.int 17 0),(.int 0 0),(.ref 47),(.int 19 0),(.int 0 0),(.ref 52),(.int 29 0),(.int 0 0),(.ref 59),(.int 35 0),(.int 0 0),(.ref 66),(.int 38 0),(.int 0 0),(.ref 73),(.int 40 0),(.int 0 0),(.ref 86),(.int 44 0),(.int 0 0),(.ref 105),(.int 46 0),(.int 0 0),(.ref 117),(.int 50 0),(.int 0 0),(.ref 136),(.int 54 0),(.int 0 0),(.ref 155),(.int 58 0),(.int 0 0),(.ref 174),(.int 62 0),(.int 0 0),(.ref 193),(.int 64 0),(.int 0 0),(.ref 205),(.int 68 0),(.int 0 0),(.ref 224),(.int 72 0),(.int 0 0),(.ref 243),(.int 76 0),(.int 0 0),(.ref 262),(.int 78 0),(.int 0 0),(.ref 274),(.int 82 0),(.int 0 0),(.ref 293),(.int 90 0),(.int 0 0),(.ref 312),(.int 99 0),(.int 0 0),(.ref 319),(.int 108 0),(.int 0 0),(.ref 324),(.int 111 0),(.int 0 0),(.ref 329),(.int 113 0),(.int 0 0),(.ref 334),(.int 125 0),(.int 0 0),(.ref 341),(.int 129 0),(.int 0 0),(.ref 348),(.int 137 0),(.int 0 0),(.ref 353),(.int 148 0),(.int 0 0),(.ref 360),(.int 158 0),(.int 0 0),(.ref 367),(.int 160 0),(.int 0 0),(.ref 372),(.int 169 0),(.int 0 0),(.ref 377),(.int 177 0),(.int 0 0),(.ref 382),(.int 186 0),(.int 0 0),(.ref 387),(.int 195 0),(.int 0 0),(.ref 392),(.int 205 0),(.int 0 0),(.ref 399),(.int 214 0),(.int 0 0),(.ref 406),(.int 224 0),(.int 0 0),(.ref 411)]),#[]⟩:Obj)) ::
 (336,tO #[]) ::
 (337,(⟨.none,none,(.fields #[]),#[]⟩:Obj)) ::
 (338,tO #[(vS "_law_cell" 649)]) ::
 (339,tO #[]) ::
 (340,gO "_law_pack" "_law_pack" (hs 40)) ::
 (341,kO "_law_pack" "_law_pack" 646 647 648 125 1 3 (.ref 336) 181 (.ref 337) (.ref 338) (.ref 339) (.ref 340) 650 125 651) ::
 (342,fO "_law_pack" "_law_pack" (hs 40) .none (vS "law_struckdeeds_k11_texts_of_deeds" 644) 341) ::
 (343,tO #[]) ::
 (344,(⟨.none,none,(.fields #[]),#[]⟩:Obj)) ::
 (345,tO #[(vS "_law_pack_here" 656),(vS "_law_size" 657),(vS "_law_digit" 658),(vS "_law_turn" 659),(vS "_law_upper" 660),(vS "_law_lower" 661)]) ::
 (346,tO #[]) ::
 (347,gO "_law_take" "_law_take" (hs 41)) ::
 (348,kO "_law_take" "_law_take" 653 654 655 129 2 3 (.ref 343) 181 (.ref 344) (.ref 345) (.ref 346) (.ref 347) 662 129 663) ::
 (349,fO "_law_take" "_law_take" (hs 41) .none (vS "law_struckdeeds_k11_texts_of_deeds" 644) 348) ::
 (350,tO #[]) ::
 (351,(⟨.none,none,(.fields #[]),#[]⟩:Obj)) ::
 (352,gO "_law_names" "_law_names" (hs 42)) ::
 (353,kO "_law_names" "_law_names" 665 666 667 137 2 3 (.ref 350) 181 (.ref 351) .none .none (.ref 352) 668 137 669) ::
 (354,fO "_law_names" "_law_names" (hs 42) .none (vS "law_struckdeeds_k11_texts_of_deeds" 644) 353) ::
 (355,tO #[]) ::
 (356,(⟨.none,none,(.fields #[]),#[]⟩:Obj)) ::
 (357,tO #[(vS "_law_pack_here" 674),(vS "_law_pick" 675),(vS "_law_number_here" 676)]) ::
 (358,tO #[]) ::
 (359,gO "_law_count" "_law_count" (hs 43)) ::
 (360,kO "_law_count" "_law_count" 671 672 673 148 1 3 (.ref 355) 181 (.ref 356) (.ref 357) (.ref 358) (.ref 359) 677 148 678) ::
 (361,fO "_law_count" "_law_count" (hs 43) .none (vS "law_struckdeeds_k11_texts_of_deeds" 644) 360) ::
 (362,tO #[]) ::
 (363,(⟨.none,none,(.fields #[]),#[]⟩:Obj)) ::
 (364,tO #[(vS "_law_pack_here" 683)]) ::
 (365,tO #[]) ::
 (366,gO "_law_place" "_law_place" (hs 44)) ::
 (367,kO "_law_place" "_law_place" 680 681 682 158 1 3 (.ref 362) 181 (.ref 363) (.ref 364) (.ref 365) (.ref 366) 684 158 685) ::
 (368,fO "_law_place" "_law_place" (hs 44) .none (vS "law_struckdeeds_k11_texts_of_deeds" 644) 367) ::
 (369,tO #[]) ::
 (370,(⟨.none,none,(.fields #[]),#[]⟩:Obj)) ::
 (371,gO "_law_any_deed" "_law_any_deed" (hs 45)) ::
 (372,kO "_law_any_deed" "_law_any_deed" 687 688 689 160 2 3 (.ref 369) 181 (.ref 370) .none .none (.ref 371) 690 160 691) ::
 (373,fO "_law_any_deed" "_law_any_deed" (hs 45) .none (vS "law_struckdeeds_k11_texts_of_deeds" 644) 372) ::
 (374,tO #[]) ::
 (375,(⟨.none,none,(.fields #[]),#[]⟩:Obj)) ::
 (376,gO "_law_only" "_law_only" (hs 46)) ::
 (377,kO "_law_only" "_law_only" 693 694 695 169 2 3 (.ref 374) 181 (.ref 375) .none .none (.ref 376) 696 169 697) ::
 (378,fO "_law_only" "_law_only" (hs 46) .none (vS "law_struckdeeds_k11_texts_of_deeds" 644) 377) ::
 (379,tO #[]) ::
 (380,(⟨.none,none,(.fields #[]),#[]⟩:Obj)) ::
 (381,gO "_law_number" "_law_number" (hs 47)) ::
 (382,kO "_law_number" "_law_number" 699 700 701 177 1 3 (.ref 379) 181 (.ref 380) .none .none (.ref 381) 702 177 703) ::
 (383,fO "_law_number" "_law_number" (hs 47) .none (vS "law_struckdeeds_k11_texts_of_deeds" 644) 382) ::
 (384,tO #[]) ::
 (385,(⟨.none,none,(.fields #[]),#[]⟩:Obj)) ::
 (386,gO "_law_part" "_law_part" (hs 48)) ::
 (387,kO "_law_part" "_law_part" 705 706 707 186 2 3 (.ref 384) 181 (.ref 385) .none .none (.ref 386) 708 186 709) ::
 (388,fO "_law_part" "_law_part" (hs 48) .none (vS "law_struckdeeds_k11_texts_of_deeds" 644) 387) ::
 (389,tO #[]) ::
 (390,(⟨.none,none,(.fields #[]),#[]⟩:Obj)) ::
 (391,gO "_law_due" "_law_due" (hs 49)) ::
 (392,kO "_law_due" "_law_due" 711 712 713 195 1 3 (.ref 389) 181 (.ref 390) .none .none (.ref 391) 714 195 715) ::
 (393,fO "_law_due" "_law_due" (hs 49) .none (vS "law_struckdeeds_k11_texts_of_deeds" 644) 392) ::
 (394,tO #[]) ::
 (395,(⟨.none,none,(.fields #[]),#[]⟩:Obj)) ::
 (396,tO #[(vS "_law_pack_here" 720),(vS "_law_text" 721),(vS "_law_words" 722),(vS "_law_odd" 723),(vS "_law_sign" 724),(vS "_law_at" 725),(vS "_law_place_here" 726),(vS "_law_some" 727)]) ::
 (397,tO #[]) ::
 (398,gO "_law_turned_text" "_law_turned_text" (hs 50)) ::
 (399,kO "_law_turned_text" "_law_turned_text" 717 718 719 205 2 3 (.ref 394) 181 (.ref 395) (.ref 396) (.ref 397) (.ref 398) 728 205 729) ::
 (400,fO "_law_turned_text" "_law_turned_text" (hs 50) .none (vS "law_struckdeeds_k11_texts_of_deeds" 644) 399) ::
 (401,tO #[]) ::
 (402,(⟨.none,none,(.fields #[]),#[]⟩:Obj)) ::
 (403,tO #[(vS "_law_text" 734),(vS "_law_due_here" 735),(vS "_law_found" 736),(vS "_law_caught" 737),(vS "_law_e" 738)]) ::
 (404,tO #[]) ::
 (405,gO "_law_right" "_law_right" (hs 51)) ::
 (406,kO "_law_right" "_law_right" 731 732 733 214 2 3 (.ref 401) 181 (.ref 402) (.ref 403) (.ref 404) (.ref 405) 739 214 740) ::
 (407,fO "_law_right" "_law_right" (hs 51) .none (vS "law_struckdeeds_k11_texts_of_deeds" 644) 406) ::
 (408,tO #[]) ::
 (409,(⟨.none,none,(.fields #[]),#[]⟩:Obj)) ::
 (410,gO "law" "law" (hs 52)) ::
 (411,kO "law" "law" 742 743 744 224 1 3 (.ref 408) 181 (.ref 409) .none .none (.ref 410) 745 224 746) ::
 (412,fO "law" "law" (hs 52) .none (vS "law_struckdeeds_k11_texts_of_deeds" 644) 411)::[])
noncomputable abbrev hX6 (w:World) (os:OsState):PySem.W.SharedT:=⟨hT6 w.params,413,{ },⟨[]⟩,{ },748,os⟩
noncomputable abbrev hX7 (w:World) (os:OsState):PySem.W.SharedT:=⟨hT6 w.params,413,{ },⟨[]⟩,{ },748,os⟩
noncomputable def hg (P:Params) (a:Nat):Obj:=((hT6 P).get a).getD default
noncomputable def hK:Params→PySem.W.Frag:=fun P=>
 (nat_lit 2,hg P 2) ::
 (nat_lit 3,hg P 3) ::
 (nat_lit 20,hg P 20) ::
 (nat_lit 21,fO "is_whole" "is_whole" s_is_whole .none (vS "struckdeeds.words" 187) 20) ::
 (nat_lit 25,hg P 25) ::
 (nat_lit 26,fO "is_name" "is_name" s_is_name .none (vS "struckdeeds.words" 187) 25) ::
 (nat_lit 32,hg P 32) ::
 (nat_lit 33,fO "is_within" "is_within" s_is_within .none (vS "struckdeeds.words" 187) 32) ::
 (nat_lit 39,hg P 39) ::
 (nat_lit 40,fO "is_place" "is_place" s_is_place .none (vS "struckdeeds.words" 187) 39) ::
 (nat_lit 41,(⟨(.type "dict"),none,(.dict #[eS P "put" 226 (vS "npk" 227),eS P "take" 228 (vS "n" 229),eS P "move" 230 (vS "np" 231),eS P "count" 232 (vS "nk" 233),eS P "name" 234 (vS "nn" 235),eS P "split" 236 (vS "nnpk" 237),eS P "join" 238 (vS "nn" 239)] 7),#[]⟩:Obj)) ::
 (nat_lit 47,hg P 47) ::
 (nat_lit 48,fO "form_of" "form_of" s_form_of .none (vS "struckdeeds.deeds" 224) 47) ::
 (nat_lit 52,hg P 52) ::
 (nat_lit 53,fO "is_deed" "is_deed" s_is_deed .none (vS "struckdeeds.deeds" 224) 52) ::
 (nat_lit 59,hg P 59) ::
 (nat_lit 60,fO "fits" "fits" s_fits .none (vS "struckdeeds.deeds" 224) 59) ::
 (nat_lit 66,hg P 66) ::
 (nat_lit 67,fO "names_in" "names_in" s_names_in .none (vS "struckdeeds.deeds" 224) 66) ::
 (nat_lit 76,hg P 76) ::
 (nat_lit 77,(⟨(.type "type"),none,(.cls (.mk "StrikeError" [(.type "ValueError")] [(.ref 77),(.type "ValueError"),(.type "Exception"),(.type "BaseException"),(.type "object")] 76 "StrikeError" true [] [(.ref 97),(.ref 109),(.ref 128),(.ref 147),(.ref 166),(.ref 185),(.ref 197),(.ref 216),(.ref 235),(.ref 254),(.ref 266),(.ref 285),(.ref 304)] false none false)),#[(some (.ref 68)),none,(some (vS "StrikeError" 278)),(some (vS "StrikeError" 286)),(some (.builtin "ValueError.__new__")),(some (.bool true))]⟩:Obj)) ::
 (nat_lit 78,hg P 78) ::
 (nat_lit 93,hg P 93) ::
 (nat_lit 94,fO "__init__" "NoText.__init__" s_init_NoText .none (vS "struckdeeds.errors" 276) 93) ::
 (nat_lit 96,hg P 96) ::
 (nat_lit 97,(⟨(.type "type"),none,(.cls (.mk "NoText" [(.ref 77)] [(.ref 97),(.ref 77),(.type "ValueError"),(.type "Exception"),(.type "BaseException"),(.type "object")] 96 "NoText" true [] [] false none false)),#[(some (.ref 81)),none,(some (vS "NoText" 296)),(some (vS "NoText" 304)),(some (.builtin "ValueError.__new__")),(some (.bool true))]⟩:Obj)) ::
 (nat_lit 108,hg P 108) ::
 (nat_lit 109,hg P 109) ::
 (nat_lit 127,hg P 127) ::
 (nat_lit 128,hg P 128) ::
 (nat_lit 146,hg P 146) ::
 (nat_lit 147,hg P 147) ::
 (nat_lit 165,hg P 165) ::
 (nat_lit 166,hg P 166) ::
 (nat_lit 184,hg P 184) ::
 (nat_lit 185,hg P 185) ::
 (nat_lit 196,hg P 196) ::
 (nat_lit 197,hg P 197) ::
 (nat_lit 215,hg P 215) ::
 (nat_lit 216,hg P 216) ::
 (nat_lit 234,hg P 234) ::
 (nat_lit 235,hg P 235) ::
 (nat_lit 253,hg P 253) ::
 (nat_lit 254,hg P 254) ::
 (nat_lit 265,hg P 265) ::
 (nat_lit 266,hg P 266) ::
 (nat_lit 284,hg P 284) ::
 (nat_lit 285,hg P 285) ::
 (nat_lit 303,hg P 303) ::
 (nat_lit 304,hg P 304) ::
 (nat_lit 312,hg P 312) ::
 (nat_lit 313,fO "show_whole" "show_whole" s_show_whole .none (vS "struckdeeds.figures" 594) 312) ::
 (nat_lit 319,hg P 319) ::
 (nat_lit 320,fO "read_whole" "read_whole" s_read_whole .none (vS "struckdeeds.figures" 594) 319) ::
 (nat_lit 324,hg P 324) ::
 (nat_lit 325,fO "is_row_of_figures" "is_row_of_figures" s_is_row_of_figures .none (vS "struckdeeds.figures" 594) 324) ::
 (nat_lit 329,hg P 329) ::
 (nat_lit 330,fO "show_deed" "show_deed" s_show_deed .none (vS "struckdeeds.deedtexts" 630) 329) ::
 (nat_lit 334,hg P 334) ::
 (nat_lit 335,fO "read_deed" "read_deed" s_read_deed .none (vS "struckdeeds.deedtexts" 630) 334) ::
 (nat_lit 341,hg P 341) ::
 (nat_lit 342,fO "_law_pack" "_law_pack" s__law_pack .none (vS "law_struckdeeds_k11_texts_of_deeds" 644) 341) ::
 (nat_lit 348,hg P 348) ::
 (nat_lit 349,fO "_law_take" "_law_take" s__law_take .none (vS "law_struckdeeds_k11_texts_of_deeds" 644) 348) ::
 (nat_lit 353,hg P 353) ::
 (nat_lit 354,fO "_law_names" "_law_names" s__law_names .none (vS "law_struckdeeds_k11_texts_of_deeds" 644) 353) ::
 (nat_lit 360,hg P 360) ::
 (nat_lit 361,fO "_law_count" "_law_count" s__law_count .none (vS "law_struckdeeds_k11_texts_of_deeds" 644) 360) ::
 (nat_lit 367,hg P 367) ::
 (nat_lit 368,fO "_law_place" "_law_place" s__law_place .none (vS "law_struckdeeds_k11_texts_of_deeds" 644) 367) ::
 (nat_lit 372,hg P 372) ::
 (nat_lit 373,fO "_law_any_deed" "_law_any_deed" s__law_any_deed .none (vS "law_struckdeeds_k11_texts_of_deeds" 644) 372) ::
 (nat_lit 377,hg P 377) ::
 (nat_lit 378,fO "_law_only" "_law_only" s__law_only .none (vS "law_struckdeeds_k11_texts_of_deeds" 644) 377) ::
 (nat_lit 382,hg P 382) ::
 (nat_lit 383,fO "_law_number" "_law_number" s__law_number .none (vS "law_struckdeeds_k11_texts_of_deeds" 644) 382) ::
 (nat_lit 387,hg P 387) ::
 (nat_lit 388,fO "_law_part" "_law_part" s__law_part .none (vS "law_struckdeeds_k11_texts_of_deeds" 644) 387) ::
 (nat_lit 392,hg P 392) ::
 (nat_lit 393,fO "_law_due" "_law_due" s__law_due .none (vS "law_struckdeeds_k11_texts_of_deeds" 644) 392) ::
 (nat_lit 399,hg P 399) ::
 (nat_lit 400,fO "_law_turned_text" "_law_turned_text" s__law_turned_text .none (vS "law_struckdeeds_k11_texts_of_deeds" 644) 399) ::
 (nat_lit 406,hg P 406) ::
 (nat_lit 407,fO "_law_right" "_law_right" s__law_right .none (vS "law_struckdeeds_k11_texts_of_deeds" 644) 406) ::
 (nat_lit 411,hg P 411) ::
 (nat_lit 412,fO "law" "law" s_law .none (vS "law_struckdeeds_k11_texts_of_deeds" 644) 411)::[]
def hA:List Addr:=[2,3,20,21,25,26,32,33,39,40,41,47,48,52,53,59,60,66,67,76,77,78,93,94,96,97,108,109,127,128,146,147,165,166,184,185,196,197,215,216,234,235,253,254,265,266,284,285,303,304,312,313,319,320,324,325,329,330,334,335,341,342,348,349,353,354,360,361,367,368,372,373,377,378,382,383,387,388,392,393,399,400,406,407,411,412]
theorem hE:∀P,hA=(hK P).map (·.1):=fun _=>by kernel_rfl
theorem hp1 (w:World):(fun os=>PySem.W.topGo treeTable PySem.Challenge.pw_struckdeeds_k11_texts_of_deeds w 11 (Option.some (PySem.Value.ref 6)) 12 ⟨PySem.W.boot_heap w.params,⟨[]⟩,PySem.W.boot_drawn,PySem.W.boot_toks,os⟩ (PySem.W.topStub PySem.Challenge.pw_struckdeeds_k11_texts_of_deeds))=fun os=>some ((hX1 w os).abs,⟨denote treeTable hC,hC,{ line:=0,col:=0,endLine:=0,endCol:=0 },hF⟩):=by kernel_rfl
theorem hp2 (w:World):(fun os=>PySem.W.segRunT treeTable PySem.Challenge.pw_struckdeeds_k11_texts_of_deeds w 11 (Option.some (PySem.Value.ref 6)) 1 1 (hX1 w os) (PySem.W.blockOf hB hN hC { line:=0,col:=0,endLine:=0,endCol:=0 } hF))=fun os=>some (.next,hX2 w os,hC,{ line:=0,col:=0,endLine:=0,endCol:=0 }):=by kernel_rfl
def hQ3:List Stmt:=(hB.drop 0).take 19
abbrev Php3 (w:World):Prop:=(fun os=>PySem.W.segRunT treeTable PySem.Challenge.pw_struckdeeds_k11_texts_of_deeds w 11 (Option.some (PySem.Value.ref 6)) 1 1288 (hX2 w os) (PySem.W.piecesOf hQ3 hN hC { line:=0,col:=0,endLine:=0,endCol:=0 } hF))=fun os=>some (.next,hX3 w os,hC,{ line:=46,col:=0,endLine:=49,endCol:=24 })
theorem hp3_false (w:World):(fun os=>PySem.W.segRunT treeTable PySem.Challenge.pw_struckdeeds_k11_texts_of_deeds (w.withFollow "special-get-raises" false) 11 (Option.some (PySem.Value.ref 6)) 1 1288 (hX2 (w.withFollow "special-get-raises" false) os) (PySem.W.piecesOf hQ3 hN hC { line:=0,col:=0,endLine:=0,endCol:=0 } hF))=fun os=>some (.next,hX3 (w.withFollow "special-get-raises" false) os,hC,{ line:=46,col:=0,endLine:=49,endCol:=24 }):=by kernel_rfl
theorem hp3_true (w:World):(fun os=>PySem.W.segRunT treeTable PySem.Challenge.pw_struckdeeds_k11_texts_of_deeds (w.withFollow "special-get-raises" true) 11 (Option.some (PySem.Value.ref 6)) 1 1288 (hX2 (w.withFollow "special-get-raises" true) os) (PySem.W.piecesOf hQ3 hN hC { line:=0,col:=0,endLine:=0,endCol:=0 } hF))=fun os=>some (.next,hX3 (w.withFollow "special-get-raises" true) os,hC,{ line:=46,col:=0,endLine:=49,endCol:=24 }):=by kernel_rfl
theorem hp3:∀w:World,Php3 w:=PySem.W.byRow2 "special-get-raises" hp3_false hp3_true
def hQ4:List Stmt:=(hB.drop 19).take 5
theorem hp4 (w:World):(fun os=>PySem.W.segRunT treeTable PySem.Challenge.pw_struckdeeds_k11_texts_of_deeds w 11 (Option.some (PySem.Value.ref 6)) 1 1194 (hX3 w os) (PySem.W.piecesOf hQ4 hN hC { line:=46,col:=0,endLine:=49,endCol:=24 } hF))=fun os=>some (.next,hX4 w os,hC,{ line:=64,col:=0,endLine:=67,endCol:=24 }):=by kernel_rfl
def hQ5:List Stmt:=(hB.drop 24).take 16
theorem hp5 (w:World):(fun os=>PySem.W.segRunT treeTable PySem.Challenge.pw_struckdeeds_k11_texts_of_deeds w 11 (Option.some (PySem.Value.ref 6)) 1 1396 (hX4 w os) (PySem.W.piecesOf hQ5 hN hC { line:=64,col:=0,endLine:=67,endCol:=24 } hF))=fun os=>some (.next,hX5 w os,hC,{ line:=124,col:=0,endLine:=124,endCol:=8 }):=by kernel_rfl
def hQ6:List Stmt:=(hB.drop 40).take 13
theorem hp6 (w:World):(fun os=>PySem.W.segRunT treeTable PySem.Challenge.pw_struckdeeds_k11_texts_of_deeds w 11 (Option.some (PySem.Value.ref 6)) 1 375 (hX5 w os) (PySem.W.piecesOf hQ6 hN hC { line:=124,col:=0,endLine:=124,endCol:=8 } hF))=fun os=>some (.next,hX6 w os,hC,{ line:=224,col:=0,endLine:=239,endCol:=116 }):=by kernel_rfl
theorem hp7 (w:World):(fun os=>PySem.W.topRun treeTable PySem.Challenge.pw_struckdeeds_k11_texts_of_deeds w 11 (Option.some (PySem.Value.ref 6)) 2 (hX6 w os).abs (PySem.W.restOf [] hN hC { line:=224,col:=0,endLine:=239,endCol:=116 } hF))=fun os=>some (hX7 w os).abs:=by kernel_rfl
theorem hR1:hB=(hQ3++(hQ4++(hQ5++(hQ6++[])))):=by kernel_rfl
theorem hr7 (w:World) (os:OsState):PySem.W.topRun treeTable PySem.Challenge.pw_struckdeeds_k11_texts_of_deeds w 11 (Option.some (PySem.Value.ref 6)) 2 (hX6 w os).abs (PySem.W.restOf [] hN hC { line:=224,col:=0,endLine:=239,endCol:=116 } hF)=some (hX7 w os).abs:=congrFun (hp7 w) os
theorem hr6 (w:World) (os:OsState):PySem.W.topRun treeTable PySem.Challenge.pw_struckdeeds_k11_texts_of_deeds w 11 (Option.some (PySem.Value.ref 6)) (375+2) (hX5 w os).abs (PySem.W.restOf (hQ6++[]) hN hC { line:=124,col:=0,endLine:=124,endCol:=8 } hF)=some (hX7 w os).abs:=PySem.W.piece_app (n:=375) (N:=2) (s:=(hX5 w os).abs) (s':=(hX6 w os).abs) (r:=(hX7 w os).abs) (l:=hQ6) (rest:=[]) (c:=hC) (pos:={ line:=124,col:=0,endLine:=124,endCol:=8 }) (p':={ line:=224,col:=0,endLine:=239,endCol:=116 }) (env:=hN) (q:={ line:=0,col:=0,endLine:=0,endCol:=0 }) (PySem.W.segRun_of (congrFun (hp6 w) os)) (hr7 w os)
theorem hr5 (w:World) (os:OsState):PySem.W.topRun treeTable PySem.Challenge.pw_struckdeeds_k11_texts_of_deeds w 11 (Option.some (PySem.Value.ref 6)) (1396+(375+2)) (hX4 w os).abs (PySem.W.restOf (hQ5++(hQ6++[])) hN hC { line:=64,col:=0,endLine:=67,endCol:=24 } hF)=some (hX7 w os).abs:=PySem.W.piece_app (n:=1396) (N:=(375+2)) (s:=(hX4 w os).abs) (s':=(hX5 w os).abs) (r:=(hX7 w os).abs) (l:=hQ5) (rest:=(hQ6++[])) (c:=hC) (pos:={ line:=64,col:=0,endLine:=67,endCol:=24 }) (p':={ line:=124,col:=0,endLine:=124,endCol:=8 }) (env:=hN) (q:={ line:=0,col:=0,endLine:=0,endCol:=0 }) (PySem.W.segRun_of (congrFun (hp5 w) os)) (hr6 w os)
theorem hr4 (w:World) (os:OsState):PySem.W.topRun treeTable PySem.Challenge.pw_struckdeeds_k11_texts_of_deeds w 11 (Option.some (PySem.Value.ref 6)) (1194+(1396+(375+2))) (hX3 w os).abs (PySem.W.restOf (hQ4++(hQ5++(hQ6++[]))) hN hC { line:=46,col:=0,endLine:=49,endCol:=24 } hF)=some (hX7 w os).abs:=PySem.W.piece_app (n:=1194) (N:=(1396+(375+2))) (s:=(hX3 w os).abs) (s':=(hX4 w os).abs) (r:=(hX7 w os).abs) (l:=hQ4) (rest:=(hQ5++(hQ6++[]))) (c:=hC) (pos:={ line:=46,col:=0,endLine:=49,endCol:=24 }) (p':={ line:=64,col:=0,endLine:=67,endCol:=24 }) (env:=hN) (q:={ line:=0,col:=0,endLine:=0,endCol:=0 }) (PySem.W.segRun_of (congrFun (hp4 w) os)) (hr5 w os)
theorem hr3 (w:World) (os:OsState):PySem.W.topRun treeTable PySem.Challenge.pw_struckdeeds_k11_texts_of_deeds w 11 (Option.some (PySem.Value.ref 6)) (1288+(1194+(1396+(375+2)))) (hX2 w os).abs (PySem.W.restOf (hQ3++(hQ4++(hQ5++(hQ6++[])))) hN hC { line:=0,col:=0,endLine:=0,endCol:=0 } hF)=some (hX7 w os).abs:=PySem.W.piece_app (n:=1288) (N:=(1194+(1396+(375+2)))) (s:=(hX2 w os).abs) (s':=(hX3 w os).abs) (r:=(hX7 w os).abs) (l:=hQ3) (rest:=(hQ4++(hQ5++(hQ6++[])))) (c:=hC) (pos:={ line:=0,col:=0,endLine:=0,endCol:=0 }) (p':={ line:=46,col:=0,endLine:=49,endCol:=24 }) (env:=hN) (q:={ line:=0,col:=0,endLine:=0,endCol:=0 }) (PySem.W.segRun_of (congrFun (hp3 w) os)) (hr4 w os)
theorem hr2 (w:World) (os:OsState):PySem.W.topRun treeTable PySem.Challenge.pw_struckdeeds_k11_texts_of_deeds w 11 (Option.some (PySem.Value.ref 6)) (1+(1288+(1194+(1396+(375+2))))) (hX1 w os).abs ⟨denote treeTable hC,hC,{ line:=0,col:=0,endLine:=0,endCol:=0 },hF⟩=some (hX7 w os).abs:=PySem.W.piece_block (n:=1) (N:=(1288+(1194+(1396+(375+2))))) (s:=(hX1 w os).abs) (s':=(hX2 w os).abs) (r:=(hX7 w os).abs) (b:=hB) (env:=hN) (c:=hC) (pos:={ line:=0,col:=0,endLine:=0,endCol:=0 }) (p':={ line:=0,col:=0,endLine:=0,endCol:=0 }) (q:={ line:=0,col:=0,endLine:=0,endCol:=0 }) (PySem.W.segRun_of (congrFun (hp2 w) os)) (by rw[hR1];exact hr3 w os)
noncomputable def hH:Params→Heap:=fun P=>PySem.W.absHeap (hT6 P) 413 { }
theorem hr1 (w:World) (os:OsState):PySem.W.topRun treeTable PySem.Challenge.pw_struckdeeds_k11_texts_of_deeds w 11 (Option.some (PySem.Value.ref 6)) (12+(1+(1288+(1194+(1396+(375+2)))))) ⟨PySem.W.boot_heap w.params,⟨[]⟩,PySem.W.boot_drawn,PySem.W.boot_toks,os⟩ (PySem.W.topStub PySem.Challenge.pw_struckdeeds_k11_texts_of_deeds)=some (hX7 w os).abs:=PySem.W.go_top (n:=12) (N:=(1+(1288+(1194+(1396+(375+2)))))) (s':=(hX1 w os).abs) (t':=⟨denote treeTable hC,hC,{ line:=0,col:=0,endLine:=0,endCol:=0 },hF⟩) (congrFun (hp1 w) os) (hr2 w os)
theorem hR (w:World) (os:OsState):PySem.W.topRun treeTable PySem.Challenge.pw_struckdeeds_k11_texts_of_deeds w 11 (Option.some (PySem.Value.ref 6)) (12+(1+(1288+(1194+(1396+(375+2)))))) ⟨PySem.W.boot_heap w.params,⟨[]⟩,PySem.W.boot_drawn,PySem.W.boot_toks,os⟩ (PySem.W.topStub PySem.Challenge.pw_struckdeeds_k11_texts_of_deeds)=some ⟨hH w.params,⟨[]⟩,{ },748,os⟩:=(hr1 w os).trans (by kernel_rfl)
theorem hZ (w:World):(fun os=>((PySem.W.staticsOk (PySem.importedModules PySem.Challenge.pw_struckdeeds_k11_texts_of_deeds.main.body) (PySem.W.boot_heap w.params) (hH w.params)&&PySem.W.namesBound PySem.Challenge.pw_struckdeeds_k11_texts_of_deeds (hH w.params)&&PySem.W.gensDone ⟨hH w.params,⟨[]⟩,{ },748,os⟩&&PySem.W.laidKept (PySem.W.boot_heap w.params) (hH w.params)),PySem.W.openSeen hV [Str.ofString "FORMS", Str.ofString "GROUP"] (PySem.importedModules PySem.Challenge.pw_struckdeeds_k11_texts_of_deeds.main.body) (fun s=>PySem.W.xlAt hV [(Str.ofString "GROUP", PySem.W.WData.int (1000000000000000000))] s&&PySem.W.recOk (PySem.W.RowW.records (PySem.W.OpenRow.toRowW (PySem.W.OpenLaw.row PySem.Challenge.rw_struckdeeds_k11_texts_of_deeds))) s) true ⟨hH w.params,⟨[]⟩,{ },748,os⟩,PySem.W.Hook.obs (PySem.W.kHook hK hA hE) ⟨hH w.params,⟨[]⟩,{ },748,os⟩))=fun _=>(true,PySem.W.openGood hV [Str.ofString "FORMS", Str.ofString "GROUP"],PySem.W.Hook.val (PySem.W.kHook hK hA hE) w):=by kernel_rfl
theorem hO:PySem.W.opening PySem.Challenge.pw_struckdeeds_k11_texts_of_deeds=PySem.W.plainProg PySem.Challenge.pw_struckdeeds_k11_texts_of_deeds.main.scope.names:=by kernel_rfl
theorem hG (w:World):((PySem.W.boot_heap w.params).isNs mainGlobals&&(⟨[]⟩:Array GenState).size==0,(PySem.W.boot_heap w.params).objs.size,(PySem.W.boot_heap w.params).nsMap mainGlobals (Str.ofString "__annotations__"))=(true,11,Option.some (PySem.Value.ref 6)):=by kernel_rfl
theorem hJ (s:Shared):PySem.fenceModules? PySem.Challenge.pw_struckdeeds_k11_texts_of_deeds s=some s:=by kernel_rfl
theorem hL:PySem.W.LeftO PySem.Challenge.pw_struckdeeds_k11_texts_of_deeds hV [Str.ofString "FORMS", Str.ofString "GROUP"] (fun s=>PySem.W.xlAt hV [(Str.ofString "GROUP", PySem.W.WData.int (1000000000000000000))] s&&PySem.W.recOk (PySem.W.RowW.records (PySem.W.OpenRow.toRowW (PySem.W.OpenLaw.row PySem.Challenge.rw_struckdeeds_k11_texts_of_deeds))) s) (PySem.W.Hook.obs (PySem.W.kHook hK hA hE)) (PySem.W.Hook.val (PySem.W.kHook hK hA hE)) 8624:=
 @PySem.W.LeftO.of_pieces PySem.Challenge.pw_struckdeeds_k11_texts_of_deeds hV [Str.ofString "FORMS", Str.ofString "GROUP"] (fun s=>PySem.W.xlAt hV [(Str.ofString "GROUP", PySem.W.WData.int (1000000000000000000))] s&&PySem.W.recOk (PySem.W.RowW.records (PySem.W.OpenRow.toRowW (PySem.W.OpenLaw.row PySem.Challenge.rw_struckdeeds_k11_texts_of_deeds))) s) _ (PySem.W.Hook.obs (PySem.W.kHook hK hA hE)) (PySem.W.Hook.val (PySem.W.kHook hK hA hE)) 8624 true PySem.W.boot_heap hH ⟨[]⟩ ⟨[]⟩ PySem.W.boot_drawn { } PySem.W.boot_toks 748 11 (Option.some (PySem.Value.ref 6)) (12+(1+(1288+(1194+(1396+(375+2)))))) (PySem.W.boot_open hO (by decide) hJ) hG hR (by decide) hZ
theorem hS:PySem.W.OpenLaw.wellSaid PySem.Challenge.rw_struckdeeds_k11_texts_of_deeds=true:=by kernel_rfl
theorem oNoText_K (P:Params):OnlyAt (hK P) [97,109,128,147,166,185,197,216,235,254,266,285,304] 77 97 0:=⟨⟨by kernel_rfl,by kernel_rfl,by kernel_rfl,by kernel_rfl,by kernel_rfl,by kernel_rfl,by kernel_rfl,by kernel_rfl⟩,fun j c h=>by
 have hj:j < 13:=(List.getElem?_eq_some_iff.mp h).1
 obtain rfl | rfl | rfl | rfl | rfl | rfl | rfl | rfl | rfl | rfl | rfl | rfl | rfl:j=0∨j=1∨j=2∨j=3∨j=4∨j=5∨j=6∨j=7∨j=8∨j=9∨j=10∨j=11∨j=12:=by omega
 all_goals (have e:=Option.some.inj h;subst e;kernel_rfl),by kernel_rfl,by kernel_rfl⟩
theorem naNoText_K (P:Params):NoAttr (hK P) 97 "part" := (by kernel_rfl:PySem.W.findIn (hK P) (.ref 97) "part"=some none)
end DL
open PySem PySem.W PyProof.Rows
set_option maxRecDepth 100000 in
set_option maxHeartbeats 0 in
theorem PySem.Challenge.cw_struckdeeds_k11_texts_of_deeds_holds : PySem.Challenge.rw_struckdeeds_k11_texts_of_deeds.Holds := by
 w_on
 refine PySem.W.holds_law DL.hS fun said=>?_
 refine PySem.W.holds_open (q:=DL.hV) (loose:=[Str.ofString "FORMS", Str.ofString "GROUP"]) (Xt:=(fun s=>PySem.W.xlAt DL.hV [(Str.ofString "GROUP", PySem.W.WData.int (1000000000000000000))] s&&PySem.W.recOk (PySem.W.RowW.records (PySem.W.OpenRow.toRowW (PySem.W.OpenLaw.row PySem.Challenge.rw_struckdeeds_k11_texts_of_deeds))) s)) (XP:=PySem.W.XL DL.hV [(Str.ofString "GROUP", PySem.W.WData.int (1000000000000000000))]) (Yf:=PySem.W.Hook.obs (PySem.W.kHook DL.hK DL.hA DL.hE)) (Ya:=PySem.W.Hook.val (PySem.W.kHook DL.hK DL.hA DL.hE)) (YP:=PySem.W.Hook.says (PySem.W.kHook DL.hK DL.hA DL.hE)) (N:=8624) DL.hL (PySem.W.Hook.of (PySem.W.kHook DL.hK DL.hA DL.hE)) (PySem.W.Hook.keeps (PySem.W.kHook DL.hK DL.hA DL.hE)) (fun s e=>PySem.W.xl_of s (Bool.and_eq_true_iff.mp e).1) PySem.W.XL.keeps (by rfl) (by rfl) (by rfl) (fun s e=>PySem.W.recFacts_of (Bool.and_eq_true_iff.mp e).2) rfl said (by decide +kernel) ⟨rfl,rfl,rfl,rfl,rfl,by decide +kernel⟩ ?hw ?hc
 (case hw=>w_witness2)
 k_fill
 refine DL.walk (l:=PySem.Challenge.rw_struckdeeds_k11_texts_of_deeds) rfl rfl (fun w h Y=>PySem.W.kIn_of Y) ?F
 case F=>
   intro w mg fa h KX G hmg
   refine' DL.all_mk KX G hmg ?b0 ?b1 ?b2 ?b3 ?b4 ?b5 ?b6 ?b7 ?b8 ?b9 ?b10 ?b11 ?b12 ?b13 ?b14 ?b15 ?b16 ?b17 ?b18 ?b19 ?b20 ?b21 ?b22 ?b23 ?b24 ?b25 ?z_ValueError ?z_abs ?z_all ?z_bool ?z_divmod ?z_int ?z_isinstance ?z_len ?z_range ?z_reversed ?z_str ?z_tuple ?z_zip ?y_FIGURES ?y_FORMS ?x_FORMS ?s_FORMS ?y_GROUP ?y_LAST_PLACE ?y_LETTERS ?y_LONGEST_NAME ?ac_NoText ?lc_NoText ?kc_NoText ?ic_NoText ?fl_NoText ?cc_NoText ?if_NoText ?kf_NoText ?sa_NoText ?ta_NoText ?ac_NoBook ?ac_NoCall ?ac_NoDeed ?ac_NoJoin ?ac_NoLine ?ac_NoLog ?ac_NoMark ?ac_NoName ?ac_NoNeed ?ac_NoRow ?ac_NoStand ?ac_NotNow ?ac_S ?lk_S ?o_T ?na_T
   all_goals (first | (refine' DL.fnIn_mk ?fa ?fl ?fc ?fk;(case fa=>k_is);(case fl=>k_is);(case fc=>k_is);(case fk=>k_is)) | skip)
   (case z_ValueError=>k_is)
   (case z_abs=>k_is)
   (case z_all=>k_is)
   (case z_bool=>k_is)
   (case z_divmod=>k_is)
   (case z_int=>k_is)
   (case z_isinstance=>k_is)
   (case z_len=>k_is)
   (case z_range=>k_is)
   (case z_reversed=>k_is)
   (case z_str=>k_is)
   (case z_tuple=>k_is)
   (case z_zip=>k_is)
   (case y_FIGURES=>k_is)
   (case y_FORMS=>k_is)
   (case x_FORMS=>k_is)
   (case s_FORMS=>decide)
   (case y_GROUP=>k_is)
   (case y_LAST_PLACE=>k_is)
   (case y_LETTERS=>k_is)
   (case y_LONGEST_NAME=>k_is)
   (case ac_NoText=>k_is)
   (case lc_NoText=>k_is)
   (case kc_NoText=>k_is)
   (case ic_NoText=>k_is)
   (case fl_NoText=>k_is)
   (case cc_NoText=>k_is)
   (case if_NoText=>k_is)
   (case kf_NoText=>k_is)
   (case sa_NoText=>k_is)
   (case ta_NoText=>k_is)
   (case ac_NoBook=>k_is)
   (case ac_NoCall=>k_is)
   (case ac_NoDeed=>k_is)
   (case ac_NoJoin=>k_is)
   (case ac_NoLine=>k_is)
   (case ac_NoLog=>k_is)
   (case ac_NoMark=>k_is)
   (case ac_NoName=>k_is)
   (case ac_NoNeed=>k_is)
   (case ac_NoRow=>k_is)
   (case ac_NoStand=>k_is)
   (case ac_NotNow=>k_is)
   (case ac_S=>k_is)
   (case lk_S=>k_is)
   (case o_T=>exact DL.oNoText_K _)
   (case na_T=>exact DL.naNoText_K _)
#print axioms PySem.Challenge.cw_struckdeeds_k11_texts_of_deeds_holds
