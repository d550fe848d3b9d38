import PyProof.Rows.All
import Wide.All
import OpenK.AllK
import Wide.FinOn
import Lean
import PyProof.EqAt
import PyProof.EqKinds
import PyProof.TupleCall
import KE.KRevIter
import PyProof.P3In
import PyProof.SumAnyB
import PyProof.CollectIter
import KE.KIntText
import PySem.Challenge.RW_struckdeeds_k14_whole_names_called_other
set_option Elab.async false
set_option linter.all false
set_option maxRecDepth 100000
set_option compiler.extract_closed false
set_option maxHeartbeats 4000000
open PySem renaming wpAny_bind → zZ, wpAny_pure → zY, codeAny_mono → xP, wpAny_newObj_type → xN
open List renaming length_map → zX, getElem?_eq_getElem → zV, mem_map → zL, size_toArray → zJ, map_cons → zI, getElem?_map → zF, map_map → zD, mem_append_right → zB, length_append → yY, mem_cons → yX, mem_append → yW, mem_cons_of_mem → yV, getD_eq_getElem?_getD → yU, getElem?_eq_some_iff → yT, length_cons → yR, getElem?_append_left → yQ, getElem?_append_right → yP, mem_of_getElem? → yN, map_congr_left → yM, mem_filter → yL, length_filter_le → yJ, length_range → xZ, not_mem_nil → xX, nodup_cons → xW, filter_map → xV, map_append → xJ
open PySem.Heap renaming get?_push_of_some → zW, lt_size → zM, get?_push_size → yZ, get?_update_other → yC, get?_update_ne → yB
open Nat renaming le_refl → zR, lt_of_le_of_lt → zQ, lt_of_lt_of_le → zP, le_trans → zN, ne_of_lt → zC, lt_irrefl → yF, le_of_ble_eq_true → yD, zero_le → xU, le_of_lt → xT, lt_trans → xR
open PySem.SeqAt renaming shaped → zH, canLay_of_shaped → zG
open PySem.Calls renaming spliced_cons → xQ
open PySem.Builtin.Int renaming intBits → xL
open PyProof.Rows renaming callWith_type1 → xI, sortedS → xH
abbrev sT (n:Nat):PySem.Stmt:=PySem.Challenge.pw_struckdeeds_k14_whole_names_called_other.main.body.getD n (.Pass ⟨0,0,0,0⟩)
abbrev Frg:=PySem.W.Frag
theorem nft:¬(false=true):=Bool.false_ne_true
namespace L2
open PySem PySem.Spec PyProof.Rows
abbrev Key:=Sum Int Str
def LU:Key→Value→Bool
 | .inl k,v=>Value.isInt k v
 | .inr x,v=>Value.isStrOf x v
def uY (w:World):Key→Int
 | .inl k=>hashInt k
 | .inr x=>hashStr w x
theorem B4:∀{k:Key}{v:Value},LU k v=true→(∃i t,k=Sum.inl i∧v=Value.int i t)∨(∃x t,k=Sum.inr x∧v=Value.str x t)
 | .inl i,v,h=>by
   obtain⟨t,e⟩:=Value.isInt_shape (k:=i) (v:=v) h
   exact .inl ⟨i,t,rfl,e⟩
 | .inr x,v,h=>by
   obtain⟨t,e⟩:=Value.isStrOf_shape (x:=x) (v:=v) h
   exact .inr ⟨x,t,rfl,e⟩
theorem ZO (i:Int) (t:Tok):LU (.inl i) (.int i t)=true:=by simp[LU,Value.isInt]
theorem ZP (x:Str) (t:Tok):LU (.inr x) (.str x t)=true:=by simp[LU,Value.isStrOf]
theorem oE (a b:Int):decide ((Sum.inl a:Key)=Sum.inl b)=(a==b):=by
 by_cases e:a=b
 · subst e;simp
 · have h:¬(Sum.inl a:Key)=Sum.inl b:=fun q=>e (Sum.inl.inj q)
   rw[decide_eq_false h]
   exact(beq_eq_false_iff_ne.mpr e).symm
theorem oF (a b:Str):decide ((Sum.inr a:Key)=Sum.inr b)=decide (a=b):=by
 by_cases e:a=b
 · subst e;simp
 · have h:¬(Sum.inr a:Key)=Sum.inr b:=fun q=>e (Sum.inr.inj q)
   rw[decide_eq_false h,decide_eq_false e]
theorem oG (a:Int) (b:Str):decide ((Sum.inl a:Key)=Sum.inr b)=false:=decide_eq_false (fun q=>nomatch q)
theorem oH (a:Str) (b:Int):decide ((Sum.inr a:Key)=Sum.inl b)=false:=decide_eq_false (fun q=>nomatch q)
def AK (prog:Program) (w:World):PySem.KeyKind prog w Key where
 is:=LU
 hash:=uY w
 inj:=fun v a b ha hb=>by
   rcases B4 ha with ⟨i,t,rfl,rfl⟩ | ⟨x,t,rfl,rfl⟩
   · rcases B4 hb with ⟨j,u,rfl,e⟩ | ⟨y,u,rfl,e⟩
     · injection e with e1 _;rw[e1]
     · exact nomatch e
   · rcases B4 hb with ⟨j,u,rfl,e⟩ | ⟨y,u,rfl,e⟩
     · exact nomatch e
     · injection e with e1 _;rw[e1]
 byValue:=fun k v h=>by
   rcases B4 h with ⟨i,t,rfl,rfl⟩ | ⟨x,t,rfl,rfl⟩ <;> rfl
 pyHash:=fun hv h=>by
   rcases B4 hv with ⟨i,t,rfl,rfl⟩ | ⟨x,t,rfl,rfl⟩
   · exact wpAny_pyHash_int h
   · exact wpAny_pyHash_str h
 eqBool:=fun hu hv h=>by
   rcases B4 hu with ⟨i,t,rfl,rfl⟩ | ⟨x,t,rfl,rfl⟩
   · rcases B4 hv with ⟨j,u,rfl,rfl⟩ | ⟨y,u,rfl,rfl⟩
     · rw[oE] at h;exact wpAny_eqBool_int h
     · rw[oG] at h;exact SeqAt.EqAt.int_str i t y u _ _ _ _ h
   · rcases B4 hv with ⟨j,u,rfl,rfl⟩ | ⟨y,u,rfl,rfl⟩
     · rw[oH] at h;exact SeqAt.EqAt.str_int x t j u _ _ _ _ h
     · rw[oF] at h;exact wpAny_eqBool_str h
 «strs»:=fun k x t v h=>by
   rcases B4 h with ⟨i,u,rfl,e⟩ | ⟨y,u,rfl,e⟩
   · exact nomatch e
   · injection e with e1 _
     subst e1
     cases v <;> rfl
theorem T4 (prog:Program) (w:World) (i:Int) (t:Tok):(AK prog w).is (.inl i) (.int i t)=true:=ZO i t
theorem LV (prog:Program) (w:World) (x:Str) (t:Tok):(AK prog w).is (.inr x) (.str x t)=true:=ZP x t
end L2
namespace L2
open PySem PySem.Spec PyProof.Rows
inductive V where
 | non | bl (b:Bool) | int (i:Int) | str (x:Str) | byt (b:Array UInt8) | flt (b:UInt64) | ref (a:Addr) | ty (n:String)
 deriving DecidableEq
def RelV:V→Value→Prop
 | .non,u=>u=Value.none
 | .bl b,u=>u=Value.bool b
 | .int i,u=>∃t,u=Value.int i t
 | .str x,u=>∃t,u=Value.str x t
 | .byt b,u=>∃t,u=Value.bytes b t
 | .flt b,u=>∃t,u=Value.float b t
 | .ref a,u=>u=Value.ref a
 | .ty n,u=>u=Value.type n
abbrev Vals:List V→List Value→Prop:=Paired RelV
theorem Vals.length {xs:List V}{us:List Value}(r:Vals xs us):xs.length=us.length:=Paired.length r
theorem Vals.get:∀{xs:List V}{us:List Value}{i:Nat}{x:V},Vals xs us→xs[i]?=some x→∃u,us[i]?=some u∧RelV x u
 | _,_,_,_,.nil,e=>by simp at e
 | _,_,0,_,.cons r _,e=>by simp at e;subst e;exact⟨_,rfl,r⟩
 | _,_,i+1,x,.cons _ t,e=>by
   obtain⟨u,h1,h2⟩:=Vals.get (i:=i) (x:=x) t (by simpa using e)
   exact⟨u,by simpa using h1,h2⟩
theorem Vals.set {x:V}{u:Value}(r:RelV x u):∀{xs:List V}{us:List Value}(i:Nat),Vals xs us→Vals (xs.set i x) (us.set i u)
 | _,_,_,.nil=>.nil
 | _,_,0,.cons _ t=>.cons r t
 | _,_,i+1,.cons q t=>.cons q (Vals.set r i t)
theorem Vals.append:∀{xs ys:List V}{us ws:List Value},Vals xs us→Vals ys ws→Vals (xs++ys) (us++ws)
 | _,_,_,_,.nil,s=>s
 | _,_,_,_,.cons r t,s=>.cons r (Vals.append t s)
theorem Vals.take:∀{xs:List V}{us:List Value}(n:Nat),Vals xs us→Vals (xs.take n) (us.take n)
 | _,_,0,_=>.nil
 | _,_,_+1,.nil=>.nil
 | _,_,n+1,.cons r t=>.cons r (Vals.take n t)
theorem Vals.drop:∀{xs:List V}{us:List Value}(n:Nat),Vals xs us→Vals (xs.drop n) (us.drop n)
 | _,_,0,r=>r
 | _,_,_+1,.nil=>.nil
 | _,_,n+1,.cons _ t=>Vals.drop n t
def RelO:Option V→Option Value→Prop
 | some v,some u=>RelV v u
 | none,none=>True
 | _,_=>False
def KV {κ:Type}:List (κ×V)→List (κ×Value)→Prop:=Paired fun(p:κ×V) (q:κ×Value)=>p.1=q.1∧RelV p.2 q.2
def kV:Key→V
 | .inl i=>.int i
 | .inr x=>.str x
inductive HO where
 | lst (xs:List V)
 | tup (xs:List V)
 | dK (kvs:List (Key×V)) | dT (kvs:List (List Key×V))
 | set (S:Int→Bool) (n:Nat)
 | ins (C dx:Addr) (fs:List (Str×V))
 | own (x:Addr)
 | xd (fs:List (Str×V))
 | met (f x:Addr)
 | rng (lo hi:Int)
 | frz (o:Obj) (u:HO)
 | tbl (ps:Array Value)
 | ext (φ:Heap→Prop)
abbrev Hp:=Addr→Option HO
def upd (H:Hp) (a:Addr) (o:HO):Hp:=fun b=>if b=a then some o else H b
theorem AG {H:Hp}{a:Addr}{o:HO}:upd H a o a=some o:=by unfold upd;rw[if_pos rfl]
theorem AH {H:Hp}{a b:Addr}{o:HO}(h:b≠a):upd H a o b=H b:=by unfold upd;rw[if_neg h]
theorem sQ {H:Hp}{a b:Addr}{o u:HO}(h:H a=some o) (h':H b=some u) (d:o≠u):a≠b:=by
 intro e;subst e;rw[h] at h';exact d (Option.some.inj h')
theorem AX {H:Hp}{a b:Addr}{o:HO}(h:H a=some o) (h':H b=none):a≠b:=by
 intro e;subst e;rw[h] at h';cases h'
section
variable (P:Program) (w:World)
def ObjOk (H:Hp) (h:Heap) (a:Addr):HO→Prop
 | .lst xs=>xs.length≤sizeLine∧∃(its:List Value) (n:Nat),Vals xs its∧h.get? a=some { cls:=.type "list", data:=.seq its.toArray n }
 | .tup xs=>xs.length≤sizeLine∧∃its:List Value,Vals xs its∧IsTup h a its.toArray
 | .dK kvs=>kvs.length≤sizeLine∧(a==sysModules)=false∧∃vs,KV kvs vs∧h.DictOf (AK P w) a vs
 | .dT kvs=>kvs.length≤sizeLine∧(a==sysModules)=false∧∃xs:List (List Key×Addr×Value),
     Paired (fun(p:List Key×V) (q:List Key×Addr×Value)=>p.1=q.1∧H q.2.1=some (.tup (p.1.map kV))∧RelV p.2 q.2.2) kvs xs ∧
     ∃o es ep,h.get? a=some o∧o.ExactDict∧o.data = .dict es ep∧es.toList=xs.map (entryOfKey (tupleKind (AK P w)))∧(xs.map (·.1)).Nodup
 | .set S n=>h.SetOf (intKind P w) a S n
 | .ins C dx fs=>H dx=some (.own a)∧fs.length≤1000∧dx≠a∧h.get? a=some (PySem.W.instObj C dx) ∧
     ∃mA,h.Ns1 dx mA∧(∀f,RelO (fs.lookup f) (mA f))∧PySem.Within mA (fs.map (·.1))
 | .own _=>∃o,h.get? a=some o
 | .xd fs=>∃mA,h.Ns1 a mA∧∀f,RelO (fs.lookup f) (mA f)
 | .rng lo hi=>∃t u v,h.get? a=some { cls:=.type "range", data:=.fields #[.int lo t,.int hi u,.int 1 v] }
 | .frz o u=>h.get? a=some o∧ObjOk H h a u
 | .tbl ps=>h.get? a=some { cls:=.none,data:=.fields ps }
 | .met f x=>h.get? a=some (PySem.W.methodObj (.ref f) (.ref x))
 | .ext φ=>φ h∧(∃o,h.get? a=some o)∧∀h1 h2:Heap,φ h1→(∀o,h1.get? a=some o→h2.get? a=some o)→φ h2
def HOk (H:Hp) (h:Heap):Prop:=∀a o,H a=some o→ObjOk P w H h a o
end
section
variable {P:Program}{w:World}{H H':Hp}{h h':Heap}{a:Addr}{o:HO}
theorem ObjOk.lt (x:ObjOk P w H h a o):a < h.objs.size:=by
 cases o with
 | lst xs=>obtain⟨_,_,_,_,e⟩:=x;exact zM e
 | tup xs=>obtain⟨_,_,_,p⟩:=x;exact p.lt
 | dK kvs=>obtain⟨_,_,_,_,o,_,_,e,_⟩:=x;exact zM e
 | dT kvs=>obtain⟨_,_,_,_,o,_,_,e,_⟩:=x;exact zM e
 | set S n=>obtain⟨o,_,_,_,e,_⟩:=x;exact zM e
 | ins C dx fs=>obtain⟨_,_,_,e,_⟩:=x;exact zM e
 | own y=>obtain⟨_,e⟩:=x;exact zM e
 | xd fs=>obtain⟨_,⟨_,_,_,e,_⟩,_⟩:=x;exact zM e
 | rng lo hi=>obtain⟨_,_,_,e⟩:=x;exact zM e
 | frz ob u=>obtain⟨e,_⟩:=x;exact zM e
 | tbl ps=>exact zM (show h.get? a=some _ from x)
 | met f y=>exact zM (show h.get? a=some _ from x)
 | ext φ=>obtain⟨_,⟨_,e⟩,_⟩:=x;exact zM e
theorem Paired.mapP {α β:Type}{F G:α→β→Prop}:∀{l₁:List α}{l₂:List β},Paired F l₁ l₂→(∀a b,F a b→G a b)→Paired G l₁ l₂
 | _,_,.nil,_=>.nil
 | _,_,.cons r t,f=>.cons (f _ _ r) (Paired.mapP t f)
theorem ObjOk.stay (x:ObjOk P w H h a o) (k:∀b u,(b=a∨H b=some (.own a))→h.get? b=some u→h'.get? b=some u)
   (ho:∀b,H b=some (.own a)→H' b=some (.own a)) (ht:∀b xs,H b=some (.tup xs)→H' b=some (.tup xs)):ObjOk P w H' h' a o:=by
 induction o with
 | lst xs=>obtain⟨z,its,n,r,e⟩:=x;exact⟨z,its,n,r,k _ _ (.inl rfl) e⟩
 | tup xs=>obtain⟨z,its,r,ob,e,c⟩:=x;exact⟨z,its,r,ob,k _ _ (.inl rfl) e,c⟩
 | dK kvs=>obtain⟨z,y,vs,r,ob,es,ep,e,c⟩:=x;exact⟨z,y,vs,r,ob,es,ep,k _ _ (.inl rfl) e,c⟩
 | dT kvs=>
   obtain⟨z,y,xs,r,ob,es,ep,e,c⟩:=x
   exact⟨z,y,xs,Paired.mapP r fun p q z=>⟨z.1,ht _ _ z.2.1,z.2.2⟩,ob,es,ep,k _ _ (.inl rfl) e,c⟩
 | set S n=>obtain⟨ob,es,ep,t,e,c⟩:=x;exact⟨ob,es,ep,t,k _ _ (.inl rfl) e,c⟩
 | ins C dx fs=>
   obtain⟨d,z,ne,e,mA,⟨od,es,ep,e2,c⟩,r⟩:=x
   exact⟨ho _ d,z,ne,k _ _ (.inl rfl) e,mA,⟨od,es,ep,k _ _ (.inr d) e2,c⟩,r⟩
 | own y=>obtain⟨ob,e⟩:=x;exact⟨ob,k _ _ (.inl rfl) e⟩
 | xd fs=>obtain⟨mA,⟨od,es,ep,e,c⟩,r⟩:=x;exact⟨mA,⟨od,es,ep,k _ _ (.inl rfl) e,c⟩,r⟩
 | rng lo hi=>obtain⟨t,u,v,e⟩:=x;exact⟨t,u,v,k _ _ (.inl rfl) e⟩
 | frz ob u ih=>obtain⟨e,q⟩:=x;exact⟨k _ _ (.inl rfl) e,ih q⟩
 | tbl ps=>
   have e:h.get? a=some { cls:=.none,data:=.fields ps }:=x
   show h'.get? a=some { cls:=.none,data:=.fields ps }
   exact k a _ (.inl rfl) e
 | met f y=>
   have e:h.get? a=some (PySem.W.methodObj (.ref f) (.ref y)):=x
   show h'.get? a=some (PySem.W.methodObj (.ref f) (.ref y))
   exact k a _ (.inl rfl) e
 | ext φ=>obtain⟨p,⟨o,e⟩,st⟩:=x;exact⟨st _ _ p fun o q=>k _ _ (.inl rfl) q,⟨o,k _ _ (.inl rfl) e⟩,st⟩
theorem HOk.lt (x:HOk P w H h) (e:H a=some o):a < h.objs.size:=(x a o e).lt
theorem HOk.fresh (x:HOk P w H h) (e:h.objs.size≤a):H a=none:=by
 cases q:H a with
 | none=>rfl
 | some u=>exact absurd (zP (x.lt q) e) (yF _)
theorem HOk.kept (x:HOk P w H h) (k:∀b u,h.get? b=some u→h'.get? b=some u):HOk P w H h':=fun a o e=>
 (x a o e).stay (fun b u _ q=>k b u q) (fun _ q=>q) fun _ _ q=>q
theorem HOk.laid (x:HOk P w H h) (k:∀b u,h.get? b=some u→h'.get? b=some u) (hp:h.objs.size≤a) (new:ObjOk P w (upd H a o) h' a o):HOk P w (upd H a o) h':=fun b u e=>by
 have hn:=x.fresh hp
 by_cases hb:b=a
 · subst hb;rw[AG] at e;cases e;exact new
 · rw[AH hb] at e
   exact(x b u e).stay (fun c v _ q=>k c v q) (fun c q=>by rw[AH (AX q hn)];exact q) fun c xs q=>by rw[AH (AX q hn)];exact q
end
def Rd (H:Hp) (a:Addr) (u:HO):Prop:=H a=some u∨∃o,H a=some (.frz o u)
theorem Rd.ok {P:Program}{w:World}{H:Hp}{h:Heap}{a:Addr}{u:HO}(r:Rd H a u) (x:HOk P w H h):ObjOk P w H h a u:=by
 rcases r with r | ⟨o,r⟩
 · exact x a u r
 · obtain⟨_,q⟩:=x a _ r
   exact q
def Mut:Option HO→Prop
 | some (.lst _)=>True
 | some (.dK _)=>True
 | some (.dT _)=>True
 | some (.set _ _)=>True
 | some (.ins _ _ _)=>True
 | some (.ext _)=>True
 | _=>False
section
variable {P:Program}{w:World}{H:Hp}{h h':Heap}{x e:Addr}{o':HO}
theorem HOk.write (ok:HOk P w H h) (mu:Mut (H x)) (he:e=x∨H e=some (.own x)) (k:∀b u,b≠e→h.get? b=some u→h'.get? b=some u) (heo:∃u,h'.get? e=some u)
   (new:ObjOk P w (upd H x o') h' x o'):HOk P w (upd H x o') h':=fun b u q=>by
 have nown:∀c y,H c=some (.own y)→c≠x:=fun c y r z=>by subst z;rw[r] at mu;exact mu
 have ntup:∀c xs,H c=some (.tup xs)→c≠x:=fun c xs r z=>by subst z;rw[r] at mu;exact mu
 by_cases hb:b=x
 · subst hb;rw[AG] at q;cases q;exact new
 · rw[AH hb] at q
   by_cases hbe:b=e
   · have q':H b=some (.own x):=by
       rcases he with z | z
       · exact absurd (hbe.trans z) hb
       · rw[hbe];exact z
     rw[q] at q';cases q'
     obtain⟨v,hv⟩:=heo
     exact⟨v,by rw[hbe];exact hv⟩
   · refine(ok b u q).stay (fun c v hc r=>k c v ?_ r) (fun c r=>by rw[AH (nown c b r)];exact r) fun c xs r=>by rw[AH (ntup c xs r)];exact r
     rcases hc with rfl | hc
     · exact hbe
     · rintro rfl
       rcases he with z | z
       · exact nown c b hc z
       · rw[hc] at z;cases z;exact hb rfl
end
structure Un (fs ex:List Addr) (H H':Hp) (h h':Heap):Prop where
 keep:∀b o,h.get? b=some o→H b=none→b∉fs→b∉ex→h'.get? b=some o
 slot:∀b o,h.get? b=some o→H b=none→b∈fs→b∉ex→∃sl,h'.get? b=some { o with slots:=sl }
 free:∀b o,h.get? b=some o→H b=none→b∉ex→H' b=none
 there:∀b o,h.get? b=some o→b∉ex→∃o',h'.get? b=some o'
 tups:∀b xs,H b=some (.tup xs)→H' b=some (.tup xs)
 frzs:∀b o u,H b=some (.frz o u)→H' b=some (.frz o u)
 tbls:∀b ps,H b=some (.tbl ps)→∃more,H' b=some (.tbl (ps++more))
section
variable {fs fs' ex ex':List Addr}{H H1 H2:Hp}{h h1 h2 h':Heap}{a x e:Addr}{o:HO}
theorem Un.any (u:Un fs ex H H1 h h1) {b:Addr}{ob:Obj}(q:h.get? b=some ob) (n:H b=none) (hx:b∉ex):∃sl,h1.get? b=some { ob with slots:=sl }:=by
 by_cases hb:b∈fs
 · exact u.slot b ob q n hb hx
 · exact⟨ob.slots,u.keep b ob q n hb hx⟩
theorem Un.kept (k:∀b u,h.get? b=some u→h'.get? b=some u):Un fs ex H H h h':=
 ⟨fun b ob q _ _ _=>k b ob q,fun b ob q _ _ _=>⟨ob.slots,k b ob q⟩,fun _ _ _ n _=>n,fun b ob q _=>⟨ob,k b ob q⟩,fun _ _ q=>q,fun _ _ _ q=>q,fun _ ps q=>⟨#[],by rw[q];simp⟩⟩
theorem Un.refl:Un fs ex H H h h:=Un.kept fun _ _ q=>q
theorem Un.laid (k:∀b u,h.get? b=some u→h'.get? b=some u) (hp:h.objs.size≤a) (hn:H a=none):Un fs ex H (upd H a o) h h' where
 keep:=fun b u q _ _ _=>k b u q
 slot:=fun b u q _ _ _=>⟨u.slots,k b u q⟩
 free:=fun b u q n _=>by rw[AH (zC (zP (zM q) hp))];exact n
 there:=fun b u q _=>⟨u,k b u q⟩
 tups:=fun b xs q=>by rw[AH (AX q hn)];exact q
 frzs:=fun b u xs q=>by rw[AH (AX q hn)];exact q
 tbls:=fun b ps q=>⟨#[],by rw[AH (AX q hn),q];simp⟩
theorem Un.write (mu:Mut (H x)) (he:e=x∨H e=some (.own x)) (k:∀b u,b≠e→h.get? b=some u→h'.get? b=some u) (heo:∃u,h'.get? e=some u):Un fs ex H (upd H x o) h h':=by
 have hx:∀b,H b=none→b≠x:=fun b n z=>by subst z;rw[n] at mu;exact mu
 have hb:∀b,H b=none→b≠e:=fun b n z=>by
   subst z
   rcases he with r | r
   · exact hx b n r
   · rw[n] at r;cases r
 have hm:∀b u,H b=some u→¬Mut (some u)→b≠x:=fun b u q nm z=>by subst z;rw[q] at mu;exact nm mu
 refine⟨fun b u q n _ _=>k b u (hb b n) q,fun b u q n _ _=>⟨u.slots,k b u (hb b n) q⟩,fun b u q n _=>by rw[AH (hx b n)];exact n,fun b u q _=>?_,
   fun b xs q=>by rw[AH (hm b _ q fun z=>z)];exact q,fun b u xs q=>by rw[AH (hm b _ q fun z=>z)];exact q,fun b ps q=>⟨#[],by rw[AH (hm b _ q fun z=>z),q];simp⟩⟩
 by_cases hbe:b=e
 · subst hbe;exact heo
 · exact⟨u,k b u hbe q⟩
end
def trk (h:Heap) (H:Hp):List Addr:=(List.range h.objs.size).filter fun a=>(H a).isSome
def RI (h:Heap) (H:Hp):Heap:=PySem.W.hideAll h (trk h H)
theorem ZQ (h:Heap) (H:Hp):(RI h H).objs.size=h.objs.size:=PySem.W.hideAll_size _ _
theorem cA {h:Heap}{H:Hp}{b:Addr}{o:Obj}(e:h.get? b=some o) (n:H b=none):(RI h H).get? b=some o:=
 PySem.W.hideAll_get _ e fun hm=>by
   have q:(H b).isSome=true:=(yL.mp hm).2
   rw[n] at q;simp at q
theorem jA {h:Heap}{H:Hp}{b:Addr}{o:Obj}(e:(RI h H).get? b=some o):h.get? b=some o∧H b=none:=by
 have e':h.get? b=some o:=PySem.W.of_hideAll (trk h H) e
 refine⟨e',?_⟩
 cases q:H b with
 | none=>rfl
 | some x=>
   have hm:b∈trk h H:=yL.mpr ⟨List.mem_range.mpr (zM e'),by simp[q]⟩
   have z:(RI h H).get? b=none:=PySem.W.hideAll_none (trk h H) hm
   rw[z] at e;cases e
end L2
namespace L2
open PySem PySem.Spec PyProof.Rows
structure Mod (K:Frg) (mg:Str→Option Value) (base:Heap):Prop where
 kin:K.In base
 glob:base.Ns mainGlobals mg
 blt:∃mb,base.Ns builtinsNs mb∧∀x:Str,x ≠ "__name__" → mb x=bootBuiltins x
 nolimit:base.NoLimit
structure Cx where
 prog:Program
 w:World
 K:Frg
 mg:Str→Option Value
 base:Heap
 A:Around
 N:List Str
 s₀:Shared
 H₀:Hp
 env:Env
 outer:List Env
 stack:List Env
 ex:List Addr
 fn:Str→Bool
 calm:Bool
 pn:List (Addr×Obj)
 xe:Value→Shared→Prop
def frs (l:List Env):List Addr:=l.filterMap (·.frame)
abbrev Cx.fs (X:Cx):List Addr:=frs X.outer
def Vis (sc:Scope) (x:Str):Prop:=sc.names.lookup x=some .local∨sc.names.lookup x=some .cell∨sc.names.lookup x=some .free
def Loc (sc:Scope) (x:Str):Prop:=sc.names.lookup x=some .local∨sc.names.lookup x=some .cell
def uZ (env:Env) (h:Heap) (m:Str→Option Value) (x:Str) (u:Value):Prop:=
 (env.kindOf x=some .local∧m x=some u)∨((env.kindOf x=some .cell∨env.kindOf x=some .free)∧∃c,env.cells.lookup x=some c∧h.IsCell c (some u))
structure Cx.Ok (X:Cx):Prop where
 mod:Mod X.K X.mg X.base
 kind:X.env.scope.kind = .function
 glob:X.env.globals=mainGlobals
 blt:X.env.builtins=builtinsNs
 above:X.s₀.heap.objs.size≤X.env.locals
 inj:∀x y c,X.env.cells.lookup x=some c→X.env.cells.lookup y=some c→x=y
 has:∀x,(X.env.kindOf x=some .cell∨X.env.kindOf x=some .free)→∃c,X.env.cells.lookup x=some c
 cab:∀x c,X.fn x=true→X.env.cells.lookup x=some c→X.s₀.heap.objs.size≤c
 hd:X.calm=true→X.A.handled=none
 frames:X.A.frames=some X.stack
 stk:X.stack=X.outer∨(X.stack=X.env::X.outer∧X.env.frame=some X.env.locals)
 exf:∀b∈X.ex,b≠X.env.locals∧∀x c,X.env.cells.lookup x=some c→c≠b
 bs:∀b o,X.base.get? b=some o→X.s₀.heap.get? b=some o∧X.H₀ b=none
 bsz:X.base.objs.size≤X.s₀.heap.objs.size
 noex:∀b o,X.base.get? b=some o→b∉X.ex
 exfs:∀b∈X.ex,b∉X.fs
 funs:X.s₀.heap.FunFrames X.base X.outer
 frf:∀b∈X.fs,X.H₀ b=none
structure Inv (X:Cx) (pins:List (Addr×Obj)) (σ:List (Option V)) (H:Hp) (s:Shared):Prop where
 ok:X.Ok
 os:s.os=X.s₀.os
 bare:AllBare s.gens
 base:Un X.fs X.ex X.H₀ H X.s₀.heap s.heap
 loc:∃m,s.heap.Ns X.env.locals m∧∀(i:Nat) (x:Str) (v:V),X.N[i]?=some x→σ[i]?=some (some v)→Vis X.env.scope x→∃u,RelV v u∧uZ X.env s.heap m x u
 cell:∀x c,X.env.cells.lookup x=some c→∃v,s.heap.IsCell c v
 free:H X.env.locals=none
 freeC:∀x c,X.env.cells.lookup x=some c→H c=none
 pin:∀p∈X.pn++pins,s.heap.get? p.1=some p.2∧H p.1=none∧p.1≠X.env.locals∧p.1∉X.fs∧∀v,p.2.data≠.cell v
 hok:HOk X.prog X.w H s.heap
 len:σ.length=X.N.length
section
variable {X:Cx}{pins:List (Addr×Obj)}{σ:List (Option V)}{H H':Hp}{s:Shared}{h':Heap}
theorem Cx.Ok.nofr (ok:X.Ok) {b:Addr}{o:Obj}(e:X.base.get? b=some o):b∉X.fs:=fun hb=>by
 have:=(ok.funs.mem hb).1
 rw[e] at this;cases this
theorem Inv.bs (I:Inv X pins σ H s):∀b o,X.base.get? b=some o→s.heap.get? b=some o∧H b=none:=fun b o e=>
 ⟨I.base.keep b o (I.ok.bs b o e).1 (I.ok.bs b o e).2 (I.ok.nofr e) (I.ok.noex b o e),I.base.free b o (I.ok.bs b o e).1 (I.ok.bs b o e).2 (I.ok.noex b o e)⟩
theorem Inv.bk (I:Inv X pins σ H s):∀b o,X.base.get? b=some o→s.heap.get? b=some o:=fun b o e=>(I.bs b o e).1
theorem Inv.mod (I:Inv X pins σ H s):Mod X.K X.mg X.base:=I.ok.mod
theorem Inv.kIn (I:Inv X pins σ H s):X.K.In s.heap:=I.ok.mod.kin.keeps I.bk
theorem Inv.lt (I:Inv X pins σ H s):X.env.locals < s.heap.objs.size:=let ⟨_,hn,_⟩:=I.loc;hn.lt
theorem Inv.sz (I:Inv X pins σ H s):X.s₀.heap.objs.size≤s.heap.objs.size:=zN I.ok.above (xT I.lt)
theorem Inv.nofs (I:Inv X pins σ H s) {a:Addr}(h:s.heap.objs.size≤a):a∉X.fs:=fun hb=>by
 obtain⟨_,o,ho,_⟩:=I.ok.funs.mem hb
 exact absurd (zP (zM ho) (zN I.sz h)) (yF _)
theorem Inv.cne (I:Inv X pins σ H s):∀x c,X.env.cells.lookup x=some c→c≠X.env.locals:=fun x c e z=>by
 obtain⟨v,o,ho,hd⟩:=I.cell x c e
 obtain⟨m,⟨o',es,ep,ho',hd',_⟩,_⟩:=I.loc
 rw[z,ho'] at ho;cases ho;rw[hd'] at hd;cases hd
theorem Inv.funs (I:Inv X pins σ H s):s.heap.FunFrames X.base X.outer:=by
 have all:∀(l:List Env),(∀b∈frs l,b∈X.fs)→X.s₀.heap.FunFrames X.base l→s.heap.FunFrames X.base l:=by
   intro l
   induction l with
   | nil=>intro _ _;trivial
   | cons env r ih=>
     intro hs hl
     obtain⟨hk,⟨L,o,hf,hn,ho,hd⟩,hr⟩:=hl
     have hL:L∈X.fs:=hs L (by unfold frs;rw[List.filterMap_cons,hf];exact List.mem_cons_self)
     obtain⟨sl,e⟩:=I.base.slot L o ho (I.ok.frf L hL) hL fun z=>I.ok.exfs L z hL
     exact⟨hk,⟨L,_,hf,hn,e,hd⟩,ih (fun b hb=>hs b (by unfold frs;rw[List.filterMap_cons,hf];exact yV _ hb)) hr⟩
 exact all X.outer (fun _ hb=>hb) I.ok.funs
theorem Inv.stack (I:Inv X pins σ H s):s.heap.FunFrames X.base X.stack:=by
 rcases I.ok.stk with e | ⟨e,hf⟩
 · rw[e];exact I.funs
 · rw[e]
   obtain⟨m,hn,_⟩:=I.loc
   refine .cons (by rw[I.ok.kind];decide) hf hn ?_ I.funs
   exact Heap.get?_none_of_le (zN I.ok.bsz I.ok.above)
theorem Inv.stkSub (I:Inv X pins σ H s):∀b∈frs X.stack,b∈X.env.locals::X.fs:=fun b hb=>by
 rcases I.ok.stk with e | ⟨e,hf⟩
 · rw[e] at hb;exact yV _ hb
 · rw[e] at hb
   unfold frs at hb
   rw[List.filterMap_cons,hf] at hb
   exact hb
theorem Inv.stkFree (I:Inv X pins σ H s):∀b∈frs X.stack,H b=none:=fun b hb=>by
 rcases yX.mp (I.stkSub b hb) with e | hb
 · rw[e];exact I.free
 · obtain⟨_,o,ho,_⟩:=I.ok.funs.mem hb
   exact I.base.free b o ho (I.ok.frf b hb) fun z=>I.ok.exfs b z hb
theorem Inv.step {g':Array GenState}{t':Nat}{d':Drawn}{ch:List Addr}(I:Inv X pins σ H s)
   (hch:∀b∈ch,(b∈X.ex∨X.s₀.heap.objs.size≤b)∧b≠X.env.locals∧(∀x c,X.env.cells.lookup x=some c→c≠b)∧∀p∈X.pn++pins,p.1≠b)
   (keep:∀b o,b≠X.env.locals→b∉X.fs→b∉ch→s.heap.get? b=some o→H b=none→h'.get? b=some o)
   (slot:∀b o,b≠X.env.locals→b∈X.fs→b∉ch→s.heap.get? b=some o→H b=none→∃sl,h'.get? b=some { o with slots:=sl }) (free:∀b o,b∉ch→s.heap.get? b=some o→H b=none→H' b=none)
   (there:∀b o,b∉ch→s.heap.get? b=some o→∃o',h'.get? b=some o')
   (tups:∀b xs,H b=some (.tup xs)→H' b=some (.tup xs)) (frzs:∀b o u,H b=some (.frz o u)→H' b=some (.frz o u)) (tbls:∀b ps,H b=some (.tbl ps)→∃more,H' b=some (.tbl (ps++more)))
   (ns:∀m,s.heap.Ns X.env.locals m→h'.Ns X.env.locals m) (hok:HOk X.prog X.w H' h') (hg:AllBare g') :
   Inv X pins σ H' { s with heap:=h',gens:=g',drawn:=d',toks:=t' }:=by
 have neL:∀b o,X.s₀.heap.get? b=some o→b≠X.env.locals:=fun b o e=>zC (zP (zM e) I.ok.above)
 have neC:∀b o,X.s₀.heap.get? b=some o→b∉X.ex→b∉ch:=fun b o e hx hb=>by
   rcases (hch b hb).1 with z | z
   · exact hx z
   · exact absurd (zP (zM e) z) (yF _)
 have cellK:∀x c,X.env.cells.lookup x=some c→∀v,s.heap.IsCell c v→h'.IsCell c v:=fun x c e v ⟨o,ho,hd⟩=>by
   have nch:c∉ch:=fun z=>(hch c z).2.2.1 x c e rfl
   by_cases hc:c∈X.fs
   · obtain⟨sl,q⟩:=slot c o (I.cne x c e) hc nch ho (I.freeC x c e)
     exact⟨_,q,hd⟩
   · exact⟨o,keep c o (I.cne x c e) hc nch ho (I.freeC x c e),hd⟩
 refine⟨I.ok,I.os,hg,⟨fun b o e n hb hx=>?_,fun b o e n hb hx=>?_,fun b o e n hx=>?_,fun b o e hx=>?_,fun b xs e=>tups b xs (I.base.tups b xs e),fun b o xs e=>frzs b o xs (I.base.frzs b o xs e),fun b ps e=>?_⟩,?_,fun x c e=>?_,?_,fun x c e=>?_,fun p hp=>?_,hok,I.len⟩
 · exact keep b o (neL b o e) hb (neC b o e hx) (I.base.keep b o e n hb hx) (I.base.free b o e n hx)
 · obtain⟨sl,e1⟩:=I.base.slot b o e n hb hx
   obtain⟨sl',e2⟩:=slot b _ (neL b o e) hb (neC b o e hx) e1 (I.base.free b o e n hx)
   exact⟨sl',e2⟩
 · obtain⟨o',e1⟩:=I.base.there b o e hx
   exact free b o' (neC b o e hx) e1 (I.base.free b o e n hx)
 · obtain⟨o',e1⟩:=I.base.there b o e hx
   exact there b o' (neC b o e hx) e1
 · obtain⟨m1,e1⟩:=I.base.tbls b ps e
   obtain⟨m2,e2⟩:=tbls b _ e1
   exact⟨m1++m2,by rw[e2,Array.append_assoc]⟩
 · obtain⟨m,hn,hl⟩:=I.loc
   refine⟨m,ns m hn,fun i x v e1 e2 e3=>?_⟩
   obtain⟨u,r,l⟩:=hl i x v e1 e2 e3
   refine⟨u,r,?_⟩
   rcases l with l | ⟨k,c,e,z⟩
   · exact .inl l
   · exact .inr ⟨k,c,e,cellK x c e _ z⟩
 · obtain⟨v,z⟩:=I.cell x c e
   exact⟨v,cellK x c e v z⟩
 · obtain⟨m,⟨o,_,_,ho,_⟩,_⟩:=I.loc
   exact free _ o (fun z=>(hch _ z).2.1 rfl) ho I.free
 · obtain⟨v,o,ho,hd⟩:=I.cell x c e
   exact free c o (fun z=>(hch c z).2.2.1 x c e rfl) ho (I.freeC x c e)
 · obtain⟨e,n,ne,nf,d⟩:=I.pin p hp
   have nch:p.1∉ch:=fun z=>(hch p.1 z).2.2.2 p hp rfl
   exact⟨keep p.1 p.2 ne nf nch e n,free p.1 p.2 nch e n,ne,nf,d⟩
theorem Inv.un {t':Nat}(I:Inv X pins σ H s) (u:Un X.fs [] H H' s.heap h') (hok:HOk X.prog X.w H' h'):Inv X pins σ H' { s with heap:=h',toks:=t' }:=by
 obtain⟨m,⟨o,es,ep,ho,r⟩,_⟩:=id I.loc
 obtain⟨sl,hL⟩:=u.any ho I.free (by simp)
 exact I.step (g':=s.gens) (d':=s.drawn) (ch:=[]) (fun _ z=>nomatch z) (fun b o _ hb _ e n=>u.keep b o e n hb (by simp)) (fun b o _ hb _ e n=>u.slot b o e n hb (by simp)) (fun b o _ e n=>u.free b o e n (by simp)) (fun b o _ e=>u.there b o e (by simp)) u.tups u.frzs u.tbls (fun m' hm=>by
   obtain⟨o',es',ep',ho',r'⟩:=hm
   rw[ho] at ho';cases ho'
   exact⟨_,es',ep',hL,r'⟩) hok I.bare
theorem Inv.call {g':Array GenState}{t':Nat}{d':Drawn}{ch:List Addr}(I:Inv X pins σ H s) (u:Un (frs X.stack) ch H H' s.heap h') (hok:HOk X.prog X.w H' h') (hg:AllBare g')
   (hch:∀b∈ch,(b∈X.ex∨X.s₀.heap.objs.size≤b)∧b≠X.env.locals∧(∀x c,X.env.cells.lookup x=some c→c≠b)∧∀p∈X.pn++pins,p.1≠b) :
   Inv X pins σ H' { s with heap:=h',gens:=g',drawn:=d',toks:=t' }:=by
 obtain⟨m,⟨o,es,ep,ho,r⟩,_⟩:=id I.loc
 obtain⟨sl,hL⟩:=u.any ho I.free fun z=>(hch _ z).2.1 rfl
 exact I.step (ch:=ch) hch (fun b o hL hb hc e n=>u.keep b o e n (fun z=>(yX.mp (I.stkSub b z)).elim hL hb) hc) (fun b o _ _ hc e n=>u.any e n hc) (fun b o hc e n=>u.free b o e n hc) (fun b o hc e=>u.there b o e hc) u.tups u.frzs u.tbls (fun m' hm=>by
   obtain⟨o',es',ep',ho',r'⟩:=hm
   rw[ho] at ho';cases ho'
   exact⟨_,es',ep',hL,r'⟩) hok hg
theorem Inv.turned {t':Nat}{it:Addr}(I:Inv X pins σ H s) (k:∀b o,b≠it→s.heap.get? b=some o→h'.get? b=some o) (hn:H it=none) (hL:it≠X.env.locals)
   (h1:it∈X.ex∨X.s₀.heap.objs.size≤it) (h2:∀x c,X.env.cells.lookup x=some c→c≠it) (h3:∀p∈X.pn++pins,p.1≠it):Inv X pins σ H { s with heap:=h',toks:=t' }:=by
 have nit:∀b u,H b=some u→b≠it:=fun b u e z=>by rw[z,hn] at e;cases e
 refine I.step (g':=s.gens) (d':=s.drawn) (ch:=[it]) (fun b hb=>?_) (fun b o _ _ hc e _=>k b o (fun z=>hc (by simp[z])) e) (fun b o _ _ hc e _=>⟨o.slots,k b o (fun z=>hc (by simp[z])) e⟩) (fun _ _ _ _ n=>n)
   (fun b o hc e=>⟨o,k b o (fun z=>hc (by simp[z])) e⟩) (fun _ _ e=>e) (fun _ _ _ e=>e) (fun b ps e=>⟨#[],by rw[e];simp⟩) (fun m hm=>?_) (fun b u e=>?_) I.bare
 · have e:b=it:=by simpa using hb
   subst e
   exact⟨h1,hL,h2,h3⟩
 · obtain⟨o,es,ep,ho,r⟩:=hm
   exact⟨o,es,ep,k _ o (Ne.symm hL) ho,r⟩
 · refine(I.hok b u e).stay (fun c v hc q=>k c v ?_ q) (fun _ q=>q) fun _ _ q=>q
   rcases hc with z | z
   · rw[z];exact nit b u e
   · exact nit c _ z
theorem Inv.tok (I:Inv X pins σ H s) (t:Nat):Inv X pins σ H { s with toks:=t }:=I.un (h':=s.heap) (t':=t) Un.refl I.hok
theorem Inv.kept {t':Nat}(I:Inv X pins σ H s) (k:∀b u,s.heap.get? b=some u→h'.get? b=some u):Inv X pins σ H { s with heap:=h',toks:=t' }:=I.un (Un.kept k) (I.hok.kept k)
theorem Inv.laid {a:Addr}{o:HO}{t':Nat}(I:Inv X pins σ H s) (k:∀b u,s.heap.get? b=some u→h'.get? b=some u) (hp:s.heap.objs.size≤a) (new:ObjOk X.prog X.w (upd H a o) h' a o) :
   Inv X pins σ (upd H a o) { s with heap:=h',toks:=t' }:=I.un (Un.laid k hp (I.hok.fresh hp)) (I.hok.laid k hp new)
theorem Inv.write {x e:Addr}{o:HO}{t':Nat}(I:Inv X pins σ H s) (mu:Mut (H x)) (he:e=x∨H e=some (.own x)) (k:∀b u,b≠e→s.heap.get? b=some u→h'.get? b=some u) (heo:∃u,h'.get? e=some u)
   (new:ObjOk X.prog X.w (upd H x o) h' x o):Inv X pins σ (upd H x o) { s with heap:=h',toks:=t' }:=I.un (Un.write mu he k heo) (I.hok.write mu he k heo new)
theorem Inv.weak {σ':List (Option V)}(I:Inv X pins σ H s) (hl:σ'.length=σ.length) (w:∀(i:Nat) v,σ'[i]?=some (some v)→σ[i]?=some (some v)):Inv X pins σ' H s:=
 ⟨I.ok,I.os,I.bare,I.base,let ⟨m,hn,hl'⟩:=I.loc;⟨m,hn,fun i x v e1 e2 e3=>hl' i x v e1 (w i v e2) e3⟩,I.cell,I.free,I.freeC,I.pin,I.hok,hl.trans I.len⟩
theorem Inv.pins_of {pins':List (Addr×Obj)}(I:Inv X pins σ H s) (h:∀p∈pins',s.heap.get? p.1=some p.2∧H p.1=none∧p.1≠X.env.locals∧p.1∉X.fs∧∀v,p.2.data≠.cell v):Inv X pins' σ H s:=
 ⟨I.ok,I.os,I.bare,I.base,I.loc,I.cell,I.free,I.freeC,fun p hp=>(yW.mp hp).elim (fun z=>I.pin p (List.mem_append_left _ z)) (h p),I.hok,I.len⟩
theorem T5 {N:List Str}(hN:N.Nodup) {i j:Nat}{x:Str}(a:N[i]?=some x) (b:N[j]?=some x):i=j:=by
 obtain⟨h1,e1⟩:=yT.mp a
 obtain⟨h2,e2⟩:=yT.mp b
 exact(List.getElem_inj hN).mp (e1.trans e2.symm)
theorem ZR {M:Model}{A:Around}{E:Value→Shared→Prop}{i:Nat}{x:Str}{v:V}{u:Value}{Q:Unit→Shared→Prop}(I:Inv X pins σ H s) (hN:X.N.Nodup) (hi:X.N[i]?=some x) (hx:Loc X.env.scope x) (r:RelV v u)
   (h:∀s',Inv X pins (σ.set i (some v)) H s'→(∃a,Heap.SameBut a s.heap s'.heap∧(a=X.env.locals∨X.env.cells.lookup x=some a))→Q () s') (hf:X.fn x=true∨X.env.scope.names.lookup x=some .local:=by first | exact .inl rfl | exact .inr rfl | assumption):wpAny M A (storeName X.env x u) Q E s:=by
 obtain⟨m,hn,hl⟩:=id I.loc
 have hcls:(X.env.scope.kind==.class||(X.env.scope.kind==.module&&X.env.locals != X.env.globals))=false:=by rw[I.ok.kind];rfl
 have hiσ:i < σ.length:=by rw[I.len];exact(yT.mp hi).1
 have cne:=I.cne
 have tracked:∀{a:Addr}{h':Heap},(∃o,s.heap.get? a=some o∧H a=none)→Heap.SameBut a s.heap h'→HOk X.prog X.w H h':=fun {a h'} ha hs b ob e=>by
   obtain⟨_,_,hfree⟩:=ha
   refine(I.hok b ob e).stay (fun c w' hc q=>(hs.2 c ?_).trans q) (fun _ q=>q) fun _ _ q=>q
   rintro rfl
   rcases hc with rfl | hc
   · rw[hfree] at e;cases e
   · rw[hfree] at hc;cases hc
 rcases hx with hk | hk
 · refine wpAny_storeName_local hk hn (fun h' hn' hs=>?_) hcls
   obtain⟨oL,_,_,hoL,_⟩:=id hn
   refine h _ ⟨I.ok,I.os,I.bare,⟨fun b o e n hb hx=>?_,fun b o e n hb hx=>?_,I.base.free,fun b o e hx=>?_,I.base.tups,I.base.frzs,I.base.tbls⟩,⟨_,hn',fun j y v' e1 e2 e3=>?_⟩,fun y c e=>?_,I.free,I.freeC,fun p hp=>?_,tracked ⟨oL,hoL,I.free⟩ hs,by simpa using I.len⟩ ⟨_,hs,.inl rfl⟩
   · exact(hs.2 b (zC (zP (zM e) I.ok.above))).trans (I.base.keep b o e n hb hx)
   · obtain⟨sl,e1⟩:=I.base.slot b o e n hb hx
     exact⟨sl,(hs.2 b (zC (zP (zM e) I.ok.above))).trans e1⟩
   · obtain⟨o',e1⟩:=I.base.there b o e hx
     exact⟨o',(hs.2 b (zC (zP (zM e) I.ok.above))).trans e1⟩
   · by_cases hj:j=i
     · subst hj
       rw[hi] at e1;cases e1
       rw[List.getElem?_set_self hiσ] at e2
       cases e2
       exact⟨u,r,.inl ⟨hk,by simp⟩⟩
     · rw[List.getElem?_set_ne (Ne.symm hj)] at e2
       obtain⟨u',r',q⟩:=hl j y v' e1 e2 e3
       refine⟨u',r',?_⟩
       rcases q with ⟨k,e⟩ | ⟨k,c,e,z⟩
       · refine .inl ⟨k,?_⟩
         have:y≠x:=fun e=>hj (T5 hN e1 (e▸hi))
         simp[this,e]
       · exact .inr ⟨k,c,e,z.sameBut hs (cne y c e)⟩
   · obtain⟨w',z⟩:=I.cell y c e
     exact⟨w',z.sameBut hs (cne y c e)⟩
   · obtain⟨e,n,ne,nf,d⟩:=I.pin p hp
     exact⟨(hs.2 p.1 ne).trans e,n,ne,nf,d⟩
 · have hfn:X.fn x=true:=by
     rcases hf with z | z
     · exact z
     · rw[z] at hk;cases hk
   obtain⟨c,hc⟩:=I.ok.has x (.inl hk)
   obtain⟨w',z⟩:=I.cell x c hc
   refine wpAny_storeName_cell I.ok.kind hk hc z (fun h' hc' hs=>?_)
   obtain⟨oc,hoc,hocd⟩:=id z
   refine h { s with heap:=h' } ⟨I.ok,I.os,I.bare,⟨fun b o e n hb hx=>?_,fun b o e n hb hx=>?_,I.base.free,fun b o e hx=>?_,I.base.tups,I.base.frzs,I.base.tbls⟩,⟨m,hn.sameBut hs (Ne.symm (cne x c hc)),fun j y v' e1 e2 e3=>?_⟩,fun y c' e=>?_,I.free,I.freeC,fun p hp=>?_,tracked ⟨oc,hoc,I.freeC x c hc⟩ hs,by simpa using I.len⟩ ⟨c,hs,.inr hc⟩
   · exact(hs.2 b (zC (zP (zM e) (I.ok.cab x c hfn hc)))).trans (I.base.keep b o e n hb hx)
   · obtain⟨sl,e1⟩:=I.base.slot b o e n hb hx
     exact⟨sl,(hs.2 b (zC (zP (zM e) (I.ok.cab x c hfn hc)))).trans e1⟩
   · obtain⟨o',e1⟩:=I.base.there b o e hx
     exact⟨o',(hs.2 b (zC (zP (zM e) (I.ok.cab x c hfn hc)))).trans e1⟩
   · by_cases hj:j=i
     · subst hj
       rw[hi] at e1;cases e1
       rw[List.getElem?_set_self hiσ] at e2
       cases e2
       exact⟨u,r,.inr ⟨.inl hk,c,hc,hc'⟩⟩
     · rw[List.getElem?_set_ne (Ne.symm hj)] at e2
       obtain⟨u',r',q⟩:=hl j y v' e1 e2 e3
       refine⟨u',r',?_⟩
       rcases q with q | ⟨k,c',e,z'⟩
       · exact .inl q
       · refine .inr ⟨k,c',e,z'.sameBut hs ?_⟩
         rintro rfl
         exact hj (T5 hN e1 (I.ok.inj _ _ _ e hc▸hi))
   · by_cases hcc:c'=c
     · subst hcc;exact⟨_,hc'⟩
     · obtain⟨w2,z2⟩:=I.cell y c' e
       exact⟨w2,z2.sameBut hs hcc⟩
   · obtain⟨e,n,ne,nf,d⟩:=I.pin p hp
     refine⟨(hs.2 p.1 ?_).trans e,n,ne,nf,d⟩
     intro q
     rw[q,hoc] at e
     have q':oc=p.2:=Option.some.inj e
     exact d w' (by rw[← q'];exact hocd)
theorem JZ {M:Model}{A:Around}{E:Value→Shared→Prop}{i:Nat}{x:Str}{v:V}{u:Value}{Q:Unit→Shared→Prop}(I:Inv X pins σ H s) (hN:X.N.Nodup) (hi:X.N[i]?=some x) (hx:Loc X.env.scope x) (r:RelV v u)
   (h:∀s',Inv X pins (σ.set i (some v)) H s'→Q () s') (hf:X.fn x=true∨X.env.scope.names.lookup x=some .local:=by first | exact .inl rfl | exact .inr rfl | assumption):wpAny M A (storeName X.env x u) Q E s:=
 ZR I hN hi hx r (fun s' I' _=>h s' I') hf
theorem Inv.call' {s':Shared}{ch:List Addr}(I:Inv X pins σ H s) (ho:s'.os=s.os) (u:Un (frs X.stack) ch H H' s.heap s'.heap) (hok:HOk X.prog X.w H' s'.heap) (hg:AllBare s'.gens)
   (hch:∀b∈ch,(b∈X.ex∨X.s₀.heap.objs.size≤b)∧b≠X.env.locals∧(∀x c,X.env.cells.lookup x=some c→c≠b)∧∀p∈X.pn++pins,p.1≠b):Inv X pins σ H' s':=by
 obtain⟨h',g',d',t',o'⟩:=s'
 have e:o'=s.os:=ho
 subst e
 exact I.call (g':=g') (t':=t') (d':=d') u hok hg hch
end
abbrev XK:=Value→Option Addr→Hp→Prop
abbrev St:=List (Option V)
abbrev VK:=V→Hp→Prop
abbrev TE:=St→Hp→VK→Prop
abbrev TT:=St→Hp→(Bool→Hp→Prop)→Prop
abbrev TA:=St→Hp→(List V→Hp→Prop)→Prop
structure Ends where
 nx:St→Hp→Prop
 rt:VK
 bk:St→Hp→Prop:=fun _ _=>False
 ct:St→Hp→Prop:=fun _ _=>False
abbrev TS:=Ends→St→Hp→Prop
def EP (X:Cx) (pins:List (Addr×Obj)) (σ:St) (Q:VK) (u:Value) (s':Shared):Prop:=∃v H',Inv X pins σ H' s'∧RelV v u∧Q v H'
def TP (X:Cx) (pins:List (Addr×Obj)) (σ:St) (Q:Bool→Hp→Prop) (b:Bool) (s':Shared):Prop:=∃H',Inv X pins σ H' s'∧Q b H'
def AP (X:Cx) (pins:List (Addr×Obj)) (σ:St) (Q:List V→Hp→Prop) (us:List Value) (s':Shared):Prop:=∃vs H',Inv X pins σ H' s'∧Vals vs us∧Q vs H'
def SP (X:Cx) (pins:List (Addr×Obj)) (D:Ends) (f:Flow) (s':Shared):Prop:=
 match f with
 | .next=>∃σ' H',Inv X pins σ' H' s'∧D.nx σ' H'
 | .brk=>∃σ' H',Inv X pins σ' H' s'∧D.bk σ' H'
 | .cont=>∃σ' H',Inv X pins σ' H' s'∧D.ct σ' H'
 | .ret u=>∃v σ' H',Inv X pins σ' H' s'∧RelV v u∧D.rt v H'
def PE (X:Cx) (e:Expr) (t:TE):Prop:=
 ∀(pins:List (Addr×Obj)) (s:Shared) (σ:St) (H:Hp) (Q:VK),Inv X pins σ H s→t σ H Q→wpAny (model X.prog X.w) X.A (eval e X.env) (EP X pins σ Q) X.xe s
def PT (X:Cx) (e:Expr) (t:TT):Prop:=
 ∀(pins:List (Addr×Obj)) (s:Shared) (σ:St) (H:Hp) (Q:Bool→Hp→Prop),Inv X pins σ H s→t σ H Q→wpAny (model X.prog X.w) X.A (isTrue e X.env (eval e X.env)) (TP X pins σ Q) X.xe s
def PW (X:Cx) (e:Expr) (t:TT):Prop:=
 ∀(whole:Sem Value) (pins:List (Addr×Obj)) (s:Shared) (σ:St) (H:Hp) (Q:Bool→Hp→Prop),Inv X pins σ H s→t σ H Q→wpAny (model X.prog X.w) X.A (isTrue e X.env whole) (TP X pins σ Q) X.xe s
theorem PW.pt {X:Cx}{e:Expr}{t:TT}(h:PW X e t):PT X e t:=h _
def PA (X:Cx) (es:List Expr) (t:TA):Prop:=
 ∀(pos:Pos) (pins:List (Addr×Obj)) (s:Shared) (σ:St) (H:Hp) (Q:List V→Hp→Prop),Inv X pins σ H s→t σ H Q→wpAny (model X.prog X.w) X.A (spliced (backTo pos (starEach es X.env))) (AP X pins σ Q) X.xe s
def PS (X:Cx) (st:Stmt) (t:TS):Prop:=
 ∀(pins:List (Addr×Obj)) (s:Shared) (σ:St) (H:Hp) (D:Ends),Inv X pins σ H s→t D σ H→wpAny (model X.prog X.w) X.A (exec st X.env) (SP X pins D) X.xe s
def PSs (X:Cx) (st:List Stmt) (t:TS):Prop:=
 ∀(pins:List (Addr×Obj)) (s:Shared) (σ:St) (H:Hp) (D:Ends),Inv X pins σ H s→t D σ H→wpAny (model X.prog X.w) X.A (execs st X.env) (SP X pins D) X.xe s
theorem thn {α:Type}{t:Sem α}{Q Q':α→Shared→Prop}{M:Model}{A:Around}{E:Value→Shared→Prop}{s:Shared}(h:wpAny M A t Q E s) (hQ:∀a s,Q a s→Q' a s):wpAny M A t Q' E s:=wpAny_mono h hQ fun _ _ x=>x
end L2
namespace L2
open PySem PySem.Spec PyProof.Rows
section
variable {X:Cx}
def ZS (i:Nat):TE:=fun σ H Q=>∃v,σ[i]?=some (some v)∧Q v H
def tC (v:V):TE:=fun _ H Q=>Q v H
theorem cB {i:Nat}{x:Str}{pos:Pos}(hN:X.N[i]?=some x) (hv:Vis X.env.scope x) (hd:(x==("__debug__":Str))=false:=by decide) (hcd:(x==("__classdict__":Str))=false:=by decide):PE X (.Name x pos) (ZS i):=by
 intro pins s σ H Q I h
 obtain⟨v,e,h⟩:=h
 obtain⟨m,hn,hl⟩:=I.loc
 obtain⟨u,r,l⟩:=hl i x v hN e hv
 have fin:EP X pins σ Q u s:=⟨v,H,I,r,h⟩
 rcases l with ⟨hk,hm⟩ | ⟨hk,c,hc,hcell⟩
 · exact wpAny_Name (wpAny_loadName_local I.ok.kind hk hn hm fin) hd
 · rcases hk with hk | hk
   · exact wpAny_Name (wpAny_loadName_cell I.ok.kind hk hc hcell fin) hd
   · exact wpAny_Name (wpAny_loadName_free I.ok.kind hk hc hcell fin hcd) hd
theorem oI {i j pos}:PE X (.Constant (.int i) j pos) (tC (.int i)):=fun _ _ _ H _ I h=>wpAny_Constant_int ⟨.int i,H,I.tok _,⟨_,rfl⟩,h⟩
theorem sR {b j pos}:PE X (.Constant (.bool b) j pos) (tC (.bl b)):=fun _ _ _ H _ I h=>Constant_bool ⟨.bl b,H,I,rfl,h⟩
theorem oJ {j pos}:PE X (.Constant .none j pos) (tC .non):=fun _ _ _ H _ I h=>Constant_none ⟨.non,H,I,rfl,h⟩
theorem oK {x j pos}:PE X (.Constant (.str x) j pos) (tC (.str x)):=fun _ _ _ H _ I h=>Calls.Constant_str ⟨.str x,H,I.tok _,⟨_,rfl⟩,h⟩
def Gl (X:Cx) (x:Str):Prop:=X.env.kindOf x=some .globalImplicit
theorem IL {E:Value→Shared→Prop}{pins:List (Addr×Obj)}{s:Shared}{σ:St}{H:Hp}{x:Str}{u:Value}{pos:Pos}{Q:Value→Shared→Prop}(I:Inv X pins σ H s) (hg:Gl X x) (hm:X.mg x=some u) (h:Q u s)
   (hd:(x==("__debug__":Str))=false:=by decide):wpAny (model X.prog X.w) X.A (eval (.Name x pos) X.env) Q E s:=
 Calls.Name_function_global I.ok.kind hg (Calls.loadGlobal_global (by rw[I.ok.glob];exact I.mod.glob.keeps I.bk) hm h) hd
theorem JI {E:Value→Shared→Prop}{pins:List (Addr×Obj)}{s:Shared}{σ:St}{H:Hp}{x:Str}{u:Value}{pos:Pos}{Q:Value→Shared→Prop}(I:Inv X pins σ H s) (hg:Gl X x) (hm:X.mg x=none) (hv:bootBuiltins x=some u) (h:Q u s)
   (hn:x ≠ "__name__" := by decide) (hd:(x==("__debug__":Str))=false:=by decide):wpAny (model X.prog X.w) X.A (eval (.Name x pos) X.env) Q E s:=by
 obtain⟨mb,h1,h2⟩:=I.mod.blt
 exact Calls.Name_function_global I.ok.kind hg (Calls.loadGlobal_builtin (by rw[I.ok.glob];exact I.mod.glob.keeps I.bk) hm (by rw[I.ok.blt];exact h1.keeps I.bk) ((h2 x hn).trans hv) h) hd
theorem Y7 {x:Str}{v:V}{u:Value}{pos:Pos}(hg:Gl X x) (hm:X.mg x=some u) (r:RelV v u) (hd:(x==("__debug__":Str))=false:=by decide):PE X (.Name x pos) (tC v):=
 fun _ _ _ H _ I h=>IL I hg hm ⟨v,H,I,r,h⟩ hd
theorem G5 {x:Str}{v:V}{u:Value}{pos:Pos}(hg:Gl X x) (hm:X.mg x=none) (hv:bootBuiltins x=some u) (r:RelV v u) (hn:x ≠ "__name__" := by decide) (hd:(x==("__debug__":Str))=false:=by decide):PE X (.Name x pos) (tC v):=
 fun _ _ _ H _ I h=>JI I hg hm hv ⟨v,H,I,r,h⟩ hn hd
variable {a b:Expr}{ta tb:TE}{pos:Pos}
def PC (X:Cx) (op:CmpOp) (a b:Expr) (t:TE):Prop:=
 ∀(pins:List (Addr×Obj)) (s:Shared) (σ:St) (H:Hp) (Q:VK),Inv X pins σ H s→t σ H Q →
   wpAny (model X.prog X.w) X.A (eval a X.env) (fun v s₁=>wpAny (model X.prog X.w) X.A (eval b X.env) (fun u s₂=>wpAny (model X.prog X.w) X.A (compareOp op v u) (EP X pins σ Q) X.xe s₂) X.xe s₁) X.xe s
def tB (t:TE):TT:=fun σ H Q=>t σ H fun x H1=>∃c,x = .bl c∧Q c H1
theorem oM {op:CmpOp}{t:TE}(h:PC X op a b t) (h1:behindInMarks op b=false:=by first | exact nobehind _ (by decide) (by decide) | rfl):PE X (.Compare a [op] [b] pos) t:=fun pins s σ H Q I hw=>wpAny_Compare1 (h pins s σ H Q I hw) h1
theorem oN {e:Expr}{t:TE}(h:PE X e t) (he:∀whole,isTrue e X.env whole=(do let v ← whole;standAt e.pos;holding [v] (truthy v)):=by intro _;rfl):PT X e (tB t):=by
 intro pins s σ H Q I hw
 refine isTrue_plain (thn (h pins s σ H _ I hw) fun v s1 ⟨x,H1,I1,r1,q1⟩=>?_) (he _)
 obtain⟨d,rfl,q⟩:=q1
 cases r1
 exact wpAny_truthy_bool ⟨H1,I1,q⟩
variable {tA tB':TT}{rest:List Expr}
def sS (t u:TT):TT:=fun σ H Q=>t σ H fun c H1=>if c=true then u σ H1 Q else Q false H1
def tOr (t u:TT):TT:=fun σ H Q=>t σ H fun c H1=>if c=true then Q true H1 else u σ H1 Q
def sU (t:TT):TT:=fun σ H Q=>t σ H fun c H1=>Q (!c) H1
theorem pw_and1 (ha:PT X a tA):PW X (.BoolOp .And [a] pos) tA:=by
 intro wh pins s σ H Q I h
 refine isTrue_and (thn (ha pins s σ H Q I h) fun c s1 e=>?_)
 cases c with
 | true=>exact isTrue_and_nil e
 | false=>exact e
theorem pw_or1 (ha:PT X a tA):PW X (.BoolOp .Or [a] pos) tA:=by
 intro wh pins s σ H Q I h
 refine isTrue_or (thn (ha pins s σ H Q I h) fun c s1 e=>?_)
 cases c with
 | false=>exact isTrue_or_nil e
 | true=>exact e
theorem pw_and (ha:PT X a tA) (hb:PW X (.BoolOp .And (b::rest) pos) tB'):PW X (.BoolOp .And (a::b::rest) pos) (sS tA tB'):=by
 intro wh pins s σ H Q I h
 refine isTrue_and (thn (ha pins s σ H _ I h) fun c s1 ⟨H1,I1,q1⟩=>?_)
 cases c with
 | true=>exact hb wh pins s1 σ H1 Q I1 q1
 | false=>exact⟨H1,I1,q1⟩
theorem pw_or (ha:PT X a tA) (hb:PW X (.BoolOp .Or (b::rest) pos) tB'):PW X (.BoolOp .Or (a::b::rest) pos) (tOr tA tB'):=by
 intro wh pins s σ H Q I h
 refine isTrue_or (thn (ha pins s σ H _ I h) fun c s1 ⟨H1,I1,q1⟩=>?_)
 cases c with
 | true=>exact⟨H1,I1,q1⟩
 | false=>exact hb wh pins s1 σ H1 Q I1 q1
theorem oO (ha:PT X a tA):PT X (.UnaryOp .Not a pos) (sU tA):=by
 intro pins s σ H Q I h
 exact isTrue_not (ha pins s σ H (fun c H1=>Q (!c) H1) I h)
def nA (ta tb:TE):TE:=fun σ H Q=>ta σ H fun x H1=>∃c,x = .bl c∧if c=true then tb σ H1 Q else Q (.bl false) H1
def sV (ta tb:TE):TE:=fun σ H Q=>ta σ H fun x H1=>∃c,x = .bl c∧if c=true then Q (.bl true) H1 else tb σ H1 Q
def nB (ta:TE):TE:=fun σ H Q=>ta σ H fun x H1=>∃c,x = .bl c∧Q (.bl (!c)) H1
theorem oP {op} {t:TE}(h:PE X a t):PE X (.BoolOp op [a] pos) t:=fun pins s σ H Q I hw=>BoolOp_one (h pins s σ H Q I hw)
theorem oQ (ha:PE X a ta) (hb:PE X (.BoolOp .And (b::rest) pos) tb):PE X (.BoolOp .And (a::b::rest) pos) (nA ta tb):=by
 intro pins s σ H Q I h
 refine BoolOp_and (thn (ha pins s σ H _ I h) fun v s1 ⟨x,H1,I1,r1,q1⟩=>?_)
 obtain⟨c,rfl,q1⟩:=q1
 cases r1
 refine wpAny_truthy_bool ?_
 cases c with
 | true=>exact hb pins s1 σ H1 Q I1 q1
 | false=>exact⟨.bl false,H1,I1,rfl,q1⟩
theorem sW (ha:PE X a ta) (hb:PE X (.BoolOp .Or (b::rest) pos) tb):PE X (.BoolOp .Or (a::b::rest) pos) (sV ta tb):=by
 intro pins s σ H Q I h
 refine BoolOp_or (thn (ha pins s σ H _ I h) fun v s1 ⟨x,H1,I1,r1,q1⟩=>?_)
 obtain⟨c,rfl,q1⟩:=q1
 cases r1
 refine wpAny_truthy_bool ?_
 cases c with
 | false=>exact hb pins s1 σ H1 Q I1 q1
 | true=>exact⟨.bl true,H1,I1,rfl,q1⟩
theorem oR (ha:PE X a ta):PE X (.UnaryOp .Not a pos) (nB ta):=by
 intro pins s σ H Q I h
 refine UnaryOp_ (thn (ha pins s σ H _ I h) fun v s1 ⟨x,H1,I1,r1,q1⟩=>?_)
 obtain⟨c,rfl,q1⟩:=q1
 cases r1
 exact not_of (wpAny_truthy_bool ⟨.bl (!c),H1,I1,rfl,q1⟩)
def tIf (t:TT) (ta tb:TE):TE:=fun σ H Q=>t σ H fun c H1=>if c=true then ta σ H1 Q else tb σ H1 Q
theorem cC {c:Expr}(hc:PT X c tA) (ha:PE X a ta) (hb:PE X b tb):PE X (.IfExp c a b pos) (tIf tA ta tb):=by
 intro pins s σ H Q I h
 refine wpAny_IfExp (thn (hc pins s σ H _ I h) fun d s1 ⟨H1,I1,q1⟩=>?_)
 cases d with
 | true=>exact ha pins s1 σ H1 Q I1 q1
 | false=>exact hb pins s1 σ H1 Q I1 q1
end
end L2
namespace L2
open PySem PySem.Spec PyProof.Rows
def SqL (K:Frg) (H:Hp) (a:Addr) (xs:List V):Prop:=
 Rd H a (.lst xs) ∨
   ∃(o:Obj) (its:Array Value) (n:Nat),K.lookup a=some o∧o.cls = .type "list" ∧ o.dict=none∧o.data = .seq its n∧its.size≤sizeLine∧Vals xs its.toList
def SqT (K:Frg) (H:Hp) (a:Addr) (xs:List V):Prop:=
 Rd H a (.tup xs) ∨
   ∃(o:Obj) (its:Array Value) (n:Nat),K.lookup a=some o∧o.cls = .type "tuple" ∧ o.data = .seq its n∧its.size≤sizeLine∧Vals xs its.toList
def v6:Value→Option V
 | .none=>some .non
 | .bool b=>some (.bl b)
 | .int i _=>some (.int i)
 | .str x _=>some (.str x)
 | .bytes b _=>some (.byt b)
 | .float b _=>some (.flt b)
 | .ref a=>some (.ref a)
 | .type n=>some (.ty n)
 | _=>none
theorem RelV.abs {x:V}{u:Value}(r:RelV x u):v6 u=some x:=by
 cases x with
 | non=>cases r;rfl
 | bl _=>cases r;rfl
 | int _=>obtain⟨t,rfl⟩:=r;rfl
 | str _=>obtain⟨t,rfl⟩:=r;rfl
 | byt _=>obtain⟨t,rfl⟩:=r;rfl
 | flt _=>obtain⟨t,rfl⟩:=r;rfl
 | ref _=>cases r;rfl
 | ty _=>cases r;rfl
theorem RelV.inj {x y:V}{u:Value}(r:RelV x u) (q:RelV y u):x=y:=Option.some.inj (r.abs.symm.trans q.abs)
theorem Vals.inj:∀{xs ys:List V}{us:List Value},Vals xs us→Vals ys us→xs=ys
 | _,_,_,.nil,.nil=>rfl
 | _,_,_,.cons r t,.cons r' t'=>by rw[r.inj r',Vals.inj t t']
section
variable {X:Cx}{pins:List (Addr×Obj)}{σ:St}{H:Hp}{s:Shared}{a:Addr}{xs ys:List V}
theorem SqL.of {K:Frg}(h:H a=some (.lst xs)):SqL K H a xs:=.inl (.inl h)
theorem Inv.list (I:Inv X pins σ H s) (h:SqL X.K H a xs):∃its:List Value,Vals xs its∧PlainL s.heap a its.toArray∧xs.length≤sizeLine:=by
 rcases h with h | ⟨o,its,n,hk,hc,hd,hs,hz,r⟩
 · obtain⟨z,its,n,r,e⟩:=h.ok I.hok
   exact⟨its,r,⟨_,n,e,rfl,rfl,rfl⟩,z⟩
 · refine⟨its.toList,r,⟨o,n,I.kIn a o hk,hc,hd,by simpa using hs⟩,?_⟩
   have e:=r.length
   simp only[Array.length_toList] at e
   omega
theorem Inv.tuple (I:Inv X pins σ H s) (h:SqT X.K H a xs):∃its:List Value,Vals xs its∧IsTup s.heap a its.toArray∧xs.length≤sizeLine:=by
 rcases h with h | ⟨o,its,n,hk,hc,hs,hz,r⟩
 · obtain⟨z,its,r,p⟩:=h.ok I.hok
   exact⟨its,r,p,z⟩
 · refine⟨its.toList,r,⟨o,I.kIn a o hk,hc,n,by simpa using hs⟩,?_⟩
   have e:=r.length
   simp only[Array.length_toList] at e
   omega
theorem Inv.list_inj (I:Inv X pins σ H s) (h:SqL X.K H a xs) (h':SqL X.K H a ys):xs=ys:=by
 obtain⟨its,r,⟨o,n,e,_,_,d⟩,_⟩:=I.list h
 obtain⟨its',r',⟨o',n',e',_,_,d'⟩,_⟩:=I.list h'
 rw[e] at e';cases e'
 rw[d] at d'
 injection d' with d1 _
 have:its=its':=by simpa using congrArg Array.toList d1
 subst this
 exact r.inj r'
theorem Inv.tuple_inj (I:Inv X pins σ H s) (h:SqT X.K H a xs) (h':SqT X.K H a ys):xs=ys:=by
 obtain⟨its,r,⟨o,e,_,n,d⟩,_⟩:=I.tuple h
 obtain⟨its',r',⟨o',e',_,n',d'⟩,_⟩:=I.tuple h'
 rw[e] at e';cases e'
 rw[d] at d'
 injection d' with d1 _
 have:its=its':=by simpa using congrArg Array.toList d1
 subst this
 exact r.inj r'
end
abbrev Cx.wish (X:Cx) (E:Value→Shared→Prop):Cx:={ X with xe:=E }
abbrev Cx.nox (X:Cx):Cx:=X.wish fun _ _=>False
theorem Cx.Ok.wish {X:Cx}(ok:X.Ok) (E:Value→Shared→Prop):(X.wish E).Ok:=
 ⟨ok.mod,ok.kind,ok.glob,ok.blt,ok.above,ok.inj,ok.has,ok.cab,ok.hd,ok.frames,ok.stk,ok.exf,ok.bs,ok.bsz,ok.noex,ok.exfs,ok.funs,ok.frf⟩
theorem Cx.Ok.unwish {X:Cx}{E:Value→Shared→Prop}(ok:(X.wish E).Ok):X.Ok:=
 ⟨ok.mod,ok.kind,ok.glob,ok.blt,ok.above,ok.inj,ok.has,ok.cab,ok.hd,ok.frames,ok.stk,ok.exf,ok.bs,ok.bsz,ok.noex,ok.exfs,ok.funs,ok.frf⟩
section
variable {X:Cx}{pins:List (Addr×Obj)}{σ:St}{H:Hp}{s:Shared}{E:Value→Shared→Prop}
theorem Inv.wish (I:Inv X pins σ H s) (E:Value→Shared→Prop):Inv (X.wish E) pins σ H s:=⟨I.ok.wish E,I.os,I.bare,I.base,I.loc,I.cell,I.free,I.freeC,I.pin,I.hok,I.len⟩
theorem Inv.unwish (I:Inv (X.wish E) pins σ H s):Inv X pins σ H s:=⟨I.ok.unwish,I.os,I.bare,I.base,I.loc,I.cell,I.free,I.freeC,I.pin,I.hok,I.len⟩
theorem SP.unwish {D:Ends}{f:Flow}{s':Shared}(h:SP (X.wish E) pins D f s'):SP X pins D f s':=by
 cases f with
 | next=>obtain⟨σ',H',I,q⟩:=h;exact⟨σ',H',I.unwish,q⟩
 | brk=>obtain⟨σ',H',I,q⟩:=h;exact⟨σ',H',I.unwish,q⟩
 | cont=>obtain⟨σ',H',I,q⟩:=h;exact⟨σ',H',I.unwish,q⟩
 | ret u=>obtain⟨v,σ',H',I,r,q⟩:=h;exact⟨v,σ',H',I.unwish,r,q⟩
theorem PSs.nox {st:List Stmt}{t:TS}(h:PSs X.nox st t):PSs X st t:=fun pins s σ H D I hw=>
 wpAny_mono (h pins s σ H D (I.wish _) hw) (fun _ _ q=>q.unwish) fun _ _ z=>False.elim z
end
section
variable {X:Cx}{st:Stmt}{rest:List Stmt}{t u:TS}{e:Expr}{te:TE}{pos:Pos}
def nC:TS:=fun D σ H=>D.nx σ H
def jB (t u:TS):TS:=fun D σ H=>t { D with nx:=u D } σ H
theorem jC:PSs X [] nC:=fun _ _ σ H _ I h=>wpAny_execs_nil ⟨σ,H,I,h⟩
theorem T6 (h1:PS X st t) (h2:PSs X rest u):PSs X (st::rest) (jB t u):=by
 intro pins s σ H D I h
 refine wpAny_execs_cons (thn (h1 pins s σ H { D with nx:=u D } I h) fun f s1 q=>?_)
 cases f with
 | next=>
   obtain⟨σ',H',I',q⟩:=q
   exact h2 pins s1 σ' H' D I' q
 | ret v=>exact q
 | brk=>exact q
 | cont=>exact q
theorem RJ (h1:PS X st t):PSs X [st] t:=by
 intro pins s σ H D I h
 refine wpAny_execs_cons (thn (h1 pins s σ H D I h) fun f s1 q=>?_)
 cases f with
 | next=>exact wpAny_execs_nil q
 | ret v=>exact q
 | brk=>exact q
 | cont=>exact q
theorem Inv.quiet {pins:List (Addr×Obj)}{σ:St}{H:Hp}{s:Shared}(I:Inv X pins σ H s):interactive X.env=false:=by simp[interactive,I.ok.kind]
def cD (te:TE):TS:=fun D σ H=>te σ H fun _ H1=>D.nx σ H1
theorem jD (he:PE X e te) (hs:swapsWith e none pos.line X.env=pure false:=by rfl):PS X (.Expr e pos) (cD te):=by
 intro pins s σ H D I h
 exact wpAny_Expr_any (thn (he pins s σ H _ I h) fun v s1 ⟨x,H1,I1,r1,q1⟩=>⟨σ,H1,I1,q1⟩) I.quiet hs
def sY (te:TE):TS:=fun D σ H=>te σ H D.rt
theorem oS (he:PE X e te):PS X (.Return (some e) pos) (sY te):=by
 intro pins s σ H D I h
 exact wpAny_Return_some (thn (he pins s σ H _ I h) fun v s1 ⟨x,H1,I1,r1,q1⟩=>⟨x,σ,H1,I1,r1,q1⟩)
def oU (c:TT) (t u:TS):TS:=fun D σ H=>c σ H fun b H1=>if b=true then t D σ H1 else u D σ H1
theorem nD {c:Expr}{a b:List Stmt}{tc:TT}(hc:PT X c tc) (ha:PSs X a t) (hb:PSs X b u):PS X (.If c a b pos) (oU tc t u):=by
 intro pins s σ H D I h
 refine wpAny_If (thn (hc pins s σ H _ I h) fun d s1 ⟨H1,I1,q1⟩=>?_)
 cases d with
 | true=>exact ha pins s1 σ H1 D I1 q1
 | false=>exact hb pins s1 σ H1 D I1 q1
def VY:TS:=fun _ _ _=>False
theorem cE:PS X st VY:=fun _ _ _ _ _ _ h=>h.elim
theorem L8 {sts:List Stmt}:PSs X sts VY:=fun _ _ _ _ _ _ h=>h.elim
end
abbrev TG:=V→St→Hp→(St→Hp→Prop)→Prop
abbrev TGs:=List V→St→Hp→(St→Hp→Prop)→Prop
def PG (X:Cx) (target:Expr) (t:TG):Prop:=
 ∀(pins:List (Addr×Obj)) (s:Shared) (σ:St) (H:Hp) (v:V) (u:Value) (Q:St→Hp→Prop),Inv X pins σ H s→RelV v u→t v σ H Q →
   wpAny (model X.prog X.w) X.A (assign target X.env u) (fun _ s'=>∃σ' H',Inv X pins σ' H' s'∧Q σ' H') X.xe s
def PGs (X:Cx) (ts:List Expr) (t:TGs):Prop:=
 ∀(pins:List (Addr×Obj)) (s:Shared) (σ:St) (H:Hp) (vs:List V) (us:List Value) (Q:St→Hp→Prop),Inv X pins σ H s→Vals vs us→t vs σ H Q →
   wpAny (model X.prog X.w) X.A (assignInOrder ((assignEach ts X.env).map (·.2)) us) (fun _ s'=>∃σ' H',Inv X pins σ' H' s'∧Q σ' H') X.xe s
abbrev oV:=V→V→V→Hp→(Hp→Prop)→Prop
def sZ (X:Cx) (t:oV):Prop:=
 ∀(pins:List (Addr×Obj)) (s:Shared) (σ:St) (H:Hp) (o i v:V) (ov iv u:Value) (Q:Hp→Prop),Inv X pins σ H s→RelV o ov→RelV i iv→RelV v u→t o i v H Q →
   wpAny (model X.prog X.w) X.A (setItem ov iv u) (fun _ s'=>∃H',Inv X pins σ H' s'∧Q H') X.xe s
section
variable {X:Cx}{pos:Pos}
def LX (i:Nat):TG:=fun v σ H Q=>Q (σ.set i (some v)) H
theorem MX {i:Nat}{x:Str}(hN:X.N.Nodup) (hi:X.N[i]?=some x) (hx:Loc X.env.scope x) (hf:X.fn x=true∨X.env.scope.names.lookup x=some .local:=by first | exact .inl rfl | exact .inr rfl | assumption):PG X (.Name x pos) (LX i):=by
 intro pins s σ H v u Q I r h
 exact wpAny_assign_Name (JZ I hN hi hx r (fun s' I'=>⟨_,H,I',h⟩) hf)
def oW:TGs:=fun vs σ H Q=>vs=[]∧Q σ H
def Y8 (t:TG) (u:TGs):TGs:=fun vs σ H Q=>∃v r,vs=v::r∧t v σ H fun σ' H'=>u r σ' H' Q
theorem Y9:PGs X [] oW:=by
 intro pins s σ H vs us Q I r h
 obtain⟨e,h⟩:=h
 subst e
 cases r
 exact assignInOrder_nil ⟨σ,H,I,h⟩
theorem NA {e:Expr}{es:List Expr}{t:TG}{u:TGs}(h1:PG X e t) (h2:PGs X es u)
   (hs:(assignEach (e::es) X.env).map (·.2)=assign e X.env::(assignEach es X.env).map (·.2):=by rfl):PGs X (e::es) (Y8 t u):=by
 intro pins s σ H vs us Q I r h
 obtain⟨v,vr,e1,h⟩:=h
 subst e1
 cases r with
 | cons r rr=>
   rw[hs]
   refine assignInOrder_cons (thn (h1 pins s σ H _ _ _ I r h) fun _ s1 ⟨σ1,H1,I1,q1⟩=>?_)
   exact h2 pins s1 σ1 H1 _ _ Q I1 rr q1
def jE (K:Frg) (n:Nat) (t:TGs):TG:=fun v σ H Q=>∃a xs,v = .ref a∧SqT K H a xs∧xs.length=n∧t xs σ H Q
theorem cF {es:List Expr}{k:Nat}{t:TGs}{n:Nat}(hc:X.calm=true) (h:PGs X es t)
   (hn:(assignEach es X.env).length=n:=by rfl) (hst:(assignEach es X.env).findIdx? (·.1)=none:=by rfl):PG X (.Tuple es k pos) (jE X.K n t):=by
 intro pins s σ H v u Q I r hw
 obtain⟨a,xs,e1,hq,hl,hw⟩:=hw
 subst e1
 cases r
 obtain⟨its,rv,ht,hz⟩:=I.tuple hq
 refine assign_Tuple_tuple (I.ok.hd hc) ht (by simp[hn,← hl,rv.length]) hst fun h' hx=>?_
 have I1:Inv X pins σ H { s with heap:=h' }:=I.kept (t':=s.toks) fun b o e=>hx b o (zC (zM e)) e
 exact h pins _ σ H xs _ Q I1 (by simpa using rv) hw
def oX (to ti:TE) (t:oV):TG:=fun v σ H Q=>to σ H fun o H1=>ti σ H1 fun i H2=>t o i v H2 fun H3=>Q σ H3
theorem oY {o i:Expr}{to ti:TE}{t:oV}(ho:PE X o to) (hi:PE X i ti) (hs:sZ X t)
   (ha:∀v,assign (.Subscript o i pos) X.env v=(do
     let ov ← holding [v] (eval o X.env)
     let iv ← holding [v,ov] (eval i X.env)
     standAt pos
     holding [v,ov,iv] (setItem ov iv v)
     release [v,ov,iv] []):=by intro _;rfl):PG X (.Subscript o i pos) (oX to ti t):=by
 intro pins s σ H v u Q I r h
 rw[ha]
 refine zZ (wpAny_holding (thn (ho pins s σ H _ I h) fun ov s1 ⟨x,H1,I1,r1,q1⟩=>?_))
 refine zZ (wpAny_holding (thn (hi pins s1 σ H1 _ I1 q1) fun iv s2 ⟨y,H2,I2,r2,q2⟩=>?_))
 refine zZ (wpAny_standAt (zZ (wpAny_holding (thn (hs pins s2 σ H2 x y v ov iv u _ I2 r1 r2 r q2) fun _ s3 ⟨H3,I3,q3⟩=>?_))))
 exact wpAny_release ⟨σ,H3,I3,q3⟩
def ZT (te:TE) (g:TG):TS:=fun D σ H=>te σ H fun x H1=>g x σ H1 D.nx
theorem RK {tg e:Expr}{te:TE}{g:TG}(he:PE X e te) (hg:PG X tg g) (hs:swapsWithSole [tg] e pos.line X.env=pure false:=by rfl) (hw:swappedStores [tg] e X.env=pure none:=by rfl)
   (h1:(assignEach [tg] X.env).map (·.2)=[assign tg X.env]:=by rfl):PS X (.Assign [tg] e pos) (ZT te g):=by
 intro pins s σ H D I h
 refine wpAny_Assign_stores (thn (he pins s σ H _ I h) fun v s1 ⟨x,H1,I1,r1,q1⟩=>?_) hs hw
 rw[h1]
 exact thn (hg pins s1 σ H1 x v _ I1 r1 q1) fun _ s2 q=>q
theorem oZ {i:Nat}{x:Str}{e:Expr}{te:TE}{pos':Pos}(hN:X.N.Nodup) (hi:X.N[i]?=some x) (hx:Loc X.env.scope x) (he:PE X e te) (hs:swapsWith e (some (.Name x pos')) pos.line X.env=pure false:=by rfl) (hf:X.fn x=true∨X.env.scope.names.lookup x=some .local:=by first | exact .inl rfl | exact .inr rfl | assumption) :
   PS X (.Assign [.Name x pos'] e pos) (ZT te (LX i)):=by
 intro pins s σ H D I h
 refine wpAny_Assign_Name (thn (he pins s σ H _ I h) fun v s1 ⟨y,H1,I1,r1,q1⟩=>?_) hs
 exact JZ I1 hN hi hx r1 (fun s2 I2=>⟨_,H1,I2,q1⟩) hf
def t7 (i j:Nat) (ta:TA):TS:=fun D σ H=>ta σ H fun vs H1=>∃v w,vs=[v,w]∧D.nx ((σ.set i (some v)).set j (some w)) H1
theorem cG {i j:Nat}{x y:Str}{a b:Expr}{ta:TA}{px py pt:Pos}{kt k2 pt2} (hc:X.calm=true) (hN:X.N.Nodup) (hi:X.N[i]?=some x) (hj:X.N[j]?=some y) (hij:i≠j)
   (hx:X.env.scope.names.lookup x=some .local) (hy:X.env.scope.names.lookup y=some .local) (ha:PA X [a,b] ta)
   (hw:swappedStores [.Tuple [.Name x px,.Name y py] kt pt] (.Tuple [a,b] k2 pt2) X.env=pure (some [x,y]))
   (hs:swapsWithSole [.Tuple [.Name x px,.Name y py] kt pt] (.Tuple [a,b] k2 pt2) pos.line X.env=pure false:=by rfl) :
   PS X (.Assign [.Tuple [.Name x px,.Name y py] kt pt] (.Tuple [a,b] k2 pt2) pos) (t7 i j ta):=by
 intro pins s σ H D I h
 rw[exec_Assign_arm]
 refine zZ (wpAny_standAt ?_)
 rw[hs]
 refine zZ (zY ?_)
 rw[if_neg (by decide)]
 refine zZ (Tuple_ (thn (ha _ pins s σ H _ I h) fun us s1 ⟨vs,H1,I1,r1,q1⟩=>?_))
 obtain⟨v,w,e1,q1⟩:=q1
 subst e1
 obtain⟨u1,u2,rfl,rv,rw'⟩:∃u1 u2,us=[u1,u2]∧RelV v u1∧RelV w u2:=by
   cases r1 with
   | cons p q=>
     cases q with
     | cons p' q'=>
       cases q'
       exact⟨_,_,rfl,p,p'⟩
 refine xN ?_ (by show 2≤sizeLine;decide)
 have I2:Inv X pins σ H1 { s1 with heap:=s1.heap.push { cls:=.type "tuple", data:=.seq [u1,u2].toArray } }:=I1.kept (t':=s1.toks) fun b o e=>zW _ e
 rw[hw]
 refine zZ (zY ?_)
 show wpAny (model X.prog X.w) X.A (do rule "assign.swapped-stores";let items ← unpackItems (.ref s1.heap.objs.size) 2 none;assignInOrder [fun v=>bindName X.env y v,fun v=>bindName X.env x v] items.reverse;pure Flow.next) _ _ _
 refine zZ (wpAny_rule (zZ (unpackItems_tuple (items:=#[u1,u2]) (I.ok.hd hc) (IsTup.new s1.heap _) fun h' hx'=>?_)))
 have I3:=I2.kept (h':=h') (t':=s1.toks) fun b o e=>hx' b o (zC (zM e)) e
 show wpAny _ _ (assignInOrder [fun v=>bindName X.env y v,fun v=>bindName X.env x v] [u2,u1] >>= fun _=>pure Flow.next) _ _ _
 refine zZ (assignInOrder_cons (wpAny_bindName (JZ I3 hN hj (.inl hy) rw' (fun s2 I4=>?_) (.inr hy))))
 refine assignInOrder_cons (wpAny_bindName (JZ I4 hN hi (.inl hx) rv (fun s3 I5=>assignInOrder_nil (zY ?_)) (.inr hx)))
 rw[List.set_comm _ _ (Ne.symm hij)] at I5
 exact⟨_,H1,I5,q1⟩
end
section
variable {X:Cx}{pos:Pos}
def cH (c:TT) (tb:TS):TS:=fun D σ H=>∃W:Nat→St→Hp→Prop,(∃m,W m σ H)∧∀m σ H,W m σ H →
 c σ H fun b H1=>if b=true then ∃N:St→Hp→Prop,(∀σ' H',N σ' H'→∃m',m' < m∧W m' σ' H')∧tb { D with nx:=N,ct:=N,bk:=D.nx } σ H1 else D.nx σ H1
theorem T7 {c:Expr}{body:List Stmt}{tc:TT}{tb:TS}(hp:PassesOwn (model X.prog X.w) X.A X.env X.xe) (hc:PT X c tc) (hb:PSs X body tb):PS X (.While c body [] pos) (cH tc tb):=by
 intro pins s σ H D I h
 obtain⟨W,⟨m0,w0⟩,turn⟩:=h
 refine wpAny_While (codeAny_whileLoop (fun n s'=>∃σ' H',Inv X pins σ' H' s'∧W n σ' H') ?_ m0 ⟨σ,H,I,w0⟩)
 rintro n s1 ⟨σ1,H1,I1,w1⟩
 refine wpAny_passesOwn hp (thn (hc pins s1 σ1 H1 _ I1 (turn n σ1 H1 w1)) fun b s2 ⟨H2,I2,q2⟩=>?_)
 cases b with
 | true=>
   obtain⟨N,hN,q2⟩:=q2
   rw[if_pos rfl]
   refine wpAny_passesOwn hp (thn (hb pins s2 σ1 H2 _ I2 q2) fun f s3 q3=>?_)
   cases f with
   | next=>
     obtain⟨σ3,H3,I3,n3⟩:=q3
     obtain⟨m',hm,w3⟩:=hN σ3 H3 n3
     exact⟨m',hm,σ3,H3,I3,w3⟩
   | cont=>
     obtain⟨σ3,H3,I3,n3⟩:=q3
     obtain⟨m',hm,w3⟩:=hN σ3 H3 n3
     exact⟨m',hm,σ3,H3,I3,w3⟩
   | brk=>exact q3
   | ret v=>exact q3
 | false=>
   rw[if_neg nft]
   exact wpAny_execs_nil ⟨σ1,H2,I2,q2⟩
end
structure It where
 go:Nat→Hp→Prop
 yld:Nat→Hp→V→Hp→Prop
 stop:Nat→Hp→Prop
def IX (X:Cx) (pins:List (Addr×Obj)) (H:Hp) (b:Addr):Prop:=
 H b=none∧b≠X.env.locals∧b∉X.fs∧(b∈X.ex∨X.s₀.heap.objs.size≤b)∧(∀x c,X.env.cells.lookup x=some c→c≠b)∧∀p∈X.pn++pins,p.1≠b
theorem Inv.fpOk {X:Cx}{pins:List (Addr×Obj)}{σ:St}{H H':Hp}{s:Shared}{b:Addr}(I:Inv X pins σ H s) (hb:s.heap.objs.size≤b) (hn:H' b=none):IX X pins H' b:=by
 refine⟨hn,Nat.ne_of_gt (zP I.lt hb),I.nofs hb,.inr (zN I.sz hb),fun x c e z=>?_,fun p hp z=>?_⟩
 · obtain⟨v,q⟩:=I.cell x c e
   exact absurd (zP q.lt (by rw[z];exact hb)) (yF _)
 · exact absurd (zP (zM (I.pin p hp).1) (by rw[z];exact hb)) (yF _)
structure Turn (P:Program) (w:World) (K:Frg) (tg:Expr) (J:It) (fp:List Addr) (it:Addr) (tn:Nat→Heap→Prop):Prop where
 mem:it∈fp
 obj:∀i h,tn i h→∀b∈fp,∃o,h.get? b=some o∧∀v,o.data≠.cell v
 keep:∀i h h',tn i h→(∀b∈fp,∀o,h.get? b=some o→h'.get? b=some o)→tn i h'
 item:∀(X:Cx),X.prog=P→X.w=w→X.K=K→X.calm=true→∀(i:Nat) (pins:List (Addr×Obj)) (s:Shared) (σ:St) (H:Hp) (E:Value→Shared→Prop),Inv X pins σ H s→(∀b∈fp,IX X pins H b)→tn i s.heap→J.go i H →
   wpAny (model P w) X.A (pyNext (.ref it)) (fun r s1=>∃u,r=some u ∧
     wpAny (model P w) X.A (letOwnedTupleGo tg (.ref it) u) (fun _ s2=>∃x H',Inv X pins σ H' s2∧RelV x u∧J.yld i H x H'∧tn (i+1) s2.heap∧∀b∈fp,H' b=none) E s1) E s
 done:∀(X:Cx),X.prog=P→X.w=w→X.K=K→X.calm=true→∀(i:Nat) (pins:List (Addr×Obj)) (s:Shared) (σ:St) (H:Hp) (E:Value→Shared→Prop),Inv X pins σ H s→(∀b∈fp,IX X pins H b)→tn i s.heap→J.stop i H →
   wpAny (model P w) X.A (pyNext (.ref it)) (fun r s1=>r=none∧Inv X pins σ H s1) E s
 self:∀(A:Around) (i:Nat) (s:Shared) (Q:Value→Shared→Prop) (E:Value→Shared→Prop),tn i s.heap→Q (.ref it) s→wpAny (model P w) A (pyIter (.ref it)) Q E s
abbrev TI:=St→Hp→(It→Hp→Prop)→Prop
def PIE (X:Cx) (pins:List (Addr×Obj)) (σ:St) (tg:Expr) (R:It→Hp→Prop) (itv:Value) (s2:Shared):Prop:=
 ∃(it:Addr) (fp:List Addr) (tn:Nat→Heap→Prop) (J:It) (H':Hp),itv = .ref it∧Inv X pins σ H' s2∧Turn X.prog X.w X.K tg J fp it tn∧tn 0 s2.heap∧(∀b∈fp,IX X pins H' b)∧R J H'
def PI (X:Cx) (tg iter:Expr) (wi:TI):Prop:=
 ∀(pins:List (Addr×Obj)) (s:Shared) (σ:St) (H:Hp) (R:It→Hp→Prop),Inv X pins σ H s→wi σ H R →
   wpAny (model X.prog X.w) X.A (eval iter X.env) (fun v s1=>wpAny (model X.prog X.w) X.A (pyIter v) (PIE X pins σ tg R) X.xe s1) X.xe s
theorem YA {M:Model}{A:Around}{E:Value→Shared→Prop}{s:Shared}{tg:Expr}{it:Addr}{u:Value}{o:Obj}{n:String}{vs:Array Value}{Q:Unit→Shared→Prop}(ho:s.heap.get? it=some o) (hc:o.cls = .type n) (hd:o.data = .fields vs)
   (hn:["enumerate", "zip", "dict_itemiterator", "dict_reverseitemiterator", "odict_iterator", "itertools.zip_longest", "itertools.pairwise"].contains n=false) (hQ:Q () s):wpAny M A (letOwnedTupleGo tg (.ref it) u) Q E s:=by
 unfold letOwnedTupleGo
 cases tg <;> first
   | exact zY hQ
   | (cases u <;> first
       | exact zY hQ
       | (refine zZ (wpAny_load ho ?_)
          rw[hc,hd]
          show wpAny M A (if (["enumerate", "zip", "dict_itemiterator", "dict_reverseitemiterator", "odict_iterator", "itertools.zip_longest", "itertools.pairwise"].contains n&&vs[0]?==some (rawInt _))=true then _ else _) Q E s
          rw[if_neg (by intro h;rw[hn,Bool.false_and] at h;cases h)]
          exact zY hQ))
def Itl (K:Frg) (a:Addr):It:=
 ⟨fun i H=>∃xs x,SqL K H a xs∧xs[i]?=some x,fun i H x H'=>H'=H∧∀xs,SqL K H a xs→xs[i]?=some x,fun i H=>∃xs,SqL K H a xs∧xs.length≤i⟩
def Itt (K:Frg) (a:Addr):It:=
 ⟨fun i H=>∃xs x,SqT K H a xs∧xs[i]?=some x,fun i H x H'=>H'=H∧∀xs,SqT K H a xs→xs[i]?=some x,fun i H=>∃xs,SqT K H a xs∧xs.length≤i⟩
def Itr (lo:Int) (n:Nat):It:=⟨fun i _=>i < n,fun i H x H'=>H'=H∧x = .int (lo+i),fun i _=>n≤i⟩
theorem ZU {P:Program}{w:World}{K:Frg}{tg:Expr}(a it:Addr):Turn P w K tg (Itl K a) [it] it (fun i h=>h.IsListIter it a i) where
 mem:=by simp
 obj:=fun i h st b hb=>by
   have e:b=it:=by simpa using hb
   subst e
   obtain⟨o,e,c,d⟩:=st
   exact⟨o,e,fun v z=>by rw[d] at z;cases z⟩
 keep:=fun i h h' st k=>st.at fun o e=>k it (by simp) o e
 item:=by
   intro X hP hw hK hc i pins s σ H E I hf st hg
   subst hP hw hK
   obtain⟨xs,x,hq,hx⟩:=hg
   obtain⟨its,rv,p,hz⟩:=I.list hq
   obtain⟨u,hu,ru⟩:=rv.get hx
   obtain⟨f0,f1,f2,f3,f4,f5⟩:=hf it (by simp)
   refine wpAny_pyNext_list_item st p.isList (x:=u) (by simpa using hu) fun h' st' sb=>?_
   have I1:Inv X pins σ H { s with heap:=h' }:=I.turned (t':=s.toks) (fun b o hb e=>(sb.2 b hb).trans e) f0 f1 f3 f4 f5
   obtain⟨o,e,c,d⟩:=id st'
   exact⟨u,rfl,YA (s:={ s with heap:=h' }) e c d (by decide) ⟨x,H,I1,ru,⟨rfl,fun ys hy=>by rw[I.list_inj hy hq];exact hx⟩,st',fun b hb=>(hf b hb).1⟩⟩
 done:=by
   intro X hP hw hK hc i pins s σ H E I hf st hg
   subst hP hw hK
   obtain⟨xs,hq,hx⟩:=hg
   obtain⟨its,rv,p,hz⟩:=I.list hq
   obtain⟨f0,f1,f2,f3,f4,f5⟩:=hf it (by simp)
   have hl:=rv.length
   exact wpAny_pyNext_list_end (I.ok.hd hc) st p.isList (by simp;omega) fun h' eb=>⟨rfl,I.turned (t':=s.toks) (fun b o hb e=>eb b o hb e) f0 f1 f3 f4 f5⟩
 self:=fun _ _ _ _ _ st h=>wpAny_pyIter_listiter st h
theorem VZ {P:Program}{w:World}{K:Frg}{tg:Expr}(a it:Addr):Turn P w K tg (Itt K a) [it] it (fun i h=>h.IsTupleIter it a i) where
 mem:=by simp
 obj:=fun i h st b hb=>by
   have e:b=it:=by simpa using hb
   subst e
   obtain⟨o,e,c,d⟩:=st
   exact⟨o,e,fun v z=>by rw[d] at z;cases z⟩
 keep:=fun i h h' st k=>st.at fun o e=>k it (by simp) o e
 item:=by
   intro X hP hw hK hc i pins s σ H E I hf st hg
   subst hP hw hK
   obtain⟨xs,x,hq,hx⟩:=hg
   obtain⟨its,rv,p,hz⟩:=I.tuple hq
   obtain⟨u,hu,ru⟩:=rv.get hx
   obtain⟨f0,f1,f2,f3,f4,f5⟩:=hf it (by simp)
   refine wpAny_pyNext_tuple_item st (show s.heap.IsTuple a its.toArray from p) (x:=u) (by simpa using hu) fun h' st' sb=>?_
   have I1:Inv X pins σ H { s with heap:=h' }:=I.turned (t':=s.toks) (fun b o hb e=>(sb.2 b hb).trans e) f0 f1 f3 f4 f5
   obtain⟨o,e,c,d⟩:=id st'
   exact⟨u,rfl,YA (s:={ s with heap:=h' }) e c d (by decide) ⟨x,H,I1,ru,⟨rfl,fun ys hy=>by rw[I.tuple_inj hy hq];exact hx⟩,st',fun b hb=>(hf b hb).1⟩⟩
 done:=by
   intro X hP hw hK hc i pins s σ H E I hf st hg
   subst hP hw hK
   obtain⟨xs,hq,hx⟩:=hg
   obtain⟨its,rv,p,hz⟩:=I.tuple hq
   obtain⟨f0,f1,f2,f3,f4,f5⟩:=hf it (by simp)
   have hl:=rv.length
   exact wpAny_pyNext_tuple_end (I.ok.hd hc) st (show s.heap.IsTuple a its.toArray from p) (by simp;omega) fun h' eb=>⟨rfl,I.turned (t':=s.toks) (fun b o hb e=>eb b o hb e) f0 f1 f3 f4 f5⟩
 self:=fun _ _ _ _ _ st h=>wpAny_pyIter_tupleiter st h
theorem W0 {P:Program}{w:World}{K:Frg}{tg:Expr}(it:Addr) (lo:Int) (n:Nat):Turn P w K tg (Itr lo n) [it] it (fun i h=>IsRangeIter h it (lo+(i:Nat)*1) ((n:Int) - (i:Nat)) 1) where
 mem:=by simp
 obj:=fun i h st b hb=>by
   have e:b=it:=by simpa using hb
   subst e
   exact⟨_,st,fun v z=>by
     have z':Data.fields _=Data.cell v:=z
     cases z'⟩
 keep:=fun i h h' st k=>k it (by simp) _ st
 item:=by
   intro X hP hw hK hc i pins s σ H E I hf st hg
   subst hP hw hK
   obtain⟨f0,f1,f2,f3,f4,f5⟩:=hf it (by simp)
   have W:=Walks.range (prog:=X.prog) (w:=X.w) (I.ok.hd hc) it lo 1 n
   refine W.item i s _ _ hg st fun v h' tk hv st' kk=>?_
   obtain⟨t,rfl⟩:=hv
   have I1:Inv X pins σ H { s with heap:=h',toks:=tk }:=I.turned (fun b o hb e=>kk b o (by simpa using hb) e) f0 f1 f3 f4 f5
   refine⟨_,rfl,YA (s:={ s with heap:=h',toks:=tk }) (n:= "range_iterator") st' rfl rfl (by decide) ⟨.int (lo+i),H,I1,⟨t,?_⟩,⟨rfl,rfl⟩,st',fun b hb=>(hf b hb).1⟩⟩
   rw[Int.mul_one]
 done:=by
   intro X hP hw hK hc i pins s σ H E I hf st hg
   subst hP hw hK
   obtain⟨f0,f1,f2,f3,f4,f5⟩:=hf it (by simp)
   exact wpAny_pyNext_range_end (I.ok.hd hc) st (by have:n≤i:=hg;omega) fun h' eb=>⟨rfl,I.turned (t':=s.toks) (fun b o hb e=>eb b o hb e) f0 f1 f3 f4 f5⟩
 self:=fun _ _ _ _ _ st h=>wpAny_pyIter_rangeiter st h
end L2
namespace L2
open PySem PySem.Spec PyProof.Rows
section
variable {X:Cx}{tg:Expr}
theorem cI {pins:List (Addr×Obj)}{σ:St}{H:Hp}{s:Shared}{R:It→Hp→Prop}{E:Value→Shared→Prop}{lo hi:Int}{t u v:Tok}{tk:Nat}(I:Inv X pins σ H s) (h1 : -(2 ^ 62)≤lo) (h2:lo < 2 ^ 62) (h3 : -(2 ^ 62)≤hi) (h4:hi < 2 ^ 62)
   (q:R (Itr lo (hi - lo).toNat) H):wpAny (model X.prog X.w) X.A (pyIter (.ref s.heap.objs.size)) (PIE X pins σ tg R) E { s with heap:=s.heap.push { cls:=.type "range", data:=.fields #[.int lo t,.int hi u,.int 1 v] },toks:=tk }:=by
 refine wpAny_pyIter_range (IsRange.new ..) (small_one h1 h2 h3 h4) ?_
 have I1:Inv X pins σ H { s with heap:=s.heap.push { cls:=.type "range", data:=.fields #[.int lo t,.int hi u,.int 1 v] },toks:=tk }:=I.kept fun b o e=>zW _ e
 refine⟨(s.heap.push { cls:=.type "range", data:=.fields #[.int lo t,.int hi u,.int 1 v] }).objs.size,[(s.heap.push { cls:=.type "range", data:=.fields #[.int lo t,.int hi u,.int 1 v] }).objs.size],_,_,H,rfl,
   I1.kept (t':=tk) fun b o e=>zW _ e,W0 _ lo (hi - lo).toNat,?_,fun b hb=>?_,q⟩
 · have e1:lo+((0:Nat):Int)*1=lo:=by simp
   have e2:(((hi - lo).toNat:Nat):Int) - ((0:Nat):Int)=Builtin.Range.rangeSize lo hi 1:=by rw[rangeSize_one];split <;> omega
   show IsRangeIter _ _ (lo+((0:Nat):Int)*1) ((((hi - lo).toNat:Nat):Int) - ((0:Nat):Int)) 1
   rw[e1,e2]
   exact yZ _ rfl
 · have e:b=(s.heap.push { cls:=.type "range", data:=.fields #[.int lo t,.int hi u,.int 1 v] }).objs.size:=by simpa using hb
   subst e
   exact I1.fpOk (zR _) (I1.hok.fresh (zR _))
def nE (ta:TA):TI:=fun σ H R=>ta σ H fun vs H1=>∃j:Int,vs=[.int j]∧-(2 ^ 62)≤j∧j < 2 ^ 62∧R (Itr 0 j.toNat) H1
theorem ZV {a:Expr}{ta:TA}{p pos:Pos}(hg:Gl X "range") (hm:X.mg "range"=none) (ha:PA X [a] ta) (hs:starEach [a] X.env=[(false,eval a X.env)]:=by rfl):PI X tg (.Call (.Name "range" p) [a] [] pos) (nE ta):=by
 intro pins s σ H R I h
 refine Call_ (JI I hg hm boot_range (xI (thn (ha pos pins s σ H _ I h) fun us s1 ⟨vs,H1,I1,r1,q1⟩=>?_) hs rfl))
 obtain⟨j,e,q1,q2,q⟩:=q1
 subst e
 cases r1 with
 | cons r rr=>
   cases rr
   obtain⟨t,rfl⟩:=r
   exact call_range_1 (cI I1 (by omega) (by omega) q1 q2 (by simpa using q))
def p6 (wi:TI) (g:TG) (tb:TS):TS:=fun D σ H=>wi σ H fun J H1=>∃W:Nat→Nat→St→Hp→Prop,(∃m,W 0 m σ H1)∧∀i m σ H,W i m σ H →
 (J.stop i H∧D.nx σ H)∨(J.go i H∧∃N:St→Hp→Prop,(∀σ' H',N σ' H'→∃m',m' < m∧W (i+1) m' σ' H')∧∀x H',J.yld i H x H'→g x σ H' fun σ2 H2=>tb { D with nx:=N,ct:=N,bk:=D.nx } σ2 H2)
def L9 (fp:List Addr) (h:Heap):List (Addr×Obj):=fp.filterMap fun b=>(h.get? b).map fun o=>(b,o)
theorem CZ {fp:List Addr}{h:Heap}{b:Addr}{o:Obj}(hb:b∈fp) (e:h.get? b=some o):(b,o)∈L9 fp h:=List.mem_filterMap.mpr ⟨b,hb,by rw[e];rfl⟩
theorem ZW {fp:List Addr}{h:Heap}{p:Addr×Obj}(hp:p∈L9 fp h):p.1∈fp∧h.get? p.1=some p.2:=by
 obtain⟨b,hb,e⟩:=List.mem_filterMap.mp hp
 cases q:h.get? b with
 | none=>rw[q] at e;cases e
 | some o=>
   rw[q] at e
   have e':(b,o)=p:=Option.some.inj e
   subst e'
   exact⟨hb,q⟩
theorem Inv.pinned {pins:List (Addr×Obj)}{σ:St}{H:Hp}{s:Shared}{fp:List Addr}(I:Inv X pins σ H s) (hf:∀b∈fp,IX X pins H b) (ho:∀b∈fp,∃o,s.heap.get? b=some o∧∀v,o.data≠.cell v):Inv X (pins++L9 fp s.heap) σ H s:=
 I.pins_of fun p hp=>(yW.mp hp).elim (fun z=>I.pin p (zB _ z)) fun z=>by
   obtain⟨hb,e⟩:=ZW z
   obtain⟨f0,f1,f2,_⟩:=hf p.1 hb
   obtain⟨o,e',d⟩:=ho p.1 hb
   rw[e] at e';cases e'
   exact⟨e,f0,f1,f2,d⟩
theorem Inv.unpinned {pins pl:List (Addr×Obj)}{σ:St}{H:Hp}{s:Shared}(I:Inv X (pins++pl) σ H s):Inv X pins σ H s:=I.pins_of fun p hp=>I.pin p (zB _ (List.mem_append_left _ hp))
theorem cJ {iter:Expr}{body:List Stmt}{wi:TI}{g:TG}{tb:TS}{pos:Pos}(hp:PassesOwn (model X.prog X.w) X.A X.env X.xe) (hc:X.calm=true) (hi:PI X tg iter wi) (hg:PG X tg g) (hb:PSs X body tb)
   (hs:∀x,foldedSetIterable iter X.env x=pure x:=by intro _;rfl):PS X (.For tg iter body [] pos) (p6 wi g tb):=by
 intro pins s σ H D I h
 refine wpAny_For (thn (hi pins s σ H _ I h) fun v s1 h1=>thn h1 fun itv s2 h2=>?_) hs
 obtain⟨it,fp,tn,J,H2,e,I2,T,st2,f2,W,⟨m0,w0⟩,turn⟩:=h2
 subst e
 have stat:∀{H':Hp},(∀b∈fp,H' b=none)→∀b∈fp,IX X pins H' b:=fun hn b hb=>⟨hn b hb,(f2 b hb).2⟩
 refine codeAny_forLoop_any (fun n s'=>∃i σ' H',Inv X pins σ' H' s'∧tn i s'.heap∧(∀b∈fp,H' b=none)∧W i n σ' H') ?_ m0 ⟨0,σ,H2,I2,st2,fun b hb=>(f2 b hb).1,w0⟩
 rintro n s3 ⟨i,σ3,H3,I3,st3,fr3,w3⟩
 rcases turn i n σ3 H3 w3 with ⟨stop,qn⟩ | ⟨go,N,hN,step⟩
 · refine wpAny_passesOwn hp (thn (T.done X rfl rfl rfl hc i pins s3 σ3 H3 X.xe I3 (stat fr3) st3 stop) fun r s4 ⟨hr,I4⟩=>?_)
   subst hr
   exact wpAny_execs_nil ⟨σ3,H3,I4,qn⟩
 · refine wpAny_passesOwn hp (thn (T.item X rfl rfl rfl hc i pins s3 σ3 H3 X.xe I3 (stat fr3) st3 go) fun r s4 ⟨u,hr,h4⟩=>?_)
   subst hr
   refine wpAny_passesOwn hp (thn h4 fun _ s5 ⟨x,H5,I5,r5,y5,st5,fr5⟩=>?_)
   have I5':=I5.pinned (stat fr5) (T.obj _ _ st5)
   refine wpAny_passesOwn hp (thn (hg _ s5 σ3 H5 x u _ I5' r5 (step x H5 y5)) fun _ s6 ⟨σ6,H6,I6,q6⟩=>?_)
   refine wpAny_passesOwn hp (thn (hb _ s6 σ6 H6 _ I6 q6) fun f s7 q7=>?_)
   have again:∀{σ7:St}{H7:Hp},Inv X (pins++L9 fp s5.heap) σ7 H7 s7→N σ7 H7→∃m,m < n∧∃i σ' H',Inv X pins σ' H' s7∧tn i s7.heap∧(∀b∈fp,H' b=none)∧W i m σ' H':=fun {σ7 H7} I7 n7=>by
     obtain⟨m',hm,w7⟩:=hN σ7 H7 n7
     refine⟨m',hm,i+1,σ7,H7,I7.unpinned,T.keep _ _ _ st5 fun b hb o e=>(I7.pin (b,o) (zB _ (zB _ (CZ hb e)))).1,fun b hb=>?_,w7⟩
     obtain⟨o,e,d⟩:=T.obj _ _ st5 b hb
     exact(I7.pin (b,o) (zB _ (zB _ (CZ hb e)))).2.1
   cases f with
   | next=>obtain⟨σ7,H7,I7,n7⟩:=q7;exact again I7 n7
   | cont=>obtain⟨σ7,H7,I7,n7⟩:=q7;exact again I7 n7
   | brk=>obtain⟨σ7,H7,I7,q7⟩:=q7;exact⟨σ7,H7,I7.unpinned,q7⟩
   | ret v=>obtain⟨x7,σ7,H7,I7,r7,q7⟩:=q7;exact⟨x7,σ7,H7,I7.unpinned,r7,q7⟩
end
end L2
namespace L2
open PySem PySem.Spec PyProof.Rows
abbrev R2:=V→V→Hp→VK→Prop
def OpR (X:Cx) (f:Value→Value→Sem Value) (r:R2):Prop:=
 ∀(pins:List (Addr×Obj)) (s:Shared) (σ:St) (H:Hp) (x y:V) (v u:Value) (Q:VK),Inv X pins σ H s→RelV x v→RelV y u→r x y H Q →
   wpAny (model X.prog X.w) X.A (f v u) (EP X pins σ Q) X.xe s
def UnR (X:Cx) (f:Value→Sem Value) (r:V→Hp→VK→Prop):Prop:=
 ∀(pins:List (Addr×Obj)) (s:Shared) (σ:St) (H:Hp) (x:V) (v:Value) (Q:VK),Inv X pins σ H s→RelV x v→r x H Q →
   wpAny (model X.prog X.w) X.A (f v) (EP X pins σ Q) X.xe s
def BO (X:Cx) (f:Value) (r:List V→Hp→VK→Prop):Prop:=
 ∀(pins:List (Addr×Obj)) (s:Shared) (σ:St) (H:Hp) (xs:List V) (us:List Value) (Q:VK),Inv X pins σ H s→Vals xs us→r xs H Q →
   wpAny (model X.prog X.w) X.A (call f us) (EP X pins σ Q) X.xe s
def tOp (r:R2) (ta tb:TE):TE:=fun σ H Q=>ta σ H fun x H1=>tb σ H1 fun y H2=>r x y H2 Q
def tUn (r:V→Hp→VK→Prop) (ta:TE):TE:=fun σ H Q=>ta σ H fun x H1=>r x H1 Q
def rI (C:Int→Int→Prop) (g:Int→Int→V):R2:=fun x y H Q=>∃i j,x = .int i∧y = .int j∧C i j∧Q (g i j) H
def rI0 (g:Int→Int→V):R2:=fun x y H Q=>∃i j,x = .int i∧y = .int j∧Q (g i j) H
def rU (g:Int→V):V→Hp→VK→Prop:=fun x H Q=>∃i,x = .int i∧Q (g i) H
section
variable {X:Cx}{a b c:Expr}{ta tb tc:TE}{pos:Pos}
theorem p7 (ha:PE X a ta) (hb:PE X b tb) {pins:List (Addr×Obj)}{s:Shared}{σ:St}{H:Hp}{R:V→V→Hp→Prop}(I:Inv X pins σ H s)
   (h:ta σ H fun x H1=>tb σ H1 fun y H2=>R x y H2) {Q:Value→Shared→Prop}{f:Value→Value→Sem Value}
   (hf:∀v u s2 x y H2,Inv X pins σ H2 s2→RelV x v→RelV y u→R x y H2→wpAny (model X.prog X.w) X.A (f v u) Q X.xe s2) :
   wpAny (model X.prog X.w) X.A (eval a X.env) (fun v s₁=>wpAny (model X.prog X.w) X.A (eval b X.env) (fun u s₂=>wpAny (model X.prog X.w) X.A (f v u) Q X.xe s₂) X.xe s₁) X.xe s:=by
 refine thn (ha pins s σ H _ I h) fun v s1 ⟨x,H1,I1,r1,q1⟩=>?_
 refine thn (hb pins s1 σ H1 _ I1 q1) fun u s2 ⟨y,H2,I2,r2,q2⟩=>?_
 exact hf v u s2 x y H2 I2 r1 r2 q2
theorem J2 {op:Operator}{r:R2}(ho:OpR X (binaryOp op) r) (ha:PE X a ta) (hb:PE X b tb):PE X (.BinOp a op b pos) (tOp r ta tb):=by
 intro pins s σ H Q I h
 exact wpAny_BinOp (p7 ha hb I h fun v u s2 x y H2 I2 rx ry q=>ho pins s2 σ H2 x y v u Q I2 rx ry q)
theorem t8 {op:UnaryOp}{r:V→Hp→VK→Prop}(ho:UnR X (unaryOp op) r) (ha:PE X a ta):PE X (.UnaryOp op a pos) (tUn r ta):=by
 intro pins s σ H Q I h
 exact UnaryOp_ (thn (ha pins s σ H _ I h) fun v s1 ⟨x,H1,I1,r1,q1⟩=>ho pins s1 σ H1 x v Q I1 r1 q1)
theorem opI {f:Value→Value→Sem Value}{C:Int→Int→Prop}{g:Int→Int→Int}
   (rule:∀(i j:Int) (t u:Tok) (s:Shared) (Q:Value→Shared→Prop) (E:Value→Shared→Prop),C i j→Q (.int (g i j) s.toks) { s with toks:=s.toks+1 }→wpAny (model X.prog X.w) X.A (f (.int i t) (.int j u)) Q E s) :
   OpR X f (rI C fun i j=>.int (g i j)):=by
 intro pins s σ H x y v u Q I rx ry h
 obtain⟨i,j,rfl,rfl,hc,q⟩:=h
 obtain⟨t,rfl⟩:=rx
 obtain⟨t',rfl⟩:=ry
 exact rule i j t t' s _ _ hc ⟨.int (g i j),H,I.tok _,⟨_,rfl⟩,q⟩
theorem t9 {f:Value→Value→Sem Value}{g:Int→Int→Int}
   (rule:∀(i j:Int) (t u:Tok) (s:Shared) (Q:Value→Shared→Prop) (E:Value→Shared→Prop),Q (.int (g i j) s.toks) { s with toks:=s.toks+1 }→wpAny (model X.prog X.w) X.A (f (.int i t) (.int j u)) Q E s) :
   OpR X f (rI0 fun i j=>.int (g i j)):=by
 intro pins s σ H x y v u Q I rx ry h
 obtain⟨i,j,rfl,rfl,q⟩:=h
 obtain⟨t,rfl⟩:=rx
 obtain⟨t',rfl⟩:=ry
 exact rule i j t t' s _ _ ⟨.int (g i j),H,I.tok _,⟨_,rfl⟩,q⟩
theorem jF {f:Value→Value→Sem Value}{g:Int→Int→Bool}
   (rule:∀(i j:Int) (t u:Tok) (s:Shared) (Q:Value→Shared→Prop) (E:Value→Shared→Prop),Q (.bool (g i j)) s→wpAny (model X.prog X.w) X.A (f (.int i t) (.int j u)) Q E s) :
   OpR X f (rI0 fun i j=>.bl (g i j)):=by
 intro pins s σ H x y v u Q I rx ry h
 obtain⟨i,j,rfl,rfl,q⟩:=h
 obtain⟨t,rfl⟩:=rx
 obtain⟨t',rfl⟩:=ry
 exact rule i j t t' s _ _ ⟨.bl (g i j),H,I,rfl,q⟩
def tD (i j:Int):Prop:=0 < j∧j < 1073741824
def tE (i j:Int):Prop:=0≤j∧j≤1000000∧i.natAbs < 2 ^ 64
def CMul (i j:Int):Prop:=(-(2 ^ 64) < i∧i < 2 ^ 64)∨(-(2 ^ 64) < j∧j < 2 ^ 64)
theorem CMul.ok {i j:Int}(h:CMul i j):IntMulOk i j:=by
 rcases h with ⟨h1,h2⟩ | ⟨h1,h2⟩
 · exact .of_left (intBits_le_64 h1 h2)
 · exact .of_right (intBits_le_64 h1 h2)
theorem p9:OpR X (binaryOp .Add) (rI0 fun i j=>.int (i+j)):=t9 fun _ _ _ _ _ _ _ q=>add_int q
theorem pA:OpR X (binaryOp .Sub) (rI0 fun i j=>.int (i - j)):=t9 fun _ _ _ _ _ _ _ q=>sub_int q
theorem pB:OpR X (binaryOp .Mult) (rI CMul fun i j=>.int (i*j)):=opI fun _ _ _ _ _ _ _ hc q=>mul_int q hc.ok
theorem pC:OpR X (binaryOp .Mod) (rI (fun _ j=>0 < j) fun i j=>.int (i % j)):=opI fun i j _ _ _ _ _ hc q=>by
 have h1:(0:Int) < j:=hc
 exact mod_int' (by omega) (by rw[Int.fmod_eq_emod_of_nonneg i (by omega)];exact q)
theorem pD:OpR X (binaryOp .Pow) (rI tE fun i j=>.int (i ^ j.toNat)):=opI fun _ _ _ _ _ _ _ hc q=>pow_int_small hc.1 hc.2.1 hc.2.2 q
theorem unI {f:Value→Sem Value}{g:Int→Int}
   (rule:∀(i:Int) (t:Tok) (s:Shared) (Q:Value→Shared→Prop) (E:Value→Shared→Prop),Q (.int (g i) s.toks) { s with toks:=s.toks+1 }→wpAny (model X.prog X.w) X.A (f (.int i t)) Q E s) :
   UnR X f (rU fun i=>.int (g i)):=by
 intro pins s σ H x v Q I rx h
 obtain⟨i,rfl,q⟩:=h
 obtain⟨t,rfl⟩:=rx
 exact rule i t s _ _ ⟨.int (g i),H,I.tok _,⟨_,rfl⟩,q⟩
theorem pE:UnR X (unaryOp .USub) (rU fun i=>.int (-i)):=unI fun _ _ _ _ _ q=>neg_int q
end
section
variable {X:Cx}{a b c:Expr}{ta tb tc:TE}{pos:Pos}
theorem RL {pins:List (Addr×Obj)}{σ:St}{H:Hp}{s:Shared}{Q:VK}{k k':Bool}(I:Inv X pins σ H s) (q:Q (.bl k) H) (e:k=k'):EP X pins σ Q (.bool k') s:=by
 subst e
 exact⟨.bl k,H,I,rfl,q⟩
theorem tF:OpR X (compareOp .Lt) (rI0 fun i j=>.bl (decide (i < j))):=jF fun _ _ _ _ _ _ _ q=>lt_int q
theorem YB:OpR X (compareOp .LtE) (rI0 fun i j=>.bl (decide (i≤j))):=jF fun _ _ _ _ _ _ _ q=>le_int q
theorem nF:OpR X (compareOp .Gt) (rI0 fun i j=>.bl (decide (j < i))):=jF fun _ _ _ _ _ _ _ q=>gt_int q
theorem nG:OpR X (compareOp .GtE) (rI0 fun i j=>.bl (decide (j≤i))):=jF fun _ _ _ _ _ _ _ q=>ge_int q
theorem ZX:OpR X (compareOp .Lt) (fun x y H Q=>∃i j,x = .str i∧y = .str j∧Q (.bl (decide (i.cps.toList < j.cps.toList))) H):=by
 intro pins s σ H x y v u Q I rx ry h
 obtain⟨i,j,rfl,rfl,q⟩:=h
 obtain⟨t,rfl⟩:=rx
 obtain⟨t',rfl⟩:=ry
 exact lt_str (RL I q rfl)
theorem ZY:OpR X (compareOp .In) (fun x y H Q=>∃i j,x = .str i∧y = .str j∧Q (.bl (!(Builtin.Str.occurrences j i 0 j.length 1).isEmpty)) H):=by
 intro pins s σ H x y v u Q I rx ry h
 obtain⟨i,j,rfl,rfl,q⟩:=h
 obtain⟨t,rfl⟩:=rx
 obtain⟨t',rfl⟩:=ry
 exact in_str (RL I q rfl)
theorem pF:OpR X (compareOp .Is) (fun x y H Q=>y = .non∧Q (.bl (decide (x = .non))) H):=by
 intro pins s σ H x y v u Q I rx ry h
 obtain⟨rfl,q⟩:=h
 cases ry
 refine is_none_gen (RL I q ?_)
 cases x <;> first
   | (cases rx;rfl)
   | (obtain⟨t,rfl⟩:=rx;rfl)
theorem jG:OpR X (compareOp .IsNot) (fun x y H Q=>y = .non∧Q (.bl (!decide (x = .non))) H):=by
 intro pins s σ H x y v u Q I rx ry h
 obtain⟨rfl,q⟩:=h
 cases ry
 refine isnot_none_gen (RL I q ?_)
 cases x <;> first
   | (cases rx;rfl)
   | (obtain⟨t,rfl⟩:=rx;rfl)
theorem OpR.or {f:Value→Value→Sem Value}{r r':R2}(h:OpR X f r) (h':OpR X f r'):OpR X f (fun x y H Q=>r x y H Q∨r' x y H Q):=by
 intro pins s σ H x y v u Q I rx ry q
 rcases q with q | q
 · exact h pins s σ H x y v u Q I rx ry q
 · exact h' pins s σ H x y v u Q I rx ry q
theorem CL (b:Expr) {op:CmpOp}(h:op≠.In:=by decide) (h2:op≠.NotIn:=by decide):behindInMarks op b=false:=by
 have e1:(op==CmpOp.In)=false:=by cases op <;> first | rfl | exact absurd rfl h
 have e2:(op==CmpOp.NotIn)=false:=by cases op <;> first | rfl | exact absurd rfl h2
 cases b <;> simp[behindInMarks,e1,e2]
theorem EG {op:CmpOp}{r:R2}(ho:OpR X (compareOp op) r) (ha:PE X a ta) (hb:PE X b tb) (hm:behindInMarks op b=false):PE X (.Compare a [op] [b] pos) (tOp r ta tb):=by
 intro pins s σ H Q I h
 exact wpAny_Compare1 (p7 ha hb I h fun v u s2 x y H2 I2 rx ry q=>ho pins s2 σ H2 x y v u Q I2 rx ry q) hm
def cK (t:TE):TT:=fun σ H Q=>t σ H fun x H'=>∃k,x = .bl k∧Q k H'
theorem EH {op:CmpOp}{r:R2}(ho:OpR X (compareOp op) r) (ha:PE X a ta) (hb:PE X b tb) (hm:behindInMarks op b=false):PT X (.Compare a [op] [b] pos) (cK (tOp r ta tb)):=by
 intro pins s σ H Q I h
 refine wpAny_isTrue_Compare1 (thn (ha pins s σ H _ I h) fun v s1 ⟨x,H1,I1,r1,q1⟩=>thn (hb pins s1 σ H1 _ I1 q1) fun u s2 ⟨y,H2,I2,r2,q2⟩=>
   thn (ho pins s2 σ H2 x y v u _ I2 r1 r2 q2) fun c s3 ⟨z,H3,I3,r3,k,e,q3⟩=>?_) hm
 subst e
 cases r3
 exact wpAny_truthy_bool ⟨H3,I3,q3⟩
def W1 (r r':R2) (ta tb tc:TE):TE:=fun σ H Q=>ta σ H fun x H1=>tb σ H1 fun y H2=>r x y H2 fun z H3=>∃k,z = .bl k ∧
 (if k=true then tc σ H3 fun w' H4=>r' y w' H4 Q else Q (.bl false) H3)
theorem cL {op op':CmpOp}{r r':R2}(ho:OpR X (compareOp op) r) (ho':OpR X (compareOp op') r') (ha:PE X a ta) (hb:PE X b tb) (hc:PE X c tc)
   (hm:lastMarks [op,op'] [b,c]=false:=by with_unfolding_all rfl):PE X (.Compare a [op,op'] [b,c] pos) (W1 r r' ta tb tc):=by
 intro pins s σ H Q I h
 refine Compare_chain (thn (ha pins s σ H _ I h) fun v s1 ⟨x,H1,I1,r1,q1⟩=>chain_link (thn (hb pins s1 σ H1 _ I1 q1) fun u s2 ⟨y,H2,I2,r2,q2⟩=>
   thn (ho pins s2 σ H2 x y v u _ I2 r1 r2 q2) fun d s3 ⟨z,H3,I3,r3,k,e,q3⟩=>?_)) hm
 subst e
 cases r3
 refine wpAny_truthy_bool ?_
 cases k with
 | false=>exact ite_ff ⟨.bl false,H3,I3,rfl,q3⟩
 | true=>exact ite_tt (chain_last (thn (hc pins s3 σ H3 _ I3 q3) fun w' s4 ⟨z',H4,I4,r4,q4⟩=>ho' pins s4 σ H4 y z' u w' Q I4 r2 r4 q4))
theorem cM {op op':CmpOp}{r r':R2}(ho:OpR X (compareOp op) r) (ho':OpR X (compareOp op') r') (ha:PE X a ta) (hb:PE X b tb) (hc:PE X c tc)
   (hm:lastMarks [op,op'] [b,c]=false:=by with_unfolding_all rfl):PT X (.Compare a [op,op'] [b,c] pos) (cK (W1 r r' ta tb tc)):=by
 intro pins s σ H Q I h
 refine isTrue_chain (thn (ha pins s σ H _ I h) fun v s1 ⟨x,H1,I1,r1,q1⟩=>test_link (thn (hb pins s1 σ H1 _ I1 q1) fun u s2 ⟨y,H2,I2,r2,q2⟩=>
   thn (ho pins s2 σ H2 x y v u _ I2 r1 r2 q2) fun d s3 ⟨z,H3,I3,r3,k,e,q3⟩=>?_)) hm
 subst e
 cases r3
 refine wpAny_truthy_bool ?_
 cases k with
 | false=>
   obtain⟨k',e',q'⟩:=q3
   cases e'
   exact ite_ff ⟨H3,I3,q'⟩
 | true=>
   refine ite_tt (test_last (thn (hc pins s3 σ H3 _ I3 q3) fun w' s4 ⟨z',H4,I4,r4,q4⟩=>thn (ho' pins s4 σ H4 y z' u w' _ I4 r2 r4 q4) fun d' s5 ⟨z2,H5,I5,r5,k2,e2,q5⟩=>?_))
   subst e2
   cases r5
   exact wpAny_truthy_bool ⟨H5,I5,q5⟩
theorem NB:(sizeLine:Nat) < 2 ^ 63:=by rw[sizeLine_eq];decide
theorem W3:OpR X (binaryOp .Add) (fun x y H Q=>∃i j,x = .str i∧y = .str j∧i.length+j.length≤sizeLine∧Q (.str (i++j)) H):=by
 intro pins s σ H x y v u Q I rx ry h
 obtain⟨i,j,rfl,rfl,hz,q⟩:=h
 obtain⟨t,rfl⟩:=rx
 obtain⟨t',rfl⟩:=ry
 exact add_str (fun t' tk=>⟨.str (i++j),H,I.tok _,⟨_,rfl⟩,q⟩) hz
theorem F7 {x:V}{us:List Value}(r:Vals [x] us):∃u,us=[u]∧RelV x u:=by
 cases r with
 | cons r1 r2=>cases r2;exact⟨_,rfl,r1⟩
theorem nH {x y:V}{us:List Value}(r:Vals [x,y] us):∃u w',us=[u,w']∧RelV x u∧RelV y w':=by
 cases r with
 | cons r1 r2=>
   cases r2 with
   | cons r3 r4=>cases r4;exact⟨_,_,rfl,r1,r3⟩
theorem cO:BO X (.builtin "abs") (fun xs H Q=>∃i,xs=[.int i]∧Q (.int (if i < 0 then -i else i)) H):=by
 intro pins s σ H xs us Q I r h
 obtain⟨i,rfl,q⟩:=h
 obtain⟨u,rfl,t,rfl⟩:=F7 r
 exact call_abs_int fun u tk=>⟨.int (if i < 0 then -i else i),H,I.tok _,⟨_,rfl⟩,q⟩
theorem RM:BO X (.type "str") (fun xs H Q=>∃i,xs=[.int i]∧i.natAbs.log2 < 1920∧Q (.str (toString i)) H):=by
 intro pins s σ H xs us Q I r h
 obtain⟨i,rfl,hz,q⟩:=h
 obtain⟨u,rfl,t,rfl⟩:=F7 r
 exact PySem.P.str_of_int hz ⟨.str _,H,I.tok _,⟨_,rfl⟩,q⟩
def cP (K:Frg) (x:V) (H:Hp) (n:Nat):Prop:=
 match x with
 | .str y=>y.length≤sizeLine∧n=y.length
 | .byt y=>y.size≤sizeLine∧n=y.size
 | .ref p=>(∃xs,SqL K H p xs∧n=xs.length)∨∃xs,SqT K H p xs∧n=xs.length
 | _=>False
theorem cQ:BO X (.builtin "len") (fun xs H Q=>∃x n,xs=[x]∧cP X.K x H n∧Q (.int n) H):=by
 intro pins s σ H xs us Q I r h
 obtain⟨x,n,rfl,e,q⟩:=h
 obtain⟨u,rfl,rx⟩:=F7 r
 have hl:=NB
 have hs:sizeLine=16777216:=sizeLine_eq
 cases x with
 | str y=>
   obtain⟨t,rfl⟩:=rx
   obtain⟨hy,e'⟩:y.length≤sizeLine∧n=y.length:=e
   subst e'
   exact len_str (by omega) ⟨.int _,H,I.tok _,⟨_,rfl⟩,q⟩
 | byt y=>
   obtain⟨t,rfl⟩:=rx
   obtain⟨hy,e'⟩:y.size≤sizeLine∧n=y.size:=e
   subst e'
   exact PySem.W.len_bytes (by omega) ⟨.int _,H,I.tok _,⟨_,rfl⟩,q⟩
 | ref p=>
   cases rx
   have e':(∃xs,SqL X.K H p xs∧n=xs.length)∨∃xs,SqT X.K H p xs∧n=xs.length:=e
   rcases e' with ⟨xs,hx,e'⟩ | ⟨xs,hx,e'⟩
   · subst e'
     obtain⟨its,r',pl,hz⟩:=I.list hx
     have hlen:=r'.length
     exact Calls.call_len_list pl.isList (by simp only[zJ];omega) ⟨.int xs.length,H,I.tok _,⟨_,by simp only[zJ];rw[hlen]⟩,q⟩
   · subst e'
     obtain⟨its,r',pl,hz⟩:=I.tuple hx
     have hlen:=r'.length
     exact len_tuple pl (by simp only[zJ];omega) ⟨.int xs.length,H,I.tok _,⟨_,by simp only[zJ];rw[hlen]⟩,q⟩
 | _=>exact(show False from e).elim
theorem T8:BO X (.builtin "divmod") (fun xs H Q=>∃i j,xs=[.int i,.int j]∧tD i j∧∀p,H p=none→Q (.ref p) (upd H p (.tup [.int (i/j),.int (i % j)]))):=by
 intro pins s σ H xs us Q I r h
 obtain⟨i,j,rfl,⟨h1,h2⟩,q⟩:=h
 obtain⟨u,w',rfl,⟨t,rfl⟩,⟨t',rfl⟩⟩:=nH r
 refine divmod_int (by omega) ?_ (.inl (PyProof.noPylong_small (by omega)))
 rw[Int.fdiv_eq_ediv_of_nonneg i (by omega),Int.fmod_eq_emod_of_nonneg i (by omega)]
 have hn:H s.heap.objs.size=none:=I.hok.fresh (zR _)
 refine⟨.ref s.heap.objs.size,_,?_,rfl,q _ hn⟩
 refine I.laid (fun b o e=>zW _ e) (zR _) ⟨by simp only[yR,List.length_nil];rw[sizeLine_eq];decide,[.int (i/j) s.toks,.int (i % j) (s.toks+1)],.cons ⟨_,rfl⟩ (.cons ⟨_,rfl⟩ .nil),?_⟩
 exact⟨_,yZ s.heap rfl,rfl,0,rfl⟩
end
end L2
namespace L2
open PySem PySem.Spec PyProof.Rows
structure ObjM (h:Heap) (x dx C:Addr) (mA:Str→Option Value):Prop where
 obj:h.get? x=some (PySem.W.instObj C dx)
 ns:h.Ns1 dx mA
 ne:dx≠x
theorem ZZ {h:Heap}{dx:Addr}{mA:Str→Option Value}(n:h.Ns1 dx mA):∃od,h.get? dx=some od∧∀name,PySem.W.lookIn name od=some (mA name):=by
 obtain⟨o,es,ep,ho,hd,hk,_,hm⟩:=n
 refine⟨o,ho,fun name=>?_⟩
 have e:=hm name
 unfold nsFind findBy at e
 rw[← Array.find?_toList] at e
 unfold PySem.W.lookIn
 rw[hd]
 dsimp only
 split
 · rename_i y q
   rw[q] at e
   exact congrArg some e
 · rename_i q
   rw[q] at e
   have a:es.toList.any (·.refKey)=false:=by
     rw[List.any_eq_false]
     intro y hy
     obtain⟨z,t,hkey⟩:=hk y (Array.mem_toList_iff.mp hy)
     simp[DictEntry.refKey,hkey]
   have a':¬es.toList.any (·.refKey)=true:=by rw[a];exact nft
   rw[if_neg a']
   exact congrArg some e
theorem ObjM.look {h:Heap}{x dx C:Addr}{mA:Str→Option Value}(I:ObjM h x dx C mA):∃od,PySem.W.InstAt h x (PySem.W.instObj C dx) C (some od)∧∀name,PySem.W.lookIn name od=some (mA name):=
 let ⟨od,ho,hl⟩:=ZZ I.ns
 ⟨od,⟨I.obj,rfl,rfl,ho⟩,hl⟩
theorem RelO.some_of {v:V}{o:Option Value}(r:RelO (some v) o):∃u,o=some u∧RelV v u:=by
 cases o with
 | none=>exact(show False from r).elim
 | some u=>exact⟨u,rfl,r⟩
section
variable {P:Program}{w:World}{H H':Hp}{h h':Heap}{a C dx:Addr}{fs fs':List (Str×V)}
theorem jH (hok:HOk P w H h) (e:H a=some (.ins C dx fs)):∃mA,ObjM h a dx C mA∧(∀f,RelO (fs.lookup f) (mA f))∧PySem.Within mA (fs.map (·.1))∧fs.length≤1000∧H dx=some (.own a):=by
 obtain⟨d,z,ne,ob,mA,n,r,q⟩:=(show ObjOk P w H h a (.ins C dx fs) from hok a _ e)
 exact⟨mA,⟨ob,n,ne⟩,r,q,z,d⟩
end
structure Cls (K:Frg) (C:Addr):Prop where
 pg:PySem.W.plainGet K C Str.empty=true
 hd:PySem.W.hasDictIn K C=true
 po:PySem.W.plainOver K C=true
 sa:PySem.W.findIn K (.ref C) "__setattr__"=some (some (.builtin "object.__setattr__"))
theorem Cls.get {K:Frg}{C:Addr}(c:Cls K C) (f:Str):PySem.W.plainGet K C f=true:=c.pg
section
variable {X:Cx}{pins:List (Addr×Obj)}{σ:St}{H:Hp}{s:Shared}{A:Around}{E:Value→Shared→Prop}{Q:Value→Shared→Prop}{c:Value}{b:Bool}
inductive TyOf (K:Frg) (H:Hp):V→Value→Prop where
 | non:TyOf K H .non (.type "NoneType")
 | bl (x:Bool):TyOf K H (.bl x) (.type "bool")
 | int (i:Int):TyOf K H (.int i) (.type "int")
 | str (x:Str):TyOf K H (.str x) (.type "str")
 | flt (x:UInt64):TyOf K H (.flt x) (.type "float")
 | lst {a:Addr}{xs:List V}(e:H a=some (.lst xs)):TyOf K H (.ref a) (.type "list")
 | frz {a:Addr}{o:Obj}{xs:List V}(e:H a=some (.frz o (.lst xs))):TyOf K H (.ref a) (.type "list")
 | tup {a:Addr}{xs:List V}(e:H a=some (.tup xs)):TyOf K H (.ref a) (.type "tuple")
 | dK {a:Addr}{kvs:List (Key×V)}(e:H a=some (.dK kvs)):TyOf K H (.ref a) (.type "dict")
 | dT {a:Addr}{kvs:List (List Key×V)}(e:H a=some (.dT kvs)):TyOf K H (.ref a) (.type "dict")
 | ins {a C dx:Addr}{fs:List (Str×V)}(e:H a=some (.ins C dx fs)) (cl:Cls K C) (ha:PySem.W.findIn K (.ref C) "__class__"=some (some (.builtin "object.__class__")))
     (hn:PySem.W.specialIn K (.builtin "object.__class__") "__get__"=some (some (.builtin "getset_descriptor.__get__"))) (htk:PySem.W.takesIn K (.builtin "object.__class__")=some true)
     (hm:PySem.W.mroIn K C (.type "object")=some true):TyOf K H (.ref a) (.ref C)
theorem FR {x:V}{u t:Value}(I:Inv X pins σ H s) (rx:RelV x u) (ty:TyOf X.K H x t) (e:PySem.W.kitOne X.K t c=some b) (h:∀tk,Q (.bool b) { s with toks:=tk }) :
   wpAny (model X.prog X.w) A (call (.builtin "isinstance") [u,c]) Q E s:=by
 cases ty with
 | non=>cases (show u=Value.none from rx);exact PySem.W.kia_one PySem.W.kitx_none I.kIn True.intro e (fun z=>nomatch z) h
 | bl y=>cases (show u=Value.bool y from rx);exact PySem.W.kia_one PySem.W.kitx_bool I.kIn True.intro e (fun z=>nomatch z) h
 | int i=>obtain⟨t,q⟩:=(show ∃t,u=Value.int i t from rx);cases q;exact PySem.W.kia_one PySem.W.kitx_int I.kIn True.intro e (fun z=>nomatch z) h
 | str y=>obtain⟨t,q⟩:=(show ∃t,u=Value.str y t from rx);cases q;exact PySem.W.kia_one PySem.W.kitx_str I.kIn True.intro e (fun z=>nomatch z) h
 | flt y=>obtain⟨t,q⟩:=(show ∃t,u=Value.float y t from rx);cases q;exact PySem.W.kia_one PySem.W.kitx_float I.kIn True.intro e (fun z=>nomatch z) h
 | @lst a xs ea=>
   cases (show u=Value.ref a from rx)
   obtain⟨_,_,n,_,h1⟩:=(show ObjOk X.prog X.w H s.heap a (.lst xs) from I.hok a _ ea)
   exact PySem.W.kia_one PySem.W.kitx_list I.kIn ⟨_,h1,rfl⟩ e (fun z=>nomatch z) h
 | @frz a ob xs ea=>
   cases (show u=Value.ref a from rx)
   obtain⟨_,_,_,n,_,h1⟩:=(show ObjOk X.prog X.w H s.heap a (.frz ob (.lst xs)) from I.hok a _ ea)
   exact PySem.W.kia_one PySem.W.kitx_list I.kIn ⟨_,h1,rfl⟩ e (fun z=>nomatch z) h
 | @tup a xs ea=>
   cases (show u=Value.ref a from rx)
   obtain⟨_,_,_,p⟩:=(show ObjOk X.prog X.w H s.heap a (.tup xs) from I.hok a _ ea)
   obtain⟨o,h1,h2,_⟩:=p
   exact PySem.W.kia_one PySem.W.kitx_tuple I.kIn ⟨o,h1,h2⟩ e (fun z=>nomatch z) h
 | @dK a kvs ea=>
   cases (show u=Value.ref a from rx)
   obtain⟨_,_,vs,_,p⟩:=(show ObjOk X.prog X.w H s.heap a (.dK kvs) from I.hok a _ ea)
   obtain⟨o,es,ep,h1,h2,_⟩:=p
   exact PySem.W.kia_one PySem.W.kitx_dict I.kIn ⟨o,h1,h2.1⟩ e (fun z=>nomatch z) h
 | @dT a kvs ea=>
   cases (show u=Value.ref a from rx)
   obtain⟨_,_,xs,_,o,es,ep,h1,h2,_⟩:=(show ObjOk X.prog X.w H s.heap a (.dT kvs) from I.hok a _ ea)
   exact PySem.W.kia_one PySem.W.kitx_dict I.kIn ⟨o,h1,h2.1⟩ e (fun z=>nomatch z) h
 | @ins a C dx fs ea cl ha hn htk hm=>
   cases (show u=Value.ref a from rx)
   obtain⟨mA,O,_⟩:=jH I.hok ea
   obtain⟨od,J,_⟩:=O.look
   exact PySem.W.kia_one (PySem.W.kitx_own (cl.get _) cl.hd ha hn htk hm) I.kIn J e (fun z=>nomatch z) h
end
end L2
namespace L2
open PySem PySem.Spec PyProof.Rows
structure Room (k:Nat) (A:Around):Prop where
 hd:A.handled=none
 dp:A.depth+3*k+5 < recursionLimit
 un:A.units+16*k+200 < cLine
theorem Room.mono {j k:Nat}{A:Around}(r:Room k A) (h:j≤k):Room j A:=⟨r.hd,by have:=r.dp;omega,by have:=r.un;omega⟩
theorem Room.deeper {k:Nat}{A:Around}(r:Room (k+1) A) (env:Env):Room k (A.deeper env):=
 ⟨r.hd,by have:=r.dp;show A.depth+1+3*k+5 < _;omega,by have:=r.un;show A.units+3+16*k+200 < _;omega⟩
theorem W4 {A:Around}{C:Addr}{us:List Value}{kw:List (Str×Value)}:(A.under (.builtin "type.__call__" ⟨.ref C::us,kw⟩)).depth=A.depth+1:=by
 first | rfl | simp[Around.under,Code.weight,Code.isCreation,Code.isGuard,Code.isCaller,Code.frames,Code.isFrame,guardIds]
theorem W5 {A:Around}{C:Addr}{us:List Value}{kw:List (Str×Value)}:(A.under (.builtin "type.__call__" ⟨.ref C::us,kw⟩)).units=A.units+1:=by
 first | rfl | simp[Around.under,Code.cUnits,Code.frames,Code.isFrame]
theorem Room.make {k:Nat}{A:Around}(r:Room (k+1) A) (C:Addr) (us:List Value) (kw:List (Str×Value)):Room k (A.under (.builtin "type.__call__" ⟨.ref C::us,kw⟩)):=
 ⟨r.hd,by have:=r.dp;rw[W4];omega,by have:=r.un;rw[W5];omega⟩
theorem Room.depth {k:Nat}{A:Around}(r:Room k A):A.depth < recursionLimit:=by have:=r.dp;omega
theorem Room.units {k:Nat}{A:Around}(r:Room k A):A.units+64 < cLine:=by have:=r.un;omega
def pG:TA:=fun _ H Q=>Q [] H
def YC (ta:TE) (tr:TA):TA:=fun σ H Q=>ta σ H fun x H1=>tr σ H1 fun xs H2=>Q (x::xs) H2
section
variable {X:Cx}{e:Expr}{es:List Expr}{te:TE}{t:TA}{pos:Pos}
theorem cR:PA X [] pG:=fun _ _ _ _ H Q I h=>Calls.spliced_nil ⟨[],H,I,.nil,h⟩
theorem YD (ha:PE X e te) (hr:PA X es t) (hs:starEach (e::es) X.env=(false,eval e X.env)::starEach es X.env:=by rfl):PA X (e::es) (YC te t):=by
 intro pos pins s σ H Q I h
 rw[hs]
 show wpAny _ _ (spliced ((false,eval e X.env)::backTo pos (starEach es X.env))) _ _ s
 refine xQ (thn (ha pins s σ H _ I h) fun u s1 ⟨x,H1,I1,r1,q1⟩=>?_)
 exact thn (hr pos pins s1 σ H1 _ I1 q1) fun us s2 ⟨xs,H2,I2,r2,q2⟩=>⟨x::xs,H2,I2,.cons r1 r2,q2⟩
def pH (t:TA):TE:=fun σ H Q=>t σ H fun xs H1=>xs.length≤sizeLine∧∀p,H1 p=none→Q (.ref p) (upd H1 p (.tup xs))
def pI (t:TA):TE:=fun σ H Q=>t σ H fun xs H1=>xs.length≤sizeLine∧∀p,H1 p=none→Q (.ref p) (upd H1 p (.lst xs))
theorem pJ {x1} (h:PA X es t):PE X (.Tuple es x1 pos) (pH t):=by
 intro pins s σ H Q I hq
 refine wpAny_Tuple_spliced (thn (h pos pins s σ H _ I hq) fun us s1 ⟨xs,H1,I1,r,z,q⟩=>⟨by rw[← r.length];exact z,?_⟩)
 have hf:H1 s1.heap.objs.size=none:=I1.hok.fresh (zR _)
 refine⟨.ref s1.heap.objs.size,upd H1 s1.heap.objs.size (.tup xs),I1.laid (t':=s1.toks) (fun b u e=>zW _ e) (zR _) ?_,rfl,q _ hf⟩
 exact⟨z,us,r,⟨_,yZ _ rfl,rfl,_,rfl⟩⟩
theorem pK (h:PA X es t):PE X (.List es pos) (pI t):=by
 intro pins s σ H Q I hq
 refine wpAny_List_spliced (thn (h pos pins s σ H _ I hq) fun us s1 ⟨xs,H1,I1,r,z,q⟩=>⟨by rw[← r.length];exact z,?_⟩)
 have hf:H1 s1.heap.objs.size=none:=I1.hok.fresh (zR _)
 refine⟨.ref s1.heap.objs.size,upd H1 s1.heap.objs.size (.lst xs),I1.laid (t':=s1.toks) (fun b u e=>zW _ e) (zR _) ?_,rfl,q _ hf⟩
 exact⟨z,us,0,r,yZ _ rfl⟩
end
abbrev Sp:=List V→Hp→VK→XK→Prop
abbrev CXT:=List Env→Hp→Shared→XK→Value→Shared→Prop
structure Env0 (P:Program) (w:World) (K:Frg) (mg:Str→Option Value) (base:Heap) (A:Around) (outer:List Env) (s:Shared) (H:Hp):Prop where
 frames:A.frames=some outer
 mod:Mod K mg base
 bs:∀b o,base.get? b=some o→s.heap.get? b=some o∧H b=none
 bsz:base.objs.size≤s.heap.objs.size
 funs:s.heap.FunFrames base outer
 frf:∀b∈frs outer,H b=none
 hok:HOk P w H s.heap
 bare:AllBare s.gens
def CE (outer:List Env) (P:Program) (w:World) (H:Hp) (s:Shared) (Q:VK) (u:Value) (s':Shared):Prop:=
 ∃v H',s'.os=s.os∧AllBare s'.gens∧Un (frs outer) [] H H' s.heap s'.heap∧HOk P w H' s'.heap∧RelV v u∧Q v H'
def CR (CX:CXT) (outer:List Env) (P:Program) (w:World) (H:Hp) (s:Shared) (Q:VK) (E:XK) (r:Result) (s':Shared):Prop:=
 match r with
 | .ok (.ret u)=>CE outer P w H s Q u s'
 | .ok _=>False
 | .error e=>CX outer H s E e s'
structure FnOk (P:Program) (w:World) (K:Frg) (mg:Str→Option Value) (base:Heap) (CX:CXT) (k:Nat) (f:Addr) (fd:FuncData) (ps:List Str) (sp:Sp):Prop where
 len:∀vs H Q E,sp vs H Q E→vs.length=ps.length
 run:∀(A:Around) (outer:List Env) (s:Shared) (H:Hp) (args:Args) (us:List Value) (vs:List V) (Q:VK) (E:XK),Room k A→Env0 P w K mg base A outer s H→BindsTo s fd args (ps.zip us)→Vals vs us→sp vs H Q E →
   codeAny (model P w) A (.call (.ref f) args) (CR CX outer P w H s Q E) s
theorem Env0.make {P:Program}{w:World}{K:Frg}{mg:Str→Option Value}{base:Heap}{A:Around}{outer:List Env}{s:Shared}{H:Hp}(e:Env0 P w K mg base A outer s H) (C:Addr) (us:List Value) (kw:List (Str×Value)) :
   Env0 P w K mg base (A.under (.builtin "type.__call__" ⟨.ref C::us,kw⟩)) outer s H:=⟨by first | exact e.frames | (simpa [Around.under,Code.envs,Code.isFrame,pushEnvs] using e.frames),e.mod,e.bs,e.bsz,e.funs,e.frf,e.hok,e.bare⟩
section
variable {X:Cx}{pins:List (Addr×Obj)}{σ:St}{H:Hp}{s s':Shared}
theorem Inv.env0 (I:Inv X pins σ H s):Env0 X.prog X.w X.K X.mg X.base X.A X.stack s H:=
 ⟨I.ok.frames,I.ok.mod,I.bs,zN I.ok.bsz I.sz,I.stack,I.stkFree,I.hok,I.bare⟩
theorem Inv.after {Q:VK}{u:Value}(I:Inv X pins σ H s) (h:CE X.stack X.prog X.w H s Q u s'):EP X pins σ Q u s':=by
 obtain⟨v,H',os,bare,un,hok,r,q⟩:=h
 obtain⟨hh,g,d,t,os'⟩:=s'
 obtain rfl:os'=s.os:=os
 exact⟨v,H',I.call (h':=hh) (g':=g) (d':=d) (t':=t) (ch:=[]) un hok bare (fun b z=>absurd z (by simp)),r,q⟩
end
def YE (sp:Sp) (dvs:List V) (E:XK) (t:TA):TE:=fun σ H Q=>t σ H fun vs H1=>sp (vs++dvs) H1 Q E
def Binds (K:Frg) (fd:FuncData) (ps:List Str) (ds:List Value):Prop:=
 ∀(s:Shared) (us:List Value),K.In s.heap→(us++ds).length=ps.length→BindsTo s fd ⟨us,[]⟩ (ps.zip (us++ds))
theorem Binds.all {K:Frg}{fd:FuncData}{ps:List Str}(h:∀us:List Value,us.length=ps.length→bindArgs fd ⟨us,[]⟩=pure (ps.zip us)):Binds K fd ps []:=fun s us _ hl=>by
 rw[List.append_nil] at hl ⊢
 exact .of_eq (h us hl)
def W6 (CX:CXT) (X:Cx) (E:XK):Prop:=∀(pins:List (Addr×Obj)) (σ:St) (H:Hp) (s:Shared) (e:Value) (s':Shared),Inv X pins σ H s→CX X.stack H s E e s'→X.xe e s'
section
variable {X:Cx}{CX:CXT}{k:Nat}{f C:Addr}{fd:FuncData}{ps:List Str}{sp:Sp}{dvs:List V}{ds:List Value}{E:XK}{x m:Str}{p pos apos:Pos}{e o:Expr}{es:List Expr}{ta:TE}{t:TA}
theorem pL {pins:List (Addr×Obj)}{σ:St}{H:Hp}{s:Shared}{Q:VK}{us:List Value}{vs:List V}(F:FnOk X.prog X.w X.K X.mg X.base CX k f fd ps sp) (hr:Room k X.A) (hb:Binds X.K fd ps ds) (hd:Vals dvs ds) (hx:W6 CX X E)
   (I:Inv X pins σ H s) (r:Vals vs us) (h:sp (vs++dvs) H Q E):wpAny (model X.prog X.w) X.A (call (.ref f) us) (EP X pins σ Q) X.xe s:=by
 have r2:Vals (vs++dvs) (us++ds):=r.append hd
 have hl:(us++ds).length=ps.length:=by rw[← r2.length];exact F.len _ _ _ _ h
 refine wpAny_call (xP (F.run X.A X.stack s H ⟨us,[]⟩ (us++ds) (vs++dvs) Q E hr I.env0 (hb s us I.kIn hl) r2 h) fun r s' hq=>?_)
 cases r with
 | error e=>exact hx pins σ H s e s' I hq
 | ok fl=>
   cases fl with
   | ret u=>exact I.after hq
   | next=>exact False.elim hq
   | brk=>exact False.elim hq
   | cont=>exact False.elim hq
theorem jI (F:FnOk X.prog X.w X.K X.mg X.base CX k f fd ps sp) (hr:Room k X.A) (hg:Gl X x) (hm:X.mg x=some (.ref f)) (hk:PySem.W.keepIn X.K (.ref f)=true) (hb:Binds X.K fd ps ds) (hd:Vals dvs ds) (hx:W6 CX X E)
   (ha:PA X (e::es) t) (hdb:(x==("__debug__":Str))=false:=by decide) (he:starEach (e::es) X.env=(false,eval e X.env)::starEach es X.env:=by rfl) (hpl:(backTo pos (starEach es X.env)).any (·.1)=false:=by rfl) :
   PE X (.Call (.Name x p) (e::es) [] pos) (YE sp dvs E t):=by
 intro pins s σ H Q I h
 refine wpAny_Call_Name_kw (IL I hg hm ?_ hdb)
 refine PySem.W.callWith_K (h₀:=X.base) I.ok.mod.kin hk (thn (ha pos pins s σ H _ I h) fun us s1 ⟨vs,H1,I1,r,q⟩=>⟨I1.kIn,?_⟩) he hpl
 exact pL F hr hb hd hx I1 r q
end
structure FnScope (N P:List Str) (sc:Scope):Prop where
 kind:sc.kind = .function
 co:sc.isCoroutine=false
 gen:sc.isGenerator=false
 nd:N.Nodup
 pre:N.take P.length=P
 par:∀x∈P,sc.names.lookup x=some .local∨sc.names.lookup x=some .cell
 nofree:∀y∈sc.names,y.2≠.free
theorem Q1 {kindOf:Str→Option NameKind}{x:Str}:∀{binds:List (Str×Value)}{m:Str→Option Value},(∀v,(x,v)∉binds)→bindL kindOf binds m x=m x
 | [],_,_=>rfl
 | (n,v)::r,m,h=>by
   unfold bindL
   rw[Q1 fun w hw=>h w (yV _ hw)]
   split
   · have:x≠n:=by rintro rfl;exact h v List.mem_cons_self
     simp[this]
   · rfl
theorem Q2 {kindOf:Str→Option NameKind}{x:Str}:∀{binds:List (Str×Value)}{m:Str→Option Value},(∀v,(x,v)∉binds)→bindC kindOf binds m x=m x
 | [],_,_=>rfl
 | (n,v)::r,m,h=>by
   unfold bindC
   rw[Q2 fun w hw=>h w (yV _ hw)]
   split
   · rfl
   · have:x≠n:=by rintro rfl;exact h v List.mem_cons_self
     simp[this]
theorem Q3 {kindOf:Str→Option NameKind}{x:Str}{v:Value}:∀{P:List Str}{vs:List Value}{i:Nat}{m:Str→Option Value},P.Nodup→P[i]?=some x→vs[i]?=some v→kindOf x=some .local →
   bindL kindOf (P.zip vs) m x=some v
 | [],_,_,_,_,h,_,_=>by simp at h
 | _::_,[],_,_,_,_,h,_=>by simp at h
 | p::P,w::vs,0,m,nd,h1,h2,hk=>by
   simp at h1 h2;subst h1;subst h2
   show bindL kindOf ((p,w)::P.zip vs) m p=_
   unfold bindL
   rw[Q1 fun v hv=>(xW.mp nd).1 (List.of_mem_zip hv).1,if_pos hk]
   simp
 | p::P,w::vs,i+1,m,nd,h1,h2,hk=>by
   show bindL kindOf ((p,w)::P.zip vs) m x=_
   unfold bindL
   exact Q3 (i:=i) (xW.mp nd).2 (by simpa using h1) (by simpa using h2) hk
theorem Q4 {kindOf:Str→Option NameKind}{x:Str}{v:Value}:∀{P:List Str}{vs:List Value}{i:Nat}{m:Str→Option Value},P.Nodup→P[i]?=some x→vs[i]?=some v→kindOf x≠some .local →
   bindC kindOf (P.zip vs) m x=some v
 | [],_,_,_,_,h,_,_=>by simp at h
 | _::_,[],_,_,_,_,h,_=>by simp at h
 | p::P,w::vs,0,m,nd,h1,h2,hk=>by
   simp at h1 h2;subst h1;subst h2
   show bindC kindOf ((p,w)::P.zip vs) m p=_
   unfold bindC
   rw[Q2 fun v hv=>(xW.mp nd).1 (List.of_mem_zip hv).1,if_neg hk]
   simp
 | p::P,w::vs,i+1,m,nd,h1,h2,hk=>by
   show bindC kindOf ((p,w)::P.zip vs) m x=_
   unfold bindC
   exact Q4 (i:=i) (xW.mp nd).2 (by simpa using h1) (by simpa using h2) hk
def F8 (N:List Str) (vs:List V):St:=vs.map some++List.replicate (N.length - vs.length) none
def F5 (CX:CXT) (P:Program) (w:World) (K:Frg) (mg:Str→Option Value) (base:Heap) (N:List Str) (qual:Str) (scope:Scope) (f:Addr) (cd:Value) (A:Around) (outer:List Env) (s:Shared) (H:Hp) (E:XK):Cx where
 prog:=P
 w:=w
 K:=K
 mg:=mg
 base:=base
 A:=A.deeper (envOfC qual scope s.heap.objs.size f cd)
 N:=N
 s₀:=s
 H₀:=H
 env:=envOfC qual scope s.heap.objs.size f cd
 outer:=outer
 stack:=envOfC qual scope s.heap.objs.size f cd::outer
 ex:=[]
 calm:=true
 fn:=fun _=>true
 pn:=[]
 xe:=fun e s'=>wpAny (model P w) (A.deeper (envOfC qual scope s.heap.objs.size f cd)) (leaving (envOfC qual scope s.heap.objs.size f cd) e) (fun _ s''=>CX outer H s E e s'') (fun e' s''=>CX outer H s E e' s'') s'
theorem T9 {sc:Scope}{n:Nat}{x:Str}(h:sc.names.lookup x=some .cell):∃c,(cellsFrom n sc.names []).lookup x=some c:=by
 have q:=PySem.W.cellsFrom_some sc.names n [] (.inl h)
 exact Option.isSome_iff_exists.mp q
theorem a6 {CX:CXT}{P:Program}{w:World}{K:Frg}{mg:Str→Option Value}{base:Heap}{N ps:List Str}{qual:Str}{scope:Scope}{f:Addr}{cd:Value}{A:Around}{outer:List Env}{s s1:Shared}{H:Hp}{E:XK}{us:List Value}{vs:List V}
   (S:FnScope N ps scope) (hd:A.handled=none) (e0:Env0 P w K mg base A outer s H) (hl:vs.length=ps.length) (r:Vals vs us)
   (x:InCallC s s.heap.objs.size (bindL (envOfC qual scope s.heap.objs.size f cd).kindOf (ps.zip us) fun _=>none) (cellsFrom (s.heap.objs.size+1) scope.names []) (bindC (envOfC qual scope s.heap.objs.size f cd).kindOf (ps.zip us) fun _=>none) s1) :
   Inv (F5 CX P w K mg base N qual scope f cd A outer s H E) [] (F8 N vs) H s1:=by
 have hpl:ps.length≤N.length:=by have:=congrArg List.length S.pre;rw[List.length_take] at this;omega
 obtain⟨h1,tk,rfl,hk⟩:=x.done
 have noA:∀b:Addr,b∉(F5 CX P w K mg base N qual scope f cd A outer s H E).ex:=fun b z=>absurd (show b∈([]:List Addr) from z) (by simp)
 refine⟨⟨e0.mod,S.kind,rfl,rfl,zR _,fun y z c h1 h2=>?_,fun y hy=>?_,fun y c _ h=>?_,fun _=>hd,Around.frames_deeper e0.frames,.inr ⟨rfl,rfl⟩,fun b z=>absurd z (noA b),e0.bs,e0.bsz,fun b _ _=>noA b,fun b z=>absurd z (noA b),e0.funs,e0.frf⟩,
   rfl,e0.bare,Un.kept hk,⟨_,x.toInCall.ns,fun i y v h1 h2 h3=>?_⟩,fun y c h=>⟨_,x.cell y c h⟩,e0.hok.fresh (zR _),fun y c h=>?_,fun p hp=>absurd (show p∈([]:List (Addr×Obj)) from hp) (by simp),e0.hok.kept hk,?_⟩
 · exact name_of_addr x.apart (PySem.mem_of_lookup h1) (PySem.mem_of_lookup h2)
 · have hy:scope.names.lookup y=some .cell∨scope.names.lookup y=some .free:=hy
   rcases hy with hy | hy
   · exact T9 hy
   · exact absurd rfl (S.nofree _ (PySem.mem_of_lookup hy))
 · exact xT (x.above y c (PySem.mem_of_lookup h))
 · have hi:i < vs.length:=by
     unfold F8 at h2
     by_cases hi:i < vs.length
     · exact hi
     · rw[yP (by simpa using hi)] at h2
       rw[List.getElem?_replicate] at h2
       split at h2 <;> cases h2
   have ha:vs[i]?=some v:=by
     unfold F8 at h2
     rw[yQ (by simpa using hi),zF] at h2
     cases e:vs[i]? with
     | none=>rw[e] at h2;cases h2
     | some a=>rw[e] at h2;cases h2;rfl
   obtain⟨u,hu,rv⟩:=r.get ha
   have hp:ps[i]?=some y:=by
     rw[← S.pre,List.getElem?_take_of_lt (by omega)];exact h1
   have ndP:ps.Nodup:=by rw[← S.pre];exact S.nd.sublist (List.take_sublist _ _)
   refine⟨u,rv,?_⟩
   rcases S.par y (yN hp) with k | k
   · exact .inl ⟨k,Q3 ndP hp hu k⟩
   · obtain⟨c,e⟩:=T9 (n:=s.heap.objs.size+1) k
     refine .inr ⟨.inl k,c,e,?_⟩
     have q:=x.cell y c e
     rw[Q4 ndP hp hu (by show scope.names.lookup y≠_;rw[k];decide)] at q
     exact q
 · exact e0.hok.fresh (xT (x.above y c (PySem.mem_of_lookup h)))
 · unfold F8
   show _=N.length
   rw[yY,zX,List.length_replicate]
   omega
theorem nI {CX:CXT}{P:Program}{w:World}{K:Frg}{mg:Str→Option Value}{base:Heap}{k:Nat}{f:Addr}{name qual:Str}{params:Arguments}{body:List Stmt}{scope:Scope}{dV kV doc pm cdv ct oc:Value}{an od:Option Addr}
   {osl:Array (Option Value)}{N ps:List Str}{sp:Sp}(lk:K.lookup f=some ⟨oc,od,.func (PySem.W.fnOf name qual params body scope dV kV doc pm an cdv ct),osl⟩) (hcd:PySem.W.codeIn K cdv qual=true) (S:FnScope N ps scope)
   (len:∀vs H Q E,sp vs H Q E→vs.length=ps.length)
   (hbody:∀(A:Around) (outer:List Env) (s:Shared) (H:Hp) (vs:List V) (Q:VK) (E:XK),Room k (A.deeper (envOfC qual scope s.heap.objs.size f cdv))→sp vs H Q E →
     ∃t,PSs (F5 CX P w K mg base N qual scope f cdv A outer s H E) body t∧t { nx:=fun _ H'=>Q .non H',rt:=Q } (F8 N vs) H) :
   FnOk P w K mg base CX (k+1) f (PySem.W.fnOf name qual params body scope dV kV doc pm an cdv ct) ps sp:=by
 refine⟨len,fun A outer s H args us vs Q E hr e0 hb r hsp=>?_⟩
 have hl:=len _ _ _ _ hsp
 have KX:K.In s.heap:=e0.mod.kin.keeps fun b o e=>(e0.bs b o e).1
 have lim:s.heap.NoLimit:=e0.mod.nolimit.keeps fun b o e=>(e0.bs b o e).1
 have hkind:∀y∈ps.zip us,scope.names.lookup y.1=some .local∨(scope.names.lookup y.1=some .cell∧((cellsFrom (s.heap.objs.size+1) scope.names []).lookup y.1).isSome=true):=fun⟨n,v⟩ hy=>by
   rcases S.par n (List.of_mem_zip hy).1 with q | q
   · exact .inl q
   · exact .inr ⟨q,PySem.W.cellsFrom_some _ _ _ (.inl q)⟩
 refine codeAny_call_function hr.depth (KX _ _ lk) rfl S.co S.gen rfl (PySem.W.codeRec_of KX hcd) (hb _ _ _ _ ?_)
 refine wpAny_newFunctionEnv_cells S.kind hkind fun env he s1 x=>?_
 subst he
 refine⟨lim.keeps x.toInCall.keep,codeAny_func ?_⟩
 obtain⟨t,ht,hq⟩:=hbody A outer s H vs Q E (hr.deeper _) hsp
 have I:Inv (F5 CX P w K mg base N qual scope f cdv A outer s H E) [] (F8 N vs) H s1:=a6 S hr.hd e0 hl r x
 refine wpAny_mono (ht [] s1 (F8 N vs) H _ I hq) (fun fl s' hs=>?_) fun e s' hs=>hs
 have fin:∀{σ':St}{H':Hp}{v:V}{u:Value},Inv (F5 CX P w K mg base N qual scope f cdv A outer s H E) [] σ' H' s'→RelV v u→Q v H'→CE outer P w H s Q u s':=
   fun {σ' H' v u} J rv q=>⟨v,H',J.os,J.bare,J.base,J.hok,rv,q⟩
 cases fl with
 | ret u=>
   obtain⟨v,σ',H',J,rv,q⟩:=hs
   exact fin J rv q
 | next=>
   obtain⟨σ',H',J,q⟩:=hs
   exact fin (v:=V.non) (u:=Value.none) J rfl q
 | brk=>
   obtain⟨_,_,_,q⟩:=hs
   exact False.elim q
 | cont=>
   obtain⟨_,_,_,q⟩:=hs
   exact False.elim q
end L2
namespace L2
open PySem PySem.Spec PyProof.Rows
section
variable {X:Cx}{x:Str}{p pos:Pos}{e:Expr}{es:List Expr}{t:TA}{id T:String}{r:List V→Hp→VK→Prop}
def tCB (r:List V→Hp→VK→Prop) (t:TA):TE:=fun σ H Q=>t σ H fun vs H1=>r vs H1 Q
theorem C7 (hc:BO X (.builtin id) r) (hg:Gl X x) (hm:X.mg x=none) (hv:bootBuiltins x=some (.builtin id)) (ha:PA X (e::es) t) (hn:x ≠ "__name__" := by decide) (hdb:(x==("__debug__":Str))=false:=by decide)
   (he:starEach (e::es) X.env=(false,eval e X.env)::starEach es X.env:=by rfl) (hpl:(backTo pos (starEach es X.env)).any (·.1)=false:=by rfl):PE X (.Call (.Name x p) (e::es) [] pos) (tCB r t):=by
 intro pins s σ H Q I h
 refine wpAny_Call_Name_kw (JI I hg hm hv ?_ hn hdb)
 exact PyProof.Rows.callWith_builtin1 (thn (ha pos pins s σ H _ I h) fun us s1 ⟨vs,H1,I1,r1,q1⟩=>hc pins s1 σ H1 vs us Q I1 r1 q1) he hpl
theorem FS (hc:BO X (.type T) r) (hg:Gl X x) (hm:X.mg x=none) (hv:bootBuiltins x=some (.type T)) (ha:PA X (e::es) t) (hn:x ≠ "__name__" := by decide) (hdb:(x==("__debug__":Str))=false:=by decide)
   (he:starEach (e::es) X.env=(false,eval e X.env)::starEach es X.env:=by rfl) (hpl:(backTo pos (starEach es X.env)).any (·.1)=false:=by rfl):PE X (.Call (.Name x p) (e::es) [] pos) (tCB r t):=by
 intro pins s σ H Q I h
 refine wpAny_Call_Name_kw (JI I hg hm hv ?_ hn hdb)
 exact xI (thn (ha pos pins s σ H _ I h) fun us s1 ⟨vs,H1,I1,r1,q1⟩=>hc pins s1 σ H1 vs us Q I1 r1 q1) he hpl
end
end L2
namespace HT
open PySem PyProof.Rows
section
variable {prog:Program}{w:World}{A:Around}{E:Value→Shared→Prop}{s:Shared}
def sIx (n d:Nat):Option Int→Nat
 | none=>d
 | some v=>if v < 0 then (v+(n:Int)).toNat else min v.toNat n
theorem sIx_nat (n d k:Nat):sIx n d (some (k:Int))=min k n:=by
 show(if (k:Int) < 0 then ((k:Int)+(n:Int)).toNat else min (k:Int).toNat n)=min k n
 rw[if_neg (by omega),Int.toNat_natCast]
theorem pM (n d:Nat) (hd:d≤n) (o:Option Int):sIx n d o≤n:=by
 cases o with
 | none=>exact hd
 | some v=>
   show(if v < 0 then (v+(n:Int)).toNat else min v.toNat n)≤n
   by_cases hv:v < 0
   · rw[if_pos hv];omega
   · rw[if_neg hv];exact Nat.min_le_right _ _
theorem YF (v:Int) (n d:Nat):(if v < 0 then max (v+(n:Int)) 0 else min v (n:Int))=((sIx n d (some v):Nat):Int):=by
 show(if v < 0 then max (v+(n:Int)) 0 else min v (n:Int))=(((if v < 0 then (v+(n:Int)).toNat else min v.toNat n):Nat):Int)
 by_cases hv:v < 0
 · simp only[if_pos hv];omega
 · simp only[if_neg hv];omega
theorem W7 (lo hi:Option Int) (n:Nat):Builtin.Slice.sliceAdjust lo hi 1 (n:Int)=(((sIx n 0 lo:Nat):Int),((sIx n n hi:Nat):Int)):=by
 have h1:¬((1:Int) < 0):=by omega
 unfold Builtin.Slice.sliceAdjust
 simp only[h1,if_false]
 refine Prod.ext ?_ ?_
 · cases lo with
   | none=>rfl
   | some v=>exact YF v n 0
 · cases hi with
   | none=>rfl
   | some v=>exact YF v n n
theorem W8 (i j:Nat):Builtin.Slice.slicePlaces (i:Int) (j:Int) 1=j - i:=by
 unfold Builtin.Slice.slicePlaces
 have h1:(1:Int) > 0:=by omega
 simp only[h1,if_true,Int.ediv_one]
 split <;> omega
theorem ND {v:Value}{o:Option Int}{Q:Option Int→Shared→Prop}(p:IsPart v o) (h:Q o s):wpAny (model prog w) A (Builtin.Slice.slicePartIndex v) Q E s:=by
 cases p with
 | none=>exact slicePart_none h
 | int i t=>exact slicePart_int h
theorem FT {sl:Addr}{vl vu:Value}{lo hi:Option Int}{n:Nat}{Q:Int×Int×Nat→Shared→Prop}(hs:s.heap.IsSliceOf sl vl vu .none) (pl:IsPart vl lo) (pu:IsPart vu hi)
   (h:Q (((sIx n 0 lo:Nat):Int),1,sIx n n hi - sIx n 0 lo) s):wpAny (model prog w) A (Builtin.Slice.sliceApplied (.ref sl) (pure (n:Int))) Q E s:=by
 obtain⟨os,hos,hcs,hds⟩:=id hs
 unfold Builtin.Slice.sliceApplied Builtin.Slice.sliceFields
 refine zZ (zZ (wpAny_field hos hds (x:=vl) rfl (zZ (wpAny_field hos hds (x:=vu) rfl (zZ (wpAny_field hos hds (x:=.none) rfl (zY ?_)))))))
 refine zZ (slicePart_none ?_)
 show wpAny _ _ (if ((1:Int)==0)=true then _ else _) _ _ s
 rw[if_neg (by decide)]
 refine zZ (ND pl (zZ (ND pu (zZ (zY ?_)))))
 show wpAny _ _ (match Builtin.Slice.sliceAdjust lo hi 1 (n:Int) with | (lo,hi)=>pure (lo,(1:Int),Builtin.Slice.slicePlaces lo hi 1)) _ _ s
 rw[W7 lo hi n]
 show wpAny _ _ (pure (((sIx n 0 lo:Nat):Int),(1:Int),Builtin.Slice.slicePlaces ((sIx n 0 lo:Nat):Int) ((sIx n n hi:Nat):Int) 1)) _ _ s
 rw[W8]
 exact zY h
theorem cS (xs:Array Value) (i k:Nat):((List.range k).filterMap fun(m:Nat)=>xs[((i:Int)+(m:Int)*1).toNat]?).toArray=((xs.toList.drop i).take k).toArray:=by
 have e:(fun(m:Nat)=>xs[((i:Int)+(m:Int)*1).toNat]?)=fun m=>xs[i+m]?:=by
   funext m
   have:((i:Int)+(m:Int)*1).toNat=i+m:=by omega
   rw[this]
 rw[e]
 have:=pick_run xs i k
 rw[List.filterMap_map] at this
 have e2:((fun x=>xs[x]?)∘fun x=>i+x)=fun m=>xs[i+m]?:=rfl
 rw[e2] at this
 rw[this]
theorem getItem_tuple_cut {t sl:Addr}{items:Array Value}{vl vu:Value}{lo hi:Option Int}{Q:Value→Shared→Prop}(ht:IsTup s.heap t items) (hs:s.heap.IsSliceOf sl vl vu .none) (pl:IsPart vl lo) (pu:IsPart vu hi)
   (hw:¬(sIx items.size 0 lo=0∧sIx items.size items.size hi=items.size))
   (h:Q (.ref s.heap.objs.size) { s with heap:=s.heap.push { cls:=.type "tuple", data:=.seq ((items.toList.drop (sIx items.size 0 lo)).take (sIx items.size items.size hi - sIx items.size 0 lo)).toArray } })
   (hsz:items.size≤sizeLine):wpAny (model prog w) A (getItem (.ref t) (.ref sl)) Q E s:=by
 have htake:sizeOk (.seq ((items.toList.drop (sIx items.size 0 lo)).take (sIx items.size items.size hi - sIx items.size 0 lo)).toArray):=by
   show((items.toList.drop (sIx items.size 0 lo)).take (sIx items.size items.size hi - sIx items.size 0 lo)).toArray.size≤sizeLine
   rw[zJ,List.length_take,List.length_drop,Array.length_toList]
   omega
 have hj:sIx items.size items.size hi≤items.size:=pM _ _ (zR _) hi
 obtain⟨os,hos,hcs,hds⟩:=id hs
 have hTs:s.TypeIs (.ref sl) "slice" := ⟨os,hos,hcs⟩
 unfold getItem
 try with_reducible refine wpAny_holding ?_
 first | refine zZ (zY ?_) | skip
 refine zZ (wpAny_sequenceKey ht.typeIs (by decide) ?_)
 refine zZ (wpAny_callSpecial?_slot (name:=Str.ofString "__getitem__") ht.typeIs PyProof.Rows.slot_tuple_getitem
   (wpAny_call_entry PyProof.Rows.slot_tuple_getitem ht.typeIs entry_tuple_getitem ?_ (args_tuple_getitem _ _)))
 show wpAny _ _ (Builtin.Tuple.tupleItemsOf (.ref t) >>= _) _ _ s
 refine zZ (tupleItemsOf_ ht ?_)
 refine zZ (wpAny_typeOf hTs ?_)
 rw[if_pos (by decide)]
 refine zZ (FT hs pl pu ?_)
 have hno:¬((((sIx items.size 0 lo:Nat):Int)==0&&(1:Int)==1&&(sIx items.size items.size hi - sIx items.size 0 lo)==items.size)=true):=by
   intro q
   rw[Bool.and_eq_true,Bool.and_eq_true] at q
   have q1:((sIx items.size 0 lo:Nat):Int)=0:=eq_of_beq q.1.1
   have q2:sIx items.size items.size hi - sIx items.size 0 lo=items.size:=eq_of_beq q.2
   exact hw ⟨by omega,by omega⟩
 show wpAny _ _ (if (((sIx items.size 0 lo:Nat):Int)==0&&(1:Int)==1&&(sIx items.size items.size hi - sIx items.size 0 lo)==items.size)=true then _ else _) _ _ s
 rw[if_neg hno,cS]
 first
   | exact zZ (m:=Builtin.Tuple.tupleExact _) (xN (zY ⟨_,rfl,zY h⟩) htake)
   | exact zZ (m:=Builtin.Tuple.tupleExact _) (xN (zZ (zY (zY ⟨_,rfl,zY h⟩))) htake)
   | exact zZ (zZ (m:=Builtin.Tuple.tupleExact _) (xN (zY (zY ⟨_,rfl,zY h⟩)) htake))
   | exact zZ (zZ (m:=Builtin.Tuple.tupleExact _) (xN (zY ⟨_,rfl,zY h⟩) htake))
end
end HT
namespace L2
open PySem PySem.Spec PyProof.Rows
abbrev TO:=St→Hp→(Option Int→Hp→Prop)→Prop
def PO (X:Cx) (e:Option Expr) (t:TO):Prop:=
 ∀(pins:List (Addr×Obj)) (s:Shared) (σ:St) (H:Hp) (Q:Option Int→Hp→Prop),Inv X pins σ H s→t σ H Q →
   wpAny (model X.prog X.w) X.A (evalPart e X.env) (fun u s'=>∃o H',Inv X pins σ H' s'∧IsPart u o∧Q o H') X.xe s
def YG:TO:=fun _ H Q=>Q none H
def nJ (t:TE):TO:=fun σ H Q=>t σ H fun x H1=>∃i,x = .int i∧Q (some i) H1
section
variable {X:Cx}{e:Expr}{te:TE}{lo hi:Option Expr}{tl th:TO}{pos p2:Pos}
theorem jJ:PO X none YG:=by
 intro pins s σ H Q I h
 rw[evalPart_none]
 exact zY ⟨none,H,I,.none,h⟩
theorem jK (h:PE X e te):PO X (some e) (nJ te):=by
 intro pins s σ H Q I hw
 rw[evalPart_some]
 refine thn (h pins s σ H _ I hw) fun u s1 ⟨x,H1,I1,r1,q1⟩=>?_
 obtain⟨i,rfl,q⟩:=q1
 obtain⟨t,rfl⟩:=r1
 exact⟨some i,H1,I1,.int i t,q⟩
def SlR (X:Cx) (r:V→Option Int→Option Int→Hp→VK→Prop):Prop:=
 ∀(pins:List (Addr×Obj)) (s:Shared) (σ:St) (H:Hp) (x:V) (v vl vu:Value) (lo hi:Option Int) (sl:Addr) (Q:VK),Inv X pins σ H s→RelV x v→s.heap.IsSliceOf sl vl vu .none→IsPart vl lo→IsPart vu hi→r x lo hi H Q →
   ∃T id,typeLookup (.type T) "__getitem__"=pure (some (.builtin id))∧s.TypeIs v T∧wpAny (model X.prog X.w) X.A (getItem v (.ref sl)) (EP X pins σ Q) X.xe s
theorem SlR.or {r r':V→Option Int→Option Int→Hp→VK→Prop}(h:SlR X r) (h':SlR X r'):SlR X (fun x lo hi H Q=>r x lo hi H Q∨r' x lo hi H Q):=by
 intro pins s σ H x v vl vu lo hi sl Q I rx hs pl pu q
 rcases q with q | q
 · exact h pins s σ H x v vl vu lo hi sl Q I rx hs pl pu q
 · exact h' pins s σ H x v vl vu lo hi sl Q I rx hs pl pu q
def tSl (r:V→Option Int→Option Int→Hp→VK→Prop) (te:TE) (tl th:TO):TE:=fun σ H Q=>te σ H fun x H1=>tl σ H1 fun l H2=>th σ H2 fun u H3=>r x l u H3 Q
theorem cU {r:V→Option Int→Option Int→Hp→VK→Prop}(hr:SlR X r) (he:PE X e te) (hl:PO X lo tl) (hu:PO X hi th):PE X (.Subscript e (.Slice lo hi none p2) pos) (tSl r te tl th):=by
 intro pins s σ H Q I h
 refine Subscript_ (thn (he pins s σ H _ I h) fun v s1 ⟨x,H1,I1,r1,q1⟩=>?_)
 refine wpAny_Slice (thn (hl pins s1 σ H1 _ I1 q1) fun vl s2 ⟨l,H2,I2,pl,q2⟩=>thn (hu pins s2 σ H2 _ I2 q2) fun vu s3 ⟨u,H3,I3,pu,q3⟩=>?_)
 rw[evalPart_none]
 refine zY ?_
 have I4:Inv X pins σ H3 { s3 with heap:=s3.heap.push { cls:=.type "slice", data:=.fields #[vl,vu,.none] } }:=I3.kept (t':=s3.toks) fun b ob q=>zW _ q
 obtain⟨T,id,hT,ht,hg⟩:=hr pins { s3 with heap:=s3.heap.push { cls:=.type "slice", data:=.fields #[vl,vu,.none] } } σ H3 x v vl vu l u s3.heap.objs.size Q I4 r1 (Heap.IsSliceOf.new ..) pl pu q3
 show wpAny (model X.prog X.w) X.A (subscriptTail e (.Slice lo hi none p2) v (.ref s3.heap.objs.size)) (EP X pins σ Q) X.xe { s3 with heap:=s3.heap.push { cls:=.type "slice", data:=.fields #[vl,vu,.none] } }
 exact tail_any (ops:=[.ref s3.heap.objs.size,v]) ht hT hg (by with_unfolding_all rfl)
def JJ (xs:List V) (lo hi:Option Int):List V:=(xs.drop (HT.sIx xs.length 0 lo)).take (HT.sIx xs.length xs.length hi - HT.sIx xs.length 0 lo)
theorem LY (xs:List V) (lo hi:Option Int):(JJ xs lo hi).length≤xs.length:=by
 unfold JJ
 rw[List.length_take,List.length_drop]
 omega
def v7 (K:Frg):V→Option Int→Option Int→Hp→VK→Prop:=fun x lo hi H Q=>∃a xs,x = .ref a∧SqT K H a xs ∧
 ¬(HT.sIx xs.length 0 lo=0∧HT.sIx xs.length xs.length hi=xs.length)∧∀p,H p=none→Q (.ref p) (upd H p (.tup (JJ xs lo hi)))
theorem pN:SlR X (v7 X.K):=by
 intro pins s σ H x v vl vu lo hi sl Q I rx hs pl pu h
 obtain⟨a,xs,rfl,hx,hw,q⟩:=h
 cases rx
 obtain⟨its,r,ht,hz⟩:=I.tuple hx
 have hlen:its.toArray.size=xs.length:=by rw[zJ];exact r.length.symm
 refine⟨"tuple", _,PyProof.Rows.slot_tuple_getitem.lookup,ht.typeIs,?_⟩
 refine HT.getItem_tuple_cut ht hs pl pu (by rw[hlen];exact hw) ?_ (by rw[hlen];exact hz)
 rw[hlen]
 refine⟨.ref s.heap.objs.size,_,I.laid (t':=s.toks) (o:=.tup (JJ xs lo hi)) (fun b ob q=>zW _ q) (zR _) ?_,rfl,q _ (I.hok.fresh (zR _))⟩
 exact⟨zN (LY xs lo hi) hz,_,(r.drop (HT.sIx xs.length 0 lo)).take (HT.sIx xs.length xs.length hi - HT.sIx xs.length 0 lo),IsTup.new _ _⟩
end
end L2
namespace L2
open PySem PySem.Spec PyProof.Rows
def ixN (n:Nat) (i:Int):Option Nat:=if 0≤i then (if i < n then some i.toNat else none) else if -(n:Int)≤i then some (i+n).toNat else none
def atI {α:Type}(xs:List α) (i:Int):Option α:=(ixN xs.length i).bind fun j=>xs[j]?
theorem YH {n:Nat}{i:Int}{j:Nat}(h:ixN n i=some j):seqIndex? i n=some j∧j < n∧-(n:Int)≤i∧i < n:=by
 unfold ixN at h
 by_cases h0:0≤i
 · rw[if_pos h0] at h
   by_cases h1:i < n
   · rw[if_pos h1] at h
     have e:i.toNat=j:=Option.some.inj h
     exact⟨by rw[seqIndex_of h0 h1,e],by omega,by omega,h1⟩
   · rw[if_neg h1] at h;cases h
 · rw[if_neg h0] at h
   by_cases h1 : -(n:Int)≤i
   · rw[if_pos h1] at h
     have e:(i+n).toNat=j:=Option.some.inj h
     exact⟨by rw[seqIndex_neg (by omega) h1,e],by omega,h1,by omega⟩
   · rw[if_neg h1] at h;cases h
theorem RN {α:Type}{xs:List α}{i:Int}{v:α}(h:atI xs i=some v):∃j,seqIndex? i xs.length=some j∧xs[j]?=some v∧j < xs.length∧-(xs.length:Int)≤i∧i < xs.length:=by
 unfold atI at h
 cases e:ixN xs.length i with
 | none=>rw[e] at h;cases h
 | some j=>
   rw[e] at h
   obtain⟨h1,h2,h3,h4⟩:=YH e
   exact⟨j,h1,h,h2,h3,h4⟩
theorem AD {α:Type}{xs:List α}{j:Nat}{v:α}(h:xs[j]?=some v):atI xs (j:Int)=some v:=by
 have hj:j < xs.length:=(yT.mp h).1
 have e:ixN xs.length (j:Int)=some j:=by
   unfold ixN
   rw[if_pos (by omega),if_pos (by omega)];simp
 unfold atI;rw[e];exact h
def jL (b:Expr):Prop:=∀o i,subscripted b false o i=operate [o,i] (getItem o i)
def IxR (X:Cx) (r:R2):Prop:=
 ∀(value slice:Expr) (pins:List (Addr×Obj)) (s:Shared) (σ:St) (H:Hp) (x y:V) (v u:Value) (Q:VK),Inv X pins σ H s→RelV x v→RelV y u→r x y H Q →
   subscripted slice false v u=operate [v,u] (getItem v u)→wpAny (model X.prog X.w) X.A (subscriptTail value slice v u) (EP X pins σ Q) X.xe s
def MtR (X:Cx) (id:String) (r:V→List V→Hp→VK→Prop):Prop:=
 ∀(pins:List (Addr×Obj)) (s:Shared) (σ:St) (H:Hp) (x:V) (xs:List V) (v:Value) (us:List Value) (Q:VK),Inv X pins σ H s→RelV x v→Vals xs us→r x xs H Q →
   wpAny (model X.prog X.w) X.A (call (.builtin id) (v::us)) (EP X pins σ Q) X.xe s
section
variable {X:Cx}{a b:Expr}{ta tb:TE}{pos:Pos}
theorem IxR.or {r r':R2}(h:IxR X r) (h':IxR X r'):IxR X (fun x y H Q=>r x y H Q∨r' x y H Q):=by
 intro value slice pins s σ H x y v u Q I rx ry q hs
 rcases q with q | q
 · exact h value slice pins s σ H x y v u Q I rx ry q hs
 · exact h' value slice pins s σ H x y v u Q I rx ry q hs
theorem tG {r:R2}(hr:IxR X r) (ha:PE X a ta) (hb:PE X b tb) (hs:jL b):PE X (.Subscript a b pos) (tOp r ta tb):=by
 intro pins s σ H Q I h
 exact Subscript_ (p7 ha hb I h fun v u s2 x y H2 I2 rx ry q=>hr a b pins s2 σ H2 x y v u Q I2 rx ry q (hs _ _))
def jM (K:Frg):R2:=fun x y H Q=>∃p xs i v,x = .ref p∧y = .int i∧SqL K H p xs∧atI xs i=some v∧Q v H
def pO (K:Frg):R2:=fun x y H Q=>∃p xs i v,x = .ref p∧y = .int i∧SqT K H p xs∧atI xs i=some v∧Q v H
def pP:R2:=fun x y H Q=>∃z i c,x = .str z∧y = .int i∧z.length≤sizeLine∧atI z.cps.toList i=some c∧Q (.str ⟨#[c]⟩) H
theorem jN:IxR X (jM X.K):=by
 intro value slice pins s σ H x y v u Q I rx ry h hs
 obtain⟨p,xs,i,z,rfl,rfl,hq,he,q⟩:=h
 cases rx
 obtain⟨t,rfl⟩:=ry
 obtain⟨its,r,pl,hz⟩:=I.list hq
 obtain⟨j,h1,h2,h3,h4,h5⟩:=RN he
 obtain⟨w,ew,rw'⟩:=r.get h2
 have hl:=r.length
 have hn:=NB
 have fin:EP X pins σ Q w s:=⟨z,H,I,rw',q⟩
 by_cases h0:0≤i
 · have hj:i.toNat=j:=by
     rw[seqIndex_of h0 h5] at h1
     exact Option.some.inj h1
   exact item_listR pl.isList h0 (by omega) (by rw[hj];simpa using ew) fin hs
 · have hj:(i+(its.toArray.size:Int)).toNat=j:=by
     rw[seqIndex_neg (by omega) h4] at h1
     rw[zJ,← hl]
     exact Option.some.inj h1
   exact subscriptTail_builtinR (x:=w) pl.isList.typeIs slot_list_getitem.lookup
     (wpAny_getItem_list_neg (Q:=fun r s'=>r=w∧EP X pins σ Q r s') pl.isList (by omega) (by rw[zJ] <;> omega) (by omega) (by rw[hj];simpa using ew) ⟨rfl,fin⟩) hs
theorem pQ:IxR X (pO X.K):=by
 intro value slice pins s σ H x y v u Q I rx ry h hs
 obtain⟨p,xs,i,z,rfl,rfl,hq,he,q⟩:=h
 cases rx
 obtain⟨t,rfl⟩:=ry
 obtain⟨its,r,pl,hz⟩:=I.tuple hq
 obtain⟨j,h1,h2,h3,h4,h5⟩:=RN he
 obtain⟨w,ew,rw'⟩:=r.get h2
 have hl:=r.length
 have hn:=NB
 have fin:EP X pins σ Q w s:=⟨z,H,I,rw',q⟩
 exact subscriptTail_builtinR (x:=w) pl.typeIs slot_tuple_getitem.lookup
   (getItem_tuple (j:=j) (Q:=fun r s'=>r=w∧EP X pins σ Q r s') pl (by omega) (by omega) (by rw[zJ,← hl];exact h1) (by simpa using ew) ⟨rfl,fin⟩) hs
theorem pR:IxR X pP:=by
 intro value slice pins s σ H x y v u Q I rx ry h hs
 obtain⟨z,i,c,rfl,rfl,hz,he,q⟩:=h
 obtain⟨t,rfl⟩:=rx
 obtain⟨t',rfl⟩:=ry
 obtain⟨j,h1,h2,h3,h4,h5⟩:=RN he
 have hl:z.cps.toList.length=z.length:=by simp[Str.length]
 rw[hl] at h1 h4 h5
 have hn:=NB
 exact tail_any (typeIs_str s z t) slot_str_getitem.lookup (getItem_str (c:=c) (by
   have e1:decide (i < -(2 ^ 63:Int))=false:=decide_eq_false (by omega)
   have e2:decide (i≥2 ^ 63)=false:=decide_eq_false (by omega)
   rw[e1,e2,Bool.or_false]) (by rw[h1];simpa using h2) ⟨.str ⟨#[c]⟩,H,I.tok _,⟨_,rfl⟩,q⟩) hs
theorem W9 (its:List Value) (n j:Nat) (u:Value):Obj.mapSeq (·.setIfInBounds j u) { cls:=.type "list", data:=.seq its.toArray n }={ cls:=.type "list", data:=.seq (its.set j u).toArray n }:=by
 simp[Obj.mapSeq]
theorem Inv.lst {pins:List (Addr×Obj)}{σ:St}{H:Hp}{s:Shared}{p:Addr}{xs:List V}(I:Inv X pins σ H s) (h:H p=some (.lst xs)) :
   ∃(its:List Value) (n:Nat),Vals xs its∧s.heap.get? p=some { cls:=.type "list", data:=.seq its.toArray n }∧xs.length≤sizeLine:=by
 obtain⟨z,its,n,r,e⟩:=I.hok p _ h
 exact⟨its,n,r,e,z⟩
theorem Inv.lstUpd {pins:List (Addr×Obj)}{σ:St}{H:Hp}{s:Shared}{p:Addr}{xs ys:List V}{its its':List Value}{n n':Nat}{f:Obj→Obj}(I:Inv X pins σ H s) (h:H p=some (.lst xs))
   (ho:s.heap.get? p=some { cls:=.type "list", data:=.seq its.toArray n }) (hf:f { cls:=.type "list", data:=.seq its.toArray n }={ cls:=.type "list", data:=.seq its'.toArray n' }) (r:Vals ys its') (hz:ys.length≤sizeLine) (t:Nat) :
   Inv X pins σ (upd H p (.lst ys)) { s with heap:=s.heap.update p f,toks:=t }:=by
 have e:(s.heap.update p f).get? p=some { cls:=.type "list", data:=.seq its'.toArray n' }:=by
   rw[Heap.get?_update_self f ho (by rw[hf] <;> rfl),hf]
 refine I.write (x:=p) (e:=p) (by rw[h];trivial) (.inl rfl) (fun b u hb q=>(yC _ _ (Ne.symm hb)).trans q) ⟨_,e⟩ ?_
 exact⟨hz,its',n',r,e⟩
def cV:V→V→V→Hp→(Hp→Prop)→Prop:=fun o i v H Q=>∃p xs k j,o = .ref p∧i = .int k∧H p=some (.lst xs)∧ixN xs.length k=some j∧Q (upd H p (.lst (xs.set j v)))
theorem cW:sZ X cV:=by
 intro pins s σ H o i v ov iv u Q I ro ri rv h
 obtain⟨p,xs,k,j,rfl,rfl,hp,hj,q⟩:=h
 cases ro
 obtain⟨t,rfl⟩:=ri
 obtain⟨its,n,r,ho,hz⟩:=I.lst hp
 obtain⟨h1,h2,h3,h4⟩:=YH hj
 have hl:=r.length
 have hn:=NB
 have I':Inv X pins σ (upd H p (.lst (xs.set j v))) { s with heap:=s.heap.update p (Obj.mapSeq (·.setIfInBounds j u)) }:=
   I.lstUpd hp ho (W9 its n j u) (r.set rv j) (by rw[List.length_set];exact hz) s.toks
 by_cases h0:0≤k
 · have hk:k.toNat=j:=by
     rw[seqIndex_of h0 h4] at h1
     exact Option.some.inj h1
   exact PySem.W.ki_setAt ho h0 (by omega) (by rw[zJ,← hl];exact h4) (by rw[hk];exact⟨_,I',q⟩)
 · have hk:(k+(its.toArray.size:Int)).toNat=j:=by
     rw[seqIndex_neg (by omega) h3] at h1
     rw[zJ,← hl]
     exact Option.some.inj h1
   exact PySem.W.ki_setBack ho (by omega) (by rw[zJ,← hl];exact h3) (by omega) (by rw[hk];exact⟨_,I',q⟩)
theorem RO (lo hi:Option Int) (n:Nat):(sliceBounds lo hi none n).1=((HT.sIx n 0 lo:Nat):Int)∧(sliceBounds lo hi none n).2.1=((HT.sIx n n hi:Nat):Int)∧(sliceBounds lo hi none n).2.2=1:=by
 refine⟨?_,?_,rfl⟩
 · cases lo with
   | none=>simp[sliceBounds,HT.sIx]
   | some i=>
     simp only[sliceBounds,HT.sIx,Option.getD_none,show(1:Int) > 0 by decide,if_true]
     by_cases h:i < 0
     · simp only[h,if_true] <;> omega
     · simp only[h,if_false] <;> omega
 · cases hi with
   | none=>simp[sliceBounds,HT.sIx]
   | some i=>
     simp only[sliceBounds,HT.sIx,Option.getD_none,show(1:Int) > 0 by decide,if_true]
     by_cases h:i < 0
     · simp only[h,if_true] <;> omega
     · simp only[h,if_false] <;> omega
theorem PB (its:List Value) (lo hi:Option Int):slicePick its.toArray lo hi none=((its.drop (HT.sIx its.length 0 lo)).take (HT.sIx its.length its.length hi - HT.sIx its.length 0 lo)).toArray:=by
 obtain⟨h1,h2,h3⟩:=RO lo hi its.toArray.size
 unfold slicePick
 rw[h1,h2,h3]
 simp only[sliceRange_one,pick_run,zJ] <;> rfl
def pS (K:Frg):V→Option Int→Option Int→Hp→VK→Prop:=fun x lo hi H Q=>∃a xs,x = .ref a∧SqL K H a xs∧∀p,H p=none→Q (.ref p) (upd H p (.lst (JJ xs lo hi)))
theorem jO:SlR X (pS X.K):=by
 intro pins s σ H x v vl vu lo hi sl Q I rx hs pl pu h
 obtain⟨a,xs,rfl,hx,q⟩:=h
 cases rx
 obtain⟨its,r,ht,hz⟩:=I.list hx
 have hlen:=r.length
 refine⟨"list", _,slot_list_getitem.lookup,ht.isList.typeIs,?_⟩
 refine wpAny_getItem_list_slice ht.isList hs pl pu .none (by simp) ?_ (by rw[zJ] <;> omega)
 rw[PB,← hlen]
 refine⟨.ref s.heap.objs.size,_,I.laid (t':=s.toks) (o:=.lst (JJ xs lo hi)) (fun b ob q=>zW _ q) (zR _) ?_,rfl,q _ (I.hok.fresh (zR _))⟩
 exact⟨zN (LY xs lo hi) hz,_,0,(r.drop (HT.sIx xs.length 0 lo)).take (HT.sIx xs.length xs.length hi - HT.sIx xs.length 0 lo),yZ _ rfl⟩
def J3:V→Bool
 | .non=>true
 | .bl _=>true
 | .int _=>true
 | .str _=>true
 | _=>false
def eqV:V→V→Bool
 | .non,.non=>true
 | .bl a,.bl b=>a==b
 | .bl a,.int b=>(if a then 1 else 0)==b
 | .int a,.bl b=>a==(if b then 1 else 0)
 | .int a,.int b=>a==b
 | .str a,.str b=>a==b
 | _,_=>false
theorem pT {A:Around}{s:Shared}{y x:V}{u v:Value}(ry:RelV y u) (rx:RelV x v) (fy:J3 y=true) (fx:J3 x=true):SeqAt.EqAt A s u v (eqV y x):=by
 cases y with
 | non=>
   cases ry
   cases x with
   | non=>cases rx;exact SeqAt.EqAt.same _
   | bl b=>cases rx;exact SeqAt.EqAt.none_bool b
   | int b=>obtain⟨t,rfl⟩:=rx;exact SeqAt.EqAt.none_int b t
   | str b=>obtain⟨t,rfl⟩:=rx;exact SeqAt.EqAt.none_str b t
   | _=>exact absurd (show false=true from fx) nft
 | bl a=>
   cases ry
   cases x with
   | non=>cases rx;exact SeqAt.EqAt.bool_none a
   | bl b=>cases rx;exact SeqAt.EqAt.bool_bool a b
   | int b=>obtain⟨t,rfl⟩:=rx;exact SeqAt.EqAt.bool_int a b t
   | str b=>obtain⟨t,rfl⟩:=rx;exact SeqAt.EqAt.bool_str a b t
   | _=>exact absurd (show false=true from fx) nft
 | int a=>
   obtain⟨t',rfl⟩:=ry
   cases x with
   | non=>cases rx;exact SeqAt.EqAt.int_none a t'
   | bl b=>cases rx;exact SeqAt.EqAt.int_bool a t' b
   | int b=>obtain⟨t,rfl⟩:=rx;exact SeqAt.EqAt.int_int a t' b t
   | str b=>obtain⟨t,rfl⟩:=rx;exact SeqAt.EqAt.int_str a t' b t
   | _=>exact absurd (show false=true from fx) nft
 | str a=>
   obtain⟨t',rfl⟩:=ry
   cases x with
   | non=>cases rx;exact SeqAt.EqAt.str_none a t'
   | bl b=>cases rx;exact SeqAt.EqAt.str_bool a t' b
   | int b=>obtain⟨t,rfl⟩:=rx;exact SeqAt.EqAt.str_int a t' b t
   | str b=>obtain⟨t,rfl⟩:=rx;exact SeqAt.EqAt.str_str a t' b t
   | _=>exact absurd (show false=true from fx) nft
 | _=>exact absurd (show false=true from fy) nft
def eqU (x:V) (u:Value):Bool:=match u with
 | .none=>eqV .non x
 | .bool b=>eqV (.bl b) x
 | .int i _=>eqV (.int i) x
 | .str z _=>eqV (.str z) x
 | _=>false
theorem cX {x y:V}{u:Value}(r:RelV y u) (f:J3 y=true):eqU x u=eqV y x:=by
 cases y with
 | non=>cases r;rfl
 | bl b=>cases r;rfl
 | int i=>obtain⟨t,rfl⟩:=r;rfl
 | str z=>obtain⟨t,rfl⟩:=r;rfl
 | _=>exact absurd (show false=true from f) nft
theorem RP {x:V}:∀{xs:List V}{us:List Value},Vals xs us→xs.all J3=true→us.any (eqU x)=xs.any fun y=>eqV y x
 | _,_,.nil,_=>rfl
 | y::xs,u::us,.cons r t,f=>by
   rw[List.all_cons,Bool.and_eq_true] at f
   rw[List.any_cons,List.any_cons,cX r f.1,RP t f.2]
theorem NE {A:Around}{s:Shared}{x:V}{v:Value}(rx:RelV x v) (fx:J3 x=true):∀{xs:List V}{us:List Value},Vals xs us→xs.all J3=true→∀u∈us,SeqAt.EqAt A s u v (eqU x u)
 | _,_,.nil,_=>fun u hu=>by cases hu
 | y::xs,u::us,.cons r t,f=>fun u' hu=>by
   rw[List.all_cons,Bool.and_eq_true] at f
   rcases yX.mp hu with rfl | hu
   · rw[cX r f.1];exact pT r rx f.1 fx
   · exact NE rx fx t f.2 u' hu
def inV (x:V) (xs:List V):Bool:=xs.any fun y=>eqV y x
def rIn (K:Frg) (neg:Bool):R2:=fun x y H Q=>∃p xs,y = .ref p∧(SqL K H p xs∨SqT K H p xs)∧J3 x=true∧xs.all J3=true∧Q (.bl (if neg then !inV x xs else inV x xs)) H
theorem a7:OpR X (compareOp .In) (rIn X.K false):=by
 intro pins s σ H x y v u Q I rx ry h
 obtain⟨p,xs,rfl,hq,fx,fs,q⟩:=h
 cases ry
 rcases hq with hq | hq
 · obtain⟨its,r,pl,hz⟩:=I.list hq
   refine SeqAt.in_listAt (eqU x) pl.isList (fun w hw=>NE rx fx r fs w (by simpa using hw)) ⟨.bl _,H,I,rfl,?_⟩
   rw[show its.toArray.any (eqU x)=its.any (eqU x) by simp,RP r fs]
   exact q
 · obtain⟨its,r,pl,hz⟩:=I.tuple hq
   refine SeqAt.in_tupleAt (eqU x) pl (fun w hw=>NE rx fx r fs w (by simpa using hw)) ⟨.bl _,H,I,rfl,?_⟩
   rw[show its.toArray.any (eqU x)=its.any (eqU x) by simp,RP r fs]
   exact q
theorem PD:BO X (.type "tuple") (fun xs H Q=>∃p ys,xs=[.ref p]∧((SqL X.K H p ys∧∀l,H l=none→Q (.ref l) (upd H l (.tup ys)))∨(SqT X.K H p ys∧Q (.ref p) H))):=by
 intro pins s σ H xs us Q I r h
 obtain⟨p,ys,rfl,h⟩:=h
 obtain⟨u,rfl,rx⟩:=F7 r
 cases rx
 rcases h with ⟨hq,q⟩ | ⟨hq,q⟩
 · obtain⟨its,r',pl,hz⟩:=I.list hq
   have hlen:=r'.length
   refine call_tuple_list pl.isList (fun h' kp=>?_) (by simp only[zJ] <;> omega)
   have I1:Inv X pins σ H { s with heap:=h' }:=I.kept (t':=s.toks) kp
   have I2:Inv X pins σ (upd H h'.objs.size (.tup ys)) { s with heap:=h'.push { cls:=.type "tuple", data:=.seq its.toArray } }:=
     I1.laid (t':=s.toks) (fun b o e=>zW _ e) (zR _) (show ObjOk X.prog X.w _ _ _ (.tup ys) from ⟨hz,its,r',IsTup.new _ _⟩)
   exact⟨.ref h'.objs.size,_,I2,rfl,q _ (I1.hok.fresh (zR _))⟩
 · obtain⟨its,r',pl,hz⟩:=I.tuple hq
   exact call_tuple_same pl ⟨.ref p,H,I,rfl,q⟩
def tyV (K:Frg) (T:String) (x:V) (H:Hp):Prop:=match x with
 | .str _=>T = "str"
 | .int _=>T = "int"
 | .ref p=>(T = "list" ∧ ∃xs,SqL K H p xs)∨(T = "tuple" ∧ ∃o,K.lookup p=some o∧o.cls = .type "tuple" ∧ o.dict=none) ∨
     (T = "dict" ∧ ((∃kvs,H p=some (.dK kvs))∨∃kvs,H p=some (.dT kvs)))∨(T = "set" ∧ ∃S n,H p=some (.set S n))
 | _=>False
theorem pU {pins:List (Addr×Obj)}{σ:St}{H:Hp}{s:Shared}{T:String}{x:V}{v:Value}(I:Inv X pins σ H s) (r:RelV x v) (ty:tyV X.K T x H) :
   s.TypeIs v T∧∀a,v = .ref a→∃ob,s.heap.get? a=some ob∧ob.dict=none:=by
 cases x with
 | str z=>
   obtain⟨t,rfl⟩:=r
   cases (show T = "str" from ty)
   exact⟨typeIs_str s z t,fun _ e=>nomatch e⟩
 | int i=>
   obtain⟨t,rfl⟩:=r
   cases (show T = "int" from ty)
   exact⟨typeIs_int s i t,fun _ e=>nomatch e⟩
 | ref p=>
   cases r
   rcases ty with ⟨rfl,xs,hq⟩ | ⟨rfl,o,hk,hc,hd⟩ | ⟨rfl,hk⟩ | ⟨rfl,S,n,hk⟩
   · obtain⟨its,_,pl,_⟩:=I.list hq
     refine⟨pl.isList.typeIs,fun a e=>?_⟩
     cases e
     obtain⟨o,n,e,c,hd,_⟩:=pl
     exact⟨o,e,hd⟩
   · refine⟨⟨o,I.kIn p o hk,hc⟩,fun a e=>?_⟩
     cases e
     exact⟨o,I.kIn _ o hk,hd⟩
   · have z:∃o,s.heap.get? p=some o∧o.ExactDict:=by
       rcases hk with ⟨kvs,hk⟩ | ⟨kvs,hk⟩
       · obtain⟨_,_,_,_,o,_,_,e,ex,_⟩:=I.hok p _ hk
         exact⟨o,e,ex⟩
       · obtain⟨_,_,_,_,o,_,_,e,ex,_⟩:=I.hok p _ hk
         exact⟨o,e,ex⟩
     obtain⟨o,e,ex⟩:=z
     refine⟨⟨o,e,ex.1⟩,fun a e2=>?_⟩
     cases e2
     exact⟨o,e,ex.2.1⟩
   · obtain⟨o,_,_,_,e,ex,_⟩:=I.hok p _ hk
     refine⟨⟨o,e,ex.1⟩,fun a e2=>?_⟩
     cases e2
     exact⟨o,e,ex.2.1⟩
 | _=>exact False.elim ty
def tBM (K:Frg) (T:String) (r:V→List V→Hp→VK→Prop) (to:TE) (t:TA):TE:=fun σ H Q=>to σ H fun x H1=>tyV K T x H1∧t σ H1 fun xs H2=>r x xs H2 Q
variable {o e:Expr}{es:List Expr}{to:TE}{t:TA}{name:Str}{apos cpos:Pos}{T id:String}{r:V→List V→Hp→VK→Prop}
theorem tH (pa:PlainAttrs T) (slot:Slot T name id) (hty:typeOf (.builtin id)=pure (.type "method_descriptor")) (hm:MtR X id r) (ho:PE X o to) (ha:PA X (e::es) t)
   (hbase:attributeBase o name X.env (eval o X.env)=eval o X.env:=by rfl)
   (hfew:((backTo cpos (starEach (e::es) X.env)).all (fun x=>!x.1)&&(backToKw cpos (keywordEach [] X.env)).all (fun x=>x.1.isSome)
     && decide ((e::es).length+([]:List Keyword).length+(if ([]:List Keyword).isEmpty then 0 else 1) < 30))=true:=by rfl)
   (hline:(apos.endLine==cpos.line)=true:=by rfl) (hs:starEach (e::es) X.env=(false,eval e X.env)::starEach es X.env:=by rfl) (hplain:(backTo cpos (starEach es X.env)).any (·.1)=false:=by rfl) :
   PE X (.Call (.Attribute o name apos) (e::es) [] cpos) (tBM X.K T r to t):=by
 intro pins s σ H Q I h
 refine wpAny_Call_method_late hbase hfew hline rfl (thn (ho pins s σ H _ I h) fun v s1 ⟨x,H1,I1,r1,ty,q1⟩=>?_)
 obtain⟨h1,h2⟩:=pU I1 r1 ty
 refine⟨T,id,pa,slot,hty,h1,h2,?_⟩
 have hA:=ha cpos pins s1 σ H1 _ I1 q1
 rw[hs] at hA ⊢
 refine Calls.callWith_builtin (by show(false||(backTo cpos (starEach es X.env)).any (·.1))=false;rw[hplain] <;> rfl) (Calls.evalArgs_plain ?_)
 exact thn hA fun us s2 ⟨vs,H2,I2,r2,q2⟩=>hm pins s2 σ H2 x vs v us Q I2 r1 r2 q2
end
end L2
namespace L2
open PySem PySem.Spec PyProof.Rows
def MtM (X:Cx) (id:String) (r:V→List V→Hp→VK→Prop):Prop:=
 ∀(pins:List (Addr×Obj)) (s:Shared) (σ:St) (H:Hp) (x:V) (xs:List V) (v:Value) (us:List Value) (Q:VK),Inv X pins σ H s→RelV x v→Vals xs us→r x xs H Q →
   wpAny (model X.prog X.w) X.A (call (.builtin id) (v::us)) (EP X pins σ Q) X.xe s
theorem Vals.one:∀{x:V}{us:List Value},Vals [x] us→∃u,us=[u]∧RelV x u
 | _,_,.cons r .nil=>⟨_,rfl,r⟩
section
variable {X:Cx}{pins:List (Addr×Obj)}{σ:St}{H:Hp}{s:Shared}{l b:Addr}{xs ys zs:List V}
theorem Inv.lset {its its':List Value}{n:Nat}{f:Array Value→Array Value}{t':Nat}(I:Inv X pins σ H s) (hH:H l=some (.lst xs))
   (e:s.heap.get? l=some { cls:=.type "list", data:=.seq its.toArray n }) (hf:f its.toArray=its'.toArray) (hv:Vals ys its') (hz:ys.length≤sizeLine) :
   Inv X pins σ (upd H l (.lst ys)) { s with heap:=s.heap.update l (Obj.mapSeq f),toks:=t' }:=by
 have q:=PySem.IsL.update e f
 rw[hf] at q
 refine I.write (x:=l) (e:=l) (by rw[hH];exact trivial) (.inl rfl) (fun b' u hb hu=>(yC s.heap (Obj.mapSeq f) (Ne.symm hb)).trans hu) ⟨_,q⟩ ?_
 exact⟨hz,its',_,hv,q⟩
theorem Inv.lnew {its:List Value}{t':Nat}(I:Inv X pins σ H s) (hv:Vals ys its) (hz:ys.length≤sizeLine) :
   Inv X pins σ (upd H s.heap.objs.size (.lst ys)) { s with heap:=s.heap.push { cls:=.type "list", data:=.seq its.toArray },toks:=t' }:=
 I.laid (fun _ _ q=>zW _ q) (zR _) ⟨hz,its,0,hv,yZ _ rfl⟩
theorem Inv.fresh (I:Inv X pins σ H s):H s.heap.objs.size=none:=I.hok.fresh (zR _)
theorem Inv.lstM (I:Inv X pins σ H s) (hH:H l=some (.lst xs)):xs.length≤sizeLine∧∃(its:List Value) (n:Nat),Vals xs its∧xs.length=its.length∧s.heap.get? l=some { cls:=.type "list", data:=.seq its.toArray n }:=by
 obtain⟨z,its,n,r,e⟩:=I.hok l _ hH
 exact⟨z,its,n,r,r.length,e⟩
end
section
variable {X:Cx}
def RQ:V→List V→Hp→VK→Prop:=fun x vs H Q=>∃l xs y,x = .ref l∧vs=[y]∧H l=some (.lst xs)∧xs.length < sizeLine∧Q .non (upd H l (.lst (xs++[y])))
theorem Q5:MtM X "list.append" RQ:=by
 intro pins s σ H x vs v us Q I rx rv h
 obtain⟨l,xs,y,rfl,rfl,hH,hz,q⟩:=h
 cases rx
 obtain⟨u,rfl,ru⟩:=rv.one
 obtain⟨z,its,n,r,hl,e⟩:=I.lstM hH
 refine call_meets F.slot_list_append ⟨_,e,rfl⟩ F.entry_list_append (F.args_list_append_2 _ _) (PySem.list_append l its.toArray n u (by rw[zJ];omega)) ⟨e,?_⟩
 refine⟨.non,_,I.lset (its':=its++[u]) hH e (by simp) (r.append (.cons ru .nil)) ?_,rfl,q⟩
 rw[yY,List.length_singleton]
 omega
end
end L2
namespace L2
open PySem PySem.Spec PyProof.Rows
section
variable {κ:Type}[DecidableEq κ]
def F6 (kvs:List (κ×V)) (k:κ):Option V:=(kvs.find? fun kv=>decide (kv.1=k)).map (·.2)
def ER (kvs:List (κ×V)) (k:κ) (v:V):List (κ×V):=
 if (kvs.any fun kv=>decide (kv.1=k))=true then kvs.map (fun kv=>if kv.1=k then (kv.1,v) else kv) else kvs++[(k,v)]
def K0 (kvs:List (κ×V)) (k:κ):List (κ×V):=kvs.filter fun kv=>decide (kv.1≠k)
theorem K1 {p:κ×V}{r:List (κ×V)}{k:κ}(e:p.1=k):F6 (p::r) k=some p.2:=by simp[F6,List.find?_cons,e]
theorem HG {p:κ×V}{r:List (κ×V)}{k:κ}(e:¬p.1=k):F6 (p::r) k=F6 r k:=by simp[F6,List.find?_cons,e]
theorem TB (k:κ):∀kvs:List (κ×V),(kvs.any fun kv=>decide (kv.1=k))=(F6 kvs k).isSome
 | []=>rfl
 | p::r=>by
   rw[List.any_cons]
   by_cases e:p.1=k
   · simp only[K1 e,decide_eq_true e,Bool.true_or,Option.isSome_some]
   · rw[HG e,decide_eq_false e,Bool.false_or];exact TB k r
theorem F9 (kvs:List (κ×V)) (k:κ) (v:V):(ER kvs k v).length≤kvs.length+1:=by
 unfold ER
 split
 · rw[zX];omega
 · rw[yY,yR,List.length_nil];omega
theorem RelO.isSome_eq {o:Option V}{u:Option Value}(r:RelO o u):o.isSome=u.isSome:=by
 cases o with
 | none=>cases u with
   | none=>rfl
   | some _=>exact(show False from r).elim
 | some _=>cases u with
   | none=>exact(show False from r).elim
   | some _=>rfl
theorem RelO.getD {o:Option V}{u:Option Value}{d:V}{d':Value}(r:RelO o u) (rd:RelV d d'):RelV (o.getD d) (u.getD d'):=by
 cases o with
 | none=>cases u with
   | none=>exact rd
   | some _=>exact(show False from r).elim
 | some _=>cases u with
   | none=>exact(show False from r).elim
   | some _=>exact r
theorem KV.val {kvs:List (κ×V)}{vs:List (κ×Value)}(r:KV kvs vs) (k:κ):RelO (F6 kvs k) (valueAt vs k):=by
 unfold KV at r
 induction r with
 | nil=>exact True.intro
 | @cons p q ps qs h t ih=>
   obtain⟨h1,h2⟩:=h
   by_cases e:p.1=k
   · have e':q.1=k:=h1.symm.trans e
     have b:valueAt (q::qs) k=some q.2:=by simp[valueAt,List.find?_cons,e']
     rw[K1 e,b];exact h2
   · have e':¬q.1=k:=fun z=>e (h1.trans z)
     have b:valueAt (q::qs) k=valueAt qs k:=by simp[valueAt,List.find?_cons,e']
     rw[HG e,b];exact ih
theorem KV.any {kvs:List (κ×V)}{vs:List (κ×Value)}(r:KV kvs vs) (k:κ):(kvs.any fun kv=>decide (kv.1=k))=vs.any fun kv=>decide (kv.1=k):=by
 unfold KV at r
 induction r with
 | nil=>rfl
 | cons h t ih=>rw[List.any_cons,List.any_cons,ih,h.1]
theorem KV.repl {kvs:List (κ×V)}{vs:List (κ×Value)}(r:KV kvs vs) (k:κ) {y:V}{u:Value}(ry:RelV y u) :
   KV (kvs.map fun kv=>if kv.1=k then (kv.1,y) else kv) (vs.map fun kv=>if kv.1=k then (kv.1,u) else kv):=by
 unfold KV at r ⊢
 induction r with
 | nil=>exact .nil
 | @cons p q ps qs h t ih=>
   rw[zI,zI]
   refine .cons ?_ ih
   obtain⟨h1,h2⟩:=h
   by_cases e:p.1=k
   · rw[if_pos e,if_pos (h1.symm.trans e)];exact⟨h1,ry⟩
   · rw[if_neg e,if_neg (fun z=>e (h1.trans z))];exact⟨h1,h2⟩
theorem KV.put {kvs:List (κ×V)}{vs:List (κ×Value)}(r:KV kvs vs) (k:κ) {y:V}{u:Value}(ry:RelV y u):KV (ER kvs k y) (stored vs k u):=by
 unfold ER stored
 rw[r.any k]
 by_cases e:(vs.any fun kv=>decide (kv.1=k))=true
 · rw[if_pos e,if_pos e];exact r.repl k ry
 · rw[if_neg e,if_neg e];exact Paired.snoc r ⟨rfl,ry⟩
theorem KV.drop {kvs:List (κ×V)}{vs:List (κ×Value)}(r:KV kvs vs) (k:κ):KV (K0 kvs k) (without vs k):=by
 unfold KV at r ⊢
 unfold K0 without
 induction r with
 | nil=>exact .nil
 | @cons p q ps qs h t ih=>
   obtain⟨h1,h2⟩:=h
   rw[List.filter_cons,List.filter_cons]
   by_cases e:p.1=k
   · have a:¬decide (p.1≠k)=true:=by simp[e]
     have b:¬decide (q.1≠k)=true:=by simp[h1.symm.trans e]
     rw[if_neg a,if_neg b];exact ih
   · have e':¬q.1=k:=fun z=>e (h1.trans z)
     have a:decide (p.1≠k)=true:=by simp[e]
     have b:decide (q.1≠k)=true:=by simp[e']
     rw[if_pos a,if_pos b];exact .cons ⟨h1,h2⟩ ih
theorem KV.length {kvs:List (κ×V)}{vs:List (κ×Value)}(r:KV kvs vs):kvs.length=vs.length:=Paired.length r
theorem TC (kvs:List (κ×V)) (k:κ):(K0 kvs k).length≤kvs.length:=yJ _ _
end
theorem J5 {P:Program}{w:World}{k:Key}{u:Value}(r:RelV (kV k) u):(AK P w).is k u=true:=by
 cases k with
 | inl i=>obtain⟨t,e⟩:=(show ∃t,u=Value.int i t from r);subst e;exact T4 P w i t
 | inr x=>obtain⟨t,e⟩:=(show ∃t,u=Value.str x t from r);subst e;exact LV P w x t
theorem Q6 {P:Program}{w:World}:∀{ks:List Key}{us:List Value},Vals (ks.map kV) us→ItemsAre (AK P w) ks us
 | [],_,r=>by rw[List.map_nil] at r;cases r;exact .nil
 | k::ks,_,r=>by
   rw[zI] at r
   cases r with
   | cons h t=>exact .cons (J5 h) (Q6 t)
abbrev KT (H:Hp):List (List Key×V)→List (List Key×Addr×Value)→Prop:=Paired fun p q=>p.1=q.1∧H q.2.1=some (.tup (p.1.map kV))∧RelV p.2 q.2.2
theorem KT.val {H:Hp}{kvs:List (List Key×V)}{xs:List (List Key×Addr×Value)}(r:KT H kvs xs) (k:List Key):RelO (F6 kvs k) ((atKey xs k).map (·.2)):=by
 induction r with
 | nil=>exact True.intro
 | @cons p q ps qs h t ih=>
   obtain⟨h1,_,h2⟩:=h
   by_cases e:p.1=k
   · have e':q.1=k:=h1.symm.trans e
     have b:atKey (q::qs) k=some q.2:=by simp[atKey,List.find?_cons,e']
     rw[K1 e,b];exact h2
   · have e':¬q.1=k:=fun z=>e (h1.trans z)
     have b:atKey (q::qs) k=atKey qs k:=by simp[atKey,List.find?_cons,e']
     rw[HG e,b];exact ih
theorem KT.repl {H:Hp}{kvs:List (List Key×V)}{xs:List (List Key×Addr×Value)}(r:KT H kvs xs) (k:List Key) {y:V}{u:Value}(ry:RelV y u) :
   KT H (kvs.map fun kv=>if kv.1=k then (kv.1,y) else kv) (xs.map (putAt k u)):=by
 induction r with
 | nil=>exact .nil
 | @cons p q ps qs h t ih=>
   rw[zI,zI]
   refine .cons ?_ ih
   obtain⟨h1,h2,h3⟩:=h
   unfold putAt
   by_cases e:p.1=k
   · rw[if_pos e,if_pos (h1.symm.trans e)];exact⟨h1,h2,ry⟩
   · rw[if_neg e,if_neg (fun z=>e (h1.trans z))];exact⟨h1,h2,h3⟩
theorem KT.put {H:Hp}{kvs:List (List Key×V)}{xs:List (List Key×Addr×Value)}(r:KT H kvs xs) (k:List Key) {b:Addr}{y:V}{u:Value}(hb:H b=some (.tup (k.map kV))) (ry:RelV y u) :
   KT H (ER kvs k y) (storedH xs k b u):=by
 have e:(kvs.any fun kv=>decide (kv.1=k))=(atKey xs k).isSome:=by
   rw[TB,(r.val k).isSome_eq,Option.isSome_map]
 unfold ER storedH
 rw[e]
 by_cases q:(atKey xs k).isSome=true
 · rw[if_pos q,if_pos q];exact r.repl k ry
 · rw[if_neg q,if_neg q];exact Paired.snoc r ⟨rfl,hb,ry⟩
theorem KT.keeps {H H':Hp}{kvs:List (List Key×V)}{xs:List (List Key×Addr×Value)}(r:KT H kvs xs) (ht:∀b ys,H b=some (.tup ys)→H' b=some (.tup ys)):KT H' kvs xs:=
 Paired.mapP r fun _ _ z=>⟨z.1,ht _ _ z.2.1,z.2.2⟩
section
variable {P:Program}{w:World}{H:Hp}{h:Heap}{a:Addr}
theorem nK {u:HO}(ok:HOk P w H h) (e:Rd H a u):ObjOk P w H h a u:=e.ok ok
theorem LZ {kvs:List (Key×V)}(ok:HOk P w H h) (e:Rd H a (.dK kvs)):kvs.length≤sizeLine∧(a==sysModules)=false∧∃vs,KV kvs vs∧h.DictOf (AK P w) a vs:=
 show ObjOk P w H h a (.dK kvs) from nK ok e
theorem YI {kvs:List (Key×V)}(ok:HOk P w H h) (e:H a=some (.dK kvs)):kvs.length≤sizeLine∧(a==sysModules)=false∧∃vs,KV kvs vs∧h.DictOf (AK P w) a vs:=LZ ok (.inl e)
theorem NF {ks:List Key}(ok:HOk P w H h) (e:H a=some (.tup (ks.map kV))):(tupleKind (AK P w)).is h ks a:=by
 obtain⟨_,its,r,o,h1,h2,n,h3⟩:=(show ObjOk P w H h a (.tup (ks.map kV)) from ok a _ e)
 exact⟨o,its.toArray,n,h1,h2,h3,by simpa using Q6 r⟩
theorem Q7 {kvs:List (List Key×V)}(ok:HOk P w H h) (e:Rd H a (.dT kvs)):kvs.length≤sizeLine∧(a==sysModules)=false ∧
   ∃xs,KT H kvs xs∧h.DictOfH (tupleKind (AK P w)) a xs:=by
 obtain⟨z,y,xs,r,o,es,ep,h1,h2,h3,h4,h5⟩:=(show ObjOk P w H h a (.dT kvs) from nK ok e)
 refine⟨z,y,xs,r,o,es,ep,h1,h2,h3,h4,fun x hx=>?_,h5⟩
 have all:∀{l:List (List Key×V)}{m:List (List Key×Addr×Value)},KT H l m→∀x∈m,(tupleKind (AK P w)).is h x.1 x.2.1:=by
   intro l m q
   induction q with
   | nil=>intro x hx;exact nomatch hx
   | @cons p q ps qs hq t ih=>
     intro x hx
     rcases yX.mp hx with e | hx
     · subst e
       exact NF ok (by rw[← hq.1];exact hq.2.1)
     · exact ih x hx
 exact all r x hx
theorem tI {kvs:List (List Key×V)}(ok:HOk P w H h) (e:H a=some (.dT kvs)):kvs.length≤sizeLine∧(a==sysModules)=false ∧
   ∃xs,KT H kvs xs∧h.DictOfH (tupleKind (AK P w)) a xs:=Q7 ok (.inl e)
end
def WA (H:Hp) (a:Addr) (y:V) (r:Option V):Prop:=
 (∃kvs k,Rd H a (.dK kvs)∧y=kV k∧r=F6 kvs k)∨∃kvs k b,Rd H a (.dT kvs)∧y = .ref b∧H b=some (.tup (k.map kV))∧r=F6 kvs k
def tJ (H:Hp) (a:Addr) (y v:V) (H':Hp):Prop:=
 (∃kvs k,H a=some (.dK kvs)∧y=kV k∧kvs.length < sizeLine∧H'=upd H a (.dK (ER kvs k v))) ∨
 ∃kvs k b,H a=some (.dT kvs)∧y = .ref b∧H b=some (.tup (k.map kV))∧kvs.length < sizeLine∧H'=upd H a (.dT (ER kvs k v))
section
variable {X:Cx}{pins:List (Addr×Obj)}{σ:St}{H:Hp}{s:Shared}{a:Addr}{y v:V}{u r:Value}{o:Option V}{A:Around}{E:Value→Shared→Prop}
theorem Inv.big (I:Inv X pins σ H s):sysModules < s.heap.objs.size:=by
 have h:mainGlobals < s.heap.objs.size:=(I.mod.glob.keeps I.bk).lt
 exact xR (by decide) h
theorem a8 {Q:Value→Shared→Prop}(hu:A.units+1 < cLine) (I:Inv X pins σ H s) (g:WA H a y (some v)) (ry:RelV y u) (h:∀w' s',Inv X pins σ H s'→RelV v w'→Q w' s') :
   wpAny (model X.prog X.w) A (getItem (.ref a) u) Q E s:=by
 rcases g with ⟨kvs,k,e,ey,l⟩ | ⟨kvs,k,b,e,ey,eb,l⟩
 · subst ey
   obtain⟨z,hd,vs,rel,dd⟩:=LZ I.hok e
   obtain⟨w',hw,rw'⟩:=RelO.some_of (v:=v) (o:=valueAt vs k) (by rw[l];exact rel.val k)
   exact wpAny_getItem_of (J5 ry) dd.mapOf hw (h w' _ (I.tok _) rw')
 · subst ey
   cases (show u=Value.ref b from ry)
   obtain⟨z,hd,xs,rel,dd⟩:=Q7 I.hok e
   obtain⟨w',hw,rw'⟩:=RelO.some_of (v:=v) (o:=(atKey xs k).map (·.2)) (by rw[l];exact rel.val k)
   obtain⟨p,hp,hp2⟩:=Option.map_eq_some_iff.mp hw
   refine wpAny_getItem_heap (tupleKind_room_in1 hu) (NF I.hok eb) dd hp ?_
   rw[hp2]
   exact h w' _ (I.tok _) rw'
theorem v8 {Q:Value→Shared→Prop}(hu:A.units+1 < cLine) (I:Inv X pins σ H s) (g:WA H a y o) (ry:RelV y u) (h:∀s',Inv X pins σ H s'→Q (.bool o.isSome) s') :
   wpAny (model X.prog X.w) A (compareOp .In u (.ref a)) Q E s:=by
 rcases g with ⟨kvs,k,e,ey,l⟩ | ⟨kvs,k,b,e,ey,eb,l⟩
 · subst ey
   obtain⟨z,hd,vs,rel,dd⟩:=LZ I.hok e
   refine wpAny_in_of (J5 ry) hd dd.mapOf ?_
   rw[← (rel.val k).isSome_eq,← l]
   exact h _ (I.tok _)
 · subst ey
   cases (show u=Value.ref b from ry)
   obtain⟨z,hd,xs,rel,dd⟩:=Q7 I.hok e
   refine wpAny_in_heap (tupleKind_room_in1 hu) (NF I.hok eb) hd dd ?_
   have q:=(rel.val k).isSome_eq
   rw[Option.isSome_map] at q
   rw[← q,← l]
   exact h _ (I.tok _)
theorem K2 {h':Heap}{t':Nat}{ob:HO}(I:Inv X pins σ H s) (mu:Mut (H a)) (hs:Heap.SameBut a s.heap h') (he:∃q,h'.get? a=some q) (new:ObjOk X.prog X.w (upd H a ob) h' a ob) :
   Inv X pins σ (upd H a ob) { s with heap:=h',toks:=t' }:=
 I.write (x:=a) (e:=a) mu (.inl rfl) (fun b q hb z=>(hs.2 b hb).trans z) he new
theorem NG {P:Program}{w:World}{H':Hp}{h':Heap}{kvs:List (Key×V)}{vs:List (Key×Value)}(z:kvs.length≤sizeLine) (hd:(a==sysModules)=false) (rel:KV kvs vs) (dd:h'.DictOf (AK P w) a vs) :
   ObjOk P w H' h' a (.dK kvs):=⟨z,hd,vs,rel,dd⟩
theorem a9 {H':Hp}{Q:Unit→Shared→Prop}(hu:A.units+1 < cLine) (I:Inv X pins σ H s) (g:tJ H a y v H') (ry:RelV y u) (rv:RelV v r) (h:∀s',Inv X pins σ H' s'→Q () s') :
   wpAny (model X.prog X.w) A (setItem (.ref a) u r) Q E s:=by
 rcases g with ⟨kvs,k,e,ey,l,eH⟩ | ⟨kvs,k,b,e,ey,eb,l,eH⟩
 · subst ey eH
   obtain⟨z,hd,vs,rel,dd⟩:=YI I.hok e
   have hz:vs.length≤sizeLine:=by rw[← rel.length];exact z
   have hl:(ER kvs k v).length≤sizeLine:=by have:=F9 kvs k v;omega
   refine wpAny_setItem_pairs (hsz:=hz) (J5 ry) dd fun h' dd' hs=>h _ ?_
   have he:∃q,h'.get? a=some q:=let ⟨q,_,_,hq,_⟩:=dd';⟨q,hq⟩
   exact K2 I (by rw[e];exact True.intro) hs he (NG hl hd (rel.put k rv) dd')
 · subst ey eH
   cases (show u=Value.ref b from ry)
   obtain⟨z,hd,xs,rel,dd⟩:=tI I.hok e
   have hz:xs.length≤sizeLine:=by rw[← Paired.length rel];exact z
   have hl:(ER kvs k v).length≤sizeLine:=by have:=F9 kvs k v;omega
   refine wpAny_setItem_heap (hsz:=hz) (tupleKind_room_in1 hu) (NF I.hok eb) dd fun h' dd' hs=>h _ ?_
   obtain⟨q,es,ep,hq,h2,h3,h4,_,h5⟩:=dd'
   refine K2 I (by rw[e];exact True.intro) hs ⟨q,hq⟩ ⟨hl,hd,_,(rel.put k eb rv).keeps fun c ys ec=>?_,q,es,ep,hq,h2,h3,h4,h5⟩
   rw[AH (sQ ec e (fun z=>nomatch z))]
   exact ec
end
section
variable {X:Cx}{pins:List (Addr×Obj)}{σ:St}{H:Hp}{s:Shared}{a:Addr}{kvs:List (Key×V)}{k:Key}{u:Value}{A:Around}{E:Value→Shared→Prop}
theorem aA {Q:Unit→Shared→Prop}(I:Inv X pins σ H s) (e:H a=some (.dK kvs)) (ry:RelV (kV k) u) (l:(F6 kvs k).isSome=true) (h:∀s',Inv X pins σ (upd H a (.dK (K0 kvs k))) s'→Q () s') :
   wpAny (model X.prog X.w) A (delItem (.ref a) u) Q E s:=by
 obtain⟨z,hd,vs,rel,dd⟩:=YI I.hok e
 refine wpAny_delItem_slot dd.typeIs (by decide) PySem.F.slot_dict_delitem
   (call_meetsIn PySem.F.slot_dict_delitem dd.typeIs PySem.F.entry_dict_delitem (PySem.F.args_dict_delitem_2 _ _) (meets_dict_delitem_pairs (AK X.prog X.w) a (J5 ry)) ⟨vs,dd,by rw[← rel.length];exact z,by rw[← (rel.val k).isSome_eq];exact l,fun h' dd' hs=>h _ ?_⟩)
 have he:∃q,h'.get? a=some q:=let ⟨q,_,_,hq,_⟩:=dd';⟨q,hq⟩
 exact K2 I (by rw[e];exact True.intro) hs he (NG (zN (TC kvs k) z) hd (rel.drop k) dd')
theorem tK {v:V}{more:List Value}{Q:Value→Shared→Prop}(I:Inv X pins σ H s) (e:H a=some (.dK kvs)) (ry:RelV (kV k) u) (l:F6 kvs k=some v) (hm:more=[]∨∃x,more=[x])
   (h:∀w' s',Inv X pins σ (upd H a (.dK (K0 kvs k))) s'→RelV v w'→Q w' s'):wpAny (model X.prog X.w) A (call (.builtin "dict.pop") (.ref a::u::more)) Q E s:=by
 obtain⟨z,hd,vs,rel,dd⟩:=YI I.hok e
 obtain⟨w',hw,rw'⟩:=RelO.some_of (v:=v) (o:=valueAt vs k) (by rw[← l];exact rel.val k)
 have hp:(keyPart u).isSome=true:=by
   cases k with
   | inl i=>obtain⟨t,q⟩:=(show ∃t,u=Value.int i t from ry);subst q;rfl
   | inr x=>obtain⟨t,q⟩:=(show ∃t,u=Value.str x t from ry);subst q;rfl
 have ha:argsOk "dict.pop" ⟨.ref a::u::more,[]⟩:=by
   rcases hm with q | ⟨x,q⟩
   · subst q;exact PySem.F.args_dict_pop_2 _ _
   · subst q;exact PySem.F.args_dict_pop_3 _ _ _
 refine call_meetsIn PySem.F.slot_dict_pop dd.typeIs PySem.F.entry_dict_pop ha (meets_dict_pop_there (AK X.prog X.w) a (J5 ry) more hm hp)
   ⟨vs,w',dd,by rw[← rel.length];exact z,hw,fun h' dd' hs=>h w' _ ?_ rw'⟩
 have he:∃q,h'.get? a=some q:=let ⟨q,_,_,hq,_⟩:=dd';⟨q,hq⟩
 exact K2 I (by rw[e];exact True.intro) hs he (NG (zN (TC kvs k) z) hd (rel.drop k) dd')
end
def tL (i:Expr):Prop:=∀ov iv,subscripted i false ov iv=operate [ov,iv] (getItem ov iv)
theorem jP {prog:Program}{w:World}{A:Around}{E:Value→Shared→Prop}{s:Shared}{env:Env}{value slice:Expr}{pos:Pos}{T id:String}{Q:Value→Shared→Prop}
   (hl:typeLookup (.type T) "__getitem__"=pure (some (.builtin id))) (hs:tL slice)
   (h:wpAny (model prog w) A (eval value env) (fun o s₁=>wpAny (model prog w) A (eval slice env) (fun i s₂=>s₂.TypeIs o T∧wpAny (model prog w) A (getItem o i) Q E s₂) E s₁) E s) :
   wpAny (model prog w) A (eval (.Subscript value slice pos) env) Q E s:=by
 refine Subscript_ (wpAny_mono h (fun o s₁ h₁=>wpAny_mono h₁ (fun i s₂ h₂=>?_) fun _ _ x=>x) fun _ _ x=>x)
 obtain⟨hT,h₂⟩:=h₂
 unfold subscriptTail
 refine zZ ?_
 rw[getitemInPython_of_ne hT.not_modules]
 refine zZ (wpAny_specialOf hT hl ?_)
 have fin:wpAny (model prog w) A (subscripted slice false o i) (fun r s₃=>wpAny (model prog w) A (letTemporaryGo value o r >>= fun _=>pure r) Q E s₃) E s₂:=by
   rw[hs o i]
   exact wpAny_operating (wpAny_mono h₂ (fun r s₃ h₃=>zZ (wpAny_letTemporaryGo (zY h₃))) fun _ _ x=>x)
 first
   | exact zY (zZ fin)
   | exact zZ (zY (zZ fin))
   | exact zZ fin
theorem TD {X:Cx}{pins:List (Addr×Obj)}{σ:St}{H:Hp}{s:Shared}{a:Addr}{y:V}{o:Option V}(I:Inv X pins σ H s) (g:WA H a y o):s.TypeIs (.ref a) "dict" := by
 rcases g with ⟨kvs,k,e,_,_⟩ | ⟨kvs,k,b,e,_,_,_⟩
 · obtain⟨_,_,vs,_,dd⟩:=LZ I.hok e
   exact dd.typeIs
 · obtain⟨_,_,xs,_,dd⟩:=Q7 I.hok e
   exact dd.typeIs
def nL (td ty:TE):TE:=fun σ H Q=>td σ H fun x H1=>ty σ H1 fun y H2=>∃a v,x = .ref a∧WA H2 a y (some v)∧Q v H2
def tM (ty td:TE):TE:=fun σ H Q=>ty σ H fun y H1=>td σ H1 fun x H2=>∃a o,x = .ref a∧WA H2 a y o∧Q (.bl o.isSome) H2
def nM (td ty tv:TE):TS:=fun D σ H=>tv σ H fun v H1=>td σ H1 fun x H2=>ty σ H2 fun y H3=>∃a H4,x = .ref a∧tJ H3 a y v H4∧D.nx σ H4
def nN (td ty:TE):TS:=fun D σ H=>td σ H fun x H1=>ty σ H1 fun y H2=>∃a kvs k,x = .ref a∧H2 a=some (.dK kvs)∧y=kV k∧(F6 kvs k).isSome=true∧D.nx σ (upd H2 a (.dK (K0 kvs k)))
section
variable {X:Cx}{o i e value:Expr}{pos pos' tpos:Pos}{td ty tv:TE}
theorem IM (hu:X.A.units+1 < cLine) (ho:PE X o td) (hi:PE X i ty) (hs:tL i):PE X (.Subscript o i pos) (nL td ty):=by
 intro pins s σ H Q I h
 refine jP PySem.F.slot_dict_getitem.lookup hs (thn (ho pins s σ H _ I h) fun u s1 ⟨x,H1,I1,rx,q1⟩=>thn (hi pins s1 σ H1 _ I1 q1) fun iv s2 ⟨y,H2,I2,ry,a,v,ex,g,q2⟩=>?_)
 subst ex
 obtain rfl:u=Value.ref a:=rx
 exact⟨TD I2 g,a8 hu I2 g ry fun w' s3 I3 rw'=>⟨v,H2,I3,rw',q2⟩⟩
theorem pV (hu:X.A.units+1 < cLine) (hi:PE X i ty) (ho:PE X o td):PC X .In i o (tM ty td):=by
 intro pins s σ H Q I h
 refine thn (hi pins s σ H _ I h) fun iv s1 ⟨y,H1,I1,ry,q1⟩=>thn (ho pins s1 σ H1 _ I1 q1) fun u s2 ⟨x,H2,I2,rx,a,ov,ex,g,q2⟩=>?_
 subst ex
 obtain rfl:u=Value.ref a:=rx
 exact v8 hu I2 g ry fun s3 I3=>⟨.bl ov.isSome,H2,I3,rfl,q2⟩
theorem YJ (hu:X.A.units+1 < cLine) (ho:PE X o td) (hi:PE X i ty) (hv:PE X value tv) (hs:swapsWith value (some (.Subscript o i pos')) pos.line X.env=pure false) :
   PS X (.Assign [.Subscript o i pos'] value pos) (nM td ty tv):=by
 intro pins s σ H D I h
 refine wpAny_Assign_Subscript (thn (hv pins s σ H _ I h) fun r s1 ⟨v,H1,I1,rv,q1⟩=>thn (ho pins s1 σ H1 _ I1 q1) fun u s2 ⟨x,H2,I2,rx,q2⟩=>thn (hi pins s2 σ H2 _ I2 q2) fun iv s3 ⟨y,H3,I3,ry,a,H4,ex,g,q3⟩=>?_) hs
 subst ex
 obtain rfl:u=Value.ref a:=rx
 exact a9 hu I3 g ry rv fun s4 I4=>⟨σ,H4,I4,q3⟩
theorem jQ (ho:PE X o td) (hi:PE X i ty):PS X (.Delete [.Subscript o i tpos] pos) (nN td ty):=by
 intro pins s σ H D I h
 refine wpAny_Delete (wpAny_deleteEach_cons (wpAny_delete_Subscript (thn (ho pins s σ H _ I h) fun u s1 ⟨x,H1,I1,rx,q1⟩=>thn (hi pins s1 σ H1 _ I1 q1) fun iv s2 ⟨y,H2,I2,ry,a,kvs,k,ex,e,ey,l,q2⟩=>?_)))
 subst ex ey
 obtain rfl:u=Value.ref a:=rx
 exact aA I2 e ry l fun s3 I3=>wpAny_deleteEach_nil ⟨σ,_,I3,q2⟩
end
theorem cY {P:Program}{w:World}{H:Hp}(h:Heap) (hb:sysModules < h.objs.size):ObjOk P w H (h.push { cls:=.type "dict", data:=.dict #[] }) h.objs.size (.dK []):=
 ⟨xU _,beq_eq_false_iff_ne.mpr (Ne.symm (zC hb)),[],.nil,Heap.DictOf.new h⟩
def G6 (kvs more:List (Key×V)):List (Key×V):=more.foldl (fun acc kv=>ER acc kv.1 kv.2) kvs
theorem KV.merge:∀{more:List (Key×V)}{rs:List (Key×Value)}{kvs:List (Key×V)}{vs:List (Key×Value)},KV more rs→KV kvs vs→KV (G6 kvs more) (merged vs rs):=by
 intro more rs kvs vs r
 unfold KV at r
 induction r generalizing kvs vs with
 | nil=>intro q;exact q
 | @cons p q ps qs h t ih=>
   intro r0
   have e:KV (ER kvs p.1 p.2) (stored vs q.1 q.2):=by
     have:=r0.put p.1 h.2
     rw[← h.1];exact this
   exact ih e
theorem J6:∀(more kvs:List (Key×V)),(G6 kvs more).length≤kvs.length+more.length
 | [],kvs=>by show kvs.length≤kvs.length+0;omega
 | p::r,kvs=>by
   have h1:=J6 r (ER kvs p.1 p.2)
   have h2:=F9 kvs p.1 p.2
   show(G6 (ER kvs p.1 p.2) r).length≤_
   rw[yR];omega
structure M1 (X:Cx) (o:Expr) (m:Str) (apos:Pos) (e:Expr) (cpos:Pos):Prop where
 base:attributeBase o m X.env (eval o X.env)=eval o X.env
 few:((backTo cpos (starEach [e] X.env)).all (fun x=>!x.1)&&(backToKw cpos (keywordEach [] X.env)).all (fun x=>x.1.isSome)
   && decide (([e]:List Expr).length+([]:List Keyword).length+(if ([]:List Keyword).isEmpty then 0 else 1) < 30))=true
 line:(apos.endLine==cpos.line)=true
 trees:backTo cpos (starEach [e] X.env)=[(false,eval e X.env)]
structure M2 (X:Cx) (o:Expr) (m:Str) (apos:Pos) (e f:Expr) (cpos:Pos):Prop where
 base:attributeBase o m X.env (eval o X.env)=eval o X.env
 few:((backTo cpos (starEach [e,f] X.env)).all (fun x=>!x.1)&&(backToKw cpos (keywordEach [] X.env)).all (fun x=>x.1.isSome)
   && decide (([e,f]:List Expr).length+([]:List Keyword).length+(if ([]:List Keyword).isEmpty then 0 else 1) < 30))=true
 line:(apos.endLine==cpos.line)=true
 trees:backTo cpos (starEach [e,f] X.env)=[(false,eval e X.env),(false,eval f X.env)]
def IsD (H:Hp) (a:Addr):Prop:=(∃kvs,Rd H a (.dK kvs))∨∃kvs,Rd H a (.dT kvs)
theorem cZ {X:Cx}{pins:List (Addr×Obj)}{σ:St}{H:Hp}{s:Shared}{a:Addr}(I:Inv X pins σ H s) (d:IsD H a) :
   s.TypeIs (.ref a) "dict" ∧ (∀b,Value.ref a = .ref b→∃ob,s.heap.get? b=some ob∧ob.dict=none)∧(a==sysModules)=false:=by
 rcases d with ⟨kvs,e⟩ | ⟨kvs,e⟩
 · obtain⟨_,hd,vs,_,dd⟩:=LZ I.hok e
   refine⟨dd.typeIs,fun b q=>?_,hd⟩
   cases q
   obtain⟨ob,_,_,h1,h2,_⟩:=dd
   exact⟨ob,h1,h2.2.1⟩
 · obtain⟨_,hd,xs,_,dd⟩:=Q7 I.hok e
   refine⟨dd.typeIs,fun b q=>?_,hd⟩
   cases q
   obtain⟨ob,_,_,h1,h2,_⟩:=dd
   exact⟨ob,h1,h2.2.1⟩
section
variable {X:Cx}{pins:List (Addr×Obj)}{σ:St}{H:Hp}{s:Shared}{a:Addr}{y d:V}{u r:Value}{o:Option V}{A:Around}{E:Value→Shared→Prop}
theorem pW {Q:Value→Shared→Prop}(hu:A.units+1 < cLine) (I:Inv X pins σ H s) (g:WA H a y o) (ry:RelV y u) (rd:RelV d r) (h:∀w' s',Inv X pins σ H s'→RelV (o.getD d) w'→Q w' s') :
   wpAny (model X.prog X.w) A (call (.builtin "dict.get") [.ref a,u,r]) Q E s:=by
 rcases g with ⟨kvs,k,e,ey,l⟩ | ⟨kvs,k,b,e,ey,eb,l⟩
 · subst ey
   obtain⟨z,hd,vs,rel,dd⟩:=LZ I.hok e
   refine call_meetsIn PySem.F.slot_dict_get dd.typeIs PySem.F.entry_dict_get (PySem.F.args_dict_get_3 _ _ _) (meets_dict_get_default (AK X.prog X.w) a (J5 ry) hd r) ⟨_,dd.mapOf,h _ _ (I.tok _) ?_⟩
   rw[l]
   exact(rel.val k).getD rd
 · subst ey
   cases (show u=Value.ref b from ry)
   obtain⟨z,hd,xs,rel,dd⟩:=Q7 I.hok e
   refine call_meetsIn PySem.F.slot_dict_get dd.typeIs PySem.F.entry_dict_get (PySem.F.args_dict_get_3 _ _ _) (meetsH_dict_get_default (tupleKind (AK X.prog X.w)) a b hd r) ⟨tupleKind_room_in1 hu,k,xs,NF I.hok eb,dd,h _ _ (I.tok _) ?_⟩
   rw[l]
   exact(rel.val k).getD rd
end
def dA (td ty tx:TE):TE:=fun σ H Q=>td σ H fun x H1=>∃a,x = .ref a∧IsD H1 a∧ty σ H1 fun y H2=>tx σ H2 fun z H3=>∃o,WA H3 a y o∧Q (o.getD z) H3
def dB (td ty:TE):TE:=fun σ H Q=>td σ H fun x H1=>∃a,x = .ref a∧IsD H1 a∧ty σ H1 fun y H2=>∃kvs k v,H2 a=some (.dK kvs)∧y=kV k∧F6 kvs k=some v∧Q v (upd H2 a (.dK (K0 kvs k)))
section
variable {X:Cx}{o e f:Expr}{apos cpos:Pos}{td ty tx:TE}
theorem dC (hu:X.A.units+1 < cLine) (ho:PE X o td) (he:PE X e ty) (hf:PE X f tx) (m:M2 X o "get" apos e f cpos):PE X (.Call (.Attribute o "get" apos) [e,f] [] cpos) (dA td ty tx):=by
 intro pins s σ H Q I h
 refine wpAny_Call_method m.base m.few m.line PySem.F.plainAttrs_dict PySem.F.slot_dict_get PySem.F.type_dict_get (thn (ho pins s σ H _ I h) fun u s1 ⟨x,H1,I1,rx,a,ex,d,q1⟩=>?_)
 subst ex
 obtain rfl:u=Value.ref a:=rx
 obtain⟨t1,t2,_⟩:=cZ I1 d
 refine⟨t1,t2,?_⟩
 rw[m.trees]
 refine Calls.callWith_builtin rfl (Calls.evalArgs_plain (xQ (thn (he pins s1 σ H1 _ I1 q1) fun iv s2 ⟨y,H2,I2,ry,q2⟩=>
   xQ (thn (hf pins s2 σ H2 _ I2 q2) fun fv s3 ⟨z,H3,I3,rz,ov,g,q3⟩=>Calls.spliced_nil ?_))))
 exact pW hu I3 g ry rz fun w' s4 I4 rw'=>⟨_,H3,I4,rw',q3⟩
theorem dD (ho:PE X o td) (he:PE X e ty) (m:M1 X o "pop" apos e cpos):PE X (.Call (.Attribute o "pop" apos) [e] [] cpos) (dB td ty):=by
 intro pins s σ H Q I h
 refine wpAny_Call_method m.base m.few m.line PySem.F.plainAttrs_dict PySem.F.slot_dict_pop PySem.F.type_dict_pop (thn (ho pins s σ H _ I h) fun u s1 ⟨x,H1,I1,rx,a,ex,d,q1⟩=>?_)
 subst ex
 obtain rfl:u=Value.ref a:=rx
 obtain⟨t1,t2,_⟩:=cZ I1 d
 refine⟨t1,t2,?_⟩
 rw[m.trees]
 refine Calls.callWith_builtin rfl (Calls.evalArgs_plain (xQ (thn (he pins s1 σ H1 _ I1 q1) fun iv s2 ⟨y,H2,I2,ry,kvs,k,v,ea,ey,l,q2⟩=>Calls.spliced_nil ?_)))
 subst ey
 exact tK I2 ea ry l (.inl rfl) fun w' s3 I3 rw'=>⟨v,_,I3,rw',q2⟩
end
end L2
namespace Att
open PySem PySem.W PySem.Calls PyProof.Rows
theorem MP {P:Params}{h:Heap}:∀(ns:List Int) (vs:List Value),WellAll P h vs (ns.map WData.int)→IntsAre vs ns:=by
 intro ns
 induction ns with
 | nil=>
   intro vs w
   rw[List.map_nil] at w
   cases w
   exact .nil
 | cons n ns ih=>
   intro vs w
   rw[zI] at w
   cases w with
   | cons a b=>
     cases a
     exact .cons _ _ (ih _ b)
theorem script_of {l:OpenLaw}{n:Nat}(hn:l.most=some n) {P:Params}{h:Heap}{args:List WData}{vals:List Value}
   (hpre:l.row.toRowW.claim.pre args=true) (hwl:WellAll P h vals args) :
   ∃a vs ns,vals=[Value.ref a]∧args=[WData.list (ns.map WData.int)]∧h.get? a=some { cls:=.type "list", data:=.seq vs.toArray }∧IntsAre vs ns∧ns.length≤n:=by
 have hsh:WShape.hasAll [] args [.list .int]=true:=(pre_splitW hpre).1
 have hc:l.pre.holds [] { args:=args }=true:=(pre_splitW hpre).2
 obtain⟨d,r,rfl,h1,h2⟩:=hasAllW_cons hsh
 obtain rfl:=hasAllW_nil h2
 obtain⟨xs,rfl,h3⟩:=hasW_list h1
 obtain⟨ns,rfl⟩:=items_int h3
 have hlen:ns.length≤n:=by
   unfold OpenLaw.pre at hc
   have h4:(WTm.not (.lt (.lit (.int (n:Int))) (.len (.arg 0)))).holds [] { args:=[.list (ns.map .int)] }=true:=by
     have h4:=(holds_andW hc).1
     rw[hn] at h4
     exact h4
   have h5:=condW_of h4 (w_not (w_lt w_lit (w_len_list (w_arg rfl))))
   rw[zX] at h5
   refine Nat.le_of_not_lt fun q=>?_
   have q':(n:Int) < ((ns.length:Nat):Int):=by omega
   first
     | (rw[decide_eq_true q'] at h5;exact absurd h5 (by decide))
     | (simp at h5;omega)
 cases hwl with
 | cons w1 w2=>
   cases w2
   cases w1 with
   | list ho hall=>exact⟨_,_,ns,rfl,rfl,ho,MP ns _ hall,hlen⟩
theorem post_true (l:OpenLaw) (args:List WData):l.row.toRowW.claim.post args (.bool true) args=true:=
 postW_of (r:=l.row.toRowW) (X:=(true==true))
   (show WShape.has [] (.bool true) .bool=true by first | rfl | decide | simp[WShape.has,WShape.arms,WShape.armsAll])
   (show(WTm.eq .res (.lit (.bool true))).value [] { args:=args,res:=some (.bool true),after:=args }=some (.bool (true==true)) from w_eq_bool (w_res rfl) w_lit) rfl
end Att
namespace L2
open PySem PySem.Spec PyProof.Rows
theorem Q8:∀{vs:List Value}{ns:List Int},IntsAre vs ns→Vals (ns.map V.int) vs
 | _,_,.nil=>.nil
 | _,_,.cons n t h=>.cons ⟨t,rfl⟩ (Q8 h)
def pX (H:Hp):Prop:=∀b,H b=none∨∃o xs,H b=some (.frz o (.lst xs))
theorem dE {P:Program}{w:World}{K:Frg}{mg mb:Str→Option Value}{CX:CXT}{k:Nat}{fa a:Addr}{fd:FuncData}{x:Str}{sp:Sp}{s₁:Shared}{vs:List Value}{ns:List Int}
   (KX:K.In s₁.heap) (hns:s₁.heap.Ns mainGlobals mg) (hb:s₁.heap.Ns builtinsNs mb) (hbb:∀x:Str,x ≠ "__name__" → mb x=bootBuiltins x) (hlim:s₁.heap.NoLimit) (hg:s₁.gens=#[])
   (ha:s₁.heap.get? a=some { cls:=.type "list", data:=.seq vs.toArray }) (hi:IntsAre vs ns) (hl:ns.length≤sizeLine) (hr:Room k callerA)
   (F:∀base:Heap,K.In base→base.Ns mainGlobals mg→FnOk P w K mg base CX k fa fd [x] sp) (hbind:∀(s:Shared) (u:Value),BindsTo s fd ⟨[u],[]⟩ [(x,u)])
   (hsp:∀H:Hp,pX H→SqL K H a (ns.map V.int)→sp [.ref a] H (fun v _=>v = .bl true) fun _ _ _=>False)
   (hCX:∀H e s',CX [] H s₁ (fun _ _ _=>False) e s'→False) :
   codeAny (model P w) callerA (.call (.ref fa) ⟨[.ref a],[]⟩) (fun r s'=>r = .ok (.ret (.bool true))∧OldK s₁.heap s'.heap∧s'.os=s₁.os∧AllBare s'.gens) s₁:=by
 have rv:=Q8 hi
 have lenV:=hi.length
 have core:∀H:Hp,pX H→SqL K H a (ns.map V.int)→HOk P w H s₁.heap→(∀b,H b≠none→b=a)→(H a≠none→K.lookup a=none) →
     codeAny (model P w) callerA (.call (.ref fa) ⟨[.ref a],[]⟩) (fun r s'=>r = .ok (.ret (.bool true))∧OldK s₁.heap s'.heap∧s'.os=s₁.os∧AllBare s'.gens) s₁:=by
   intro H hO hS hok hA hK
   have base_of:∀{b:Addr}{o:Obj},s₁.heap.get? b=some o→H b=none→(RI s₁.heap H).get? b=some o:=fun e n=>cA e n
   have noA:∀{b:Addr}{o:Obj}{es:Array DictEntry}{ep:Nat},s₁.heap.get? b=some o→o.data = .dict es ep→H b=none:=fun {b o es ep} e d=>by
     cases q:H b with
     | none=>rfl
     | some u=>
       have e':b=a:=hA b (by rw[q];simp)
       subst e'
       rw[ha] at e;cases e
       have d':Data.seq vs.toArray _=Data.dict es ep:=d
       cases d'
   have nsK:∀{b:Addr}{m:Str→Option Value},s₁.heap.Ns b m→(RI s₁.heap H).Ns b m:=fun {b m} ⟨o,es,ep,e,d,r⟩=>⟨o,es,ep,base_of e (noA e d),d,r⟩
   have hKb:K.In (RI s₁.heap H):=fun b o e=>base_of (KX b o e) (by
     cases q:H b with
     | none=>rfl
     | some u=>
       have e':b=a:=hA b (by rw[q];simp)
       subst e'
       rw[hK (by rw[q];simp)] at e;cases e)
   have hM:Mod K mg (RI s₁.heap H):=⟨hKb,nsK hns,⟨mb,nsK hb,hbb⟩,let ⟨mc,h1,h2⟩:=hlim;⟨mc,nsK h1,h2⟩⟩
   have e0:Env0 P w K mg (RI s₁.heap H) callerA [] s₁ H:=⟨rfl,hM,fun b o e=>jA e,Nat.le_of_eq (ZQ _ _),trivial,fun b hb=>absurd (show b∈([]:List Addr) from hb) (by simp),hok,.of_eq hg⟩
   refine xP ((F _ hKb (nsK hns)).run callerA [] s₁ H ⟨[.ref a],[]⟩ [.ref a] [.ref a] _ _ hr e0 (hbind s₁ (.ref a)) (.cons rfl .nil) (hsp H hO hS)) fun r s' h=>?_
   cases r with
   | error e=>exact(hCX H e s' h).elim
   | ok fl=>
     cases fl with
     | next=>exact False.elim h
     | brk=>exact False.elim h
     | cont=>exact False.elim h
     | ret u=>
       obtain⟨v,H',os,bare,un,hok',r',q⟩:=h
       have q':v = .bl true:=q
       subst q'
       obtain rfl:u=Value.bool true:=r'
       refine⟨rfl,OldK.of_keep fun b o e=>?_,os,bare⟩
       cases q:H b with
       | none=>exact un.keep b o e q (by intro z;exact absurd (show b∈([]:List Addr) from z) (by simp)) (by simp)
       | some u=>
         rcases hO b with z | ⟨ob,xs,z⟩
         · rw[q] at z;cases z
         · have z2:=un.frzs b ob _ z
           obtain⟨e1,_⟩:=hok b _ z
           obtain⟨e2,_⟩:=hok' b _ z2
           rw[e] at e1;cases e1
           exact e2
 cases hk:K.lookup a with
 | some o=>
   have e:=KX a o hk
   rw[ha] at e
   cases e
   refine core (fun _=>none) (fun _=>.inl rfl) (.inr ⟨_,vs.toArray,_,hk,rfl,rfl,rfl,by rw[zJ,lenV];exact hl,by simpa using rv⟩) (fun b u z=>by have z':(none:Option HO)=some u:=z;cases z') (fun b z=>absurd rfl z) fun z=>absurd rfl z
 | none=>
   refine core (fun b=>if b=a then some (.frz { cls:=.type "list", data:=.seq vs.toArray } (.lst (ns.map V.int))) else none) (fun b=>?_) (.inl (.inr ⟨{ cls:=.type "list", data:=.seq vs.toArray },if_pos rfl⟩)) (fun b u z=>?_) (fun b z=>?_) fun _=>hk
   · by_cases hb:b=a
     · exact .inr ⟨_,_,if_pos hb⟩
     · exact .inl (if_neg hb)
   · by_cases hb:b=a
     · have z':=(if_pos hb).symm.trans z
       cases z'
       subst hb
       exact⟨ha,by rw[zX];exact hl,vs,_,rv,ha⟩
     · have z':=(if_neg hb).symm.trans z
       cases z'
   · by_cases hb:b=a
     · exact hb
     · exact absurd (if_neg hb) z
end L2
namespace L2
open PySem PySem.Spec PyProof.Rows
def CM (s:Stmt):Arguments:=match s with
 | .FunctionDef _ a _ _ _ _ _ _ _ _=>a
 | _=>{ posonlyargs:=[],args:=[],vararg:=none,kwonlyargs:=[],kw_defaults:=[],kwarg:=none,defaults:=[] }
def BF (s:Stmt):List Stmt:=match s with
 | .FunctionDef _ _ b _ _ _ _ _ _ _=>b
 | _=>[]
def AA (s:Stmt):Scope:=match s with
 | .FunctionDef _ _ _ _ _ _ sc _ _ _=>sc
 | _=>{ kind:=.function,names:=[],isGenerator:=false,isCoroutine:=false }
abbrev CX0:CXT:=fun _ _ _ _ _ _=>False
abbrev E0:XK:=fun _ _ _=>False
theorem tN {X:Cx}:W6 CX0 X E0:=fun _ _ _ _ _ _ _ h=>h.elim
structure Fun (K:Frg) (x qual:Str) (st:Stmt) (f:Addr) (fd:FuncData):Prop where
 ex:∃(oc:Value) (od:Option Addr) (kV doc pm:Value) (an:Option Addr) (cdv ct:Value) (osl:Array (Option Value)),
   fd=PySem.W.fnOf x qual (CM st) (BF st) (AA st) .none kV doc pm an cdv ct∧K.lookup f=some ⟨oc,od,.func fd,osl⟩∧PySem.W.codeIn K cdv qual=true
 kp:PySem.W.keepIn K (.ref f)=true
section
variable {P:Program}{w:World}{K:Frg}{mg:Str→Option Value}{base:Heap}
theorem Fun.ok {x qual:Str}{st:Stmt}{f:Addr}{fd:FuncData}{N ps:List Str}{k:Nat}{sp:Sp}(F:Fun K x qual st f fd) (S:FnScope N ps (AA st)) (len:∀vs H Q E,sp vs H Q E→vs.length=ps.length)
   (hbody:∀(cdv:Value) (A:Around) (outer:List Env) (s:Shared) (H:Hp) (vs:List V) (Q:VK) (E:XK),Room k (A.deeper (envOfC qual (AA st) s.heap.objs.size f cdv))→sp vs H Q E →
     ∃t,PSs (F5 CX0 P w K mg base N qual (AA st) f cdv A outer s H E).nox (BF st) t∧t { nx:=fun _ H'=>Q .non H',rt:=Q } (F8 N vs) H):FnOk P w K mg base CX0 (k+1) f fd ps sp:=by
 obtain⟨oc,od,kV,doc,pm,an,cdv,ct,osl,rfl,lk,hcd⟩:=F.ex
 refine nI lk hcd S len fun A outer s H vs Q E hr hsp=>?_
 obtain⟨t,h,q⟩:=hbody cdv A outer s H vs Q E hr hsp
 exact⟨t,h.nox,q⟩
theorem Fun.binds {x qual:Str}{st:Stmt}{f:Addr}{fd:FuncData}{ps:List Str}(F:Fun K x qual st f fd)
   (h:∀(kV doc pm:Value) (an:Option Addr) (cdv ct:Value) (us:List Value),us.length=ps.length→bindArgs (PySem.W.fnOf x qual (CM st) (BF st) (AA st) .none kV doc pm an cdv ct) ⟨us,[]⟩=pure (ps.zip us)):Binds K fd ps []:=by
 obtain⟨oc,od,kV,doc,pm,an,cdv,ct,osl,rfl,lk,hcd⟩:=F.ex
 exact .all (h kV doc pm an cdv ct)
theorem WB {x qual:Str}{st:Stmt}{f:Addr}{oc:Value}{od an:Option Addr}{osl:Array (Option Value)}{kV doc pm cdv ct:Value}(l:K.lookup f=some ⟨oc,od,.func (PySem.W.fnOf x qual (CM st) (BF st) (AA st) .none kV doc pm an cdv ct),osl⟩)
   (c:PySem.W.codeIn K cdv qual=true) (k:PySem.W.keepIn K (.ref f)=true):Fun K x qual st f (PySem.W.fnOf x qual (CM st) (BF st) (AA st) .none kV doc pm an cdv ct):=⟨⟨oc,od,kV,doc,pm,an,cdv,ct,osl,rfl,l,c⟩,k⟩
end
section
variable {X:Cx}
theorem pv (i:Nat) {x:Str}{pos:Pos}(hN:X.N[i]?=some x:=by rfl) (hv:Vis X.env.scope x:=by first | exact Or.inl rfl | exact Or.inr (Or.inl rfl) | exact Or.inr (Or.inr rfl)) (hd:(x==("__debug__":Str))=false:=by decide)
   (hcd:(x==("__classdict__":Str))=false:=by decide):PE X (.Name x pos) (ZS i):=cB hN hv hd hcd
end
theorem jR {A B:Prop}(h:B):if false=true then A else B:=by
 rw[if_neg nft]
 exact h
theorem jS {A B:Prop}(h:A):if true=true then A else B:=by
 rw[if_pos rfl]
 exact h
theorem NH {c A B:Prop}[Decidable c] (h1:c→A) (h2:¬c→B):if c then A else B:=by
 by_cases h:c
 · rw[if_pos h]
   exact h1 h
 · rw[if_neg h]
   exact h2 h
end L2
namespace L2
open PySem PySem.Spec PyProof.Rows
def JK (cells:List (Str×Addr)):List (Str×NameKind)→List (Str×Addr)→List (Str×Addr)
 | [],cs=>cs
 | (n,k)::r,cs=>JK cells r (if k==.free then (match cells.lookup n with | some c=>(n,c)::cs | none=>cs) else cs)
theorem RR (env:Env):∀(names:List (Str×NameKind)) (cs:List (Str×Addr)),(∀y∈names,y.2 = .free→∃c,env.cells.lookup y.1=some c) →
   (forIn (m:=Sem) names cs fun x r=>do
     let (name,kind):=x
     if (kind==.free)=true then do let c ← cellOf env name;pure (ForInStep.yield ((name,c)::r)) else pure (ForInStep.yield r))=pure (JK env.cells names cs)
 | [],cs,_=>rfl
 | (n,k)::r,cs,h=>by
   have hr:∀y∈r,y.2 = .free→∃c,env.cells.lookup y.1=some c:=fun y hy=>h y (yV _ hy)
   rw[List.forIn_cons]
   by_cases hk:(k==NameKind.free)=true
   · obtain⟨c,hc⟩:=h (n,k) List.mem_cons_self (by simpa using hk)
     have hc':env.cells.lookup n=some c:=hc
     simp only[hk,if_true,cellOf,hc',JK]
     exact RR env r _ hr
   · simp only[hk,if_false,JK]
     exact RR env r _ hr
theorem YK {scope:Scope}{env:Env}(h:∀y∈scope.names,y.2 = .free→∃c,env.cells.lookup y.1=some c):closureFor scope env=pure (JK env.cells scope.names []):=by
 have e:=RR env scope.names [] h
 have e2:closureFor scope env=((forIn (m:=Sem) scope.names ([]:List (Str×Addr)) fun x r=>do
     let (name,kind):=x
     if (kind==.free)=true then do let c ← cellOf env name;pure (ForInStep.yield ((name,c)::r)) else pure (ForInStep.yield r)) >>= fun r=>pure r):=rfl
 rw[e2,e]
 rfl
theorem TF {cells:List (Str×Addr)}:∀{names:List (Str×NameKind)}{cs:List (Str×Addr)},(∀p∈cs,cells.lookup p.1=some p.2)→∀p∈JK cells names cs,cells.lookup p.1=some p.2
 | [],_,h=>h
 | (n,k)::r,cs,h=>by
   refine TF (names:=r) ?_
   split
   · cases e:cells.lookup n with
     | none=>exact h
     | some c=>
       intro p hp
       rcases yX.mp hp with rfl | hp
       · exact e
       · exact h p hp
   · exact h
theorem Q9 {cells:List (Str×Addr)}:∀{names:List (Str×NameKind)}{cs:List (Str×Addr)}{p:Str×Addr},p∈cs→p∈JK cells names cs
 | [],_,_,h=>h
 | (n,k)::r,cs,p,h=>by
   refine Q9 (names:=r) ?_
   split
   · cases e:cells.lookup n with
     | none=>exact h
     | some c=>exact yV _ h
   · exact h
theorem TH {cells:List (Str×Addr)}{x:Str}{c:Addr}(hc:cells.lookup x=some c):∀{names:List (Str×NameKind)}{cs:List (Str×Addr)},(x,NameKind.free)∈names→(x,c)∈JK cells names cs
 | [],_,h=>absurd h (by simp)
 | (n,k)::r,cs,h=>by
   rcases yX.mp h with e | h
   · cases e
     refine Q9 (names:=r) ?_
     simp[hc]
   · exact TH hc (names:=r) h
theorem NI {α:Type}:∀{l:List (Str×α)}{x:Str}{c:α},(x,c)∈l→∃c',l.lookup x=some c'
 | [],_,_,h=>absurd h (by simp)
 | (n,k)::r,x,c,h=>by
   rw[List.lookup_cons]
   cases e:x==n with
   | true=>exact⟨k,rfl⟩
   | false=>
     rcases yX.mp h with e' | h
     · cases e';simp at e
     · exact NI h
theorem BH {cells:List (Str×Addr)}{names:List (Str×NameKind)}{x:Str}{c:Addr}(h:(JK cells names []).lookup x=some c):cells.lookup x=some c:=
 TF (names:=names) (cs:=[]) (by simp) (x,c) (PySem.mem_of_lookup h)
structure CSc (X:Cx) (scope:Scope) (NC:List Str) (fr:List (Option Nat)):Prop where
 kind:scope.kind = .function
 nocell:∀y∈scope.names,y.2≠.cell
 names:∀y∈scope.names,y.2 = .local→scope.names.lookup y.1=some .local
 free:∀y∈scope.names,y.2 = .free→X.env.kindOf y.1=some .cell∨X.env.kindOf y.1=some .free
 len:fr.length=NC.length
 slot:∀(i j:Nat) (x:Str),NC[i]?=some x→fr[i]?=some (some j)→X.N[j]?=some x∧scope.names.lookup x=some .free∧Vis X.env.scope x∧X.env.kindOf x≠some .local
def capt (fr:List (Option Nat)) (σ:St):St:=fr.map fun o=>o.bind fun j=>(σ[j]?).join
def BA (X:Cx) (scope:Scope) (NC:List Str) (C:Addr) (s:Shared) (H:Hp) (ex:List Addr) (pn:List (Addr×Obj)):Cx where
 prog:=X.prog
 w:=X.w
 K:=X.K
 mg:=X.mg
 base:=X.base
 A:=X.A
 N:=NC
 s₀:=s
 H₀:=H
 env:=compEnvC scope (JK X.env.cells scope.names []) C X.env
 outer:=X.stack
 stack:=X.stack
 ex:=ex
 fn:=fun _=>false
 calm:=X.calm
 pn:=pn
 xe:=fun _ _=>False
theorem J7 {scope:Scope}{env:Env}{x:Str}:∀{names:List (Str×NameKind)},
   ((names.map fun(n,k)=>if (k==NameKind.free&&env.scope.kind==.function&&env.kindOf n==some .cell) then (n,NameKind.cell) else (n,k)).lookup x=some .cell ∨
    (names.map fun(n,k)=>if (k==NameKind.free&&env.scope.kind==.function&&env.kindOf n==some .cell) then (n,NameKind.cell) else (n,k)).lookup x=some .free) →
   (∀y∈names,y.2≠.cell)→(x,NameKind.free)∈names
 | [],h,_=>by simp at h
 | (n,k)::r,h,hn=>by
   have ih:=@J7 scope env x r
   have hn':∀y∈r,y.2≠.cell:=fun y hy=>hn y (yV _ hy)
   have hk:=hn (n,k) List.mem_cons_self
   simp only[zI] at h
   by_cases hc:(k==NameKind.free&&env.scope.kind==.function&&env.kindOf n==some .cell)=true
   · simp only[hc,if_true,List.lookup_cons] at h
     cases hx:x==n with
     | true=>
       have e:x=n:=by simpa using hx
       have e2:k = .free:=by simp at hc;exact hc.1.1
       subst e e2
       exact List.mem_cons_self
     | false=>
       simp only[hx] at h
       exact yV _ (ih h hn')
   · simp only[hc,List.lookup_cons] at h
     cases hx:x==n with
     | true=>
       have e:x=n:=by simpa using hx
       subst e
       simp[List.lookup_cons] at h
       rcases h with h | h
       · exact absurd h hk
       · subst h;exact List.mem_cons_self
     | false=>
       simp[List.lookup_cons,hx] at h
       exact yV _ (ih (by simpa using h) hn')
section
variable {X:Cx}{scope:Scope}{NC:List Str}{fr:List (Option Nat)}{pins:List (Addr×Obj)}{σ:St}{H:Hp}{s:Shared}
theorem CSc.has (S:CSc X scope NC fr) (ok:X.Ok):∀y∈scope.names,y.2 = .free→∃c,X.env.cells.lookup y.1=some c:=fun y hy hf=>ok.has y.1 (S.free y hy hf)
theorem CSc.cells (S:CSc X scope NC fr) (ok:X.Ok) {x:Str}(h:(x,NameKind.free)∈scope.names):∃c,(JK X.env.cells scope.names []).lookup x=some c∧X.env.cells.lookup x=some c:=by
 obtain⟨c,hc⟩:=S.has ok _ h rfl
 have hc':X.env.cells.lookup x=some c:=hc
 obtain⟨c',h'⟩:=NI (TH hc' h (cs:=[]))
 have:=BH h'
 rw[hc'] at this;cases this
 exact⟨_,h',hc'⟩
theorem RS {env:Env}{x:Str}{scope:Scope}(hn:∀y∈scope.names,y.2 = .local→scope.names.lookup y.1=some .local) (h:(x,NameKind.free)∈scope.names) (hl:scope.names.lookup x≠some .free→False):(relabel scope env).names.lookup x=some .cell∨(relabel scope env).names.lookup x=some .free:=by
 have hf:scope.names.lookup x=some .free:=by
   cases e:scope.names.lookup x with
   | none=>exact(hl (by rw[e];intro z;cases z)).elim
   | some k=>
     cases k <;> first
       | rfl
       | exact(hl (by rw[e];intro z;cases z)).elim
 have go:∀(names:List (Str×NameKind)),names.lookup x=some .free →
   ((names.map fun(n,k)=>if (k==NameKind.free&&env.scope.kind==.function&&env.kindOf n==some .cell) then (n,NameKind.cell) else (n,k)).lookup x=some .cell ∨
    (names.map fun(n,k)=>if (k==NameKind.free&&env.scope.kind==.function&&env.kindOf n==some .cell) then (n,NameKind.cell) else (n,k)).lookup x=some .free):=by
   intro names
   induction names with
   | nil=>intro h;simp at h
   | cons y r ih=>
     obtain⟨n,k⟩:=y
     intro h
     rw[List.lookup_cons] at h
     simp only[zI]
     cases hx:x==n with
     | true=>
       simp only[hx] at h
       cases h
       split
       · left;simp[List.lookup_cons,hx]
       · right;simp[List.lookup_cons,hx]
     | false=>
       simp only[hx] at h
       have:=ih h
       split
       · simpa [List.lookup_cons,hx] using this
       · simpa [List.lookup_cons,hx] using this
 exact go scope.names hf
end
end L2
namespace L2
open PySem PySem.Spec PyProof.Rows
theorem AY {α:Type}{t:Sem α}{Q:α→Shared→Prop}{M:Model}{A:Around}{E:Value→Shared→Prop}{s:Shared}(h:wpAny M A t Q (fun _ _=>False) s):wpAny M A t Q E s:=
 wpAny_mono h (fun _ _ q=>q) fun _ _ f=>f.elim
def JL (ifs:List Expr) (env:Env):Sem Bool:=forIn ifs true fun c r=>if r=true then do let ok ← isTrue c env (eval c env);pure (ForInStep.yield ok) else pure (ForInStep.yield r)
theorem IY {prog:Program}{w:World}{A:Around}{R:Result→Shared→Prop}{s:Shared}{elt target iter:Expr}{ifs:List Expr}{scope:Scope}{pos:Pos}{it acc:Value}{env:Env}(I:Nat→Shared→Prop)
   (turn:∀n s,I n s→wpAny (model prog w) A (pyNext it) (fun r s₁=>match r with
     | none=>R (.ok .next) s₁
     | some v=>wpAny (model prog w) A (letOwnedTupleGo target it v) (fun _ s₀=>wpAny (model prog w) A (assign target env v) (fun _ s₂=>
         wpAny (model prog w) A (JL ifs env) (fun ok s₃=>
           if ok=true then wpAny (model prog w) A (eval elt env) (fun x s₄=>
             wpAny (model prog w) A (call (.builtin "list.append") [acc,x]) (fun _ s₅=>∃m,m < n∧I m s₅) (fun _ _=>False) s₄) (fun _ _=>False) s₃
           else ∃m,m < n∧I m s₃) (fun _ _=>False) s₂) (fun _ _=>False) s₀) (fun _ _=>False) s₁) (fun _ _=>False) s)
   (n:Nat) (h:I n s) :
   codeAny (model prog w) A (.compLoop (.ListComp elt [⟨target,iter,ifs,0⟩] scope pos) 0 it acc env) R s:=by
 refine codeAny_loop rfl I (fun n s hI=>?_) n h
 show wpAny _ A ((compTurn (.ListComp elt [⟨target,iter,ifs,0⟩] scope pos) 0 it acc env).onRaise (fun x=>do noteFrame x env;theTreesLotGoes x)) _ _ s
 refine wpAny_noted ?_
 rw[compTurn_list]
 refine zZ (wpAny_standAt (zZ (wpAny_mono (AY (turn n s hI)) (fun r s₁ h₁=>?_) fun _ _ h'=>h')))
 cases r with
 | none=>exact zY h₁
 | some v=>
   refine zZ (wpAny_mono (AY h₁) (fun _ s₀ h₀=>?_) fun _ _ h'=>h')
   refine zZ (wpAny_mono (AY h₀) (fun _ s₂ h₂=>zZ (wpAny_mono (AY h₂) (fun ok s₃ h₃=>?_) fun _ _ h'=>h')) fun _ _ h'=>h')
   cases ok with
   | false=>exact zY ⟨rfl,h₃⟩
   | true=>
     exact zZ (zZ (wpAny_mono (AY h₃) (fun x s₄ h₄=>zZ (wpAny_mono (AY h₄) (fun _ s₅ h₅=>zY (zY ⟨rfl,h₅⟩)) fun _ _ h'=>h')) fun _ _ h'=>h'))
def PTs (X:Cx) (ifs:List Expr) (t:TT):Prop:=
 ∀(pins:List (Addr×Obj)) (s:Shared) (σ:St) (H:Hp) (Q:Bool→Hp→Prop),Inv X pins σ H s→t σ H Q→wpAny (model X.prog X.w) X.A (JL ifs X.env) (TP X pins σ Q) X.xe s
def tP:TT:=fun _ H Q=>Q true H
theorem jT {X:Cx}:PTs X [] tP:=fun _ _ _ H _ I h=>wpAny_tests_nil ⟨H,I,h⟩
theorem jU {X:Cx}{c:Expr}{t:TT}(h:PT X c t):PTs X [c] t:=fun pins s σ H Q I q=>wpAny_tests_one (h pins s σ H Q I q)
def QA (fr:List (Option Nat)) (wi:TI) (g:TG) (tt:TT) (te:TE):TE:=fun σ H Q=>wi σ H fun J H1=>∀D,H1 D=none→∃W:Nat→Nat→List V→Hp→Prop,(∃m,W 0 m [] (upd H1 D (.lst []))) ∧
 ∀i m ys H2,W i m ys H2→H2 D=some (.lst ys)∧((J.stop i H2∧Q (.ref D) H2)∨(J.go i H2∧∀x H3,J.yld i H2 x H3→g x (capt fr σ) H3 fun σ2 H4=>
   (∀(i:Nat) v,(capt fr σ)[i]?=some (some v)→σ2[i]?=some (some v))∧tt σ2 H4 fun c H5=>if c=true then te σ2 H5 fun y H6=>∃ys',H6 D=some (.lst ys')∧ys'.length < sizeLine∧∃m',m' < m∧W (i+1) m' (ys'++[y]) (upd H6 D (.lst (ys'++[y])))
     else ∃ys' m',m' < m∧W (i+1) m' ys' H5))
section
variable {X:Cx}{scope:Scope}{NC:List Str}{fr:List (Option Nat)}{pins:List (Addr×Obj)}{σ:St}{H:Hp}{s:Shared}
theorem NJ {fp:List Addr}{h1:Heap}{m:Str→Option Value}{tk:Nat}(S:CSc X scope NC fr) (I:Inv X pins σ H s) (hfp:∀b∈fp,IX X pins H b) (hlt:∀b∈fp,b < s.heap.objs.size)
   (hns:h1.Ns s.heap.objs.size m) (hk:∀b o,s.heap.get? b=some o→h1.get? b=some o) :
   Inv (BA X scope NC s.heap.objs.size s H fp (X.pn++pins)) [] (capt fr σ) H { s with heap:=h1,toks:=tk }:=by
 have I4:Inv X pins σ H { s with heap:=h1,toks:=tk }:=I.kept hk
 have nstk:∀b,b≠X.env.locals→b∉X.fs→b∉frs X.stack:=fun b h1 h2 z=>(yX.mp (I.stkSub b z)).elim h1 h2
 refine⟨⟨I.ok.mod,S.kind,I.ok.glob,I.ok.blt,zR _,fun x y c h1 h2=>I.ok.inj x y c (BH h1) (BH h2),fun x hx=>?_,fun x c h=>absurd h (by intro z;cases z),I.ok.hd,I.ok.frames,.inl rfl,fun b hb=>?_,I.bs,zN I.ok.bsz I.sz,fun b o e hb=>?_,fun b hb=>?_,I.stack,I.stkFree⟩,
   rfl,I.bare,Un.kept hk,⟨m,hns,fun i x v e1 e2 e3=>?_⟩,fun x c e=>I4.cell x c (BH e),I.hok.fresh (zR _),fun x c e=>I4.freeC x c (BH e),fun p hp=>?_,I4.hok,?_⟩
 · have hx':=J7 (scope:=scope) (env:=X.env) (x:=x) (names:=scope.names) hx S.nocell
   obtain⟨c,h,_⟩:=S.cells I.ok hx'
   exact⟨c,h⟩
 · exact⟨zC (hlt b hb),fun x c e=>(hfp b hb).2.2.2.2.1 x c (BH e)⟩
 · rcases (hfp b hb).2.2.2.1 with z | z
   · exact I.ok.noex b o e z
   · exact absurd (zP (zM e) (zN I.ok.bsz z)) (yF _)
 · exact nstk b (hfp b hb).2.1 (hfp b hb).2.2.1
 · have e2':∃j,fr[i]?=some (some j)∧σ[j]?=some (some v):=by
     unfold capt at e2
     rw[zF] at e2
     cases hf:fr[i]? with
     | none=>rw[hf] at e2;cases e2
     | some o=>
       rw[hf] at e2
       cases o with
       | none=>cases e2
       | some j=>
         refine⟨j,rfl,?_⟩
         have e2:((σ[j]?).join)=some v:=Option.some.inj e2
         cases hs:σ[j]? with
         | none=>rw[hs] at e2;cases e2
         | some q=>rw[hs] at e2;cases q with
           | none=>cases e2
           | some v'=>cases e2;rfl
   obtain⟨j,f1,f2⟩:=e2'
   obtain⟨g1,g2,g3,g4⟩:=S.slot i j x e1 f1
   obtain⟨m',hn',hl'⟩:=I4.loc
   obtain⟨u,r,l⟩:=hl' j x v g1 f2 g3
   rcases l with ⟨k,_⟩ | ⟨k,c,hc,hcell⟩
   · exact absurd k g4
   · obtain⟨c',q1,q2⟩:=S.cells I.ok (PySem.mem_of_lookup g2)
     rw[hc] at q2;cases q2
     exact⟨u,r,.inr ⟨RS S.names (PySem.mem_of_lookup g2) (fun z=>z g2),c,q1,hcell⟩⟩
 · have hp':p∈X.pn++pins:=by rw[List.append_nil] at hp;exact hp
   obtain⟨p1,p2,p3,p4,p5⟩:=I4.pin p hp'
   exact⟨p1,p2,zC (zM (I.pin p hp').1),nstk _ p3 p4,p5⟩
 · unfold capt
   rw[zX]
   exact S.len
theorem TJ {elt iter tg:Expr}{ifs:List Expr}{pos cpos:Pos}{wi:TI}{g:TG}{tt:TT}{te:TE}{use:Option (Value→Sem Unit)}{Q:VK}{QQ:Value→Shared→Prop}
   (hc:X.calm=true) (S:CSc X scope NC fr) (hi:PI X tg iter wi)
   (hb:∀(C:Addr) (s:Shared) (H:Hp) (ex:List Addr) (pn:List (Addr×Obj)),PG (BA X scope NC C s H ex pn) tg g∧PTs (BA X scope NC C s H ex pn) ifs tt∧PE (BA X scope NC C s H ex pn) elt te)
   (I:Inv X pins σ H s) (h:QA fr wi g tt te σ H Q)
   (fin:∀(D C:Addr) (H':Hp) (s':Shared) (m:Str→Option Value) (oC:Obj),Inv X (pins++[(C,oC)]) σ H' s'→s'.heap.Ns C m→Q (.ref D) H' →
     (∀(pins':List (Addr×Obj)) (σ2:St) (H2:Hp) (s2:Shared) (h2:Heap),Inv X (pins++[(C,oC)]) σ2 H2 s2→Heap.SameBut C s2.heap h2→Inv X pins σ2 H2 { s2 with heap:=h2 }) →
     s'.heap.get? C=some oC →
     match use with
     | none=>∀h',Heap.SameBut C s'.heap h'→QQ (.ref D) { s' with heap:=h' }
     | some u=>wpAny (model X.prog X.w) X.A (u (.ref D)) (fun _ s''=>∃m,s''.heap.Ns C m∧∀h',Heap.SameBut C s''.heap h'→QQ .none { s'' with heap:=h' }) X.xe s')
   (hs:∀x,foldedSetIterable iter X.env x=pure x) :
   wpAny (model X.prog X.w) X.A (comprehension (.ListComp elt [⟨tg,iter,ifs,0⟩] scope pos) scope X.env cpos (newList []) false (eval iter X.env) use) QQ X.xe s:=by
 refine wpAny_comprehension_free (use:=use) rfl hs (YK (S.has I.ok)) S.kind S.names (thn (hi pins s σ H _ I h) fun v s1 h1=>thn h1 fun itv s2 h2=>?_)
 obtain⟨it,fp,tn,J,H2,e,I2,T,st2,f2,hq⟩:=h2
 subst e
 have hDn:H2 s2.heap.objs.size=none:=I2.hok.fresh (zR _)
 obtain⟨W,⟨m0,w0⟩,turn⟩:=hq s2.heap.objs.size hDn
 refine xN (wpAny_newFunctionEnv S.nocell (by intro y hy;simp at hy) (fun h₁ hns₁ hsb₁=>?_) S.kind)
 dsimp only at hns₁ hsb₁ ⊢
 generalize hs3:({ s2 with heap:=s2.heap.push { cls:=.type "list", dict:=none,data:=.seq ([]:List Value).toArray } }:Shared)=s3
 have hh3:s2.heap.push { cls:=.type "list", dict:=none,data:=.seq ([]:List Value).toArray }=s3.heap:=by rw[← hs3]
 have I3:Inv X pins σ (upd H2 s2.heap.objs.size (.lst [])) s3:=by
   rw[← hs3]
   refine I2.laid (t':=s2.toks) (fun b u e=>zW _ e) (zR _) ?_
   exact⟨xU _,[],0,.nil,yZ _ rfl⟩
 rw[hh3] at hns₁ hsb₁ ⊢
 have sz3:s3.heap.objs.size=s2.heap.objs.size+1:=by rw[← hh3,Heap.size_push]
 have lt2:∀b∈fp,b < s2.heap.objs.size:=fun b hb=>by
   obtain⟨o,e,_⟩:=T.obj _ _ st2 b hb
   exact zM e
 have lt3:∀b∈fp,b < s3.heap.objs.size:=fun b hb=>by rw[sz3];exact Nat.lt_succ_of_lt (lt2 b hb)
 have f3:∀b∈fp,IX X pins (upd H2 s2.heap.objs.size (.lst [])) b:=fun b hb=>⟨by rw[AH (zC (lt2 b hb))];exact(f2 b hb).1,(f2 b hb).2⟩
 have keep1:∀b o,s3.heap.get? b=some o→h₁.get? b=some o:=fun b o e=>hsb₁.extBut b o (zC (zM e)) (zW _ e)
 generalize hC:s3.heap.objs.size=C at hns₁ hsb₁ ⊢
 have I0:Inv (BA X scope NC C s3 (upd H2 s2.heap.objs.size (.lst [])) fp (X.pn++pins)) [] (capt fr σ) (upd H2 s2.heap.objs.size (.lst [])) { s2 with heap:=h₁,toks:=s2.toks+([]:List (Str×Value)).length }:=by
   have:=NJ (tk:=s2.toks+([]:List (Str×Value)).length) (h1:=h₁) S I3 f3 lt3 (hC▸hns₁) keep1
   rw[hC] at this
   rw[← hs3] at this
   rw[← hs3]
   exact this
 obtain⟨hbg,hbt,hbe⟩:=hb C s3 (upd H2 s2.heap.objs.size (.lst [])) fp (X.pn++pins)
 generalize hX':BA X scope NC C s3 (upd H2 s2.heap.objs.size (.lst [])) fp (X.pn++pins)=X' at I0 hbg hbt hbe
 have eP:X'.prog=X.prog:=by rw[← hX'];rfl
 have eW:X'.w=X.w:=by rw[← hX'];rfl
 have eK:X'.K=X.K:=by rw[← hX'];rfl
 have eA:X'.A=X.A:=by rw[← hX'];rfl
 have eE:X'.env=compEnvC scope (JK X.env.cells scope.names []) C X.env:=by rw[← hX'];rfl
 have eX:X'.xe=fun _ _=>False:=by rw[← hX'];rfl
 have ec:X'.calm=true:=by rw[← hX'];exact hc
 have stat:∀{H':Hp},(∀b∈fp,H' b=none)→∀b∈fp,IX X' [] H' b:=fun {H'} hn b hb=>by
   obtain⟨q1,q2,q3,q4,q5,q6⟩:=f3 b hb
   rw[← hX']
   exact⟨hn b hb,by show b≠C;rw[← hC];exact zC (lt3 b hb),fun z=>(yX.mp (I3.stkSub b z)).elim q2 q3,.inl hb,fun x c e=>q5 x c (BH e),fun p hp=>q6 p (by rw[List.append_nil] at hp;exact hp)⟩
 have ends:∀(i m:Nat) (ys:List V) (H':Hp) (s':Shared),Inv X' [] (capt fr σ) H' s'→Q (.ref s2.heap.objs.size) H' →
     compPost (model X.prog X.w) X.A X.xe use QQ (.ref s2.heap.objs.size) C (.ok .next) s':=by
   intro i m ys H' s' I' q'
   have eC:X'.env.locals=C:=by rw[eE];rfl
   obtain⟨mC,hnC,_⟩:=I'.loc
   rw[eC] at hnC
   have hCn:H' C=none:=by have:=I'.free;rw[eC] at this;exact this
   have un:Un (frs X.stack) fp (upd H2 s2.heap.objs.size (.lst [])) H' s3.heap s'.heap:=by
     have:=I'.base
     rw[← hX'] at this
     exact this
   have os':s'.os=s3.os:=by have:=I'.os;rw[← hX'] at this;exact this
   have hok':HOk X.prog X.w H' s'.heap:=by have:=I'.hok;rw[eP,eW] at this;exact this
   have Iout:Inv X pins σ H' s':=I3.call' (ch:=fp) os' un hok' I'.bare fun b hb=>⟨(f3 b hb).2.2.2.1,(f3 b hb).2.1,(f3 b hb).2.2.2.2.1,(f3 b hb).2.2.2.2.2⟩
   have C1:C≠X.env.locals:=by rw[← hC];exact Nat.ne_of_gt I3.lt
   have C2:C∉X.fs:=by rw[← hC];exact I3.nofs (zR _)
   have C3:X.s₀.heap.objs.size≤C:=by rw[← hC];exact I3.sz
   have C4:∀x c,X.env.cells.lookup x=some c→c≠C:=fun x c e z=>by
     obtain⟨v,q⟩:=I3.cell x c e
     rw[z,← hC] at q
     exact absurd q.lt (yF _)
   have C5:∀p∈X.pn++pins,p.1≠C:=fun p hp z=>by
     have:=zM (I3.pin p hp).1
     rw[z,← hC] at this
     exact absurd this (yF _)
   obtain⟨oC,esC,epC,hoC,hdC,hrC⟩:=id hnC
   have Ipin:Inv X (pins++[(C,oC)]) σ H' s':=Iout.pins_of fun p hp=>(yW.mp hp).elim (fun z=>Iout.pin p (zB _ z)) fun z=>by
     have e:p=(C,oC):=by simpa using z
     subst e
     exact⟨hoC,hCn,C1,C2,fun v z=>by rw[hdC] at z;cases z⟩
   have res:=fin s2.heap.objs.size C H' s' mC oC Ipin hnC q' (fun _ σ2 H3 s4 h4 I4 sb=>by
     have J4:Inv X pins σ2 H3 s4:=I4.unpinned
     have hn4:H3 C=none:=(I4.pin (C,oC) (zB _ (zB _ (by simp)))).2.1
     exact J4.turned (t':=s4.toks) (it:=C) (fun b o hb e=>sb.extBut b o hb e) hn4 C1 (.inr C3) C4 C5) hoC
   cases use with
   | none=>exact⟨mC,hnC,res⟩
   | some u=>exact res
 have loop:∀s':Shared,s'={ s2 with heap:=h₁,toks:=s2.toks+([]:List (Str×Value)).length } →
     codeAny (model X.prog X.w) X.A (.compLoop (.ListComp elt [⟨tg,iter,ifs,0⟩] scope pos) 0 (.ref it) (.ref s2.heap.objs.size) (compEnvC scope (JK X.env.cells scope.names []) C X.env))
       (compPost (model X.prog X.w) X.A X.xe use QQ (.ref s2.heap.objs.size) C) s':=by
   rintro s' rfl
   refine IY (fun n s'=>∃i ys H',Inv X' [] (capt fr σ) H' s'∧tn i s'.heap∧(∀b∈fp,H' b=none)∧W i n ys H') ?_ m0
     ⟨0,[],_,I0,T.keep _ _ _ st2 (fun b hb o e=>keep1 b o (by rw[← hh3];exact zW _ e)),fun b hb=>(f3 b hb).1,w0⟩
   rintro n s5 ⟨i,ys,H5,I5,st5,fr5,w5⟩
   obtain⟨hD5,hturn⟩:=turn i n ys H5 w5
   rcases hturn with ⟨stop,qn⟩ | ⟨go,step⟩
   · have:=T.done X' eP eW eK ec i [] s5 (capt fr σ) H5 (fun _ _=>False) I5 (stat fr5) st5 stop
     rw[eA] at this
     refine thn this fun r s6 ⟨hr,I6⟩=>?_
     subst hr
     exact ends i n ys H5 s6 I6 qn
   · have:=T.item X' eP eW eK ec i [] s5 (capt fr σ) H5 (fun _ _=>False) I5 (stat fr5) st5 go
     rw[eA] at this
     refine thn this fun r s6 ⟨u,hr,h6⟩=>?_
     subst hr
     refine thn h6 fun _ s7 ⟨x,H7,I7,r7,y7,st7,fr7⟩=>?_
     have I7':=I7.pinned (stat fr7) (T.obj _ _ st7)
     have hg1:=hbg _ s7 (capt fr σ) H7 x u _ I7' r7 (step x H7 y7)
     rw[eP,eW,eA,eE,eX] at hg1
     refine thn hg1 fun _ s8 ⟨σ8,H8,I8,ext8,q8⟩=>?_
     have ht1:=hbt _ s8 σ8 H8 _ I8 q8
     rw[eP,eW,eA,eE,eX] at ht1
     refine thn ht1 fun ok s9 ⟨H9,I9,q9⟩=>?_
     have weak:∀{H':Hp}{s':Shared},Inv X' ([]++L9 fp s7.heap) σ8 H' s'→Inv X' [] (capt fr σ) H' s'∧tn (i+1) s'.heap∧∀b∈fp,H' b=none:=fun {H' s'} I'=>by
       refine⟨I'.unpinned.weak (by rw[I'.len];rw[I0.len]) ext8,T.keep _ _ _ st7 fun b hb o e=>(I'.pin (b,o) (zB _ (zB _ (CZ hb e)))).1,fun b hb=>?_⟩
       obtain⟨o,e,d⟩:=T.obj _ _ st7 b hb
       exact(I'.pin (b,o) (zB _ (zB _ (CZ hb e)))).2.1
     cases ok with
     | false=>
       rw[if_neg nft] at q9
       obtain⟨ys',m',hm',w'⟩:=q9
       obtain⟨a1,a2,a3⟩:=weak I9
       exact⟨m',hm',i+1,ys',H9,a1,a2,a3,w'⟩
     | true=>
       rw[if_pos rfl] at q9
       have he1:=hbe _ s9 σ8 H9 _ I9 q9
       rw[eP,eW,eA,eE,eX] at he1
       refine thn he1 fun y s10 ⟨yv,H10,I10,r10,ys',hD10,hsz,m',hm',w'⟩=>?_
       have ha:=Q5 (X:=X') _ s10 σ8 H10 (.ref s2.heap.objs.size) [yv] (.ref s2.heap.objs.size) [y] (fun _ H'=>∃m',m' < n∧W (i+1) m' (ys'++[yv]) H') I10 rfl (.cons r10 .nil) ⟨_,ys',yv,rfl,rfl,hD10,hsz,m',hm',w'⟩
       rw[eP,eW,eA,eX] at ha
       refine thn ha fun _ s11 ⟨_,H11,I11,_,m'',hm'',w''⟩=>?_
       obtain⟨a1,a2,a3⟩:=weak I11
       exact⟨m'',hm'',i+1,_,H11,a1,a2,a3,w''⟩
 refine codeAny_compStart_list (loop _ rfl) (T.self _ 0 _ _ _ ?_ (loop _ rfl))
 exact T.keep _ _ _ st2 (fun b hb o e=>keep1 b o (by rw[← hh3];exact zW _ e))
end
end L2
namespace L2
open PySem PySem.Spec PyProof.Rows
section
variable {X:Cx}{scope:Scope}{NC:List Str}{fr:List (Option Nat)}{elt iter tg:Expr}{ifs:List Expr}{pos:Pos}{wi:TI}{g:TG}{tt:TT}{te:TE}
theorem CC (hc:X.calm=true) (S:CSc X scope NC fr) (hi:PI X tg iter wi)
   (hb:∀(C:Addr) (s:Shared) (H:Hp) (ex:List Addr) (pn:List (Addr×Obj)),PG (BA X scope NC C s H ex pn) tg g∧PTs (BA X scope NC C s H ex pn) ifs tt∧PE (BA X scope NC C s H ex pn) elt te)
   (hs:∀x,foldedSetIterable iter X.env x=pure x:=by intro _;rfl):PE X (.ListComp elt [⟨tg,iter,ifs,0⟩] scope pos) (QA fr wi g tt te):=by
 intro pins s σ H Q I h
 rw[eval_ListComp]
 refine TJ (use:=none) (Q:=Q) hc S hi hb I h (fun D C H' s' m oC I' hn q back _ h' sb=>?_) hs
 exact⟨.ref D,H',back pins σ H' s' h' I' sb,rfl,q⟩
theorem jV {i:Nat}{x:Str}{py spos:Pos}(hc:X.calm=true) (hN:X.N.Nodup) (hix:X.N[i]?=some x) (hx:Loc X.env.scope x) (S:CSc X scope NC fr) (hi:PI X tg iter wi)
   (hb:∀(C:Addr) (s:Shared) (H:Hp) (ex:List Addr) (pn:List (Addr×Obj)),PG (BA X scope NC C s H ex pn) tg g∧PTs (BA X scope NC C s H ex pn) ifs tt∧PE (BA X scope NC C s H ex pn) elt te)
   (hsw:swapsWith (.ListComp elt [⟨tg,iter,ifs,0⟩] scope pos) (some (.Name x py)) spos.line X.env=pure true)
   (hf:X.fn x=true∨X.env.scope.names.lookup x=some .local:=by first | exact .inl rfl | exact .inr rfl | assumption)
   (hs:∀x,foldedSetIterable iter X.env x=pure x:=by intro _;rfl) :
   PS X (.Assign [.Name x py] (.ListComp elt [⟨tg,iter,ifs,0⟩] scope pos) spos) (fun D σ H=>QA fr wi g tt te σ H fun v H'=>D.nx (σ.set i (some v)) H'):=by
 intro pins s σ H D I h
 rw[exec_Assign_Name_used _ _ _ _ hsw]
 refine zZ (wpAny_standAt (zZ ?_))
 show wpAny _ X.A (do let _ ← comprehension (.ListComp elt [⟨tg,iter,ifs,0⟩] scope pos) scope X.env _ (newList []) false (eval iter X.env) (some (assign (.Name x py) X.env))) _ _ s
 refine zZ (thn (TJ (use:=some (assign (.Name x py) X.env)) (Q:=fun v H'=>D.nx (σ.set i (some v)) H') (QQ:=fun _ s'=>∃σ' H',Inv X pins σ' H' s'∧D.nx σ' H') hc S hi hb I h (fun A C H' s' m oC I' hn q back hoC=>?_) hs) fun _ s' hq=>zY (zY hq))
 have hst:=MX (X:=X) (pos:=py) hN hix hx hf (pins++[(C,oC)]) s' σ H' (.ref A) (.ref A) (fun σ' H'=>D.nx σ' H') I' rfl q
 refine thn hst fun _ s2 ⟨σ2,H2,I2,q2⟩=>?_
 have hC2:s2.heap.get? C=some oC:=(I2.pin (C,oC) (zB _ (zB _ (by simp)))).1
 obtain⟨o',es,ep,ho',hd',hr'⟩:=hn
 rw[hoC] at ho';cases ho'
 exact⟨m,⟨_,es,ep,hC2,hd',hr'⟩,fun h' sb=>⟨σ2,H2,back pins σ2 H2 s2 h' I2 sb,q2⟩⟩
end
def Its (x:Str):It:=⟨fun i _=>i < x.cps.size,fun i H v H'=>H'=H∧∃c,x.cps[i]?=some c∧v = .str ⟨#[c]⟩,fun i _=>i=x.cps.size⟩
theorem TK {P:Program}{w:World}{K:Frg}{tg:Expr}(it:Addr) (ty:String) (x:Str) (t:Tok) (hty:["enumerate", "zip", "dict_itemiterator", "dict_reverseitemiterator", "odict_iterator", "itertools.zip_longest", "itertools.pairwise"].contains ty=false)
   (W:∀A:Around,A.handled=none→Walks P w A it [it] [it] x.cps.size (SignAt x) (fun i h=>h.IsStrIter it ty x t i))
   (hself:∀(A:Around) (i:Nat) (s:Shared) (Q:Value→Shared→Prop) (E:Value→Shared→Prop),s.heap.IsStrIter it ty x t i→Q (.ref it) s→wpAny (model P w) A (pyIter (.ref it)) Q E s) :
   Turn P w K tg (Its x) [it] it (fun i h=>h.IsStrIter it ty x t i) where
 mem:=by simp
 obj:=fun i h st b hb=>by
   have e:b=it:=by simpa using hb
   subst e
   obtain⟨o,e,c,d⟩:=st
   exact⟨o,e,fun v z=>by rw[d] at z;cases z⟩
 keep:=fun i h h' st k=>by
   obtain⟨o,e,r⟩:=st
   exact⟨o,k it (by simp) o e,r⟩
 item:=by
   intro X hP hw hK hc i pins s σ H E I hf st hg
   subst hP hw hK
   obtain⟨f0,f1,f2,f3,f4,f5⟩:=hf it (by simp)
   refine(W X.A (I.ok.hd hc)).item i s _ _ hg st fun v h' tk hv st' kk=>?_
   obtain⟨c,u,hcx,rfl⟩:=hv
   have I1:Inv X pins σ H { s with heap:=h',toks:=tk }:=I.turned (fun b o hb e=>kk b o (by simpa using hb) e) f0 f1 f3 f4 f5
   obtain⟨o,e,c',d⟩:=id st'
   exact⟨_,rfl,YA (s:={ s with heap:=h',toks:=tk }) e c' d hty ⟨.str ⟨#[c]⟩,H,I1,⟨u,rfl⟩,⟨rfl,c,hcx,rfl⟩,st',fun b hb=>(hf b hb).1⟩⟩
 done:=by
   intro X hP hw hK hc i pins s σ H E I hf st hg
   subst hP hw hK
   obtain⟨f0,f1,f2,f3,f4,f5⟩:=hf it (by simp)
   have hi:i=x.cps.size:=hg
   subst hi
   refine(W X.A (I.ok.hd hc)).done s _ _ st fun h' tk kk=>⟨rfl,I.turned (fun b o hb e=>kk b o (by simpa using hb) e) f0 f1 f3 f4 f5⟩
 self:=hself
theorem RT (bs:List Bool):(List.range bs.length).all (fun i=>(bs[i]?).getD false)=bs.all id:=by
 rw[Bool.eq_iff_iff,List.all_eq_true,List.all_eq_true]
 constructor
 · intro h b hb
   obtain⟨i,hi,rfl⟩:=List.mem_iff_getElem.mp hb
   have:=h i (by simpa using hi)
   simpa [hi] using this
 · intro h i hi
   have hi:i < bs.length:=by simpa using hi
   have:=h bs[i] (List.getElem_mem hi)
   simpa [hi] using this
section
variable {X:Cx}
theorem jW {bs:List Bool}{its:List Value}(r:Vals (bs.map V.bl) its) {i:Nat}{v:Value}(h:its.toArray[i]?=some v):v = .bool ((bs[i]?).getD false):=by
 have h':its[i]?=some v:=by simpa using h
 have hl:i < its.length:=(yT.mp h').1
 have e:=r.length
 rw[zX] at e
 have hb:(bs.map V.bl)[i]?=some (V.bl bs[i]):=by rw[zF];simp[show i < bs.length by omega]
 obtain⟨u,hu,ru⟩:=r.get hb
 rw[h'] at hu;cases hu
 simp[show i < bs.length by omega]
 exact ru
def v9 (X:Cx):List V→Hp→VK→Prop:=fun xs H Q=>∃(p:Addr) (bs:List Bool),xs=[.ref p]∧SqL X.K H p (bs.map V.bl)∧Q (.bl (bs.all id)) H
theorem dF (hc:X.calm=true):BO X (.builtin "all") (v9 X):=by
 intro pins s σ H xs us Q I r h
 obtain⟨p,bs,rfl,hp,q⟩:=h
 obtain⟨u,rfl,ru⟩:=F7 r
 cases ru
 obtain⟨its,rv,pl,hz⟩:=I.list hp
 have hne:p≠s.heap.objs.size:=by obtain⟨o,n,e,_⟩:=pl;exact zC (zM e)
 have el:=rv.length
 rw[zX] at el
 refine call_all_walk (wpAny_pyIter_list pl.isList ?_)
 refine⟨s.heap.objs.size,_,_,_,_,_,fun i=>(bs[i]?).getD false,rfl,Walks.list (show X.A.in1.handled=none from I.ok.hd hc) s.heap.objs.size p hne its.toArray,⟨⟨_,yZ _ rfl,rfl,rfl⟩,?_⟩,fun i v s' Q' E' hv hq=>?_,fun h' tk hk=>?_⟩
 · obtain⟨o,n,e,c,d,dd⟩:=pl
   exact⟨o,zW _ e,c,n,dd⟩
 · rw[jW rv hv]
   exact wpAny_truthy_bool hq
 · refine⟨.bl (bs.all id),H,?_,?_,q⟩
   · exact I.kept (t':=tk) fun b o e=>hk b o (by simp;exact zC (zM e)) (zW _ e)
   · rw[zJ,← el,RT];rfl
def pY:V→Option Int→Option Int→Hp→VK→Prop:=fun x lo hi H Q=>∃y,x = .str y∧y.length≤sizeLine∧Q (.str (Txt.slice y lo hi)) H
theorem pZ:SlR X pY:=by
 intro pins s σ H x v vl vu lo hi sl Q I rx hs pl pu h
 obtain⟨y,rfl,hz,q⟩:=h
 obtain⟨t,rfl⟩:=rx
 refine⟨"str", _,F.slot_str_getitem.lookup,typeIs_str _ _ _,?_⟩
 cases pl with
 | none=>
   cases pu with
   | none=>exact wpAny_getItem_str_slice (l:=none) (u:=none) (st:=none) hs rfl (post_val_or_str ⟨zN (Txt.slice_le y _ _) hz,fun t' k=>⟨.str _,H,I.tok _,⟨_,rfl⟩,q⟩⟩)
   | int j tj=>exact wpAny_getItem_str_slice (l:=none) (u:=some (j,tj)) (st:=none) hs rfl (post_val_or_str ⟨zN (Txt.slice_le y _ _) hz,fun t' k=>⟨.str _,H,I.tok _,⟨_,rfl⟩,q⟩⟩)
 | int i ti=>
   cases pu with
   | none=>exact wpAny_getItem_str_slice (l:=some (i,ti)) (u:=none) (st:=none) hs rfl (post_val_or_str ⟨zN (Txt.slice_le y _ _) hz,fun t' k=>⟨.str _,H,I.tok _,⟨_,rfl⟩,q⟩⟩)
   | int j tj=>exact wpAny_getItem_str_slice (l:=some (i,ti)) (u:=some (j,tj)) (st:=none) hs rfl (post_val_or_str ⟨zN (Txt.slice_le y _ _) hz,fun t' k=>⟨.str _,H,I.tok _,⟨_,rfl⟩,q⟩⟩)
theorem MY:∀{ys:List Str}{its:List Value},Vals (ys.map V.str) its→StrsAre its ys
 | [],_,.nil=>.nil
 | y::r,_,.cons h t=>by
   obtain⟨tk,rfl⟩:=h
   exact .cons y tk (MY t)
def dG (K:Frg):V→List V→Hp→VK→Prop:=fun x xs H Q=>∃(y:Str) (p:Addr) (ys:List Str),x = .str y∧xs=[.ref p]∧SqL K H p (ys.map V.str)∧(ys.map (·.length)).sum+ys.length*y.length≤16777216∧Q (.str (Txt.join y ys)) H
theorem jX:MtR X "str.join" (dG X.K):=by
 intro pins s σ H x xs v us Q I rx rv h
 obtain⟨y,p,ys,rfl,rfl,hp,hz,q⟩:=h
 obtain⟨t,rfl⟩:=rx
 obtain⟨u,rfl,ru⟩:=F7 rv
 cases ru
 obtain⟨its,r,pl,_⟩:=I.list hp
 exact join_list pl.isList (by simpa using MY r) hz fun t' k=>⟨.str _,H,I.tok _,⟨_,rfl⟩,q⟩
def nO (K:Frg):R2:=fun x y H Q=>∃a b xs ys,x = .ref a∧y = .ref b∧SqL K H a xs∧SqL K H b ys∧xs.length+ys.length≤sizeLine∧∀p,H p=none→Q (.ref p) (upd H p (.lst (xs++ys)))
theorem jY:OpR X (binaryOp .Add) (nO X.K):=by
 intro pins s σ H x y v u Q I rx ry h
 obtain⟨l,b,xs,zs,rfl,rfl,hH,hB,hz,q⟩:=h
 cases rx
 cases ry
 obtain⟨its,r,pl,hl⟩:=I.list hH
 obtain⟨its2,r2,pl2,hl2⟩:=I.list hB
 have e1:=r.length
 have e2:=r2.length
 obtain⟨⟨cls,dd,data,sl⟩,n,ho,hc,_,hd⟩:=pl
 obtain⟨⟨cls2,dd2,data2,sl2⟩,n2,ho2,hc2,_,hd2⟩:=pl2
 dsimp only at hc hd hc2 hd2
 subst hc hd hc2 hd2
 have ea:its.toArray++its2.toArray=(its++its2).toArray:=by simp
 have fin:EP X pins σ Q (.ref s.heap.objs.size) { s with heap:=s.heap.push { cls:=.type "list", data:=.seq (its.toArray++its2.toArray) } }:=by
   rw[ea]
   exact⟨.ref _,_,I.lnew (t':=s.toks) (r.append r2) (by rw[yY];omega),rfl,q _ I.fresh⟩
 exact concat_meets ⟨_,ho,rfl⟩ ⟨_,ho2,rfl⟩ noFill_list_add seq_list_add PySem.F.slot_list_add PySem.F.entry_list_add (PySem.F.args_list_add_2 _ _) (list_addW l b its.toArray its2.toArray n n2 dd dd2 sl sl2 (by rw[zJ,zJ];omega)) ⟨ho,ho2,fin⟩
def nP (i j:Int):Prop:=0 < j∧j < 2 ^ 64
theorem dH:OpR X (binaryOp .FloorDiv) (rI nP fun i j=>.int (i/j)):=opI fun i j _ _ _ _ _ hc q=>by
 have h1:(0:Int) < j:=hc.1
 have h2:j.natAbs.log2 < 9000:=by
   have h0:j.natAbs≠0:=by omega
   have:j.natAbs < 2 ^ 64:=by have:=hc.2;omega
   exact zP ((Nat.log2_lt h0).mpr this) (by decide)
 exact floordiv_int (by omega) (by rw[Int.fdiv_eq_ediv_of_nonneg i (by omega)];exact q) (.inl (PyProof.noPylong_of_log2 h2))
end
end L2
namespace L2
open PySem PySem.Spec PyProof.Rows
def dI:Key→PyData
 | .inl i=>.int i
 | .inr x=>.str x
def LW (K:Frg) (H:Hp) (W:Addr→Prop) (a:Addr) (xs:List V):Prop:=
 (¬W a∧Rd H a (.lst xs))∨∃(o:Obj) (its:Array Value) (n:Nat),K.lookup a=some o∧o.cls = .type "list" ∧ o.dict=none∧o.data = .seq its n∧its.size≤sizeLine∧Vals xs its.toList
def TW (K:Frg) (H:Hp) (W:Addr→Prop) (a:Addr) (xs:List V):Prop:=
 (¬W a∧Rd H a (.tup xs))∨∃(o:Obj) (its:Array Value) (n:Nat),K.lookup a=some o∧o.cls = .type "tuple" ∧ o.data = .seq its n∧its.size≤sizeLine∧Vals xs its.toList
theorem LW.sq {K:Frg}{H:Hp}{W:Addr→Prop}{a:Addr}{xs:List V}(h:LW K H W a xs):SqL K H a xs:=h.elim (fun z=>.inl z.2) .inr
theorem TW.sq {K:Frg}{H:Hp}{W:Addr→Prop}{a:Addr}{xs:List V}(h:TW K H W a xs):SqT K H a xs:=h.elim (fun z=>.inl z.2) .inr
mutual
def DV (K:Frg) (H:Hp) (W:Addr→Prop):PyData→V→Prop
 | .none,v=>v = .non
 | .bool b,v=>v = .bl b
 | .int i,v=>v = .int i
 | .str x,v=>v = .str x
 | .list ds,v=>∃a vs,v = .ref a∧LW K H W a vs∧DVs K H W ds vs
 | .tuple ds,v=>∃a vs,v = .ref a∧TW K H W a vs∧DVs K H W ds vs
 | .dict kvs,v=>∃a kvs',v = .ref a∧¬W a∧Rd H a (.dK kvs')∧DKV K H W kvs kvs'
def DVs (K:Frg) (H:Hp) (W:Addr→Prop):List PyData→List V→Prop
 | [],vs=>vs=[]
 | d::ds,vs=>∃v r,vs=v::r∧DV K H W d v∧DVs K H W ds r
def DKV (K:Frg) (H:Hp) (W:Addr→Prop):List (PyData×PyData)→List (Key×V)→Prop
 | [],vs=>vs=[]
 | (k,d)::ds,vs=>∃k' v r,vs=(k',v)::r∧k=dI k'∧DV K H W d v∧DKV K H W ds r
end
structure Grow (K:Frg) (W W':Addr→Prop) (H H':Hp):Prop where
 keep:∀b o,H b=some o→¬W b→H' b=some o∨∃ks ob,o = .dK ks∧H' b=some (.frz ob o)
 new:∀b,W' b→W b∨H b=none
theorem Grow.refl {K:Frg}{W:Addr→Prop}{H:Hp}:Grow K W W H H:=⟨fun _ _ h _=>.inl h,fun _ h=>.inl h⟩
section
variable {K:Frg}{W W' W2:Addr→Prop}{H H' H2:Hp}
theorem Rd.grow (g:Grow K W W' H H') {a:Addr}{o:HO}(nw:¬W a) (h:Rd H a o):Rd H' a o:=by
 rcases h with h | ⟨o',h⟩
 · rcases g.keep _ _ h nw with e | ⟨ks,ob,_,e⟩
   · exact .inl e
   · exact .inr ⟨ob,e⟩
 · rcases g.keep _ _ h nw with e | ⟨ks,ob,e,_⟩
   · exact .inr ⟨o',e⟩
   · cases e
theorem Grow.kept (g:Grow K W W' H H') {a:Addr}{o:HO}(h:H a=some o) (nw:¬W a) (n:∀ks,o≠.dK ks):H' a=some o:=(g.keep a o h nw).elim id fun⟨ks,_,e,_⟩=>absurd e (n ks)
theorem Rd.ne_none {H:Hp}{a:Addr}{o:HO}(h:Rd H a o):H a≠none:=by
 rcases h with h | ⟨o',h⟩ <;> rw[h] <;> simp
theorem Rd.nw (g:Grow K W W' H H') {a:Addr}{o:HO}(nw:¬W a) (h:Rd H a o):¬W' a:=fun w=>by
 rcases g.new a w with z | z
 · exact nw z
 · exact Rd.ne_none h z
theorem LW.grow (g:Grow K W W' H H') {a:Addr}{xs:List V}(h:LW K H W a xs):LW K H' W' a xs:=h.elim (fun z=>.inl ⟨z.2.nw g z.1,z.2.grow g z.1⟩) .inr
theorem TW.grow (g:Grow K W W' H H') {a:Addr}{xs:List V}(h:TW K H W a xs):TW K H' W' a xs:=h.elim (fun z=>.inl ⟨z.2.nw g z.1,z.2.grow g z.1⟩) .inr
mutual
theorem DV.grow (g:Grow K W W' H H'):∀{d:PyData}{v:V},DV K H W d v→DV K H' W' d v
 | .none,v,h=>by unfold DV at h ⊢;exact h
 | .bool b,v,h=>by unfold DV at h ⊢;exact h
 | .int i,v,h=>by unfold DV at h ⊢;exact h
 | .str x,v,h=>by unfold DV at h ⊢;exact h
 | .list ds,v,h=>by
   unfold DV at h ⊢
   obtain⟨a,vs,e,hs,hd⟩:=h
   exact⟨a,vs,e,hs.grow g,DVs.grow g hd⟩
 | .tuple ds,v,h=>by
   unfold DV at h ⊢
   obtain⟨a,vs,e,hs,hd⟩:=h
   exact⟨a,vs,e,hs.grow g,DVs.grow g hd⟩
 | .dict kvs,v,h=>by
   unfold DV at h ⊢
   obtain⟨a,vs,e,nw,hs,hd⟩:=h
   exact⟨a,vs,e,hs.nw g nw,hs.grow g nw,DKV.grow g hd⟩
theorem DVs.grow (g:Grow K W W' H H'):∀{ds:List PyData}{vs:List V},DVs K H W ds vs→DVs K H' W' ds vs
 | [],vs,h=>by unfold DVs at h ⊢;exact h
 | d::ds,vs,h=>by
   unfold DVs at h ⊢
   obtain⟨v,r,e,h1,h2⟩:=h
   exact⟨v,r,e,DV.grow g h1,DVs.grow g h2⟩
theorem DKV.grow (g:Grow K W W' H H'):∀{ds:List (PyData×PyData)}{vs:List (Key×V)},DKV K H W ds vs→DKV K H' W' ds vs
 | [],vs,h=>by unfold DKV at h ⊢;exact h
 | (k,d)::ds,vs,h=>by
   unfold DKV at h ⊢
   obtain⟨k',v,r,e,e2,h1,h2⟩:=h
   exact⟨k',v,r,e,e2,DV.grow g h1,DKV.grow g h2⟩
end
theorem Grow.trans (a:Grow K W W' H H') (b:Grow K W' W2 H' H2):Grow K W W2 H H2:=by
 refine⟨fun x o h nw=>?_,fun x w=>?_⟩
 · have nw':¬W' x:=fun w=>by
     rcases a.new x w with z | z
     · exact nw z
     · rw[h] at z;cases z
   rcases a.keep x o h nw with e | ⟨ks,ob,e1,e2⟩
   · exact b.keep x o e nw'
   · exact .inr ⟨ks,ob,e1,b.kept e2 nw' fun _ z=>nomatch z⟩
 · rcases b.new x w with z | z1
   · exact a.new x z
   · by_cases hx:W x
     · exact .inl hx
     · refine .inr ?_
       cases e:H x with
       | none=>rfl
       | some o=>
         rcases a.keep x o e hx with q | ⟨_,_,_,q⟩ <;> (rw[q] at z1;cases z1)
theorem DVs.length:∀{ds:List PyData}{vs:List V},DVs K H W ds vs→vs.length=ds.length
 | [],vs,h=>by unfold DVs at h;subst h;rfl
 | d::ds,vs,h=>by
   unfold DVs at h
   obtain⟨v,r,e,h1,h2⟩:=h
   subst e
   simp[DVs.length h2]
theorem DVs.get:∀{ds:List PyData}{vs:List V}{i:Nat}{v:V},DVs K H W ds vs→vs[i]?=some v→∃d,ds[i]?=some d∧DV K H W d v
 | [],vs,i,v,h,e=>by unfold DVs at h;subst h;simp at e
 | d::ds,vs,i,v,h,e=>by
   unfold DVs at h
   obtain⟨u,r,e',h1,h2⟩:=h
   subst e'
   cases i with
   | zero=>simp at e;subst e;exact⟨d,rfl,h1⟩
   | succ i=>simpa using DVs.get h2 (by simpa using e)
theorem DVs.get':∀{ds:List PyData}{vs:List V}{i:Nat}{d:PyData},DVs K H W ds vs→ds[i]?=some d→∃v,vs[i]?=some v∧DV K H W d v
 | [],vs,i,v,h,e=>by simp at e
 | d::ds,vs,i,v,h,e=>by
   unfold DVs at h
   obtain⟨u,r,e',h1,h2⟩:=h
   subst e'
   cases i with
   | zero=>simp at e;subst e;exact⟨u,rfl,h1⟩
   | succ i=>simpa using DVs.get' h2 (by simpa using e)
theorem DVs.nil:DVs K H W [] []:=by unfold DVs;rfl
theorem DVs.cons {d:PyData}{v:V}{ds:List PyData}{vs:List V}(h:DV K H W d v) (t:DVs K H W ds vs):DVs K H W (d::ds) (v::vs):=by unfold DVs;exact⟨v,vs,rfl,h,t⟩
theorem DVs.append:∀{ds es:List PyData}{vs us:List V},DVs K H W ds vs→DVs K H W es us→DVs K H W (ds++es) (vs++us)
 | [],es,vs,us,h,t=>by unfold DVs at h;subst h;exact t
 | d::ds,es,vs,us,h,t=>by
   unfold DVs at h
   obtain⟨u,r,e',h1,h2⟩:=h
   subst e'
   exact DVs.cons h1 (DVs.append h2 t)
theorem DVs.set:∀{ds:List PyData}{vs:List V}{d:PyData}{v:V}(i:Nat),DVs K H W ds vs→DV K H W d v→DVs K H W (ds.set i d) (vs.set i v)
 | [],vs,d,v,i,h,t=>by unfold DVs at h;subst h;exact DVs.nil
 | e::ds,vs,d,v,i,h,t=>by
   unfold DVs at h
   obtain⟨u,r,e',h1,h2⟩:=h
   subst e'
   cases i with
   | zero=>exact DVs.cons t h2
   | succ i=>exact DVs.cons h1 (DVs.set i h2 t)
theorem DVs.drop:∀{ds:List PyData}{vs:List V}(i:Nat),DVs K H W ds vs→DVs K H W (ds.drop i) (vs.drop i)
 | ds,vs,0,h=>h
 | [],vs,i+1,h=>by unfold DVs at h;subst h;exact DVs.nil
 | e::ds,vs,i+1,h=>by
   unfold DVs at h
   obtain⟨u,r,e',h1,h2⟩:=h
   subst e'
   exact DVs.drop i h2
theorem DVs.take:∀{ds:List PyData}{vs:List V}(i:Nat),DVs K H W ds vs→DVs K H W (ds.take i) (vs.take i)
 | ds,vs,0,h=>DVs.nil
 | [],vs,i+1,h=>by unfold DVs at h;subst h;exact DVs.nil
 | e::ds,vs,i+1,h=>by
   unfold DVs at h
   obtain⟨u,r,e',h1,h2⟩:=h
   subst e'
   exact DVs.cons h1 (DVs.take i h2)
theorem QC:∀{bs:List Bool}{vs:List V},DVs K H W (bs.map PyData.bool) vs→vs=bs.map V.bl
 | [],vs,h=>by unfold DVs at h;exact h
 | b::bs,vs,h=>by
   simp only[zI] at h
   unfold DVs at h
   obtain⟨u,r,e',h1,h2⟩:=h
   unfold DV at h1
   subst e' h1
   rw[QC h2];rfl
theorem HH:∀{bs:List Str}{vs:List V},DVs K H W (bs.map PyData.str) vs→vs=bs.map V.str
 | [],vs,h=>by unfold DVs at h;exact h
 | b::bs,vs,h=>by
   simp only[zI] at h
   unfold DVs at h
   obtain⟨u,r,e',h1,h2⟩:=h
   unfold DV at h1
   subst e' h1
   rw[HH h2];rfl
theorem M0:∀{bs:List Int},DVs K H W (bs.map PyData.int) (bs.map V.int)
 | []=>DVs.nil
 | b::bs=>DVs.cons (by unfold DV;rfl) M0
end
section
variable {X:Cx}{pins:List (Addr×Obj)}{σ:St}{H:Hp}{s:Shared}{W:Addr→Prop}
mutual
theorem DV.reads (I:Inv X pins σ H s):∀{d:PyData}{v:V}{u:Value},d.canLay0=true→DV X.K H W d v→RelV v u→∃as,PySem.Reads s.heap u d as
 | .none,v,u,c,h,r=>by unfold DV at h;subst h;cases r;exact⟨_,.none⟩
 | .bool b,v,u,c,h,r=>by unfold DV at h;subst h;cases r;exact⟨_,.bool b⟩
 | .int i,v,u,c,h,r=>by unfold DV at h;subst h;obtain⟨t,rfl⟩:=r;exact⟨_,.int i t⟩
 | .str x,v,u,c,h,r=>by unfold DV at h;subst h;obtain⟨t,rfl⟩:=r;exact⟨_,.str x t⟩
 | .list ds,v,u,c,h,r=>by
   unfold DV at h
   obtain⟨a,vs,rfl,hs,hd⟩:=h
   cases r
   obtain⟨its,rv,⟨o,n,e,hc,_,dd⟩,_⟩:=I.list hs.sq
   obtain⟨as,q⟩:=DVs.reads I (by simpa [PyData.canLay0] using c) hd rv
   exact⟨_,.list e hc dd (by simpa using q)⟩
 | .tuple ds,v,u,c,h,r=>by
   unfold DV at h
   obtain⟨a,vs,rfl,hs,hd⟩:=h
   cases r
   obtain⟨its,rv,⟨o,e,hc,n,dd⟩,_⟩:=I.tuple hs.sq
   obtain⟨as,q⟩:=DVs.reads I (by simpa [PyData.canLay0] using c) hd rv
   exact⟨_,.tuple e hc dd (by simpa using q)⟩
 | .dict kvs,v,u,c,h,r=>by simp[PyData.canLay0] at c
theorem DVs.reads (I:Inv X pins σ H s):∀{ds:List PyData}{vs:List V}{us:List Value},PyData.canLayAll0 ds=true→DVs X.K H W ds vs→Vals vs us→∃as,PySem.ReadsAll s.heap us ds as
 | [],vs,us,c,h,r=>by unfold DVs at h;subst h;cases r;exact⟨_,.nil⟩
 | d::ds,vs,us,c,h,r=>by
   unfold DVs at h
   obtain⟨v,q,rfl,h1,h2⟩:=h
   cases r with
   | cons r1 r2=>
     simp[PyData.canLayAll0] at c
     obtain⟨as,q1⟩:=DV.reads I c.1 h1 r1
     obtain⟨bs,q2⟩:=DVs.reads I c.2 h2 r2
     exact⟨_,.cons q1 q2⟩
end
def dJ (K:Frg) (neg:Bool):R2:=fun x y H Q=>∃(W:Addr→Prop) (da db:PyData),DV K H W da x∧DV K H W db y∧zH da=true∧zH db=true∧Q (.bl (if neg then !PyData.eqv da db else PyData.eqv da db)) H
theorem qA (hu:X.A.units+64 < cLine):OpR X (compareOp .Eq) (dJ X.K false):=by
 intro pins s σ H x y v u Q I rx ry h
 obtain⟨W,da,db,h1,h2,s1,s2,q⟩:=h
 obtain⟨as,r1⟩:=h1.reads I (zG s1) rx
 obtain⟨bs,r2⟩:=h2.reads I (zG s2) ry
 exact PySem.SeqAt.compareEq_shaped r1 r2 s1 s2 hu ⟨.bl _,H,I,rfl,q⟩
theorem qB (hu:X.A.units+64 < cLine):OpR X (compareOp .NotEq) (dJ X.K true):=by
 intro pins s σ H x y v u Q I rx ry h
 obtain⟨W,da,db,h1,h2,s1,s2,q⟩:=h
 obtain⟨as,r1⟩:=h1.reads I (zG s1) rx
 obtain⟨bs,r2⟩:=h2.reads I (zG s2) ry
 exact PySem.SeqAt.compareNe_shaped r1 r2 s1 s2 hu ⟨.bl _,H,I,rfl,q⟩
end
end L2
namespace DL
open PySem PySem.Spec L2
abbrev St:=L2.St
inductive MO where
 | l (ds:List PyData)
 | d (kvs:List (PyData×PyData))
 | x (C:Addr) (fs:List (Str×PyData))
abbrev Own:=Addr→Option MO
def Own.W (M:Own):Addr→Prop:=fun a=>M a≠none
def Own.put (M:Own) (a:Addr) (o:MO):Own:=fun b=>if b=a then some o else M b
def Own.del (M:Own) (a:Addr):Own:=fun b=>if b=a then none else M b
def Own.Sub (M N:Own):Prop:=∀a o,M a=some o→N a=some o
theorem zU {M:Own}{a:Addr}{o:MO}:M.put a o a=some o:=by unfold Own.put;rw[if_pos rfl]
theorem yH {M:Own}{a b:Addr}{o:MO}(h:b≠a):M.put a o b=M b:=by unfold Own.put;rw[if_neg h]
theorem yI {M:Own}{a:Addr}{o o':MO}:(M.put a o).put a o'=M.put a o':=by
 funext b;unfold Own.put;by_cases h:b=a <;> simp[h]
theorem Own.del_put {M:Own}{a:Addr}{o:MO}(h:M a=none):(M.put a o).del a=M:=by
 funext b;unfold Own.put Own.del
 by_cases e:b=a
 · subst e;simp[h]
 · simp[e]
theorem Own.put_self {M:Own}{a:Addr}{o:MO}(h:M a=some o):M.put a o=M:=by
 funext b;unfold Own.put
 by_cases e:b=a
 · subst e;simp[h]
 · simp[e]
theorem zT (M:Own):M.Sub M:=fun _ _ h=>h
theorem Own.Sub.put {M N:Own}{a:Addr}{o:MO}(h:M.Sub N) (n:M a=none):M.Sub (N.put a o):=fun b x e=>by
 rw[yH (by rintro rfl;rw[n] at e;cases e)];exact h b x e
inductive DS where
 | d (x:PyData)
 | loc (a:Addr)
 | ty (n:String)
def SI (K:Frg) (H:Hp) (M:Own):DS→V→Prop
 | .d x,v=>DV K H M.W x v
 | .loc a,v=>v = .ref a
 | .ty n,v=>v = .ty n
def SIs (K:Frg) (H:Hp) (M:Own):List DS→List V→Prop
 | [],vs=>vs=[]
 | d::ds,vs=>∃v r,vs=v::r∧SI K H M d v∧SIs K H M ds r
def XI (K:Frg) (H:Hp) (W:Addr→Prop):Option Addr→List (Str×PyData)→Prop
 | none,[]=>True
 | some d,[(n,x)]=>∃v,¬W d∧H d=some (.xd [(n,v)])∧DV K H W x v
 | _,_=>False
theorem XI.grow {K:Frg}{W W':Addr→Prop}{H H':Hp}(g:Grow K W W' H H') {dd:Option Addr}{fs:List (Str×PyData)}(h:XI K H W dd fs):XI K H' W' dd fs:=by
 unfold XI at h ⊢
 split at h
 · trivial
 · obtain⟨v,nw,a,b⟩:=h
   exact⟨v,fun z=>(g.new _ z).elim nw fun q=>by(rw[a] at q;cases q),g.kept a nw (fun _ z=>nomatch z),b.grow g⟩
 · exact h.elim
def exK (a C:Addr) (dd:Option Addr):HO:=.ext fun h=>∃o vs,h.get? a=some o∧o.cls = .ref C∧o.dict=dd∧o.data = .fields vs
def OA1 (K:Frg) (H:Hp) (M:Own) (a:Addr):MO→Prop
 | .x C fs=>∃dd,H a=some (exK a C dd)∧XI K H M.W dd fs
 | .l ds=>∃vs,H a=some (.lst vs)∧DVs K H M.W ds vs
 | .d kvs=>∃ks,H a=some (.dK ks)∧DKV K H M.W kvs ks
def OA (K:Frg) (H:Hp) (M:Own):Prop:=∀a o,M a=some o→OA1 K H M a o
structure Step (K:Frg) (M M':Own) (H H':Hp):Prop where
 grow:Grow K M.W M'.W H H'
structure Rel (K:Frg) (M:Own) (ρ:List (Option DS)) (σ:St) (H:Hp):Prop where
 own:OA K H M
 len:ρ.length=σ.length
 slot:∀(i:Nat) x,ρ[i]?=some (some x)→∃v,σ[i]?=some (some v)∧SI K H M x v
section
variable {K:Frg}{M M' M2:Own}{H H' H2:Hp}{ρ:List (Option DS)}{σ:St}
theorem Step.refl:Step K M M H H:=⟨Grow.refl⟩
theorem Step.trans (a:Step K M M' H H') (b:Step K M' M2 H' H2):Step K M M2 H H2:=⟨a.grow.trans b.grow⟩
theorem SI.step (st:Step K M M' H H'):∀{x:DS}{v:V},SI K H M x v→SI K H' M' x v
 | .d _,_,h=>DV.grow st.grow h
 | .loc _,_,h=>h
 | .ty _,_,h=>h
theorem Rel.step (R:Rel K M ρ σ H) (oa:OA K H' M') (st:Step K M M' H H'):Rel K M' ρ σ H':=
 ⟨oa,R.len,fun i x e=>let ⟨v,h1,h2⟩:=R.slot i x e;⟨v,h1,h2.step st⟩⟩
theorem Rel.set (R:Rel K M ρ σ H) {x:DS}{v:V}(h:SI K H M x v) (i:Nat):Rel K M (ρ.set i (some x)) (σ.set i (some v)) H:=by
 refine⟨R.own,by rw[List.length_set,List.length_set];exact R.len,fun j y e=>?_⟩
 rw[List.getElem?_set] at e ⊢
 by_cases hij:i=j
 · rw[if_pos hij] at e ⊢
   subst hij
   by_cases hl:i < ρ.length
   · rw[if_pos hl] at e
     cases e
     rw[if_pos (by rw[← R.len];exact hl)]
     exact⟨v,rfl,h⟩
   · rw[if_neg hl] at e;cases e
 · rw[if_neg hij] at e ⊢
   exact R.slot j y e
theorem OA.none (oa:OA K H M) {p:Addr}(h:H p=Option.none):M p=Option.none:=by
 cases e:M p with
 | none=>rfl
 | some o=>
   have:=oa p o e
   cases o with
   | l ds=>obtain⟨vs,q,_⟩:=this;rw[h] at q;cases q
   | d kvs=>obtain⟨vs,q,_⟩:=this;rw[h] at q;cases q
   | x C fs=>obtain⟨vs,q,_⟩:=this;rw[h] at q;cases q
theorem AW {p:Addr}{o:HO}(W:Addr→Prop) (h:H p=Option.none):Grow K W W H (upd H p o):=
 ⟨fun b u e _=>.inl (by rw[AH (AX e h)];exact e),fun _ w=>.inl w⟩
theorem OA.grow (oa:OA K H M) (g:Grow K M.W M.W H H') (hk:∀a o,M a=some o→H' a=H a):OA K H' M:=fun a o e=>by
 have q:=oa a o e
 cases o with
 | l ds=>obtain⟨vs,q1,q2⟩:=q;exact⟨vs,by rw[hk a _ e];exact q1,q2.grow g⟩
 | d kvs=>obtain⟨vs,q1,q2⟩:=q;exact⟨vs,by rw[hk a _ e];exact q1,q2.grow g⟩
 | x C fs=>obtain⟨vs,q1,q2⟩:=q;exact⟨vs,by rw[hk a _ e];exact q1,q2.grow g⟩
theorem OA.new {p:Addr}{o:HO}(oa:OA K H M) (h:H p=Option.none):OA K (upd H p o) M:=oa.grow (AW _ h) fun a x e=>by
 rw[AH (by rintro rfl;rw[oa.none h] at e;cases e)]
theorem YL {p:Addr}{vs:List V}{ds:List PyData}(oa:OA K H M) (h:H p=Option.none) (hd:DVs K H M.W ds vs) :
   OA K (upd H p (.lst vs)) (M.put p (.l ds))∧Step K M (M.put p (.l ds)) H (upd H p (.lst vs)):=by
 have hM:=oa.none h
 have g:Grow K M.W (M.put p (.l ds)).W H (upd H p (.lst vs)):=⟨fun b u e _=>.inl (by rw[AH (AX e h)];exact e),fun b w=>by
   by_cases hb:b=p
   · subst hb;exact .inr h
   · left;unfold Own.W at w ⊢;rw[yH hb] at w;exact w⟩
 refine⟨fun a o e=>?_,⟨g⟩⟩
 · by_cases ha:a=p
   · subst ha;rw[zU] at e;cases e;exact⟨vs,AG,hd.grow g⟩
   · rw[yH ha] at e
     have q:=oa a o e
     cases o with
     | l ds=>obtain⟨vs,q1,q2⟩:=q;exact⟨vs,by rw[AH ha];exact q1,q2.grow g⟩
     | d kvs=>obtain⟨vs,q1,q2⟩:=q;exact⟨vs,by rw[AH ha];exact q1,q2.grow g⟩
     | x C fs=>obtain⟨vs,q1,q2⟩:=q;exact⟨vs,by rw[AH ha];exact q1,q2.grow g⟩
theorem IN {p:Addr}{vs':List V}{ds':List PyData}{o:MO}(oa:OA K H M) (h:M p=some o) (hd:DVs K H M.W ds' vs') :
   OA K (upd H p (.lst vs')) (M.put p (.l ds'))∧Step K M (M.put p (.l ds')) H (upd H p (.lst vs')):=by
 have hw:∀b,(M.put p (.l ds')).W b→M.W b:=fun b w=>by
   unfold Own.W at w ⊢
   by_cases hb:b=p
   · subst hb;rw[h];simp
   · rw[yH hb] at w;exact w
 have g:Grow K M.W (M.put p (.l ds')).W H (upd H p (.lst vs')):=⟨fun b u e nw=>.inl (by
   rw[AH (by rintro rfl;exact nw (by unfold Own.W;rw[h];simp))];exact e),fun b w=>.inl (hw b w)⟩
 refine⟨fun a o e=>?_,⟨g⟩⟩
 · by_cases ha:a=p
   · subst ha;rw[zU] at e;cases e;exact⟨vs',AG,hd.grow g⟩
   · rw[yH ha] at e
     have q:=oa a o e
     cases o with
     | l ds=>obtain⟨vs,q1,q2⟩:=q;exact⟨vs,by rw[AH ha];exact q1,q2.grow g⟩
     | d kvs=>obtain⟨vs,q1,q2⟩:=q;exact⟨vs,by rw[AH ha];exact q1,q2.grow g⟩
     | x C fs=>obtain⟨vs,q1,q2⟩:=q;exact⟨vs,by rw[AH ha];exact q1,q2.grow g⟩
theorem BB (hs:M'.Sub M):Grow K M.W M'.W H H:=⟨fun _ _ e _=>.inl e,fun b w=>.inl (by
 unfold Own.W at w ⊢
 cases e:M' b with
 | none=>exact absurd e w
 | some o=>rw[hs b o e];simp)⟩
theorem OA.sub (oa:OA K H M) (hs:M'.Sub M):OA K H M':=fun a o e=>by
 have q:=oa a o (hs a o e)
 cases o with
 | l ds=>obtain⟨vs,q1,q2⟩:=q;exact⟨vs,q1,q2.grow (BB hs)⟩
 | d kvs=>obtain⟨vs,q1,q2⟩:=q;exact⟨vs,q1,q2.grow (BB hs)⟩
 | x C fs=>obtain⟨vs,q1,q2⟩:=q;exact⟨vs,q1,q2.grow (BB hs)⟩
theorem SI.sub (hs:M'.Sub M):∀{x:DS}{v:V},SI K H M x v→SI K H M' x v
 | .d _,_,h=>DV.grow (BB hs) h
 | .loc _,_,h=>h
 | .ty _,_,h=>h
end
def DE (K:Frg) (t:TE) (ρ:List (Option DS)) (M:Own) (Q:DS→Own→Prop):Prop:=
 ∀(σ:St) (H:Hp) (QQ:VK),Rel K M ρ σ H→(∀v H' x M',OA K H' M'→SI K H' M' x v→Step K M M' H H'→Q x M'→QQ v H')→t σ H QQ
def DT (K:Frg) (t:TT) (ρ:List (Option DS)) (M:Own) (Q:Bool→Own→Prop):Prop:=
 ∀(σ:St) (H:Hp) (QQ:Bool→Hp→Prop),Rel K M ρ σ H→(∀b H' M',OA K H' M'→Step K M M' H H'→Q b M'→QQ b H')→t σ H QQ
def DA (K:Frg) (t:TA) (ρ:List (Option DS)) (M:Own) (Q:List DS→Own→Prop):Prop:=
 ∀(σ:St) (H:Hp) (QQ:List V→Hp→Prop),Rel K M ρ σ H→(∀vs H' xs M',OA K H' M'→SIs K H' M' xs vs→Step K M M' H H'→Q xs M'→QQ vs H')→t σ H QQ
def DP (K:Frg) (t:TO) (ρ:List (Option DS)) (M:Own) (Q:Option Int→Own→Prop):Prop:=
 ∀(σ:St) (H:Hp) (QQ:Option Int→Hp→Prop),Rel K M ρ σ H→(∀b H' M',OA K H' M'→Step K M M' H H'→Q b M'→QQ b H')→t σ H QQ
structure EndsD where
 nx:List (Option DS)→Own→Prop
 rt:DS→Own→Prop
 bk:List (Option DS)→Own→Prop:=fun _ _=>False
 ct:List (Option DS)→Own→Prop:=fun _ _=>False
def DSt (K:Frg) (t:TS) (ρ:List (Option DS)) (M:Own) (D:EndsD):Prop:=
 ∀(σ:St) (H:Hp) (E:Ends),Rel K M ρ σ H→(∀ρ' M' σ' H',Rel K M' ρ' σ' H'→Step K M M' H H'→D.nx ρ' M'→E.nx σ' H')→(∀v H' x M',OA K H' M'→SI K H' M' x v→Step K M M' H H'→D.rt x M'→E.rt v H') →
   (∀ρ' M' σ' H',Rel K M' ρ' σ' H'→Step K M M' H H'→D.bk ρ' M'→E.bk σ' H')→(∀ρ' M' σ' H',Rel K M' ρ' σ' H'→Step K M M' H H'→D.ct ρ' M'→E.ct σ' H')→t E σ H
def D1 (K:Frg) (r:V→Hp→VK→Prop) (x:DS) (M:Own) (Q:DS→Own→Prop):Prop:=
 ∀(H:Hp) (v:V) (QQ:VK),OA K H M→SI K H M x v→(∀w H' z M',OA K H' M'→SI K H' M' z w→Step K M M' H H'→Q z M'→QQ w H')→r v H QQ
def D2 (K:Frg) (r:R2) (x y:DS) (M:Own) (Q:DS→Own→Prop):Prop:=
 ∀(H:Hp) (v u:V) (QQ:VK),OA K H M→SI K H M x v→SI K H M y u→(∀w H' z M',OA K H' M'→SI K H' M' z w→Step K M M' H H'→Q z M'→QQ w H')→r v u H QQ
def DR (K:Frg) (r:List V→Hp→VK→Prop) (xs:List DS) (M:Own) (Q:DS→Own→Prop):Prop:=
 ∀(H:Hp) (vs:List V) (QQ:VK),OA K H M→SIs K H M xs vs→(∀w H' z M',OA K H' M'→SI K H' M' z w→Step K M M' H H'→Q z M'→QQ w H')→r vs H QQ
def DM (K:Frg) (r:V→List V→Hp→VK→Prop) (x:DS) (xs:List DS) (M:Own) (Q:DS→Own→Prop):Prop:=
 ∀(H:Hp) (v:V) (vs:List V) (QQ:VK),OA K H M→SI K H M x v→SIs K H M xs vs→(∀w H' z M',OA K H' M'→SI K H' M' z w→Step K M M' H H'→Q z M'→QQ w H')→r v vs H QQ
def DSl (K:Frg) (r:V→Option Int→Option Int→Hp→VK→Prop) (x:DS) (lo hi:Option Int) (M:Own) (Q:DS→Own→Prop):Prop:=
 ∀(H:Hp) (v:V) (QQ:VK),OA K H M→SI K H M x v→(∀w H' z M',OA K H' M'→SI K H' M' z w→Step K M M' H H'→Q z M'→QQ w H')→r v lo hi H QQ
def DTy (K:Frg) (T:String) (x:DS) (M:Own):Prop:=∀(H:Hp) (v:V),OA K H M→SI K H M x v→tyV K T v H
section
variable {K:Frg}{ρ:List (Option DS)}{M:Own}{Q:DS→Own→Prop}{QB:Bool→Own→Prop}{ta tb tc:TE}{tA tB':TT}{r r':R2}
theorem YM {t:TE}{Q':DS→Own→Prop}(h:DE K t ρ M Q) (hq:∀x M',Q x M'→Q' x M'):DE K t ρ M Q':=fun σ H QQ R k=>h σ H QQ R fun v H' x M' a b c q=>k v H' x M' a b c (hq x M' q)
theorem qC {i:Nat}{x:DS}(e:ρ[i]?=some (some x)) (h:Q x M):DE K (ZS i) ρ M Q:=fun σ H QQ R k=>by
 obtain⟨v,h1,h2⟩:=R.slot i x e
 exact⟨v,h1,k v H x M R.own h2 Step.refl h⟩
theorem qD {i:Int}(h:Q (.d (.int i)) M):DE K (tC (.int i)) ρ M Q:=fun σ H QQ R k=>k _ H (.d (.int i)) M R.own (by unfold SI DV;rfl) Step.refl h
theorem tQ {i:Bool}(h:Q (.d (.bool i)) M):DE K (tC (.bl i)) ρ M Q:=fun σ H QQ R k=>k _ H (.d (.bool i)) M R.own (by unfold SI DV;rfl) Step.refl h
theorem qE {i:Str}(h:Q (.d (.str i)) M):DE K (tC (.str i)) ρ M Q:=fun σ H QQ R k=>k _ H (.d (.str i)) M R.own (by unfold SI DV;rfl) Step.refl h
theorem qF (h:Q (.d .none) M):DE K (tC .non) ρ M Q:=fun σ H QQ R k=>k _ H (.d .none) M R.own (by unfold SI DV;rfl) Step.refl h
theorem tR {n:String}(h:Q (.ty n) M):DE K (tC (.ty n)) ρ M Q:=fun σ H QQ R k=>k _ H (.ty n) M R.own rfl Step.refl h
theorem tS (h:DE K ta ρ M fun x M1=>DE K tb ρ M1 fun y M2=>D2 K r x y M2 Q):DE K (tOp r ta tb) ρ M Q:=fun σ H QQ R k=>
 h σ H _ R fun v H1 x M1 o1 s1 t1 h1=>h1 σ H1 _ (R.step o1 t1) fun u H2 y M2 o2 s2 t2 h2=>h2 H2 v u QQ o2 (s1.step t2) s2 fun w H3 z M3 o3 s3 t3 q=>k w H3 z M3 o3 s3 ((t1.trans t2).trans t3) q
theorem tT {r:V→Hp→VK→Prop}(h:DE K ta ρ M fun x M1=>D1 K r x M1 Q):DE K (tUn r ta) ρ M Q:=fun σ H QQ R k=>
 h σ H _ R fun v H1 x M1 o1 s1 t1 h1=>h1 H1 v QQ o1 s1 fun w H3 z M3 o3 s3 t3 q=>k w H3 z M3 o3 s3 (t1.trans t3) q
theorem dL (h:DE K ta ρ M fun x M1=>DE K tb ρ M1 fun y M2=>D2 K r x y M2 fun z M3=>∃c,z = .d (.bool c)∧if c=true then DE K tc ρ M3 (fun w M4=>D2 K r' y w M4 Q) else Q (.d (.bool false)) M3) :
   DE K (W1 r r' ta tb tc) ρ M Q:=fun σ H QQ R k=>
 h σ H _ R fun v H1 x M1 o1 s1 t1 h1=>h1 σ H1 _ (R.step o1 t1) fun u H2 y M2 o2 s2 t2 h2=>h2 H2 v u _ o2 (s1.step t2) s2 fun w H3 z M3 o3 s3 t3 q=>by
   obtain⟨c,rfl,q⟩:=q
   unfold SI DV at s3
   refine⟨c,s3,?_⟩
   cases c with
   | false=>
     rw[if_neg nft] at q ⊢
     exact k _ H3 _ M3 o3 (by unfold SI DV;rfl) ((t1.trans t2).trans t3) q
   | true=>
     rw[if_pos rfl] at q ⊢
     exact q σ H3 _ (R.step o3 ((t1.trans t2).trans t3)) fun w4 H4 z4 M4 o4 s4 t4 h4=>h4 H4 u w4 QQ o4 (s2.step (t3.trans t4)) s4 fun w5 H5 z5 M5 o5 s5 t5 q5=>k w5 H5 z5 M5 o5 s5 ((((t1.trans t2).trans t3).trans t4).trans t5) q5
theorem jZ (h:DE K ta ρ M fun x M1=>∃c,x = .d (.bool c)∧QB c M1):DT K (cK ta) ρ M QB:=fun σ H QQ R k=>
 h σ H _ R fun v H1 x M1 o1 s1 t1 h1=>by
   obtain⟨c,rfl,q⟩:=h1
   unfold SI DV at s1
   exact⟨c,s1,k c H1 M1 o1 t1 q⟩
theorem vA (h:DE K ta ρ M fun x M1=>∃c,x = .d (.bool c)∧QB c M1):DT K (L2.tB ta) ρ M QB:=fun σ H QQ R k=>
 h σ H _ R fun v H1 x M1 o1 s1 t1 h1=>by
   obtain⟨c,rfl,q⟩:=h1
   unfold SI DV at s1
   exact⟨c,s1,k c H1 M1 o1 t1 q⟩
theorem qG (h:DT K tA ρ M fun c M1=>if c=true then DT K tB' ρ M1 QB else QB false M1):DT K (sS tA tB') ρ M QB:=fun σ H QQ R k=>
 h σ H _ R fun c H1 M1 o1 t1 h1=>by
   cases c with
   | false=>rw[if_neg nft] at h1 ⊢;exact k _ H1 M1 o1 t1 h1
   | true=>rw[if_pos rfl] at h1 ⊢;exact h1 σ H1 QQ (R.step o1 t1) fun b H2 M2 o2 t2 q=>k b H2 M2 o2 (t1.trans t2) q
theorem tU (h:DT K tA ρ M fun c M1=>if c=true then QB true M1 else DT K tB' ρ M1 QB):DT K (tOr tA tB') ρ M QB:=fun σ H QQ R k=>
 h σ H _ R fun c H1 M1 o1 t1 h1=>by
   cases c with
   | true=>rw[if_pos rfl] at h1 ⊢;exact k _ H1 M1 o1 t1 h1
   | false=>rw[if_neg nft] at h1 ⊢;exact h1 σ H1 QQ (R.step o1 t1) fun b H2 M2 o2 t2 q=>k b H2 M2 o2 (t1.trans t2) q
theorem qH (h:DT K tA ρ M fun c M1=>QB (!c) M1):DT K (sU tA) ρ M QB:=fun σ H QQ R k=>h σ H _ R fun c H1 M1 o1 t1 h1=>k _ H1 M1 o1 t1 h1
theorem qI (h:QB true M):DT K tP ρ M QB:=fun σ H QQ R k=>k true H M R.own Step.refl h
theorem qJ (h:DE K ta ρ M fun x M1=>∃c,x = .d (.bool c)∧if c=true then DE K tb ρ M1 Q else Q (.d (.bool false)) M1):DE K (nA ta tb) ρ M Q:=fun σ H QQ R k=>
 h σ H _ R fun v H1 x M1 o1 s1 t1 h1=>by
   obtain⟨c,rfl,q⟩:=h1
   unfold SI DV at s1
   refine⟨c,s1,?_⟩
   cases c with
   | false=>rw[if_neg nft] at q ⊢;exact k _ H1 _ M1 o1 (by unfold SI DV;rfl) t1 q
   | true=>rw[if_pos rfl] at q ⊢;exact q σ H1 QQ (R.step o1 t1) fun w H2 z M2 o2 s2 t2 q=>k w H2 z M2 o2 s2 (t1.trans t2) q
theorem tV (h:DE K ta ρ M fun x M1=>∃c,x = .d (.bool c)∧if c=true then Q (.d (.bool true)) M1 else DE K tb ρ M1 Q):DE K (sV ta tb) ρ M Q:=fun σ H QQ R k=>
 h σ H _ R fun v H1 x M1 o1 s1 t1 h1=>by
   obtain⟨c,rfl,q⟩:=h1
   unfold SI DV at s1
   refine⟨c,s1,?_⟩
   cases c with
   | true=>rw[if_pos rfl] at q ⊢;exact k _ H1 _ M1 o1 (by unfold SI DV;rfl) t1 q
   | false=>rw[if_neg nft] at q ⊢;exact q σ H1 QQ (R.step o1 t1) fun w H2 z M2 o2 s2 t2 q=>k w H2 z M2 o2 s2 (t1.trans t2) q
theorem qK (h:DE K ta ρ M fun x M1=>∃c,x = .d (.bool c)∧Q (.d (.bool (!c))) M1):DE K (nB ta) ρ M Q:=fun σ H QQ R k=>
 h σ H _ R fun v H1 x M1 o1 s1 t1 h1=>by
   obtain⟨c,rfl,q⟩:=h1
   unfold SI DV at s1
   exact⟨c,s1,k _ H1 _ M1 o1 (by unfold SI DV;rfl) t1 q⟩
theorem tW (h:DT K tA ρ M fun c M1=>if c=true then DE K ta ρ M1 Q else DE K tb ρ M1 Q):DE K (tIf tA ta tb) ρ M Q:=fun σ H QQ R k=>
 h σ H _ R fun c H1 M1 o1 t1 h1=>by
   cases c with
   | true=>rw[if_pos rfl] at h1 ⊢;exact h1 σ H1 QQ (R.step o1 t1) fun w H2 z M2 o2 s2 t2 q=>k w H2 z M2 o2 s2 (t1.trans t2) q
   | false=>rw[if_neg nft] at h1 ⊢;exact h1 σ H1 QQ (R.step o1 t1) fun w H2 z M2 o2 s2 t2 q=>k w H2 z M2 o2 s2 (t1.trans t2) q
variable {QL:List DS→Own→Prop}{tl:TA}
theorem dM (h:QL [] M):DA K pG ρ M QL:=fun σ H QQ R k=>k [] H [] M R.own rfl Step.refl h
theorem k6 (h:DE K ta ρ M fun x M1=>DA K tl ρ M1 fun xs M2=>QL (x::xs) M2):DA K (YC ta tl) ρ M QL:=fun σ H QQ R k=>
 h σ H _ R fun v H1 x M1 o1 s1 t1 h1=>h1 σ H1 _ (R.step o1 t1) fun vs H2 xs M2 o2 s2 t2 q=>k (v::vs) H2 (x::xs) M2 o2 ⟨v,vs,rfl,s1.step t2,s2⟩ (t1.trans t2) q
def NK:List DS→Option (List PyData)
 | []=>some []
 | .d x::r=>match NK r with
   | some l=>some (x::l)
   | none=>none
 | .loc _::_=>none
 | .ty _::_=>none
theorem SIs.data {H:Hp}:∀{xs:List DS}{ds:List PyData}{vs:List V},NK xs=some ds→SIs K H M xs vs→DVs K H M.W ds vs
 | [],ds,vs,e,h=>by cases e;cases h;exact DVs.nil
 | .d x::r,ds,vs,e,⟨v,q,e2,h1,h2⟩=>by
   cases e3:NK r with
   | none=>rw[NK,e3] at e;cases e
   | some es=>
     rw[NK,e3] at e;cases e
     subst e2
     exact DVs.cons h1 (SIs.data e3 h2)
 | .loc _::_,ds,vs,e,_=>by cases e
 | .ty _::_,ds,vs,e,_=>by cases e
theorem SIs.length {H:Hp}:∀{xs:List DS}{vs:List V},SIs K H M xs vs→vs.length=xs.length
 | [],vs,h=>by cases h;rfl
 | _::r,vs,⟨v,q,e2,h1,h2⟩=>by subst e2;simp[SIs.length h2]
theorem qL (h:DA K tl ρ M fun xs M1=>∃ds,NK xs=some ds∧ds.length≤sizeLine∧Q (.d (.tuple ds)) M1):DE K (pH tl) ρ M Q:=fun σ H QQ R k=>
 h σ H _ R fun vs H1 xs M1 o1 s1 t1 h1=>by
   obtain⟨ds,e,hz,q⟩:=h1
   have hd:=s1.data e
   refine⟨by rw[hd.length];exact hz,fun p hp=>?_⟩
   have g:Grow K M1.W M1.W H1 (upd H1 p (.tup vs)):=AW _ hp
   refine k _ _ (.d (.tuple ds)) M1 (o1.new hp) ?_ (t1.trans ⟨g⟩) q
   unfold SI DV
   exact⟨p,vs,rfl,.inl ⟨fun w=>w (o1.none hp),.inl AG⟩,hd.grow g⟩
theorem NL (h:DA K tl ρ M fun xs M1=>∃ds,NK xs=some ds∧ds.length≤sizeLine∧Q (.d (.list ds)) M1):DE K (pI tl) ρ M Q:=fun σ H QQ R k=>
 h σ H _ R fun vs H1 xs M1 o1 s1 t1 h1=>by
   obtain⟨ds,e,hz,q⟩:=h1
   have hd:=s1.data e
   refine⟨by rw[hd.length];exact hz,fun p hp=>?_⟩
   have g:Grow K M1.W M1.W H1 (upd H1 p (.lst vs)):=AW _ hp
   refine k _ _ (.d (.list ds)) M1 (o1.new hp) ?_ (t1.trans ⟨g⟩) q
   unfold SI DV
   exact⟨p,vs,rfl,.inl ⟨fun w=>w (o1.none hp),.inl AG⟩,hd.grow g⟩
theorem G7 (h:DA K tl ρ M fun xs M1=>∃ds,NK xs=some ds∧ds.length≤sizeLine∧∀p,M1 p=none→Q (.loc p) (M1.put p (.l ds))):DE K (pI tl) ρ M Q:=fun σ H QQ R k=>
 h σ H _ R fun vs H1 xs M1 o1 s1 t1 h1=>by
   obtain⟨ds,e,hz,q⟩:=h1
   have hd:=s1.data e
   refine⟨by rw[hd.length];exact hz,fun p hp=>?_⟩
   obtain⟨a,b⟩:=YL o1 hp hd
   exact k _ _ (.loc p) _ a rfl (t1.trans b) (q p (o1.none hp))
theorem tX {r:List V→Hp→VK→Prop}(h:DA K tl ρ M fun xs M1=>DR K r xs M1 Q):DE K (tCB r tl) ρ M Q:=fun σ H QQ R k=>
 h σ H _ R fun vs H1 xs M1 o1 s1 t1 h1=>h1 H1 vs QQ o1 s1 fun w H2 z M2 o2 s2 t2 q=>k w H2 z M2 o2 s2 (t1.trans t2) q
structure FSp where
 pre:List DS→Own→Prop
 post:List DS→Own→DS→Own→Prop
def spD (K:Frg) (n:Nat) (S:FSp):Sp:=fun vs H Q _=>∃xs M,xs.length=n∧OA K H M∧SIs K H M xs vs∧S.pre xs M∧∀x M' v H',S.post xs M x M'→Step K M M' H H'→OA K H' M'→SI K H' M' x v→Q v H'
theorem YN {n:Nat}{S:FSp}:∀vs H Q E,spD K n S vs H Q E→vs.length=n:=fun vs H Q E ⟨xs,M,hl,_,h,_⟩=>by rw[h.length,hl]
theorem k7 {n:Nat}{S:FSp}{E:XK}(h:DA K tl ρ M fun xs M1=>xs.length=n∧S.pre xs M1∧∀x M',S.post xs M1 x M'→Q x M'):DE K (YE (spD K n S) [] E tl) ρ M Q:=fun σ H QQ R k=>
 h σ H _ R fun vs H1 xs M1 o1 s1 t1 ⟨h0,h1,h2⟩=>by
   show spD K n S (vs++[]) H1 QQ E
   rw[List.append_nil]
   exact⟨xs,M1,h0,o1,s1,h1,fun x M' v H' p st oa si=>k v H' x M' oa si (t1.trans st) (h2 x M' p)⟩
theorem J8 {T:String}{r:V→List V→Hp→VK→Prop}(h:DE K ta ρ M fun x M1=>DTy K T x M1∧DA K tl ρ M1 fun xs M2=>DM K r x xs M2 Q):DE K (tBM K T r ta tl) ρ M Q:=fun σ H QQ R k=>
 h σ H _ R fun v H1 x M1 o1 s1 t1 ⟨h0,h1⟩=>⟨h0 H1 v o1 s1,h1 σ H1 _ (R.step o1 t1) fun vs H2 xs M2 o2 s2 t2 h2=>h2 H2 v vs QQ o2 (s1.step t2) s2 fun w H3 z M3 o3 s3 t3 q=>k w H3 z M3 o3 s3 ((t1.trans t2).trans t3) q⟩
theorem k8 {QP:Option Int→Own→Prop}(h:QP none M):DP K YG ρ M QP:=fun σ H QQ R k=>k _ H M R.own Step.refl h
theorem k9 {QP:Option Int→Own→Prop}(h:DE K ta ρ M fun x M1=>∃i,x = .d (.int i)∧QP (some i) M1):DP K (nJ ta) ρ M QP:=fun σ H QQ R k=>
 h σ H _ R fun v H1 x M1 o1 s1 t1 h1=>by
   obtain⟨i,rfl,q⟩:=h1
   unfold SI DV at s1
   exact⟨i,s1,k _ H1 M1 o1 t1 q⟩
theorem tY {r:V→Option Int→Option Int→Hp→VK→Prop}{tl th:TO}(h:DE K ta ρ M fun x M1=>DP K tl ρ M1 fun lo M2=>DP K th ρ M2 fun hi M3=>DSl K r x lo hi M3 Q):DE K (tSl r ta tl th) ρ M Q:=fun σ H QQ R k=>
 h σ H _ R fun v H1 x M1 o1 s1 t1 h1=>h1 σ H1 _ (R.step o1 t1) fun lo H2 M2 o2 t2 h2=>h2 σ H2 _ (R.step o2 (t1.trans t2)) fun hi H3 M3 o3 t3 h3=>h3 H3 v QQ o3 (s1.step (t2.trans t3)) fun w H4 z M4 o4 s4 t4 q=>k w H4 z M4 o4 s4 (((t1.trans t2).trans t3).trans t4) q
variable {D:EndsD}{t u:TS}
theorem YO (h:D.nx ρ M):DSt K nC ρ M D:=fun σ H E R k1 _ _ _=>k1 ρ M σ H R Step.refl h
theorem dN (h:DE K ta ρ M D.rt):DSt K (sY ta) ρ M D:=fun σ H E R _ k2 _ _=>h σ H E.rt R fun v H' x M' a b c q=>k2 v H' x M' a b c q
theorem YQ (h:DE K ta ρ M fun _ M1=>D.nx ρ M1):DSt K (cD ta) ρ M D:=fun σ H E R k1 _ _ _=>h σ H _ R fun v H' x M' a b c q=>k1 ρ M' σ H' (R.step a c) c q
theorem dO {i:Nat}(h:DE K ta ρ M fun x M1=>D.nx (ρ.set i (some x)) M1):DSt K (ZT ta (LX i)) ρ M D:=fun σ H E R k1 _ _ _=>
 h σ H _ R fun v H' x M' a b c q=>k1 _ M' _ H' ((R.step a c).set b i) c q
theorem YR {i:Nat}(h:DE K ta ρ M fun x M1=>D.nx (ρ.set i (some x)) M1):DSt K (fun D σ H=>ta σ H fun v H'=>D.nx (σ.set i (some v)) H') ρ M D:=fun σ H E R k1 _ _ _=>
 h σ H _ R fun v H' x M' a b c q=>k1 _ M' _ H' ((R.step a c).set b i) c q
theorem dP (h:DSt K t ρ M { D with nx:=fun ρ1 M1=>DSt K u ρ1 M1 D }):DSt K (jB t u) ρ M D:=fun σ H E R k1 k2 k3 k4=>by
 refine h σ H { E with nx:=fun σ' H'=>u E σ' H' } R (fun ρ1 M1 σ1 H1 R1 t1 q=>?_) k2 k3 k4
 exact q σ1 H1 E R1 (fun a b c d e f g=>k1 a b c d e (t1.trans f) g) (fun a b c d e f g q=>k2 a b c d e f (t1.trans g) q) (fun a b c d e f g=>k3 a b c d e (t1.trans f) g) (fun a b c d e f g=>k4 a b c d e (t1.trans f) g)
theorem tZ (h:DT K tA ρ M fun c M1=>if c=true then DSt K t ρ M1 D else DSt K u ρ M1 D):DSt K (oU tA t u) ρ M D:=fun σ H E R k1 k2 k3 k4=>
 h σ H _ R fun c H1 M1 o1 t1 h1=>by
   have go:∀{w:TS},DSt K w ρ M1 D→w E σ H1:=fun q=>q σ H1 E (R.step o1 t1) (fun a b c d e f g=>k1 a b c d e (t1.trans f) g) (fun a b c d e f g q=>k2 a b c d e f (t1.trans g) q) (fun a b c d e f g=>k3 a b c d e (t1.trans f) g) (fun a b c d e f g=>k4 a b c d e (t1.trans f) g)
   cases c with
   | true=>rw[if_pos rfl] at h1 ⊢;exact go h1
   | false=>rw[if_neg nft] at h1 ⊢;exact go h1
theorem kA {D':EndsD}(h:DSt K t ρ M D) (h1:∀ρ' M',D.nx ρ' M'→D'.nx ρ' M') (h2:∀x M',D.rt x M'→D'.rt x M') (h3:∀ρ' M',D.bk ρ' M'→D'.bk ρ' M') (h4:∀ρ' M',D.ct ρ' M'→D'.ct ρ' M'):DSt K t ρ M D':=
 fun σ H E R k1 k2 k3 k4=>h σ H E R (fun a b c d e f g=>k1 a b c d e f (h1 _ _ g)) (fun a b c d e f g q=>k2 a b c d e f g (h2 _ _ q)) (fun a b c d e f g=>k3 a b c d e f (h3 _ _ g)) (fun a b c d e f g=>k4 a b c d e f (h4 _ _ g))
theorem aB {i:Nat}{a:Addr}{ds:List PyData}(e:ρ[i]?=some (some (.loc a))) (m:M a=some (.l ds)) (h:DSt K t (ρ.set i (some (.d (.list ds)))) (M.del a) D):DSt K t ρ M D:=fun σ H E R k1 k2 k3 k4=>by
 have hs:(M.del a).Sub M:=fun b o q=>by
   unfold Own.del at q
   by_cases hb:b=a
   · rw[if_pos hb] at q;cases q
   · rw[if_neg hb] at q;exact q
 have st:Step K M (M.del a) H H:=⟨BB hs⟩
 obtain⟨v,e1,e2⟩:=R.slot i _ e
 obtain⟨vs,q1,q2⟩:=R.own a _ m
 have R1:Rel K (M.del a) ρ σ H:=R.step (R.own.sub hs) st
 have R2:=R1.set (x:=.d (.list ds)) (v:=v) (by
   unfold SI DV
   refine⟨a,vs,e2,.inl ⟨fun w=>w (by unfold Own.del;rw[if_pos rfl]),.inl q1⟩,q2.grow (BB hs)⟩) i
 have e3:σ.set i (some v)=σ:=by
   apply List.ext_getElem?
   intro j
   rw[List.getElem?_set]
   by_cases hij:i=j
   · subst hij
     rw[if_pos rfl,e1]
     split
     · rfl
     · rename_i hl
       rw[List.getElem?_eq_none (by omega)] at e1;cases e1
   · rw[if_neg hij]
 rw[e3] at R2
 exact h σ H E R2 (fun a b c d e f g=>k1 a b c d e (st.trans f) g) (fun a b c d e f g q=>k2 a b c d e f (st.trans g) q) (fun a b c d e f g=>k3 a b c d e (st.trans f) g) (fun a b c d e f g=>k4 a b c d e (st.trans f) g)
end
end DL
namespace DL
open PySem PySem.Spec L2
section
variable {K:Frg}{ρ:List (Option DS)}{M:Own}{Q:DS→Own→Prop}{H:Hp}
theorem BE {i:Int}{v:V}(h:SI K H M (.d (.int i)) v):v = .int i:=by unfold SI DV at h;exact h
theorem u0 {i:Bool}{v:V}(h:SI K H M (.d (.bool i)) v):v = .bl i:=by unfold SI DV at h;exact h
theorem AT {i:Str}{v:V}(h:SI K H M (.d (.str i)) v):v = .str i:=by unfold SI DV at h;exact h
theorem dQ {v:V}(h:SI K H M (.d .none) v):v = .non:=by unfold SI DV at h;exact h
theorem BR {i:Int}:SI K H M (.d (.int i)) (.int i):=by unfold SI DV;rfl
theorem AL {i:Bool}:SI K H M (.d (.bool i)) (.bl i):=by unfold SI DV;rfl
theorem BS {i:Str}:SI K H M (.d (.str i)) (.str i):=by unfold SI DV;rfl
theorem u4 {g:Int→Int→Int}{i j:Int}(q:Q (.d (.int (g i j))) M):D2 K (rI0 fun i j=>.int (g i j)) (.d (.int i)) (.d (.int j)) M Q:=fun H v u QQ oa s1 s2 k=>by
 rw[BE s1,BE s2];exact⟨i,j,rfl,rfl,k _ H _ M oa BR Step.refl q⟩
theorem u5 {g:Int→Int→Bool}{i j:Int}(q:Q (.d (.bool (g i j))) M):D2 K (rI0 fun i j=>.bl (g i j)) (.d (.int i)) (.d (.int j)) M Q:=fun H v u QQ oa s1 s2 k=>by
 rw[BE s1,BE s2];exact⟨i,j,rfl,rfl,k _ H _ M oa AL Step.refl q⟩
theorem u6 {C:Int→Int→Prop}{g:Int→Int→Int}{i j:Int}(c:C i j) (q:Q (.d (.int (g i j))) M):D2 K (rI C fun i j=>.int (g i j)) (.d (.int i)) (.d (.int j)) M Q:=fun H v u QQ oa s1 s2 k=>by
 rw[BE s1,BE s2];exact⟨i,j,rfl,rfl,c,k _ H _ M oa BR Step.refl q⟩
theorem vB {g:Int→Int}{i:Int}(q:Q (.d (.int (g i))) M):D1 K (rU fun i=>.int (g i)) (.d (.int i)) M Q:=fun H v QQ oa s1 k=>by
 rw[BE s1];exact⟨i,rfl,k _ H _ M oa BR Step.refl q⟩
theorem kB {i j:Str}(hz:i.length+j.length≤sizeLine) (q:Q (.d (.str (i++j))) M) :
   D2 K (fun x y H Q=>∃i j,x = .str i∧y = .str j∧i.length+j.length≤sizeLine∧Q (.str (i++j)) H) (.d (.str i)) (.d (.str j)) M Q:=fun H v u QQ oa s1 s2 k=>by
 rw[AT s1,AT s2];exact⟨i,j,rfl,rfl,hz,k _ H _ M oa BS Step.refl q⟩
theorem qM {i j:Str}(q:Q (.d (.bool (!(Builtin.Str.occurrences j i 0 j.length 1).isEmpty))) M) :
   D2 K (fun x y H Q=>∃i j,x = .str i∧y = .str j∧Q (.bl (!(Builtin.Str.occurrences j i 0 j.length 1).isEmpty)) H) (.d (.str i)) (.d (.str j)) M Q:=fun H v u QQ oa s1 s2 k=>by
 rw[AT s1,AT s2];exact⟨i,j,rfl,rfl,k _ H _ M oa AL Step.refl q⟩
theorem AE {neg:Bool}{a b:PyData}(ha:zH a=true) (hb:zH b=true) (q:Q (.d (.bool (if neg then !PyData.eqv a b else PyData.eqv a b))) M):D2 K (dJ K neg) (.d a) (.d b) M Q:=fun H v u QQ oa s1 s2 k=>
 ⟨M.W,a,b,s1,s2,ha,hb,k _ H _ M oa AL Step.refl q⟩
theorem TL (x:Str) (ys:List Str):inV (.str x) (ys.map V.str)=decide (x∈ys):=by
 unfold inV
 rw[Bool.eq_iff_iff,List.any_eq_true,decide_eq_true_iff]
 constructor
 · rintro⟨y,hy,e⟩
   obtain⟨z,hz,rfl⟩:=zL.mp hy
   have:z=x:=by simpa [eqV] using e
   subst this;exact hz
 · intro h
   exact⟨.str x,zL.mpr ⟨x,h,rfl⟩,by simp[eqV]⟩
theorem qN {neg:Bool}{x:Str}{ys:List Str}(q:Q (.d (.bool (if neg then !decide (x∈ys) else decide (x∈ys)))) M):D2 K (rIn K neg) (.d (.str x)) (.d (.list (ys.map .str))) M Q:=fun H v u QQ oa s1 s2 k=>by
 rw[AT s1]
 unfold SI DV at s2
 obtain⟨a,vs,rfl,hl,hd⟩:=s2
 have e:=HH hd
 subst e
 exact⟨a,_,rfl,.inl hl.sq,rfl,by simp[J3],k _ H (.d (.bool (if neg then !decide (x∈ys) else decide (x∈ys)))) M oa (by rw[TL];exact AL) Step.refl q⟩
theorem WC {W:Addr→Prop}{ds:List PyData}{vs:List V}{i:Int}{d:PyData}(h:DVs K H W ds vs) (e:atI ds i=some d):∃v,atI vs i=some v∧DV K H W d v:=by
 unfold atI at e ⊢
 rw[h.length]
 cases hx:ixN ds.length i with
 | none=>rw[hx] at e;cases e
 | some j=>rw[hx] at e;simpa using h.get' (by simpa using e)
theorem qO {ds:List PyData}{i:Int}{d:PyData}(e:atI ds i=some d) (q:Q (.d d) M):D2 K (jM K) (.d (.list ds)) (.d (.int i)) M Q:=fun H v u QQ oa s1 s2 k=>by
 rw[BE s2]
 unfold SI DV at s1
 obtain⟨a,vs,rfl,hl,hd⟩:=s1
 obtain⟨w,h1,h2⟩:=WC hd e
 exact⟨a,vs,i,w,rfl,rfl,hl.sq,h1,k _ H (.d d) M oa h2 Step.refl q⟩
theorem qP {ds:List PyData}{i:Int}{d:PyData}(e:atI ds i=some d) (q:Q (.d d) M):D2 K (pO K) (.d (.tuple ds)) (.d (.int i)) M Q:=fun H v u QQ oa s1 s2 k=>by
 rw[BE s2]
 unfold SI DV at s1
 obtain⟨a,vs,rfl,hl,hd⟩:=s1
 obtain⟨w,h1,h2⟩:=WC hd e
 exact⟨a,vs,i,w,rfl,rfl,hl.sq,h1,k _ H (.d d) M oa h2 Step.refl q⟩
theorem qQ {a:Addr}{ds:List PyData}{i:Int}{d:PyData}(m:M a=some (.l ds)) (e:atI ds i=some d) (q:Q (.d d) M):D2 K (jM K) (.loc a) (.d (.int i)) M Q:=fun H v u QQ oa s1 s2 k=>by
 rw[BE s2]
 unfold SI at s1
 subst s1
 obtain⟨vs,h0,hd⟩:=oa a _ m
 obtain⟨w,h1,h2⟩:=WC hd e
 exact⟨a,vs,i,w,rfl,rfl,SqL.of h0,h1,k _ H (.d d) M oa h2 Step.refl q⟩
theorem qR {z:Str}{i:Int}{c:Nat}(hz:z.length≤sizeLine) (e:atI z.cps.toList i=some c) (q:Q (.d (.str ⟨#[c]⟩)) M):D2 K pP (.d (.str z)) (.d (.int i)) M Q:=fun H v u QQ oa s1 s2 k=>by
 rw[BE s2,AT s1]
 exact⟨z,i,c,rfl,rfl,hz,e,k _ H _ M oa BS Step.refl q⟩
theorem EA {r r':R2}{x y:DS}(h:D2 K r x y M Q):D2 K (fun x y H Q=>r x y H Q∨r' x y H Q) x y M Q:=fun H v u QQ oa s1 s2 k=>.inl (h H v u QQ oa s1 s2 k)
theorem G8 {r r':R2}{x y:DS}(h:D2 K r' x y M Q):D2 K (fun x y H Q=>r x y H Q∨r' x y H Q) x y M Q:=fun H v u QQ oa s1 s2 k=>.inr (h H v u QQ oa s1 s2 k)
theorem qS {as bs:List PyData}(hz:as.length+bs.length≤sizeLine) (q:Q (.d (.list (as++bs))) M):D2 K (fun x y H Q=>∃a b xs ys,x = .ref a∧y = .ref b∧SqL K H a xs∧SqL K H b ys∧xs.length+ys.length≤sizeLine∧∀p,H p=none→Q (.ref p) (upd H p (.lst (xs++ys)))) (.d (.list as)) (.d (.list bs)) M Q:=fun H v u QQ oa s1 s2 k=>by
 unfold SI DV at s1 s2
 obtain⟨a,vs,rfl,hl,hd⟩:=s1
 obtain⟨b,us,rfl,hl2,hd2⟩:=s2
 refine⟨a,b,vs,us,rfl,rfl,hl.sq,hl2.sq,by rw[hd.length,hd2.length];exact hz,fun p hp=>?_⟩
 have g:Grow K M.W M.W H (upd H p (.lst (vs++us))):=AW _ hp
 refine k _ _ (.d (.list (as++bs))) M (oa.new hp) ?_ ⟨g⟩ q
 unfold SI DV
 exact⟨p,_,rfl,.inl ⟨fun w=>w (oa.none hp),.inl AG⟩,(hd.append hd2).grow g⟩
theorem kC {z:Str}(hz:z.length≤sizeLine) (q:Q (.d (.int z.length)) M):DR K (fun xs H Q=>∃x n,xs=[x]∧cP K x H n∧Q (.int (n:Nat)) H) [.d (.str z)] M Q:=fun H vs QQ oa s k=>by
 obtain⟨v,r,rfl,h1,h2⟩:=s
 cases h2
 rw[AT h1]
 exact⟨_,_,rfl,⟨hz,rfl⟩,k _ H _ M oa BR Step.refl q⟩
theorem kD {ds:List PyData}(q:Q (.d (.int ds.length)) M):DR K (fun xs H Q=>∃x n,xs=[x]∧cP K x H n∧Q (.int (n:Nat)) H) [.d (.list ds)] M Q:=fun H vs QQ oa s k=>by
 obtain⟨v,r,rfl,h1,h2⟩:=s
 cases h2
 unfold SI DV at h1
 obtain⟨a,vs,rfl,hl,hd⟩:=h1
 exact⟨_,_,rfl,.inl ⟨vs,hl.sq,rfl⟩,k _ H (.d (.int ds.length)) M oa (by rw[hd.length];exact BR) Step.refl q⟩
theorem kE {ds:List PyData}(q:Q (.d (.int ds.length)) M):DR K (fun xs H Q=>∃x n,xs=[x]∧cP K x H n∧Q (.int (n:Nat)) H) [.d (.tuple ds)] M Q:=fun H vs QQ oa s k=>by
 obtain⟨v,r,rfl,h1,h2⟩:=s
 cases h2
 unfold SI DV at h1
 obtain⟨a,vs,rfl,hl,hd⟩:=h1
 exact⟨_,_,rfl,.inr ⟨vs,hl.sq,rfl⟩,k _ H (.d (.int ds.length)) M oa (by rw[hd.length];exact BR) Step.refl q⟩
theorem qT {i:Int}(q:Q (.d (.int (if i < 0 then -i else i))) M):DR K (fun xs H Q=>∃i,xs=[.int i]∧Q (.int (if i < 0 then -i else i)) H) [.d (.int i)] M Q:=fun H vs QQ oa s k=>by
 obtain⟨v,r,rfl,h1,h2⟩:=s
 cases h2
 rw[BE h1]
 exact⟨_,rfl,k _ H _ M oa BR Step.refl q⟩
theorem qU {i:Int}(hz:i.natAbs.log2 < 1920) (q:Q (.d (.str (toString i))) M):DR K (fun xs H Q=>∃i:Int,xs=[.int i]∧i.natAbs.log2 < 1920∧Q (.str (toString i)) H) [.d (.int i)] M Q:=fun H vs QQ oa s k=>by
 obtain⟨v,r,rfl,h1,h2⟩:=s
 cases h2
 rw[BE h1]
 exact⟨_,rfl,hz,k _ H _ M oa BS Step.refl q⟩
theorem qV {bs:List Bool}(q:Q (.d (.bool (bs.all id))) M):DR K (fun xs H Q=>∃(p:Addr) (bs:List Bool),xs=[.ref p]∧SqL K H p (bs.map V.bl)∧Q (.bl (bs.all id)) H) [.d (.list (bs.map .bool))] M Q:=fun H vs QQ oa s k=>by
 obtain⟨v,r,rfl,h1,h2⟩:=s
 cases h2
 unfold SI DV at h1
 obtain⟨a,vs,rfl,hl,hd⟩:=h1
 rw[QC hd] at hl
 exact⟨a,bs,rfl,hl.sq,k _ H _ M oa AL Step.refl q⟩
theorem K3 {z:Str}:DTy K "str" (.d (.str z)) M:=fun H v _ s=>by rw[AT s];exact rfl
theorem K4 {a:Addr}{ds:List PyData}(m:M a=some (.l ds)):DTy K "list" (.loc a) M:=fun H v oa s=>by
 unfold SI at s
 subst s
 obtain⟨vs,h0,hd⟩:=oa a _ m
 exact .inl ⟨rfl,vs,SqL.of h0⟩
theorem kF {y:Str}{ys:List Str}(hz:(ys.map (·.length)).sum+ys.length*y.length≤16777216) (q:Q (.d (.str (Txt.join y ys))) M):DM K (dG K) (.d (.str y)) [.d (.list (ys.map .str))] M Q:=fun H v vs QQ oa s1 s2 k=>by
 obtain⟨u,r,rfl,h1,h2⟩:=s2
 cases h2
 rw[AT s1]
 unfold SI DV at h1
 obtain⟨a,us,rfl,hl,hd⟩:=h1
 rw[HH hd] at hl
 exact⟨y,a,ys,rfl,rfl,hl.sq,hz,k _ H _ M oa BS Step.refl q⟩
theorem FU {a:Addr}{ds:List PyData}{d:PyData}(m:M a=some (.l ds)) (hz:ds.length < sizeLine) (q:Q (.d .none) (M.put a (.l (ds++[d])))):DM K RQ (.loc a) [.d d] M Q:=fun H v vs QQ oa s1 s2 k=>by
 obtain⟨u,r,rfl,h1,h2⟩:=s2
 cases h2
 unfold SI at s1
 subst s1
 obtain⟨us,h0,hd⟩:=oa a _ m
 obtain⟨x,y⟩:=IN oa m (hd.append (DVs.cons h1 DVs.nil))
 exact⟨a,us,u,rfl,rfl,h0,by rw[hd.length];exact hz,k _ _ (.d .none) _ x (by unfold SI DV;rfl) y q⟩
theorem kG {z:Str}{lo hi:Option Int}(hz:z.length≤sizeLine) (q:Q (.d (.str (Txt.slice z lo hi))) M):DSl K pY (.d (.str z)) lo hi M Q:=fun H v QQ oa s1 k=>by
 rw[AT s1]
 exact⟨z,rfl,hz,k _ H _ M oa BS Step.refl q⟩
def BU (xs:List PyData) (lo hi:Option Int):List PyData:=(xs.drop (HT.sIx xs.length 0 lo)).take (HT.sIx xs.length xs.length hi - HT.sIx xs.length 0 lo)
theorem dR {ds:List PyData}{lo hi:Option Int}(q:Q (.d (.list (BU ds lo hi))) M):DSl K (pS K) (.d (.list ds)) lo hi M Q:=fun H v QQ oa s1 k=>by
 unfold SI DV at s1
 obtain⟨a,vs,rfl,hl,hd⟩:=s1
 refine⟨a,vs,rfl,hl.sq,fun p hp=>?_⟩
 have g:Grow K M.W M.W H (upd H p (.lst (JJ vs lo hi))):=AW _ hp
 have key:DVs K H M.W (BU ds lo hi) (JJ vs lo hi):=by
   unfold BU JJ
   rw[hd.length]
   exact(hd.drop _).take _
 refine k _ _ (.d (.list (BU ds lo hi))) M (oa.new hp) ?_ ⟨g⟩ q
 unfold SI DV
 exact⟨p,_,rfl,.inl ⟨fun w=>w (oa.none hp),.inl AG⟩,key.grow g⟩
theorem NM {D:EndsD}{te to ti:TE}(h:DE K te ρ M fun x M1=>∃d,x = .d d∧DE K to ρ M1 fun o M2=>DE K ti ρ M2 fun i M3=>∃a ds k j,o = .loc a∧i = .d (.int k)∧M3 a=some (.l ds)∧ixN ds.length k=some j∧D.nx ρ (M3.put a (.l (ds.set j d)))) :
   DSt K (ZT te (oX to ti cV)) ρ M D:=fun σ H E R k1 _ _ _=>
 h σ H _ R fun v H1 x M1 o1 s1 t1 h1=>by
   obtain⟨d,rfl,h1⟩:=h1
   refine h1 σ H1 _ (R.step o1 t1) fun w H2 y M2 o2 s2 t2 h2=>h2 σ H2 _ (R.step o2 (t1.trans t2)) fun u H3 z M3 o3 s3 t3 h3=>?_
   obtain⟨a,ds,k,j,rfl,rfl,m,hj,q⟩:=h3
   rw[BE s3]
   have e:=s2.step t3
   unfold SI at e
   subst e
   obtain⟨vs,h0,hd⟩:=o3 a _ m
   obtain⟨p1,p2⟩:=IN o3 m (hd.set j (s1.step (t2.trans t3)))
   have st:=((t1.trans t2).trans t3).trans p2
   exact⟨a,vs,k,j,rfl,rfl,h0,by rw[hd.length];exact hj,k1 _ _ _ _ (R.step p1 st) st q⟩
end
end DL
namespace DL
open PySem PySem.Spec L2
structure WD (K:Frg) (J:It) (ds:List PyData) (H1:Hp) (M1:Own):Prop where
 go:∀(i:Nat) H' M',i < ds.length→OA K H' M'→Step K M1 M' H1 H'→J.go i H'
 stop:∀H' M',OA K H' M'→Step K M1 M' H1 H'→J.stop ds.length H'
 yld:∀(i:Nat) H' M' x H2,OA K H' M'→Step K M1 M' H1 H'→i < ds.length→J.yld i H' x H2→OA K H2 M'∧Step K M' M' H' H2∧∃d,ds[i]?=some d∧DV K H2 M'.W d x
def DI (K:Frg) (wi:TI) (ρ:List (Option DS)) (M:Own) (Q:List PyData→Own→Prop):Prop:=
 ∀(σ:St) (H:Hp) (R:It→Hp→Prop),Rel K M ρ σ H→(∀J ds H1 M1,OA K H1 M1→Step K M M1 H H1→WD K J ds H1 M1→Q ds M1→R J H1)→wi σ H R
def DG (K:Frg) (g:TG) (d:PyData) (ρ:List (Option DS)) (M:Own) (P:List (Option DS)→Own→Prop):Prop:=
 ∀(σ:St) (H:Hp) (v:V) (QQ:St→Hp→Prop),Rel K M ρ σ H→DV K H M.W d v→(∀ρ' M' σ' H',Rel K M' ρ' σ' H'→Step K M M' H H'→P ρ' M'→QQ σ' H')→g v σ H QQ
def QD (g:TG) (T:List Nat):Prop:=∀(v:V) (σ:St) (H:Hp) (QQ:St→Hp→Prop),g v σ H (fun σ2 H2=>(∀i,i∉T→σ2[i]?=σ[i]?)→QQ σ2 H2)→g v σ H QQ
section
variable {K:Frg}{ρ:List (Option DS)}{M:Own}{D:EndsD}{tl:TE}{tb:TS}{i:Nat}{QI:List PyData→Own→Prop}{g:TG}{wi:TI}
def AI (z:Str):List PyData:=z.cps.toList.map fun c=>.str ⟨#[c]⟩
def ED (lo:Int) (n:Nat):List PyData:=(List.range n).map fun(i:Nat)=>.int (lo+i)
theorem IO {ta:TA}(h:DA K ta ρ M fun xs M1=>∃j:Int,xs=[.d (.int j)]∧-(2 ^ 62)≤j∧j < 2 ^ 62∧QI (ED 0 j.toNat) M1):DI K (nE ta) ρ M QI:=fun σ H R Rl k=>
 h σ H _ Rl fun vs H1 xs M1 o1 s1 t1 ⟨j,e,h1,h2,q⟩=>by
   subst e
   obtain⟨v,r,rfl,h3,h4⟩:=s1
   cases h4
   rw[show v = .int j by unfold SI DV at h3;exact h3]
   have hlen:(ED 0 j.toNat).length=j.toNat:=by simp[ED]
   refine⟨j,rfl,h1,h2,k _ (ED 0 j.toNat) H1 M1 o1 t1 ⟨fun i H' M' hi oa st=>?_,fun H' M' oa st=>?_,fun i H' M' x H2 oa st hi y=>?_⟩ q⟩
   · show i < j.toNat;rw[← hlen];exact hi
   · show j.toNat≤(ED 0 j.toNat).length;rw[hlen];exact zR _
   · obtain⟨rfl,rfl⟩:=y
     refine⟨oa,Step.refl,.int (0+i),?_,by unfold DV;rfl⟩
     unfold ED
     rw[zF]
     rw[hlen] at hi
     simp[hi]
theorem kH {d:PyData}{P:List (Option DS)→Own→Prop}(h:P (ρ.set i (some (.d d))) M):DG K (LX i) d ρ M P:=fun σ H v QQ R dv k=>k _ M _ H (R.set (x:=.d d) dv i) Step.refl h
theorem BV (i:Nat):QD (LX i) [i]:=fun v σ H QQ h=>h fun j hj=>by
 rw[List.getElem?_set_ne (by rintro rfl;exact hj (by simp))]
abbrev EndsD.turn (D:EndsD) (P:List (Option DS)→Own→Prop):EndsD:={ nx:=P,ct:=P,bk:=D.nx,rt:=D.rt }
theorem NN (h:DI K wi ρ M fun ds M1=>∃P:Nat→List (Option DS)→Own→Prop,P 0 ρ M1∧(∀k d ρ' M',ds[k]?=some d→P k ρ' M'→DG K g d ρ' M' fun ρ2 M2=>DSt K tb ρ2 M2 (D.turn (P (k+1))))∧∀ρ' M',P ds.length ρ' M'→D.nx ρ' M') :
   DSt K (p6 wi g tb) ρ M D:=fun σ H E R k1 k2 k3 k4=>
 h σ H _ R fun J ds H1 M1 o1 t1 wd ⟨P,p0,pt,pe⟩=>by
   refine⟨fun i m σ' H'=>m=ds.length - i∧i≤ds.length∧∃ρ' M',Rel K M' ρ' σ' H'∧Step K M1 M' H1 H'∧P i ρ' M',⟨_,rfl,xU _,ρ,M1,R.step o1 t1,Step.refl,p0⟩,?_⟩
   rintro i m σ' H' ⟨rfl,hi,ρ',M',R',st,p⟩
   by_cases hlt:i < ds.length
   · refine .inr ⟨wd.go i H' M' hlt R'.own st,fun σ2 H2=>∃ρ2 M2,Rel K M2 ρ2 σ2 H2∧Step K M1 M2 H1 H2∧P (i+1) ρ2 M2,fun σ2 H2 ⟨ρ2,M2,a,b,c⟩=>⟨ds.length - (i+1),by omega,rfl,hlt,ρ2,M2,a,b,c⟩,fun x H2 y=>?_⟩
     obtain⟨oa2,st2,d,e1,e2⟩:=wd.yld i H' M' x H2 R'.own st hlt y
     refine pt i d ρ' M' e1 p σ' H2 x _ (R'.step oa2 st2) e2 fun ρ3 M3 σ3 H3 R3 st3 b3=>?_
     have s3:=(st.trans st2).trans st3
     exact b3 σ3 H3 _ R3 (fun r m s hh R4 st4 q=>⟨r,m,R4,s3.trans st4,q⟩) (fun w hh x m a b c q=>k2 w hh x m a b (t1.trans (s3.trans c)) q)
       (fun r m s hh R4 st4 q=>k1 r m s hh R4 (t1.trans (s3.trans st4)) q) (fun r m s hh R4 st4 q=>⟨r,m,R4,s3.trans st4,q⟩)
   · have e:i=ds.length:=by omega
     subst e
     exact .inl ⟨wd.stop H' M' R'.own st,k1 ρ' M' σ' H' R' (t1.trans st) (pe ρ' M' p)⟩
def M8 (fr:List (Option Nat)) (ρ:List (Option DS)):List (Option DS):=fr.map fun o=>o.bind fun j=>(ρ[j]?).join
theorem LA {fr:List (Option Nat)}{α:Type}{ρ:List (Option α)}{i:Nat}{x:α}(h:(fr.map fun o=>o.bind fun j=>(ρ[j]?).join)[i]?=some (some x)):∃j,fr[i]?=some (some j)∧ρ[j]?=some (some x):=by
 rw[zF] at h
 cases hf:fr[i]? with
 | none=>rw[hf] at h;cases h
 | some o=>
   rw[hf] at h
   cases o with
   | none=>cases h
   | some j=>
     refine⟨j,rfl,?_⟩
     have e2:((ρ[j]?).join)=some x:=Option.some.inj h
     cases hs:ρ[j]? with
     | none=>rw[hs] at e2;cases e2
     | some q=>rw[hs] at e2;cases q with
       | none=>cases e2
       | some v'=>cases e2;rfl
theorem Rel.capt {fr:List (Option Nat)}{σ:St}{H:Hp}(R:Rel K M ρ σ H):Rel K M (M8 fr ρ) (L2.capt fr σ) H:=by
 refine⟨R.own,by unfold M8 L2.capt;rw[zX,zX],fun i x e=>?_⟩
 obtain⟨j,e1,e2⟩:=LA e
 obtain⟨v,h1,h2⟩:=R.slot j x e2
 refine⟨v,?_,h2⟩
 unfold L2.capt
 rw[zF,e1]
 simp[h1]
theorem RU {fr:List (Option Nat)}{tt:TT}{te:TE}{T:List Nat}{Q:DS→Own→Prop}(ho:QD g T) (hT:∀i∈T,∀j,fr[i]?≠some (some j))
   (h:DI K wi ρ M fun ds M1=>ds.length < sizeLine∧∀D,M1 D=none→∃P:Nat→List PyData→Own→Prop,P 0 [] (M1.put D (.l []))∧(∀k acc M',P k acc M'→M' D=some (.l acc)∧acc.length≤k) ∧
     (∀k d acc M',ds[k]?=some d→P k acc M'→DG K g d (M8 fr ρ) M' fun ρ2 M2=>DT K tt ρ2 M2 fun c M3=>if c=true then DE K te ρ2 M3 fun y M4=>∃r,y = .d r∧M4 D=some (.l acc)∧P (k+1) (acc++[r]) (M4.put D (.l (acc++[r]))) else P (k+1) acc M3) ∧
     ∀acc M',P ds.length acc M'→Q (.d (.list acc)) (M'.del D)) :
   DE K (QA fr wi g tt te) ρ M Q:=fun σ H QQ R k=>
 h σ H _ R fun J ds H1 M1 o1 t1 wd ⟨hsz,hq⟩=>by
   intro A hA
   obtain⟨P,p0,pa,pt,pe⟩:=hq A (o1.none hA)
   obtain⟨oA,sA⟩:=YL o1 hA (DVs.nil (K:=K) (H:=H1) (W:=M1.W))
   refine⟨fun i m ys H2=>m=ds.length - i∧i≤ds.length∧H2 A=some (.lst ys)∧∃acc M',OA K H2 M'∧Step K M1 M' H1 H2∧P i acc M',⟨_,rfl,xU _,AG,[],_,oA,sA,p0⟩,?_⟩
   rintro i m ys H2 ⟨rfl,hi,hys,acc,M',oa,st,p⟩
   refine⟨hys,?_⟩
   have hs0:∀{N:Own},(N.del A).Sub N:=fun {N} b o q=>by
     unfold Own.del at q
     by_cases hb:b=A
     · rw[if_pos hb] at q;cases q
     · rw[if_neg hb] at q;exact q
   by_cases hlt:i < ds.length
   · refine .inr ⟨wd.go i H2 M' hlt oa st,fun x H3 y=>?_⟩
     obtain⟨oa3,st3,d,e1,e2⟩:=wd.yld i H2 M' x H3 oa st hlt y
     have Rc:Rel K M' (M8 fr ρ) (L2.capt fr σ) H3:=((R.step o1 t1).step oa3 (st.trans st3)).capt
     refine ho _ _ _ _ (pt i d acc M' e1 p (L2.capt fr σ) H3 x _ Rc e2 fun ρ3 M3 σ3 H4 R3 st4 b3 hext=>⟨fun i' v' hv'=>?_,?_⟩)
     · obtain⟨j,f1,f2⟩:=LA hv'
       rw[hext i' fun hm=>hT i' hm j f1]
       exact hv'
     · refine b3 σ3 H4 _ R3 fun c H5 M5 o5 st5 h5=>?_
       have sx:=((st.trans st3).trans st4).trans st5
       cases c with
       | false=>
         rw[if_neg nft] at h5 ⊢
         obtain⟨hm,_⟩:=pa _ _ _ h5
         obtain⟨vs,q1,q2⟩:=o5 A _ hm
         exact⟨vs,ds.length - (i+1),by omega,rfl,hlt,q1,acc,M5,o5,sx,h5⟩
       | true=>
         rw[if_pos rfl] at h5 ⊢
         refine h5 σ3 H5 _ (R3.step o5 st5) fun y H6 z M6 o6 s6 st6 h6=>?_
         obtain⟨r,rfl,hm,p'⟩:=h6
         obtain⟨vs,q1,q2⟩:=o6 A _ hm
         obtain⟨w1,w2⟩:=IN o6 hm (q2.append (DVs.cons s6 DVs.nil))
         have hlen:acc.length≤i:=(pa _ _ _ p).2
         exact⟨vs,q1,by rw[q2.length];omega,ds.length - (i+1),by omega,rfl,hlt,AG,_,_,w1,(sx.trans st6).trans w2,p'⟩
   · have e:i=ds.length:=by omega
     subst e
     refine .inl ⟨wd.stop H2 M' oa st,?_⟩
     obtain⟨hm,_⟩:=pa _ _ _ p
     obtain⟨vs,q1,q2⟩:=oa A _ hm
     have hst:Step K M' (M'.del A) H2 H2:=⟨BB hs0⟩
     refine k _ H2 (.d (.list acc)) (M'.del A) (oa.sub hs0) ?_ ((t1.trans st).trans hst) (pe acc M' p)
     unfold SI DV
     exact⟨A,vs,rfl,.inl ⟨fun w=>w (by unfold Own.del;rw[if_pos rfl]),.inl q1⟩,q2.grow (BB hs0)⟩
theorem AQ {fr:List (Option Nat)}{tt:TT}{te:TE}{T:List Nat}{Q:DS→Own→Prop}(ho:QD g T) (hT:∀i∈T,∀j,fr[i]?≠some (some j))
   (h:DI K wi ρ M fun ds M1=>ds.length < sizeLine∧∃(c:PyData→Bool) (f:PyData→PyData),(∀d∈ds,∀M',DG K g d (M8 fr ρ) M' fun ρ2 M2=>M2=M'∧DT K tt ρ2 M2 fun b M3=>M3=M'∧b=c d∧(c d=true→DE K te ρ2 M3 fun y M4=>y = .d (f d)∧M4=M'))∧Q (.d (.list ((ds.filter c).map f))) M1) :
   DE K (QA fr wi g tt te) ρ M Q:=by
 refine RU ho hT fun σ H R Rl k=>h σ H R Rl fun J ds H1 M1 o1 t1 wd q=>k J ds H1 M1 o1 t1 wd ?_
 obtain⟨hsz,c,f,he,q⟩:=q
 refine⟨hsz,fun A hA=>⟨fun k acc M'=>acc=((ds.take k).filter c).map f∧M'=M1.put A (.l acc),⟨by simp,rfl⟩,fun k acc M' ⟨e1,e2⟩=>⟨by rw[e2];exact zU,?_⟩,fun k d acc M' hd ⟨e1,e2⟩=>?_,fun acc M' ⟨e1,e2⟩=>?_⟩⟩
 · rw[e1,zX]
   exact zN (yJ _ _) (by rw[List.length_take];omega)
 · have hm:d∈ds:=yN hd
   intro σ H v QQ R dv kk
   refine he d hm M' σ H v QQ R dv fun ρ' M2 σ' H' R' st ⟨eM,q2⟩=>kk ρ' M2 σ' H' R' st fun σ2 H2 QQ2 R2 k2=>?_
   refine q2 σ2 H2 QQ2 R2 fun b H3 M3 o3 st3 ⟨eM3,eb,q3⟩=>k2 b H3 M3 o3 st3 ?_
   have ts:(ds.take (k+1)).filter c=(ds.take k).filter c++(if c d then [d] else []):=take_succ_filter c ds k d hd
   cases hb:c d with
   | false=>
     rw[hb] at eb
     subst eb
     refine L2.jR ⟨?_,by rw[eM3,e2]⟩
     rw[ts,hb,e1];simp
   | true=>
     rw[hb] at eb
     subst eb
     refine L2.jS ?_
     refine YM (q3 hb) fun y M4 ⟨ey,e4⟩=>⟨f d,ey,by rw[e4,e2];exact zU,?_,by rw[e4,e2,yI]⟩
     rw[ts,hb,e1];simp
 · rw[e2,Own.del_put hA,e1,List.take_length]
   exact q
end
def NO (N:List Str) (xs:List DS):List (Option DS):=xs.map some++List.replicate (N.length - xs.length) none
section
variable {P:Program}{w:World}{K:Frg}{mg:Str→Option Value}{base:Heap}
theorem SIs.get {M:Own}{H:Hp}:∀{xs:List DS}{vs:List V}{i:Nat}{x:DS},SIs K H M xs vs→xs[i]?=some x→∃v,vs[i]?=some v∧SI K H M x v
 | [],_,_,_,_,e=>by simp at e
 | d::ds,vs,i,x,⟨v,r,e',h1,h2⟩,e=>by
   subst e'
   cases i with
   | zero=>simp at e;subst e;exact⟨v,rfl,h1⟩
   | succ i=>simpa using SIs.get h2 (by simpa using e)
theorem QE {M:Own}{H:Hp}{N:List Str}{xs:List DS}{vs:List V}(oa:OA K H M) (h:SIs K H M xs vs):Rel K M (NO N xs) (L2.F8 N vs) H:=by
 have hl:=h.length
 refine⟨oa,by unfold NO L2.F8;simp[hl],fun i x e=>?_⟩
 unfold NO at e
 by_cases hi:i < xs.length
 · rw[yQ (by simpa using hi),zF] at e
   cases q:xs[i]? with
   | none=>rw[q] at e;cases e
   | some y=>
     rw[q] at e
     cases e
     obtain⟨v,h1,h2⟩:=h.get q
     refine⟨v,?_,h2⟩
     unfold L2.F8
     rw[yQ (by rw[zX,hl];exact hi),zF,h1]
     rfl
 · rw[yP (by simpa using hi),List.getElem?_replicate] at e
   split at e <;> cases e
theorem fnD {x qual:Str}{st:Stmt}{f:Addr}{fd:FuncData}{N ps:List Str}{k:Nat}{S:FSp}(F:Fun K x qual st f fd) (Sc:FnScope N ps (AA st))
   (hbody:∀(cdv:Value) (A:Around) (outer:List Env) (s:Shared) (H:Hp) (E:XK),Room k (A.deeper (PyProof.Rows.envOfC qual (AA st) s.heap.objs.size f cdv)) →
     ∃t,PSs (F5 CX0 P w K mg base N qual (AA st) f cdv A outer s H E).nox (BF st) t∧∀xs M,xs.length=ps.length→S.pre xs M→DSt K t (NO N xs) M { nx:=fun _ M1=>∃M2:Own,M2.Sub M1∧S.post xs M (.d .none) M2,rt:=fun y M1=>∃M2:Own,M2.Sub M1∧S.post xs M y M2 }) :
   FnOk P w K mg base CX0 (k+1) f fd ps (spD K ps.length S):=by
 refine F.ok Sc YN fun cdv A outer s H vs Q E hr h=>?_
 obtain⟨t,ht,hq⟩:=hbody cdv A outer s H E hr
 obtain⟨xs,M,hl,oa,si,pre,post⟩:=h
 refine⟨t,ht,hq xs M hl pre (L2.F8 N vs) H _ (QE oa si) ?_ ?_ (fun _ _ _ _ _ _ z=>z.elim) (fun _ _ _ _ _ _ z=>z.elim)⟩
 · rintro ρ' M1 σ' H' R st ⟨M2,hs,p⟩
   exact post (.d .none) M2 .non H' p (st.trans ⟨BB hs⟩) (R.own.sub hs) (by unfold SI DV;rfl)
 · rintro v H' y M1 o s1 st ⟨M2,hs,p⟩
   exact post y M2 v H' p (st.trans ⟨BB hs⟩) (o.sub hs) (s1.sub hs)
end
end DL
namespace L2
open PySem PySem.Spec PyProof.Rows
section
variable {X:Cx}{tg:Expr}
def TM (K:Frg):R2:=fun x y H Q=>(rI0 fun i j=>.int (i+j)) x y H Q∨((∃i j,x = .str i∧y = .str j∧i.length+j.length≤sizeLine∧Q (.str (i++j)) H)∨nO K x y H Q)
theorem kI:OpR X (binaryOp .Add) (TM X.K):=p9.or (W3.or jY)
def aC (K:Frg):R2:=fun x y H Q=>jM K x y H Q∨(pO K x y H Q∨pP x y H Q)
theorem qW:IxR X (aC X.K):=jN.or (pQ.or pR)
def kJ (K:Frg):V→Option Int→Option Int→Hp→VK→Prop:=fun x lo hi H Q=>pS K x lo hi H Q∨pY x lo hi H Q
theorem qX:SlR X (kJ X.K):=jO.or pZ
def u7:R2:=fun x y H Q=>(rI0 fun i j=>.bl (decide (i < j))) x y H Q∨∃i j,x = .str i∧y = .str j∧Q (.bl (decide (i.cps.toList < j.cps.toList))) H
theorem dU:OpR X (compareOp .Lt) u7:=tF.or ZX
def dW (K:Frg):R2:=fun x y H Q=>(∃i j,x = .str i∧y = .str j∧Q (.bl (!(Builtin.Str.occurrences j i 0 j.length 1).isEmpty)) H)∨rIn K false x y H Q
theorem qY:OpR X (compareOp .In) (dW X.K):=ZY.or a7
def dX (K:Frg) (tl:TE):TI:=fun σ H R=>tl σ H fun x H1=>(∃a,x = .ref a∧(∃xs,SqL K H1 a xs)∧R (Itl K a) H1)∨(∃a,x = .ref a∧(∃xs,SqT K H1 a xs)∧R (Itt K a) H1)∨∃y,x = .str y∧R (Its y) H1
theorem qZ {l:Expr}{tl:TE}(hl:PE X l tl):PI X tg l (dX X.K tl):=by
 intro pins s σ H R I h
 refine thn (hl pins s σ H _ I h) fun v s1 ⟨x,H1,I1,r1,q1⟩=>?_
 have fp:∀b∈[s1.heap.objs.size],IX X pins H1 b:=fun b hb=>by
   have e:b=s1.heap.objs.size:=by simpa using hb
   subst e
   exact I1.fpOk (zR _) (I1.hok.fresh (zR _))
 rcases q1 with ⟨a,e,⟨xs,hq⟩,q⟩ | ⟨a,e,⟨xs,hq⟩,q⟩ | ⟨y,e,q⟩
 · subst e
   cases r1
   obtain⟨its,rv,p,hz⟩:=I1.list hq
   refine wpAny_pyIter_list p.isList ?_
   exact⟨s1.heap.objs.size,[s1.heap.objs.size],_,_,H1,rfl,I1.kept (t':=s1.toks) fun b o e=>zW _ e,ZU a _,⟨_,yZ _ rfl,rfl,rfl⟩,fp,q⟩
 · subst e
   cases r1
   obtain⟨its,rv,p,hz⟩:=I1.tuple hq
   refine wpAny_pyIter_tuple (show s1.heap.IsTuple a its.toArray from p) ?_
   exact⟨s1.heap.objs.size,[s1.heap.objs.size],_,_,H1,rfl,I1.kept (t':=s1.toks) fun b o e=>zW _ e,VZ a _,⟨_,yZ _ rfl,rfl,rfl⟩,fp,q⟩
 · subst e
   obtain⟨t,rfl⟩:=r1
   cases ha:y.cps.all (· < 128)
   · exact wpAny_pyIter_wide ha ⟨s1.heap.objs.size,[s1.heap.objs.size],_,_,H1,rfl,I1.kept (t':=s1.toks) fun b o e=>zW _ e,
       TK s1.heap.objs.size "str_iterator" y t (by decide) (fun A hA=>Walks.strWide hA _ y t) (fun _ _ _ _ _ st h=>wpAny_pyIter_striter_wide st h),⟨_,yZ _ rfl,rfl,rfl⟩,fp,q⟩
   · exact wpAny_pyIter_ascii ha ⟨s1.heap.objs.size,[s1.heap.objs.size],_,_,H1,rfl,I1.kept (t':=s1.toks) fun b o e=>zW _ e,
       TK s1.heap.objs.size "str_ascii_iterator" y t (by decide) (fun A hA=>Walks.strAscii hA _ y t) (fun _ _ _ _ _ st h=>wpAny_pyIter_striter_ascii st h),⟨_,yZ _ rfl,rfl,rfl⟩,fp,q⟩
end
def dY:NameKind→Bool | .free=>true | _=>false
def dZ:NameKind→Bool | .cell=>true | _=>false
def YS:NameKind→Bool | .local=>true | _=>false
def nQ (osc:Scope) (ON:List Str) (scope:Scope) (NC:List Str) (fr:List (Option Nat)):Bool:=
 (match scope.kind with | .function=>true | _=>false)&&scope.names.all (fun y=>!dZ y.2) &&
 scope.names.all (fun y=>!YS y.2||(match scope.names.lookup y.1 with | some .local=>true | _=>false)) &&
 scope.names.all (fun y=>!dY y.2||(match osc.names.lookup y.1 with | some .cell=>true | some .free=>true | _=>false)) &&
 fr.length==NC.length &&
 (List.range NC.length).all fun i=>match fr[i]?,NC[i]? with
   | some (some j),some x=>ON[j]?==some x&&(match scope.names.lookup x with | some .free=>true | _=>false)&&(match osc.names.lookup x with | some .cell=>true | some .free=>true | _=>false)
   | _,_=>true
theorem CSc.of {X:Cx}{scope:Scope}{NC:List Str}{fr:List (Option Nat)}{osc:Scope}{ON:List Str}(h:nQ osc ON scope NC fr=true) (e:X.env.scope=osc) (eN:X.N=ON):CSc X scope NC fr:=by
 subst e eN
 unfold nQ at h
 simp only[Bool.and_eq_true,List.all_eq_true,List.mem_range,beq_iff_eq] at h
 obtain⟨⟨⟨⟨⟨h1,h2⟩,h3⟩,h4⟩,h5⟩,h6⟩:=h
 refine⟨?_,fun y hy e=>?_,fun y hy e=>?_,fun y hy e=>?_,h5,fun i j x e1 e2=>?_⟩
 · cases hk:scope.kind <;> rw[hk] at h1 <;> simp at h1 ⊢
 · have:=h2 y hy;rw[e] at this;simp[dZ] at this
 · have:=h3 y hy
   rw[e] at this
   simp only[YS,Bool.not_true,Bool.false_or] at this
   cases hl:scope.names.lookup y.1 with
   | none=>rw[hl] at this;cases this
   | some k=>rw[hl] at this;cases k <;> first | rfl | cases this
 · have:=h4 y hy
   rw[e] at this
   simp only[dY,Bool.not_true,Bool.false_or] at this
   cases hl:X.env.scope.names.lookup y.1 with
   | none=>rw[hl] at this;cases this
   | some k=>
     rw[hl] at this
     cases k <;> first
       | exact .inl hl
       | exact .inr hl
       | cases this
 · have hi:i < NC.length:=(yT.mp e1).1
   have:=h6 i hi
   rw[e1,e2] at this
   simp only[Bool.and_eq_true,beq_iff_eq] at this
   obtain⟨⟨q1,q2⟩,q3⟩:=this
   refine⟨q1,?_,?_⟩
   · cases hl:scope.names.lookup x with
     | none=>rw[hl] at q2;cases q2
     | some k=>rw[hl] at q2;cases k <;> first | rfl | cases q2
   · cases hl:X.env.scope.names.lookup x with
     | none=>rw[hl] at q3;cases q3
     | some k=>
       rw[hl] at q3
       cases k <;> first
         | exact⟨.inr (.inl hl),fun z=>by have z':X.env.scope.names.lookup x=some .local:=z;rw[hl] at z';cases z'⟩
         | exact⟨.inr (.inr hl),fun z=>by have z':X.env.scope.names.lookup x=some .local:=z;rw[hl] at z';cases z'⟩
         | cases q3
end L2
namespace DL
open PySem PySem.Spec L2
section
variable {K:Frg}{ρ:List (Option DS)}{M:Own}{Q:DS→Own→Prop}{H:Hp}{QI:List PyData→Own→Prop}{tl ta tb:TE}
theorem e7 {i j:Int}(q:Q (.d (.int (i+j))) M):D2 K (TM K) (.d (.int i)) (.d (.int j)) M Q:=EA (u4 q)
theorem e8 {i j:Str}(hz:i.length+j.length≤sizeLine) (q:Q (.d (.str (i++j))) M):D2 K (TM K) (.d (.str i)) (.d (.str j)) M Q:=G8 (EA (kB hz q))
theorem e9 {a b:List PyData}(hz:a.length+b.length≤sizeLine) (q:Q (.d (.list (a++b))) M):D2 K (TM K) (.d (.list a)) (.d (.list b)) M Q:=G8 (G8 (qS hz q))
theorem FA {ds:List PyData}{i:Int}{d:PyData}(e:atI ds i=some d) (q:Q (.d d) M):D2 K (aC K) (.d (.list ds)) (.d (.int i)) M Q:=EA (qO e q)
theorem kK {a:Addr}{ds:List PyData}{i:Int}{d:PyData}(m:M a=some (.l ds)) (e:atI ds i=some d) (q:Q (.d d) M):D2 K (aC K) (.loc a) (.d (.int i)) M Q:=EA (qQ m e q)
theorem AC {ds:List PyData}{i:Int}{d:PyData}(e:atI ds i=some d) (q:Q (.d d) M):D2 K (aC K) (.d (.tuple ds)) (.d (.int i)) M Q:=G8 (EA (qP e q))
theorem K5 {z:Str}{i:Int}{c:Nat}(hz:z.length≤sizeLine) (e:atI z.cps.toList i=some c) (q:Q (.d (.str ⟨#[c]⟩)) M):D2 K (aC K) (.d (.str z)) (.d (.int i)) M Q:=G8 (G8 (qR hz e q))
theorem eB {z:Str}{lo hi:Option Int}(hz:z.length≤sizeLine) (q:Q (.d (.str (Txt.slice z lo hi))) M):DSl K (kJ K) (.d (.str z)) lo hi M Q:=fun H v QQ oa s1 k=>.inr (kG hz q H v QQ oa s1 k)
theorem aD {ds:List PyData}{lo hi:Option Int}(q:Q (.d (.list (BU ds lo hi))) M):DSl K (kJ K) (.d (.list ds)) lo hi M Q:=fun H v QQ oa s1 k=>.inl (dR q H v QQ oa s1 k)
theorem kL {i j:Int}(q:Q (.d (.bool (decide (i < j)))) M):D2 K u7 (.d (.int i)) (.d (.int j)) M Q:=EA (u5 q)
theorem YT {i j:Str}(q:Q (.d (.bool (!(Builtin.Str.occurrences j i 0 j.length 1).isEmpty))) M):D2 K (dW K) (.d (.str i)) (.d (.str j)) M Q:=EA (qM q)
theorem G9 {x:Str}{ys:List Str}(q:Q (.d (.bool (decide (x∈ys)))) M):D2 K (dW K) (.d (.str x)) (.d (.list (ys.map .str))) M Q:=G8 (qN (neg:=false) q)
theorem K6 (h:DE K tl ρ M fun x M1=>∃ds,x = .d (.list ds)∧QI ds M1):DI K (dX K tl) ρ M QI:=fun σ H R Rl k=>
 h σ H _ Rl fun v H1 x M1 o1 s1 t1 ⟨ds,e,q⟩=>by
   subst e
   unfold SI DV at s1
   obtain⟨a,vs,rfl,hl,hd⟩:=s1
   refine .inl ⟨a,rfl,⟨vs,hl.sq⟩,k _ ds H1 M1 o1 t1 ⟨fun i H' M' hi oa st=>?_,fun H' M' oa st=>?_,fun i H' M' x H2 oa st hi y=>?_⟩ q⟩
   · exact⟨vs,vs[i]'(by rw[hd.length];exact hi),(hl.grow st.grow).sq,by simp[hd.length,hi]⟩
   · exact⟨vs,(hl.grow st.grow).sq,by rw[hd.length];exact zR _⟩
   · obtain⟨rfl,y⟩:=y
     obtain⟨d,e1,e2⟩:=hd.get (y vs (hl.grow st.grow).sq)
     exact⟨oa,Step.refl,d,e1,e2.grow st.grow⟩
theorem GA (h:DE K tl ρ M fun x M1=>∃ds,x = .d (.tuple ds)∧QI ds M1):DI K (dX K tl) ρ M QI:=fun σ H R Rl k=>
 h σ H _ Rl fun v H1 x M1 o1 s1 t1 ⟨ds,e,q⟩=>by
   subst e
   unfold SI DV at s1
   obtain⟨a,vs,rfl,hl,hd⟩:=s1
   refine .inr (.inl ⟨a,rfl,⟨vs,hl.sq⟩,k _ ds H1 M1 o1 t1 ⟨fun i H' M' hi oa st=>?_,fun H' M' oa st=>?_,fun i H' M' x H2 oa st hi y=>?_⟩ q⟩)
   · exact⟨vs,vs[i]'(by rw[hd.length];exact hi),(hl.grow st.grow).sq,by simp[hd.length,hi]⟩
   · exact⟨vs,(hl.grow st.grow).sq,by rw[hd.length];exact zR _⟩
   · obtain⟨rfl,y⟩:=y
     obtain⟨d,e1,e2⟩:=hd.get (y vs (hl.grow st.grow).sq)
     exact⟨oa,Step.refl,d,e1,e2.grow st.grow⟩
theorem RV (h:DE K tl ρ M fun x M1=>∃z,x = .d (.str z)∧QI (AI z) M1):DI K (dX K tl) ρ M QI:=fun σ H R Rl k=>
 h σ H _ Rl fun v H1 x M1 o1 s1 t1 ⟨z,e,q⟩=>by
   subst e
   have hlen:(AI z).length=z.cps.size:=by simp[AI]
   rw[show v = .str z by unfold SI DV at s1;exact s1]
   refine .inr (.inr ⟨z,rfl,k _ (AI z) H1 M1 o1 t1 ⟨fun i H' M' hi oa st=>?_,fun H' M' oa st=>?_,fun i H' M' x H2 oa st hi y=>?_⟩ q⟩)
   · show i < z.cps.size;rw[← hlen];exact hi
   · exact hlen
   · obtain⟨rfl,c,e1,rfl⟩:=y
     exact⟨oa,Step.refl,.str ⟨#[c]⟩,by unfold AI;rw[zF];simp[e1],by unfold DV;rfl⟩
def tyD:PyData→String
 | .none => "NoneType"
 | .bool _ => "bool"
 | .int _ => "int"
 | .str _ => "str"
 | .list _ => "list"
 | .tuple _ => "tuple"
 | .dict _ => "dict"
end
end DL
namespace L2
open PySem PySem.Spec PyProof.Rows
section
variable {X:Cx}
def eF (K:Frg):List V→Hp→VK→Prop:=fun xs H Q=>∃(x:V) (T:String) (d:PyData) (W:Addr→Prop) (b:Bool),xs=[x,.ty T]∧DV K H W d x∧PySem.W.kitOne K (.type (DL.tyD d)) (.type T)=some b∧Q (.bl b) H
theorem aE:BO X (.builtin "isinstance") (eF X.K):=by
 intro pins s σ H xs us Q I r h
 obtain⟨x,T,d,W,b,rfl,dv,e,q⟩:=h
 obtain⟨u,u',rfl,ru,ru'⟩:=nH r
 cases ru'
 have fin:∀tk,EP X pins σ Q (.bool b) { s with toks:=tk }:=fun tk=>⟨.bl b,H,I.tok _,rfl,q⟩
 cases d with
 | none=>unfold DV at dv;subst dv;exact FR I ru (TyOf.non) e fin
 | bool y=>unfold DV at dv;subst dv;exact FR I ru (TyOf.bl _) e fin
 | int i=>unfold DV at dv;subst dv;exact FR I ru (TyOf.int _) e fin
 | str y=>unfold DV at dv;subst dv;exact FR I ru (TyOf.str _) e fin
 | list ds=>
   unfold DV at dv
   obtain⟨a,vs,rfl,hl,_⟩:=dv
   cases ru
   obtain⟨its,rv,⟨o,n,h1,h2,_,_⟩,_⟩:=I.list hl.sq
   exact PySem.W.kia_one PySem.W.kitx_list I.kIn ⟨o,h1,h2⟩ e (fun z=>nomatch z) fin
 | tuple ds=>
   unfold DV at dv
   obtain⟨a,vs,rfl,hl,_⟩:=dv
   cases ru
   obtain⟨its,rv,⟨o,h1,h2,_⟩,_⟩:=I.tuple hl.sq
   exact PySem.W.kia_one PySem.W.kitx_tuple I.kIn ⟨o,h1,h2⟩ e (fun z=>nomatch z) fin
 | dict kvs=>
   unfold DV at dv
   obtain⟨a,vs,rfl,_,hl,_⟩:=dv
   rcases hl with hl | ⟨o',hl⟩
   · exact FR I ru (TyOf.dK hl) e fin
   · cases ru
     obtain⟨_,_,vs',_,dd⟩:=LZ I.hok (.inr ⟨o',hl⟩)
     exact PySem.W.kia_one PySem.W.kitx_dict I.kIn dd.typeIs e (fun z=>nomatch z) fin
end
end L2
namespace DL
open PySem PySem.Spec L2
section
variable {K:Frg}{ρ:List (Option DS)}{M:Own}{Q:DS→Own→Prop}{H:Hp}{ta tb:TE}
theorem eG {d:PyData}{T:String}{b:Bool}(e:PySem.W.kitOne K (.type (tyD d)) (.type T)=some b) (q:Q (.d (.bool b)) M):DR K (eF K) [.d d,.ty T] M Q:=fun H vs QQ oa s k=>by
 obtain⟨v,r,rfl,h1,v2,r2,rfl,h2,h3⟩:=s
 cases h3
 rw[show v2 = .ty T from h2]
 exact⟨v,T,d,M.W,b,rfl,h1,e,k _ H _ M oa AL Step.refl q⟩
theorem eI {p:Addr}{ks:List (Key×V)}{kvs:List (PyData×PyData)}(oa:OA K H M) (h:H p=Option.none) (hd:DKV K H M.W kvs ks) :
   OA K (upd H p (.dK ks)) (M.put p (.d kvs))∧Step K M (M.put p (.d kvs)) H (upd H p (.dK ks)):=by
 have hM:=oa.none h
 have g:Grow K M.W (M.put p (.d kvs)).W H (upd H p (.dK ks)):=⟨fun b u e _=>.inl (by rw[AH (AX e h)];exact e),fun b w=>by
   by_cases hb:b=p
   · subst hb;exact .inr h
   · left;unfold Own.W at w ⊢;rw[yH hb] at w;exact w⟩
 refine⟨fun a o e=>?_,⟨g⟩⟩
 by_cases ha:a=p
 · subst ha;rw[zU] at e;cases e;exact⟨ks,AG,hd.grow g⟩
 · rw[yH ha] at e
   have q:=oa a o e
   cases o with
   | l ds=>obtain⟨vs,q1,q2⟩:=q;exact⟨vs,by rw[AH ha];exact q1,q2.grow g⟩
   | d kvs=>obtain⟨vs,q1,q2⟩:=q;exact⟨vs,by rw[AH ha];exact q1,q2.grow g⟩
   | x C fs=>obtain⟨vs,q1,q2⟩:=q;exact⟨vs,by rw[AH ha];exact q1,q2.grow g⟩
theorem GB {p:Addr}{ks:List (Key×V)}{kvs:List (PyData×PyData)}{o:MO}(oa:OA K H M) (h:M p=some o) (hd:DKV K H M.W kvs ks) :
   OA K (upd H p (.dK ks)) (M.put p (.d kvs))∧Step K M (M.put p (.d kvs)) H (upd H p (.dK ks)):=by
 have hw:∀b,(M.put p (.d kvs)).W b→M.W b:=fun b w=>by
   unfold Own.W at w ⊢
   by_cases hb:b=p
   · subst hb;rw[h];simp
   · rw[yH hb] at w;exact w
 have g:Grow K M.W (M.put p (.d kvs)).W H (upd H p (.dK ks)):=⟨fun b u e nw=>.inl (by
   rw[AH (by rintro rfl;exact nw (by unfold Own.W;rw[h];simp))];exact e),fun b w=>.inl (hw b w)⟩
 refine⟨fun a o e=>?_,⟨g⟩⟩
 by_cases ha:a=p
 · subst ha;rw[zU] at e;cases e;exact⟨ks,AG,hd.grow g⟩
 · rw[yH ha] at e
   have q:=oa a o e
   cases o with
   | l ds=>obtain⟨vs,q1,q2⟩:=q;exact⟨vs,by rw[AH ha];exact q1,q2.grow g⟩
   | d kvs=>obtain⟨vs,q1,q2⟩:=q;exact⟨vs,by rw[AH ha];exact q1,q2.grow g⟩
   | x C fs=>obtain⟨vs,q1,q2⟩:=q;exact⟨vs,by rw[AH ha];exact q1,q2.grow g⟩
end
end DL
namespace DL
open PySem PySem.Spec L2
structure Has (P:Program) (w:World) (K:Frg) (mg:Str→Option Value) (base:Heap) (x:Str) (k:Nat) (ps:List Str) (S:FSp):Prop where
 ex:∃f fd,FnOk P w K mg base CX0 k f fd ps (spD K ps.length S)∧mg x=some (.ref f)∧PySem.W.keepIn K (.ref f)=true∧Binds K fd ps []
theorem eJ {X:Cx}{x:Str}{k:Nat}{ps:List Str}{S:FSp}{e:Expr}{es:List Expr}{t:TA}{p pos:Pos}(h:Has X.prog X.w X.K X.mg X.base x k ps S) (hr:Room k X.A) (hg:Gl X x) (ha:PA X (e::es) t)
   (hdb:(x==("__debug__":Str))=false:=by decide) (he:starEach (e::es) X.env=(false,eval e X.env)::starEach es X.env:=by rfl) (hpl:(backTo pos (starEach es X.env)).any (·.1)=false:=by rfl) :
   PE X (.Call (.Name x p) (e::es) [] pos) (YE (spD X.K ps.length S) [] E0 t):=by
 obtain⟨f,fd,F,hm,hk,hb⟩:=h.ex
 exact jI F hr hg hm hk hb .nil tN ha hdb he hpl
theorem kM {X:Cx}{x z:Str}{pos:Pos}(hg:Gl X x) (h:∃t,X.mg x=some (.str z t)) (hd:(x==("__debug__":Str))=false:=by decide):PE X (.Name x pos) (tC (.str z)):=by
 obtain⟨t,h⟩:=h
 exact Y7 hg h ⟨t,rfl⟩ hd
theorem kN {X:Cx}{x:Str}{z:Int}{pos:Pos}(hg:Gl X x) (h:∃t,X.mg x=some (.int z t)) (hd:(x==("__debug__":Str))=false:=by decide):PE X (.Name x pos) (tC (.int z)):=by
 obtain⟨t,h⟩:=h
 exact Y7 hg h ⟨t,rfl⟩ hd
end DL
namespace DL
open PySem PySem.Spec L2
section
variable {X:Cx}{K:Frg}
theorem kIx (h:X.K=K):IxR X (aC K):=h▸qW
theorem kIn (h:X.K=K):OpR X (compareOp .In) (dW K):=h▸qY
theorem kEq (h:X.K=K) (hu:X.A.units+64 < cLine):OpR X (compareOp .Eq) (dJ K false):=h▸qA hu
theorem kNe (h:X.K=K) (hu:X.A.units+64 < cLine):OpR X (compareOp .NotEq) (dJ K true):=h▸qB hu
def kP (K:Frg):List V→Hp→VK→Prop:=fun xs H Q=>∃x n,xs=[x]∧cP K x H n∧Q (.int (n:Nat)) H
def nR (K:Frg):List V→Hp→VK→Prop:=fun xs H Q=>∃(p:Addr) (bs:List Bool),xs=[.ref p]∧SqL K H p (bs.map V.bl)∧Q (.bl (bs.all id)) H
def u8:List V→Hp→VK→Prop:=fun xs H Q=>∃i,xs=[.int i]∧Q (.int (if i < 0 then -i else i)) H
def nS:List V→Hp→VK→Prop:=fun xs H Q=>∃i:Int,xs=[.int i]∧i.natAbs.log2 < 1920∧Q (.str (toString i)) H
theorem vC (h:X.K=K):BO X (.builtin "len") (kP K):=h▸cQ
theorem vD (h:X.K=K) (hc:X.calm=true):BO X (.builtin "all") (nR K):=h▸dF hc
theorem vE (_:X.K=K):BO X (.builtin "abs") u8:=cO
theorem vF (h:X.K=K):BO X (.builtin "isinstance") (eF K):=h▸aE
theorem u9 (_:X.K=K):BO X (.type "str") nS:=RM
theorem uA (h:X.K=K):MtR X "str.join" (dG K):=h▸jX
theorem uB {tg l:Expr}{tl:TE}(h:X.K=K) (hl:PE X l tl):PI X tg l (dX K tl):=h▸qZ hl
theorem nT {P:Program}{w:World}{mg:Str→Option Value}{base:Heap}{x:Str}{k:Nat}{ps:List Str}{S:FSp}{e:Expr}{es:List Expr}{t:TA}{p pos:Pos}(hK:X.K=K) (hP:X.prog=P) (hw:X.w=w) (hmg:X.mg=mg) (hbs:X.base=base)
   (h:Has P w K mg base x k ps S) (hr:Room k X.A) (hg:Gl X x) (ha:PA X (e::es) t)
   (hdb:(x==("__debug__":Str))=false:=by decide) (he:starEach (e::es) X.env=(false,eval e X.env)::starEach es X.env:=by rfl) (hpl:(backTo pos (starEach es X.env)).any (·.1)=false:=by rfl) :
   PE X (.Call (.Name x p) (e::es) [] pos) (YE (spD K ps.length S) [] E0 t):=by
 subst hK hP hw hmg hbs
 exact eJ h hr hg ha hdb he hpl
variable {o e:Expr}{es:List Expr}{to:TE}{t:TA}{name:Str}{apos cpos:Pos}{T id:String}{r:V→List V→Hp→VK→Prop}
theorem kBm (h:X.K=K) (pa:PlainAttrs T) (slot:Slot T name id) (hty:typeOf (.builtin id)=pure (.type "method_descriptor")) (hm:MtR X id r) (ho:PE X o to) (ha:PA X (e::es) t)
   (hbase:attributeBase o name X.env (eval o X.env)=eval o X.env:=by rfl)
   (hfew:((backTo cpos (starEach (e::es) X.env)).all (fun x=>!x.1)&&(backToKw cpos (keywordEach [] X.env)).all (fun x=>x.1.isSome)
     && decide ((e::es).length+([]:List Keyword).length+(if ([]:List Keyword).isEmpty then 0 else 1) < 30))=true:=by rfl)
   (hline:(apos.endLine==cpos.line)=true:=by rfl) (hs:starEach (e::es) X.env=(false,eval e X.env)::starEach es X.env:=by rfl) (hplain:(backTo cpos (starEach es X.env)).any (·.1)=false:=by rfl) :
   PE X (.Call (.Attribute o name apos) (e::es) [] cpos) (tBM K T r to t):=h▸tH pa slot hty hm ho ha hbase hfew hline hs hplain
end
section
variable {K:Frg}{M:Own}{Q:DS→Own→Prop}
theorem MZ {z:Str}(hz:z.length≤sizeLine) (q:Q (.d (.int z.length)) M):DR K (kP K) [.d (.str z)] M Q:=kC hz q
theorem N0 {ds:List PyData}(q:Q (.d (.int ds.length)) M):DR K (kP K) [.d (.list ds)] M Q:=kD q
theorem N1 {ds:List PyData}(q:Q (.d (.int ds.length)) M):DR K (kP K) [.d (.tuple ds)] M Q:=kE q
theorem r6 {i:Int}(q:Q (.d (.int (if i < 0 then -i else i))) M):DR K u8 [.d (.int i)] M Q:=qT q
theorem eL {i:Int}(hz:i.natAbs.log2 < 1920) (q:Q (.d (.str (toString i))) M):DR K nS [.d (.int i)] M Q:=qU hz q
theorem RW {bs:List Bool}(q:Q (.d (.bool (bs.all id))) M):DR K (nR K) [.d (.list (bs.map .bool))] M Q:=qV q
end
end DL
namespace L2
open PySem PySem.Spec PyProof.Rows
section
variable {X:Cx}
theorem eO:∀{its:List Value}{ss:List Str},StrsAre its ss→Vals (ss.map V.str) its
 | _,_,.nil=>.nil
 | _,_,.cons y t r=>.cons ⟨t,rfl⟩ (eO r)
def eQ (K:Frg):List V→Hp→VK→Prop:=fun xs H Q=>∃(p:Addr) (ss:List Str),xs=[.ref p]∧SqL K H p (ss.map V.str)∧ss.length < 64∧∀(ss':List Str) (q:Addr),ss'.Perm ss→sortedS ss'=true→H q=none→Q (.ref q) (upd H q (.lst (ss'.map V.str)))
theorem WE:BO X (.builtin "sorted") (eQ X.K):=by
 intro pins s σ H xs us Q I r h
 obtain⟨p,ss,rfl,hp,h64,q⟩:=h
 obtain⟨u,rfl,ru⟩:=F7 r
 cases ru
 obtain⟨its,rv,pl,hz⟩:=I.list hp
 have hS:=MY rv
 have el:=rv.length
 rw[zX] at el
 refine sorted_strs pl.isList hS (by omega) fun out ss' h1 h2 h3=>?_
 obtain⟨e,he⟩:=sortedAll_at s.heap its out
 have hn:H (s.heap.objs.size+1)=none:=I.hok.fresh (Nat.le_succ _)
 have hlen:=h2.length_eq
 refine⟨.ref (s.heap.objs.size+1),_,I.laid (t':=s.toks) (o:=.lst (ss'.map V.str)) (fun b o eb=>sortedAll_old eb) (Nat.le_succ _) ?_,rfl,q ss' _ h2 h3 hn⟩
 refine⟨by rw[zX,hlen];exact zN (xT h64) (by decide),out.toList,e,eO h1,?_⟩
 have he':=he
 simpa [seqObj] using he'
end
end L2
namespace DL
open PySem PySem.Spec L2
section
variable {X:Cx}{K:Frg}
def TN (K:Frg):List V→Hp→VK→Prop:=fun xs H Q=>∃p ys,xs=[.ref p]∧((SqL K H p ys∧∀l,H l=none→Q (.ref l) (upd H l (.tup ys)))∨(SqT K H p ys∧Q (.ref p) H))
theorem r8 (h:X.K=K):BO X (.type "tuple") (TN K):=h▸PD
end
section
variable {K:Frg}{M:Own}{Q:DS→Own→Prop}{ρ:List (Option DS)}{H:Hp}
theorem GC {ds:List PyData}(q:Q (.d (.tuple ds)) M):DR K (TN K) [.d (.list ds)] M Q:=fun H vs QQ oa s k=>by
 obtain⟨v,r,rfl,h1,h2⟩:=s
 cases h2
 unfold SI DV at h1
 obtain⟨a,vs,rfl,hl,hd⟩:=h1
 refine⟨a,vs,rfl,.inl ⟨hl.sq,fun p hp=>?_⟩⟩
 have g:Grow K M.W M.W H (upd H p (.tup vs)):=AW _ hp
 refine k _ _ (.d (.tuple ds)) M (oa.new hp) ?_ ⟨g⟩ q
 unfold SI DV
 exact⟨p,vs,rfl,.inl ⟨fun w=>w (oa.none hp),.inl AG⟩,hd.grow g⟩
theorem HI {W:Addr→Prop}:∀{bs:List Str},DVs K H W (bs.map PyData.str) (bs.map V.str)
 | []=>DVs.nil
 | b::bs=>DVs.cons (by unfold DV;rfl) HI
def DF:PyData→Bool | .none=>true | _=>false
theorem r9 {d:PyData}(q:Q (.d (.bool (DF d))) M):D2 K (fun x y H Q=>y = .non∧Q (.bl (decide (x = .non))) H) (.d d) (.d .none) M Q:=fun H v u QQ oa s1 s2 k=>by
 refine⟨dQ s2,k _ H (.d (.bool (DF d))) M oa ?_ Step.refl q⟩
 cases d <;> unfold SI DV at s1
 · rw[s1];exact AL
 · rw[s1];exact AL
 · rw[s1];exact AL
 · rw[s1];exact AL
 · obtain⟨a,_,rfl,_⟩:=s1;exact AL
 · obtain⟨a,_,rfl,_⟩:=s1;exact AL
 · obtain⟨a,_,rfl,_⟩:=s1;exact AL
theorem kQ {d:PyData}(q:Q (.d (.bool (!DF d))) M):D2 K (fun x y H Q=>y = .non∧Q (.bl (!decide (x = .non))) H) (.d d) (.d .none) M Q:=fun H v u QQ oa s1 s2 k=>by
 refine⟨dQ s2,k _ H (.d (.bool (!DF d))) M oa ?_ Step.refl q⟩
 cases d <;> unfold SI DV at s1
 · rw[s1];exact AL
 · rw[s1];exact AL
 · rw[s1];exact AL
 · rw[s1];exact AL
 · obtain⟨a,_,rfl,_⟩:=s1;exact AL
 · obtain⟨a,_,rfl,_⟩:=s1;exact AL
 · obtain⟨a,_,rfl,_⟩:=s1;exact AL
end
def DGs (K:Frg) (g:TGs) (ds:List PyData) (ρ:List (Option DS)) (M:Own) (P:List (Option DS)→Own→Prop):Prop:=
 ∀(σ:St) (H:Hp) (vs:List V) (QQ:St→Hp→Prop),Rel K M ρ σ H→DVs K H M.W ds vs→(∀ρ' M' σ' H',Rel K M' ρ' σ' H'→Step K M M' H H'→P ρ' M'→QQ σ' H')→g vs σ H QQ
section
variable {K:Frg}{M:Own}{ρ:List (Option DS)}{P:List (Option DS)→Own→Prop}
theorem YU (h:P ρ M):DGs K oW [] ρ M P:=fun σ H vs QQ R hd k=>by
 unfold DVs at hd
 subst hd
 exact⟨rfl,k ρ M σ H R Step.refl h⟩
theorem NP {i:Nat}{g:TGs}{d:PyData}{ds:List PyData}(h:DGs K g ds (ρ.set i (some (.d d))) M P):DGs K (Y8 (LX i) g) (d::ds) ρ M P:=fun σ H vs QQ R hd k=>by
 unfold DVs at hd
 obtain⟨v,r,rfl,h1,h2⟩:=hd
 exact⟨v,r,rfl,h (σ.set i (some v)) H r QQ (R.set (x:=.d d) h1 i) h2 k⟩
theorem rA {n:Nat}{g:TGs}{ds:List PyData}(hn:ds.length=n) (h:DGs K g ds ρ M P):DG K (jE K n g) (.tuple ds) ρ M P:=fun σ H v QQ R dv k=>by
 unfold DV at dv
 obtain⟨a,vs,rfl,hl,hd⟩:=dv
 exact⟨a,vs,rfl,hl.sq,by rw[hd.length];exact hn,h σ H vs QQ R hd k⟩
def kR (g:TGs) (T:List Nat):Prop:=(∀(vs:List V) (σ:St) (H:Hp) (Q Q':St→Hp→Prop),(∀a b,Q a b→Q' a b)→g vs σ H Q→g vs σ H Q') ∧
 (∀(vs:List V) (σ:St) (H:Hp) (QQ:St→Hp→Prop),g vs σ H QQ→g vs σ H fun σ2 H2=>(∀i,i∉T→σ2[i]?=σ[i]?)∧QQ σ2 H2)
theorem WF:kR oW []:=⟨fun vs σ H Q Q' m ⟨e,h⟩=>⟨e,m _ _ h⟩,fun vs σ H QQ ⟨e,h⟩=>⟨e,fun _ _=>rfl,h⟩⟩
theorem GD {i:Nat}{g:TGs}{T:List Nat}(hg:kR g T):kR (Y8 (LX i) g) (i::T):=by
 refine⟨fun vs σ H Q Q' m ⟨v,r,e,h⟩=>⟨v,r,e,hg.1 r _ H Q Q' m h⟩,fun vs σ H QQ ⟨v,r,e,h⟩=>⟨v,r,e,?_⟩⟩
 refine hg.1 r _ H _ _ (fun σ2 H2 ⟨h1,h2⟩=>⟨fun j hj=>?_,h2⟩) (hg.2 r (σ.set i (some v)) H QQ h)
 rw[h1 j fun z=>hj (yV _ z),List.getElem?_set_ne (by rintro rfl;exact hj List.mem_cons_self)]
theorem WG {n:Nat}{g:TGs}{T:List Nat}(hg:kR g T):QD (jE K n g) T:=fun v σ H QQ ⟨a,xs,e,hs,hl,h⟩=>
 ⟨a,xs,e,hs,hl,hg.1 xs σ H _ _ (fun σ2 H2 ⟨h1,h2⟩=>h2 h1) (hg.2 xs σ H _ h)⟩
end
end DL
namespace L2
open PySem PySem.Spec PyProof.Rows
section
variable {X:Cx}{pins:List (Addr×Obj)}{σ:St}{H:Hp}{s:Shared}{h':Heap}
theorem Inv.turnedT {ch:List Addr}{T:Addr}{ys:List V}{t':Nat}(I:Inv X pins σ H s) (k:∀b o,b∉ch→s.heap.get? b=some o→h'.get? b=some o) (hn:∀b∈ch,H b=none)
   (hch:∀b∈ch,(b∈X.ex∨X.s₀.heap.objs.size≤b)∧b≠X.env.locals∧(∀x c,X.env.cells.lookup x=some c→c≠b)∧∀p∈X.pn++pins,p.1≠b)
   (hT:s.heap.objs.size≤T) (new:ObjOk X.prog X.w (upd H T (.tup ys)) h' T (.tup ys)):Inv X pins σ (upd H T (.tup ys)) { s with heap:=h',toks:=t' }:=by
 have hTn:H T=none:=I.hok.fresh hT
 have nch:∀b u,H b=some u→b∉ch:=fun b u e z=>by rw[hn b z] at e;cases e
 refine I.step (g':=s.gens) (d':=s.drawn) (ch:=ch) hch (fun b o _ _ hc e _=>k b o hc e) (fun b o _ _ hc e _=>⟨o.slots,k b o hc e⟩) (fun b o hc e n=>?_)
   (fun b o hc e=>⟨o,k b o hc e⟩) (fun b xs e=>?_) (fun b o u e=>?_) (fun b ps e=>⟨#[],?_⟩) (fun m hm=>?_) (fun b u e=>?_) I.bare
 · rw[AH (zC (zP (zM e) hT))];exact n
 · rw[AH (AX e hTn)];exact e
 · rw[AH (AX e hTn)];exact e
 · rw[AH (AX e hTn),e];simp
 · obtain⟨o,es,ep,ho,r⟩:=hm
   exact⟨o,es,ep,k _ o (fun z=>(hch _ z).2.1 rfl) ho,r⟩
 · by_cases hb:b=T
   · subst hb;rw[AG] at e;cases e;exact new
   · rw[AH hb] at e
     refine(I.hok b u e).stay (fun c v hc q=>k c v ?_ q) (fun c q=>by rw[AH (AX q hTn)];exact q) fun c xs q=>by rw[AH (AX q hTn)];exact q
     rcases hc with z | z
     · rw[z];exact nch b u e
     · exact nch c _ z
theorem Inv.turnedL {ch:List Addr}{t':Nat}(I:Inv X pins σ H s) (k:∀b o,b∉ch→s.heap.get? b=some o→h'.get? b=some o) (hn:∀b∈ch,H b=none)
   (hch:∀b∈ch,(b∈X.ex∨X.s₀.heap.objs.size≤b)∧b≠X.env.locals∧(∀x c,X.env.cells.lookup x=some c→c≠b)∧∀p∈X.pn++pins,p.1≠b):Inv X pins σ H { s with heap:=h',toks:=t' }:=by
 have nch:∀b u,H b=some u→b∉ch:=fun b u e z=>by rw[hn b z] at e;cases e
 refine I.step (g':=s.gens) (d':=s.drawn) (ch:=ch) hch (fun b o _ _ hc e _=>k b o hc e) (fun b o _ _ hc e _=>⟨o.slots,k b o hc e⟩) (fun b o hc e n=>n)
   (fun b o hc e=>⟨o,k b o hc e⟩) (fun b xs e=>e) (fun b o u e=>e) (fun b ps e=>⟨#[],by rw[e];simp⟩) (fun m hm=>?_) (fun b u e=>?_) I.bare
 · obtain⟨o,es,ep,ho,r⟩:=hm
   exact⟨o,es,ep,k _ o (fun z=>(hch _ z).2.1 rfl) ho,r⟩
 · refine(I.hok b u e).stay (fun c v hc q=>k c v ?_ q) (fun c q=>q) fun c xs q=>q
   rcases hc with z | z
   · rw[z];exact nch b u e
   · exact nch c _ z
end
end L2
namespace DL
open PySem PySem.Spec L2
section
variable {K:Frg}{M:Own}{ρ:List (Option DS)}{QI:List PyData→Own→Prop}
def IZ (as bs:List PyData):List PyData:=(as.zip bs).map fun p=>.tuple [p.1,p.2]
end
end DL
namespace HT
open PySem PySem.Spec PyProof.Rows
section
variable {prog:Program}{w:World}{A:Around}{E:Value→Shared→Prop}{s:Shared}
theorem getItem_tuple_whole {t sl:Addr}{items:Array Value}{vl vu:Value}{lo hi:Option Int}{Q:Value→Shared→Prop}(ht:IsTup s.heap t items) (hs:s.heap.IsSliceOf sl vl vu .none) (pl:IsPart vl lo) (pu:IsPart vu hi)
   (hw:sIx items.size 0 lo=0∧sIx items.size items.size hi=items.size) (h:Q (.ref t) s):wpAny (model prog w) A (getItem (.ref t) (.ref sl)) Q E s:=by
 obtain⟨os,hos,hcs,hds⟩:=id hs
 have hTs:s.TypeIs (.ref sl) "slice" := ⟨os,hos,hcs⟩
 unfold getItem
 try with_reducible refine wpAny_holding ?_
 first | refine zZ (zY ?_) | skip
 refine zZ (wpAny_sequenceKey ht.typeIs (by decide) ?_)
 refine zZ (wpAny_callSpecial?_slot (name:=Str.ofString "__getitem__") ht.typeIs PyProof.Rows.slot_tuple_getitem
   (wpAny_call_entry PyProof.Rows.slot_tuple_getitem ht.typeIs entry_tuple_getitem ?_ (args_tuple_getitem _ _)))
 show wpAny _ _ (Builtin.Tuple.tupleItemsOf (.ref t) >>= _) _ _ s
 refine zZ (tupleItemsOf_ ht ?_)
 refine zZ (wpAny_typeOf hTs ?_)
 rw[if_pos (by decide)]
 refine zZ (FT hs pl pu ?_)
 have hno:((((sIx items.size 0 lo:Nat):Int)==0&&(1:Int)==1&&(sIx items.size items.size hi - sIx items.size 0 lo)==items.size)=true):=by
   rw[hw.1,hw.2];simp
 show wpAny _ _ (if (((sIx items.size 0 lo:Nat):Int)==0&&(1:Int)==1&&(sIx items.size items.size hi - sIx items.size 0 lo)==items.size)=true then _ else _) _ _ s
 rw[if_pos hno]
 refine zZ (m:=Builtin.Tuple.tupleIsExact _) (zZ (wpAny_typeOf ht.typeIs (zY ?_)))
 show wpAny _ _ (if true=true then _ else _) _ _ s
 rw[if_pos rfl]
 first
   | exact zZ (wpAny_rule (zZ (zY ⟨_,rfl,zY h⟩)))
   | exact zZ (wpAny_rule (zY ⟨_,rfl,zY h⟩))
   | exact zZ (wpAny_rule (zZ (zY (zY ⟨_,rfl,zY h⟩))))
end
end HT
namespace L2
open PySem PySem.Spec PyProof.Rows
section
variable {X:Cx}
def nU (K:Frg):V→Option Int→Option Int→Hp→VK→Prop:=fun x lo hi H Q=>∃a xs,x = .ref a∧SqT K H a xs∧(JJ xs lo hi=xs→Q (.ref a) H)∧∀p,H p=none→Q (.ref p) (upd H p (.tup (JJ xs lo hi)))
theorem kS:SlR X (nU X.K):=by
 intro pins s σ H x v vl vu lo hi sl Q I rx hs pl pu h
 obtain⟨a,xs,rfl,hx,q1,q2⟩:=h
 cases rx
 obtain⟨its,r,ht,hz⟩:=I.tuple hx
 have hlen:its.toArray.size=xs.length:=by rw[zJ];exact r.length.symm
 by_cases hw:HT.sIx xs.length 0 lo=0∧HT.sIx xs.length xs.length hi=xs.length
 · refine⟨"tuple", _,PyProof.Rows.slot_tuple_getitem.lookup,ht.typeIs,?_⟩
   refine HT.getItem_tuple_whole ht hs pl pu (by rw[hlen];exact hw) ⟨.ref a,H,I,rfl,q1 ?_⟩
   unfold JJ
   rw[hw.1,hw.2];simp
 · exact pN pins s σ H (.ref a) (.ref a) vl vu lo hi sl Q I rfl hs pl pu ⟨a,xs,rfl,hx,hw,q2⟩
def eR (K:Frg):R2:=fun x y H Q=>∃a b xs ys,x = .ref a∧y = .ref b∧SqT K H a xs∧SqT K H b ys∧xs.length+ys.length≤sizeLine ∧
 (xs=[]→Q (.ref b) H)∧(ys=[]→Q (.ref a) H)∧(∀p,H p=none→Q (.ref p) (upd H p (.tup (xs++ys))))
theorem eT:OpR X (binaryOp .Add) (eR X.K):=by
 intro pins s σ H x y v u Q I rx ry h
 obtain⟨t,b,xs,ys,rfl,rfl,hx,hy,hz,q0,q1,q2⟩:=h
 cases rx
 cases ry
 obtain⟨its,r,ht,_⟩:=I.tuple hx
 obtain⟨its2,r2,hb,_⟩:=I.tuple hy
 have e1:=r.length
 have e2:=r2.length
 obtain⟨⟨cls,dd,data,sl⟩,ho,hc,n,hd⟩:=id ht
 obtain⟨⟨cls2,dd2,data2,sl2⟩,ho2,hc2,n2,hd2⟩:=id hb
 dsimp only at hc hd hc2 hd2
 subst hc hd hc2 hd2
 have e:its.toArray++its2.toArray=(its++its2).toArray:=by simp
 by_cases hv:its=[]
 · have hx0:xs=[]:=by cases r with | nil=>rfl | cons _ _=>cases hv
   exact concat_meets ⟨_,ho,rfl⟩ ⟨_,ho2,rfl⟩ noFill_tuple_add seq_tuple_add PySem.F.slot_tuple_add PySem.F.entry_tuple_add (PySem.F.args_tuple_add_2 _ _)
     (tuple_addW0 t b its.toArray its2.toArray n n2 dd dd2 sl sl2 (by simp[hv])) ⟨ho,ho2,⟨.ref b,H,I,rfl,q0 hx0⟩⟩
 · by_cases hw:its2=[]
   · have hy0:ys=[]:=by cases r2 with | nil=>rfl | cons _ _=>cases hw
     exact concat_meets ⟨_,ho,rfl⟩ ⟨_,ho2,rfl⟩ noFill_tuple_add seq_tuple_add PySem.F.slot_tuple_add PySem.F.entry_tuple_add (PySem.F.args_tuple_add_2 _ _)
       (tuple_addW1 t b its.toArray its2.toArray n n2 dd dd2 sl sl2 (by simpa using hv) (by simp[hw])) ⟨ho,ho2,⟨.ref t,H,I,rfl,q1 hy0⟩⟩
   · refine concat_meets ⟨_,ho,rfl⟩ ⟨_,ho2,rfl⟩ noFill_tuple_add seq_tuple_add PySem.F.slot_tuple_add PySem.F.entry_tuple_add (PySem.F.args_tuple_add_2 _ _)
       (tuple_addW2 t b its.toArray its2.toArray n n2 dd dd2 sl sl2 (by simpa using hv) (by simpa using hw) (by rw[zJ,zJ];omega)) ⟨ho,ho2,?_⟩
     rw[e]
     refine⟨.ref s.heap.objs.size,_,I.laid (t':=s.toks) (o:=.tup (xs++ys)) (fun b ob q=>zW _ q) (zR _) ?_,rfl,q2 _ I.fresh⟩
     exact⟨by rw[yY];exact hz,its++its2,r.append r2,IsTup.new _ _⟩
end
end L2
namespace DL
open PySem PySem.Spec L2
section
variable {X:Cx}{K:Frg}
def TQ (K:Frg):R2:=fun x y H Q=>TM K x y H Q∨eR K x y H Q
theorem uC (h:X.K=K):OpR X (binaryOp .Add) (TQ K):=h▸kI.or eT
def kT (K:Frg):V→Option Int→Option Int→Hp→VK→Prop:=fun x lo hi H Q=>kJ K x lo hi H Q∨nU K x lo hi H Q
theorem vG (h:X.K=K):SlR X (kT K):=h▸qX.or kS
end
section
variable {K:Frg}{M:Own}{Q:DS→Own→Prop}
theorem eU {i j:Int}(q:Q (.d (.int (i+j))) M):D2 K (TQ K) (.d (.int i)) (.d (.int j)) M Q:=EA (e7 q)
theorem HJ {i j:Str}(hz:i.length+j.length≤sizeLine) (q:Q (.d (.str (i++j))) M):D2 K (TQ K) (.d (.str i)) (.d (.str j)) M Q:=EA (e8 hz q)
theorem TR {a b:List PyData}(hz:a.length+b.length≤sizeLine) (q:Q (.d (.list (a++b))) M):D2 K (TQ K) (.d (.list a)) (.d (.list b)) M Q:=EA (e9 hz q)
theorem C8 {as bs:List PyData}(hz:as.length+bs.length≤sizeLine) (q:Q (.d (.tuple (as++bs))) M):D2 K (TQ K) (.d (.tuple as)) (.d (.tuple bs)) M Q:=G8 fun H v u QQ oa s1 s2 k=>by
 have s1':=s1
 have s2':=s2
 unfold SI DV at s1 s2
 obtain⟨a,vs,rfl,hl,hd⟩:=s1
 obtain⟨b,us,rfl,hl2,hd2⟩:=s2
 refine⟨a,b,vs,us,rfl,rfl,hl.sq,hl2.sq,by rw[hd.length,hd2.length];exact hz,fun e=>?_,fun e=>?_,fun p hp=>?_⟩
 · have:as=[]:=by have:=hd.length;rw[e] at this;exact List.length_eq_zero_iff.mp this.symm
   subst this
   exact k _ H (.d (.tuple ([]++bs))) M oa s2' Step.refl q
 · have:bs=[]:=by have:=hd2.length;rw[e] at this;exact List.length_eq_zero_iff.mp this.symm
   subst this
   rw[List.append_nil] at q
   exact k _ H (.d (.tuple as)) M oa s1' Step.refl q
 · have g:Grow K M.W M.W H (upd H p (.tup (vs++us))):=AW _ hp
   refine k _ _ (.d (.tuple (as++bs))) M (oa.new hp) ?_ ⟨g⟩ q
   unfold SI DV
   exact⟨p,_,rfl,.inl ⟨fun w=>w (oa.none hp),.inl AG⟩,(hd.append hd2).grow g⟩
theorem HK {z:Str}{lo hi:Option Int}(hz:z.length≤sizeLine) (q:Q (.d (.str (Txt.slice z lo hi))) M):DSl K (kT K) (.d (.str z)) lo hi M Q:=fun H v QQ oa s1 k=>.inl (eB hz q H v QQ oa s1 k)
theorem aF {ds:List PyData}{lo hi:Option Int}(q:Q (.d (.list (BU ds lo hi))) M):DSl K (kT K) (.d (.list ds)) lo hi M Q:=fun H v QQ oa s1 k=>.inl (aD q H v QQ oa s1 k)
theorem C9 {ds:List PyData}{lo hi:Option Int}(q:Q (.d (.tuple (BU ds lo hi))) M):DSl K (kT K) (.d (.tuple ds)) lo hi M Q:=fun H v QQ oa s1 k=>.inr (by
 have s1':=s1
 unfold SI DV at s1
 obtain⟨a,vs,rfl,hl,hd⟩:=s1
 have key:DVs K H M.W (BU ds lo hi) (JJ vs lo hi):=by
   unfold BU JJ
   rw[hd.length]
   exact(hd.drop _).take _
 refine⟨a,vs,rfl,hl.sq,fun e=>?_,fun p hp=>?_⟩
 · refine k _ H (.d (.tuple (BU ds lo hi))) M oa ?_ Step.refl q
   unfold SI DV
   exact⟨a,vs,rfl,hl,by rw[← e];rw[e] at key;rw[e];exact key⟩
 · have g:Grow K M.W M.W H (upd H p (.tup (JJ vs lo hi))):=AW _ hp
   refine k _ _ (.d (.tuple (BU ds lo hi))) M (oa.new hp) ?_ ⟨g⟩ q
   unfold SI DV
   exact⟨p,_,rfl,.inl ⟨fun w=>w (oa.none hp),.inl AG⟩,key.grow g⟩)
end
end DL
namespace DL
open PySem PySem.Spec L2
theorem rB {X:Cx}{K:Frg}{pos:Pos}{es:List Expr}{k:Nat}{t:TGs}{n:Nat}(hK:X.K=K) (hc:X.calm=true) (h:PGs X es t)
   (hn:(assignEach es X.env).length=n:=by rfl) (hst:(assignEach es X.env).findIdx? (·.1)=none:=by rfl):PG X (.Tuple es k pos) (jE K n t):=hK▸cF hc h hn hst
end DL
namespace DL
open PySem PySem.Spec L2
def fn1 (pre:PyData→Prop) (f:PyData→PyData):FSp:=⟨fun xs _=>∃d,xs=[.d d]∧pre d,fun xs M y M'=>∀d,xs=[.d d]→y = .d (f d)∧M'=M⟩
theorem AZ {pre:PyData→Prop}{f:PyData→PyData}{d:PyData}{M:Own}{Q:DS→Own→Prop}(p:pre d) (q:Q (.d (f d)) M):[DS.d d].length=1∧(fn1 pre f).pre [.d d] M∧∀x M',(fn1 pre f).post [.d d] M x M'→Q x M':=
 ⟨rfl,⟨d,rfl,p⟩,fun x M' h=>by obtain⟨rfl,rfl⟩:=h d rfl;exact q⟩
def EE (c:Nat):Bool:=decide (97≤c)&&decide (c≤122)
def HL:PyData→Bool | .int _=>true | _=>false
def BZ:PyData→Bool | .str z=>decide (1≤z.cps.size)&&decide (z.cps.size≤8)&&z.cps.toList.all EE | _=>false
def GE:PyData→Bool | .int i=>decide (0≤i)&&decide (i≤999) | _=>false
def okS (z:Str):Prop:=z.cps.size≤5000∧∀c∈z.cps.toList,c < 128
def okD:PyData→Prop | .str z=>okS z | _=>True
def GF:FSp:=fn1 (fun _=>True) fun d=>.bool (HL d)
def LB:FSp:=fn1 okD fun d=>.bool (BZ d)
def JM:FSp:=fn1 (fun _=>True) fun d=>.bool (GE d)
def K7 (d:PyData) (lo hi:Int):Bool:=match d with | .int i=>decide (lo≤i)&&decide (i≤hi) | _=>false
def DO:FSp:=⟨fun xs _=>∃(d:PyData) (lo hi:Int),xs=[.d d,.d (.int lo),.d (.int hi)],fun xs M y M'=>∀(d:PyData) (lo hi:Int),xs=[.d d,.d (.int lo),.d (.int hi)]→y = .d (.bool (K7 d lo hi))∧M'=M⟩
theorem TU {d:PyData}{lo hi:Int}{M:Own}{Q:DS→Own→Prop}(q:Q (.d (.bool (K7 d lo hi))) M):[DS.d d,.d (.int lo),.d (.int hi)].length=3∧DO.pre [.d d,.d (.int lo),.d (.int hi)] M∧∀x M',DO.post [.d d,.d (.int lo),.d (.int hi)] M x M'→Q x M':=
 ⟨rfl,⟨d,lo,hi,rfl⟩,fun x M' h=>by obtain⟨rfl,rfl⟩:=h d lo hi rfl;exact q⟩
theorem RX (d:PyData):K7 d 0 999=GE d:=by cases d <;> rfl
end DL
namespace DL
open PySem PySem.Spec L2
theorem WH:∀c:Nat,c < 128→(!(Builtin.Str.occurrences (Str.ofString "abcdefghijklmnopqrstuvwxyz") ⟨#[c]⟩ 0 (Str.ofString "abcdefghijklmnopqrstuvwxyz").length 1).isEmpty)=EE c:=by decide +kernel
def kU:PyData→Bool | .str z=>z.cps.toList.all EE | _=>false
theorem aG (z:Str):((AI z).filter fun _=>true).map (fun d=>PyData.bool (kU d))=(z.cps.toList.map EE).map .bool:=by
 rw[List.filter_eq_self.mpr (by simp)]
 unfold AI
 rw[zD,zD]
 apply yM
 intro c hc
 simp[kU]
theorem WI (l:List Nat) (f:Nat→Bool):(l.map f).all id=l.all f:=by simp
end DL
namespace DL
open PySem PySem.Spec L2
section
variable {K:Frg}{ρ:List (Option DS)}{M:Own}{D:EndsD}{t u:TS}
theorem JN (P:List (Option DS)→Own→Prop) (h:DSt K t ρ M { D with nx:=P }) (h2:∀ρ1 M1,P ρ1 M1→DSt K u ρ1 M1 D):DSt K (jB t u) ρ M D:=
 dP (kA h (fun ρ' M' p=>h2 ρ' M' p) (fun _ _ q=>q) (fun _ _ q=>q) (fun _ _ q=>q))
end
def B8 (z:Str):Prop:=1≤z.cps.size∧z.cps.size≤8∧∀c∈z.cps.toList,EE c=true
end DL
namespace DL
open PySem PySem.Spec L2
theorem p64:(2:Int) ^ 64=18446744073709551616:=by decide
theorem RY {i j:Int}(h1 : -1000000000000000 < i) (h2:i < 1000000000000000):CMul i j:=by
 refine .inl ⟨?_,?_⟩ <;> rw[p64] <;> omega
theorem eV {i j:Int}(h1 : -1000000000000000 < j) (h2:j < 1000000000000000):CMul i j:=by
 refine .inr ⟨?_,?_⟩ <;> rw[p64] <;> omega
end DL
namespace DL
open PySem PySem.Spec L2
theorem vH {M:Own}{a:Addr}{ds:List PyData}{k:Int}{j:Nat}{F:Addr→List PyData→Nat→Prop}(m:M a=some (.l ds)) (e:ixN ds.length k=some j) (q:F a ds j) :
   ∃a' ds' k' j',DS.loc a = .loc a'∧DS.d (.int k) = .d (.int k')∧M a'=some (.l ds')∧ixN ds'.length k'=some j'∧F a' ds' j':=⟨a,ds,k,j,rfl,rfl,m,e,q⟩
end DL
namespace DL
open PySem PySem.Spec L2
theorem vI {xs:List DS}{ds:List PyData}{Q:List PyData→Prop}(e:NK xs=some ds) (h:ds.length≤sizeLine) (q:Q ds):∃ds,NK xs=some ds∧ds.length≤sizeLine∧Q ds:=⟨ds,e,h,q⟩
end DL
namespace DL
open PySem PySem.Spec L2
theorem GG {x y:Str}(h:x.cps.toList=y.cps.toList):x=y:=by
 obtain⟨⟨a⟩⟩:=x
 obtain⟨⟨b⟩⟩:=y
 simp at h
 subst h
 rfl
theorem eY (n len:Nat):Builtin.Str.strSliceIndices none (some (n:Int)) 1 len=List.range (min n len):=by
 unfold Builtin.Str.strSliceIndices sliceRange
 have h1:¬((n:Int) < 0):=by omega
 have h2:max 0 (min (n:Int) (len:Int))=((min n len:Nat):Int):=by omega
 simp only[show(1:Int) > 0 by decide,if_true,h1,if_false,h2]
 have h3:(if (0:Int) < ((min n len:Nat):Int) then (((min n len:Nat):Int) - 0+1 - 1)/1 else 0).toNat=min n len:=by
   split
   · rw[Int.ediv_one];omega
   · omega
 rw[h3]
 apply List.ext_getElem?
 intro i
 rw[zF]
 by_cases h:i < min n len
 · simp[List.getElem?_range h]
 · simp[List.getElem?_eq_none (show(List.range (min n len)).length≤i by simp;omega)]
theorem aH (l:List Nat) (a:Array Nat) (m:Nat) (h:a.toList=l):(List.range m).filterMap (fun i=>a[i]?)=l.take m:=by
 induction m with
 | zero=>simp
 | succ m ih=>
   rw[List.range_succ,List.filterMap_append,ih,List.take_add_one]
   have e:a[m]?=l[m]?:=by rw[← h];simp
   simp only[List.filterMap_cons,List.filterMap_nil,e]
   cases l[m]? <;> simp
theorem GH (z:Str) (n:Nat):(Txt.slice z none (some (n:Int))).cps.toList=z.cps.toList.take n:=by
 unfold Txt.slice
 rw[eY]
 have hl:z.length=z.cps.toList.length:=by simp[Str.length]
 split
 · rename_i h
   simp only[xZ,beq_self_eq_true,Bool.true_and,beq_iff_eq] at h
   rw[List.take_of_length_le (by rw[← hl];omega)]
 · show(List.filterMap _ _).toArray.toList=_
   rw[aH z.cps.toList z.cps _ rfl,List.toList_toArray,hl,List.take_eq_take_iff]
   omega
theorem aI {z:Str}{n:Nat}{c:Nat}(h:c∈(Txt.slice z none (some (n:Int))).cps.toList):c∈z.cps.toList:=by
 rw[GH] at h;exact List.mem_of_mem_take h
theorem AN (x y:Str):(x++y).cps.toList=x.cps.toList++y.cps.toList:=by
 show(x.cps++y.cps).toList=_
 simp
theorem HM:(Str.ofString "abcdefghijklmnopqrstuvwxyz").length=26:=by decide +kernel
theorem eZ {M:Own}{p A:Addr}{o o' x y:MO}(h:p≠A):(((M.put p o).put A x).put p o').put A y=(M.put p o').put A y:=by
 funext b
 unfold Own.put
 by_cases h1:b=A
 · simp[h1]
 · by_cases h2:b=p
   · simp[h2,h1,h]
   · simp[h1,h2]
end DL
namespace DL
open PySem PySem.Spec L2
theorem flt (l:List PyData):l.filter (fun _=>true)=l:=List.filter_eq_self.mpr (by simp)
theorem LC (z:Str):(AI z).length=z.cps.size:=by simp[AI]
theorem fA:(Str.ofString "abcdefghijklmnopqrstuvwxyz").cps.size=26:=by decide +kernel
theorem QF (z:Str) (l u:Option Int) {n:Nat}(h:z.length≤n):(Txt.slice z l u).length≤n:=zN (Txt.slice_le z l u) h
end DL
namespace DL
open PySem PySem.Spec L2
theorem WJ {c:Nat}(h:EE c=true):c < 128:=by
 unfold EE at h;simp at h;omega
theorem QG (s:Str):BZ (.str s)=(decide (1≤s.cps.size)&&decide (s.cps.size≤8)&&s.cps.toList.all EE):=rfl
theorem LE (s:Str):s.cps.size=s.cps.toList.length:=by simp
theorem fB {z:Str}(h:B8 z):okD (.str z):=⟨by have:=h.2.1;omega,fun c hc=>WJ (h.2.2 c hc)⟩
end DL
namespace DL
open PySem PySem.Spec L2
def sl (a b:Str):Bool:=Spec.ltCps a.cps.toList b.cps.toList
theorem QH:∀a:List Nat,Spec.ltCps a a=false
 | []=>rfl
 | a::r=>by simp[Spec.ltCps,QH r]
theorem TV:∀a b c:List Nat,Spec.ltCps a b=true→Spec.ltCps b c=true→Spec.ltCps a c=true
 | [],[],_,h,_=>by cases h
 | [],_::_,[],_,h=>by cases h
 | [],_::_,_::_,_,_=>rfl
 | _::_,[],_,h,_=>by cases h
 | _::_,_::_,[],_,h=>by cases h
 | a::r,b::t,c::u,h1,h2=>by
   simp only[Spec.ltCps,Bool.or_eq_true,decide_eq_true_eq,Bool.and_eq_true,beq_iff_eq] at h1 h2 ⊢
   rcases h1 with h1 | ⟨rfl,h1⟩
   · rcases h2 with h2 | ⟨rfl,h2⟩
     · exact .inl (xR h1 h2)
     · exact .inl h1
   · rcases h2 with h2 | ⟨rfl,h2⟩
     · exact .inl h2
     · exact .inr ⟨rfl,TV r t u h1 h2⟩
theorem TX:∀a b:List Nat,Spec.ltCps a b=false→Spec.ltCps b a=false→a=b
 | [],[],_,_=>rfl
 | [],_::_,h,_=>by cases h
 | _::_,[],_,h=>by cases h
 | a::r,b::t,h1,h2=>by
   simp only[Spec.ltCps,Bool.or_eq_false_iff,decide_eq_false_iff_not,Bool.and_eq_false_iff] at h1 h2
   have e:a=b:=by omega
   subst e
   simp at h1 h2
   rw[TX r t h1 h2]
theorem QJ (a:Str):sl a a=false:=QH _
theorem NQ {a b c:Str}(h1:sl a b=true) (h2:sl b c=true):sl a c=true:=TV _ _ _ h1 h2
theorem NR {a b:Str}(h1:sl a b=false) (h2:sl b a=false):a=b:=GG (TX _ _ h1 h2)
theorem TY {a b:Str}(h:sl a b=true):sl b a=false:=by
 cases e:sl b a with
 | false=>rfl
 | true=>have:=NQ h e;rw[QJ] at this;cases this
theorem uD (a b:Str):decide (a.cps.toList < b.cps.toList)=sl a b:=PyProof.Rows.lt_meets a b
def Ris (ss:List Str):Prop:=ss.Pairwise fun a b=>sl a b=true
theorem aJ:∀ss:List Str,xH ss=true→ss.Pairwise fun a b=>sl b a=false
 | [],_=>.nil
 | a::r,h=>by
   have key:∀(r:List Str) (p:Str),PyProof.Rows.risingS p r=true→(p::r).Pairwise fun a b=>sl b a=false:=by
     intro r
     induction r with
     | nil=>intro p _;simp
     | cons x r ih=>
       intro p h
       unfold PyProof.Rows.risingS at h
       simp only[Bool.and_eq_true,Bool.not_eq_true'] at h
       have h2:=ih x h.2
       refine List.pairwise_cons.mpr ⟨fun c hc=>?_,h2⟩
       have hx:sl x p=false:=h.1
       rcases yX.mp hc with rfl | hc
       · exact hx
       · have hcx:sl c x=false:=(List.pairwise_cons.mp h2).1 c hc
         cases e:sl c p with
         | false=>rfl
         | true=>
           cases e2:sl x c with
           | true=>have:=NQ e2 e;rw[hx] at this;cases this
           | false=>have:=NR hcx e2;subst this;rw[hx] at e;cases e
   exact key r a h
theorem WK {ss:List Str}(h:xH ss=true) (nd:ss.Nodup):Ris ss:=by
 unfold Ris
 have h1:=aJ ss h
 refine(List.Pairwise.and h1 nd).imp fun {a b} ⟨x,y⟩=>?_
 cases e:sl a b with
 | true=>rfl
 | false=>exact absurd (NR e x) y
theorem Ris.nodup {ss:List Str}(h:Ris ss):ss.Nodup:=h.imp fun {a b} q=>by rintro rfl;rw[QJ] at q;cases q
theorem D0 {d:PyData}(h1:d.canLay0=true) (h2:d.depth≤64):zH d=true:=by
 unfold zH;rw[h1,decide_eq_true h2];rfl
theorem RZ {ds:List PyData}(h:∀d∈ds,d.canLay0=true):PyData.canLayAll0 ds=true:=by
 induction ds with
 | nil=>rfl
 | cons d r ih=>rw[PyData.canLayAll0,h d List.mem_cons_self,ih fun x hx=>h x (yV _ hx)];rfl
theorem fC {ds:List PyData}{n:Nat}(h:∀d∈ds,d.depth≤n):PyData.depthAll ds≤n:=by
 induction ds with
 | nil=>simp[PyData.depthAll]
 | cons d r ih=>
   have h1:=h d List.mem_cons_self
   have h2:=ih fun x hx=>h x (yV _ hx)
   simp only[PyData.depthAll];omega
theorem JO {z:Str}(h:B8 z):PyData.strOk z=true:=by
 unfold PyData.strOk
 rw[Array.all_eq_true']
 intro c hc
 have:=WJ (h.2.2 c (by simpa using hc))
 simp;omega
theorem NS:∀c∈(Str.ofString "abcdefghijklmnopqrstuvwxyz").cps.toList,EE c=true:=by decide +kernel
theorem WL:(Str.ofString "abcdefghijklmnopqrstuvwxyz").cps.toList.Nodup:=by decide +kernel
end DL
namespace DL
open PySem PySem.Spec L2
theorem sIx_nat (n d k:Nat):HT.sIx n d (some (k:Int))=min k n:=HT.sIx_nat n d k
theorem TZ (xs:List PyData) (k:Nat):BU xs (some (k:Int)) none=xs.drop k:=by
 unfold BU
 rw[sIx_nat]
 show(xs.drop (min k xs.length)).take (xs.length - min k xs.length)=_
 rw[List.take_of_length_le (by rw[List.length_drop];omega)]
 by_cases h:k≤xs.length
 · rw[Nat.min_eq_left h]
 · rw[Nat.min_eq_right (by omega),List.drop_eq_nil_of_le (zR _),List.drop_eq_nil_of_le (by omega)]
theorem rC (xs:List PyData) (k:Nat):BU xs none (some (k:Int))=xs.take k:=by
 unfold BU
 rw[sIx_nat]
 show(xs.drop 0).take (min k xs.length - 0)=_
 rw[List.drop_zero,Nat.sub_zero,List.take_eq_take_iff];omega
theorem YV (xs:List PyData) (a b:Nat):BU xs (some (a:Int)) (some (b:Int))=(xs.take b).drop a:=by
 unfold BU
 rw[sIx_nat,sIx_nat,List.drop_take]
 by_cases h:a≤xs.length
 · rw[Nat.min_eq_left h,List.take_eq_take_iff,List.length_drop];omega
 · rw[List.drop_eq_nil_of_le (show xs.length≤min a xs.length by omega),List.drop_eq_nil_of_le (show xs.length≤a by omega)];simp
theorem kW (xs:List PyData) (lo hi:Option Int):(BU xs lo hi).length≤xs.length:=by
 unfold BU;rw[List.length_take,List.length_drop];omega
def fn2 (pre:PyData→PyData→Prop) (f:PyData→PyData→PyData):FSp:=⟨fun xs _=>∃a b,xs=[.d a,.d b]∧pre a b,fun xs M y M'=>∀a b,xs=[.d a,.d b]→y = .d (f a b)∧M'=M⟩
theorem fD {pre:PyData→PyData→Prop}{f:PyData→PyData→PyData}{a b:PyData}{M:Own}{Q:DS→Own→Prop}(p:pre a b) (q:Q (.d (f a b)) M):[DS.d a,.d b].length=2∧(fn2 pre f).pre [.d a,.d b] M∧∀x M',(fn2 pre f).post [.d a,.d b] M x M'→Q x M':=
 ⟨rfl,⟨a,b,rfl,p⟩,fun x M' h=>by obtain⟨rfl,rfl⟩:=h a b rfl;exact q⟩
def vJ:PyData→PyData | .tuple (a::_)=>a | d=>d
def U0:PyData→Str | .str z=>z | _=>⟨#[]⟩
def nm0 (d:PyData):Str:=U0 (vJ d)
abbrev Th:=Str×Int×Int
def thD (t:Th):PyData:=.tuple [.str t.1,.int t.2.1,.int t.2.2]
def wD (w:List Th):PyData:=.tuple (w.map thD)
theorem QK {d:PyData}(h:BZ d=true):∃z,d = .str z∧B8 z:=by
 cases d with
 | str z=>
   rw[QG] at h
   simp only[Bool.and_eq_true,decide_eq_true_eq,List.all_eq_true] at h
   exact⟨z,rfl,h.1.1,h.1.2,h.2⟩
 | _=>cases h
theorem fE {z:Str}(h:B8 z):BZ (.str z)=true:=by
 rw[QG,decide_eq_true h.1,decide_eq_true h.2.1,List.all_eq_true.mpr h.2.2];rfl
theorem kX (w:List Th):(w.map thD).map nm0=w.map (·.1):=by rw[zD];rfl
end DL
namespace DL
open PySem PySem.Spec L2
section
variable {K:Frg}{ρ:List (Option DS)}{M:Own}{g:TG}{wi:TI}
theorem S0 {fr:List (Option Nat)}{tt:TT}{te:TE}{T:List Nat}{Q:DS→Own→Prop}(ho:QD g T) (hT:∀i∈T,∀j,fr[i]?≠some (some j))
   (h:DI K wi ρ M fun ds M1=>ds.length < sizeLine∧∃(c:PyData→Bool) (f:PyData→PyData),(∀d∈ds,∀A acc M',M1 A=none→M'=M1.put A (.l acc)→DG K g d (M8 fr ρ) M' fun ρ2 M2=>M2=M'∧DT K tt ρ2 M2 fun b M3=>M3=M'∧b=c d∧(c d=true→DE K te ρ2 M3 fun y M4=>y = .d (f d)∧M4=M'))∧Q (.d (.list ((ds.filter c).map f))) M1) :
   DE K (QA fr wi g tt te) ρ M Q:=by
 refine RU ho hT fun σ H R Rl k=>h σ H R Rl fun J ds H1 M1 o1 t1 wd q=>k J ds H1 M1 o1 t1 wd ?_
 obtain⟨hsz,c,f,he,q⟩:=q
 refine⟨hsz,fun A hA=>⟨fun k acc M'=>acc=((ds.take k).filter c).map f∧M'=M1.put A (.l acc),⟨by simp,rfl⟩,fun k acc M' ⟨e1,e2⟩=>⟨by rw[e2];exact zU,?_⟩,fun k d acc M' hd ⟨e1,e2⟩=>?_,fun acc M' ⟨e1,e2⟩=>?_⟩⟩
 · rw[e1,zX]
   exact zN (yJ _ _) (by rw[List.length_take];omega)
 · have hm:d∈ds:=yN hd
   intro σ H v QQ R dv kk
   refine he d hm A acc M' hA e2 σ H v QQ R dv fun ρ' M2 σ' H' R' st ⟨eM,q2⟩=>kk ρ' M2 σ' H' R' st fun σ2 H2 QQ2 R2 k2=>?_
   refine q2 σ2 H2 QQ2 R2 fun b H3 M3 o3 st3 ⟨eM3,eb,q3⟩=>k2 b H3 M3 o3 st3 ?_
   have ts:(ds.take (k+1)).filter c=(ds.take k).filter c++(if c d then [d] else []):=take_succ_filter c ds k d hd
   cases hb:c d with
   | false=>
     rw[hb] at eb
     subst eb
     refine L2.jR ⟨?_,by rw[eM3,e2]⟩
     rw[ts,hb,e1];simp
   | true=>
     rw[hb] at eb
     subst eb
     refine L2.jS ?_
     refine YM (q3 hb) fun y M4 ⟨ey,e4⟩=>⟨f d,ey,by rw[e4,e2];exact zU,?_,by rw[e4,e2,yI]⟩
     rw[ts,hb,e1];simp
 · rw[e2,Own.del_put hA,e1,List.take_length]
   exact q
end
theorem M9 {as bs:List Str}(h:as.map PyData.str=bs.map PyData.str):as=bs:=by
 have:=congrArg (List.map U0) h
 rw[zD,zD] at this
 simpa [show(U0∘PyData.str)=id from rfl] using this
theorem U1 {α:Type}{xs:List α}{v:Int}(h0:0≤v) (h1:v < xs.length):∃x,atI xs v=some x∧x∈xs:=by
 obtain⟨n,rfl⟩:∃n:Nat,v=(n:Int):=⟨v.toNat,by omega⟩
 have hn:n < xs.length:=by omega
 exact⟨xs[n],AD (zV hn),List.getElem_mem hn⟩
end DL
namespace DL
open PySem PySem.Spec L2
theorem S3 {K:Frg}{ρ:List (Option DS)}{M:Own}{D:EndsD}{te:TE}{g:TG}(h:DE K te ρ M fun x M1=>∃d,x = .d d∧DG K g d ρ M1 D.nx):DSt K (ZT te g) ρ M D:=fun σ H E R k1 _ _ _=>
 h σ H _ R fun v H' x M' a b c q=>by
   obtain⟨d,rfl,q⟩:=q
   exact q σ H' v _ (R.step a c) b fun ρ2 M2 σ2 H2 R2 st2 p=>k1 ρ2 M2 σ2 H2 R2 (c.trans st2) p
end DL
namespace DL
open PySem PySem.Spec L2
theorem K8 {X:Cx}:MtR X "list.append" RQ:=Q5
end DL
namespace L2
open PySem PySem.Spec PyProof.Rows
def EntS (w:World):List DictEntry→List (Str×Str)→Prop
 | [],[]=>True
 | e::es,kv::r=>e.hash=hashStr w kv.1∧(∃t,e.key = .str kv.1 t)∧(∃t,e.val = .str kv.2 t)∧EntS w es r
 | _,_=>False
def GDict (w:World) (K:Frg) (a:Addr) (kvs:List (Str×Str)):Prop:=
 (a==sysModules)=false∧(kvs.map (·.1)).Nodup∧∃es ep,K.lookup a=some { cls:=.type "dict", data:=.dict es ep }∧EntS w es.toList kvs
theorem EntS.pairs {P:Program}{w:World}:∀{es:List DictEntry}{kvs:List (Str×Str)},EntS w es kvs→∃vs:List (Key×Value),Pairs (AK P w) es vs∧KV (kvs.map fun kv=>((Sum.inr kv.1:Key),V.str kv.2)) vs∧vs.map (·.1)=kvs.map (fun kv=>(Sum.inr kv.1:Key))∧∀e∈es,∃k,(AK P w).is k e.key=true∧e.hash=(AK P w).hash k
 | [],[],_=>⟨[],.nil,.nil,rfl,by simp⟩
 | e::es,kv::r,⟨h1,⟨t,h2⟩,⟨t',h3⟩,h4⟩=>by
   obtain⟨vs,a,b,c,d⟩:=EntS.pairs (P:=P) h4
   have hk:(AK P w).is (Sum.inr kv.1) e.key=true:=by rw[h2];exact LV P w kv.1 t
   refine⟨(Sum.inr kv.1,e.val)::vs,.cons hk rfl a,.cons ⟨rfl,⟨t',h3⟩⟩ b,by rw[zI,zI,c],fun x hx=>?_⟩
   rcases yX.mp hx with rfl | hx
   · exact⟨_,hk,h1⟩
   · exact d x hx
section
variable {X:Cx}{pins:List (Addr×Obj)}{σ:St}{H:Hp}{s:Shared}
theorem GDict.at {a:Addr}{kvs:List (Str×Str)}(g:GDict X.w X.K a kvs) (I:Inv X pins σ H s):∃vs,KV (kvs.map fun kv=>((Sum.inr kv.1:Key),V.str kv.2)) vs∧s.heap.DictOf (AK X.prog X.w) a vs:=by
 obtain⟨_,nd,es,ep,hk,he⟩:=g
 obtain⟨vs,p1,p2,p3,p4⟩:=he.pairs (P:=X.prog)
 refine⟨vs,p2,_,es,ep,I.kIn a _ hk,⟨rfl,rfl,rfl⟩,rfl,fun e he=>p4 e (by simpa using he),p1,?_⟩
 rw[p3]
 have:kvs.map (fun kv=>(Sum.inr kv.1:Key))=(kvs.map (·.1)).map Sum.inr:=by rw[zD];rfl
 rw[this]
 unfold List.Nodup
 rw[List.pairwise_map]
 exact nd.imp fun {a b} q e=>q (by injection e)
def nV (kvs:List (Str×Str)) (ty:TE):TE:=fun σ H Q=>ty σ H fun y H1=>∃k:Str,y = .str k∧Q (((kvs.lookup k).map V.str).getD .non) H1
theorem U2 (kvs:List (Str×Str)) (k:Str):F6 (kvs.map fun kv=>((Sum.inr kv.1:Key),V.str kv.2)) (Sum.inr k)=(kvs.lookup k).map V.str:=by
 induction kvs with
 | nil=>rfl
 | cons kv r ih=>
   obtain⟨a,b⟩:=kv
   unfold F6 at ih ⊢
   rw[zI,List.find?_cons,List.lookup_cons]
   by_cases h:a=k
   · subst h;simp
   · have h1:decide ((Sum.inr a:Key)=Sum.inr k)=false:=decide_eq_false fun e=>h (by injection e)
     have h2:(k==a)=false:=by simpa using fun e=>h e.symm
     simp only[h1,h2]
     exact ih
theorem kY {x:Str}{p apos cpos:Pos}{e:Expr}{ty:TE}{kvs:List (Str×Str)}(hg:Gl X x) (hm:∃a,X.mg x=some (.ref a)∧GDict X.w X.K a kvs) (he:PE X e ty) (m:M1 X (.Name x p) "get" apos e cpos) (hd:(x==("__debug__":Str))=false:=by decide) :
   PE X (.Call (.Attribute (.Name x p) "get" apos) [e] [] cpos) (nV kvs ty):=by
 obtain⟨a,hm,g⟩:=hm
 intro pins s σ H Q I h
 refine wpAny_Call_method m.base m.few m.line PySem.F.plainAttrs_dict PySem.F.slot_dict_get PySem.F.type_dict_get (IL I hg hm ?_ hd)
 obtain⟨vs,rel,dd⟩:=g.at I
 refine⟨dd.typeIs,fun b q=>?_,?_⟩
 · cases q
   obtain⟨ob,_,_,h1,h2,_⟩:=dd
   exact⟨ob,h1,h2.2.1⟩
 rw[m.trees]
 refine Calls.callWith_builtin rfl (Calls.evalArgs_plain (xQ (thn (he pins s σ H _ I h) fun iv s2 ⟨y,H2,I2,ry,k,ey,q2⟩=>Calls.spliced_nil ?_)))
 subst ey
 obtain⟨vs',rel',dd'⟩:=g.at I2
 refine call_meetsIn PySem.F.slot_dict_get dd'.typeIs PySem.F.entry_dict_get (PySem.F.args_dict_get_2 _ _) (meets_dict_get (AK X.prog X.w) a (J5 (k:=Sum.inr k) ry) g.1) ⟨_,dd'.mapOf,?_⟩
 refine⟨_,H2,I2.tok _,?_,q2⟩
 have:=(rel'.val (Sum.inr k)).getD (show RelV .non .none from rfl)
 rw[U2] at this
 exact this
end
end L2
namespace DL
open PySem PySem.Spec L2
section
variable {K:Frg}{ρ:List (Option DS)}{M:Own}{Q:DS→Own→Prop}{ty:TE}
def U3:Option Str→PyData | some z=>.str z | none=>.none
theorem kZ {kvs:List (Str×Str)}(h:DE K ty ρ M fun y M1=>∃k,y = .d (.str k)∧Q (.d (U3 (kvs.lookup k))) M1):DE K (nV kvs ty) ρ M Q:=fun σ H QQ R k=>
 h σ H _ R fun v H1 x M1 o1 s1 t1 h1=>by
   obtain⟨z,rfl,q⟩:=h1
   refine⟨z,AT s1,?_⟩
   cases e:kvs.lookup z with
   | none=>rw[e] at q;exact k _ H1 (.d .none) M1 o1 (by unfold SI DV;rfl) t1 q
   | some y=>rw[e] at q;exact k _ H1 (.d (.str y)) M1 o1 BS t1 q
theorem rD {neg:Bool}{x:Str}{ys:List Str}(q:Q (.d (.bool (if neg then !decide (x∈ys) else decide (x∈ys)))) M):D2 K (rIn K neg) (.d (.str x)) (.d (.tuple (ys.map .str))) M Q:=fun H v u QQ oa s1 s2 k=>by
 rw[AT s1]
 unfold SI DV at s2
 obtain⟨a,vs,rfl,hl,hd⟩:=s2
 have e:=HH hd
 subst e
 exact⟨a,_,rfl,.inr hl.sq,rfl,by simp[J3],k _ H (.d (.bool (if neg then !decide (x∈ys) else decide (x∈ys)))) M oa (by rw[TL];exact AL) Step.refl q⟩
theorem l3 {x:Str}{ys:List Str}(q:Q (.d (.bool (decide (x∈ys)))) M):D2 K (dW K) (.d (.str x)) (.d (.tuple (ys.map .str))) M Q:=G8 (rD (neg:=false) q)
end
end DL
namespace L2
open PySem PySem.Spec PyProof.Rows
section
variable {X:Cx}
def S4:V→List V→Hp→VK→Prop:=fun v vs H Q=>∃x y,v = .str x∧vs=[.str y]∧Q (.bl (Txt.startswith x y)) H
theorem aK:MtR X "str.startswith" S4:=by
 intro pins s σ H x xs v us Q I rx rv h
 obtain⟨y,z,rfl,rfl,q⟩:=h
 obtain⟨t,rfl⟩:=rx
 obtain⟨u,rfl,t',rfl⟩:=F7 rv
 exact SC.startswith ⟨.bl _,H,I,rfl,q⟩
def HE (z:Str) (n:Int):Str:=if (n==1||z.length==0)=true then z else ⟨(List.replicate n.toNat z.cps).foldl (·++·) #[]⟩
def QM:R2:=fun x y H Q=>(rI (fun i j=>IntMulOk i j) fun i j=>.int (i*j)) x y H Q∨∃z n,x = .str z∧y = .int n∧1≤n∧n≤8∧z.length≤1000∧Q (.str (HE z n)) H
theorem U4 (a:Array Nat):∀(n:Nat) (b:Array Nat),(List.foldl (fun x1 x2=>x1++x2) b (List.replicate n a)).size=b.size+n*a.size
 | 0,b=>by simp
 | n+1,b=>by
   rw[List.replicate_succ,List.foldl_cons,U4 a n,Array.size_append,Nat.succ_mul];omega
theorem NT (a:Array Nat):∀(n:Nat) (b:Array Nat),(List.foldl (fun x1 x2=>x1++x2) b (List.replicate n a)).toList=b.toList++(List.replicate n a.toList).flatten
 | 0,b=>by simp
 | n+1,b=>by
   rw[List.replicate_succ,List.foldl_cons,NT a n,List.replicate_succ];simp
theorem YW:OpR X (binaryOp .Mult) QM:=by
 intro pins s σ H x y v u Q I rx ry h
 rcases h with h | ⟨z,n,rfl,rfl,h1,h2,h3,q⟩
 · exact(opI (C:=fun i j=>IntMulOk i j) fun _ _ _ _ _ _ _ hc q=>mul_int q hc) pins s σ H x y v u Q I rx ry h
 · obtain⟨t,rfl⟩:=rx
   obtain⟨t',rfl⟩:=ry
   have hp:(2:Int) ^ 63=9223372036854775808:=by decide
   refine P.mul_str ?_ (fun _ _=>?_) (fun _ _=>?_) ?_
   · rw[decide_eq_false (Int.not_lt.mpr (Int.le_trans (by decide) h1)),decide_eq_false (Int.not_le.mpr (Int.lt_of_le_of_lt h2 (by decide)))];rfl
   · rw[hp]
     have h5:(1000:Int)≤(9223372036854775808 - 1)/n:=Int.le_ediv_of_mul_le (Int.lt_of_lt_of_le (by decide) h1) (Int.le_trans (Int.mul_le_mul_of_nonneg_left h2 (by decide)) (by decide))
     exact fun hc=>absurd (Int.lt_of_le_of_lt h5 hc) (Int.not_lt.mpr (Int.ofNat_le.mpr h3))
   · have hm:z.length*n.toNat≤1000*1000:=Nat.mul_le_mul h3 (by omega)
     unfold Builtin.Str.tooLong
     rw[decide_eq_false]
     exact fun hc=>absurd (zP hc hm) (by decide)
   · rw[if_neg (by omega)]
     have q':=q
     unfold HE at q'
     split
     · rename_i e
       rw[if_pos e] at q'
       exact⟨.str z,H,I,⟨_,rfl⟩,q'⟩
     · rename_i e
       rw[if_neg e] at q'
       refine⟨?_,⟨.str _,H,I.tok _,⟨_,rfl⟩,q'⟩⟩
       show(List.foldl (fun x1 x2=>x1++x2) #[] (List.replicate n.toNat z.cps)).size≤sizeLine
       rw[U4]
       have hm:(#[]:Array Nat).size+n.toNat*z.cps.size≤8*1000:=by
         rw[show(#[]:Array Nat).size=0 from rfl,Nat.zero_add]
         exact Nat.mul_le_mul (by omega) h3
       exact zN hm (by decide)
end
end L2
namespace DL
open PySem PySem.Spec L2
section
variable {X:Cx}{K:Frg}
theorem MA (_:X.K=K):MtR X "str.startswith" S4:=aK
theorem rE (_:X.K=K):OpR X (binaryOp .Mult) QM:=YW
def YX:List V→Hp→VK→Prop:=fun xs H Q=>∃i j,xs=[.int i,.int j]∧tD i j∧∀p,H p=none→Q (.ref p) (upd H p (.tup [.int (i/j),.int (i % j)]))
theorem l4 (_:X.K=K):BO X (.builtin "divmod") YX:=T8
end
section
variable {K:Frg}{ρ:List (Option DS)}{M:Own}{Q:DS→Own→Prop}
theorem QN {x y:Str}(q:Q (.d (.bool (Txt.startswith x y))) M):DM K S4 (.d (.str x)) [.d (.str y)] M Q:=fun H v vs QQ oa s1 s2 k=>by
 obtain⟨u,r,rfl,h1,h2⟩:=s2
 cases h2
 rw[AT s1,AT h1]
 exact⟨x,y,rfl,rfl,k _ H _ M oa AL Step.refl q⟩
theorem fF {i j:Int}(c:IntMulOk i j) (q:Q (.d (.int (i*j))) M):D2 K QM (.d (.int i)) (.d (.int j)) M Q:=fun H v u QQ oa s1 s2 k=>by
 rw[BE s1,BE s2]
 exact .inl ⟨i,j,rfl,rfl,c,k _ H _ M oa BR Step.refl q⟩
theorem WM {z:Str}{n:Int}(h1:1≤n) (h2:n≤8) (h3:z.length≤1000) (q:Q (.d (.str (HE z n))) M):D2 K QM (.d (.str z)) (.d (.int n)) M Q:=fun H v u QQ oa s1 s2 k=>by
 rw[AT s1,BE s2]
 exact .inr ⟨z,n,rfl,rfl,h1,h2,h3,k _ H _ M oa BS Step.refl q⟩
theorem QO {i j:Int}(h0:0 < j) (hj:j < 1073741824) (q:Q (.d (.tuple [.int (i/j),.int (i % j)])) M):DR K YX [.d (.int i),.d (.int j)] M Q:=fun H vs QQ oa s k=>by
 obtain⟨v,r,rfl,h1,v2,r2,rfl,h2,h3⟩:=s
 cases h3
 rw[BE h1,BE h2]
 refine⟨i,j,rfl,⟨h0,hj⟩,fun p hp=>?_⟩
 have g:Grow K M.W M.W H (upd H p (.tup [.int (i/j),.int (i % j)])):=AW _ hp
 refine k _ _ (.d (.tuple [.int (i/j),.int (i % j)])) M (oa.new hp) ?_ ⟨g⟩ q
 unfold SI DV
 exact⟨p,_,rfl,.inl ⟨fun w=>w (oa.none hp),.inl AG⟩,DVs.cons (by unfold DV;rfl) (DVs.cons (by unfold DV;rfl) DVs.nil)⟩
theorem fG {g:TGs}{to ti:TE}{d:PyData}{ds:List PyData}{P:List (Option DS)→Own→Prop}
   (h:DE K to ρ M fun o M1=>DE K ti ρ M1 fun i M2=>∃a xs k j,o = .loc a∧i = .d (.int k)∧M2 a=some (.l xs)∧ixN xs.length k=some j∧DGs K g ds ρ (M2.put a (.l (xs.set j d))) P) :
   DGs K (Y8 (oX to ti cV) g) (d::ds) ρ M P:=fun σ H vs QQ R hd kk=>by
 unfold DVs at hd
 obtain⟨v,r,rfl,h1,h2⟩:=hd
 refine⟨v,r,rfl,h σ H _ R fun w H2 y M2 o2 s2 t2 h3=>h3 σ H2 _ (R.step o2 t2) fun u H3 z M3 o3 s3 t3 h4=>?_⟩
 obtain⟨a,xs,k,j,rfl,rfl,m,hj,q⟩:=h4
 rw[BE s3]
 have e:=s2.step t3
 unfold SI at e
 subst e
 obtain⟨vs,h0,hd'⟩:=o3 a _ m
 have t23:=t2.trans t3
 obtain⟨p1,p2⟩:=IN o3 m (hd'.set j (DV.grow t23.grow h1))
 have st:=t23.trans p2
 exact⟨a,vs,k,j,rfl,rfl,h0,by rw[hd'.length];exact hj,q σ _ r _ (R.step p1 st) (DVs.grow st.grow h2) fun ρ' M' σ' H' R' st' p=>kk ρ' M' σ' H' R' (st.trans st') p⟩
end
end DL
namespace L2
open PySem PySem.Spec PyProof.Rows PySem.W
theorem S5 {ns:List Int}(h:WData.layableAll [WData.list (ns.map WData.int)]=true):∀i∈ns,xL i≤2 ^ 20:=by
 have h1:WData.weightAll (ns.map WData.int)≤2 ^ 20:=by
   have h0:WData.layable (WData.list (ns.map WData.int))=true:=by
     unfold WData.layableAll at h
     simpa using h
   unfold WData.layable at h0
   rw[Bool.and_eq_true] at h0
   exact of_decide_eq_true h0.2
 intro i hi
 refine zN ?_ h1
 clear h h1
 induction ns with
 | nil=>cases hi
 | cons n r ih=>
   rw[zI]
   show _≤WData.weight (.int n)+1+WData.weightAll (r.map WData.int)
   rcases yX.mp hi with rfl | hi
   · have:WData.weight (.int i)=xL i:=rfl
     omega
   · have:=ih hi
     omega
theorem fH {l:PySem.W.OpenLaw}{n k:Nat}{q:Program}{loose:List Str}{XP:(Str→Option Value)→Heap→Prop}{YP:World→Heap→Prop}{d:DefRec}{K:Params→Frg}{CX:World→CXT}{sp:World→Sp}{x:Str}
   (hn:l.most=some n) (hn2:n≤sizeLine) (hdf:d.params.defaults=[]) (hr:Room k callerA)
   (hY:∀(w:World) (h:Heap),YP w h→(K w.params).In h)
   (F:∀(w:World) (mg:Str→Option Value) (fa:Addr) (h:Heap),(K w.params).In h→h.Ns mainGlobals mg→mg d.name=some (.ref fa) →
     ∃fd:FuncData,(∀(s:Shared) (u:Value),BindsTo s fd ⟨[u],[]⟩ [(x,u)]) ∧
       ∀base:Heap,(K w.params).In base→base.Ns mainGlobals mg→FnOk l.prog w (K w.params) mg base (CX w) k fa fd [x] (sp w))
   (hsp:∀(w:World) (H:Hp) (a:Addr) (ns:List Int),ns.length≤n→(∀i∈ns,xL i≤2 ^ 20)→pX H→SqL (K w.params) H a (ns.map V.int)→sp w [.ref a] H (fun v _=>v = .bl true) fun _ _ _=>False)
   (hCX:∀(w:World) (H:Hp) (s:Shared) (e:Value) (s':Shared),CX w [] H s (fun _ _ _=>False) e s'→False) :
   PySem.W.WalkO q loose XP YP l.row.toRowW d [] (fun f vs=>PySem.call f vs):=by
 intro w s₀ s₁ mg mb G Y fa o pm cd doc dV kV ho hd hcd hD hmg hg args vals as hpre hlay hrd hwl hlo
 have e1:dV = .none:=Dflts.none hD hdf
 subst e1
 have e2:kV = .none:=Dflts.noKw hD
 subst e2
 obtain⟨a,vs,ns,rfl,rfl,hobj,hints,hlen⟩:=Att.script_of hn hpre hwl
 have hbits:=S5 hlay
 refine enter_call (xP (R:=fun r s'=>r = .ok (.ret (.bool true))∧OldK s₁.heap s'.heap∧s'.os=s₁.os∧AllBare s'.gens) ?_ fun r s' hq=>?_)
 · have KX:=hY w _ Y
   obtain⟨fd,hb,hF⟩:=F w mg fa _ KX G.T.g hmg
   exact dE KX G.T.g G.T.b G.T.builtins G.T.nolimit hg hobj hints (zN hlen hn2) hr hF hb (fun H hO hS=>hsp w H a ns hlen hbits hO hS) fun H e s'=>hCX w H s₁ e s'
 · have h1:=hq.1
   subst h1
   exact⟨.inl ⟨.bool true,.bool true,[],rfl,fun _=>rfl,.bool true,Att.post_true l _,fun _=>⟨List.Pairwise.nil,fun _ hm=>(nomatch hm)⟩⟩,hq.2.1,hq.2.2.1,hq.2.2.2⟩
end L2
namespace DL
open PySem PySem.Spec L2
theorem NU (i m:Nat) (a:Array Nat):((List.range m).map (i+·)).filterMap (fun j=>a[j]?)=(a.toList.drop i).take m:=by
 induction m with
 | zero=>simp
 | succ m ih=>
   rw[List.range_succ,xJ,List.filterMap_append,ih,List.take_add_one]
   have e:a[i+m]?=(a.toList.drop i)[m]?:=by rw[List.getElem?_drop];simp
   simp only[zI,List.map_nil,List.filterMap_cons,List.filterMap_nil,e]
   cases (a.toList.drop i)[m]? <;> simp
theorem WN (n len:Nat):max 0 (min (n:Int) (len:Int))=((min n len:Nat):Int):=by
 rcases Nat.le_total n len with h | h
 · rw[Nat.min_eq_left h,Int.min_eq_left (Int.ofNat_le.mpr h),Int.max_eq_right (Int.natCast_nonneg _)]
 · rw[Nat.min_eq_right h,Int.min_eq_right (Int.ofNat_le.mpr h),Int.max_eq_right (Int.natCast_nonneg _)]
theorem fI (a b:Nat):(if (a:Int) < (b:Int) then ((b:Int) - (a:Int)+1 - 1)/1 else 0).toNat=b - a:=by
 split
 · rw[Int.ediv_one];omega
 · omega
theorem fJ (n len:Nat):Builtin.Str.strSliceIndices (some (n:Int)) none 1 len=(List.range (len - min n len)).map (min n len+·):=by
 unfold Builtin.Str.strSliceIndices sliceRange
 have h1:¬((n:Int) < 0):=Int.not_lt.mpr (Int.natCast_nonneg n)
 have h2:=WN n len
 simp only[show(1:Int) > 0 by decide,if_true,h1,if_false,h2]
 have h3:(if ((min n len:Nat):Int) < (len:Int) then ((len:Int) - ((min n len:Nat):Int)+1 - 1)/1 else 0).toNat=len - min n len:=fI _ _
 rw[h3]
 apply yM
 intro i hi
 omega
theorem l5 (n k len:Nat):Builtin.Str.strSliceIndices (some (n:Int)) (some (k:Int)) 1 len=(List.range (min k len - min n len)).map (min n len+·):=by
 unfold Builtin.Str.strSliceIndices sliceRange
 have h1:¬((n:Int) < 0):=Int.not_lt.mpr (Int.natCast_nonneg n)
 have h1':¬((k:Int) < 0):=Int.not_lt.mpr (Int.natCast_nonneg k)
 have h2:=WN n len
 have h2':=WN k len
 simp only[show(1:Int) > 0 by decide,if_true,h1,h1',if_false,h2,h2']
 have h3:(if ((min n len:Nat):Int) < ((min k len:Nat):Int) then (((min k len:Nat):Int) - ((min n len:Nat):Int)+1 - 1)/1 else 0).toNat=min k len - min n len:=fI _ _
 rw[h3]
 apply yM
 intro i hi
 omega
theorem ES (z:Str) (n:Nat):(Txt.slice z (some (n:Int)) none).cps.toList=z.cps.toList.drop n:=by
 unfold Txt.slice
 rw[fJ]
 have hl:z.length=z.cps.toList.length:=by simp[Str.length]
 split
 · rename_i h
   rw[Bool.and_eq_true] at h
   have h:=eq_of_beq h.2
   rw[zX,xZ] at h
   have h0:n=0∨z.cps.toList.length=0:=by rw[hl] at h;omega
   rcases h0 with rfl | h0
   · simp
   · rw[List.length_eq_zero_iff.mp h0];simp
 · show(List.filterMap _ _).toArray.toList=_
   rw[NU,List.toList_toArray,hl]
   by_cases h:n≤z.cps.toList.length
   · rw[Nat.min_eq_left h,List.take_of_length_le (by rw[List.length_drop];exact zR _)]
   · rw[Nat.min_eq_right (by omega),List.drop_eq_nil_of_le (zR _),List.drop_eq_nil_of_le (by omega)];simp
theorem aL (z:Str) (n k:Nat):(Txt.slice z (some (n:Int)) (some (k:Int))).cps.toList=(z.cps.toList.take k).drop n:=by
 unfold Txt.slice
 rw[l5]
 have hl:z.length=z.cps.toList.length:=by simp[Str.length]
 have key:(z.cps.toList.drop (min n z.length)).take (min k z.length - min n z.length)=(z.cps.toList.take k).drop n:=by
   rw[hl,List.drop_take]
   by_cases h:n≤z.cps.toList.length
   · rw[Nat.min_eq_left h,List.take_eq_take_iff,List.length_drop]
     rcases Nat.le_total k z.cps.toList.length with h' | h'
     · rw[Nat.min_eq_left h']
     · rw[Nat.min_eq_right h',Nat.min_self,Nat.min_eq_right (Nat.sub_le_sub_right h' n)]
   · rw[List.drop_eq_nil_of_le (show z.cps.toList.length≤min n z.cps.toList.length by omega),List.drop_eq_nil_of_le (show z.cps.toList.length≤n by omega)];simp
 split
 · rename_i h
   rw[Bool.and_eq_true] at h
   have h:=eq_of_beq h.2
   rw[zX,xZ] at h
   rw[← key]
   have h5:=Nat.min_le_right k z.length
   have h0:min n z.length=0∨z.cps.toList.length=0:=by
     rw[← hl]
     revert h h5
     generalize min k z.length=a
     generalize min n z.length=b
     omega
   rcases h0 with h0 | h0
   · have h6:z.cps.toList.length≤min k z.length - 0:=by rw[← hl];rw[h0] at h;exact Nat.le_of_eq h.symm
     rw[h0,List.drop_zero,List.take_of_length_le h6]
   · rw[List.length_eq_zero_iff.mp h0];simp
 · show(List.filterMap _ _).toArray.toList=_
   rw[NU,List.toList_toArray,key]
theorem WO {i N:Nat}(h:i < N) (hN:N≤26):i/8 < 26:=zQ (Nat.div_le_self i 8) (zP h hN)
theorem JP (k:Nat):(1:Int)≤1+(k:Int) % 8∧1+(k:Int) % 8≤8∧1≤(1+(k:Int) % 8).toNat∧(1+(k:Int) % 8).toNat≤8:=by
 have e:(k:Int) % 8=((k % 8:Nat):Int):=rfl
 rw[e]
 have:=Nat.mod_lt k (show 8 > 0 by decide)
 clear e
 generalize k % 8=r at *
 omega
theorem uE {i j:Nat}(h1:(1:Int)+(i:Int) % 8=1+(j:Int) % 8) (h2:i/8=j/8):i=j:=by
 have a:=Nat.div_add_mod i 8
 have b:=Nat.div_add_mod j 8
 have c:i % 8=j % 8:=by
   have:=Int.add_left_cancel h1
   exact Int.ofNat.inj this
 rw[← a,← b,h2,c]
theorem rF {t:Nat}(h:t≤26):26 - t+min t 26=26:=by rw[Nat.min_eq_left h,Nat.sub_add_cancel h]
theorem rG {s L:Nat}(h:s≤7):min (3+s) L - 3≤7:=zN (Nat.sub_le_sub_right (Nat.min_le_left _ _) 3) (by rw[Nat.add_sub_cancel_left];exact h)
def WP (z:Str):Prop:=∀c∈z.cps.toList,EE c=true
theorem NV {z:Str}(h:WP z) (h1:1≤z.cps.toList.length) (h2:z.cps.toList.length≤8):B8 z:=⟨by rw[LE];exact h1,by rw[LE];exact h2,h⟩
theorem NW {a b:Str}(h1:WP a) (h2:WP b):WP (a++b):=fun c hc=>by
 rw[AN] at hc
 exact(yW.mp hc).elim (h1 c) (h2 c)
theorem U5 {c:Nat}(h:EE c=true):WP ⟨#[c]⟩:=fun d hd=>by
 have:d=c:=by simpa using hd
 subst this;exact h
theorem S6 {c:Nat}{n:Int}(h1:1≤n):(HE ⟨#[c]⟩ n).cps.toList=List.replicate n.toNat c:=by
 unfold HE
 split
 · rename_i h
   have:n=1:=by
     rw[Bool.or_eq_true,beq_iff_eq,beq_iff_eq] at h
     rcases h with h | h
     · exact h
     · exact absurd h (show ¬(1=0) by decide)
   subst this;rfl
 · show(List.foldl _ _ _:Array Nat).toList=_
   rw[NT]
   show []++(List.replicate n.toNat [c]).flatten=_
   rw[List.nil_append]
   induction n.toNat with
   | zero=>rfl
   | succ m ih=>rw[List.replicate_succ,List.flatten_cons,ih,List.replicate_succ];rfl
end DL
namespace L2
open PySem PySem.Spec PyProof.Rows
abbrev ET (F:List Addr) (S:Heap→Prop):Prop:=∀h h':Heap,S h→(∀c∈F,∀o,h.get? c=some o→h'.get? c=some o)→S h'
abbrev NxI (P:Program) (w:World) (A:Around) (i:Addr) (S S':Heap→Prop) (R:Value→Prop):Prop:=
 ∀(s:Shared) (Q:Value→Shared→Prop) (E:Value→Shared→Prop),S s.heap→(∀h' tk x,R x→S' h'→Heap.SameBut i s.heap h'→Q x { s with heap:=h',toks:=tk })→wpAny (model P w) A (Builtin.SmallTypes.nextOf (.ref i)) Q E s
abbrev NxE (P:Program) (w:World) (A:Around) (i:Addr) (S:Heap→Prop):Prop:=
 ∀(s:Shared) (Q:Value→Shared→Prop) (E:Value→Shared→Prop),S s.heap→(∀h' e,Heap.ExtBut i s.heap h'→(∃o,h'.get? e=some o∧o.cls = .type "StopIteration")→E (.ref e) { s with heap:=h' })→wpAny (model P w) A (Builtin.SmallTypes.nextOf (.ref i)) Q E s
structure ZAp (z TI TO i1 i2:Addr) (F1 F2:List Addr):Prop where
 tz:TO≠z
 az:i1≠z
 bz:i2≠z
 ta:TO≠i1
 tb:TO≠i2
 ab:i1≠i2
 f1:∀c∈F1,c≠z∧c≠TO∧c≠i2
 f2:∀c∈F2,c≠z∧c≠TO∧c≠i1
section
variable {prog:Program}{w:World}{A:Around}{E:Value→Shared→Prop}{s:Shared}{z TI TO i1 i2:Addr}{F1 F2:List Addr}{S1 S1' S2 S2':Heap→Prop}{R1 R2:Value→Prop}{a b:Value}
theorem aM {Q:Value→Shared→Prop}(D:ZAp z TI TO i1 i2 F1 F2) (t1:ET F1 S1) (t1':ET F1 S1') (t2:ET F2 S2) (t2':ET F2 S2') (n1:NxI prog w A i1 S1 S1' R1) (n2:NxI prog w A i2 S2 S2' R2)
   (hz:IsZip s.heap z TI TO .none) (hTI:IsPair s.heap TI (.ref i1) (.ref i2)) (hTO:IsPair s.heap TO a b) (h1:S1 s.heap) (h2:S2 s.heap)
   (l1:∀h,S1' h→i1 < h.objs.size) (l2:∀h,S2' h→i2 < h.objs.size)
   (hQ:∀h' tk x y,R1 x→R2 y→IsZip h' z TI TO (rawInt s.heap.objs.size)→IsPair h' TO x y→S1' h'→S2' h'→IsPair h' s.heap.objs.size x y→h'.objs.size=s.heap.objs.size+1 →
     (∀c o,c≠z→c≠TO→c≠i1→c≠i2→s.heap.get? c=some o→h'.get? c=some o)→Q (.ref s.heap.objs.size) { s with heap:=h',toks:=tk }) :
   wpAny (model prog w) A (Builtin.«zip.__next__» ⟨[.ref z],[]⟩) (fun fin s'=>∃v,fin = .done (.ret v)∧Q v s') E s:=by
 show wpAny _ _ (field (.ref z) 2 >>= _) _ _ _
 refine zZ (wpAny_field hz rfl (x:=.bool false) rfl ?_);show wpAny _ _ (field (.ref z) 3 >>= _) _ _ _
 refine zZ (wpAny_field hz rfl (x:=.ref TI) rfl ?_);refine zZ (wpAny_seqItems hTI rfl ?_)
 show wpAny _ _ (Builtin.SmallTypes.ownedTupleIsFree (.ref z) >>= _) _ _ _;refine zZ ?_;unfold Builtin.SmallTypes.ownedTupleIsFree
 refine zZ (wpAny_field hz rfl (x:=.none) rfl (zY ?_));simp only[if_true];refine zZ (wpAny_rule ?_)
 refine zZ (wpAny_field hz rfl (x:=.ref TO) rfl ?_);refine zZ (wpAny_setField_rec hz (by simp) fun g1 y1 q1=>?_)
 replace y1:IsZip g1 z TI TO .ellipsis:=y1
 refine zZ ?_;simp only[List.forIn_cons,List.forIn_nil,List.zipIdx_cons,List.zipIdx_nil]
 refine zZ (zZ (wpAny_onRaise ?_));show wpAny _ _ (Builtin.SmallTypes.nextOf (.ref i1) >>= _) _ _ _
 refine zZ (n1 _ _ _ (t1 _ _ h1 fun c hc o e=>q1.extBut _ _ (D.f1 c hc).1 e) fun g2 k2 x rx x2 q2=>zY ?_)
 have p2:IsPair g2 TO a b:=q2.extBut _ _ D.ta (q1.extBut _ _ D.tz hTO)
 refine zZ (wpAny_seqItems p2 rfl ?_);refine zZ (wpAny_updateSeq_pair p2 fun g3 p3 q3=>?_)
 replace p3:IsPair g3 TO x b:=p3
 refine zZ (wpAny_letGo (zY ?_));refine zZ (zZ (wpAny_onRaise ?_));show wpAny _ _ (Builtin.SmallTypes.nextOf (.ref i2) >>= _) _ _ _
 refine zZ (n2 _ _ _ (t2 _ _ h2 fun c hc o e=>q3.extBut _ _ (D.f2 c hc).2.1 (q2.extBut _ _ (D.f2 c hc).2.2 (q1.extBut _ _ (D.f2 c hc).1 e))) fun g4 k4 y ry x4 q4=>zY ?_)
 have p4:IsPair g4 TO x b:=q4.extBut _ _ D.tb p3
 refine zZ (wpAny_seqItems p4 rfl ?_);refine zZ (wpAny_updateSeq_pair p4 fun g5 p5 q5=>?_)
 replace p5:IsPair g5 TO x y:=p5
 refine zZ (wpAny_letGo (zY (zY ?_)));refine zZ (wpAny_seqItems p5 rfl ?_);refine zZ (wpAny_newTuple ?_)
 have hsz:g5.objs.size=s.heap.objs.size:=by rw[q5.1,q4.1,q3.1,q2.1,q1.1]
 have y5:IsZip g5 z TI TO .ellipsis:=q5.extBut _ _ D.tz.symm (q4.extBut _ _ D.bz.symm (q3.extBut _ _ D.tz.symm (q2.extBut _ _ D.az.symm y1)))
 have k5:∀c o,c≠z→c≠TO→c≠i1→c≠i2→s.heap.get? c=some o→g5.get? c=some o:=fun c o c1 c2 c3 c4 e=>q5.extBut _ _ c2 (q4.extBut _ _ c4 (q3.extBut _ _ c2 (q2.extBut _ _ c3 (q1.extBut _ _ c1 e))))
 have x25:S1' g5:=t1' _ _ x2 fun c hc o e=>q5.extBut _ _ (D.f1 c hc).2.1 (q4.extBut _ _ (D.f1 c hc).2.2 (q3.extBut _ _ (D.f1 c hc).2.1 e))
 have x45:S2' g5:=t2' _ _ x4 fun c hc o e=>q5.extBut _ _ (D.f2 c hc).2.1 e
 have ltz:z < g5.objs.size:=zM y5
 show wpAny _ _ (Builtin.SmallTypes.ownedTupleHandOut (.ref z) (.ref g5.objs.size) >>= _) _ _ _;refine zZ ?_;unfold Builtin.SmallTypes.ownedTupleHandOut
 have y6:IsZip (g5.push { cls:=.type "tuple", data:=.seq #[x,y] }) z TI TO .ellipsis:=zW _ y5
 refine zZ (wpAny_setField_rec y6 (by simp) fun g7 y7 q7=>?_)
 replace y7:IsZip g7 z TI TO (rawInt g5.objs.size):=y7
 refine wpAny_setField_rec y7 (by simp) fun g8 y8 q8=>?_
 replace y8:IsZip g8 z TI TO (rawInt g5.objs.size):=y8
 have up:∀c o,c≠z→g5.get? c=some o→g8.get? c=some o:=fun c o c1 e=>q8.extBut _ _ c1 (q7.extBut _ _ c1 (zW _ e))
 have p8:IsPair g8 g5.objs.size x y:=q8.extBut _ _ (Nat.ne_of_gt ltz) (q7.extBut _ _ (Nat.ne_of_gt ltz) (yZ _ rfl))
 have s8:g8.objs.size=g5.objs.size+1:=by rw[q8.1,q7.1,Heap.size_push]
 rw[hsz] at y8 p8 s8
 refine zY ⟨_,rfl,?_⟩;show Q (.ref g5.objs.size) _;rw[hsz]
 exact hQ g8 _ x y rx ry y8 (up _ _ D.tz p5) (t1' _ _ x25 fun c hc o e=>up c o (D.f1 c hc).1 e) (t2' _ _ x45 fun c hc o e=>up c o (D.f2 c hc).1 e) p8 s8 fun c o c1 c2 c3 c4 e=>up c o c1 (k5 c o c1 c2 c3 c4 e)
theorem QR {Q:Fin→Shared→Prop}(D:ZAp z TI TO i1 i2 F1 F2) (t1:ET F1 S1) (n1:NxE prog w A i1 S1)
   (hz:IsZip s.heap z TI TO .none) (hTI:IsPair s.heap TI (.ref i1) (.ref i2)) (hTO:IsPair s.heap TO a b) (h1:S1 s.heap)
   (hE:∀h' e tk,(∀c o,c≠z→c≠TO→c≠i1→c≠i2→s.heap.get? c=some o→h'.get? c=some o)→(∃o,h'.get? e=some o∧o.cls = .type "StopIteration")→E (.ref e) { s with heap:=h',toks:=tk }) :
   wpAny (model prog w) A (Builtin.«zip.__next__» ⟨[.ref z],[]⟩) Q E s:=by
 show wpAny _ _ (field (.ref z) 2 >>= _) _ _ _
 refine zZ (wpAny_field hz rfl (x:=.bool false) rfl ?_);show wpAny _ _ (field (.ref z) 3 >>= _) _ _ _
 refine zZ (wpAny_field hz rfl (x:=.ref TI) rfl ?_);refine zZ (wpAny_seqItems hTI rfl ?_)
 show wpAny _ _ (Builtin.SmallTypes.ownedTupleIsFree (.ref z) >>= _) _ _ _;refine zZ ?_;unfold Builtin.SmallTypes.ownedTupleIsFree
 refine zZ (wpAny_field hz rfl (x:=.none) rfl (zY ?_));simp only[if_true];refine zZ (wpAny_rule ?_)
 refine zZ (wpAny_field hz rfl (x:=.ref TO) rfl ?_);refine zZ (wpAny_setField_rec hz (by simp) fun g1 y1 q1=>?_)
 replace y1:IsZip g1 z TI TO .ellipsis:=y1
 refine zZ ?_;simp only[List.forIn_cons,List.forIn_nil,List.zipIdx_cons,List.zipIdx_nil]
 refine zZ (zZ (wpAny_onRaise ?_));show wpAny _ _ (Builtin.SmallTypes.nextOf (.ref i1) >>= _) _ _ _
 refine zZ (n1 _ _ _ (t1 _ _ h1 fun c hc o e=>q1.extBut _ _ (D.f1 c hc).1 e) fun g2 e q2 he=>?_)
 obtain⟨oe,hoe,hce⟩:=he
 have y2:IsZip g2 z TI TO .ellipsis:=q2 _ _ D.az.symm y1
 have ez:e≠z:=fun x=>by subst x;rw[y2] at hoe;cases hoe;simp at hce
 exact wpAny_setField_rec y2 (by simp) fun g3 _ q3=>hE g3 e _ (fun c o c1 _ c3 _ x=>q3.extBut _ _ c1 (q2 _ _ c3 (q1.extBut _ _ c1 x))) ⟨oe,q3.extBut _ _ ez hoe,hce⟩
theorem QS {Q:Option Value→Shared→Prop}(D:ZAp z TI TO i1 i2 F1 F2) (t1:ET F1 S1) (t1':ET F1 S1') (t2:ET F2 S2) (t2':ET F2 S2') (n1:∀A:Around,NxI prog w A i1 S1 S1' R1) (n2:∀A:Around,NxI prog w A i2 S2 S2' R2)
   (hz:IsZip s.heap z TI TO .none) (hTI:IsPair s.heap TI (.ref i1) (.ref i2)) (hTO:IsPair s.heap TO a b) (h1:S1 s.heap) (h2:S2 s.heap)
   (l1:∀h,S1' h→i1 < h.objs.size) (l2:∀h,S2' h→i2 < h.objs.size)
   (hQ:∀h' tk x y,R1 x→R2 y→IsZip h' z TI TO (rawInt s.heap.objs.size)→IsPair h' TO x y→S1' h'→S2' h'→IsPair h' s.heap.objs.size x y→h'.objs.size=s.heap.objs.size+1 →
     (∀c o,c≠z→c≠TO→c≠i1→c≠i2→s.heap.get? c=some o→h'.get? c=some o)→Q (some (.ref s.heap.objs.size)) { s with heap:=h',toks:=tk }) :
   wpAny (model prog w) A (pyNext (.ref z)) Q E s:=by
 have hT:s.TypeIs (.ref z) "zip" := ⟨_,hz,rfl⟩
 unfold pyNext
 exact zZ (wpAny_attempt (wpAny_callSpecial?_slot (name:=Str.ofString "__next__") hT F.slot_zip_next (wpAny_call_entry F.slot_zip_next hT F.entry_zip_next
   (aM D t1 t1' t2 t2' (n1 _) (n2 _) hz hTI hTO h1 h2 l1 l2 fun h' tk x y b1 b2 b3 b4 b5 b6 b7 b8 b9=>zY (hQ h' tk x y b1 b2 b3 b4 b5 b6 b7 b8 b9)) (F.args_zip_next_1 _))))
theorem QT {Q:Option Value→Shared→Prop}(hh:A.handled=none) (hz:IsZip s.heap z TI TO .none)
   (h:∀(Q':Fin→Shared→Prop) (E':Value→Shared→Prop),(∀h' e tk,(∀c o,c≠z→c≠TO→c≠i1→c≠i2→s.heap.get? c=some o→h'.get? c=some o)→(∃o,h'.get? e=some o∧o.cls = .type "StopIteration")→E' (.ref e) { s with heap:=h',toks:=tk }) →
     ∀A':Around,A'.handled=none→wpAny (model prog w) A' (Builtin.«zip.__next__» ⟨[.ref z],[]⟩) Q' E' s)
   (hQ:∀h' tk,(∀c o,c≠z→c≠TO→c≠i1→c≠i2→s.heap.get? c=some o→h'.get? c=some o)→Q none { s with heap:=h',toks:=tk }):wpAny (model prog w) A (pyNext (.ref z)) Q E s:=by
 have hT:s.TypeIs (.ref z) "zip" := ⟨_,hz,rfl⟩
 unfold pyNext
 refine zZ (wpAny_attempt (wpAny_callSpecial?_slot (name:=Str.ofString "__next__") hT F.slot_zip_next (wpAny_call_entry F.slot_zip_next hT F.entry_zip_next (h _ _ (fun h' e tk hk he=>?_) _ ?_) (F.args_zip_next_1 _))))
 · obtain⟨o,ho,hc⟩:=he
   refine zZ (wpAny_isInstance (T:= "StopIteration") (b:=true) ⟨o,ho,hc⟩ isSubtype_stop ?_)
   exact zY (hQ _ _ hk)
 · exact hh
end
end L2
namespace L2
open PySem PySem.Spec PyProof.Rows
section
variable {prog:Program}{w:World}{A:Around}{E:Value→Shared→Prop}{s:Shared}
theorem U6 {i:Addr}{x:Str}{t:Tok}{k c:Nat}(hx:x.cps[k]?=some c):NxI prog w A i (fun h=>h.IsStrIter i "str_ascii_iterator" x t k) (fun h=>h.IsStrIter i "str_ascii_iterator" x t (k+1)) (fun v=>RelV (.str ⟨#[c]⟩) v):=
 fun s Q E hit hQ=>wpAny_nextOf_ascii_item hit hx fun h' a b=>hQ h' _ _ ⟨_,rfl⟩ a b
theorem QU {i:Addr}{x:Str}{t:Tok}{k:Nat}(hh:A.handled=none) (hx:x.cps[k]?=none):NxE prog w A i (fun h=>h.IsStrIter i "str_ascii_iterator" x t k):=
 fun s Q E hit hE=>wpAny_nextOf_ascii_end hh hit hx hE
theorem rH {i t:Addr}{k:Nat}{items:Array Value}{y:Value}(hne:t≠i) (hx:items[k]?=some y):NxI prog w A i (fun h=>h.IsTupleIter i t k∧h.IsTuple t items) (fun h=>h.IsTupleIter i t (k+1)∧h.IsTuple t items) (fun v=>v=y):=fun s Q E hS hQ=>by
 obtain⟨hit,ht⟩:=hS
 obtain⟨o,ho,hc,hd⟩:=id hit
 obtain⟨ol,hol,hcl,nl,hdl⟩:=id ht
 unfold Builtin.SmallTypes.nextOf;refine zZ (wpAny_callSpecial?_slot (name:=Str.ofString "__next__") hit.typeIs F.slot_tuple_iterator_next (wpAny_call_entry F.slot_tuple_iterator_next hit.typeIs F.entry_tuple_iterator_next ?_ (F.args_tuple_iterator_next_1 _)))
 show wpAny _ _ (field (.ref i) 0 >>= _) _ _ s
 refine zZ (wpAny_field ho hd (x:=.ref t) rfl ?_);show wpAny _ _ (if (Value.ref t==Value.none)=true then _ else _) _ _ s
 rw[if_neg (show ¬((Value.ref t==Value.none)=true) from nft)];show wpAny _ _ (field (.ref i) 1 >>= _) _ _ s
 refine zZ (wpAny_field ho hd (x:=.int k 0) rfl ?_);show wpAny _ _ (seqItems? (.ref t) >>= _) _ _ s
 refine zZ (wpAny_seqItems hol hdl ?_);simp only[Int.toNat_natCast,hx]
 refine zZ (wpAny_setField ho hd (by simp) (zY ⟨y,rfl,zY (hQ _ s.toks y rfl ⟨?_,ht.extBut (Heap.SameBut.update ..).extBut hne⟩ (Heap.SameBut.update ..))⟩))
 exact⟨_,Heap.get?_update_self _ ho (Obj.isFreed_of_fields (Obj.data_mapFields hd _)),(Obj.cls_mapFields ..).trans hc,by rw[Obj.data_mapFields hd];simp[rawInt]⟩
abbrev NX (v:Value) (o:Obj) (Pre:Heap→Prop):Prop:=∀(prog:Program) (w:World) (A:Around) (E:Value→Shared→Prop) (s:Shared) (Q:Value→Shared→Prop),Pre s.heap→Q (.ref s.heap.objs.size) { s with heap:=s.heap.push o }→wpAny (model prog w) A (pyIter v) Q E s
theorem QV {x:Str}{t:Tok}(ha:x.cps.all (· < 128)=true):NX (.str x t) { cls:=.type "str_ascii_iterator", data:=.fields #[.str x t,.int 0 0] } (fun _=>True):=fun prog w A E s Q _ hQ=>wpAny_pyIter_ascii ha hQ
theorem l6 {t:Addr}{items:Array Value}:NX (.ref t) { cls:=.type "tuple_iterator", data:=.fields #[.ref t,.int 0 0] } (fun h=>h.IsTuple t items):=fun prog w A E s Q ht hQ=>wpAny_pyIter_tuple ht hQ
abbrev zH1 (h:Heap) (o1:Obj):Heap:=h.push o1
abbrev zH2 (h:Heap) (o1 o2:Obj):Heap:=(zH1 h o1).push o2
abbrev zH3 (h:Heap) (o1 o2:Obj):Heap:=(zH2 h o1 o2).push { cls:=.type "tuple", data:=.seq #[.ref h.objs.size,.ref (zH1 h o1).objs.size] }
abbrev zH4 (h:Heap) (o1 o2:Obj):Heap:=(zH3 h o1 o2).push { cls:=.type "tuple", data:=.seq #[.none,.none] }
abbrev zH5 (h:Heap) (o1 o2:Obj):Heap:=(zH4 h o1 o2).push { cls:=.type "zip", data:=.fields #[.none,.bool false,.bool false,.ref (zH2 h o1 o2).objs.size,.ref (zH3 h o1 o2).objs.size] }
theorem WQ {v1 v2:Value}{o1 o2:Obj}{Pre1 Pre2:Heap→Prop}(n1:NX v1 o1 Pre1) (n2:NX v2 o2 Pre2) (st2:∀h o,Pre2 h→Pre2 (h.push o)) :
   Meets (Builtin.«zip.__new__» ⟨[.type "zip", v1,v2],[]⟩) (fun _ R s=>Pre1 s.heap∧Pre2 s.heap∧R (.ok (.ret (.ref (zH4 s.heap o1 o2).objs.size))) { s with heap:=zH5 s.heap o1 o2 }):=
 .of_wp fun prog w A R s h=>by
   obtain⟨hp,g,d,tk,os⟩:=s
   obtain⟨p1,p2,h⟩:=h
   have hsub:=sub_zip
   have p2':Pre2 (hp.push o1):=st2 _ _ p2
   wp_walk using n1 _ _ _ _ _ _ p1,n2 _ _ _ _ _ _ p2'
   exact⟨_,rfl,h⟩
end
end L2
namespace L2
open PySem PySem.Spec PyProof.Rows
section
variable {prog:Program}{w:World}{A:Around}{E:Value→Shared→Prop}{s:Shared}
theorem QW {v1 v2:Value}{o1 o2:Obj}{Pre1 Pre2:Heap→Prop}{Q:Value→Shared→Prop}(n1:NX v1 o1 Pre1) (n2:NX v2 o2 Pre2) (st2:∀h o,Pre2 h→Pre2 (h.push o)) (f1:o1.isFreed=false) (f2:o2.isFreed=false) (h1:Pre1 s.heap) (h2:Pre2 s.heap)
   (h:∀h',IsZip h' (s.heap.objs.size+4) (s.heap.objs.size+2) (s.heap.objs.size+3) .none→IsPair h' (s.heap.objs.size+2) (.ref s.heap.objs.size) (.ref (s.heap.objs.size+1)) →
     IsPair h' (s.heap.objs.size+3) .none .none→h'.get? s.heap.objs.size=some o1→h'.get? (s.heap.objs.size+1)=some o2→(∀c o,s.heap.get? c=some o→h'.get? c=some o)→Q (.ref (s.heap.objs.size+4)) { s with heap:=h' }) :
   wpAny (model prog w) A (call (.type "zip") [v1,v2]) Q E s:=by
 refine callType_new F.called_zip (by decide) (F.typeCall_zip_2 _ _) (F.newCall_zip_2 _ _) (fun obj=>F.args_object_init_3 obj _ _) F.entry_zip_new (WQ n1 n2 st2) ⟨h1,h2,?_⟩
 have z1:(zH1 s.heap o1).objs.size=s.heap.objs.size+1:=Heap.size_push ..
 have z2:(zH2 s.heap o1 o2).objs.size=s.heap.objs.size+2:=by rw[Heap.size_push,z1]
 have z3:(zH3 s.heap o1 o2).objs.size=s.heap.objs.size+3:=by rw[Heap.size_push,z2]
 have z4:(zH4 s.heap o1 o2).objs.size=s.heap.objs.size+4:=by rw[Heap.size_push,z3]
 have e5:(zH5 s.heap o1 o2).get? (zH4 s.heap o1 o2).objs.size=some _:=yZ _ rfl
 have e4:(zH5 s.heap o1 o2).get? (zH3 s.heap o1 o2).objs.size=some _:=zW _ (yZ _ rfl)
 have e3:(zH5 s.heap o1 o2).get? (zH2 s.heap o1 o2).objs.size=some _:=zW _ (zW _ (yZ _ rfl))
 have e2:(zH5 s.heap o1 o2).get? (zH1 s.heap o1).objs.size=some o2:=zW _ (zW _ (zW _ (yZ _ f2)))
 have e1:(zH5 s.heap o1 o2).get? s.heap.objs.size=some o1:=zW _ (zW _ (zW _ (zW _ (yZ _ f1))))
 show _∧_
 rw[z2,z3,z4] at e5
 rw[z1,z2] at e3
 rw[z3] at e4
 rw[z1] at e2
 rw[z4]
 exact⟨⟨_,e5,rfl⟩,h _ e5 e3 e4 e1 e2 fun c o x=>zW _ (zW _ (zW _ (zW _ (zW _ x))))⟩
end
section
variable {X:Cx}{pins:List (Addr×Obj)}{σ:St}{H:Hp}{s:Shared}
theorem rJ {a z:Addr}{xs:List V}(I:Inv X pins σ H s) (hf:IX X pins H z) (h:SqT X.K H a xs):a≠z:=by
 rintro rfl
 rcases h with h | ⟨o,its,n,hk,_⟩
 · rcases h with h | ⟨o',h⟩ <;> rw[hf.1] at h <;> cases h
 · have e:=I.ok.mod.kin a o hk
   rcases hf.2.2.2.1 with z | z
   · exact I.ok.noex a o e z
   · exact absurd (zP (zM e) (zN I.ok.bsz z)) (yF _)
end
def uF (K:Frg) (x:Str) (l2:Addr):It:=
 ⟨fun i H=>∃ys,SqT K H l2 ys∧i < x.cps.size∧i < ys.length,
  fun i H v H'=>∃p c b,H p=none∧v = .ref p∧H'=upd H p (.tup [.str ⟨#[c]⟩,b])∧x.cps[i]?=some c∧∀ys,SqT K H l2 ys→ys[i]?=some b,
  fun i H=>x.cps.size≤i⟩
theorem WR {P:Program}{w:World}{K:Frg}{elts:List Expr}{kk:Nat}{tpos:Pos}(z TI TO i1 i2:Addr) (x:Str) (t:Tok) (l2:Addr) (d1:TI≠z) (d2:TO≠z) (d3:i1≠z) (d4:i2≠z) (d5:TI≠TO) (d6:TI≠i1) (d7:TI≠i2) (d8:TO≠i1) (d9:TO≠i2) (d10:i1≠i2) :
   Turn P w K (.Tuple elts kk tpos) (uF K x l2) [z,TI,TO,i1,i2] z (fun i h=>IsZip h z TI TO .none∧IsPair h TI (.ref i1) (.ref i2)∧(∃a b,IsPair h TO a b)∧h.IsStrIter i1 "str_ascii_iterator" x t i∧h.IsTupleIter i2 l2 i) where
 mem:=by simp
 obj:=fun i h ⟨a1,a2,⟨x,y,a3⟩,a4,a5⟩ b hb=>by
   simp only[yX,xX,or_false] at hb
   rcases hb with rfl | rfl | rfl | rfl | rfl
   · exact⟨_,a1,fun v q=>by cases q⟩
   · exact⟨_,a2,fun v q=>by cases q⟩
   · exact⟨_,a3,fun v q=>by cases q⟩
   · obtain⟨o,e,c,d⟩:=a4;exact⟨o,e,fun v q=>by rw[d] at q;cases q⟩
   · obtain⟨o,e,c,d⟩:=a5;exact⟨o,e,fun v q=>by rw[d] at q;cases q⟩
 keep:=fun i h h' ⟨a1,a2,⟨x,y,a3⟩,⟨o4,e4,r4⟩,a5⟩ k=>⟨k z (by simp) _ a1,k TI (by simp) _ a2,⟨x,y,k TO (by simp) _ a3⟩,⟨o4,k i1 (by simp) o4 e4,r4⟩,a5.at fun o e=>k i2 (by simp) o e⟩
 item:=by
   intro X hP hw hK hc i pins s σ H E I hf ⟨a1,a2,⟨x0,y0,a3⟩,a4,a5⟩ hg
   subst hP hw hK
   obtain⟨ys,hy,lx,ly⟩:=hg
   obtain⟨its2,ry,py,_⟩:=I.tuple hy
   obtain⟨v,hv,rv⟩:=ry.get (zV ly)
   have hx:x.cps[i]?=some x.cps[i]:=Array.getElem?_eq_getElem lx
   have py':s.heap.IsTuple l2 its2.toArray:=py
   have ne2:∀c∈[z,TI,TO,i1,i2],l2≠c:=fun c hc=>rJ I (hf c hc) hy
   have D:ZAp z TI TO i1 i2 [i1] [i2,l2]:=⟨d2,d3,d4,d8,d9,d10,fun c hc=>by
       have:c=i1:=by simpa using hc
       subst this;exact⟨d3,d8.symm,d10⟩,fun c hc=>by
       rcases yX.mp hc with rfl | hc
       · exact⟨d4,d9.symm,d10.symm⟩
       · have:c=l2:=by simpa using hc
         subst this;exact⟨ne2 z (by simp),ne2 TO (by simp),ne2 i1 (by simp)⟩⟩
   have t1:∀k,ET [i1] (fun h=>h.IsStrIter i1 "str_ascii_iterator" x t k):=fun k h h' ⟨o,e,r⟩ q=>⟨o,q i1 (by simp) o e,r⟩
   have t2:∀k,ET [i2,l2] (fun h=>h.IsTupleIter i2 l2 k∧h.IsTuple l2 its2.toArray):=fun k h h' ⟨⟨o,e,r⟩,⟨o',e',r'⟩⟩ q=>⟨⟨o,q i2 (by simp) o e,r⟩,⟨o',q l2 (by simp) o' e',r'⟩⟩
   refine QS (R1:=fun u=>RelV (.str ⟨#[x.cps[i]]⟩) u) (R2:=fun u=>u=v) D (t1 i) (t1 (i+1)) (t2 i) (t2 (i+1)) (fun A=>U6 hx) (fun A=>rH (ne2 i2 (by simp)) (by simpa using hv)) a1 a2 a3 a4 ⟨a5,py'⟩
     (fun h ⟨o,e,_⟩=>zM e) (fun h ⟨⟨o,e,_⟩,_⟩=>zM e) fun h' tk u u2 ru eu2 b1 b2 b3 b4 b5 b6 hk=>?_
   subst eu2
   refine⟨_,rfl,wpAny_letOwnedTupleGo_zip (s:={ s with heap:=h',toks:=tk }) b1 fun h2 c1 sb=>?_⟩
   have lt:∀{c o},s.heap.get? c=some o→s.heap.objs.size≠c:=fun e=>Nat.ne_of_gt (zM e)
   have keep:∀b o,b∉[z,TO,i1,i2]→s.heap.get? b=some o→h2.get? b=some o:=fun b o hb e=>by
     simp only[yX,xX,or_false,not_or] at hb
     exact sb.extBut b o hb.1 (hk b o hb.1 hb.2.1 hb.2.2.1 hb.2.2.2 e)
   have sub:∀b∈[z,TO,i1,i2],b∈[z,TI,TO,i1,i2]:=fun b hb=>by
     simp only[yX,xX,or_false] at hb ⊢
     rcases hb with h | h | h | h <;> simp[h]
   have hTz:s.heap.objs.size≠z:=lt a1
   have I1:Inv X pins σ (upd H s.heap.objs.size (.tup [.str ⟨#[x.cps[i]]⟩,ys[i]])) { s with heap:=h2,toks:=tk }:=I.turnedT (t':=tk) (ch:=[z,TO,i1,i2]) keep (fun b hb=>(hf b (sub b hb)).1)
     (fun b hb=>let q:=hf b (sub b hb);⟨q.2.2.2.1,q.2.1,q.2.2.2.2.1,q.2.2.2.2.2⟩) (zR _)
     ⟨by show 2≤sizeLine;decide,[u,u2],.cons ru (.cons rv .nil),⟨_,sb.extBut _ _ hTz b5,rfl,_,rfl⟩⟩
   refine⟨.ref s.heap.objs.size,_,I1,rfl,⟨s.heap.objs.size,x.cps[i],ys[i],I.hok.fresh (zR _),rfl,rfl,hx,fun ys' hy'=>?_⟩,
     ⟨c1,keep _ _ ?_ a2,⟨_,_,sb.extBut _ _ d2 b2⟩,b3.extBut sb.extBut d3,b4.1.extBut sb.extBut d4⟩,fun b hb=>?_⟩
   · rw[I.tuple_inj hy' hy]
     exact zV ly
   · simp[d1,d5,d6,d7]
   · have hlt:s.heap.objs.size≠b:=by
       simp only[yX,xX,or_false] at hb
       rcases hb with rfl | rfl | rfl | rfl | rfl
       · exact lt a1
       · exact lt a2
       · exact lt a3
       · obtain⟨o,e,_⟩:=a4;exact lt e
       · obtain⟨o,e,_⟩:=a5;exact lt e
     rw[AH (Ne.symm hlt)]
     exact(hf b hb).1
 done:=by
   intro X hP hw hK hc i pins s σ H E I hf ⟨a1,a2,⟨x0,y0,a3⟩,a4,a5⟩ hg
   subst hP hw hK
   have hx:x.cps[i]?=none:=Array.getElem?_eq_none hg
   have D:ZAp z TI TO i1 i2 [i1] []:=⟨d2,d3,d4,d8,d9,d10,fun c hc=>by
       have:c=i1:=by simpa using hc
       subst this;exact⟨d3,d8.symm,d10⟩,fun c hc=>nomatch hc⟩
   have t1:ET [i1] (fun h=>h.IsStrIter i1 "str_ascii_iterator" x t i):=fun h h' ⟨o,e,r⟩ q=>⟨o,q i1 (by simp) o e,r⟩
   have sub:∀b∈[z,TO,i1,i2],b∈[z,TI,TO,i1,i2]:=fun b hb=>by
     simp only[yX,xX,or_false] at hb ⊢
     rcases hb with h | h | h | h <;> simp[h]
   refine QT (I.ok.hd hc) a1 (fun Q' E' hE' A' hA'=>QR D t1 (QU hA' hx) a1 a2 a3 a4 hE') fun h' tk hk=>⟨rfl,I.turnedL (t':=tk) (ch:=[z,TO,i1,i2]) (fun b o hb e=>?_) (fun b hb=>(hf b (sub b hb)).1) fun b hb=>let q:=hf b (sub b hb);⟨q.2.2.2.1,q.2.1,q.2.2.2.2.1,q.2.2.2.2.2⟩⟩
   simp only[yX,xX,or_false,not_or] at hb
   exact hk b o hb.1 hb.2.1 hb.2.2.1 hb.2.2.2 e
 self:=fun _ _ _ _ _ st h=>wpAny_pyIter_zip st.1 h
section
variable {X:Cx}{K:Frg}
def fK (K:Frg) (ta:TA):TI:=fun σ H R=>ta σ H fun vs H1=>False∨∃x b,vs=[.str x,.ref b]∧x.cps.all (· < 128)=true∧(∃ys,SqT K H1 b ys)∧R (uF K x b) H1
theorem l7 {a b:Expr}{ta:TA}{p pos:Pos}{elts:List Expr}{kk:Nat}{tpos:Pos}(hg:Gl X "zip") (hm:X.mg "zip"=none) (ha:PA X [a,b] ta) (hs:starEach [a,b] X.env=[(false,eval a X.env),(false,eval b X.env)]:=by rfl) (hs2:starEach [b] X.env=[(false,eval b X.env)]:=by rfl) :
   PI X (.Tuple elts kk tpos) (.Call (.Name "zip" p) [a,b] [] pos) (fK X.K ta):=by
 intro pins s σ H R I h
 refine Call_ (JI I hg hm boot_zip (xI (thn (ha pos pins s σ H _ I h) fun us s1 ⟨vs,H1,I1,r1,q1⟩=>?_) (by rw[hs,hs2]) (by rw[hs2];rfl)))
 have ne:∀(m n:Nat),m≠n→s1.heap.objs.size+m≠s1.heap.objs.size+n:=fun m n h e=>h (Nat.add_left_cancel e)
 have fp:∀b∈[s1.heap.objs.size+4,s1.heap.objs.size+2,s1.heap.objs.size+3,s1.heap.objs.size,s1.heap.objs.size+1],IX X pins H1 b:=fun b hb=>by
   have hle:s1.heap.objs.size≤b:=by
     simp only[yX,xX,or_false] at hb
     rcases hb with rfl | rfl | rfl | rfl | rfl
     · exact Nat.le_add_right _ _
     · exact Nat.le_add_right _ _
     · exact Nat.le_add_right _ _
     · exact zR _
     · exact Nat.le_add_right _ _
   exact I1.fpOk hle (I1.hok.fresh hle)
 rcases q1 with q1 | ⟨x,l2,e,hx,⟨ys,hy⟩,q⟩
 · exact q1.elim
 · subst e
   cases r1 with
   | cons r rr=>
     cases rr with
     | cons r' rr=>
       cases rr;cases r'
       obtain⟨t,rfl⟩:=r
       obtain⟨its2,ry,py,_⟩:=I1.tuple hy
       refine QW (QV (t:=t) hx) (l6 (t:=l2) (items:=its2.toArray)) (fun h o q=>q.push o) rfl rfl trivial (show s1.heap.IsTuple l2 its2.toArray from py) fun h' b1 b2 b3 b4 b5 hk=>?_
       refine wpAny_pyIter_zip (s:={ s1 with heap:=h' }) b1 ?_
       exact⟨s1.heap.objs.size+4,[s1.heap.objs.size+4,s1.heap.objs.size+2,s1.heap.objs.size+3,s1.heap.objs.size,s1.heap.objs.size+1],_,_,H1,rfl,I1.kept (t':=s1.toks) hk,
         WR (s1.heap.objs.size+4) (s1.heap.objs.size+2) (s1.heap.objs.size+3) s1.heap.objs.size (s1.heap.objs.size+1) x t l2 (ne 2 4 (by decide)) (ne 3 4 (by decide)) (ne 0 4 (by decide)) (ne 1 4 (by decide)) (ne 2 3 (by decide)) (ne 2 0 (by decide)) (ne 2 1 (by decide)) (ne 3 0 (by decide)) (ne 3 1 (by decide)) (ne 0 1 (by decide)),
         ⟨b1,b2,⟨_,_,b3⟩,⟨_,b4,rfl,rfl⟩,⟨_,b5,rfl,rfl⟩⟩,fp,q⟩
theorem uG {a b:Expr}{ta:TA}{p pos:Pos}{elts:List Expr}{kk:Nat}{tpos:Pos}(h:X.K=K) (hg:Gl X "zip") (hm:X.mg "zip"=none) (ha:PA X [a,b] ta) (hs:starEach [a,b] X.env=[(false,eval a X.env),(false,eval b X.env)]:=by rfl) (hs2:starEach [b] X.env=[(false,eval b X.env)]:=by rfl) :
   PI X (.Tuple elts kk tpos) (.Call (.Name "zip" p) [a,b] [] pos) (fK K ta):=h▸l7 hg hm ha hs hs2
end
end L2
namespace L2
open PySem PySem.Spec PyProof.Rows
section
variable {X:Cx}
def uH:R2:=fun x y H Q=>(y = .non∧Q (.bl (decide (x = .non))) H)∨∃a b:Bool,x = .bl a∧y = .bl b∧Q (.bl (a==b)) H
theorem fL:OpR X (compareOp .Is) uH:=by
 intro pins s σ H x y v u Q I rx ry h
 rcases h with h | ⟨a,b,rfl,rfl,q⟩
 · exact pF pins s σ H x y v u Q I rx ry h
 · cases rx;cases ry
   refine wpAny_is_plain rfl ⟨.bl (a==b),H,I,?_,q⟩
   cases a <;> cases b <;> rfl
def nW:R2:=fun x y H Q=>(y = .non∧Q (.bl (!decide (x = .non))) H)∨∃a b:Bool,x = .bl a∧y = .bl b∧Q (.bl (!(a==b))) H
theorem YY:OpR X (compareOp .IsNot) nW:=by
 intro pins s σ H x y v u Q I rx ry h
 rcases h with h | ⟨a,b,rfl,rfl,q⟩
 · exact jG pins s σ H x y v u Q I rx ry h
 · cases rx;cases ry
   refine wpAny_isNot_plain rfl ⟨.bl (!(a==b)),H,I,?_,q⟩
   cases a <;> cases b <;> rfl
end
end L2
namespace DL
open PySem PySem.Spec L2
section
variable {K:Frg}{ρ:List (Option DS)}{M:Own}{Q:DS→Own→Prop}{QI:List PyData→Own→Prop}
theorem N2 {d:PyData}(q:Q (.d (.bool (DF d))) M):D2 K uH (.d d) (.d .none) M Q:=EA (r9 q)
theorem U7 {d:PyData}(q:Q (.d (.bool (!DF d))) M):D2 K nW (.d d) (.d .none) M Q:=EA (kQ q)
theorem l8 {ta:TA}(h:DA K ta ρ M fun xs M1=>∃z bs,xs=[.d (.str z),.d (.tuple bs)]∧z.cps.all (· < 128)=true∧z.cps.size≤bs.length∧QI (IZ (AI z) bs) M1):DI K (fK K ta) ρ M QI:=fun σ H R Rl k=>
 h σ H _ Rl fun vs H1 xs M1 o1 s1 t1 ⟨z,bs,e,hz,hl0,q⟩=>by
   subst e
   obtain⟨v,r,rfl,h1,v2,r2,rfl,h2,h3⟩:=s1
   cases h3
   rw[AT h1]
   unfold SI DV at h2
   obtain⟨b,vb,rfl,hl2,hd2⟩:=h2
   have hlen:(IZ (AI z) bs).length=z.cps.size:=by unfold IZ;rw[zX,List.length_zip,LC];omega
   refine .inr ⟨z,b,rfl,hz,⟨vb,hl2.sq⟩,k _ (IZ (AI z) bs) H1 M1 o1 t1 ⟨fun i H' M' hi oa st=>?_,fun H' M' oa st=>?_,fun i H' M' x H2 oa st hi y=>?_⟩ q⟩
   · rw[hlen] at hi
     exact⟨vb,(hl2.grow st.grow).sq,hi,by rw[hd2.length];omega⟩
   · show z.cps.size≤_
     rw[hlen];exact zR _
   · obtain⟨p,c,xb,hp,rfl,rfl,hc,hy⟩:=y
     have e2:=hy vb (hl2.grow st.grow).sq
     obtain⟨db,g1,g2⟩:=hd2.get e2
     have gg:Grow K M'.W M'.W H' (upd H' p (.tup [.str ⟨#[c]⟩,xb])):=AW _ hp
     refine⟨oa.new hp,⟨gg⟩,.tuple [.str ⟨#[c]⟩,db],?_,?_⟩
     · unfold IZ
       rw[zF]
       have hs:(AI z)[i]?=some (.str ⟨#[c]⟩):=by unfold AI;rw[zF];simp[hc]
       have:((AI z).zip bs)[i]?=some (.str ⟨#[c]⟩,db):=by rw[List.getElem?_zip_eq_some];exact⟨hs,g1⟩
       rw[this];rfl
     · unfold DV
       exact⟨p,_,rfl,.inl ⟨fun w=>w (oa.none hp),.inl AG⟩,DVs.cons (by unfold DV;rfl) (DVs.cons ((g2.grow st.grow).grow gg) DVs.nil)⟩
theorem MB:∀(kvs acc:List (Key×V)),((acc++kvs).map (·.1)).Nodup→G6 acc kvs=acc++kvs
 | [],acc,_=>by simp[G6]
 | kv::r,acc,h=>by
   have h1:(acc.any fun x=>decide (x.1=kv.1))=false:=by
     rw[List.any_eq_false]
     intro x hx
     rw[xJ,List.nodup_append] at h
     have:=h.2.2 x.1 (zL.mpr ⟨x,hx,rfl⟩) kv.1 (by simp)
     simpa using this
   show G6 (ER acc kv.1 kv.2) r=_
   have e:ER acc kv.1 kv.2=acc++[kv]:=by
     unfold ER
     rw[h1];rfl
   rw[e,MB r (acc++[kv]) (by rw[List.append_assoc];exact h)]
   simp
def FC (k:Str):List (PyData×PyData)→Option PyData
 | (.str a,d)::r=>if a=k then some d else FC k r
 | _::r=>FC k r
 | []=>none
theorem YZ {H:Hp}{W:Addr→Prop}{k:Str}:∀{kvs:List (PyData×PyData)}{ks:List (Key×V)},DKV K H W kvs ks→(∃d v,FC k kvs=some d∧F6 ks (Sum.inr k)=some v∧DV K H W d v)∨(FC k kvs=none∧F6 ks (Sum.inr k)=none)
 | [],ks,h=>by unfold DKV at h;subst h;exact .inr ⟨rfl,rfl⟩
 | (kd,d)::r,ks,h=>by
   unfold DKV at h
   obtain⟨k',v,r',rfl,rfl,h1,h2⟩:=h
   have ih:=YZ (k:=k) h2
   unfold F6 at ih ⊢
   rw[List.find?_cons]
   cases k' with
   | inl i=>
     have e1:decide ((Sum.inl i:Key)=Sum.inr k)=false:=rfl
     rw[e1]
     exact ih
   | inr a=>
     by_cases e:a=k
     · subst e
       left
       exact⟨d,v,by simp[dI,FC],by simp,h1⟩
     · have e1:decide ((Sum.inr a:Key)=Sum.inr k)=false:=decide_eq_false fun q=>e (by injection q)
       rw[e1]
       rcases ih with ⟨d',v',a1,a2,a3⟩ | ⟨a1,a2⟩
       · exact .inl ⟨d',v',by simp only[dI,FC,if_neg e];exact a1,a2,a3⟩
       · exact .inr ⟨by simp only[dI,FC,if_neg e];exact a1,a2⟩
theorem fM {td ty tx:TE}(h:DE K td ρ M fun x M1=>∃kvs,x = .d (.dict kvs)∧DE K ty ρ M1 fun y M2=>∃k,y = .d (.str k)∧DE K tx ρ M2 fun z M3=>∃dz,z = .d dz∧Q (.d ((FC k kvs).getD dz)) M3):DE K (dA td ty tx) ρ M Q:=fun σ H QQ R kk=>
 h σ H _ R fun v H1 x M1 o1 s1 t1 h1=>by
   obtain⟨kvs,rfl,h1⟩:=h1
   have s1':=s1
   unfold SI DV at s1'
   obtain⟨a,ks,rfl,nw,ha,hk⟩:=s1'
   refine⟨a,rfl,.inl ⟨ks,ha⟩,h1 σ H1 _ (R.step o1 t1) fun u H2 y M2 o2 s2 t2 h2=>?_⟩
   obtain⟨k,rfl,h2⟩:=h2
   refine h2 σ H2 _ (R.step o2 (t1.trans t2)) fun z H3 zz M3 o3 s3 t3 h3=>?_
   obtain⟨dz,rfl,q⟩:=h3
   have s1'':=s1.step (t2.trans t3)
   unfold SI DV at s1''
   obtain⟨a',ks',e,nw',ha',hk'⟩:=s1''
   cases e
   rw[AT s2]
   rcases YZ (k:=k) hk' with ⟨d,v,e1,e2,e3⟩ | ⟨e1,e2⟩
   · rw[e1] at q
     exact⟨some v,.inl ⟨ks',Sum.inr k,ha',rfl,e2.symm⟩,kk _ H3 (.d d) M3 o3 e3 ((t1.trans t2).trans t3) q⟩
   · rw[e1] at q
     exact⟨none,.inl ⟨ks',Sum.inr k,ha',rfl,e2.symm⟩,kk _ H3 (.d dz) M3 o3 s3 ((t1.trans t2).trans t3) q⟩
end
end DL
namespace L2
open PySem PySem.Spec PyProof.Rows
section
variable {prog:Program}{w:World}{A:Around}{E:Value→Shared→Prop}{s:Shared}
theorem NY {it l:Addr}{its:Array Value}(hne:l≠it):∀(n i:Nat) (s:Shared) (Q:List Value→Shared→Prop),s.heap.IsListIter it l i→s.heap.IsList l its→i+n≤its.size →
   (∀h',h'.IsListIter it l (i+n)→Heap.SameBut it s.heap h'→Q ((its.toList.drop i).take n) { s with heap:=h' })→wpAny (model prog w) A (draw (.ref it) n) Q E s
 | 0,i,s,Q,hit,_,_,hQ=>by
   show wpAny _ _ (pure []) Q E s;exact zY (by simpa using hQ s.heap hit (Heap.SameBut.refl ..))
 | n+1,i,s,Q,hit,hl,hle,hQ=>by
   have hlt:i < its.size:=by omega
   show wpAny _ _ (pyNext (.ref it) >>= _) Q E s;refine zZ (wpAny_pyNext_list_item hit hl (x:=its[i]) (by simp[hlt]) fun g1 t1 q1=>?_)
   refine zZ (wpAny_holding (NY hne n (i+1) _ _ t1 (hl.extBut q1.extBut hne) (by omega) fun g2 t2 q2=>zY ?_))
   have hd:its.toList.drop i=its[i]::its.toList.drop (i+1):=by simp[List.drop_eq_getElem_cons,hlt]
   have h3:=hQ g2 (by rw[show i+(n+1)=i+1+n by omega];exact t2) (q1.trans q2)
   rw[hd,List.take_succ_cons] at h3
   exact h3
theorem WS {l:Addr}{its:Array Value}{Q:List Value→Shared→Prop}(hh:A.handled=none) (hl:s.heap.IsList l its)
   (hQ:∀h',Heap.ExtBut s.heap.objs.size s.heap h'→Q its.toList { s with heap:=h' }):wpAny (model prog w) A (unpackItems (.ref l) its.size none) Q E s:=by
 have hne:l≠s.heap.objs.size:=by obtain⟨o,ho,_⟩:=hl;exact zC (zM ho)
 unfold unpackItems;refine zZ ?_;unfold notIterableAtAll
 refine zZ (wpAny_specialOf hl.typeIs F.slot_list_iter.lookup ?_);refine zY ?_;simp only[Bool.false_eq_true,if_false]
 refine zZ (wpAny_holding (wpAny_pyIter_list hl ?_))
 refine zZ (wpAny_holding (NY hne its.size 0 _ _ ⟨_,yZ _ rfl,rfl,rfl⟩ (hl.push _) (by omega) fun g1 t1 q1=>?_))
 rw[show List.take its.size (List.drop 0 its.toList)=its.toList by rw[List.drop_zero];exact List.take_of_length_le (by simp),if_neg (by simp)]
 refine zZ (wpAny_holding (wpAny_pyNext_list_end hh t1 ((hl.push _).extBut q1.extBut hne) (by simp) fun g2 e2=>?_));simp only[Option.isSome_none,Bool.false_eq_true,if_false]
 exact zY (hQ g2 fun b o hb e=>e2 b o hb (q1.extBut b o hb (zW _ e)))
end
section
variable {X:Cx}{pos:Pos}
def fN (K:Frg) (n:Nat) (t:TGs):TG:=fun v σ H Q=>∃a xs,v = .ref a∧(SqT K H a xs∨SqL K H a xs)∧xs.length=n∧t xs σ H Q
theorem l9 {es:List Expr}{k:Nat}{t:TGs}{n:Nat}(hc:X.calm=true) (h:PGs X es t)
   (hn:(assignEach es X.env).length=n:=by rfl) (hst:(assignEach es X.env).findIdx? (·.1)=none:=by rfl):PG X (.Tuple es k pos) (fN X.K n t):=by
 intro pins s σ H v u Q I r hw
 obtain⟨a,xs,e1,hq,hl,hw⟩:=hw
 rcases hq with hq | hq
 · exact cF hc h hn hst pins s σ H v u Q I r ⟨a,xs,e1,hq,hl,hw⟩
 · subst e1
   cases r
   obtain⟨its,rv,pl,hz⟩:=I.list hq
   rw[arm_assign_Tuple]
   refine zZ (wpAny_standAt ?_)
   unfold unpack
   rw[show(assignEach es X.env).length=its.toArray.size by simp[hn,← hl,rv.length],hst]
   refine zZ (wpAny_holding (WS (I.ok.hd hc) pl.isList fun h' hx=>?_))
   have I1:Inv X pins σ H { s with heap:=h' }:=I.kept (t':=s.toks) fun b o e=>hx b o (zC (zM e)) e
   exact h pins _ σ H xs _ Q I1 (by simpa using rv) hw
end
end L2
namespace DL
open PySem PySem.Spec L2
theorem nX {X:Cx}{K:Frg}{pos:Pos}{es:List Expr}{k:Nat}{t:TGs}{n:Nat}(hK:X.K=K) (hc:X.calm=true) (h:PGs X es t)
   (hn:(assignEach es X.env).length=n:=by rfl) (hst:(assignEach es X.env).findIdx? (·.1)=none:=by rfl):PG X (.Tuple es k pos) (fN K n t):=hK▸l9 hc h hn hst
section
variable {K:Frg}{M:Own}{ρ:List (Option DS)}{P:List (Option DS)→Own→Prop}
theorem lA {n:Nat}{g:TGs}{ds:List PyData}(hn:ds.length=n) (h:DGs K g ds ρ M P):DG K (fN K n g) (.tuple ds) ρ M P:=fun σ H v QQ R dv k=>by
 unfold DV at dv
 obtain⟨a,vs,rfl,hl,hd⟩:=dv
 exact⟨a,vs,rfl,.inl hl.sq,by rw[hd.length];exact hn,h σ H vs QQ R hd k⟩
end
end DL
namespace L2
open PySem PySem.Spec PyProof.Rows PySem.W
section
variable {n:Nat}{lt:Nat→Nat→Bool}
def Good (n:Nat) (lt:Nat→Nat→Bool) {α:Type}(P:α→Prop):KasT α→Prop
 | .ret a=>P a
 | .ask i j k=>i < n∧j < n∧i≠j∧Good n lt P (k (lt i j))
theorem Good.mono {α:Type}{P Q:α→Prop}(h:∀a,P a→Q a):∀{t:KasT α},Good n lt P t→Good n lt Q t
 | .ret _,g=>h _ g
 | .ask _ _ _,⟨a,b,c,g⟩=>⟨a,b,c,Good.mono h g⟩
theorem Good.bind {α β:Type}{P:β→Prop}{f:α→KasT β}:∀{t:KasT α},Good n lt (fun a=>Good n lt P (f a)) t→Good n lt P (t.bind f)
 | .ret _,g=>g
 | .ask _ _ _,⟨a,b,c,g⟩=>⟨a,b,c,Good.bind g⟩
theorem Good.wp {α:Type}{cmp:Nat→Nat→(Bool→Shared→Prop)→Shared→Prop}{s:Shared}{P:α→Prop}{Q:α→Shared→Prop}
   (hc:∀i j (C:Bool→Shared→Prop),i < n→j < n→i≠j→C (lt i j) s→cmp i j C s) (hq:∀a,P a→Q a s):∀{t:KasT α},Good n lt P t→t.kasWp cmp Q s
 | .ret a,g=>hq a g
 | .ask i j k,⟨a,b,c,g⟩=>hc i j _ a b c (Good.wp hc hq g)
structure Strict (n:Nat) (lt:Nat→Nat→Bool):Prop where
 irr:∀i,lt i i=false
 tr:∀i j k,lt i j=true→lt j k=true→lt i k=true
 tot:∀i j,i < n→j < n→i≠j→lt i j=true∨lt j i=true
def Pm (n:Nat) (p:Array Nat):Prop:=p.toList.Perm (List.range n)
theorem Pm.size {p:Array Nat}(h:Pm n p):p.size=n:=by have:=h.length_eq;simpa using this
theorem Pm.bel {p:Array Nat}(h:Pm n p) {i:Nat}(hi:i < n):p.getD i 0 < n:=by
 have hs:i < p.size:=by rw[h.size];exact hi
 have:p[i]∈List.range n:=h.mem_iff.mp (by simp)
 simp only[Array.getD,hs,dite_true]
 exact List.mem_range.mp this
theorem rK {l:List Nat}(nd:l.Nodup) {i j:Nat}{hi:i < l.length}{hj:j < l.length}(e:l[i]=l[j]):i=j:=by
 rcases Nat.lt_trichotomy i j with h | h | h
 · exact absurd e (List.pairwise_iff_getElem.mp nd i j hi hj h)
 · exact h
 · exact absurd e.symm (List.pairwise_iff_getElem.mp nd j i hj hi h)
theorem Pm.inj {p:Array Nat}(h:Pm n p) {i j:Nat}(hi:i < n) (hj:j < n) (hij:i≠j):p.getD i 0≠p.getD j 0:=by
 have hsi:i < p.size:=by rw[h.size];exact hi
 have hsj:j < p.size:=by rw[h.size];exact hj
 simp only[Array.getD,hsi,hsj,dite_true]
 have nd:p.toList.Nodup:=h.nodup_iff.mpr List.nodup_range
 intro e
 have e':p.toList[i]'(by simpa using hsi)=p.toList[j]'(by simpa using hsj):=by simpa using e
 exact hij (rK nd e')
def Up (lt:Nat→Nat→Bool) (p:Array Nat) (k:Nat):Prop:=∀i j,i < j→j < k→lt (p.getD i 0) (p.getD j 0)=true
def Dn (lt:Nat→Nat→Bool) (p:Array Nat) (k:Nat):Prop:=∀i j,i < j→j < k→lt (p.getD j 0) (p.getD i 0)=true
theorem NZ (S:Strict n lt) {p:Array Nat}(hp:Pm n p):∀(f m:Nat),1≤m→m+f≤n→Up lt p m →
   Good n lt (fun r=>m≤r∧r≤m+f∧Up lt p r∧(r=m+f∨lt (p.getD r 0) (p.getD (r - 1) 0)=true)) (kas_asc p f m)
 | 0,m,h1,h2,h3=>⟨zR _,zR _,h3,.inl rfl⟩
 | f+1,m,h1,h2,h3=>by
   unfold kas_asc
   refine⟨hp.bel (by omega),hp.bel (by omega),hp.inj (by omega) (by omega) (by omega),?_⟩
   cases hc:lt (p.getD m 0) (p.getD (m - 1) 0) with
   | true=>exact⟨zR _,by omega,h3,.inr hc⟩
   | false=>
     have hup:lt (p.getD (m - 1) 0) (p.getD m 0)=true:=(S.tot _ _ (hp.bel (by omega)) (hp.bel (by omega)) (hp.inj (i:=m - 1) (j:=m) (by omega) (by omega) (by omega))).elim id fun z=>by rw[hc] at z;cases z
     dsimp only
     rw[if_neg nft]
     refine(NZ S hp f (m+1) (by omega) (by omega) fun i j hij hj=>?_).mono fun r ⟨a,b,c,d⟩=>⟨by omega,by omega,c,d.elim (fun z=>.inl (by omega)) .inr⟩
     by_cases hjm:j < m
     · exact h3 i j hij hjm
     · have e:j=m:=by omega
       subst e
       by_cases hi:i=j - 1
       · subst hi;exact hup
       · exact S.tr _ _ _ (h3 i (j - 1) (by omega) (by omega)) hup
theorem QX (S:Strict n lt) {p:Array Nat}(hp:Pm n p):∀(f m:Nat),1≤m→m+f≤n→Dn lt p m →
   Good n lt (fun r=>r.1=p∧r.2.2=0∧m≤r.2.1∧r.2.1≤m+f∧Dn lt p r.2.1) (kas_desc f p m 0)
 | 0,m,h1,h2,h3=>⟨rfl,rfl,zR _,zR _,h3⟩
 | f+1,m,h1,h2,h3=>by
   unfold kas_desc
   refine⟨hp.bel (by omega),hp.bel (by omega),hp.inj (by omega) (by omega) (by omega),?_⟩
   cases hc:lt (p.getD m 0) (p.getD (m - 1) 0) with
   | true=>
     dsimp only
     rw[if_pos rfl,if_neg (yF 0)]
     refine(QX S hp f (m+1) (by omega) (by omega) fun i j hij hj=>?_).mono fun r ⟨a,b,c,d,e⟩=>⟨a,b,by omega,by omega,e⟩
     by_cases hjm:j < m
     · exact h3 i j hij hjm
     · have e:j=m:=by omega
       subst e
       by_cases hi:i=j - 1
       · subst hi;exact hc
       · exact S.tr _ _ _ hc (h3 i (j - 1) (by omega) (by omega))
   | false=>
     have hup:lt (p.getD (m - 1) 0) (p.getD m 0)=true:=(S.tot _ _ (hp.bel (by omega)) (hp.bel (by omega)) (hp.inj (i:=m - 1) (j:=m) (by omega) (by omega) (by omega))).elim id fun z=>by rw[hc] at z;cases z
     dsimp only
     rw[if_neg nft]
     refine⟨hp.bel (by omega),hp.bel (by omega),hp.inj (by omega) (by omega) (by omega),?_⟩
     dsimp only
     rw[hup,if_pos rfl]
     exact⟨rfl,rfl,zR _,(show m≤_ by omega),h3⟩
theorem N3 {α:Type}{xs ys:Array α}{i j:Nat}{d:α}(h:xs[i]?=ys[j]?):xs.getD i d=ys.getD j d:=by
 rw[Array.getD_eq_getD_getElem?,Array.getD_eq_getD_getElem?,h]
theorem fP {p:Array Nat}(hp:Pm n p) (i j:Nat):Pm n (kas_rev p i j):=(Array.perm_iff_toList_perm.mp (mirror_perm _ _ _ _)).trans hp
theorem WT (S:Strict n lt) {p:Array Nat}(hp:Pm n p) {m:Nat}(h1:1≤m) (h2:m≤n) (h3:Dn lt p m) :
   Good n lt (fun r=>1≤r.1∧r.1≤n∧Pm n r.2∧Up lt r.2 r.1) (kas_tail3 m n p):=by
 unfold kas_tail3
 refine Good.bind ((NZ S (fP hp 0 m) (n - m) m h1 (by omega) fun i j hij hj=>?_).mono fun r ⟨a,b,c,_⟩=>⟨by omega,by omega,fP hp 0 m,c⟩)
 have hz:m≤p.size:=by rw[hp.size];exact h2
 have e:∀k,k < m→(kas_rev p 0 m).getD k 0=p.getD (m - 1 - k) 0:=fun k hk=>by
   refine N3 ?_
   unfold kas_rev
   rw[getElem?_mirror_all (i:=0) hz k,if_pos ⟨xU _,hk⟩,Nat.zero_add]
 rw[e i (by omega),e j (by omega)]
 exact h3 _ _ (by omega) (by omega)
theorem PF (S:Strict n lt) {p:Array Nat}(hp:Pm n p) {m:Nat}(h2:m+1≤n) (h3:Dn lt p (m+1)) :
   Good n lt (fun r=>1≤r.1∧r.1≤n∧Pm n r.2∧Up lt r.2 r.1) (kas_descPart m n p):=by
 unfold kas_descPart
 refine Good.bind ((QX S hp (n - (m+1)) (m+1) (by omega) (by omega) h3).mono fun r ⟨a,b,c,d,e⟩=>?_)
 rw[b,if_neg (yF 0),a]
 exact WT S hp (by omega) (by omega) e
theorem WU (S:Strict n lt) {p:Array Nat}(hp:Pm n p) (h2:1≤n) :
   Good n lt (fun r=>1≤r.1∧r.1≤n∧Pm n r.2∧Up lt r.2 r.1) (kas_count n p):=by
 unfold kas_count
 refine Good.bind ((NZ S hp (n - 1) 1 (zR _) (by omega) fun i j hij hj=>by omega).mono fun r ⟨a,b,c,d⟩=>?_)
 by_cases hr:r=n
 · subst hr
   rw[if_pos (by simp)]
   exact⟨a,zR _,hp,c⟩
 · rw[if_neg (by simpa using hr)]
   have hlt:lt (p.getD r 0) (p.getD (r - 1) 0)=true:=d.resolve_left (by omega)
   by_cases h1:r > 1
   · rw[if_pos h1]
     refine⟨hp.bel (by omega),hp.bel (by omega),hp.inj (by omega) (by omega) (by omega),?_⟩
     dsimp only
     rw[c 0 (r - 1) (by omega) (by omega),if_pos rfl]
     exact⟨a,by omega,hp,c⟩
   · rw[if_neg h1]
     have e:r=1:=by omega
     subst e
     refine PF S hp (by omega) fun i j hij hj=>?_
     have e1:i=0:=by omega
     have e2:j=1:=by omega
     subst e1 e2
     exact hlt
theorem JQ (S:Strict n lt) {p:Array Nat}(hp:Pm n p) {k:Nat}(hk:k < n) (hu:Up lt p k):∀(f l r:Nat),l≤r→r≤k→r - l≤f →
   (∀i,i < l→lt (p.getD i 0) (p.getD k 0)=true)→(∀i,r≤i→i < k→lt (p.getD k 0) (p.getD i 0)=true) →
   Good n lt (fun x=>x≤k∧(∀i,i < x→lt (p.getD i 0) (p.getD k 0)=true)∧∀i,x≤i→i < k→lt (p.getD k 0) (p.getD i 0)=true) (kas_place p k f l r)
 | 0,l,r,h1,h2,h3,h4,h5=>by
   unfold kas_place
   exact⟨by omega,h4,fun i hi hik=>h5 i (by omega) hik⟩
 | f+1,l,r,h1,h2,h3,h4,h5=>by
   unfold kas_place
   by_cases hge:l≥r
   · rw[if_pos hge]
     exact⟨by omega,h4,fun i hi hik=>h5 i (by omega) hik⟩
   · rw[if_neg hge]
     have hm:l≤(l+r)/2∧(l+r)/2 < r:=by omega
     generalize (l+r)/2=m at hm ⊢
     obtain⟨hm1,hm2⟩:=hm
     have hmk:m < k:=zP hm2 h2
     have hmn:m < n:=xR hmk hk
     refine⟨hp.bel hk,hp.bel hmn,hp.inj hk hmn (Nat.ne_of_gt hmk),?_⟩
     cases hc:lt (p.getD k 0) (p.getD m 0) with
     | true=>
       dsimp only
       rw[if_pos rfl]
       refine JQ S hp hk hu f l m hm1 (xT hmk) (by omega) h4 fun i hi hik=>?_
       by_cases e:i=m
       · subst e;exact hc
       · exact S.tr _ _ _ hc (hu _ _ (Nat.lt_of_le_of_ne hi (Ne.symm e)) hik)
     | false=>
       dsimp only
       rw[if_neg nft]
       have hup:lt (p.getD m 0) (p.getD k 0)=true:=(S.tot _ _ (hp.bel hmn) (hp.bel hk) (hp.inj (i:=m) (j:=k) hmn hk (zC hmk))).elim id fun z=>by rw[hc] at z;cases z
       refine JQ S hp hk hu f (m+1) r hm2 h2 (by omega) (fun i hi=>?_) h5
       by_cases e:i=m
       · subst e;exact hup
       · exact S.tr _ _ _ (hu _ _ (by omega) (by omega)) hup
theorem U8 (S:Strict n lt):∀(f:Nat) {p:Array Nat}{k:Nat},Pm n p→k+f=n→Up lt p k→Good n lt (fun q=>Pm n q∧Up lt q n) (kas_bin f p k)
 | 0,p,k,hp,h1,h2=>by
   have e:k=n:=by omega
   subst e
   exact⟨hp,h2⟩
 | f+1,p,k,hp,h1,h2=>by
   unfold kas_bin
   refine Good.bind ((JQ S hp (by omega) h2 k 0 k (xU _) (zR _) (by omega) (fun i hi=>by omega) fun i hi hk=>by omega).mono fun x ⟨hx,a,b⟩=>?_)
   have hks:k < p.size:=by rw[hp.size];omega
   refine U8 S f ((Array.perm_iff_toList_perm.mp (bubble_perm _ _ _)).trans hp) (by omega) fun i j hij hj=>?_
   have e:∀q,(bubble p k (k - x)).getD q 0=if q=x then p.getD k 0 else if x < q∧q≤k then p.getD (q - 1) 0 else p.getD q 0:=fun q=>by
     have:=getElem?_bubble hks (k - x) (by omega) q
     rw[show k - (k - x)=x by omega] at this
     by_cases c1:q=x
     · rw[if_pos c1] at this ⊢;exact N3 this
     · rw[if_neg c1] at this ⊢
       by_cases c2:x < q∧q≤k
       · rw[if_pos c2] at this ⊢;exact N3 this
       · rw[if_neg c2] at this ⊢;exact N3 this
   obtain⟨g,hg⟩:∃g:Nat→Nat,∀i,p.getD i 0=g i:=⟨_,fun _=>rfl⟩
   have h2':∀i j,i < j→j < k→lt (g i) (g j)=true:=fun i j x y=>by rw[← hg,← hg];exact h2 i j x y
   rw[e,e]
   simp only[hg] at a b ⊢
   clear e
   rcases Nat.lt_trichotomy j x with hj' | hj' | hj'
   · have hi':i < x:=xR hij hj'
     rw[if_neg (zC hi'),if_neg (fun z=>Nat.lt_asymm z.1 hi'),if_neg (zC hj'),if_neg (fun z=>Nat.lt_asymm z.1 hj')]
     exact h2' _ _ hij (zP hj' hx)
   · subst hj'
     rw[if_neg (zC hij),if_neg (fun z=>Nat.lt_asymm z.1 hij),if_pos rfl]
     exact a _ hij
   · obtain⟨j',rfl⟩:∃j',j=j'+1:=⟨j - 1,by omega⟩
     have hjk:j' < k:=Nat.lt_of_succ_le (Nat.le_of_lt_succ hj)
     have hxj:x≤j':=Nat.le_of_lt_succ hj'
     rw[if_neg (Nat.ne_of_gt hj') (c:=j'+1=x),if_pos (c:=x < j'+1∧j'+1≤k) ⟨hj',hjk⟩,Nat.add_sub_cancel]
     rcases Nat.lt_trichotomy i x with hi' | hi' | hi'
     · rw[if_neg (zC hi'),if_neg (fun z=>Nat.lt_asymm z.1 hi')]
       exact h2' _ _ (zP hi' hxj) hjk
     · rw[if_pos hi']
       exact b _ hxj hjk
     · obtain⟨i',rfl⟩:∃i',i=i'+1:=⟨i - 1,by omega⟩
       have hij':i' < j':=Nat.lt_of_succ_lt_succ hij
       rw[if_neg (Nat.ne_of_gt hi'),if_pos (c:=x < i'+1∧i'+1≤k) ⟨hi',xR hij' hjk⟩,Nat.add_sub_cancel]
       exact h2' _ _ hij' hjk
theorem aN (S:Strict n lt) (h1:1≤n):Good n lt (fun q=>Pm n q∧Up lt q n) (kas_sort n):=by
 unfold kas_sort
 refine Good.bind ((WU S (show Pm n _ from .refl _) h1).mono fun r ⟨a,b,c,d⟩=>?_)
 have e:max r.1 1=r.1:=by omega
 rw[e]
 by_cases hr:r.1 < n
 · rw[if_pos hr]
   exact U8 S _ c (by omega) d
 · rw[if_neg hr]
   have e:r.1=n:=by omega
   rw[e] at d
   exact⟨c,d⟩
end
end L2
namespace L2
open PySem PySem.Spec PyProof.Rows PySem.W
def TupsN (h:Heap) (vs:List Value) (ns:List Str):Prop:=
 vs.length=ns.length∧∀(i:Nat) (v:Value) (nm:Str),vs[i]?=some v→ns[i]?=some nm→∃(a:Addr) (o:Obj) (xs:Array Value) (k:Nat) (t:Tok),v=Value.ref a∧h.get? a=some o∧o.cls = .type "tuple" ∧ o.data = .seq xs k∧xs[0]?=some (.str nm t)
theorem TupsN.keep {h h':Heap}{vs:List Value}{ns:List Str}(t:TupsN h vs ns) (hk:∀b o,o.cls = .type "tuple" → h.get? b=some o→h'.get? b=some o):TupsN h' vs ns:=
 ⟨t.1,fun i v nm e1 e2=>let ⟨a,o,xs,k,t',h1,h2,h3,h4,h5⟩:=t.2 i v nm e1 e2;⟨a,o,xs,k,t',h1,hk a o h3 h2,h3,h4,h5⟩⟩
theorem TupsN.kat {h:Heap}:∀{vs:List Value}{ns:List Str},TupsN h vs ns→∃fs,KatTups h vs fs∧fs.length=ns.length∧∀v∈fs,∃x t,v=Value.str x t
 | [],[],_=>⟨[],trivial,rfl,fun v hv=>nomatch hv⟩
 | [],_::_,t=>by have:=t.1;simp at this
 | _::_,[],t=>by have:=t.1;simp at this
 | v::vs,nm::ns,t=>by
   obtain⟨a,o,xs,k,t',rfl,h2,h3,h4,h5⟩:=t.2 0 v nm rfl rfl
   obtain⟨fs,q1,q2,q3⟩:=TupsN.kat (vs:=vs) (ns:=ns) ⟨by have:=t.1;simpa using this,fun i v nm e1 e2=>t.2 (i+1) v nm (by simpa using e1) (by simpa using e2)⟩
   exact⟨_,KatTups.cons h2 h3 h4 h5 q1,by simp[q2],fun v hv=>(yX.mp hv).elim (fun e=>⟨_,_,e⟩) (q3 v)⟩
section
variable {prog:Program}{w:World}{A:Around}{E:Value→Shared→Prop}{s:Shared}
theorem fQ {vs:List Value}{ns:List Str}(t:TupsN s.heap vs ns) (nd:ns.Nodup) {i j:Nat}(hi:i < ns.length) (hj:j < ns.length) (hij:i≠j) {C:Bool→Shared→Prop}(h:C (decide ((ns.getD i "").cps.toList < (ns.getD j "").cps.toList)) s) :
   kas_ask prog w A (tuples' true) vs i j C s:=by
 unfold kas_ask
 have hl:=t.1
 have e1:vs[i]?=some (vs.getD i Value.none):=by rw[yU,zV (by omega)];rfl
 have e2:vs[j]?=some (vs.getD j Value.none):=by rw[yU,zV (by omega)];rfl
 have f1:ns[i]?=some (ns.getD i ""):=by rw[yU,zV hi];rfl
 have f2:ns[j]?=some (ns.getD j ""):=by rw[yU,zV hj];rfl
 have hne:ns.getD i "" ≠ ns.getD j "" := fun e=>by
   rw[yU,yU,zV hi,zV hj] at e
   rcases Nat.lt_or_gt_of_ne hij with q | q
   · exact List.pairwise_iff_getElem.mp nd i j hi hj q e
   · exact List.pairwise_iff_getElem.mp nd j i hj hi q e.symm
 generalize vs.getD i Value.none=v at e1 ⊢
 generalize vs.getD j Value.none=u at e2 ⊢
 obtain⟨a,o,xs,k,t1,rfl,a2,a3,a4,a5⟩:=t.2 i v _ e1 f1
 obtain⟨b,o',ys,k',t2,rfl,b2,b3,b4,b5⟩:=t.2 j u _ e2 f2
 refine kat_lt a2 a4 b2 b4 ?_
 have x1:xs.toList[0]?=some (.str (ns.getD i "") t1):=by rw[Array.getElem?_toList];exact a5
 have y1:ys.toList[0]?=some (.str (ns.getD j "") t2):=by rw[Array.getElem?_toList];exact b5
 obtain⟨xr,hx⟩:∃r,xs.toList = .str (ns.getD i "") t1::r:=by
   cases hh:xs.toList with
   | nil=>rw[hh] at x1;cases x1
   | cons q r=>rw[hh] at x1;cases x1;exact⟨r,rfl⟩
 obtain⟨yr,hy⟩:∃r,ys.toList = .str (ns.getD j "") t2::r:=by
   cases hh:ys.toList with
   | nil=>rw[hh] at y1;cases y1
   | cons q r=>rw[hh] at y1;cases y1;exact⟨r,rfl⟩
 rw[hx,hy,List.zip_cons_cons]
 refine kat_cons (wpAny_eqBool_str ?_)
 rw[decide_eq_false hne]
 refine kat_no ?_
 show wpAny (model prog w) A (oneLt' true _ _) C (fun _ _=>False) s
 exact oneLt_str h
theorem O0 {a:Addr}{vs:List Value}{ns:List Str}{n:Nat}{P:PySem.Fin→Shared→Prop}(ho:s.heap.get? a=some (seqObj "list" vs.toArray n)) (t:TupsN s.heap vs ns) (nd:ns.Nodup) (h64:vs.length < 64)
   (h:∀p:List Nat,p.Perm (List.range vs.length)→(∀i j,i < j→j < vs.length→(ns.getD (p.getD i 0) "").cps.toList < (ns.getD (p.getD j 0) "").cps.toList) →
     P (.done (.ret .none)) { s with heap:=sortedHeap s.heap a vs (p.map fun i=>vs.getD i Value.none).toArray }) :
   wpAny (model prog w) A (Builtin.«list.sort» ⟨[.ref a],[]⟩) P E s:=by
 have ha:a < s.heap.objs.size:=zM ho
 rw[list_sort_plain];refine zZ (listItems_at ho rfl ?_)
 refine zZ (listUpdate_at ho rfl ?_ (by rw[zJ,sizeLine_eq];omega) (xU _));obtain⟨e1,ho1⟩:∃e1,(s.heap.update a (Obj.mapSeq fun _=>(#[]:Array Value))).get? a=some (seqObj "list" #[] e1):=⟨_,get?_update_seq ho (fun _=>#[])⟩
 refine zZ (seqEpoch_at ho1 rfl (zZ (wpAny_newTuple ?_ (by show vs.length≤_;rw[sizeLine_eq];omega))))
 refine zZ (wpAny_newList (wpAny_holding ?_) (xU _))
 have hsz:vs.toArray.size=vs.length:=zJ ..
 have keepT:∀b o,o.cls = .type "tuple" → s.heap.get? b=some o→(((s.heap.update a (Obj.mapSeq fun _=>(#[]:Array Value))).push (seqObj "tuple" vs.toArray 0)).push (seqObj "list" #[] 0)).get? b=some o:=fun b o hc q=>by
   have hb:b≠a:=fun e=>by
     subst e
     rw[ho] at q
     cases q
     exact absurd hc (show ¬(Value.type "list"=Value.type "tuple") by decide)
   refine zW _ (zW _ ?_)
   rw[yB _ _ _ _ hb]
   exact q
 have ho6:(((s.heap.update a (Obj.mapSeq fun _=>(#[]:Array Value))).push (seqObj "tuple" vs.toArray 0)).push (seqObj "list" #[] 0)).get? a=some (seqObj "list" #[] e1):=zW _ (zW _ ho1)
 show wpAny (model prog w) A _ P E { s with heap:=((s.heap.update a (Obj.mapSeq fun _=>(#[]:Array Value))).push (seqObj "tuple" vs.toArray 0)).push (seqObj "list" #[] 0) }
 dsimp only
 by_cases h2:vs.toArray.size < 2
 · rw[if_pos h2,if_pos h2]
   refine zZ (zY ?_)
   rw[StateT.run_pure]
   refine zZ (zY (zZ (seqEpoch_at ho6 rfl ?_)))
   have e3:(arrOf (SortSt.mk' general' (vs.toArray.zip vs.toArray) #[] 7 none)).map (·.2)=vs.toArray:=by
     show(vs.toArray.zip vs.toArray).map (·.2)=vs.toArray
     apply Array.toList_inj.mp
     rw[Array.toList_map,Array.toList_zip]
     exact List.map_snd_zip (zR _)
   rw[e3]
   refine zZ (listUpdate_at ho6 rfl ?_ (xU _) (by rw[zJ,sizeLine_eq];omega))
   simp only[bne_self_eq_false,Bool.false_eq_true,if_false]
   have:=h (List.range vs.length) (.refl _) (fun i j hij hj=>by omega)
   have e4:(List.range vs.length).map (fun i=>vs.getD i Value.none)=vs:=by
     apply List.ext_getElem?
     intro i
     rw[zF]
     by_cases hi:i < vs.length
     · rw[List.getElem?_range hi]
       simp[hi]
     · rw[List.getElem?_eq_none (by simp;omega),List.getElem?_eq_none (by omega)]
       rfl
   rw[e4] at this
   exact zY this
 · rw[if_neg h2,if_neg h2]
   have h2':2≤vs.length:=by omega
   have t6:=t.keep keepT
   obtain⟨fs,q1,q2,q3⟩:=t6.kat
   refine zZ (kat_kind (T:=.type "str") q1 (by have:=t.1;omega) (fun v hv=>?_) rfl ?_)
   · obtain⟨x,tt,rfl⟩:=q3 v hv
     exact Looks.of_pure rfl
   have hn:vs.length=ns.length:=t.1
   have S:Strict vs.length (fun i j=>decide (i < vs.length)&&(decide (j < vs.length)&&decide ((ns.getD i "").cps.toList < (ns.getD j "").cps.toList))):=by
     refine⟨fun i=>?_,fun i j k a b=>?_,fun i j hi hj hij=>?_⟩
     · simp[List.lt_irrefl]
     · simp only[Bool.and_eq_true,decide_eq_true_eq] at a b ⊢
       exact⟨a.1,b.2.1,List.lt_trans a.2.2 b.2.2⟩
     · simp only[Bool.and_eq_true,decide_eq_true_eq,hi,hj,true_and]
       have hne:(ns.getD i "").cps.toList≠(ns.getD j "").cps.toList:=fun e=>by
         have e':ns.getD i ""=ns.getD j "" := by
           generalize ns.getD i ""=x at e
           generalize ns.getD j ""=y at e
           obtain⟨⟨x⟩⟩:=x
           obtain⟨⟨y⟩⟩:=y
           simp at e
           rw[e]
         rw[yU,yU,zV (by omega),zV (by omega)] at e'
         rcases Nat.lt_or_gt_of_ne hij with q | q
         · exact List.pairwise_iff_getElem.mp nd i j (by omega) (by omega) q e'
         · exact List.pairwise_iff_getElem.mp nd j i (by omega) (by omega) q e'.symm
       by_cases c:(ns.getD i "").cps.toList < (ns.getD j "").cps.toList
       · exact .inl c
       · refine .inr ?_
         rcases List.le_iff_lt_or_eq.mp (List.not_lt.mp c) with z | z
         · exact z
         · exact absurd z.symm hne
   refine zZ (wpAny_mono (kat_run (ks:=vs) (G:=fun p s'=>s'={ s with heap:=((s.heap.update a (Obj.mapSeq fun _=>(#[]:Array Value))).push (seqObj "tuple" vs.toArray 0)).push (seqObj "list" #[] 0) }∧Pm vs.length p∧Up _ p vs.length)
     (Q:=fun st' s'=>s'={ s with heap:=((s.heap.update a (Obj.mapSeq fun _=>(#[]:Array Value))).push (seqObj "tuple" vs.toArray 0)).push (seqObj "list" #[] 0) }∧failedOf st'=none∧∃p:Array Nat,Pm vs.length p∧Up _ p vs.length∧(arrOf st').map (·.2)=List.toArray (p.toList.map fun i=>vs.getD i Value.none))
     rfl h2' h64 (fun p st' s' a1 a2 a3 a4=>⟨a4.1,a3,p,a4.2.1,a4.2.2,kat_snds rfl a2⟩) ((aN S (by omega)).wp (fun i j C hi hj hij hC=>?_) fun p hp=>⟨rfl,hp.1,hp.2⟩)) ?_ fun _ _ e=>e)
   · refine fQ t6 nd (by omega) (by omega) hij ?_
     simp only[hi,hj,decide_true,Bool.true_and] at hC
     exact hC
   · rintro⟨⟨⟩,st'⟩ s' ⟨rfl,hf,p,hp,hu,hm⟩
     dsimp only
     refine zZ (seqEpoch_at ho6 rfl ?_)
     rw[hm]
     refine zZ (listUpdate_at ho6 rfl ?_ (xU _) (by
       have z:=hp.length_eq
       simp only[xZ,Array.length_toList] at z
       simp only[zJ,zX,Array.length_toList]
       rw[sizeLine_eq];omega))
     rw[hf]
     simp only[bne_self_eq_false,Bool.false_eq_true,if_false]
     refine zY (h p.toList hp fun i j hij hj=>?_)
     have:=hu i j hij hj
     simp only[Bool.and_eq_true,decide_eq_true_eq] at this
     have ed:∀k,p.toList.getD k 0=p.getD k 0:=fun k=>by rw[yU,Array.getD_eq_getD_getElem?,Array.getElem?_toList]
     rw[ed,ed]
     exact this.2.2
theorem U9 {l:Addr}{vs:List Value}{Q:List Value→Shared→Prop}(hl:s.heap.IsList l vs.toArray∨s.heap.IsTuple l vs.toArray)
   (h:Q vs { s with heap:=(s.heap.push (seqObj "list" #[] 0)).update s.heap.objs.size (Obj.mapSeq (·++vs.toArray)) }) (hsz:vs.length≤sizeLine) :
   wpAny (model prog w) A (collect (.ref l)) Q E s:=by
 rcases hl with hl | ⟨o,ho,hc,n,hd⟩
 · exact collect_list hl h hsz
 unfold collect
 refine zZ (wpAny_runValue (codeAny_builtin entry_proto_collect' ?_))
 show wpAny _ _ (do again (.builtin "list.__iadd__" ⟨[← newList [],.ref l],[]⟩)) _ _ s
 refine zZ (wpAny_newList (zY ⟨Code.quiet_builtin _ (by decide +kernel),codeAny_builtin entry_list_iadd' ?_⟩))
 show wpAny _ _ (Builtin.List.listExtendWith (.ref s.heap.objs.size) (.ref l) (.ref s.heap.objs.size)) _ _ { s with heap:=s.heap.push (seqObj "list" #[] 0) }
 unfold Builtin.List.listExtendWith
 have ho':(s.heap.push (seqObj "list" #[] 0)).get? l=some o:=zW _ ho
 refine zZ (wpAny_typeOf (T:= "tuple") ⟨o,ho',hc⟩ ?_)
 have ht:(Value.type "tuple" == Value.type "tuple")=true:=by rfl
 rw[if_pos (by rw[ht];simp)]
 refine zZ (listItems_at ho' hd ?_)
 refine zZ (listItems_at (xs:=#[]) (n:=0) (yZ _ rfl) rfl ?_)
 rw[if_neg (by simp)]
 refine zZ (listUpdate_at (xs:=#[]) (n:=0) (yZ _ rfl) rfl ?_ (xU _) (by show(#[]++vs.toArray).size≤sizeLine+1;simp only[Array.size_append,zJ,List.length_nil];omega))
 refine zY ?_
 show wpAny (model prog w) A (do
     let o ← load s.heap.objs.size
     match o.data with
     | .seq xs _=>pure xs.toList
     | _=>unsupported "internal:collect") Q E { s with heap:=(s.heap.push (seqObj "list" #[] 0)).update s.heap.objs.size (Obj.mapSeq (·++vs.toArray)) }
 refine zZ (wpAny_load (get?_update_seq (yZ _ rfl) _) ?_)
 show wpAny _ _ (pure ((#[]:Array Value)++vs.toArray).toList) Q E _
 rw[show((#[]:Array Value)++vs.toArray).toList=vs by simp]
 exact zY h
theorem UA {l:Addr}{vs:List Value}{ns:List Str}{Q:Value→Shared→Prop}(hl:s.heap.IsList l vs.toArray∨s.heap.IsTuple l vs.toArray) (t:TupsN s.heap vs ns) (nd:ns.Nodup) (h64:vs.length < 64)
   (h:∀p:List Nat,p.Perm (List.range vs.length)→(∀i j,i < j→j < vs.length→(ns.getD (p.getD i 0) "").cps.toList < (ns.getD (p.getD j 0) "").cps.toList) →
     Q (.ref (s.heap.objs.size+1)) { s with heap:=sortedAll s.heap vs (p.map fun i=>vs.getD i Value.none).toArray }) :
   wpAny (model prog w) A (call (.builtin "sorted") [.ref l]) Q E s:=by
 refine Calls.call_function_entry kind_sorted plain_sorted entry_sorted (args_sorted1 _) ?_
 unfold Builtin.«sorted»;refine zZ (m:=checkCount "sorted" 1 1 _) (zY (zZ (U9 hl (zZ (wpAny_newList ?_ (by rw[sizeLine_eq];omega))) (by rw[sizeLine_eq];omega))))
 generalize hH:(s.heap.push (seqObj "list" #[] 0)).update s.heap.objs.size (Obj.mapSeq (·++vs.toArray))=H1
 have hsz:H1.objs.size=s.heap.objs.size+1:=by rw[← hH,Heap.size_update,size_push']
 have old:∀b o,s.heap.get? b=some o→(H1.push (seqObj "list" vs.toArray 0)).get? b=some o:=fun b o q=>by
   refine zW _ ?_
   rw[← hH,yB _ _ _ _ (zC (zM q))]
   exact zW _ q
 have hoL:(H1.push (seqObj "list" vs.toArray 0)).get? (s.heap.objs.size+1)=some (seqObj "list" vs.toArray 0):=by
   rw[← hsz];exact yZ _ rfl
 show wpAny _ _ _ _ _ { s with heap:=H1.push (seqObj "list" vs.toArray 0) }
 rw[hsz]
 refine zZ (wpAny_holding (wpAny_call_entry slot_list_sort ⟨_,hoL,rfl⟩ entry_list_sort (O0 hoL (t.keep fun b o _ q=>old b o q) nd h64 fun p a1 a2=>⟨_,rfl,?_⟩) (args_list_sort _)))
 have:=h p a1 a2
 unfold sortedAll at this
 rw[hH] at this
 exact zY ⟨_,rfl,this⟩
theorem UB {d:Addr}{kvs:List (Key×Value)}{ss:List Str}{Q:Value→Shared→Prop}(hh:A.handled=none) (hd:(d==sysModules)=false) (dd:s.heap.DictOf (AK prog w) d kvs) (hk:kvs.map (·.1)=ss.map Sum.inr) (h64:ss.length < 64)
   (h:∀(h1 h':Heap) (tk:Nat) (out:List Value) (e:Nat) (ss':List Str),(∀b o,s.heap.get? b=some o→h1.get? b=some o)→(∀b o,h1.get? b=some o→h'.get? b=some o)→h'.get? h1.objs.size=some (seqObj "list" out.toArray e)→StrsAre out ss'→ss'.Perm ss→sortedS ss'=true→Q (.ref h1.objs.size) { s with heap:=h',toks:=tk }) :
   wpAny (model prog w) A (call (.builtin "sorted") [.ref d]) Q E s:=by
 refine Calls.call_function_entry kind_sorted plain_sorted entry_sorted (args_sorted1 _) ?_
 obtain⟨ep,hat⟩:=dd.dictAt
 have hlen:kvs.length=ss.length:=by have:=congrArg List.length hk;simpa using this
 unfold Builtin.«sorted»;refine zZ (m:=checkCount "sorted" 1 1 _) (zY (zZ (kdu_collect (A:=A.in1) (kdl_dict (kvs:=kvs) (ep:=ep) hd) hh hat (by rw[hlen,sizeLine_eq];omega) fun h' tk acc hold hacc=>?_)))
 have hl:acc.toList.length=ss.length:=by rw[Array.length_toList,hacc.1,hlen]
 have hS:StrsAre acc.toList ss:=by
   have go:∀(vs:List Value) (zs:List Str),vs.length=zs.length→(∀(i:Nat) v x,vs[i]?=some v→zs[i]?=some x→∃t,v=Value.str x t)→StrsAre vs zs:=by
     intro vs
     induction vs with
     | nil=>intro zs hz _;cases zs with
       | nil=>exact .nil
       | cons _ _=>simp at hz
     | cons v vs ih=>intro zs hz hv;cases zs with
       | nil=>simp at hz
       | cons x zs=>
         obtain⟨t,rfl⟩:=hv 0 v x rfl rfl
         exact .cons x t (ih zs (by simpa using hz) fun i v x e1 e2=>hv (i+1) v x (by simpa using e1) (by simpa using e2))
   refine go _ _ hl fun i v x e1 e2=>?_
   obtain⟨k,y,g1,g2⟩:=hacc.2 i v (by rw[← Array.getElem?_toList];exact e1)
   have e3:(kvs.map (·.1))[i]?=some k:=by rw[zF,g1];rfl
   rw[hk,zF,e2] at e3
   cases e3
   have g2':LU (.inr x) v=true:=g2
   rcases B4 g2' with ⟨i,t,e,_⟩ | ⟨z,t,e,e'⟩
   · cases e
   · cases e;exact⟨t,e'⟩
 refine zZ (wpAny_newList ?_ (by rw[hl,sizeLine_eq];omega))
 have hoL:(h'.push (seqObj "list" acc.toList.toArray 0)).get? h'.objs.size=some (seqObj "list" acc.toList.toArray 0):=yZ _ rfl
 show wpAny _ _ _ _ _ { s with heap:=h'.push (seqObj "list" acc.toList.toArray 0),toks:=tk }
 refine zZ (wpAny_holding (wpAny_call_entry (s:={ s with heap:=h'.push (seqObj "list" acc.toList.toArray 0),toks:=tk }) slot_list_sort ⟨_,hoL,rfl⟩ entry_list_sort (list_sort_treeK strKind_oneLt hoL hS.keysOf (fun v₁ v₂ rest e=>keyKind_strs (by rw[← e];exact hS)) (by rw[hl];exact h64) fun st' hp hs=>⟨_,rfl,?_⟩) (args_list_sort _)))
 obtain⟨ss',h1,h2,h3⟩:=sorted_out_str hS hp hs
 obtain⟨e,he⟩:=sortedHeap_at (out:=(arrOf st').map (·.2)) hoL
 refine zY ⟨_,rfl,h h' _ tk ((arrOf st').map (·.2)).toList e ss' hold (fun b o q=>?_) (by rw[Array.toArray_toList];exact he) h1 h2 h3⟩
 have lt:b < h'.objs.size:=zM q
 rw[sortedHeap_old (zC lt) (by rw[size_push'];exact Nat.lt_succ_of_lt lt)]
 exact zW _ q
end
end L2
namespace L2
open PySem PySem.Spec PyProof.Rows
theorem HN {prog:Program}{w:World}{A:Around}{R:Result→Shared→Prop}{s:Shared}{kx vx target iter:Expr}{ifs:List Expr}{scope:Scope}{pos:Pos}{it:Value}{D:Addr}{env:Env}(I:Nat→Shared→Prop)
   (turn:∀n s,I n s→wpAny (model prog w) A (pyNext it) (fun r s₁=>match r with
     | none=>R (.ok .next) s₁
     | some v=>wpAny (model prog w) A (letOwnedTupleGo target it v) (fun _ s₀=>wpAny (model prog w) A (assign target env v) (fun _ s₂=>
         wpAny (model prog w) A (JL ifs env) (fun ok s₃=>
           if ok=true then wpAny (model prog w) A (eval kx env) (fun kv s₄=>wpAny (model prog w) A (eval vx env) (fun vv s₅=>
             wpAny (model prog w) A (dictSet D kv vv) (fun _ s₆=>∃m,m < n∧I m s₆) (fun _ _=>False) s₅) (fun _ _=>False) s₄) (fun _ _=>False) s₃
           else ∃m,m < n∧I m s₃) (fun _ _=>False) s₂) (fun _ _=>False) s₀) (fun _ _=>False) s₁) (fun _ _=>False) s)
   (n:Nat) (h:I n s) :
   codeAny (model prog w) A (.compLoop (.DictComp kx vx [⟨target,iter,ifs,0⟩] scope pos) 0 it (.ref D) env) R s:=by
 refine codeAny_loop rfl I (fun n s hI=>?_) n h
 show wpAny _ A ((compTurn (.DictComp kx vx [⟨target,iter,ifs,0⟩] scope pos) 0 it (.ref D) env).onRaise (fun x=>do noteFrame x env;theTreesLotGoes x)) _ _ s
 refine wpAny_noted ?_
 rw[compTurn_dict]
 refine zZ (wpAny_standAt (zZ (wpAny_mono (AY (turn n s hI)) (fun r s₁ h₁=>?_) fun _ _ h'=>h')))
 cases r with
 | none=>exact zY h₁
 | some v=>
   refine zZ (wpAny_mono (AY h₁) (fun _ s₀ h₀=>?_) fun _ _ h'=>h')
   refine zZ (wpAny_mono (AY h₀) (fun _ s₂ h₂=>zZ (wpAny_mono (AY h₂) (fun ok s₃ h₃=>?_) fun _ _ h'=>h')) fun _ _ h'=>h')
   cases ok with
   | false=>exact zY ⟨rfl,h₃⟩
   | true=>
     exact zZ (zZ (wpAny_mono (AY h₃) (fun kv s₄ h₄=>zZ (wpAny_holding (wpAny_mono (AY h₄) (fun vv s₅ h₅=>zZ (wpAny_standAt (wpAny_holding (wpAny_mono (AY h₅) (fun _ s₆ h₆=>zY ⟨rfl,h₆⟩) fun _ _ h'=>h')))) fun _ _ h'=>h'))) fun _ _ h'=>h'))
theorem rL {X:Cx}{pins:List (Addr×Obj)}{σ:St}{H:Hp}{s:Shared}{a:Addr}{kvs:List (Key×V)}{k:Key}{v:V}{u r:Value}{A:Around}{E:Value→Shared→Prop}{Q:Unit→Shared→Prop}
   (I:Inv X pins σ H s) (e:H a=some (.dK kvs)) (l:kvs.length < sizeLine) (ry:RelV (kV k) u) (rv:RelV v r) (h:∀s',Inv X pins σ (upd H a (.dK (ER kvs k v))) s'→Q () s'):wpAny (model X.prog X.w) A (dictSet a u r) Q E s:=by
 obtain⟨z,hd,vs,rel,dd⟩:=YI I.hok e
 have hz:vs.length≤sizeLine:=by rw[← rel.length];exact z
 have hl:(ER kvs k v).length≤sizeLine:=by have:=F9 kvs k v;omega
 refine wpAny_dictSet_pairs (hsz:=hz) (J5 ry) dd fun h' dd' hs=>h _ ?_
 have he:∃q,h'.get? a=some q:=let ⟨q,_,_,hq,_⟩:=dd';⟨q,hq⟩
 exact K2 I (by rw[e];exact True.intro) hs he (NG hl hd (rel.put k rv) dd')
def WV (fr:List (Option Nat)) (wi:TI) (g:TG) (tt:TT) (tk tv:TE):TE:=fun σ H Q=>wi σ H fun J H1=>∀D,H1 D=none→∃W:Nat→Nat→List (Key×V)→Hp→Prop,(∃m,W 0 m [] (upd H1 D (.dK []))) ∧
 ∀i m ys H2,W i m ys H2→H2 D=some (.dK ys)∧((J.stop i H2∧Q (.ref D) H2)∨(J.go i H2∧∀x H3,J.yld i H2 x H3→g x (capt fr σ) H3 fun σ2 H4=>
   (∀(i:Nat) v,(capt fr σ)[i]?=some (some v)→σ2[i]?=some (some v))∧tt σ2 H4 fun c H5=>if c=true then tk σ2 H5 fun x H6=>tv σ2 H6 fun y H7=>∃ys' k,x=kV k∧H7 D=some (.dK ys')∧ys'.length < sizeLine∧∃m',m' < m∧W (i+1) m' (ER ys' k y) (upd H7 D (.dK (ER ys' k y)))
     else ∃ys' m',m' < m∧W (i+1) m' ys' H5))
section
variable {X:Cx}{scope:Scope}{NC:List Str}{fr:List (Option Nat)}{pins:List (Addr×Obj)}{σ:St}{H:Hp}{s:Shared}
theorem aO {kx vx iter tg:Expr}{ifs:List Expr}{pos cpos:Pos}{wi:TI}{g:TG}{tt:TT}{tk tv:TE}{use:Option (Value→Sem Unit)}{Q:VK}{QQ:Value→Shared→Prop}
   (hc:X.calm=true) (S:CSc X scope NC fr) (hi:PI X tg iter wi)
   (hb:∀(C:Addr) (s:Shared) (H:Hp) (ex:List Addr) (pn:List (Addr×Obj)),PG (BA X scope NC C s H ex pn) tg g∧PTs (BA X scope NC C s H ex pn) ifs tt∧PE (BA X scope NC C s H ex pn) kx tk∧PE (BA X scope NC C s H ex pn) vx tv)
   (I:Inv X pins σ H s) (hu:X.A.units+1 < cLine) (h:WV fr wi g tt tk tv σ H Q)
   (fin:∀(D C:Addr) (H':Hp) (s':Shared) (m:Str→Option Value) (oC:Obj),Inv X (pins++[(C,oC)]) σ H' s'→s'.heap.Ns C m→Q (.ref D) H' →
     (∀(pins':List (Addr×Obj)) (σ2:St) (H2:Hp) (s2:Shared) (h2:Heap),Inv X (pins++[(C,oC)]) σ2 H2 s2→Heap.SameBut C s2.heap h2→Inv X pins σ2 H2 { s2 with heap:=h2 }) →
     s'.heap.get? C=some oC →
     match use with
     | none=>∀h',Heap.SameBut C s'.heap h'→QQ (.ref D) { s' with heap:=h' }
     | some u=>wpAny (model X.prog X.w) X.A (u (.ref D)) (fun _ s''=>∃m,s''.heap.Ns C m∧∀h',Heap.SameBut C s''.heap h'→QQ .none { s'' with heap:=h' }) X.xe s')
   (hs:∀x,foldedSetIterable iter X.env x=pure x) :
   wpAny (model X.prog X.w) X.A (comprehension (.DictComp kx vx [⟨tg,iter,ifs,0⟩] scope pos) scope X.env cpos newDict false (eval iter X.env) use) QQ X.xe s:=by
 refine wpAny_comprehension_free (use:=use) rfl hs (YK (S.has I.ok)) S.kind S.names (thn (hi pins s σ H _ I h) fun v s1 h1=>thn h1 fun itv s2 h2=>?_)
 obtain⟨it,fp,tn,J,H2,e,I2,T,st2,f2,hq⟩:=h2
 subst e
 have hDn:H2 s2.heap.objs.size=none:=I2.hok.fresh (zR _)
 obtain⟨W,⟨m0,w0⟩,turn⟩:=hq s2.heap.objs.size hDn
 refine xN (wpAny_newFunctionEnv S.nocell (by intro y hy;simp at hy) (fun h₁ hns₁ hsb₁=>?_) S.kind)
 dsimp only at hns₁ hsb₁ ⊢
 generalize hs3:({ s2 with heap:=s2.heap.push { cls:=.type "dict", dict:=none,data:=.dict #[] } }:Shared)=s3
 have hh3:s2.heap.push { cls:=.type "dict", dict:=none,data:=.dict #[] }=s3.heap:=by rw[← hs3]
 have I3:Inv X pins σ (upd H2 s2.heap.objs.size (.dK [])) s3:=by
   rw[← hs3]
   refine I2.laid (t':=s2.toks) (fun b u e=>zW _ e) (zR _) ?_
   exact cY s2.heap I2.big
 rw[hh3] at hns₁ hsb₁ ⊢
 have sz3:s3.heap.objs.size=s2.heap.objs.size+1:=by rw[← hh3,Heap.size_push]
 have lt2:∀b∈fp,b < s2.heap.objs.size:=fun b hb=>by
   obtain⟨o,e,_⟩:=T.obj _ _ st2 b hb
   exact zM e
 have lt3:∀b∈fp,b < s3.heap.objs.size:=fun b hb=>by rw[sz3];exact Nat.lt_succ_of_lt (lt2 b hb)
 have f3:∀b∈fp,IX X pins (upd H2 s2.heap.objs.size (.dK [])) b:=fun b hb=>⟨by rw[AH (zC (lt2 b hb))];exact(f2 b hb).1,(f2 b hb).2⟩
 have keep1:∀b o,s3.heap.get? b=some o→h₁.get? b=some o:=fun b o e=>hsb₁.extBut b o (zC (zM e)) (zW _ e)
 generalize hC:s3.heap.objs.size=C at hns₁ hsb₁ ⊢
 have I0:Inv (BA X scope NC C s3 (upd H2 s2.heap.objs.size (.dK [])) fp (X.pn++pins)) [] (capt fr σ) (upd H2 s2.heap.objs.size (.dK [])) { s2 with heap:=h₁,toks:=s2.toks+([]:List (Str×Value)).length }:=by
   have:=NJ (tk:=s2.toks+([]:List (Str×Value)).length) (h1:=h₁) S I3 f3 lt3 (hC▸hns₁) keep1
   rw[hC] at this
   rw[← hs3] at this
   rw[← hs3]
   exact this
 obtain⟨hbg,hbt,hbk,hbv⟩:=hb C s3 (upd H2 s2.heap.objs.size (.dK [])) fp (X.pn++pins)
 generalize hX':BA X scope NC C s3 (upd H2 s2.heap.objs.size (.dK [])) fp (X.pn++pins)=X' at I0 hbg hbt hbk hbv
 have eP:X'.prog=X.prog:=by rw[← hX'];rfl
 have eW:X'.w=X.w:=by rw[← hX'];rfl
 have eK:X'.K=X.K:=by rw[← hX'];rfl
 have eA:X'.A=X.A:=by rw[← hX'];rfl
 have eE:X'.env=compEnvC scope (JK X.env.cells scope.names []) C X.env:=by rw[← hX'];rfl
 have eX:X'.xe=fun _ _=>False:=by rw[← hX'];rfl
 have ec:X'.calm=true:=by rw[← hX'];exact hc
 have stat:∀{H':Hp},(∀b∈fp,H' b=none)→∀b∈fp,IX X' [] H' b:=fun {H'} hn b hb=>by
   obtain⟨q1,q2,q3,q4,q5,q6⟩:=f3 b hb
   rw[← hX']
   exact⟨hn b hb,by show b≠C;rw[← hC];exact zC (lt3 b hb),fun z=>(yX.mp (I3.stkSub b z)).elim q2 q3,.inl hb,fun x c e=>q5 x c (BH e),fun p hp=>q6 p (by rw[List.append_nil] at hp;exact hp)⟩
 have ends:∀(i m:Nat) (ys:List (Key×V)) (H':Hp) (s':Shared),Inv X' [] (capt fr σ) H' s'→Q (.ref s2.heap.objs.size) H' →
     compPost (model X.prog X.w) X.A X.xe use QQ (.ref s2.heap.objs.size) C (.ok .next) s':=by
   intro i m ys H' s' I' q'
   have eC:X'.env.locals=C:=by rw[eE];rfl
   obtain⟨mC,hnC,_⟩:=I'.loc
   rw[eC] at hnC
   have hCn:H' C=none:=by have:=I'.free;rw[eC] at this;exact this
   have un:Un (frs X.stack) fp (upd H2 s2.heap.objs.size (.dK [])) H' s3.heap s'.heap:=by
     have:=I'.base
     rw[← hX'] at this
     exact this
   have os':s'.os=s3.os:=by have:=I'.os;rw[← hX'] at this;exact this
   have hok':HOk X.prog X.w H' s'.heap:=by have:=I'.hok;rw[eP,eW] at this;exact this
   have Iout:Inv X pins σ H' s':=I3.call' (ch:=fp) os' un hok' I'.bare fun b hb=>⟨(f3 b hb).2.2.2.1,(f3 b hb).2.1,(f3 b hb).2.2.2.2.1,(f3 b hb).2.2.2.2.2⟩
   have C1:C≠X.env.locals:=by rw[← hC];exact Nat.ne_of_gt I3.lt
   have C2:C∉X.fs:=by rw[← hC];exact I3.nofs (zR _)
   have C3:X.s₀.heap.objs.size≤C:=by rw[← hC];exact I3.sz
   have C4:∀x c,X.env.cells.lookup x=some c→c≠C:=fun x c e z=>by
     obtain⟨v,q⟩:=I3.cell x c e
     rw[z,← hC] at q
     exact absurd q.lt (yF _)
   have C5:∀p∈X.pn++pins,p.1≠C:=fun p hp z=>by
     have:=zM (I3.pin p hp).1
     rw[z,← hC] at this
     exact absurd this (yF _)
   obtain⟨oC,esC,epC,hoC,hdC,hrC⟩:=id hnC
   have Ipin:Inv X (pins++[(C,oC)]) σ H' s':=Iout.pins_of fun p hp=>(yW.mp hp).elim (fun z=>Iout.pin p (zB _ z)) fun z=>by
     have e:p=(C,oC):=by simpa using z
     subst e
     exact⟨hoC,hCn,C1,C2,fun v z=>by rw[hdC] at z;cases z⟩
   have res:=fin s2.heap.objs.size C H' s' mC oC Ipin hnC q' (fun _ σ2 H3 s4 h4 I4 sb=>by
     have J4:Inv X pins σ2 H3 s4:=I4.unpinned
     have hn4:H3 C=none:=(I4.pin (C,oC) (zB _ (zB _ (by simp)))).2.1
     exact J4.turned (t':=s4.toks) (it:=C) (fun b o hb e=>sb.extBut b o hb e) hn4 C1 (.inr C3) C4 C5) hoC
   cases use with
   | none=>exact⟨mC,hnC,res⟩
   | some u=>exact res
 have loop:∀s':Shared,s'={ s2 with heap:=h₁,toks:=s2.toks+([]:List (Str×Value)).length } →
     codeAny (model X.prog X.w) X.A (.compLoop (.DictComp kx vx [⟨tg,iter,ifs,0⟩] scope pos) 0 (.ref it) (.ref s2.heap.objs.size) (compEnvC scope (JK X.env.cells scope.names []) C X.env))
       (compPost (model X.prog X.w) X.A X.xe use QQ (.ref s2.heap.objs.size) C) s':=by
   rintro s' rfl
   refine HN (fun n s'=>∃i ys H',Inv X' [] (capt fr σ) H' s'∧tn i s'.heap∧(∀b∈fp,H' b=none)∧W i n ys H') ?_ m0
     ⟨0,[],_,I0,T.keep _ _ _ st2 (fun b hb o e=>keep1 b o (by rw[← hh3];exact zW _ e)),fun b hb=>(f3 b hb).1,w0⟩
   rintro n s5 ⟨i,ys,H5,I5,st5,fr5,w5⟩
   obtain⟨hD5,hturn⟩:=turn i n ys H5 w5
   rcases hturn with ⟨stop,qn⟩ | ⟨go,step⟩
   · have:=T.done X' eP eW eK ec i [] s5 (capt fr σ) H5 (fun _ _=>False) I5 (stat fr5) st5 stop
     rw[eA] at this
     refine thn this fun r s6 ⟨hr,I6⟩=>?_
     subst hr
     exact ends i n ys H5 s6 I6 qn
   · have:=T.item X' eP eW eK ec i [] s5 (capt fr σ) H5 (fun _ _=>False) I5 (stat fr5) st5 go
     rw[eA] at this
     refine thn this fun r s6 ⟨u,hr,h6⟩=>?_
     subst hr
     refine thn h6 fun _ s7 ⟨x,H7,I7,r7,y7,st7,fr7⟩=>?_
     have I7':=I7.pinned (stat fr7) (T.obj _ _ st7)
     have hg1:=hbg _ s7 (capt fr σ) H7 x u _ I7' r7 (step x H7 y7)
     rw[eP,eW,eA,eE,eX] at hg1
     refine thn hg1 fun _ s8 ⟨σ8,H8,I8,ext8,q8⟩=>?_
     have ht1:=hbt _ s8 σ8 H8 _ I8 q8
     rw[eP,eW,eA,eE,eX] at ht1
     refine thn ht1 fun ok s9 ⟨H9,I9,q9⟩=>?_
     have weak:∀{H':Hp}{s':Shared},Inv X' ([]++L9 fp s7.heap) σ8 H' s'→Inv X' [] (capt fr σ) H' s'∧tn (i+1) s'.heap∧∀b∈fp,H' b=none:=fun {H' s'} I'=>by
       refine⟨I'.unpinned.weak (by rw[I'.len];rw[I0.len]) ext8,T.keep _ _ _ st7 fun b hb o e=>(I'.pin (b,o) (zB _ (zB _ (CZ hb e)))).1,fun b hb=>?_⟩
       obtain⟨o,e,d⟩:=T.obj _ _ st7 b hb
       exact(I'.pin (b,o) (zB _ (zB _ (CZ hb e)))).2.1
     cases ok with
     | false=>
       rw[if_neg nft] at q9
       obtain⟨ys',m',hm',w'⟩:=q9
       obtain⟨a1,a2,a3⟩:=weak I9
       exact⟨m',hm',i+1,ys',H9,a1,a2,a3,w'⟩
     | true=>
       rw[if_pos rfl] at q9
       have he1:=hbk _ s9 σ8 H9 _ I9 q9
       rw[eP,eW,eA,eE,eX] at he1
       refine thn he1 fun yk s10 ⟨kv,H10,I10,r10,q10⟩=>?_
       have he2:=hbv _ s10 σ8 H10 _ I10 q10
       rw[eP,eW,eA,eE,eX] at he2
       refine thn he2 fun yv s11 ⟨vv,H11,I11,r11,ys',k,ek,hD11,hsz,m',hm',w'⟩=>?_
       subst ek
       have hset:=rL (A:=X'.A) (E:=X'.xe) (Q:=fun _ s'=>∃m'',m'' < n∧∃i ys H',Inv X' [] (capt fr σ) H' s'∧tn i s'.heap∧(∀b∈fp,H' b=none)∧W i m'' ys H') I11 hD11 hsz r10 r11 fun s' I'=>by
         obtain⟨a1,a2,a3⟩:=weak I'
         exact⟨m',hm',i+1,_,_,a1,a2,a3,w'⟩
       rw[eP,eW,eA,eX] at hset
       exact hset
 refine codeAny_compStart_dict (loop _ rfl) (T.self _ 0 _ _ _ ?_ (loop _ rfl))
 exact T.keep _ _ _ st2 (fun b hb o e=>keep1 b o (by rw[← hh3];exact zW _ e))
theorem fS {kx vx iter tg:Expr}{ifs:List Expr}{pos:Pos}{wi:TI}{g:TG}{tt:TT}{tk tv:TE}(hc:X.calm=true) (hu:X.A.units+1 < cLine) (S:CSc X scope NC fr) (hi:PI X tg iter wi)
   (hb:∀(C:Addr) (s:Shared) (H:Hp) (ex:List Addr) (pn:List (Addr×Obj)),PG (BA X scope NC C s H ex pn) tg g∧PTs (BA X scope NC C s H ex pn) ifs tt∧PE (BA X scope NC C s H ex pn) kx tk∧PE (BA X scope NC C s H ex pn) vx tv)
   (hs:∀x,foldedSetIterable iter X.env x=pure x:=by intro _;rfl):PE X (.DictComp kx vx [⟨tg,iter,ifs,0⟩] scope pos) (WV fr wi g tt tk tv):=by
 intro pins s σ H Q I h
 rw[arm_eval_DictComp]
 refine aO (use:=none) (Q:=Q) hc S hi hb I hu h (fun D C H' s' m oC I' hn q back _ h' sb=>?_) hs
 exact⟨.ref D,H',back pins σ H' s' h' I' sb,rfl,q⟩
end
end L2
namespace L2
open PySem PySem.Spec PyProof.Rows PySem.W
def fT (K:Frg):List V→Hp→VK→Prop:=fun xs H Q=>∃(p:Addr) (es:List (Addr×Str×List V)),xs=[.ref p]∧(SqL K H p (es.map fun e=>V.ref e.1)∨SqT K H p (es.map fun e=>V.ref e.1))∧(∀e∈es,SqT K H e.1 (.str e.2.1::e.2.2))∧(es.map fun e=>e.2.1).Nodup∧es.length < 64 ∧
 ∀(es':List (Addr×Str×List V)) (q:Addr),es'.Perm es→es'.Pairwise (fun x y=>x.2.1.cps.toList < y.2.1.cps.toList)→H q=none→Q (.ref q) (upd H q (.lst (es'.map fun e=>V.ref e.1)))
def fU:List V→Hp→VK→Prop:=fun xs H Q=>∃(p:Addr) (kvs:List (Key×V)) (ss:List Str),xs=[.ref p]∧Rd H p (.dK kvs)∧kvs.map (·.1)=ss.map Sum.inr∧ss.length < 64 ∧
 ∀(ss':List Str) (q:Addr),ss'.Perm ss→sortedS ss'=true→H q=none→Q (.ref q) (upd H q (.lst (ss'.map V.str)))
def LF (K:Frg):List V→Hp→VK→Prop:=fun xs H Q=>eQ K xs H Q∨fT K xs H Q∨fU xs H Q
section
variable {X:Cx}
theorem QY:∀{es:List (Addr×Str×List V)}{its:List Value},Vals (es.map fun e=>V.ref e.1) its→its=es.map fun e=>Value.ref e.1
 | [],_,.nil=>rfl
 | _::_,_,.cons r t=>by rw[QY t];cases r;rfl
theorem QZ:∀{es:List (Addr×Str×List V)},Vals (es.map fun e=>V.ref e.1) (es.map fun e=>Value.ref e.1)
 | []=>.nil
 | _::_=>.cons rfl QZ
theorem WW:BO X (.builtin "sorted") (fT X.K):=by
 intro pins s σ H xs us Q I r h
 obtain⟨p,es,rfl,hp,ht,nd,h64,q⟩:=h
 obtain⟨u,rfl,ru⟩:=F7 r
 cases ru
 obtain⟨its,rv,pl⟩:∃its:List Value,Vals (es.map fun e=>V.ref e.1) its∧(s.heap.IsList p its.toArray∨s.heap.IsTuple p its.toArray):=by
   rcases hp with hp | hp
   · obtain⟨its,rv,pl,_⟩:=I.list hp
     exact⟨its,rv,.inl pl.isList⟩
   · obtain⟨its,rv,pl,_⟩:=I.tuple hp
     exact⟨its,rv,.inr pl⟩
 have ei:=QY rv
 subst ei
 have tn:TupsN s.heap (es.map fun e=>Value.ref e.1) (es.map fun e=>e.2.1):=by
   refine⟨by simp,fun i v nm e1 e2=>?_⟩
   rw[zF] at e1 e2
   cases he:es[i]? with
   | none=>rw[he] at e1;cases e1
   | some e=>
     rw[he] at e1 e2
     cases e1
     cases e2
     obtain⟨js,rj,⟨o,ho,hc,n,hd⟩,_⟩:=I.tuple (ht e (yN he))
     cases rj with
     | cons r0 _=>
       obtain⟨t,rfl⟩:=r0
       exact⟨e.1,o,_,n,t,rfl,ho,hc,hd,by simp⟩
 refine UA pl tn nd (by simpa using h64) fun pm h1 h2=>?_
 simp only[zX] at h1 h2
 obtain⟨e,he⟩:=sortedAll_at s.heap (es.map fun e=>Value.ref e.1) (pm.map fun i=>(es.map fun e=>Value.ref e.1).getD i Value.none).toArray
 have hn:H (s.heap.objs.size+1)=none:=I.hok.fresh (Nat.le_succ _)
 obtain⟨es',he'⟩:∃es':List (Addr×Str×List V),es'=pm.filterMap fun i=>es[i]?:=⟨_,rfl⟩
 have hin:∀i∈pm,i < es.length:=fun i hi=>List.mem_range.mp (h1.mem_iff.mp hi)
 have emap:∀(l:List Nat),(∀i∈l,i < es.length)→(l.filterMap fun i=>es[i]?)=l.attach.map fun i=>es.getD i.1 (0, "", []):=fun l=>by
   intro hl
   induction l with
   | nil=>rfl
   | cons a l ih=>
     have ha:=hl a (by simp)
     rw[List.filterMap_cons,zV ha]
     simp only[List.attach_cons,zI,zD]
     rw[ih fun i hi=>hl i (yV _ hi)]
     simp[yU,zV ha]
 have emap':es'=pm.map fun i=>es.getD i (0, "", []):=by
   rw[he',emap pm hin]
   simp
 have perm:es'.Perm es:=by
   rw[he']
   refine(h1.filterMap _).trans ?_
   rw[show((List.range es.length).filterMap fun i=>es[i]?)=es from ?_]
   apply List.ext_getElem?
   intro i
   have:((List.range es.length).filterMap fun i=>es[i]?)=(List.range es.length).map fun i=>es.getD i (0, "", []):=by
     rw[emap _ fun i hi=>List.mem_range.mp hi]
     simp
   rw[this,zF]
   by_cases hi:i < es.length
   · rw[List.getElem?_range hi]
     simp[hi]
   · rw[List.getElem?_eq_none (by simp;omega),List.getElem?_eq_none (by omega)]
     rfl
 have outs:(pm.map fun i=>(es.map fun e=>Value.ref e.1).getD i Value.none)=es'.map fun e=>Value.ref e.1:=by
   rw[emap',zD]
   apply yM
   intro i hi
   have hi:=hin i hi
   simp[yU,zF,zV hi]
 have lenp:pm.length=es.length:=by have:=h1.length_eq;simpa using this
 have srt:es'.Pairwise (fun x y=>x.2.1.cps.toList < y.2.1.cps.toList):=by
   rw[emap',List.pairwise_map,List.pairwise_iff_getElem]
   intro i j hi hj hij
   have:=h2 i j hij (by omega)
   have g:∀k (hk:k < pm.length),(es.map fun e=>e.2.1).getD (pm.getD k 0) (Str.ofString "")=(es.getD pm[k] (0, "", [])).2.1:=fun k hk=>by
     have hk':=hin pm[k] (List.getElem_mem hk)
     rw[yU (l:=pm),zV hk]
     simp[yU,zF,zV hk']
   rw[g i hi,g j hj] at this
   exact this
 rw[outs] at he ⊢
 refine⟨.ref (s.heap.objs.size+1),_,I.laid (t':=s.toks) (o:=.lst (es'.map fun e=>V.ref e.1)) (fun b o eb=>sortedAll_old eb) (Nat.le_succ _) ?_,rfl,q es' _ perm srt hn⟩
 refine⟨by rw[zX,perm.length_eq];exact zN (xT h64) (by decide),es'.map fun e=>Value.ref e.1,e,QZ,?_⟩
 have he':=he
 simpa [seqObj] using he'
theorem WX (hc:X.calm=true):BO X (.builtin "sorted") fU:=by
 intro pins s σ H xs us Q I r h
 obtain⟨p,kvs,ss,rfl,hp,hk,h64,q⟩:=h
 obtain⟨u,rfl,ru⟩:=F7 r
 cases ru
 obtain⟨z,hd,vs,rel,dd⟩:=LZ I.hok hp
 have hk':vs.map (·.1)=ss.map Sum.inr:=by
   rw[← hk]
   clear hk dd z hp q
   unfold KV at rel
   induction rel with
   | nil=>rfl
   | cons h t ih=>simp[h.1,ih]
 refine UB (I.ok.hd hc) hd dd hk' h64 fun h1 h' tk out e ss' k1 k2 ho hS hperm hsort=>?_
 have I1:Inv X pins σ H { s with heap:=h1,toks:=tk }:=I.kept k1
 have hn:H h1.objs.size=none:=I1.hok.fresh (zR _)
 refine⟨.ref h1.objs.size,_,I1.laid (t':=tk) (o:=.lst (ss'.map V.str)) (h':=h') k2 (zR _) ?_,rfl,q ss' _ hperm hsort hn⟩
 refine⟨by rw[zX,hperm.length_eq];exact zN (xT h64) (by decide),out,e,eO hS,?_⟩
 simpa [seqObj] using ho
theorem WY (hc:X.calm=true):BO X (.builtin "sorted") (LF X.K):=by
 intro pins s σ H xs us Q I r h
 rcases h with h | h | h
 · exact WE pins s σ H xs us Q I r h
 · exact WW pins s σ H xs us Q I r h
 · exact WX hc pins s σ H xs us Q I r h
end
end L2
namespace L2
open PySem PySem.Spec PyProof.Rows
theorem O1:typeLookup (.type "list") "keys"=pure none:=am_miss_of_fast (by decide +kernel)
theorem aP {prog:Program}{w:World}{A:Around}{E:Value→Shared→Prop}{s:Shared}{a:Addr}{o:Obj}{xs:Array Value}{k:Nat}{Q:Option Value→Shared→Prop}
   (hx:s.heap.get? a=some o) (hc:o.cls = .type "list") (hdat:o.data = .seq xs k) (hd:o.dict=none) (hA:A.handled=none)
   (h:∀h' tk,(∀b ob,s.heap.get? b=some ob→h'.get? b=some ob)→Q none { s with heap:=h',toks:=tk }):wpAny (model prog w) A (getAttr? (.ref a) "keys") Q E s:=by
 obtain⟨c,dct,dat,sl⟩:=o
 simp only at hc hdat hd
 subst hc hdat hd
 obtain⟨hp,g,d,tk,os⟩:=s
 have hT:∀tk',(⟨hp,g,d,tk',os⟩:Shared).TypeIs (.ref a) "list" := fun _=>⟨_,hx,rfl⟩
 have f1:=sub_AttributeError
 have f3:=F.slot_list_getattribute.lookup
 have f4:=F.slot_list_getattribute.bind (.ref a)
 have f5:=am_list_getattr_none
 unfold getAttr? getAttrBy? getAttrBy
 repeat (any_goals (first | assumption | exact hT _ | ((with_reducible show wpAny _ _ (call (Value.builtin "list.__getattribute__") _ _) _ _ _);refine call_meets F.slot_list_getattribute (hT _) am_entry_list_getattribute (F.args_list_getattribute_2 _ _) (meets_getattribute_miss_list a xs k sl "keys" _ O1 (by decide +kernel) (by decide +kernel)) ⟨hx,hA,fun h' tk' e hx'=>?_⟩) | wp_step))
 obtain⟨t',u',he⟩:=hx'.there
 show wpAny _ _ (getattributeRaised _ _ _ _ _ _ _) _ _ _;unfold getattributeRaised
 repeat (any_goals (first | assumption | wp_step))
 exact h _ _ hx'.keeps
theorem GW:entryFor table "dict.update.loop"=some Builtin.«dict.update.loop»:=entryFor_of_tree (by kernel_rfl)
theorem CD:plainId "dict.update.loop"=true:=by decide +kernel
section
variable {prog:Program}{w:World}{A:Around}{R:Result→Shared→Prop}
def S7 (h:Heap) (its:Array Value) (prs:List (Key×Value)):Prop:=its.size=prs.length∧∀(j:Nat) (v:Value) (kv:Key×Value),its[j]?=some v→prs[j]?=some kv→∃(a:Addr) (o:Obj) (key:Value) (n:Nat),v=Value.ref a∧h.get? a=some o∧o.cls = .type "tuple" ∧ o.data = .seq #[key,kv.2] n∧LU kv.1 key=true
theorem aQ {D I ax:Addr}{its:Array Value}{prs:List (Key×Value)}(hh:A.handled=none) (hDI:D≠I) (hDx:D≠ax) (hxI:ax≠I):∀(k i:Nat) (kvs:List (Key×Value)) (s:Shared),its.size - i=k→i≤its.size →
   s.heap.IsListIter I ax i→s.heap.IsList ax its→s.heap.DictOf (AK prog w) D kvs→kvs.length+k≤sizeLine→S7 s.heap its prs →
   (∀h' tk,(∀b o,b≠D→b≠I→s.heap.get? b=some o→h'.get? b=some o)→h'.DictOf (AK prog w) D (merged kvs (prs.drop i))→R (.ok (.ret .none)) { s with heap:=h',toks:=tk }) →
   codeAny (model prog w) A (.builtin "dict.update.loop" ⟨[.ref D,.ref I,rawInt i,.none],[]⟩) R s:=by
 have W:=Walks.list (prog:=prog) (w:=w) (A:=A.in1) hh I ax hxI its
 intro k
 induction k with
 | zero=>
   intro i kvs s hk hi st sl hd hz hp hR
   have e:i=its.size:=by omega
   subst e
   refine codeAny_builtin GW ?_
   rw[Around.under_plainId CD _]
   show wpAny _ A.in1 (pyNext (.ref I) >>= _) _ _ s
   refine zZ (W.done s _ _ ⟨st,sl⟩ fun h1 tk1 hk1=>?_)
   show wpAny _ A.in1 (Builtin.Dict.addKeywords D [] >>= _) _ _ _
   refine zZ (zY (zY (hR h1 tk1 (fun b o _ hb e=>hk1 b o (by simpa using hb) e) ?_)))
   rw[hp.1,List.drop_length]
   exact hd.at fun o e=>hk1 D o (by simpa using hDI) e
 | succ k ih=>
   intro i kvs s hk hi st sl hd hz hp hR
   refine codeAny_builtin GW ?_
   rw[Around.under_plainId CD _]
   show wpAny _ A.in1 (pyNext (.ref I) >>= _) _ _ s
   refine zZ (W.item i s _ _ (by omega) ⟨st,sl⟩ fun v h1 tk1 hPv hst1 hk1=>?_)
   have hip:i < prs.length:=by rw[← hp.1];omega
   obtain⟨a,o,key,n,rfl,ho,hc,hdt,hkey⟩:=hp.2 i v prs[i] hPv (zV hip)
   have haI:a≠I:=fun e=>by
     obtain⟨o',ho',hc',_⟩:=st
     rw[e,ho'] at ho
     cases ho
     rw[hc'] at hc
     exact absurd hc (by decide)
   have ho1:h1.get? a=some o:=hk1 a o (by simpa using haI) ho
   have hd1:h1.DictOf (AK prog w) D kvs:=hd.at fun o e=>hk1 D o (by simpa using hDI) e
   refine zZ (wpAny_holding ?_)
   refine zZ (wpAny_tryCatch ?_)
   unfold Builtin.Dict.pairItems
   refine zZ (wpAny_typeOf (T:= "tuple") ⟨o,ho1,hc⟩ ?_)
   rw[if_pos (by decide)]
   refine zZ (wpAny_seqItems ho1 hdt (zY ?_))
   dsimp only[Option.getD_some]
   refine wpAny_holding (wpAny_dictSet_pairs (hsz:=by omega) (show(AK prog w).is prs[i].1 key=true from hkey) hd1 fun h2 hd2 hs2=>?_)
   have keep2:∀b o,b≠D→h1.get? b=some o→h2.get? b=some o:=fun b o hb e=>(hs2.2 b hb).trans e
   refine zY ⟨plainId_quiet CD _,?_⟩
   exact ih (i+1) (stored kvs prs[i].1 prs[i].2) _ (by omega) (by omega) (hst1.1.at fun o e=>keep2 I o (Ne.symm hDI) e) (hst1.2.at fun o e=>keep2 ax o (Ne.symm hDx) e) hd2
     (by have:=stored_length_le kvs prs[i].1 prs[i].2;omega)
     ⟨hp.1,fun j v kv e1 e2=>by
       obtain⟨a,o,key,n,h1',h2',h3',h4',h5'⟩:=hp.2 j v kv e1 e2
       refine⟨a,o,key,n,h1',keep2 a o (fun e=>?_) (hk1 a o (fun e=>?_) h2'),h3',h4',h5'⟩
       · obtain⟨o',_,_,hg,hx,_⟩:=hd
         rw[e,hg] at h2'
         cases h2'
         rw[hx.1] at h3'
         exact absurd h3' (by decide)
       · obtain⟨o',ho',hc',_⟩:=st
         have e:a=I:=by simpa using e
         rw[e,ho'] at h2'
         cases h2'
         rw[hc'] at h3'
         exact absurd h3' (by decide)⟩
     (fun h' tk hk' hd'=>hR h' tk (fun b o h1' h2' e=>hk' b o h1' h2' (keep2 b o h1' (hk1 b o (by simpa using h2') e))) (by
       rw[List.drop_eq_getElem_cons hip]
       exact hd'))
theorem O2 {E:Value→Shared→Prop}{s:Shared}{l:Addr}{o:Obj}{its:Array Value}{n:Nat}{prs:List (Key×Value)}{Q:Value→Shared→Prop}(hh:A.handled=none) (ho:s.heap.get? l=some o) (hc:o.cls = .type "list") (hdt:o.data = .seq its n) (hdd:o.dict=none) (hp:S7 s.heap its prs) (hsz:prs.length≤sizeLine)
   (h:∀h' tk,(∀b o,s.heap.get? b=some o→h'.get? b=some o)→h'.DictOf (AK prog w) s.heap.objs.size (merged [] prs)→Q (.ref s.heap.objs.size) { s with heap:=h',toks:=tk }) :
   wpAny (model prog w) A (call (.type "dict") [.ref l]) Q E s:=by
 refine callType_codes (Q₁:=fun obj s₁=>obj = .ref s.heap.objs.size∧s₁={ s with heap:=s.heap.push { cls:=.type "dict", data:=.dict #[] } }) F.kt_called_dict (F.kt_typeCall_dict_1 _) F.entry_dict_init (kt_code_dict_new _ ⟨rfl,rfl⟩) ?_
 rintro obj s₁ ⟨rfl,rfl⟩
 have hnew:(s.heap.push { cls:=.type "dict", data:=.dict #[] }).DictOf (AK prog w) s.heap.objs.size []:=Heap.DictOf.new s.heap
 have hlt:l < s.heap.objs.size:=zM ho
 have ho':(s.heap.push { cls:=.type "dict", data:=.dict #[] }).get? l=some o:=zW _ ho
 refine⟨hnew.typeIs,F.args_dict_init_2 _ _,?_⟩
 unfold Builtin.«dict.__init__»;refine zZ ?_
 unfold Builtin.Dict.selfAndRest;refine zZ (wpAny_notOrdered_dict hnew.typeIs ?_)
 show wpAny _ _ (pure (s.heap.objs.size,[Value.ref l])) _ _ _
 refine zY ?_
 show wpAny _ _ (Builtin.Dict.updateFrom "dict.__init__" s.heap.objs.size (.ref l) [] .none) _ _ _
 unfold Builtin.Dict.updateFrom
 refine zZ (wpAny_typeOf (T:= "list") ⟨o,ho',hc⟩ ?_)
 rw[if_pos (by decide)]
 refine zZ (aP ho' hc hdt hdd hh fun h1 tk1 hk1=>?_)
 dsimp only[Option.isNone_none]
 rw[if_pos rfl]
 have ho1:h1.get? l=some o:=hk1 _ _ ho'
 have hd1:h1.DictOf (AK prog w) s.heap.objs.size []:=hnew.at fun o e=>hk1 _ _ e
 have hl1:h1.IsList l its:=⟨o,ho1,hc,n,hdt⟩
 have hD1:s.heap.objs.size < h1.objs.size:=by
   obtain⟨_,_,_,hg,_⟩:=hd1
   exact zM hg
 have hl1':l < h1.objs.size:=zM ho1
 refine zZ (wpAny_rule (zZ (wpAny_pyIter_list (s:={ s with heap:=h1,toks:=tk1 }) hl1 ?_)))
 refine zY ⟨plainId_quiet CD _,?_⟩
 have kp:∀b o,h1.get? b=some o→(h1.push { cls:=.type "list_iterator", data:=.fields #[.ref l,.int 0 0] }).get? b=some o:=fun b o e=>zW _ e
 refine aQ (A:=A.in1) (R:=wants (fun r s₂=>r=Value.none∧Q (Value.ref s.heap.objs.size) s₂) E) (I:=h1.objs.size) (ax:=l) (its:=its) (prs:=prs) hh (zC hD1) (Ne.symm (zC hlt)) (zC hl1') its.size 0 [] { s with heap:=h1.push { cls:=.type "list_iterator", data:=.fields #[.ref l,.int 0 0] },toks:=tk1 } (by omega) (xU _) ⟨_,yZ _ rfl,rfl,rfl⟩ (hl1.push _) (hd1.push _) (by rw[hp.1];simpa using hsz)
   ⟨hp.1,fun j v kv e1 e2=>let ⟨a,o,key,n,q1,q2,q3,q4,q5⟩:=hp.2 j v kv e1 e2;⟨a,o,key,n,q1,kp _ _ (hk1 _ _ (zW _ q2)),q3,q4,q5⟩⟩ fun h' tk hk' hd'=>?_
 have hkeep:∀b o,s.heap.get? b=some o→h'.get? b=some o:=fun b o e=>by
   have hb:b < s.heap.objs.size:=zM e
   exact hk' b o (zC hb) (zC (xR hb hD1)) (kp _ _ (hk1 _ _ (zW _ e)))
 exact⟨rfl,h h' tk hkeep hd'⟩
end
def S8 (K:Frg):List V→Hp→VK→Prop:=fun xs H Q=>∃(p:Addr) (es:List (Addr×Key×V)),xs=[.ref p]∧SqL K H p (es.map fun e=>V.ref e.1)∧(∀e∈es,SqT K H e.1 [kV e.2.1,e.2.2])∧es.length≤sizeLine ∧
 ∀q:Addr,H q=none→Q (.ref q) (upd H q (.dK (G6 [] (es.map (·.2)))))
theorem UC {X:Cx}{pins:List (Addr×Obj)}{σ:St}{H:Hp}{s:Shared}(I:Inv X pins σ H s):∀{es:List (Addr×Key×V)}{its:List Value},Vals (es.map fun e=>V.ref e.1) its→(∀e∈es,SqT X.K H e.1 [kV e.2.1,e.2.2]) →
   ∃prs:List (Key×Value),S7 s.heap its.toArray prs∧KV (es.map (·.2)) prs
 | [],_,.nil,_=>⟨[],⟨rfl,fun j v kv e1 e2=>by simp at e2⟩,.nil⟩
 | e::es,_,.cons r t,h=>by
   obtain⟨prs,hp,hk⟩:=UC I t fun e he=>h e (yV _ he)
   obtain⟨js,rj,⟨o,ho,hc,n,hd⟩,_⟩:=I.tuple (h e (by simp))
   cases rj with
   | cons r0 t0=>cases t0 with
     | cons r1 t1=>
       cases t1
       rename_i key val
       cases r
       refine⟨(e.2.1,val)::prs,⟨by have:=hp.1;simpa using this,fun j v kv e1 e2=>?_⟩,.cons ⟨rfl,r1⟩ hk⟩
       cases j with
       | zero=>
         simp at e1 e2
         subst e1 e2
         exact⟨e.1,o,key,n,rfl,ho,hc,hd,J5 (P:=X.prog) (w:=X.w) r0⟩
       | succ j=>exact hp.2 j v kv (by simpa using e1) (by simpa using e2)
theorem UD {X:Cx}(hc:X.calm=true):BO X (.type "dict") (S8 X.K):=by
 intro pins s σ H xs us Q I r h
 obtain⟨p,es,rfl,hp,ht,hz,q⟩:=h
 obtain⟨u,rfl,ru⟩:=F7 r
 cases ru
 obtain⟨its,rv,⟨o,n,ho,hcl,hdd,hdt⟩,_⟩:=I.list hp
 obtain⟨prs,hpr,hk⟩:=UC I rv ht
 have hlen:prs.length=es.length:=by
   have:=Paired.length hk
   simpa using this.symm
 refine O2 (I.ok.hd hc) ho hcl hdt hdd hpr (by rw[hlen];exact hz) fun h' tk keep hd=>?_
 have hn:H s.heap.objs.size=none:=I.hok.fresh (zR _)
 have hl:(G6 [] (es.map (·.2))).length≤sizeLine:=by
   have:=J6 (es.map (·.2)) []
   simp only[List.length_nil,zX] at this
   omega
 refine⟨.ref s.heap.objs.size,_,I.laid (t':=tk) (o:=.dK (G6 [] (es.map (·.2)))) keep (zR _) ?_,rfl,q _ hn⟩
 exact NG hl (beq_eq_false_iff_ne.mpr (Ne.symm (zC I.big))) (hk.merge .nil) hd
end L2
namespace DL
open PySem PySem.Spec L2
def AO (ts:List (Str×PyData)):List (PyData×PyData):=ts.map fun t=>(PyData.str t.1,t.2)
def UE (ts:List (Str×PyData)) (k:Str) (d:PyData):List (Str×PyData):=
 if (ts.any fun t=>decide (t.1=k))=true then ts.map (fun t=>if t.1=k then (t.1,d) else t) else ts++[(k,d)]
def R0 (ts:List (Str×PyData)) (k:Str):List (Str×PyData):=ts.filter fun t=>decide (t.1≠k)
def GX:List (Str×PyData)→Str→Option PyData
 | [],_=>none
 | t::r,k=>if t.1=k then some t.2 else GX r k
section
variable {K:Frg}{H:Hp}{W:Addr→Prop}
theorem BJ {t:Str×PyData}{ts:List (Str×PyData)}{ks:List (Key×V)}:DKV K H W (AO (t::ts)) ks↔∃v r,ks=(Sum.inr t.1,v)::r∧DV K H W t.2 v∧DKV K H W (AO ts) r:=by
 unfold AO
 rw[zI]
 constructor
 · intro h
   unfold DKV at h
   obtain⟨k',v,r,e,e2,h1,h2⟩:=h
   cases k' with
   | inl i=>cases e2
   | inr x=>
     have e3:t.1=x:=by simpa [dI] using e2
     subst e3
     exact⟨v,r,e,h1,h2⟩
 · rintro⟨v,r,e,h1,h2⟩
   unfold DKV
   exact⟨Sum.inr t.1,v,r,e,rfl,h1,h2⟩
theorem DH {ks:List (Key×V)}:DKV K H W (AO []) ks↔ks=[]:=by unfold AO;simp only[List.map_nil];unfold DKV;exact Iff.rfl
theorem O3:∀{ts:List (Str×PyData)}{ks:List (Key×V)},DKV K H W (AO ts) ks→ks.map (·.1)=(ts.map (·.1)).map Sum.inr
 | [],ks,h=>by rw[DH.mp h];rfl
 | t::ts,ks,h=>by obtain⟨v,r,rfl,_,h2⟩:=BJ.mp h;simp[O3 h2]
theorem Z0 {k:Str}:∀{ts:List (Str×PyData)}{ks:List (Key×V)},DKV K H W (AO ts) ks→(ks.any fun kv=>decide (kv.1=Sum.inr k))=ts.any fun t=>decide (t.1=k)
 | [],ks,h=>by rw[DH.mp h];rfl
 | t::ts,ks,h=>by
   obtain⟨v,r,rfl,_,h2⟩:=BJ.mp h
   rw[List.any_cons,List.any_cons,Z0 h2]
   congr 1
   by_cases e:t.1=k
   · rw[decide_eq_true e,decide_eq_true (by rw[e])]
   · rw[decide_eq_false e,decide_eq_false fun q=>e (by injection q)]
theorem O4 {k:Str}{d:PyData}{v:V}(hd:DV K H W d v):∀{ts:List (Str×PyData)}{ks:List (Key×V)},DKV K H W (AO ts) ks →
   DKV K H W (AO (ts.map fun t=>if t.1=k then (t.1,d) else t)) (ks.map fun kv=>if kv.1=Sum.inr k then (kv.1,v) else kv)
 | [],ks,h=>by rw[DH.mp h];exact DH.mpr rfl
 | t::ts,ks,h=>by
   obtain⟨u,r,rfl,h1,h2⟩:=BJ.mp h
   rw[zI,zI]
   by_cases e:t.1=k
   · rw[if_pos e,if_pos (by rw[e])]
     exact BJ.mpr ⟨v,_,rfl,hd,O4 hd h2⟩
   · rw[if_neg e,if_neg fun q=>e (by injection q)]
     exact BJ.mpr ⟨u,_,rfl,h1,O4 hd h2⟩
theorem UF {k:Str}{d:PyData}{v:V}(hd:DV K H W d v):∀{ts:List (Str×PyData)}{ks:List (Key×V)},DKV K H W (AO ts) ks→DKV K H W (AO (ts++[(k,d)])) (ks++[(Sum.inr k,v)])
 | [],ks,h=>by rw[DH.mp h];exact BJ.mpr ⟨v,[],rfl,hd,DH.mpr rfl⟩
 | t::ts,ks,h=>by
   obtain⟨u,r,rfl,h1,h2⟩:=BJ.mp h
   exact BJ.mpr ⟨u,_,rfl,h1,UF hd h2⟩
theorem Z1 {k:Str}{d:PyData}{v:V}{ts:List (Str×PyData)}{ks:List (Key×V)}(h:DKV K H W (AO ts) ks) (hd:DV K H W d v):DKV K H W (AO (UE ts k d)) (ER ks (Sum.inr k) v):=by
 unfold UE ER
 rw[Z0 h]
 by_cases c:(ts.any fun t=>decide (t.1=k))=true
 · rw[if_pos c,if_pos c];exact O4 hd h
 · rw[if_neg c,if_neg c];exact UF hd h
theorem O5 {k:Str}:∀{ts:List (Str×PyData)}{ks:List (Key×V)},DKV K H W (AO ts) ks→DKV K H W (AO (R0 ts k)) (K0 ks (Sum.inr k))
 | [],ks,h=>by rw[DH.mp h];exact DH.mpr rfl
 | t::ts,ks,h=>by
   obtain⟨u,r,rfl,h1,h2⟩:=BJ.mp h
   have ih:=O5 (k:=k) h2
   unfold R0 K0 at ih ⊢
   by_cases e:t.1=k
   · rw[List.filter_cons,List.filter_cons,if_neg (by simp[e]),if_neg (by simp[e])]
     exact ih
   · rw[List.filter_cons,List.filter_cons,if_pos (by simpa using e),if_pos (by simp;exact e)]
     exact BJ.mpr ⟨u,_,rfl,h1,ih⟩
theorem HP {k:Str}:∀{ts:List (Str×PyData)}{ks:List (Key×V)},DKV K H W (AO ts) ks→(∃d v,GX ts k=some d∧F6 ks (Sum.inr k)=some v∧DV K H W d v)∨(GX ts k=none∧F6 ks (Sum.inr k)=none)
 | [],ks,h=>by rw[DH.mp h];exact .inr ⟨rfl,rfl⟩
 | t::ts,ks,h=>by
   obtain⟨u,r,rfl,h1,h2⟩:=BJ.mp h
   by_cases e:t.1=k
   · exact .inl ⟨t.2,u,by simp[GX,e],K1 (by rw[e]),h1⟩
   · have e':¬(Sum.inr t.1:Key)=Sum.inr k:=fun q=>e (by injection q)
     rcases HP (k:=k) h2 with ⟨d,v,a1,a2,a3⟩ | ⟨a1,a2⟩
     · exact .inl ⟨d,v,by simp[GX,e,a1],by rw[HG (p:=(Sum.inr t.1,u)) e'];exact a2,a3⟩
     · exact .inr ⟨by simp[GX,e,a1],by rw[HG (p:=(Sum.inr t.1,u)) e'];exact a2⟩
theorem N4:∀{kvs:List (PyData×PyData)}{ks:List (Key×V)},DKV K H W kvs ks→ks.length=kvs.length
 | [],ks,h=>by unfold DKV at h;subst h;rfl
 | (k,d)::r,ks,h=>by unfold DKV at h;obtain⟨_,_,_,rfl,_,_,h2⟩:=h;simp[N4 h2]
end
section
variable {K:Frg}{M:Own}{Q:DS→Own→Prop}{ρ:List (Option DS)}{H:Hp}{td ty tv:TE}{D:EndsD}
theorem EU (h:DE K td ρ M fun x M1=>DE K ty ρ M1 fun y M2=>∃(a:Addr) (ts:List (Str×PyData)) (k:Str) (d:PyData),x = .loc a∧y = .d (.str k)∧M2 a=some (.d (AO ts))∧GX ts k=some d∧Q (.d d) M2):DE K (nL td ty) ρ M Q:=fun σ H QQ R kk=>
 h σ H _ R fun v H1 x M1 o1 s1 t1 h1=>h1 σ H1 _ (R.step o1 t1) fun u H2 y M2 o2 s2 t2 h2=>by
   obtain⟨a,ts,k,d,rfl,rfl,m,l,q⟩:=h2
   unfold SI at s1
   subst s1
   rw[AT s2]
   obtain⟨ks,e1,e2⟩:=o2 a _ m
   rcases HP (k:=k) e2 with ⟨d',w',a1,a2,a3⟩ | ⟨a1,a2⟩
   · rw[l] at a1
     cases a1
     exact⟨a,w',rfl,.inl ⟨ks,Sum.inr k,.inl e1,rfl,a2.symm⟩,kk _ H2 (.d d) M2 o2 a3 (t1.trans t2) q⟩
   · rw[l] at a1;cases a1
theorem lB (h:DE K ty ρ M fun y M1=>DE K td ρ M1 fun x M2=>∃(a:Addr) (ts:List (Str×PyData)) (k:Str),x = .loc a∧y = .d (.str k)∧M2 a=some (.d (AO ts))∧Q (.d (.bool (GX ts k).isSome)) M2):DE K (tM ty td) ρ M Q:=fun σ H QQ R kk=>
 h σ H _ R fun v H1 x M1 o1 s1 t1 h1=>h1 σ H1 _ (R.step o1 t1) fun u H2 y M2 o2 s2 t2 h2=>by
   obtain⟨a,ts,k,rfl,rfl,m,q⟩:=h2
   unfold SI at s2
   subst s2
   rw[AT s1]
   obtain⟨ks,e1,e2⟩:=o2 a _ m
   refine⟨a,F6 ks (Sum.inr k),rfl,.inl ⟨ks,Sum.inr k,.inl e1,rfl,rfl⟩,kk _ H2 _ M2 o2 ?_ (t1.trans t2) q⟩
   rcases HP (k:=k) e2 with ⟨d',w',a1,a2,a3⟩ | ⟨a1,a2⟩
   · rw[a1,a2];exact AL
   · rw[a1,a2];exact AL
theorem K9 (h:DE K tv ρ M fun z M1=>DE K td ρ M1 fun x M2=>DE K ty ρ M2 fun y M3=>∃(a:Addr) (ts:List (Str×PyData)) (k:Str) (d:PyData),z = .d d∧x = .loc a∧y = .d (.str k)∧M3 a=some (.d (AO ts))∧ts.length < sizeLine∧D.nx ρ (M3.put a (.d (AO (UE ts k d))))):DSt K (nM td ty tv) ρ M D:=fun σ H E R k1 k2 k3 k4=>
 h σ H _ R fun v H1 z M1 o1 s1 t1 h1=>h1 σ H1 _ (R.step o1 t1) fun u H2 x M2 o2 s2 t2 h2=>h2 σ H2 _ (R.step o2 (t1.trans t2)) fun yv H3 y M3 o3 s3 t3 h3=>by
   obtain⟨a,ts,k,d,rfl,rfl,rfl,m,hl,q⟩:=h3
   unfold SI at s2
   subst s2
   rw[AT s3]
   obtain⟨ks,e1,e2⟩:=o3 a _ m
   have hd:DV K H3 M3.W d v:=DV.grow (t2.trans t3).grow s1
   obtain⟨o4,t4⟩:=GB o3 m (Z1 (k:=k) e2 hd)
   have hlen:ks.length < sizeLine:=by rw[N4 e2];unfold AO;rw[zX];exact hl
   have ta:=((t1.trans t2).trans t3).trans t4
   exact⟨a,_,rfl,.inl ⟨ks,Sum.inr k,e1,rfl,hlen,rfl⟩,k1 ρ _ σ _ (R.step o4 ta) ta q⟩
theorem Z2 (h:DE K td ρ M fun x M1=>DE K ty ρ M1 fun y M2=>∃(a:Addr) (ts:List (Str×PyData)) (k:Str),x = .loc a∧y = .d (.str k)∧M2 a=some (.d (AO ts))∧(GX ts k).isSome=true∧D.nx ρ (M2.put a (.d (AO (R0 ts k))))):DSt K (nN td ty) ρ M D:=fun σ H E R k1 k2 k3 k4=>
 h σ H _ R fun v H1 x M1 o1 s1 t1 h1=>h1 σ H1 _ (R.step o1 t1) fun u H2 y M2 o2 s2 t2 h2=>by
   obtain⟨a,ts,k,rfl,rfl,m,l,q⟩:=h2
   unfold SI at s1
   subst s1
   rw[AT s2]
   obtain⟨ks,e1,e2⟩:=o2 a _ m
   obtain⟨o4,t4⟩:=GB o2 m (O5 (k:=k) e2)
   have ta:=(t1.trans t2).trans t4
   refine⟨a,ks,Sum.inr k,rfl,e1,rfl,?_,k1 ρ _ σ _ (R.step o4 ta) ta q⟩
   rcases HP (k:=k) e2 with ⟨d',w',a1,a2,a3⟩ | ⟨a1,a2⟩
   · rw[a2];rfl
   · rw[a1] at l;cases l
theorem lC (h:DE K td ρ M fun x M1=>∃(a:Addr) (ts0:List (Str×PyData)),x = .loc a∧M1 a=some (.d (AO ts0))∧DE K ty ρ M1 fun y M2=>∃(ts:List (Str×PyData)) (k:Str) (d:PyData),y = .d (.str k)∧M2 a=some (.d (AO ts))∧GX ts k=some d∧Q (.d d) (M2.put a (.d (AO (R0 ts k))))):DE K (dB td ty) ρ M Q:=fun σ H QQ R kk=>
 h σ H _ R fun v H1 x M1 o1 s1 t1 h1=>by
   obtain⟨a,ts0,rfl,m0,h1⟩:=h1
   unfold SI at s1
   subst s1
   obtain⟨ks0,e0,_⟩:=o1 a _ m0
   refine⟨a,rfl,.inl ⟨ks0,.inl e0⟩,h1 σ H1 _ (R.step o1 t1) fun u H2 y M2 o2 s2 t2 h2=>?_⟩
   obtain⟨ts,k,d,rfl,m,l,q⟩:=h2
   rw[AT s2]
   obtain⟨ks,e1,e2⟩:=o2 a _ m
   rcases HP (k:=k) e2 with ⟨d',w',a1,a2,a3⟩ | ⟨a1,a2⟩
   · rw[l] at a1
     cases a1
     obtain⟨o4,t4⟩:=GB o2 m (O5 (k:=k) e2)
     exact⟨ks,Sum.inr k,w',e1,rfl,a2,kk _ _ (.d d) _ o4 (DV.grow t4.grow a3) ((t1.trans t2).trans t4) q⟩
   · rw[l] at a1;cases a1
theorem fV {a:Addr}{ts:List (Str×PyData)}(m:M a=some (.d (AO ts))) (h64:ts.length < 64) (q:∀ss:List Str,ss.Perm (ts.map (·.1))→xH ss=true→Q (.d (.list (ss.map .str))) M):DR K (LF K) [.loc a] M Q:=fun H vs QQ oa s k=>by
 obtain⟨v,r,rfl,h1,h2⟩:=s
 cases h2
 unfold SI at h1
 subst h1
 obtain⟨ks,e1,e2⟩:=oa a _ m
 refine .inr (.inr ⟨a,ks,ts.map (·.1),rfl,.inl e1,O3 e2,by rw[zX];exact h64,fun ss' p h3 h4 hp=>?_⟩)
 have g:Grow K M.W M.W H (upd H p (.lst (ss'.map V.str))):=AW _ hp
 refine k _ _ (.d (.list (ss'.map .str))) M (oa.new hp) ?_ ⟨g⟩ (q ss' h3 h4)
 unfold SI DV
 exact⟨p,_,rfl,.inl ⟨fun w=>w (oa.none hp),.inl AG⟩,HI⟩
def JR (t:Str×List PyData):PyData:=.tuple (.str t.1::t.2)
theorem UG {W:Addr→Prop}:∀{ts:List (Str×List PyData)}{vs:List V},DVs K H W (ts.map JR) vs→∃es:List (Addr×Str×List V),vs=es.map (fun e=>V.ref e.1)∧es.map (fun e=>e.2.1)=ts.map (·.1)∧(∀e∈es,SqT K H e.1 (.str e.2.1::e.2.2)) ∧
   es.length=ts.length∧∀(i:Nat) e t,es[i]?=some e→ts[i]?=some t→DV K H W (JR t) (.ref e.1)∧e.2.1=t.1
 | [],vs,h=>by unfold DVs at h;subst h;exact⟨[],rfl,rfl,(fun e he=>by simp at he),rfl,fun i e t h1 h2=>by simp at h1⟩
 | t::ts,vs,h=>by
   rw[zI] at h
   unfold DVs at h
   obtain⟨v,r,rfl,h1,h2⟩:=h
   obtain⟨es,rfl,e2,e3,e4,e5⟩:=UG h2
   have h1':=h1
   unfold JR DV at h1'
   obtain⟨a,us,rfl,hw,hd⟩:=h1'
   unfold DVs at hd
   obtain⟨u,us',rfl,hu,hus⟩:=hd
   unfold DV at hu
   subst hu
   refine⟨(a,t.1,us')::es,rfl,by simp[e2],fun e he=>?_,by simp[e4],fun i e t' h3 h4=>?_⟩
   · rcases yX.mp he with rfl | he
     · exact hw.sq
     · exact e3 e he
   · cases i with
     | zero=>simp at h3 h4;subst h3 h4;exact⟨h1,rfl⟩
     | succ i=>exact e5 i e t' (by simpa using h3) (by simpa using h4)
theorem UH {W:Addr→Prop}:∀{es:List (Addr×Str×List V)}{ts:List (Str×List PyData)},es.length=ts.length→(∀(i:Nat) e t,es[i]?=some e→ts[i]?=some t→DV K H W (JR t) (.ref e.1))→DVs K H W (ts.map JR) (es.map fun e=>V.ref e.1)
 | [],[],_,_=>by simp only[List.map_nil];exact DVs.nil
 | [],_::_,h,_=>by simp at h
 | _::_,[],h,_=>by simp at h
 | e::es,t::ts,h,k=>by
   rw[zI,zI]
   exact DVs.cons (k 0 e t rfl rfl) (UH (by simpa using h) fun i e t h1 h2=>k (i+1) e t (by simpa using h1) (by simpa using h2))
theorem WZ {α β:Type}:∀{as as':List α},as'.Perm as→∀{bs:List β},as.length=bs.length→∃bs':List β,bs'.Perm bs∧(as'.zip bs').Perm (as.zip bs)∧as'.length=bs'.length:=by
 intro as as' h
 induction h with
 | nil=>intro bs hl;exact⟨bs,.refl _,.refl _,hl⟩
 | cons x _ ih=>
   intro bs hl
   cases bs with
   | nil=>simp at hl
   | cons b bs=>
     obtain⟨bs',h1,h2,h3⟩:=ih (bs:=bs) (by simpa using hl)
     exact⟨b::bs',h1.cons b,by rw[List.zip_cons_cons,List.zip_cons_cons];exact h2.cons _,by simp[h3]⟩
 | swap x y l=>
   intro bs hl
   match bs,hl with
   | b1::b2::bs,hl=>exact⟨b2::b1::bs,.swap _ _ _,by simp only[List.zip_cons_cons];exact .swap _ _ _,by simpa using hl⟩
 | trans p1 p2 ih1 ih2=>
   intro bs hl
   obtain⟨b2,h1,h2,h3⟩:=ih2 hl
   obtain⟨b3,g1,g2,g3⟩:=ih1 h3
   exact⟨b3,g1.trans h1,g2.trans h2,g3⟩
theorem HQ {a:Addr}{ts:List (Str×List PyData)}{vs:List V}{QQ:VK}(oa:OA K H M) (hl:SqL K H a vs∨SqT K H a vs) (hd:DVs K H M.W (ts.map JR) vs) (nd:(ts.map (·.1)).Nodup) (h64:ts.length < 64)
   (k:∀(w:V) (H':Hp) (z:DS) (M':Own),OA K H' M'→SI K H' M' z w→Step K M M' H H'→(∃ts':List (Str×List PyData),ts'.Perm ts∧ts'.Pairwise (fun x y=>x.1.cps.toList < y.1.cps.toList)∧z = .d (.list (ts'.map JR))∧M'=M)→QQ w H'):LF K [.ref a] H QQ:=by
 obtain⟨es,rfl,e2,e3,e4,e5⟩:=UG hd
 refine .inr (.inl ⟨a,es,rfl,hl,e3,by rw[e2];exact nd,by rw[e4];exact h64,fun es' p hp hs hn=>?_⟩)
 obtain⟨ts',p1,p2,p3⟩:=WZ hp e4
 have each:∀(i:Nat) e t,es'[i]?=some e→ts'[i]?=some t→DV K H M.W (JR t) (.ref e.1)∧e.2.1=t.1:=fun i e t h1 h2=>by
   have hz:(e,t)∈es.zip ts:=p2.mem_iff.mp (yN (i:=i) (by rw[List.getElem?_zip_eq_some];exact⟨h1,h2⟩))
   obtain⟨j,hj⟩:=List.getElem?_of_mem hz
   rw[List.getElem?_zip_eq_some] at hj
   exact e5 j e t hj.1 hj.2
 have g:Grow K M.W M.W H (upd H p (.lst (es'.map fun e=>V.ref e.1))):=AW _ hn
 refine k _ _ (.d (.list (ts'.map JR))) M (oa.new hn) ?_ ⟨g⟩ ⟨ts',p1,?_,rfl,rfl⟩
 · unfold SI DV
   exact⟨p,_,rfl,.inl ⟨fun w=>w (oa.none hn),.inl AG⟩,(UH p3 fun i e t h1 h2=>(each i e t h1 h2).1).grow g⟩
 · rw[List.pairwise_iff_getElem] at hs ⊢
   intro i j hi hj hij
   have hi':i < es'.length:=by omega
   have hj':j < es'.length:=by omega
   have:=hs i j hi' hj' hij
   rw[(each i es'[i] ts'[i] (zV hi') (zV hi)).2,(each j es'[j] ts'[j] (zV hj') (zV hj)).2] at this
   exact this
theorem fW {ts:List (Str×List PyData)}(nd:(ts.map (·.1)).Nodup) (h64:ts.length < 64) (q:∀ts':List (Str×List PyData),ts'.Perm ts→ts'.Pairwise (fun x y=>x.1.cps.toList < y.1.cps.toList)→Q (.d (.list (ts'.map JR))) M):DR K (LF K) [.d (.list (ts.map JR))] M Q:=fun H vs QQ oa s k=>by
 obtain⟨v,r,rfl,h1,h2⟩:=s
 cases h2
 unfold SI DV at h1
 obtain⟨a,vs,rfl,hl,hd⟩:=h1
 exact HQ oa (.inl hl.sq) hd nd h64 fun w H' z M' o si st ⟨ts',p1,p2,e1,e2⟩=>by subst e1 e2;exact k w H' _ _ o si st (q ts' p1 p2)
theorem aR {a:Addr}{ts:List (Str×List PyData)}(m:M a=some (.l (ts.map JR))) (nd:(ts.map (·.1)).Nodup) (h64:ts.length < 64) (q:∀ts':List (Str×List PyData),ts'.Perm ts→ts'.Pairwise (fun x y=>x.1.cps.toList < y.1.cps.toList)→Q (.d (.list (ts'.map JR))) M):DR K (LF K) [.loc a] M Q:=fun H vs QQ oa s k=>by
 obtain⟨v,r,rfl,h1,h2⟩:=s
 cases h2
 unfold SI at h1
 subst h1
 obtain⟨vs,h0,hd⟩:=oa a _ m
 exact HQ oa (.inl (SqL.of h0)) hd nd h64 fun w H' z M' o si st ⟨ts',p1,p2,e1,e2⟩=>by subst e1 e2;exact k w H' _ _ o si st (q ts' p1 p2)
end
end DL
namespace DL
open PySem PySem.Spec L2
section
variable {X:Cx}{K:Frg}
theorem rM (h:X.K=K) (hc:X.calm=true):BO X (.builtin "sorted") (LF K):=h▸WY hc
theorem uI (h:X.K=K) (hc:X.calm=true):BO X (.type "dict") (S8 K):=h▸UD hc
end
section
variable {K:Frg}{M:Own}{ρ:List (Option DS)}{wi:TI}{g:TG}{H:Hp}
theorem fX {ts:List (Str×PyData)}{k:Str}{d:PyData}(h:k∉ts.map (·.1)):UE ts k d=ts++[(k,d)]:=by
 unfold UE
 rw[if_neg]
 intro e
 obtain⟨t,ht,e⟩:=List.any_eq_true.mp e
 exact h (zL.mpr ⟨t,ht,by simpa using e⟩)
theorem fY {fr:List (Option Nat)}{tt:TT}{tk tv:TE}{T:List Nat}{Q:DS→Own→Prop}(ho:QD g T) (hT:∀i∈T,∀j,fr[i]?≠some (some j))
   (h:DI K wi ρ M fun ds M1=>ds.length < sizeLine∧∃(c:PyData→Bool) (f:PyData→Str) (w:PyData→PyData),((ds.filter c).map f).Nodup ∧
     (∀d∈ds,∀M',DG K g d (M8 fr ρ) M' fun ρ2 M2=>M2=M'∧DT K tt ρ2 M2 fun b M3=>M3=M'∧b=c d∧(c d=true→DE K tk ρ2 M3 fun y M4=>y = .d (.str (f d))∧M4=M'∧DE K tv ρ2 M4 fun z M5=>z = .d (w d)∧M5=M')) ∧
     ∀p,M1 p=none→Q (.loc p) (M1.put p (.d (AO ((ds.filter c).map fun d=>(f d,w d)))))) :
   DE K (WV fr wi g tt tk tv) ρ M Q:=fun σ H QQ R k=>
 h σ H _ R fun J ds H1 M1 o1 t1 wd ⟨hsz,c,f,w,nd,he,hq⟩=>by
   intro A hA
   obtain⟨oA,sA⟩:=eI (kvs:=[]) (ks:=[]) o1 hA (by unfold DKV;rfl)
   have hM:=o1.none hA
   let acc:Nat→List (Str×PyData):=fun i=>((ds.take i).filter c).map fun d=>(f d,w d)
   refine⟨fun i m ys H2=>m=ds.length - i∧i≤ds.length∧H2 A=some (.dK ys)∧OA K H2 (M1.put A (.d (AO (acc i))))∧Step K M1 (M1.put A (.d (AO (acc i)))) H1 H2,⟨_,rfl,xU _,AG,oA,sA⟩,?_⟩
   rintro i m ys H2 ⟨rfl,hi,hys,oa,st⟩
   refine⟨hys,?_⟩
   by_cases hlt:i < ds.length
   · refine .inr ⟨wd.go i H2 _ hlt oa st,fun x H3 y=>?_⟩
     obtain⟨oa3,st3,d,e1,e2⟩:=wd.yld i H2 _ x H3 oa st hlt y
     have Rc:Rel K (M1.put A (.d (AO (acc i)))) (M8 fr ρ) (L2.capt fr σ) H3:=((R.step o1 t1).step oa3 (st.trans st3)).capt
     have ts:(ds.take (i+1)).filter c=(ds.take i).filter c++(if c d then [d] else []):=take_succ_filter c ds i d e1
     refine ho _ _ _ _ (he d (yN e1) _ (L2.capt fr σ) H3 x _ Rc e2 fun ρ3 M3 σ3 H4 R3 st4 ⟨eM,b3⟩ hext=>⟨fun i' v' hv'=>?_,?_⟩)
     · obtain⟨j,f1,f2⟩:=LA hv'
       rw[hext i' fun hm=>hT i' hm j f1]
       exact hv'
     · subst eM
       refine b3 σ3 H4 _ R3 fun b H5 M5 o5 st5 ⟨eM5,eb,h5⟩=>?_
       subst eM5
       have sx:=((st.trans st3).trans st4).trans st5
       cases hb:c d with
       | false=>
         rw[hb] at eb
         subst eb
         rw[if_neg nft]
         obtain⟨ks,q1,q2⟩:=o5 A _ zU
         have ea:acc (i+1)=acc i:=by show(((ds.take (i+1)).filter c).map _)=_;rw[ts,hb];simp[acc]
         refine⟨ks,ds.length - (i+1),by omega,rfl,hlt,q1,?_,?_⟩
         · rw[ea];exact o5
         · rw[ea];exact sx
       | true=>
         rw[hb] at eb
         subst eb
         rw[if_pos rfl]
         refine h5 hb σ3 H5 _ (R3.step o5 st5) fun y H6 z M6 o6 s6 st6 ⟨ez,eM6,h6⟩=>?_
         subst ez eM6
         refine h6 σ3 H6 _ ((R3.step o5 st5).step o6 st6) fun y2 H7 z2 M7 o7 s7 st7 ⟨ez2,eM7⟩=>?_
         subst ez2 eM7
         obtain⟨ks,q1,q2⟩:=o7 A _ zU
         obtain⟨w1,w2⟩:=GB o7 zU (Z1 (k:=f d) q2 s7)
         have hnew:f d∉(acc i).map (·.1):=by
           intro hm
           have:((ds.take (i+1)).filter c).map f=(acc i).map (·.1)++[f d]:=by rw[ts,hb];simp[acc]
           have nd2:(((ds.take (i+1)).filter c).map f).Nodup:=by
             refine nd.sublist ?_
             exact((List.take_sublist _ _).filter _).map _
           rw[this,List.nodup_append] at nd2
           exact nd2.2.2 _ hm _ (by simp) rfl
         have ea:acc (i+1)=UE (acc i) (f d) (w d):=by
           rw[fX hnew]
           show(((ds.take (i+1)).filter c).map _)=_
           rw[ts,hb]
           simp[acc]
         have hlen:ks.length < sizeLine:=by
           rw[N4 q2]
           unfold AO
           rw[zX]
           refine zQ ?_ hsz
           show(((ds.take i).filter c).map _).length≤_
           rw[zX]
           exact zN (yJ _ _) (by rw[List.length_take];omega)
         rw[yI] at w1 w2
         refine⟨ks,Sum.inr (f d),AT s6,q1,hlen,ds.length - (i+1),by omega,rfl,hlt,AG,?_,?_⟩
         · rw[ea];exact w1
         · rw[ea];exact((sx.trans st6).trans st7).trans w2
   · have e:i=ds.length:=by omega
     subst e
     refine .inl ⟨wd.stop H2 _ oa st,k _ H2 (.loc A) _ oa rfl (t1.trans st) ?_⟩
     have:=hq A hM
     have ea:acc ds.length=(ds.filter c).map fun d=>(f d,w d):=by show(((ds.take ds.length).filter c).map _)=_;rw[List.take_length]
     rw[ea]
     exact this
def R5 (t:Str×PyData):PyData:=.tuple [.str t.1,t.2]
theorem R6 {W:Addr→Prop}:∀{ts:List (Str×PyData)}{vs:List V},DVs K H W (ts.map R5) vs→∃es:List (Addr×Key×V),vs=es.map (fun e=>V.ref e.1)∧(∀e∈es,SqT K H e.1 [kV e.2.1,e.2.2])∧DKV K H W (AO ts) (es.map (·.2))
 | [],vs,h=>by unfold DVs at h;subst h;exact⟨[],rfl,(fun e he=>by simp at he),DH.mpr rfl⟩
 | t::ts,vs,h=>by
   rw[zI] at h
   unfold DVs at h
   obtain⟨v,r,rfl,h1,h2⟩:=h
   obtain⟨es,rfl,e3,e4⟩:=R6 h2
   unfold R5 DV at h1
   obtain⟨a,us,rfl,hw,hd⟩:=h1
   unfold DVs at hd
   obtain⟨u,us',rfl,hu,hus⟩:=hd
   unfold DVs at hus
   obtain⟨u2,us2,rfl,hu2,hus2⟩:=hus
   unfold DVs at hus2
   subst hus2
   unfold DV at hu
   subst hu
   refine⟨(a,Sum.inr t.1,u2)::es,rfl,fun e he=>?_,BJ.mpr ⟨u2,_,rfl,hu2,e4⟩⟩
   rcases yX.mp he with rfl | he
   · exact hw.sq
   · exact e3 e he
theorem aS {ts:List (Str×PyData)}{Q:DS→Own→Prop}(nd:(ts.map (·.1)).Nodup) (hl:ts.length≤sizeLine) (q:Q (.d (.dict (AO ts))) M):DR K (S8 K) [.d (.list (ts.map R5))] M Q:=fun H vs QQ oa s k=>by
 obtain⟨v,r,rfl,h1,h2⟩:=s
 cases h2
 unfold SI DV at h1
 obtain⟨a,vs,rfl,hw,hd⟩:=h1
 obtain⟨es,rfl,e3,e4⟩:=R6 hd
 have hk:=O3 e4
 have hlen:es.length=ts.length:=by have:=N4 e4;unfold AO at this;simpa using this
 refine⟨a,es,rfl,hw.sq,e3,by rw[hlen];exact hl,fun p hp=>?_⟩
 have nd2:((es.map (·.2)).map (·.1)).Nodup:=by
   rw[hk]
   unfold List.Nodup
   rw[List.pairwise_map]
   exact nd.imp fun {a b} q e=>q (by injection e)
 rw[MB _ [] (by simpa using nd2),List.nil_append]
 have gg:Grow K M.W M.W H (upd H p (.dK (es.map (·.2)))):=AW _ hp
 refine k _ _ (.d (.dict (AO ts))) M (oa.new hp) ?_ ⟨gg⟩ q
 unfold SI DV
 exact⟨p,_,rfl,fun w=>w (oa.none hp),.inl AG,e4.grow gg⟩
theorem fZ {D:EndsD}{i j:Nat}{ta:TA}(h:DA K ta ρ M fun xs M1=>∃x y,xs=[x,y]∧D.nx ((ρ.set i (some x)).set j (some y)) M1):DSt K (t7 i j ta) ρ M D:=fun σ H E R k1 _ _ _=>
 h σ H _ R fun vs H1 xs M1 o1 s1 t1 h1=>by
   obtain⟨x,y,rfl,q⟩:=h1
   obtain⟨v,r,rfl,sx,s2⟩:=s1
   obtain⟨w,r',rfl,sy,s3⟩:=s2
   cases s3
   exact⟨v,w,rfl,k1 _ M1 _ H1 (((R.step o1 t1).set sx i).set sy j) t1 q⟩
end
end DL
namespace DL
open PySem PySem.Spec L2
inductive Deed where
 | put (x:Str) (p k:Int) | take (x:Str) | move (x:Str) (p:Int) | count (x:Str) (k:Int) | name (x y:Str) | split (x y:Str) (p k:Int) | join (x y:Str)
def Deed.d:Deed→PyData
 | .put x p k=>.tuple [.str (Str.ofString "put"),.str x,.int p,.int k]
 | .take x=>.tuple [.str (Str.ofString "take"),.str x]
 | .move x p=>.tuple [.str (Str.ofString "move"),.str x,.int p]
 | .count x k=>.tuple [.str (Str.ofString "count"),.str x,.int k]
 | .name x y=>.tuple [.str (Str.ofString "name"),.str x,.str y]
 | .split x y p k=>.tuple [.str (Str.ofString "split"),.str x,.str y,.int p,.int k]
 | .join x y=>.tuple [.str (Str.ofString "join"),.str x,.str y]
def Deed.names:Deed→List Str
 | .put x _ _=>[x] | .take x=>[x] | .move x _=>[x] | .count x _=>[x] | .name x y=>[x,y] | .split x y _ _=>[x,y] | .join x y=>[x,y]
def Deed.ok (D:Deed):Prop:=∀x∈D.names,B8 x
def CY:List (Str×Str):=[("put", "npk"),("take", "n"),("move", "np"),("count", "nk"),("name", "nn"),("split", "nnpk"),("join", "nn")]
def KA:PyData→PyData | .str z=>U3 (CY.lookup z) | _=>.none
def UI (z:Str):Bool:=z == "name" || z == "split" || z == "join"
def O6:PyData→PyData | .tuple (.str w::r)=>.tuple (r.take (if UI w then 2 else 1)) | d=>d
theorem g9 {w f:Str}(h:CY.lookup w=some f):(w = "put" ∧ f = "npk")∨(w = "take" ∧ f = "n")∨(w = "move" ∧ f = "np")∨(w = "count" ∧ f = "nk")∨(w = "name" ∧ f = "nn")∨(w = "split" ∧ f = "nnpk")∨(w = "join" ∧ f = "nn"):=by
 unfold CY at h
 simp only[List.lookup_cons,List.lookup_nil] at h
 split at h
 · rename_i e;exact .inl ⟨eq_of_beq e,by injection h with h;exact h.symm⟩
 split at h
 · rename_i e;exact .inr (.inl ⟨eq_of_beq e,by injection h with h;exact h.symm⟩)
 split at h
 · rename_i e;exact .inr (.inr (.inl ⟨eq_of_beq e,by injection h with h;exact h.symm⟩))
 split at h
 · rename_i e;exact .inr (.inr (.inr (.inl ⟨eq_of_beq e,by injection h with h;exact h.symm⟩)))
 split at h
 · rename_i e;exact .inr (.inr (.inr (.inr (.inl ⟨eq_of_beq e,by injection h with h;exact h.symm⟩))))
 split at h
 · rename_i e;exact .inr (.inr (.inr (.inr (.inr (.inl ⟨eq_of_beq e,by injection h with h;exact h.symm⟩)))))
 split at h
 · rename_i e;exact .inr (.inr (.inr (.inr (.inr (.inr ⟨eq_of_beq e,by injection h with h;exact h.symm⟩)))))
 cases h
theorem JS {w f:Str}(h:CY.lookup w=some f):f.cps.all (· < 128)=true∧f.cps.size≤4∧Txt.startswith f (Str.ofString "nn")=UI w∧(UI w=true→2≤f.cps.size∧f.cps[0]?=some 110∧f.cps[1]?=some 110)∧1≤f.cps.size:=by
 rcases g9 h with ⟨rfl,rfl⟩ | ⟨rfl,rfl⟩ | ⟨rfl,rfl⟩ | ⟨rfl,rfl⟩ | ⟨rfl,rfl⟩ | ⟨rfl,rfl⟩ | ⟨rfl,rfl⟩ <;> decide +kernel
def gA (d:PyData):Prop:=∃w f r,d = .tuple (.str w::r)∧CY.lookup w=some f
theorem gB (D:Deed):gA D.d:=by cases D <;> exact⟨_,_,_,rfl,rfl⟩
theorem gC (D:Deed):O6 D.d = .tuple (D.names.map .str):=by cases D <;> rfl
def X0 (d:PyData):Prop:=∃D:Deed,d=D.d∧D.ok
def FV:FSp:=fn1 (fun _=>True) KA
def GI:FSp:=fn1 gA O6
def B5 (o:MO):Prop:=∃a v:Int,o = .l [.int a,.int v]
def DQ:FSp:=⟨fun xs M=>∃c:Int,xs=[.d (.int c)],fun xs M y M'=>∃p o,M p=none∧B5 o∧y = .loc p∧M'=M.put p o⟩
def B6:FSp:=⟨fun xs M=>∃p size o,xs=[.loc p,.d (.int size)]∧M p=some o∧B5 o∧0 < size∧size < 1073741824,
 fun xs M y M'=>∀p size,xs=[.loc p,.d (.int size)]→∃v o,y = .d (.int v)∧0≤v∧v < size∧B5 o∧M'=M.put p o⟩
theorem AV {p:Addr}{size:Int}{o:MO}{M:Own}{Q:DS→Own→Prop}(m:M p=some o) (ho:B5 o) (h0:0 < size) (h1:size < 1073741824) (q:∀v o',0≤v→v < size→B5 o'→Q (.d (.int v)) (M.put p o')) :
   [DS.loc p,.d (.int size)].length=2∧B6.pre [.loc p,.d (.int size)] M∧∀x M',B6.post [.loc p,.d (.int size)] M x M'→Q x M':=
 ⟨rfl,⟨p,size,o,rfl,m,ho,h0,h1⟩,fun x M' h=>by obtain⟨v,o',rfl,h2,h3,h4,rfl⟩:=h p size rfl;exact q v o' h2 h3 h4⟩
def MQ:List Str:=["take", "name", "join"]
theorem LG {z:Str}(h:z∈MQ):z.cps.toList=[116,97,107,101]∨z.cps.toList=[110,97,109,101]∨z.cps.toList=[106,111,105,110]:=by
 simp only[MQ,yX,xX,or_false] at h
 rcases h with rfl | rfl | rfl
 · exact .inl (by decide +kernel)
 · exact .inr (.inl (by decide +kernel))
 · exact .inr (.inr (by decide +kernel))
def nxL (a:Nat):Nat:=if a=122 then 97 else a+1
def Run (l:List Nat):Prop:=∀i a b,l[i]?=some a→l[i+1]?=some b→b=nxL a
theorem Run.drop {l:List Nat}(h:Run l) (n:Nat):Run (l.drop n):=fun i a b h1 h2=>by
 rw[List.getElem?_drop] at h1 h2
 exact h (n+i) a b h1 (by rw[← Nat.add_assoc] at h2;exact h2)
theorem Run.take {l:List Nat}(h:Run l) (n:Nat):Run (l.take n):=fun i a b h1 h2=>by
 rw[List.getElem?_take] at h1 h2
 split at h1
 · split at h2
   · exact h i a b h1 h2
   · cases h2
 · cases h1
theorem lD {z:Str}{n c:Nat}(h:z.cps.toList=List.replicate n c):z∉MQ:=fun hb=>by
 have key:∀a∈z.cps.toList,a=c:=fun a ha=>by rw[h] at ha;exact List.eq_of_mem_replicate ha
 rcases LG hb with e | e | e
 · rw[e] at key
   have h1:=key 116 (by simp);have h2:=key 97 (by simp);omega
 · rw[e] at key
   have h1:=key 110 (by simp);have h2:=key 97 (by simp);omega
 · rw[e] at key
   have h1:=key 106 (by simp);have h2:=key 111 (by simp);omega
theorem lE {z:Str}{c:Nat}{m:List Nat}(h:z.cps.toList=c::m) (hr:Run m):z∉MQ:=fun hb=>by
 rcases LG hb with e | e | e
 · rw[e] at h;injection h with _ h;subst h
   exact absurd (hr 0 97 107 rfl rfl) (by decide)
 · rw[e] at h;injection h with _ h;subst h
   exact absurd (hr 0 97 109 rfl rfl) (by decide)
 · rw[e] at h;injection h with _ h;subst h
   exact absurd (hr 0 111 105 rfl rfl) (by decide)
theorem lF {z:Str}{c:Nat}{m:List Nat}(h:z.cps.toList=m++[c]) (hr:Run m):z∉MQ:=fun hb=>by
 have hm:m=z.cps.toList.dropLast:=by rw[h];simp
 rcases LG hb with e | e | e
 · rw[e] at hm;subst hm
   exact absurd (hr 0 116 97 rfl rfl) (by decide)
 · rw[e] at hm;subst hm
   exact absurd (hr 0 110 97 rfl rfl) (by decide)
 · rw[e] at hm;subst hm
   exact absurd (hr 0 106 111 rfl rfl) (by decide)
def uJ (l:List Nat):Bool:=(List.range l.length).all fun i=>match l[i]?,l[i+1]? with | some a,some b=>b==nxL a | _,_=>true
theorem rN {l:List Nat}(h:uJ l=true):Run l:=fun i a b h1 h2=>by
 have hi:i < l.length:=(yT.mp h1).1
 have:=List.all_eq_true.mp h i (List.mem_range.mpr hi)
 rw[h1,h2] at this
 exact eq_of_beq this
theorem gD:∀t,t < 26→uJ ((Str.ofString "abcdefghijklmnopqrstuvwxyz").cps.toList.drop t++(Str.ofString "abcdefghijklmnopqrstuvwxyz").cps.toList.take t)=true:=by decide +kernel
def CN:FSp:=⟨fun xs M=>∃p n o,xs=[.loc p,.d (.int n)]∧M p=some o∧B5 o∧0≤n∧n≤26,
 fun xs M y M'=>∀p n,xs=[.loc p,.d (.int n)]→∃(ys:List Str) (o:MO),y = .d (.list (ys.map .str))∧(ys.length:Int)=n∧(∀z∈ys,B8 z)∧(∀z∈ys,z∉MQ)∧ys.Nodup∧B5 o∧M'=M.put p o⟩
theorem X1 {p:Addr}{n:Int}{o:MO}{M:Own}{Q:DS→Own→Prop}(m:M p=some o) (ho:B5 o) (h0:0≤n) (h1:n≤26) (q:∀(ys:List Str) o',(ys.length:Int)=n→(∀z∈ys,B8 z)→(∀z∈ys,z∉MQ)→ys.Nodup→B5 o'→Q (.d (.list (ys.map .str))) (M.put p o')) :
   [DS.loc p,.d (.int n)].length=2∧CN.pre [.loc p,.d (.int n)] M∧∀x M',CN.post [.loc p,.d (.int n)] M x M'→Q x M':=
 ⟨rfl,⟨p,n,o,rfl,m,ho,h0,h1⟩,fun x M' h=>by obtain⟨v,o',rfl,h2,h3,h4,h5,h6,rfl⟩:=h p n rfl;exact q v o' h2 h3 h4 h5 h6⟩
theorem aT {c:Int}{M:Own}{Q:DS→Own→Prop}(q:∀p o,M p=none→B5 o→Q (.loc p) (M.put p o)):[DS.d (.int c)].length=1∧DQ.pre [.d (.int c)] M∧∀x M',DQ.post [.d (.int c)] M x M'→Q x M':=
 ⟨rfl,⟨c,rfl⟩,fun x M' h=>by obtain⟨p,o,h1,h2,rfl,rfl⟩:=h;exact q p o h1 h2⟩
theorem BP {z:Str}(h:B8 z):zH (.str z)=true:=D0 (JO h) (by simp[PyData.depth])
end DL
namespace DL
open PySem PySem.Spec L2
def Deed.word:Deed→Str
 | .put .. => "put" | .take .. => "take" | .move .. => "move" | .count .. => "count" | .name .. => "name" | .split .. => "split" | .join .. => "join"
def Deed.fst:Deed→Str
 | .put x _ _=>x | .take x=>x | .move x _=>x | .count x _=>x | .name x _=>x | .split x _ _ _=>x | .join x _=>x
def Deed.rest:Deed→List PyData
 | .put _ p k=>[.int p,.int k] | .take _=>[] | .move _ p=>[.int p] | .count _ k=>[.int k] | .name _ y=>[.str y] | .split _ y p k=>[.str y,.int p,.int k] | .join _ y=>[.str y]
def Deed.form:Deed→Str
 | .put .. => "npk" | .take .. => "n" | .move .. => "np" | .count .. => "nk" | .name .. => "nn" | .split .. => "nnpk" | .join .. => "nn"
theorem Deed.d_eq (D:Deed):D.d = .tuple (.str D.word::.str D.fst::D.rest):=by cases D <;> rfl
theorem Deed.word_ok (D:Deed):zH (.str D.word)=true:=by cases D <;> (simp only[Deed.word];decide +kernel)
theorem Deed.fst_ok {D:Deed}(h:D.ok):B8 D.fst:=by cases D <;> exact h _ List.mem_cons_self
theorem N5 (a b:Str):PyData.eqv (.str a) (.str b)=(a==b):=by simp[PyData.eqv]
theorem Z3 {ys:List Str}{v:Int}(h0:0≤v) (h1:v < ys.length):∃y,atI (ys.map PyData.str) v=some (.str y)∧y∈ys:=by
 obtain⟨n,rfl⟩:∃n:Nat,v=(n:Int):=⟨v.toNat,by omega⟩
 have hn:n < ys.length:=by omega
 exact⟨ys[n],AD (by rw[zF,zV hn];rfl),List.getElem_mem hn⟩
end DL
namespace DL
open PySem PySem.Spec L2
def nmA (R:Str):PyData→PyData
 | .int i=>match atI R.cps.toList (i/8) with | some c=>.str (HE ⟨#[c]⟩ (1+i % 8)) | none=>.none
 | d=>d
def nmB (R t:Str):PyData→PyData
 | .int i=>match atI R.cps.toList i with | some c=>.str (⟨#[c]⟩++t) | none=>.none
 | d=>d
def nmC (R t:Str):PyData→PyData
 | .int i=>match atI R.cps.toList i with | some c=>.str (t++⟨#[c]⟩) | none=>.none
 | d=>d
theorem S9 {R:Str}{i:Int}{c:Nat}(h:atI R.cps.toList (i/8)=some c):nmA R (.int i) = .str (HE ⟨#[c]⟩ (1+i % 8)):=by simp only[nmA,h]
theorem SA {R t:Str}{i:Int}{c:Nat}(h:atI R.cps.toList i=some c):nmB R t (.int i) = .str (⟨#[c]⟩++t):=by simp only[nmB,h]
theorem SB {R t:Str}{i:Int}{c:Nat}(h:atI R.cps.toList i=some c):nmC R t (.int i) = .str (t++⟨#[c]⟩):=by simp only[nmC,h]
end DL
namespace DL
open PySem PySem.Spec L2
def UJ:FSp:=⟨fun xs M=>∃ns:List Int,xs=[.d (.list (ns.map .int))]∧ns.length≤63∧∀i∈ns,xL i≤2 ^ 20,fun xs M y M'=>y = .d (.bool true)⟩
end DL
namespace DL
open PySem PySem.Spec L2
theorem O7 {R:List Nat}(h:R.Nodup) {i j:Nat}{c:Nat}(h1:atI R (i:Int)=some c) (h2:atI R (j:Int)=some c) (hi:i < R.length) (hj:j < R.length):i=j:=by
 have e1:atI R (i:Int)=some R[i]:=AD (zV hi)
 have e2:atI R (j:Int)=some R[j]:=AD (zV hj)
 rw[e1] at h1
 rw[e2] at h2
 have:R[i]=R[j]:=by rw[Option.some.inj h1,Option.some.inj h2]
 exact(List.getElem_inj h).mp this
theorem nodup_range {N:Nat}{f:Nat→Str}(h:∀i j,i < N→j < N→f i=f j→i=j):((List.range N).map f).Nodup:=by
 unfold List.Nodup
 rw[List.pairwise_map]
 exact(List.nodup_range (n:=N)).imp_of_mem fun {a b} ha hb hab e=>hab (h a b (List.mem_range.mp ha) (List.mem_range.mp hb) e)
theorem aU (t:Nat):((Str.ofString "abcdefghijklmnopqrstuvwxyz").cps.toList.drop t++(Str.ofString "abcdefghijklmnopqrstuvwxyz").cps.toList.take t).Nodup:=by
 have h:((Str.ofString "abcdefghijklmnopqrstuvwxyz").cps.toList.drop t++(Str.ofString "abcdefghijklmnopqrstuvwxyz").cps.toList.take t).Perm (Str.ofString "abcdefghijklmnopqrstuvwxyz").cps.toList:=by
   refine List.perm_append_comm.trans ?_
   rw[List.take_append_drop]
 exact h.nodup_iff.mpr WL
theorem gE {c d:Nat}{t:Str}(h:(⟨#[c]⟩:Str)++t=⟨#[d]⟩++t):c=d:=by
 have:=congrArg (fun s:Str=>s.cps.toList) h
 simp only[AN] at this
 have:=List.append_cancel_right this
 simpa using this
theorem gF {c d:Nat}{t:Str}(h:t++(⟨#[c]⟩:Str)=t++⟨#[d]⟩):c=d:=by
 have:=congrArg (fun s:Str=>s.cps.toList) h
 simp only[AN] at this
 have:=List.append_cancel_left this
 simpa using this
theorem lG {c d:Nat}{m n:Int}(hm:1≤m) (hn:1≤n) (h:HE ⟨#[c]⟩ m=HE ⟨#[d]⟩ n):c=d∧m=n:=by
 have:=congrArg (fun s:Str=>s.cps.toList) h
 simp only[S6 hm,S6 hn] at this
 have hl:=congrArg List.length this
 rw[List.length_replicate,List.length_replicate] at hl
 have hmn:m=n:=by omega
 refine⟨?_,hmn⟩
 subst hmn
 have hc:c∈List.replicate m.toNat d:=by rw[← this];exact List.mem_replicate.mpr ⟨by omega,rfl⟩
 exact List.eq_of_mem_replicate hc
end DL
namespace DL
open PySem PySem.Spec L2
def KB:PyData→PyData→Bool
 | .str s,p=>if s == "n" then BZ p else if s == "p" then GE p else HL p
 | _,p=>HL p
def X2:FSp:=fn2 (fun a b=>∃c:Nat,a = .str ⟨#[c]⟩∧c < 128∧okD b) fun a b=>.bool (KB a b)
def GJ (f:Str) (r:List PyData):Bool:=((AI f).zip r).all fun p=>KB p.1 p.2
def AU:List PyData→Bool
 | .str w::r=>match CY.lookup w with
   | some f=>(r.length==f.cps.size)&&GJ f r&&(!UI w||!PyData.eqv (r.getD 0 .none) (r.getD 1 .none))
   | none=>false
 | _=>false
def N6:PyData→Bool | .tuple ds=>AU ds | _=>false
def okP:PyData→Prop | .tuple ds=>ds.length≤5000∧∀d∈ds,okD d | _=>True
def FW:FSp:=fn1 okP fun d=>.bool (N6 d)
def uK:PyData→PyData | .tuple [a,b]=>.bool (KB a b) | d=>d
theorem gG (f:Str) (r:List PyData):((IZ (AI f) r).filter fun _=>true).map uK=(((AI f).zip r).map fun p=>KB p.1 p.2).map .bool:=by
 rw[flt]
 unfold IZ
 rw[zD,zD];rfl
theorem gH {f:Str}{a b:PyData}{r:List PyData}(h0:f.cps[0]?=some 110) (h1:f.cps[1]?=some 110) (h:GJ f (a::b::r)=true):BZ a=true∧BZ b=true:=by
 unfold GJ at h
 rw[List.all_eq_true] at h
 have e0:((AI f).zip (a::b::r))[0]?=some (.str ⟨#[110]⟩,a):=by
   rw[List.getElem?_zip_eq_some]
   exact⟨by unfold AI;rw[zF];simp[h0],rfl⟩
 have e1:((AI f).zip (a::b::r))[1]?=some (.str ⟨#[110]⟩,b):=by
   rw[List.getElem?_zip_eq_some]
   exact⟨by unfold AI;rw[zF];simp[h1],rfl⟩
 have q:∀d,KB (.str ⟨#[110]⟩) d=BZ d:=fun d=>rfl
 exact⟨by rw[← q];exact h _ (yN e0),by rw[← q];exact h _ (yN e1)⟩
def UK:PyData→PyData
 | .tuple (.str w::r)=>if w == "put" then r.getD 0 .none else if w == "name" || w == "split" then r.getD 1 .none else .none
 | _=>.none
def LH:FSp:=fn1 X0 UK
def Deed.isPut:Deed→Bool | .put ..=>true | _=>false
def Deed.isNS:Deed→Bool | .name ..=>true | .split ..=>true | _=>false
theorem gI (D:Deed):(D.word==Str.ofString "put")=D.isPut:=by cases D <;> (simp only[Deed.word,Deed.isPut];decide +kernel)
theorem vK (w a b:Str):decide (w∈[a,b])=(w==a||w==b):=by rw[Bool.eq_iff_iff];simp
theorem lH (D:Deed):(D.word==Str.ofString "name" || D.word==Str.ofString "split")=D.isNS:=by cases D <;> (simp only[Deed.word,Deed.isNS];decide +kernel)
theorem lI {D:Deed}(h:D.ok):zH (UK D.d)=true:=by
 cases D with
 | put x p k=>exact BP (h x (by simp[Deed.names]))
 | name x y=>exact BP (h y (by simp[Deed.names]))
 | split x y p k=>exact BP (h y (by simp[Deed.names]))
 | _=>rfl
end DL
namespace DL
open PySem PySem.Spec L2
def pcD (p c:Int):PyData:=.tuple [.int p,.int c]
def tsD (ts:List Th):List (Str×PyData):=ts.map fun t=>(t.1,pcD t.2.1 t.2.2)
def B3 (ts:List Th) (k:Str) (p c:Int):List Th:=if (ts.any fun t=>decide (t.1=k))=true then ts.map (fun t=>if t.1=k then (t.1,p,c) else t) else ts++[(k,p,c)]
def AS (ts:List Th) (k:Str):List Th:=ts.filter fun t=>decide (t.1≠k)
def AB:List Th→Str→Option (Int×Int)
 | [],_=>none
 | t::r,k=>if t.1=k then some t.2 else AB r k
theorem KC (ts:List Th) (k:Str) (p c:Int):UE (tsD ts) k (pcD p c)=tsD (B3 ts k p c):=by
 unfold UE B3 tsD
 have e:((ts.map fun t=>(t.1,pcD t.2.1 t.2.2)).any fun t=>decide (t.1=k))=ts.any fun t=>decide (t.1=k):=by rw[List.any_map];rfl
 rw[e]
 split
 · rw[zD,zD]
   apply yM
   intro t _
   show(if t.1=k then (t.1,pcD p c) else _)=_
   simp only[Function.comp]
   split <;> rfl
 · simp
theorem O8 (ts:List Th) (k:Str):R0 (tsD ts) k=tsD (AS ts k):=by
 unfold R0 AS tsD
 rw[xV];rfl
theorem BK (k:Str):∀ts:List Th,GX (tsD ts) k=(AB ts k).map fun v=>pcD v.1 v.2
 | []=>rfl
 | t::r=>by
   have ih:=BK k r
   unfold tsD at ih ⊢
   simp only[zI,GX,AB]
   split
   · rfl
   · exact ih
theorem CH {k:Str}:∀{ts:List Th}{v:Int×Int},AB ts k=some v→(k,v)∈ts
 | t::r,v,h=>by
   unfold AB at h
   split at h
   · rename_i e;cases h;subst e;exact List.mem_cons_self
   · exact yV _ (CH h)
theorem CF {k:Str}:∀{ts:List Th},AB ts k=none↔k∉ts.map (·.1)
 | []=>by simp[AB]
 | t::r=>by
   unfold AB
   rw[zI,yX]
   split
   · rename_i e;simp[e]
   · rename_i e
     rw[CF]
     constructor
     · intro h q;rcases q with q | q;exact e q.symm;exact h q
     · intro h q;exact h (.inr q)
theorem GK {k:Str}{ts:List Th}:(AB ts k).isSome=decide (k∈ts.map (·.1)):=by
 cases h:AB ts k with
 | none=>rw[decide_eq_false (CF.mp h)];rfl
 | some v=>rw[decide_eq_true (zL.mpr ⟨_,CH h,rfl⟩)];rfl
theorem CO {t:Th}:∀{ts:List Th},(ts.map (·.1)).Nodup→t∈ts→AB ts t.1=some t.2
 | u::r,nd,h=>by
   unfold AB
   rcases yX.mp h with rfl | h
   · rw[if_pos rfl]
   · rw[zI,xW] at nd
     rw[if_neg fun e=>nd.1 (by rw[e];exact zL.mpr ⟨t,h,rfl⟩)]
     exact CO nd.2 h
def X3 (t:Th):List Th→List Th
 | []=>[t]
 | u::r=>if sl t.1 u.1=true then t::u::r else u::X3 t r
def AJ:List Th→List Th
 | []=>[]
 | t::r=>X3 t (AJ r)
theorem LI (t:Th):∀ts:List Th,(X3 t ts).Perm (t::ts)
 | []=>.refl _
 | u::r=>by
   unfold X3
   split
   · exact .refl _
   · exact((LI t r).cons u).trans (.swap _ _ _)
theorem AR:∀ts:List Th,(AJ ts).Perm ts
 | []=>.refl _
 | t::r=>(LI t _).trans ((AR r).cons t)
theorem UL (t:Th):∀{ts:List Th},Ris (ts.map (·.1))→t.1∉ts.map (·.1)→Ris ((X3 t ts).map (·.1))
 | [],_,_=>by simp[X3,Ris]
 | u::r,h,hn=>by
   unfold X3
   unfold Ris at h
   rw[zI,List.pairwise_cons] at h
   rw[zI,yX] at hn
   split
   · rename_i e
     unfold Ris
     rw[zI,zI,List.pairwise_cons,List.pairwise_cons]
     refine⟨fun x hx=>?_,h⟩
     rcases yX.mp hx with rfl | hx
     · exact e
     · exact NQ e (h.1 x hx)
   · rename_i e
     have e':sl t.1 u.1=false:=by simpa using e
     have hlt:sl u.1 t.1=true:=by
       cases hq:sl u.1 t.1 with
       | true=>rfl
       | false=>exact absurd (NR e' hq) fun q=>hn (.inl q)
     unfold Ris
     rw[zI,List.pairwise_cons]
     refine⟨fun x hx=>?_,UL t h.2 fun q=>hn (.inr q)⟩
     have:=((LI t r).map (·.1)).mem_iff.mp hx
     rcases yX.mp this with rfl | hx
     · exact hlt
     · exact h.1 x hx
theorem DU:∀{ts:List Th},(ts.map (·.1)).Nodup→Ris ((AJ ts).map (·.1))
 | [],_=>List.Pairwise.nil
 | t::r,nd=>by
   rw[zI,xW] at nd
   exact UL t (DU nd.2) fun q=>nd.1 (((AR r).map (·.1)).mem_iff.mp q)
theorem UM:∀{as bs:List Th},as.Perm bs→Ris (as.map (·.1))→Ris (bs.map (·.1))→as=bs
 | [],bs,p,_,_=>(List.nil_perm.mp p).symm
 | a::as,[],p,_,_=>by have:=p.length_eq;simp at this
 | a::as,b::bs,p,h1,h2=>by
   unfold Ris at h1 h2
   rw[zI,List.pairwise_cons] at h1 h2
   have e:a=b:=by
     rcases yX.mp (p.mem_iff.mp (List.mem_cons_self (a:=a) (l:=as))) with e | e
     · exact e
     · rcases yX.mp (p.mem_iff.mpr (List.mem_cons_self (a:=b) (l:=bs))) with e' | e'
       · exact e'.symm
       · have x1:=h1.1 b.1 (zL.mpr ⟨b,e',rfl⟩)
         have x2:=h2.1 a.1 (zL.mpr ⟨a,e,rfl⟩)
         rw[TY x1] at x2;cases x2
   subst e
   rw[UM (List.Perm.cons_inv p) h1.2 h2.2]
theorem FX {as bs:List Th}(p:as.Perm bs) (h:Ris (as.map (·.1))):as=AJ bs:=
 UM (p.trans (AR bs).symm) h (DU ((p.map (·.1)).nodup_iff.mp h.nodup))
def BG (ts:List Th) (x:Str) (k:Int):List Th:=match AB ts x with | some v=>B3 ts x v.1 (v.2+k) | none=>ts
def doT (ts:List Th):Deed→List Th
 | .put x p k=>B3 ts x p k
 | .take x=>AS ts x
 | .move x p=>match AB ts x with | some v=>B3 ts x p v.2 | none=>ts
 | .count x k=>BG ts x k
 | .name x y=>match AB ts x with | some v=>B3 (AS ts x) y v.1 v.2 | none=>ts
 | .split x y p k=>B3 (BG ts x (-k)) y p k
 | .join x y=>match AB ts y with | some v=>AS (BG ts x v.2) y | none=>ts
def Deed.made:Deed→Option Str | .put x _ _=>some x | .name _ y=>some y | .split _ y _ _=>some y | _=>none
def Deed.apart:Deed→Prop | .name x y=>x≠y | .split x y _ _=>x≠y | .join x y=>x≠y | _=>True
def Deed.placed:Deed→Prop | .put _ p _=>0≤p∧p≤999 | .move _ p=>0≤p∧p≤999 | .split _ _ p _=>0≤p∧p≤999 | _=>True
def Deed.real (D:Deed):Prop:=D.ok∧D.apart∧D.placed
theorem UN {D:Deed}(h:D.real):X0 D.d:=⟨D,rfl,h.1⟩
def AF (ns:List Str) (D:Deed):Option Str:=D.names.find? fun n=>decide (n∈ns)==decide (D.made=some n)
theorem FD {ns:List Str}{D:Deed}(h:AF ns D=none):∀n∈D.names,(n∈ns)↔¬D.made=some n:=fun n hn=>by
 have:=List.find?_eq_none.mp h n hn
 by_cases h1:n∈ns <;> by_cases h2:D.made=some n <;> simp_all
theorem lJ (D:Deed):UK D.d=match D.made with | some x=>.str x | none=>.none:=by cases D <;> rfl
def AM (ts:List Th):Deed→Deed
 | .put x _ _=>.take x
 | .take x=>match AB ts x with | some v=>.put x v.1 v.2 | none=>.take x
 | .move x p=>match AB ts x with | some v=>.move x v.1 | none=>.move x p
 | .count x k=>.count x (-k)
 | .name x y=>.name y x
 | .split x y _ _=>.join x y
 | .join x y=>match AB ts y with | some v=>.split x y v.1 v.2 | none=>.join x y
abbrev tsO (ts:List Th):MO:=.d (AO (tsD ts))
def GY (ts:List Th):Prop:=(ts.map (·.1)).Nodup∧ts.length < 63
def D3:FSp:=⟨fun xs M=>∃w:List Th,xs=[.d (wD w)]∧GY w,fun xs M y M'=>∀w:List Th,xs=[.d (wD w)]→∃p,M p=none∧y = .loc p∧M'=M.put p (tsO w)⟩
def BC:FSp:=⟨fun xs M=>∃(p:Addr) (ts:List Th),xs=[.loc p]∧M p=some (tsO ts)∧(ts.map (·.1)).Nodup∧ts.length < 64,fun xs M y M'=>∀(p:Addr) (ts:List Th),xs=[.loc p]→M p=some (tsO ts)→(ts.map (·.1)).Nodup→y = .d (wD (AJ ts))∧M'=M⟩
def DW:FSp:=⟨fun xs M=>∃(p:Addr) (ts:List Th) (x:Str) (k:Int) (v:Int×Int),xs=[.loc p,.d (.str x),.d (.int k)]∧M p=some (tsO ts)∧AB ts x=some v∧ts.length < 64,
 fun xs M y M'=>∀(p:Addr) (ts:List Th) (x:Str) (k:Int),xs=[.loc p,.d (.str x),.d (.int k)]→M p=some (tsO ts)→y = .d .none∧M'=M.put p (tsO (BG ts x k))⟩
def HR:FSp:=⟨fun xs M=>∃(p:Addr) (ts:List Th) (D:Deed),xs=[.loc p,.d D.d]∧M p=some (tsO ts)∧GY ts∧D.real∧AF (ts.map (·.1)) D=none,
 fun xs M y M'=>∀(p:Addr) (ts:List Th) (D:Deed),xs=[.loc p,.d D.d]→M p=some (tsO ts)→y = .d .none∧M'=M.put p (tsO (doT ts D))⟩
def goD (w:List Th) (D:Deed):Prop:=GY w∧D.real∧AF (w.map (·.1)) D=none
theorem lK {t u:Th}(h:thD t=thD u):t=u:=by
 obtain⟨a,b,c⟩:=t
 obtain⟨a',b',c'⟩:=u
 simp only[thD,PyData.tuple.injEq,List.cons.injEq,PyData.str.injEq,PyData.int.injEq,and_true] at h
 obtain⟨rfl,rfl,rfl⟩:=h
 rfl
theorem MC:∀{v w:List Th},v.map thD=w.map thD→v=w
 | [],[],_=>rfl
 | [],_::_,h=>by simp at h
 | _::_,[],h=>by simp at h
 | a::v,b::w,h=>by
   rw[zI,zI,List.cons.injEq] at h
   rw[lK h.1,MC h.2]
theorem X4 {v w:List Th}(h:wD v=wD w):v=w:=MC (by unfold wD at h;exact PyData.tuple.inj h)
theorem KD {D E:Deed}(h:D.d=E.d):D=E:=by
 cases D <;> cases E <;> simp only[Deed.d,PyData.tuple.injEq,List.cons.injEq,PyData.str.injEq,PyData.int.injEq,and_true,true_and,reduceCtorEq,and_false,false_and,List.nil_eq] at h <;>
   first
   | (obtain⟨_,h⟩:=h;first | (obtain⟨rfl,rfl,rfl,rfl⟩:=h;rfl) | (obtain⟨rfl,rfl,rfl⟩:=h;rfl) | (obtain⟨rfl,rfl⟩:=h;rfl) | (subst h;rfl))
   | (obtain⟨rfl,rfl,rfl,rfl⟩:=h;rfl) | (obtain⟨rfl,rfl,rfl⟩:=h;rfl) | (obtain⟨rfl,rfl⟩:=h;rfl) | (subst h;rfl)
   | exact absurd h.1 (by decide +kernel)
theorem rO {a b c d:Int}(h:pcD a b=pcD c d):a=c∧b=d:=by
 simp only[pcD,PyData.tuple.injEq,List.cons.injEq,PyData.int.injEq,and_true] at h;exact h
theorem N7:∀{ts us:List Th},tsO ts=tsO us→ts=us:=by
 intro ts us h
 have h:AO (tsD ts)=AO (tsD us):=by injection h
 unfold AO tsD at h
 rw[zD,zD] at h
 have go:∀(ts us:List Th),ts.map ((fun t:Str×PyData=>(PyData.str t.1,t.2))∘fun t:Th=>(t.1,pcD t.2.1 t.2.2))=us.map ((fun t:Str×PyData=>(PyData.str t.1,t.2))∘fun t:Th=>(t.1,pcD t.2.1 t.2.2))→ts=us:=by
   intro ts
   induction ts with
   | nil=>intro us h;cases us with | nil=>rfl | cons _ _=>simp at h
   | cons t ts ih=>
     intro us h
     cases us with
     | nil=>simp at h
     | cons u us=>
       rw[zI,zI,List.cons.injEq] at h
       obtain⟨h1,h2⟩:=h
       simp only[Function.comp,Prod.mk.injEq,PyData.str.injEq] at h1
       obtain⟨e1,e2⟩:=h1
       obtain⟨e3,e4⟩:=rO e2
       rw[ih us h2]
       obtain⟨a,b,c⟩:=t
       obtain⟨a',b',c'⟩:=u
       simp only at e1 e3 e4
       rw[e1,e3,e4]
 exact go ts us h
section
variable {M:Own}{Q:DS→Own→Prop}
theorem J9 {w:List Th}(h:GY w) (q:∀p,M p=none→Q (.loc p) (M.put p (tsO w))):[DS.d (wD w)].length=1∧D3.pre [.d (wD w)] M∧∀x M',D3.post [.d (wD w)] M x M'→Q x M':=
 ⟨rfl,⟨w,rfl,h⟩,fun x M' h=>by obtain⟨p,h1,rfl,rfl⟩:=h w rfl;exact q p h1⟩
theorem UO {p:Addr}{ts:List Th}(m:M p=some (tsO ts)) (nd:(ts.map (·.1)).Nodup) (hl:ts.length < 64) (q:Q (.d (wD (AJ ts))) M):[DS.loc p].length=1∧BC.pre [.loc p] M∧∀x M',BC.post [.loc p] M x M'→Q x M':=
 ⟨rfl,⟨p,ts,rfl,m,nd,hl⟩,fun x M' h=>by obtain⟨rfl,rfl⟩:=h p ts rfl m nd;exact q⟩
theorem O9 {p:Addr}{ts:List Th}{x:Str}{k:Int}{v:Int×Int}(m:M p=some (tsO ts)) (hl:AB ts x=some v) (hz:ts.length < 64) (q:Q (.d .none) (M.put p (tsO (BG ts x k)))):[DS.loc p,.d (.str x),.d (.int k)].length=3∧DW.pre [.loc p,.d (.str x),.d (.int k)] M∧∀x' M',DW.post [.loc p,.d (.str x),.d (.int k)] M x' M'→Q x' M':=
 ⟨rfl,⟨p,ts,x,k,v,rfl,m,hl,hz⟩,fun x' M' h=>by obtain⟨rfl,rfl⟩:=h p ts x k rfl m;exact q⟩
theorem UP {p:Addr}{ts:List Th}{D:Deed}(m:M p=some (tsO ts)) (hc:GY ts) (hr:D.real) (ha:AF (ts.map (·.1)) D=none) (q:Q (.d .none) (M.put p (tsO (doT ts D)))):[DS.loc p,.d D.d].length=2∧HR.pre [.loc p,.d D.d] M∧∀x M',HR.post [.loc p,.d D.d] M x M'→Q x M':=
 ⟨rfl,⟨p,ts,D,rfl,m,hc,hr,ha⟩,fun x M' h=>by obtain⟨rfl,rfl⟩:=h p ts D rfl m;exact q⟩
end
end DL
namespace DL
open PySem PySem.Spec L2
theorem X5 (ds:List PyData):(ds.filter fun _=>true)=ds:=List.filter_eq_self.mpr (by simp)
def vL:PyData→PyData | .tuple [_,p,c]=>.tuple [p,c] | d=>d
theorem R7:∀{as bs:List Str},as.Perm bs→Ris as→Ris bs→as=bs
 | [],bs,p,_,_=>(List.nil_perm.mp p).symm
 | a::as,[],p,_,_=>by have:=p.length_eq;simp at this
 | a::as,b::bs,p,h1,h2=>by
   unfold Ris at h1 h2
   rw[List.pairwise_cons] at h1 h2
   have e:a=b:=by
     rcases yX.mp (p.mem_iff.mp (List.mem_cons_self (a:=a) (l:=as))) with e | e
     · exact e
     · rcases yX.mp (p.mem_iff.mpr (List.mem_cons_self (a:=b) (l:=bs))) with e' | e'
       · exact e'.symm
       · have x1:=h1.1 b e'
         have x2:=h2.1 a e;rw[TY x1] at x2;cases x2
   subst e
   rw[R7 (List.Perm.cons_inv p) h1.2 h2.2]
def Z4 (ts:List Th):PyData→PyData
 | .str s=>match AB ts s with | some v=>.tuple [.str s,.int v.1,.int v.2] | none=>.none
 | d=>d
theorem aV {ts:List Th}{ss:List Str}(nd:(ts.map (·.1)).Nodup) (p:ss.Perm (ts.map (·.1))) (h:xH ss=true):(ss.map PyData.str).map (Z4 ts)=(AJ ts).map thD:=by
 have nd2:ss.Nodup:=p.nodup_iff.mpr nd
 have e:ss=(AJ ts).map (·.1):=R7 (p.trans ((AR ts).map (·.1)).symm) (WK h nd2) (DU nd)
 rw[e,zD,zD]
 apply yM
 intro t ht
 have:=CO nd ((AR ts).mem_iff.mp ht)
 simp only[Function.comp,Z4,this]
 rfl
def wT (s:String):PyData:=.str (Str.ofString s)
theorem rP (a b c:PyData):AU [wT "put", a,b,c]=(BZ a&&(GE b&&(HL c&&true))&&true):=rfl
theorem lL (a:PyData):AU [wT "take", a]=(BZ a&&true&&true):=rfl
theorem lM (a b:PyData):AU [wT "move", a,b]=(BZ a&&(GE b&&true)&&true):=rfl
theorem gJ (a b:PyData):AU [wT "count", a,b]=(BZ a&&(HL b&&true)&&true):=rfl
theorem lN (a b:PyData):AU [wT "name", a,b]=(BZ a&&(BZ b&&true)&&(!PyData.eqv a b)):=rfl
theorem lO (a b:PyData):AU [wT "join", a,b]=(BZ a&&(BZ b&&true)&&(!PyData.eqv a b)):=rfl
theorem gK (a b c d:PyData):AU [wT "split", a,b,c,d]=(BZ a&&(BZ b&&(GE c&&(HL d&&true)))&&(!PyData.eqv a b)):=rfl
theorem Z5 {D:Deed}(h:D.real):N6 D.d=true:=by
 obtain⟨h1,nd,pl⟩:=h
 have nm:∀x∈D.names,BZ (.str x)=true:=fun x hx=>fE (h1 x hx)
 have ne:∀x y:Str,x≠y→PyData.eqv (.str x) (.str y)=false:=fun x y hn=>by simp[PyData.eqv,hn]
 have pp:∀p:Int,0≤p∧p≤999→GE (.int p)=true:=fun p hp=>by
   show(decide (0≤p)&&decide (p≤999))=true
   rw[decide_eq_true hp.1,decide_eq_true hp.2];rfl
 cases D with
 | put x p k=>show AU [wT "put", .str x,.int p,.int k]=true;rw[rP,nm x (by simp[Deed.names]),pp p pl];rfl
 | take x=>show AU [wT "take", .str x]=true;rw[lL,nm x (by simp[Deed.names])];rfl
 | move x p=>show AU [wT "move", .str x,.int p]=true;rw[lM,nm x (by simp[Deed.names]),pp p pl];rfl
 | count x k=>show AU [wT "count", .str x,.int k]=true;rw[gJ,nm x (by simp[Deed.names])];rfl
 | name x y=>show AU [wT "name", .str x,.str y]=true;rw[lN,nm x (by simp[Deed.names]),nm y (by simp[Deed.names]),ne x y nd];rfl
 | split x y p k=>show AU [wT "split", .str x,.str y,.int p,.int k]=true;rw[gK,nm x (by simp[Deed.names]),nm y (by simp[Deed.names]),ne x y nd,pp p pl];rfl
 | join x y=>show AU [wT "join", .str x,.str y]=true;rw[lO,nm x (by simp[Deed.names]),nm y (by simp[Deed.names]),ne x y nd];rfl
theorem lP {D:Deed}(h:D.ok):okP D.d:=by
 have wk:∀s:Str,(decide (s.cps.size≤5000)&&s.cps.toList.all (fun c=>decide (c < 128)))=true→okD (.str s):=fun s h=>by
   simp only[Bool.and_eq_true,decide_eq_true_eq,List.all_eq_true] at h
   exact h
 have nk:∀x∈D.names,okD (.str x):=fun x hx=>fB (h x hx)
 cases D <;> (refine⟨by simp,?_⟩;simp only[List.forall_mem_cons])
 · exact⟨wk _ (by decide +kernel),nk _ (by simp[Deed.names]),trivial,trivial,by simp⟩
 · exact⟨wk _ (by decide +kernel),nk _ (by simp[Deed.names]),by simp⟩
 · exact⟨wk _ (by decide +kernel),nk _ (by simp[Deed.names]),trivial,by simp⟩
 · exact⟨wk _ (by decide +kernel),nk _ (by simp[Deed.names]),trivial,by simp⟩
 · exact⟨wk _ (by decide +kernel),nk _ (by simp[Deed.names]),nk _ (by simp[Deed.names]),by simp⟩
 · exact⟨wk _ (by decide +kernel),nk _ (by simp[Deed.names]),nk _ (by simp[Deed.names]),trivial,trivial,by simp⟩
 · exact⟨wk _ (by decide +kernel),nk _ (by simp[Deed.names]),nk _ (by simp[Deed.names]),by simp⟩
theorem lQ (D:Deed) (n:Str):PyData.eqv (.str n) (UK D.d)=decide (D.made=some n):=by
 rw[lJ]
 cases h:D.made with
 | none=>simp[PyData.eqv]
 | some x=>simp only[PyData.eqv,Option.some.injEq];rw[Bool.eq_iff_iff];simp;exact eq_comm
theorem aW (a b:Bool):PyData.eqv (.bool a) (.bool b)=(a==b):=by cases a <;> cases b <;> rfl
theorem UQ {ts:List Th}{x:Str}{p c:Int}(h:x∈ts.map (·.1)):B3 ts x p c=ts.map fun t=>if t.1=x then (t.1,p,c) else t:=by
 unfold B3
 obtain⟨t,ht,e⟩:=zL.mp h
 rw[if_pos (List.any_eq_true.mpr ⟨t,ht,by simpa using e⟩)]
theorem KF {ts:List Th}{x:Str}{p c:Int}(h:x∉ts.map (·.1)):B3 ts x p c=ts++[(x,p,c)]:=by
 unfold B3
 rw[if_neg]
 intro e
 obtain⟨t,ht,e⟩:=List.any_eq_true.mp e
 exact h (zL.mpr ⟨t,ht,by simpa using e⟩)
theorem OB {ts:List Th}{x:Str}{p c:Int}(h:x∈ts.map (·.1)):(B3 ts x p c).map (·.1)=ts.map (·.1):=by
 rw[UQ h,zD]
 apply yM
 intro t _
 simp only[Function.comp]
 split <;> rfl
theorem B9 {ts:List Th}{x:Str}(h:x∈ts.map (·.1)):∃v,AB ts x=some v:=by
 cases e:AB ts x with
 | none=>exact absurd h (CF.mp e)
 | some v=>exact⟨v,rfl⟩
theorem Z6 {ts:List Th}{x:Str}{v:Int×Int}(h:AB ts x=some v):x∈ts.map (·.1):=zL.mpr ⟨_,CH h,rfl⟩
theorem D4 {ts:List Th}{x:Str}{k:Int}:(BG ts x k).map (·.1)=ts.map (·.1):=by
 unfold BG
 cases e:AB ts x with
 | none=>rfl
 | some v=>exact OB (Z6 e)
theorem gL {ts:List Th}{x:Str}{k:Int}:(BG ts x k).length=ts.length:=by
 have:=congrArg List.length (D4 (ts:=ts) (x:=x) (k:=k))
 simpa using this
theorem GL {M:Own}{p p':Addr}{ts ts':List Th}{D D':Deed}(m:M p=some (tsO ts)) (e:[DS.loc p,.d D.d]=[.loc p',.d D'.d]) (m':M p'=some (tsO ts')):p=p'∧ts=ts'∧D=D':=by
 simp only[List.cons.injEq,DS.loc.injEq,DS.d.injEq,and_true] at e
 obtain⟨rfl,e⟩:=e
 exact⟨rfl,N7 (Option.some.inj (m.symm.trans m')),KD e⟩
theorem D5 {w w':List Th}{D D':Deed}(e:[DS.d (wD w),.d D.d]=[.d (wD w'),.d D'.d]):w=w'∧D=D':=by
 simp only[List.cons.injEq,DS.d.injEq,and_true] at e
 exact⟨X4 e.1,KD e.2⟩
theorem N8 {ts:List Th}(h:ts.length < 64):(tsD ts).length < sizeLine:=by unfold tsD;rw[zX];exact zP h (by decide)
theorem FE (ts:List Th) (x:Str):(AS ts x).map (·.1)=(ts.map (·.1)).filter fun n=>decide (n≠x):=by
 unfold AS
 rw[xV];rfl
def JT (ns:List Str):Deed→List Str
 | .put x _ _=>ns++[x]
 | .take x=>ns.filter fun n=>decide (n≠x)
 | .move _ _=>ns
 | .count _ _=>ns
 | .name x y=>(ns.filter fun n=>decide (n≠x))++[y]
 | .split _ y _ _=>ns++[y]
 | .join _ y=>ns.filter fun n=>decide (n≠y)
theorem MD {ns:List Str}{D:Deed}(ha:AF ns D=none) {n:Str}(hn:n∈D.names) (hm:D.made≠some n):n∈ns:=(FD ha n hn).mpr hm
theorem JU {ns:List Str}{D:Deed}(ha:AF ns D=none) {n:Str}(hn:n∈D.names) (hm:D.made=some n):n∉ns:=fun q=>(FD ha n hn).mp q hm
theorem LJ {ts:List Th}{D:Deed}(hr:D.real) (ha:AF (ts.map (·.1)) D=none):(doT ts D).map (·.1)=JT (ts.map (·.1)) D:=by
 cases D with
 | put x p k=>
   show(B3 ts x p k).map (·.1)=_
   rw[KF (JU ha (by simp[Deed.names]) rfl),xJ];rfl
 | take x=>exact FE ts x
 | move x p=>
   obtain⟨v,hv⟩:=B9 (MD ha (n:=x) (by simp[Deed.names]) (by simp[Deed.made]))
   simp only[doT,hv]
   exact OB (Z6 hv)
 | count x k=>exact D4
 | name x y=>
   obtain⟨v,hv⟩:=B9 (MD ha (n:=x) (by simp[Deed.names]) (by simp[Deed.made];exact fun e=>hr.2.1 e.symm))
   simp only[doT,hv]
   have hy:y∉(AS ts x).map (·.1):=by
     rw[FE]
     intro q
     exact JU ha (n:=y) (by simp[Deed.names]) rfl (yL.mp q).1
   rw[KF hy,xJ,FE];rfl
 | split x y p k=>
   show(B3 (BG ts x (-k)) y p k).map (·.1)=_
   have hy:y∉(BG ts x (-k)).map (·.1):=by
     rw[D4]
     exact JU ha (n:=y) (by simp[Deed.names]) rfl
   rw[KF hy,xJ,D4];rfl
 | join x y=>
   obtain⟨v,hv⟩:=B9 (MD ha (n:=y) (by simp[Deed.names]) (by simp[Deed.made]))
   simp only[doT,hv]
   rw[FE,D4];rfl
theorem SD {ns:List Str}{D:Deed}(nd:ns.Nodup) (ha:AF ns D=none):(JT ns D).Nodup:=by
 have app:∀{l:List Str}{y:Str},l.Nodup→y∉l→(l++[y]).Nodup:=fun {l y} h1 h2=>by
   rw[List.nodup_append]
   exact⟨h1,by simp,fun a ha b hb e=>by simp at hb;subst hb;subst e;exact h2 ha⟩
 cases D with
 | put x p k=>exact app nd (JU ha (by simp[Deed.names]) rfl)
 | take x=>exact nd.sublist List.filter_sublist
 | move x p=>exact nd
 | count x k=>exact nd
 | name x y=>exact app (nd.sublist List.filter_sublist) fun q=>JU ha (n:=y) (by simp[Deed.names]) rfl (yL.mp q).1
 | split x y p k=>exact app nd (JU ha (n:=y) (by simp[Deed.names]) rfl)
 | join x y=>exact nd.sublist List.filter_sublist
theorem OC (ns:List Str) (D:Deed):(JT ns D).length≤ns.length+1:=by
 cases D <;> simp only[JT,yY,yR,List.length_nil]
 all_goals first | omega | exact zN (yJ _ _) (Nat.le_succ _) | exact Nat.add_le_add_right (yJ _ _) 1
theorem OD {ts:List Th}{D:Deed}(h:goD ts D):((doT ts D).map (·.1)).Nodup∧(doT ts D).length < 64:=by
 obtain⟨⟨nd,hl⟩,hr,ha⟩:=h
 have e:=LJ hr ha
 refine⟨by rw[e];exact SD nd ha,?_⟩
 have h1:=OC (ts.map (·.1)) D
 have h2:=congrArg List.length e
 simp only[zX] at h1 h2
 omega
end DL
namespace DL
open PySem PySem.Spec L2
theorem HS (ts:List Th) (x:Str) (p c:Int) (n:Str):AB (B3 ts x p c) n=if n=x then some (p,c) else AB ts n:=by
 by_cases h:x∈ts.map (·.1)
 · rw[UQ h]
   induction ts with
   | nil=>simp at h
   | cons t r ih=>
     rw[zI]
     by_cases e:t.1=x
     · rw[if_pos e]
       unfold AB
       by_cases en:n=x
       · subst en;rw[if_pos e,if_pos rfl]
       · have e1:¬t.1=n:=fun q=>en (q.symm.trans e)
         rw[if_neg e1,if_neg en,if_neg e1]
         by_cases hr:x∈r.map (·.1)
         · rw[ih hr,if_neg en]
         · have hm:(r.map fun t=>if t.1=x then (t.1,p,c) else t)=r:=by
             conv=>rhs;rw[← List.map_id r]
             apply yM
             intro u hu
             rw[if_neg fun q=>hr (by rw[← q];exact zL.mpr ⟨u,hu,rfl⟩)];rfl
           rw[hm]
     · rw[if_neg e]
       have hr:x∈r.map (·.1):=by
         rw[zI,yX] at h
         exact h.resolve_left fun q=>e q.symm
       unfold AB
       by_cases e1:t.1=n
       · rw[if_pos e1,if_pos e1,if_neg fun q=>e (e1.trans q)]
       · rw[if_neg e1,if_neg e1,ih hr]
 · rw[KF h]
   have:∀ts:List Th,x∉ts.map (·.1)→AB (ts++[(x,p,c)]) n=if n=x then some (p,c) else AB ts n:=by
     intro ts
     induction ts with
     | nil=>
       intro _
       show(if x=n then _ else _)=_
       by_cases e:n=x
       · rw[if_pos e,if_pos e.symm]
       · rw[if_neg e,if_neg fun q=>e q.symm]
     | cons t r ih=>
       intro hx
       rw[zI,yX] at hx
       rw[List.cons_append]
       unfold AB
       by_cases e1:t.1=n
       · rw[if_pos e1,if_pos e1,if_neg fun q=>hx (.inl (e1.trans q).symm)]
       · rw[if_neg e1,if_neg e1,ih fun q=>hx (.inr q)]
   exact this ts h
theorem LK (ts:List Th) (x n:Str):AB (AS ts x) n=if n=x then none else AB ts n:=by
 induction ts with
 | nil=>show none=_;split <;> rfl
 | cons t r ih=>
   unfold AS at ih ⊢
   rw[List.filter_cons]
   by_cases e:t.1=x
   · rw[if_neg (by simp[e]),ih]
     by_cases en:n=x
     · rw[if_pos en,if_pos en]
     · rw[if_neg en,if_neg en]
       conv=>rhs;unfold AB
       rw[if_neg fun q=>en (q.symm.trans e)]
   · rw[if_pos (by simpa using e)]
     unfold AB
     rw[ih]
     by_cases e1:t.1=n
     · rw[if_pos e1,if_pos e1,if_neg fun q=>e (e1.trans q)]
     · rw[if_neg e1,if_neg e1]
theorem OE (ts:List Th) (x:Str) (k:Int) (n:Str):AB (BG ts x k) n=if n=x then (AB ts x).map fun v=>(v.1,v.2+k) else AB ts n:=by
 unfold BG
 cases h:AB ts x with
 | none=>
   by_cases e:n=x
   · subst e;rw[if_pos rfl,h];rfl
   · rw[if_neg e]
 | some v=>rw[HS];rfl
theorem KG {ts:List Th}(nd:(ts.map (·.1)).Nodup) {t:Th}:t∈ts↔AB ts t.1=some t.2:=⟨fun h=>CO nd h,fun h=>CH h⟩
theorem aX {as bs:List Th}(n1:(as.map (·.1)).Nodup) (p:as.Perm bs) (n:Str):AB as n=AB bs n:=by
 have n2:(bs.map (·.1)).Nodup:=(p.map (·.1)).nodup_iff.mp n1
 cases h:AB as n with
 | none=>
   cases h2:AB bs n with
   | none=>rfl
   | some v=>exact absurd (zL.mpr ⟨_,p.mem_iff.mpr (CH h2),rfl⟩) (CF.mp h)
 | some v=>exact((KG n2 (t:=(n,v))).mp (p.mem_iff.mp (CH h))).symm
theorem aY {as bs:List Th}(n1:(as.map (·.1)).Nodup) (n2:(bs.map (·.1)).Nodup) (h:∀n,AB as n=AB bs n):as.Perm bs:=by
 have nd:∀{l:List Th},(l.map (·.1)).Nodup→l.Nodup:=fun {l} h=>by
   unfold List.Nodup at h ⊢
   rw[List.pairwise_map] at h
   exact h.imp fun {a b} q e=>q (by rw[e])
 rw[List.perm_ext_iff_of_nodup (nd n1) (nd n2)]
 intro t
 rw[KG n1,KG n2,h]
theorem aZ {ts w:List Th}(nd:(ts.map (·.1)).Nodup) (hw:Ris (w.map (·.1))) (h:∀n,AB ts n=AB w n):AJ ts=w:=
 (FX (aY hw.nodup nd fun n=>(h n).symm) hw).symm
theorem gM {ts:List Th}(nd:(ts.map (·.1)).Nodup) (n:Str):AB (AJ ts) n=AB ts n:=
 aX (((AR ts).map (·.1)).nodup_iff.mpr nd) (AR ts) n
def EV (w:List Th):Prop:=Ris (w.map (·.1))∧∀t∈w,B8 t.1∧0≤t.2.1∧t.2.1≤999
theorem IP {w:List Th}(h:EV w) {x:Str}{v:Int×Int}(e:AB w x=some v):B8 x∧0≤v.1∧v.1≤999:=h.2 _ (CH e)
theorem EI {ts:List Th}{D:Deed}(hr:D.real) (ha:AF (ts.map (·.1)) D=none) (n:Str) :
   AB (doT ts D) n=match D with
     | .put x p k=>if n=x then some (p,k) else AB ts n
     | .take x=>if n=x then none else AB ts n
     | .move x p=>if n=x then (AB ts x).map fun v=>(p,v.2) else AB ts n
     | .count x k=>if n=x then (AB ts x).map fun v=>(v.1,v.2+k) else AB ts n
     | .name x y=>if n=y then AB ts x else if n=x then none else AB ts n
     | .split x y p k=>if n=y then some (p,k) else if n=x then (AB ts x).map fun v=>(v.1,v.2 + -k) else AB ts n
     | .join x y=>if n=y then none else if n=x then (AB ts x).bind fun v=>(AB ts y).map fun u=>(v.1,v.2+u.2) else AB ts n:=by
 cases D with
 | put x p k=>exact HS _ _ _ _ _
 | take x=>exact LK _ _ _
 | move x p=>
   obtain⟨v,hv⟩:=B9 (MD ha (n:=x) (by simp[Deed.names]) (by simp[Deed.made]))
   simp only[doT,hv]
   exact HS _ _ _ _ _
 | count x k=>exact OE _ _ _ _
 | name x y=>
   obtain⟨v,hv⟩:=B9 (MD ha (n:=x) (by simp[Deed.names]) (by simp[Deed.made];exact fun e=>hr.2.1 e.symm))
   simp only[doT,hv]
   rw[HS,LK]
 | split x y p k=>
   show AB (B3 (BG ts x (-k)) y p k) n=_
   rw[HS,OE]
 | join x y=>
   obtain⟨v,hv⟩:=B9 (MD ha (n:=x) (by simp[Deed.names]) (by simp[Deed.made]))
   obtain⟨u,hu⟩:=B9 (MD ha (n:=y) (by simp[Deed.names]) (by simp[Deed.made]))
   simp only[doT,hu]
   rw[LK,OE,hv];rfl
theorem here {w:List Th}{D:Deed}(h:goD w D) {n:Str}(hn:n∈D.names) (hm:D.made≠some n):∃v,AB w n=some v:=B9 (MD h.2.2 hn hm)
theorem rQ {w:List Th}{D:Deed}(h:goD w D) {n:Str}(hn:n∈D.names) (hm:D.made=some n):AB w n=none:=CF.mpr (JU h.2.2 hn hm)
theorem gN {ns:List Str}{D:Deed}(h:∀n∈D.names,(n∈ns)↔¬D.made=some n):AF ns D=none:=by
 unfold AF
 rw[List.find?_eq_none]
 intro n hn
 have:=h n hn
 by_cases h1:n∈ns <;> by_cases h2:D.made=some n <;> simp_all
theorem gP {ts:List Th}{n:Str}:n∈ts.map (·.1)↔(AB ts n).isSome=true:=by rw[GK];simp
theorem OF {w:List Th}{D:Deed}(hw:EV w) (hg:goD w D) (hl:w.length < 60) :
   goD (AJ (doT w D)) (AM w D)∧AJ (doT (AJ (doT w D)) (AM w D))=w∧AM (AJ (doT w D)) (AM w D)=D∧EV (AJ (doT w D))∧(AJ (doT w D)).length≤w.length+1:=by
 have hr:=hg.2.1
 have ha:=hg.2.2
 obtain⟨nd,_⟩:=OD hg
 have L:∀n,AB (AJ (doT w D)) n=AB (doT w D) n:=gM nd
 have ndr:((AJ (doT w D)).map (·.1)).Nodup:=((AR _).map (·.1)).nodup_iff.mpr nd
 have hlen:(AJ (doT w D)).length≤w.length+1:=by
   rw[(AR _).length_eq]
   have h1:=OC (w.map (·.1)) D
   have h2:=congrArg List.length (LJ hr ha)
   simp only[zX] at h1 h2
   omega
 have fw:EV (AJ (doT w D)):=by
   refine⟨DU nd,fun t ht=>?_⟩
   have hk:AB (doT w D) t.1=some t.2:=by rw[← L];exact(KG ndr).mp ht
   rw[EI hr ha] at hk
   have old:∀{n:Str}{v:Int×Int},AB w n=some v→B8 n∧0≤v.1∧v.1≤999:=fun e=>IP hw e
   cases D with
   | put x p k=>
     dsimp only at hk
     split at hk
     · rename_i e;have hk:=Option.some.inj hk;rw[e,← hk];exact⟨hr.1 x (by simp[Deed.names]),hr.2.2.1,hr.2.2.2⟩
     · exact old hk
   | take x=>
     dsimp only at hk
     split at hk
     · cases hk
     · exact old hk
   | move x p=>
     dsimp only at hk
     split at hk
     · rename_i e
       obtain⟨v,hv,e2⟩:=Option.map_eq_some_iff.mp hk
       rw[e,← e2];exact⟨(old hv).1,hr.2.2.1,hr.2.2.2⟩
     · exact old hk
   | count x k=>
     dsimp only at hk
     split at hk
     · rename_i e
       obtain⟨v,hv,e2⟩:=Option.map_eq_some_iff.mp hk
       rw[e,← e2];exact⟨(old hv).1,(old hv).2⟩
     · exact old hk
   | name x y=>
     dsimp only at hk
     split at hk
     · rename_i e;rw[e];exact⟨hr.1 y (by simp[Deed.names]),(old hk).2⟩
     · split at hk
       · cases hk
       · exact old hk
   | split x y p k=>
     dsimp only at hk
     split at hk
     · rename_i e;have hk:=Option.some.inj hk;rw[e,← hk];exact⟨hr.1 y (by simp[Deed.names]),hr.2.2.1,hr.2.2.2⟩
     · split at hk
       · rename_i e
         obtain⟨v,hv,e2⟩:=Option.map_eq_some_iff.mp hk
         rw[e,← e2];exact⟨(old hv).1,(old hv).2⟩
       · exact old hk
   | join x y=>
     dsimp only at hk
     split at hk
     · cases hk
     · split at hk
       · rename_i e
         obtain⟨v,hv,e2⟩:=Option.bind_eq_some_iff.mp hk
         obtain⟨u,hu,e3⟩:=Option.map_eq_some_iff.mp e2
         rw[e,← e3];exact⟨(old hv).1,(old hv).2⟩
       · exact old hk
 have core:goD (AJ (doT w D)) (AM w D)∧(∀n,AB (doT (AJ (doT w D)) (AM w D)) n=AB w n)∧AM (AJ (doT w D)) (AM w D)=D:=by
   have can:GY (AJ (doT w D)):=⟨ndr,by omega⟩
   have LD:∀n,AB (AJ (doT w D)) n=_:=fun n=>(L n).trans (EI hr ha n)
   have mk:∀B:Deed,B.real→(∀n∈B.names,((AB (AJ (doT w D)) n).isSome=true)↔¬B.made=some n)→goD (AJ (doT w D)) B:=fun B h1 h2=>⟨can,h1,gN fun n hn=>gP.trans (h2 n hn)⟩
   cases D with
   | put x p k=>
     have hx:=rQ hg (n:=x) (by simp[Deed.names]) rfl
     have g:goD (AJ (doT w (.put x p k))) (.take x):=mk (.take x) ⟨fun n hn=>hr.1 n hn,trivial,trivial⟩ fun n hn=>by
       simp only[Deed.names,List.mem_singleton] at hn;subst hn;rw[LD];simp[Deed.made]
     refine⟨g,fun n=>?_,?_⟩
     · show AB (doT (AJ (doT w (.put x p k))) (.take x)) n=_
       rw[EI g.2.1 g.2.2]
       dsimp only
       rw[LD]
       dsimp only
       by_cases e:n=x
       · rw[if_pos e,e,hx]
       · rw[if_neg e,if_neg e]
     · have lx:AB (AJ (doT w (.put x p k))) x=some (p,k):=by rw[LD];simp
       simp only[AM,lx]
   | take x=>
     obtain⟨v,hv⟩:=here hg (n:=x) (by simp[Deed.names]) (by simp[Deed.made])
     have eb:AM w (.take x) = .put x v.1 v.2:=by simp only[AM,hv]
     rw[eb]
     have g:goD (AJ (doT w (.take x))) (.put x v.1 v.2):=mk (.put x v.1 v.2) ⟨fun n hn=>hr.1 n hn,trivial,(IP hw hv).2⟩ fun n hn=>by
       simp only[Deed.names,List.mem_singleton] at hn;subst hn;rw[LD];simp[Deed.made]
     refine⟨g,fun n=>?_,rfl⟩
     rw[EI g.2.1 g.2.2]
     dsimp only
     rw[LD]
     dsimp only
     by_cases e:n=x
     · rw[if_pos e,e,hv]
     · rw[if_neg e,if_neg e]
   | move x p=>
     obtain⟨v,hv⟩:=here hg (n:=x) (by simp[Deed.names]) (by simp[Deed.made])
     have eb:AM w (.move x p) = .move x v.1:=by simp only[AM,hv]
     rw[eb]
     have lx:AB (AJ (doT w (.move x p))) x=some (p,v.2):=by rw[LD];simp[hv]
     have g:goD (AJ (doT w (.move x p))) (.move x v.1):=mk (.move x v.1) ⟨fun n hn=>hr.1 n hn,trivial,(IP hw hv).2⟩ fun n hn=>by
       simp only[Deed.names,List.mem_singleton] at hn;subst hn;rw[lx];simp[Deed.made]
     refine⟨g,fun n=>?_,by simp only[AM,lx]⟩
     rw[EI g.2.1 g.2.2]
     dsimp only
     rw[lx]
     by_cases e:n=x
     · rw[if_pos e,e,hv];rfl
     · rw[if_neg e,LD]
       dsimp only
       rw[if_neg e]
   | count x k=>
     obtain⟨v,hv⟩:=here hg (n:=x) (by simp[Deed.names]) (by simp[Deed.made])
     have eb:AM w (.count x k) = .count x (-k):=rfl
     rw[eb]
     have lx:AB (AJ (doT w (.count x k))) x=some (v.1,v.2+k):=by rw[LD];simp[hv]
     have g:goD (AJ (doT w (.count x k))) (.count x (-k)):=mk (.count x (-k)) ⟨fun n hn=>hr.1 n hn,trivial,trivial⟩ fun n hn=>by
       simp only[Deed.names,List.mem_singleton] at hn;subst hn;rw[lx];simp[Deed.made]
     refine⟨g,fun n=>?_,by simp only[AM,Int.neg_neg]⟩
     rw[EI g.2.1 g.2.2]
     dsimp only
     rw[lx]
     by_cases e:n=x
     · rw[if_pos e,e,hv]
       show some (v.1,v.2+k + -k)=some v
       rw[Int.add_neg_cancel_right]
     · rw[if_neg e,LD]
       dsimp only
       rw[if_neg e]
   | name x y=>
     have hxy:x≠y:=hr.2.1
     obtain⟨v,hv⟩:=here hg (n:=x) (by simp[Deed.names]) (by simp[Deed.made];exact fun e=>hxy e.symm)
     have hy:=rQ hg (n:=y) (by simp[Deed.names]) rfl
     have eb:AM w (.name x y) = .name y x:=rfl
     rw[eb]
     have ly:AB (AJ (doT w (.name x y))) y=some v:=by rw[LD];simp[hv]
     have lx:AB (AJ (doT w (.name x y))) x=none:=by rw[LD];simp[hxy]
     have g:goD (AJ (doT w (.name x y))) (.name y x):=mk (.name y x) ⟨fun n hn=>hr.1 n (by simp[Deed.names] at hn ⊢;exact hn.symm),fun e=>hxy e.symm,trivial⟩ fun n hn=>by
       simp only[Deed.names,yX,xX,or_false] at hn
       rcases hn with rfl | rfl
       · rw[ly];simp[Deed.made];exact hxy
       · rw[lx];simp[Deed.made]
     refine⟨g,fun n=>?_,rfl⟩
     rw[EI g.2.1 g.2.2]
     dsimp only
     rw[ly]
     by_cases e:n=x
     · rw[if_pos e,e,hv]
     · rw[if_neg e]
       by_cases e2:n=y
       · rw[if_pos e2,e2,hy]
       · rw[if_neg e2,LD]
         dsimp only
         rw[if_neg e2,if_neg e]
   | split x y p k=>
     have hxy:x≠y:=hr.2.1
     obtain⟨v,hv⟩:=here hg (n:=x) (by simp[Deed.names]) (by simp[Deed.made];exact fun e=>hxy e.symm)
     have hy:=rQ hg (n:=y) (by simp[Deed.names]) rfl
     have eb:AM w (.split x y p k) = .join x y:=rfl
     rw[eb]
     have ly:AB (AJ (doT w (.split x y p k))) y=some (p,k):=by rw[LD];simp
     have lx:AB (AJ (doT w (.split x y p k))) x=some (v.1,v.2 + -k):=by rw[LD];simp[hxy,hv]
     have g:goD (AJ (doT w (.split x y p k))) (.join x y):=mk (.join x y) ⟨fun n hn=>hr.1 n hn,hxy,trivial⟩ fun n hn=>by
       simp only[Deed.names,yX,xX,or_false] at hn
       rcases hn with rfl | rfl
       · rw[lx];simp[Deed.made]
       · rw[ly];simp[Deed.made]
     refine⟨g,fun n=>?_,by simp only[AM,ly]⟩
     rw[EI g.2.1 g.2.2]
     dsimp only
     rw[lx,ly]
     by_cases e:n=y
     · rw[if_pos e,e,hy]
     · rw[if_neg e]
       by_cases e2:n=x
       · rw[if_pos e2,e2,hv]
         show some (v.1,v.2 + -k+k)=some v
         rw[Int.neg_add_cancel_right]
       · rw[if_neg e2,LD]
         dsimp only
         rw[if_neg e,if_neg e2]
   | join x y=>
     have hxy:x≠y:=hr.2.1
     obtain⟨v,hv⟩:=here hg (n:=x) (by simp[Deed.names]) (by simp[Deed.made])
     obtain⟨u,hu⟩:=here hg (n:=y) (by simp[Deed.names]) (by simp[Deed.made])
     have eb:AM w (.join x y) = .split x y u.1 u.2:=by simp only[AM,hu]
     rw[eb]
     have ly:AB (AJ (doT w (.join x y))) y=none:=by rw[LD];simp
     have lx:AB (AJ (doT w (.join x y))) x=some (v.1,v.2+u.2):=by rw[LD];simp[hxy,hv,hu]
     have g:goD (AJ (doT w (.join x y))) (.split x y u.1 u.2):=mk (.split x y u.1 u.2) ⟨fun n hn=>hr.1 n hn,hxy,(IP hw hu).2⟩ fun n hn=>by
       simp only[Deed.names,yX,xX,or_false] at hn
       rcases hn with rfl | rfl
       · rw[lx];simp[Deed.made];exact fun e=>hxy e.symm
       · rw[ly];simp[Deed.made]
     refine⟨g,fun n=>?_,rfl⟩
     rw[EI g.2.1 g.2.2]
     dsimp only
     rw[lx]
     by_cases e:n=y
     · rw[if_pos e,e,hu]
     · rw[if_neg e]
       by_cases e2:n=x
       · rw[if_pos e2,e2,hv]
         show some (v.1,v.2+u.2 + -u.2)=some v
         rw[Int.add_neg_cancel_right]
       · rw[if_neg e2,LD]
         dsimp only
         rw[if_neg e,if_neg e2]
 obtain⟨c1,c2,c3⟩:=core
 exact⟨c1,aZ (OD c1).1 hw.1 c2,c3,fw,hlen⟩
end DL
namespace DL
open PySem PySem.Spec L2
def HF (f:Str→Str) (S:List Str):Prop:=∀a∈S,∀b∈S,f a=f b→a=b
def rnT (f:Str→Str) (ts:List Th):List Th:=ts.map fun t=>(f t.1,t.2)
def rnD (f:Str→Str):Deed→Deed
 | .put x p k=>.put (f x) p k | .take x=>.take (f x) | .move x p=>.move (f x) p | .count x k=>.count (f x) k | .name x y=>.name (f x) (f y) | .split x y p k=>.split (f x) (f y) p k | .join x y=>.join (f x) (f y)
section
variable {f:Str→Str}{S:List Str}{ts:List Th}
theorem OG (ts:List Th):(rnT f ts).map (·.1)=(ts.map (·.1)).map f:=by unfold rnT;rw[zD,zD];rfl
theorem Z7 (hf:HF f S) {a b:Str}(ha:a∈S) (hb:b∈S):f a=f b↔a=b:=⟨hf a ha b hb,fun e=>by rw[e]⟩
theorem FF (hf:HF f S) {x:Str}(hx:x∈S):∀{ts:List Th},(∀t∈ts,t.1∈S)→AB (rnT f ts) (f x)=AB ts x
 | [],_=>rfl
 | t::r,h=>by
   have ih:=FF hf hx (ts:=r) fun u hu=>h u (yV _ hu)
   have ht:=h t (by simp)
   show AB ((f t.1,t.2)::rnT f r) (f x)=_
   unfold AB
   by_cases e:t.1=x
   · rw[if_pos (by rw[e]),if_pos e]
   · rw[if_neg (fun q=>e (hf _ ht _ hx q)),if_neg e];exact ih
theorem OH (hf:HF f S) {x:Str}(hx:x∈S) (h:∀t∈ts,t.1∈S) (p c:Int):B3 (rnT f ts) (f x) p c=rnT f (B3 ts x p c):=by
 unfold B3
 have e:((rnT f ts).any fun t=>decide (t.1=f x))=ts.any fun t=>decide (t.1=x):=by
   unfold rnT
   rw[List.any_map]
   rw[Bool.eq_iff_iff,List.any_eq_true,List.any_eq_true]
   constructor
   · rintro⟨t,a,b⟩;exact⟨t,a,decide_eq_true (hf _ (h t a) _ hx (of_decide_eq_true b))⟩
   · rintro⟨t,a,b⟩;exact⟨t,a,decide_eq_true (congrArg f (of_decide_eq_true b))⟩
 rw[e]
 by_cases q:(ts.any fun t=>decide (t.1=x))=true
 · rw[if_pos q,if_pos q]
   unfold rnT
   rw[zD,zD]
   apply yM
   intro t ht
   show(if f t.1=f x then (f t.1,p,c) else (f t.1,t.2))=(f (if t.1=x then (t.1,p,c) else t).1,(if t.1=x then (t.1,p,c) else t).2)
   by_cases e2:t.1=x
   · rw[if_pos (by rw[e2]),if_pos e2]
   · rw[if_neg (fun z=>e2 (hf _ (h t ht) _ hx z)),if_neg e2]
 · rw[if_neg q,if_neg q]
   unfold rnT
   rw[xJ];rfl
theorem SE (hf:HF f S) {x:Str}(hx:x∈S) (h:∀t∈ts,t.1∈S):AS (rnT f ts) (f x)=rnT f (AS ts x):=by
 unfold AS rnT
 rw[xV]
 congr 1
 apply List.filter_congr
 intro t ht
 show decide (f t.1≠f x)=decide (t.1≠x)
 rw[Bool.eq_iff_iff,decide_eq_true_iff,decide_eq_true_iff,Ne,Ne,Z7 hf (h t ht) hx]
theorem rS (h:∀t∈ts,t.1∈S) {x:Str}(hx:x∈S) (p c:Int):∀t∈B3 ts x p c,t.1∈S:=by
 intro t ht
 unfold B3 at ht
 split at ht
 · obtain⟨u,hu,rfl⟩:=zL.mp ht
   split
   · exact h u hu
   · exact h u hu
 · rcases yW.mp ht with q | q
   · exact h t q
   · rw[List.mem_singleton.mp q];exact hx
theorem lU (h:∀t∈ts,t.1∈S) (x:Str):∀t∈AS ts x,t.1∈S:=fun t ht=>h t (yL.mp ht).1
theorem X6 (hf:HF f S) {x:Str}(hx:x∈S) (h:∀t∈ts,t.1∈S) (k:Int):BG (rnT f ts) (f x) k=rnT f (BG ts x k):=by
 unfold BG
 rw[FF hf hx h]
 cases AB ts x with
 | none=>rfl
 | some v=>exact OH hf hx h _ _
theorem gQ (h:∀t∈ts,t.1∈S) {x:Str}(hx:x∈S) (k:Int):∀t∈BG ts x k,t.1∈S:=by
 unfold BG
 cases AB ts x with
 | none=>exact h
 | some v=>exact rS h hx _ _
end
end DL
namespace DL
open PySem PySem.Spec L2
section
variable {f:Str→Str}{S:List Str}{ts:List Th}
theorem nY (hf:HF f S) (h:∀t∈ts,t.1∈S) {D:Deed}(hD:∀x∈D.names,x∈S):doT (rnT f ts) (rnD f D)=rnT f (doT ts D):=by
 cases D with
 | put x p k=>exact OH hf (hD x (by simp[Deed.names])) h p k
 | take x=>exact SE hf (hD x (by simp[Deed.names])) h
 | move x p=>
   have hx:=hD x (by simp[Deed.names])
   show(match AB (rnT f ts) (f x) with | some v=>B3 (rnT f ts) (f x) p v.2 | none=>rnT f ts)=rnT f (match AB ts x with | some v=>B3 ts x p v.2 | none=>ts)
   rw[FF hf hx h]
   cases AB ts x with
   | none=>rfl
   | some v=>exact OH hf hx h _ _
 | count x k=>exact X6 hf (hD x (by simp[Deed.names])) h k
 | name x y=>
   have hx:=hD x (by simp[Deed.names])
   have hy:=hD y (by simp[Deed.names])
   show(match AB (rnT f ts) (f x) with | some v=>B3 (AS (rnT f ts) (f x)) (f y) v.1 v.2 | none=>rnT f ts)=rnT f (match AB ts x with | some v=>B3 (AS ts x) y v.1 v.2 | none=>ts)
   rw[FF hf hx h]
   cases AB ts x with
   | none=>rfl
   | some v=>
     show B3 (AS (rnT f ts) (f x)) (f y) v.1 v.2=rnT f (B3 (AS ts x) y v.1 v.2)
     rw[SE hf hx h]
     exact OH hf hy (lU h x) _ _
 | split x y p k=>
   have hx:=hD x (by simp[Deed.names])
   have hy:=hD y (by simp[Deed.names])
   show B3 (BG (rnT f ts) (f x) (-k)) (f y) p k=rnT f (B3 (BG ts x (-k)) y p k)
   rw[X6 hf hx h]
   exact OH hf hy (gQ h hx _) _ _
 | join x y=>
   have hx:=hD x (by simp[Deed.names])
   have hy:=hD y (by simp[Deed.names])
   show(match AB (rnT f ts) (f y) with | some v=>AS (BG (rnT f ts) (f x) v.2) (f y) | none=>rnT f ts)=rnT f (match AB ts y with | some v=>AS (BG ts x v.2) y | none=>ts)
   rw[FF hf hy h]
   cases AB ts y with
   | none=>rfl
   | some v=>
     show AS (BG (rnT f ts) (f x) v.2) (f y)=rnT f (AS (BG ts x v.2) y)
     rw[X6 hf hx h]
     exact SE hf hy (gQ h hx _)
theorem lV (hf:HF f S) (h:∀t∈ts,t.1∈S) {D:Deed}(hD:∀x∈D.names,x∈S):AM (rnT f ts) (rnD f D)=rnD f (AM ts D):=by
 cases D with
 | put x p k=>rfl
 | take x=>
   show(match AB (rnT f ts) (f x) with | some v=>Deed.put (f x) v.1 v.2 | none=>.take (f x))=rnD f (match AB ts x with | some v=>.put x v.1 v.2 | none=>.take x)
   rw[FF hf (hD x (by simp[Deed.names])) h]
   cases AB ts x <;> rfl
 | move x p=>
   show(match AB (rnT f ts) (f x) with | some v=>Deed.move (f x) v.1 | none=>.move (f x) p)=rnD f (match AB ts x with | some v=>.move x v.1 | none=>.move x p)
   rw[FF hf (hD x (by simp[Deed.names])) h]
   cases AB ts x <;> rfl
 | count x k=>rfl
 | name x y=>rfl
 | split x y p k=>rfl
 | join x y=>
   show(match AB (rnT f ts) (f y) with | some v=>Deed.split (f x) (f y) v.1 v.2 | none=>.join (f x) (f y))=rnD f (match AB ts y with | some v=>.split x y v.1 v.2 | none=>.join x y)
   rw[FF hf (hD y (by simp[Deed.names])) h]
   cases AB ts y <;> rfl
theorem lW (D:Deed):(rnD f D).made=D.made.map f:=by cases D <;> rfl
theorem R8 (D:Deed):(rnD f D).names=D.names.map f:=by cases D <;> rfl
theorem lX (D:Deed) {x:Str}(h:D.made=some x):x∈D.names:=by cases D <;> simp[Deed.made] at h <;> simp[Deed.names,h]
theorem gR (hf:HF f S) {ns:List Str}(h:∀n∈ns,n∈S) {D:Deed}(hD:∀x∈D.names,x∈S):AF (ns.map f) (rnD f D)=(AF ns D).map f:=by
 unfold AF
 rw[R8,List.find?_map]
 congr 1
 have:∀(l:List Str),(∀x∈l,x∈S)→l.find? ((fun n=>decide (n∈ns.map f)==decide ((rnD f D).made=some n))∘f)=l.find? fun n=>decide (n∈ns)==decide (D.made=some n):=by
   intro l
   induction l with
   | nil=>intro _;rfl
   | cons a r ih=>
     intro hl
     have ha:=hl a (by simp)
     have e1:decide (f a∈ns.map f)=decide (a∈ns):=by
       rw[Bool.eq_iff_iff,decide_eq_true_iff,decide_eq_true_iff,zL]
       exact⟨fun⟨b,hb,e⟩=>by rw[← hf b (h b hb) a ha e];exact hb,fun q=>⟨a,q,rfl⟩⟩
     have e2:decide ((rnD f D).made=some (f a))=decide (D.made=some a):=by
       rw[Bool.eq_iff_iff,decide_eq_true_iff,decide_eq_true_iff,lW]
       cases hm:D.made with
       | none=>simp
       | some b=>
         simp only[Option.map_some,Option.some.injEq]
         exact Z7 hf (hD b (lX D hm)) ha
     rw[List.find?_cons,List.find?_cons,ih fun x hx=>hl x (yV _ hx)]
     show(match (decide (f a∈ns.map f)==decide ((rnD f D).made=some (f a))) with | true=>some a | false=>_)=_
     rw[e1,e2]
     rfl
 exact this D.names hD
theorem rT (hf:HF f S) (h:∀t∈ts,t.1∈S) (nd:(ts.map (·.1)).Nodup):AJ (rnT f (AJ ts))=AJ (rnT f ts):=by
 have hp:(rnT f (AJ ts)).Perm (rnT f ts):=(AR ts).map _
 have nd2:((rnT f ts).map (·.1)).Nodup:=by
   rw[OG]
   unfold List.Nodup
   rw[List.pairwise_map]
   refine nd.imp_of_mem fun {a b} ha hb q e=>q ?_
   obtain⟨t,ht,rfl⟩:=zL.mp ha
   obtain⟨u,hu,rfl⟩:=zL.mp hb
   exact hf _ (h t ht) _ (h u hu) e
 have nd3:((rnT f (AJ ts)).map (·.1)).Nodup:=(hp.map _).nodup_iff.mpr nd2
 exact FX ((AR _).trans hp) (DU nd3)
end
def sgT (ts:List Th):List Th:=ts.map fun t=>(t.1,t.2.1,-t.2.2)
def sgD:Deed→Deed
 | .put x p k=>.put x p (-k) | .count x k=>.count x (-k) | .split x y p k=>.split x y p (-k) | D=>D
section
variable {ts:List Th}
theorem KH (ts:List Th):(sgT ts).map (·.1)=ts.map (·.1):=by unfold sgT;rw[zD];rfl
theorem FG (x:Str):∀ts:List Th,AB (sgT ts) x=(AB ts x).map fun v=>(v.1,-v.2)
 | []=>rfl
 | t::r=>by
   show AB ((t.1,t.2.1,-t.2.2)::sgT r) x=_
   unfold AB
   by_cases e:t.1=x
   · rw[if_pos e,if_pos e];rfl
   · rw[if_neg e,if_neg e];exact FG x r
theorem OI (ts:List Th) (x:Str) (p c:Int):B3 (sgT ts) x p (-c)=sgT (B3 ts x p c):=by
 unfold B3
 have e:((sgT ts).any fun t=>decide (t.1=x))=ts.any fun t=>decide (t.1=x):=by unfold sgT;rw[List.any_map];rfl
 rw[e]
 by_cases q:(ts.any fun t=>decide (t.1=x))=true
 · rw[if_pos q,if_pos q]
   unfold sgT
   rw[zD,zD]
   apply yM
   intro t _
   show(if t.1=x then (t.1,p,-c) else (t.1,t.2.1,-t.2.2))=((if t.1=x then (t.1,p,c) else t).1,(if t.1=x then (t.1,p,c) else t).2.1,-(if t.1=x then (t.1,p,c) else t).2.2)
   by_cases e2:t.1=x
   · rw[if_pos e2,if_pos e2]
   · rw[if_neg e2,if_neg e2]
 · rw[if_neg q,if_neg q]
   unfold sgT
   rw[xJ];rfl
theorem SG (ts:List Th) (x:Str):AS (sgT ts) x=sgT (AS ts x):=by
 unfold AS sgT;rw[xV];rfl
theorem X7 (ts:List Th) (x:Str) (k:Int):BG (sgT ts) x (-k)=sgT (BG ts x k):=by
 unfold BG
 rw[FG]
 cases AB ts x with
 | none=>rfl
 | some v=>
   show B3 (sgT ts) x v.1 (-v.2 + -k)=sgT (B3 ts x v.1 (v.2+k))
   rw[← OI,Int.neg_add]
theorem uL (ts:List Th) (D:Deed):doT (sgT ts) (sgD D)=sgT (doT ts D):=by
 cases D with
 | put x p k=>exact OI ts x p k
 | take x=>exact SG ts x
 | move x p=>
   show(match AB (sgT ts) x with | some v=>B3 (sgT ts) x p v.2 | none=>sgT ts)=sgT (match AB ts x with | some v=>B3 ts x p v.2 | none=>ts)
   rw[FG]
   cases AB ts x with
   | none=>rfl
   | some v=>exact OI ts x p v.2
 | count x k=>exact X7 ts x k
 | name x y=>
   show(match AB (sgT ts) x with | some v=>B3 (AS (sgT ts) x) y v.1 v.2 | none=>sgT ts)=sgT (match AB ts x with | some v=>B3 (AS ts x) y v.1 v.2 | none=>ts)
   rw[FG]
   cases AB ts x with
   | none=>rfl
   | some v=>
     show B3 (AS (sgT ts) x) y v.1 (-v.2)=sgT (B3 (AS ts x) y v.1 v.2)
     rw[SG,OI]
 | split x y p k=>
   show B3 (BG (sgT ts) x (- -k)) y p (-k)=sgT (B3 (BG ts x (-k)) y p k)
   rw[X7,OI]
 | join x y=>
   show(match AB (sgT ts) y with | some v=>AS (BG (sgT ts) x v.2) y | none=>sgT ts)=sgT (match AB ts y with | some v=>AS (BG ts x v.2) y | none=>ts)
   rw[FG]
   cases AB ts y with
   | none=>rfl
   | some v=>
     show AS (BG (sgT ts) x (-v.2)) y=sgT (AS (BG ts x v.2) y)
     rw[X7,SG]
theorem lY (ts:List Th) (D:Deed):AM (sgT ts) (sgD D)=sgD (AM ts D):=by
 cases D with
 | put x p k=>rfl
 | take x=>
   show(match AB (sgT ts) x with | some v=>Deed.put x v.1 v.2 | none=>.take x)=sgD (match AB ts x with | some v=>.put x v.1 v.2 | none=>.take x)
   rw[FG]
   cases AB ts x <;> rfl
 | move x p=>
   show(match AB (sgT ts) x with | some v=>Deed.move x v.1 | none=>.move x p)=sgD (match AB ts x with | some v=>.move x v.1 | none=>.move x p)
   rw[FG]
   cases AB ts x <;> rfl
 | count x k=>rfl
 | name x y=>rfl
 | split x y p k=>rfl
 | join x y=>
   show(match AB (sgT ts) y with | some v=>Deed.split x y v.1 v.2 | none=>.join x y)=sgD (match AB ts y with | some v=>.split x y v.1 v.2 | none=>.join x y)
   rw[FG]
   cases AB ts y <;> rfl
theorem UR (ns:List Str) (D:Deed):AF ns (sgD D)=AF ns D:=by cases D <;> rfl
theorem rV (nd:(ts.map (·.1)).Nodup):AJ (sgT ts)=sgT (AJ ts):=by
 refine(FX (bs:=sgT ts) ((AR ts).map _) ?_).symm
 show Ris ((sgT (AJ ts)).map (·.1))
 rw[KH];exact DU nd
end
end DL
namespace L2
open PySem PySem.Spec PyProof.Rows PySem.Builtin PySem.Builtin.Str
section
variable {X:Cx}
theorem uM:∀(k:Nat) (ss:List Str),Vals (ss.map V.str) (strsFrom k ss)
 | _,[]=>.nil
 | k,x::r=>.cons ⟨_,rfl⟩ (uM (k+1) r)
def X8:V→List V→Hp→VK→Prop:=fun v vs H Q=>∃x y,v = .str x∧vs=[.str y]∧(y.length==0)=false∧x.length+2≤sizeLine∧∀p,H p=none→Q (.ref p) (upd H p (.lst ((Txt.split x y).map V.str)))
theorem gS:MtR X "str.split" X8:=by
 intro pins s σ H v vs v' us Q I rx rv h
 obtain⟨x,y,rfl,rfl,hy,hsz,q⟩:=h
 obtain⟨t,rfl⟩:=rx
 obtain⟨u,rfl,t',rfl⟩:=F7 rv
 have hno:H s.heap.objs.size=none:=I.hok.fresh (zR _)
 have hn:(partsBetween x (occurrences x y 0 x.length (x.length+1)) y.length).length≤sizeLine:=by
   have e1:=StrLaws.occ_length_le x y 0 x.length (x.length+1)
   rw[length_partsBetween];omega
 have fin:∀(its:List Value) (k:Nat),Vals ((Txt.split x y).map V.str) its→(Txt.split x y).length≤sizeLine→EP X pins σ Q (.ref s.heap.objs.size) { s with toks:=k,heap:=s.heap.push { cls:=.type "list", data:=.seq its.toArray } }:=fun its k hv hl=>
   ⟨.ref s.heap.objs.size,_,I.laid (o:=.lst ((Txt.split x y).map V.str)) (fun b o e=>zW _ e) (zR _) ⟨by rw[zX];exact hl,its,0,hv,yZ s.heap rfl⟩,rfl,q _ hno⟩
 have one:Txt.split x y=[x]→EP X pins σ Q (.ref s.heap.objs.size) { s with heap:=s.heap.push { cls:=.type "list", data:=.seq [Value.str x t].toArray } }:=fun e=>
   fin [.str x t] s.toks (by rw[e];exact .cons ⟨t,rfl⟩ .nil) (by rw[e];exact zN (show 1≤2 by decide) (zN (Nat.le_add_left _ _) hsz))
 cases h1:(decide (x.length < y.length)||decide (strKind x < strKind y))
 · cases hf:(occurrences x y 0 x.length (x.length+1)).isEmpty
   · refine call_meets F.slot_str_split (typeIs_str _ _ _) F.entry_str_split (F.args_str_split_2 _ _) (meets_str_split_sep x y t t' h1 hy hf (by omega) hn) ?_
     have e:Txt.split x y=partsBetween x (occurrences x y 0 x.length (x.length+1)) y.length:=(if_neg (ne_true_of_eq_false h1)).trans (if_neg (ne_true_of_eq_false hf))
     exact fin _ _ (by rw[e];exact uM _ _) (by rw[e];exact hn)
   · exact call_meets F.slot_str_split (typeIs_str _ _ _) F.entry_str_split (F.args_str_split_2 _ _) (meets_str_split_not_found x y t t' h1 hy hf) (one ((if_neg (ne_true_of_eq_false h1)).trans (if_pos hf)))
 · exact call_meets F.slot_str_split (typeIs_str _ _ _) F.entry_str_split (F.args_str_split_2 _ _) (meets_str_split_cannot_occur x y t t' h1) (one (if_pos h1))
def X9:V→List V→Hp→VK→Prop:=fun v vs H Q=>∃x y i r,v = .str x∧vs=[.str y]∧occurrences x y 0 x.length 1=i::r∧Q (.int (i:Nat)) H
theorem gT:MtR X "str.index" X9:=by
 intro pins s σ H v vs v' us Q I rx rv h
 obtain⟨x,y,i,r,rfl,rfl,ho,q⟩:=h
 obtain⟨t,rfl⟩:=rx
 obtain⟨u,rfl,t',rfl⟩:=F7 rv
 exact SC.index ho ⟨.int i,H,I.tok _,⟨_,rfl⟩,q⟩
end
end L2
namespace L2
open PySem PySem.Spec PyProof.Rows PySem.Builtin PySem.Builtin.Str
section
variable {prog:Program}{w:World}{A:Around}{E:Value→Shared→Prop}{s:Shared}{I l:Addr}{items:Array Value}
theorem bA:typeLookup (.type "list_reverseiterator") "__len__"=pure none:=by rw[typeLookup_type,builtinLookup_eq_fast];kernel_rfl
theorem gU:typeLookup (.type "list_reverseiterator") "__length_hint__"=pure (some (.builtin "list_reverseiterator.__length_hint__")):=by rw[typeLookup_type,builtinLookup_eq_fast];kernel_rfl
theorem US {Q:List Value→Shared→Prop}(hh:A.handled=none) (hne:l≠I) (hit:s.heap.IsRevIter I l ((items.size:Int) - 1)) (hl:s.heap.IsList l items) (hn:items.size≤sizeLine)
   (hQ:∀s',(∀b o,b≠I→s.heap.get? b=some o→s'.heap.get? b=some o)→s'.gens=s.gens→s'.drawn=s.drawn→s'.os=s.os→Q items.toList.reverse s'):wpAny (model prog w) A (collect (.ref I)) Q E s:=by
 have W:=(Walks.listRev (prog:=prog) (w:=w) (A:=A.in1) hh I l hne items).toS
 have st0:0≤items.size∧s.heap.IsRevIter I l ((items.size:Int) - 1 - ((0:Nat):Int))∧s.heap.IsList l items:=⟨xU _,by simpa using hit,hl⟩
 have hT:∀(i:Nat) (r:Shared),(i≤items.size∧r.heap.IsRevIter I l ((items.size:Int) - 1 - (i:Int))∧r.heap.IsList l items)→r.TypeIs (.ref I) "list_reverseiterator" := fun i r x=>x.2.1.typeIs
 have hI:I < s.heap.objs.size:=by obtain⟨o,ho,_⟩:=hit;exact zM ho
 have hl':l < s.heap.objs.size:=by obtain⟨o,ho,_⟩:=hl;exact zM ho
 have hSf:s.heap.objs.size∉[I,l]:=fun hm=>by
   rcases yX.mp hm with e | e
   · exact Nat.ne_of_gt hI e
   · exact Nat.ne_of_gt hl' (List.mem_singleton.mp e)
 have hSI:s.heap.objs.size≠I:=Nat.ne_of_gt hI
 unfold collect
 refine zZ (wpAny_runValue (codeAny_builtin F.entry_proto_collect ?_))
 rw[Around.under_plainId F.plain_proto_collect _]
 show wpAny _ A.in1 (newList [] >>= fun l=>again (.builtin "list.__iadd__" ⟨[l,.ref I],[]⟩)) _ _ s
 refine zZ (xN (zY ⟨plainId_quiet F.plain_list_iadd _,codeAny_builtin F.entry_list_iadd ?_⟩))
 rw[Around.under_plainId F.plain_list_iadd _]
 have st1:=W.frame 0 s (s.heap.push { cls:=.type "list", data:=.seq ([]:List Value).toArray }) s.toks st0 (zR _) fun b _ o e=>zW _ e
 have hS1:(s.heap.push { cls:=.type "list", data:=.seq ([]:List Value).toArray }).get? s.heap.objs.size=some { cls:=.type "list", data:=.seq ([]:List Value).toArray }:=yZ _ rfl
 have h1:Builtin.List.listSameRef (.ref s.heap.objs.size) (.ref I)=false:=by simp[Builtin.List.listSameRef,hSI]
 show wpAny _ A.in1 (Builtin.List.listExtendWith (.ref s.heap.objs.size) (.ref I) (.ref s.heap.objs.size)) _ _ _
 unfold Builtin.List.listExtendWith
 refine zZ (wpAny_typeOf (hT 0 _ st1) ?_)
 rw[if_neg (by rw[h1];decide)]
 refine zZ (W.self 0 _ _ _ st1 (zZ (wpAny_holding ?_)))
 unfold Builtin.List.listLengthHint
 refine zZ (wpAny_specialOf (hT 0 _ st1) bA ?_)
 show wpAny _ A.in1 (specialOf (Value.ref I) (Str.ofString "__length_hint__") >>= _) _ _ _
 refine zZ (wpAny_specialOf (hT 0 _ st1) gU ?_)
 generalize hid:("list_reverseiterator.__length_hint__":String)=id0
 wp_delta
 rw[show splitId id0=some ("list_reverseiterator", "__length_hint__") from by subst hid;decide +kernel]
 subst hid
 refine zZ (wpAny_isInstance (b:=true) (hT 0 _ st1) (by rw[isSubtype_type];kernel_rfl) (zY ?_))
 rw[if_neg (by decide)]
 refine zY ⟨plainId_quiet F.plain_extend_loop _,codeAny_extend_loopS W hn _ hSf _ items.size 0 _ _ _ rfl (xU _) st1 hS1 (ItemsOf.nil _) fun s' acc' c' hm hS' hacc=>?_⟩
 show wpAny _ A (load s.heap.objs.size >>= _) _ _ s'
 refine zZ (wpAny_load hS' (zY ?_))
 have M:=Moved.drop_new (o:={ cls:=.type "list", data:=.seq ([]:List Value).toArray }) (tk:=s.toks) hm (zR _)
 have e:acc'.toList=items.toList.reverse:=by
   refine List.ext_getElem? fun i=>?_
   by_cases hi:i < items.size
   · have h2:i < acc'.size:=by rw[hacc.1];exact hi
     have:=hacc.2 i _ (Array.getElem?_eq_getElem h2)
     rw[List.getElem?_reverse (by simpa using hi)]
     simp only[Array.length_toList,Array.getElem?_toList]
     rw[Array.getElem?_eq_getElem h2]
     exact this.symm
   · rw[List.getElem?_eq_none (by simp[hacc.1];omega),List.getElem?_eq_none (by simp;omega)]
 show Q acc'.toList s'
 rw[e]
 exact hQ s' (fun b o hb eo=>M.heap b o (fun h=>hb (List.mem_singleton.mp h)) eo) M.gens M.drawn M.os
end
section
variable {X:Cx}
def OJ (K:Frg) (y:Str) (te:TE):TE:=fun σ H Q=>YC te pG σ H fun vs H1=>∃(l:Addr) (ys:List Str),vs=[.ref l]∧SqL K H1 l (ys.map V.str)∧(ys.map (·.length)).sum+ys.length*y.length≤16777216∧Q (.str (Txt.join y ys.reverse)) H1
theorem XA (y:Str):∀m:List (Str×Tok),tooLong ((m.map (·.1)).toArray.foldl (·+·.length+y.length) 0)=false→Gives (joinTail y (strValues m)) (joinMade y m)
 | [],h=>gives_joinTail y [] h
 | [p],h=>gives_joinTail y [p] h
 | p::q::r,h=>gives_joinTail y (p::q::r) h
theorem gV {A:Around}{E:Value→Shared→Prop}{s:Shared}{prog:Program}{w:World}{y:Str}{t:Tok}{I l:Addr}{ys:List Str}{its:List Value}{Q:Value→Shared→Prop}(hh:A.handled=none) (hne:l≠I) (hit:s.heap.IsRevIter I l ((its.toArray.size:Int) - 1)) (hl:s.heap.IsList l its.toArray) (hs:StrsAre its ys)
   (hz:(ys.map (·.length)).sum+ys.length*y.length≤16777216) (hn:its.length≤sizeLine)
   (hQ:∀(s':Shared) (t':Tok) (k:Nat),(∀b o,b≠I→s.heap.get? b=some o→s'.heap.get? b=some o)→s'.gens=s.gens→s'.drawn=s.drawn→s'.os=s.os→Q (.str (Txt.join y ys.reverse) t') { s' with toks:=k }) :
   wpAny (model prog w) A (call (.builtin "str.join") [.str y t,.ref I]) Q E s:=by
 refine wpAny_call (codeAny_call_builtin F.slot_str_join.plain F.entry_str_join (F.slot_str_join.check _ _ _ _ _ _ _ _ (typeIs_str _ _ _) (F.args_str_join_2 _ _) ?_))
 rw[join_tree_other]
 refine zZ (wpAny_typeOf hit.typeIs ?_)
 show wpAny _ A.in1 ((pyIter (.ref I)).tryCatch _ >>= fun it=>collect it >>= fun items=>joinTail y items) _ _ s
 refine zZ (wpAny_tryCatch (wpAny_pyIter_revIter hit ?_))
 refine zZ (US hh hne hit hl (by simpa using hn) fun s' k1 k2 k3 k4=>?_)
 obtain⟨l0,hv,ht⟩:=strsAre_values hs
 have e:its.toArray.toList.reverse=strValues l0.reverse:=by
   show its.reverse=_
   rw[hv];unfold strValues;rw[List.map_reverse]
 have e2:l0.reverse.map (·.1)=ys.reverse:=by rw[List.map_reverse,ht]
 rw[e]
 have hok:JoinOk y (l0.reverse.map (·.1))=true:=joinOk_of (by rw[e2,List.map_reverse,List.sum_reverse,List.length_reverse];exact hz)
 unfold JoinOk at hok
 rw[Bool.not_eq_true'] at hok
 have g:=XA y l0.reverse hok
 exact g prog w A (wants Q E) s' (post_join _ ⟨joinFit_length hok,fun t' k=>by rw[e2];exact hQ s' t' k k1 k2 k3 k4⟩)
theorem XB {y:Str}{j:Nat}{e:Expr}{x:Str}{te:TE}{cp ap np rp pos:Pos}(he:PE X e te) (hh:X.A.handled=none) (hg:Gl X x) (hm:X.mg x=none) (hv:bootBuiltins x=some (.type "reversed"))
   (hn:x ≠ "__name__" := by decide) (hdb:(x==("__debug__":Str))=false:=by decide)
   (hbase:attributeBase (.Constant (.str y) j cp) "join" X.env (eval (.Constant (.str y) j cp) X.env)=eval (.Constant (.str y) j cp) X.env:=by rfl)
   (hfew:((backTo pos (starEach [.Call (.Name x np) [e] [] rp] X.env)).all (fun x=>!x.1)&&(backToKw pos (keywordEach [] X.env)).all (fun x=>x.1.isSome)
     && decide ([Expr.Call (.Name x np) [e] [] rp].length+([]:List Keyword).length+(if ([]:List Keyword).isEmpty then 0 else 1) < 30))=true:=by rfl)
   (hline:(ap.endLine==pos.line)=true:=by rfl) (hs:starEach [.Call (.Name x np) [e] [] rp] X.env=[(false,eval (.Call (.Name x np) [e] [] rp) X.env)]:=by rfl)
   (he1:starEach [e] X.env=[(false,eval e X.env)]:=by rfl) :
   PE X (.Call (.Attribute (.Constant (.str y) j cp) "join" ap) [.Call (.Name x np) [e] [] rp] [] pos) (OJ X.K y te):=by
 intro pins s σ H Q I h
 refine wpAny_Call_method_late hbase hfew hline rfl (Calls.Constant_str ?_)
 refine⟨"str", "str.join", F.plainAttrs_str,F.slot_str_join,F.type_str_join,typeIs_str _ _ _,?_⟩
 refine⟨(fun a e=>nomatch e),?_⟩
 rw[hs]
 refine Calls.callWith_builtin rfl (Calls.evalArgs_plain ?_)
 show wpAny _ _ (spliced ((false,eval (.Call (.Name x np) [e] [] rp) X.env)::backTo pos (starEach [] X.env))) _ _ _
 refine xQ ?_
 have I1:Inv X pins σ H { s with toks:=s.toks+1 }:=I.tok _
 refine wpAny_Call_Name_kw (JI I1 hg hm hv ?_ hn hdb)
 refine xI (thn ((YD he cR he1) rp pins _ σ H (fun vs H2=>∃(l:Addr) (ys:List Str),vs=[.ref l]∧SqL X.K H2 l (ys.map V.str)∧(ys.map (·.length)).sum+ys.length*y.length≤16777216∧Q (.str (Txt.join y ys.reverse)) H2) I1 ?_) fun us s2 ⟨vs,H2,I2,r2,l,ys,evs,hl,hz,q⟩=>?_) he1 rfl
 · exact h
 subst evs
 obtain⟨u,rfl,ru⟩:=F7 r2
 cases ru
 obtain⟨its,rv,pl,hsz⟩:=I2.list hl
 refine call_reversed_list pl.isList ?_
 show wpAny _ _ (spliced []) _ _ _
 refine zY ?_
 have hlt:l < s2.heap.objs.size:=by obtain⟨o,ho,_⟩:=pl.isList;exact zM ho
 have hle:its.length≤sizeLine:=by rw[← rv.length];exact hsz
 refine gV (l:=l) (its:=its) (ys:=ys) hh (zC hlt) ⟨_,yZ _ rfl,rfl,rfl⟩ (pl.isList.at fun o eo=>zW _ eo) (MY rv) hz hle fun s' t' k k1 k2 k3 k4=>?_
 refine⟨.str _,H2,?_,⟨_,rfl⟩,q⟩
 obtain⟨h',g',d',tk',os'⟩:=s'
 cases k2
 cases k3
 cases k4
 exact I2.kept fun b u eb=>k1 b u (zC (zM eb)) (zW _ eb)
end
end L2
namespace DL
open PySem PySem.Spec L2 PySem.Builtin.Str
section
variable {X:Cx}{K:Frg}
theorem rW (_:X.K=K):MtR X "str.split" X8:=gS
theorem rX (_:X.K=K):MtR X "str.index" X9:=gT
theorem UT {y:Str}{j:Nat}{e:Expr}{x:Str}{te:TE}{cp ap np rp pos:Pos}(h:X.K=K) (he:PE X e te) (hh:X.A.handled=none) (hg:Gl X x) (hm:X.mg x=none) (hv:bootBuiltins x=some (.type "reversed"))
   (hn:x ≠ "__name__" := by decide) (hdb:(x==("__debug__":Str))=false:=by decide)
   (hbase:attributeBase (.Constant (.str y) j cp) "join" X.env (eval (.Constant (.str y) j cp) X.env)=eval (.Constant (.str y) j cp) X.env:=by rfl)
   (hfew:((backTo pos (starEach [.Call (.Name x np) [e] [] rp] X.env)).all (fun x=>!x.1)&&(backToKw pos (keywordEach [] X.env)).all (fun x=>x.1.isSome)
     && decide ([Expr.Call (.Name x np) [e] [] rp].length+([]:List Keyword).length+(if ([]:List Keyword).isEmpty then 0 else 1) < 30))=true:=by rfl)
   (hline:(ap.endLine==pos.line)=true:=by rfl) (hs:starEach [.Call (.Name x np) [e] [] rp] X.env=[(false,eval (.Call (.Name x np) [e] [] rp) X.env)]:=by rfl)
   (he1:starEach [e] X.env=[(false,eval e X.env)]:=by rfl) :
   PE X (.Call (.Attribute (.Constant (.str y) j cp) "join" ap) [.Call (.Name x np) [e] [] rp] [] pos) (OJ K y te):=h▸XB he hh hg hm hv hn hdb hbase hfew hline hs he1
end
section
variable {K:Frg}{ρ:List (Option DS)}{M:Own}{Q:DS→Own→Prop}{te:TE}{tc:TT}{D:EndsD}
theorem gW {x y:Str}(hy:(y.length==0)=false) (hx:x.length+2≤sizeLine) (q:Q (.d (.list ((Txt.split x y).map .str))) M):DM K X8 (.d (.str x)) [.d (.str y)] M Q:=fun H v vs QQ oa s1 s2 k=>by
 obtain⟨u,r,rfl,h1,h2⟩:=s2
 cases h2
 rw[AT s1,AT h1]
 refine⟨x,y,rfl,rfl,hy,hx,fun p hp=>?_⟩
 have g:Grow K M.W M.W H (upd H p (.lst ((Txt.split x y).map V.str))):=AW _ hp
 refine k _ _ (.d (.list ((Txt.split x y).map .str))) M (oa.new hp) ?_ ⟨g⟩ q
 unfold SI DV
 exact⟨p,_,rfl,.inl ⟨fun w=>w (oa.none hp),.inl AG⟩,HI⟩
theorem gX {x y:Str}{i:Nat}{r:List Nat}(ho:occurrences x y 0 x.length 1=i::r) (q:Q (.d (.int i)) M):DM K X9 (.d (.str x)) [.d (.str y)] M Q:=fun H v vs QQ oa s1 s2 k=>by
 obtain⟨u,r',rfl,h1,h2⟩:=s2
 cases h2
 rw[AT s1,AT h1]
 exact⟨x,y,i,r,rfl,rfl,ho,k _ H _ M oa BR Step.refl q⟩
theorem ME {y:Str}(h:DE K te ρ M fun v M1=>∃(a:Addr) (ys:List Str),v = .loc a∧M1 a=some (.l (ys.map .str))∧(ys.map (·.length)).sum+ys.length*y.length≤16777216∧Q (.d (.str (Txt.join y ys.reverse))) M1):DE K (OJ K y te) ρ M Q:=fun σ H QQ R k=>
 h σ H _ R fun v H1 x M1 o1 s1 t1 ⟨a,ys,e,m,hz,q⟩=>by
   subst e
   unfold SI at s1
   subst s1
   obtain⟨vs,e,hd⟩:=o1 a _ m
   rw[HH hd] at e
   exact⟨a,ys,rfl,.inl (.inl e),hz,k _ H1 _ M1 o1 BS t1 q⟩
theorem R9 (h:DT K tc ρ M fun c M1=>c=false∧D.nx ρ M1):DSt K (cH tc VY) ρ M D:=fun σ H E R k1 k2 k3 k4=>by
 refine⟨fun _ σ' H'=>σ'=σ∧H'=H,⟨0,rfl,rfl⟩,?_⟩
 rintro m σ' H' ⟨rfl,rfl⟩
 refine h _ _ _ R fun c H1 M1 o1 t1 ⟨e,q⟩=>?_
 subst e
 rw[if_neg nft]
 exact k1 ρ M1 _ H1 (R.step o1 t1) t1 q
end
end DL
namespace DL
open PySem PySem.Spec L2 PySem.Builtin.Str PySem.StrLaws
theorem FY (a b:Str):(a++b).cps.toList=a.cps.toList++b.cps.toList:=by
 show(a.cps++b.cps).toList=_
 simp
theorem HU (x:Str) (i j:Nat):(strSub x i j).cps.toList=(x.cps.toList.drop i).take (j - i):=by
 show(x.cps.extract i j).toList=_
 rw[Array.toList_extract,List.extract_eq_take_drop]
def D6 (n:Nat):List Nat:=(Nat.toDigits 10 n).map Char.toNat
theorem Z8 {n:Nat}(h:n < 10):D6 n=[48+n]:=by
 unfold D6
 rw[Nat.toDigits_of_lt_base h]
 show [(Nat.digitChar n).toNat]=_
 rw[Nat.toNat_digitChar_of_lt_ten h]
theorem lZ {n:Nat}(h:10≤n):D6 n=D6 (n/10)++[48+n % 10]:=by
 unfold D6
 rw[Nat.toDigits_of_base_le (by decide) h,xJ]
 show _++[(Nat.digitChar (n % 10)).toNat]=_
 rw[Nat.toNat_digitChar_of_lt_ten (Nat.mod_lt _ (by decide))]
def MR (l:List Nat) (a:Int):Int:=l.foldl (fun a c=>a*10+((c - 48:Nat):Int)) a
theorem OK (n:Nat):(∀c∈D6 n,48≤c∧c≤57)∧D6 n≠[]∧MR (D6 n) 0=n∧(∀r,D6 n=48::r→n=0)∧(∀k,n < 10 ^ (k+1)→(D6 n).length≤k+1):=by
 induction n using Nat.strongRecOn with
 | ind n ih=>
   by_cases h:n < 10
   · rw[Z8 h]
     refine⟨fun c hc=>?_,by simp,?_,fun r e=>?_,fun k _=>by simp⟩
     · have:c=48+n:=by simpa using hc
       omega
     · show(0:Int)*10+((48+n - 48:Nat):Int)=n
       omega
     · injection e with e1 e2;omega
   · have h10:10≤n:=by omega
     obtain⟨i1,i2,i3,i4,i5⟩:=ih (n/10) (by omega)
     rw[lZ h10]
     refine⟨fun c hc=>?_,by simp,?_,fun r e=>?_,fun k hk=>?_⟩
     · rcases yW.mp hc with q | q
       · exact i1 c q
       · have:c=48+n % 10:=by simpa using q
         omega
     · unfold MR at i3 ⊢
       rw[List.foldl_append,i3]
       show((n/10:Nat):Int)*10+((48+n % 10 - 48:Nat):Int)=n
       omega
     · cases hd:D6 (n/10) with
       | nil=>exact absurd hd i2
       | cons y ys=>
         rw[hd] at e
         injection e with e1 e2
         have:=i4 ys (by rw[hd,e1])
         omega
     · cases k with
       | zero=>omega
       | succ k=>
         have:=i5 k (by rw[Nat.div_lt_iff_lt_mul (by decide)];rw[← Nat.pow_succ];exact hk)
         rw[yY]
         simp only[yR,List.length_nil]
         omega
def CK (n:Int):Str:=Str.ofString (toString n)
theorem OL (cs:List Char):(Str.ofString (String.ofList cs)).cps.toList=cs.map Char.toNat:=by
 rw[PySem.W.Fast.ofString_ofList]
theorem OM (n:Nat):(CK n).cps.toList=D6 n:=by
 unfold CK
 show(Str.ofString (toString n)).cps.toList=_
 rw[Nat.toString_eq_ofList_toDigits,OL]
 rfl
theorem UU (m:Nat):CK (-((m:Int)+1))=Str.ofString "-" ++ CK ((m:Int)+1):=by
 refine GG ?_
 rw[FY,show((m:Int)+1)=((m+1:Nat):Int) from rfl,OM]
 unfold CK
 show(Str.ofString (toString (Int.negSucc m))).cps.toList=_
 show(Str.ofString ("-" ++ toString (m+1))).cps.toList=_
 rw[show("-" ++ toString (m+1):String)=String.ofList ('-'::Nat.toDigits 10 (m+1)) by rw[Nat.toString_eq_ofList_toDigits,show("-":String)=String.ofList ['-'] by decide +kernel,← String.ofList_append];rfl,OL]
 rfl
end DL
namespace DL
open PySem PySem.Spec L2 PySem.Builtin.Str PySem.StrLaws
def big (n:Int):Prop:=-1000000000000000000 < n∧n < 1000000000000000000
theorem RA (n:Int) (h:big n):∃m:Nat,m < 10 ^ 18∧((0≤n∧n=m∧(CK n).cps.toList=D6 m)∨(n < 0∧n = -(m:Int)∧0 < m∧(CK n).cps.toList=45::D6 m)):=by
 obtain⟨h1,h2⟩:=h
 by_cases hn:0≤n
 · obtain⟨m,rfl⟩:=Int.eq_ofNat_of_zero_le hn
   exact⟨m,by omega,.inl ⟨hn,rfl,OM m⟩⟩
 · obtain⟨m,hm⟩:∃m:Nat,n = -((m:Int)+1):=⟨(-n - 1).toNat,by omega⟩
   subst hm
   refine⟨m+1,by omega,.inr ⟨by omega,by omega,by omega,?_⟩⟩
   rw[UU,FY,show((m:Int)+1)=((m+1:Nat):Int) from rfl,OM]
   rfl
theorem IQ {n:Int}(h:big n):(∀c∈(CK n).cps.toList,c=45∨(48≤c∧c≤57))∧(CK n).length≤19:=by
 obtain⟨m,hm,⟨_,_,e⟩ | ⟨_,_,_,e⟩⟩:=RA n h
 all_goals
   obtain⟨d1,d2,d3,d4,d5⟩:=OK m
   have hl:=d5 17 hm
   have el:(CK n).length=(CK n).cps.toList.length:=by show(CK n).cps.size=_;simp
   rw[el,e]
 · exact⟨fun c hc=>.inr (d1 c hc),by omega⟩
 · refine⟨fun c hc=>?_,by simp only[yR];omega⟩
   rcases yX.mp hc with q | q
   · exact .inl q
   · exact .inr (d1 c q)
theorem Z9 {n:Int}(h:big n):n.natAbs.log2 < 1920:=by
 obtain⟨h1,h2⟩:=h
 by_cases h0:n.natAbs=0
 · rw[h0];decide
 · rw[Nat.log2_lt h0]
   exact zP (show n.natAbs < 2 ^ 60 by omega) (Nat.pow_le_pow_right (by decide) (by decide))
theorem ZA {n:Nat}(h:n < 1000000000000000000):big n:=⟨by omega,by omega⟩
theorem gY:∀c:Fin 10,∃r,occurrences (Str.ofString "0123456789") ⟨#[c.val+48]⟩ 0 (Str.ofString "0123456789").length 1=c.val::r:=by
 have:∀c:Fin 10,occurrences (Str.ofString "0123456789") ⟨#[c.val+48]⟩ 0 (Str.ofString "0123456789").length 1=[c.val]:=by decide +kernel
 exact fun c=>⟨[],this c⟩
theorem rY {c:Nat}(h:48≤c∧c≤57):∃r,occurrences (Str.ofString "0123456789") ⟨#[c]⟩ 0 (Str.ofString "0123456789").length 1=(c - 48)::r:=by
 obtain⟨r,hr⟩:=gY ⟨c - 48,by omega⟩
 refine⟨r,?_⟩
 rw[← hr]
 show _=occurrences _ ⟨#[c - 48+48]⟩ _ _ _
 rw[show c - 48+48=c by omega]
theorem SH (x:Str):Txt.startswith x (Str.ofString "-")=decide (x.cps.toList.head?=some 45):=by
 have h:=subAt_one x 45 0
 unfold Txt.startswith
 rw[show Str.ofString "-"=⟨#[45]⟩ by decide +kernel,Bool.eq_iff_iff,decide_eq_true_iff,Bool.and_eq_true,decide_eq_true_iff,h]
 cases x.cps.toList <;> simp
theorem bB {z:Str}(h2:∀c∈z.cps.toList,c < 128):PyData.strOk z=true:=by
 unfold PyData.strOk
 rw[Array.all_eq_true']
 intro c hc
 have:=h2 c (by simpa using hc)
 simp;omega
theorem JV {z:Str}(h2:∀c∈z.cps.toList,c < 128):zH (.str z)=true:=D0 (bB h2) (by simp[PyData.depth])
theorem XD (a b:Str):PyData.eqv (.str a) (.str b)=(a==b):=by simp[PyData.eqv]
def uN:PyData→PyData | .int n=>.str (CK n) | d=>d
def FO:FSp:=fn1 (fun d=>∃n:Nat,d = .int n∧n < 1000000000000000000) uN
def GM:FSp:=fn1 (fun d=>∃n:Int,d = .int n∧big n) uN
end DL
namespace DL
open PySem PySem.Spec L2 PySem.Builtin.Str PySem.StrLaws PySem.Builtin.Str L2
def PH (c:Nat):Bool:=decide (48≤c)&&decide (c≤57)
def MS (l:List Nat):Bool:=!l.isEmpty&&l.all PH
def uO:PyData→PyData | .str s=>.bool (MS s.cps.toList) | d=>d
def nZ (d:PyData):Prop:=∃s,d = .str s∧okS s
def C0:FSp:=fn1 nZ uO
def CA (l:List Nat):List Nat:=if l.head?=some 45 then l.tail else l
def rwL (l:List Nat):Option Int:=
 if MS (CA l)&&!(decide ((CA l).head?=some 48)&&!decide (l=[48])) then some (if l.head?=some 45 then - MR (CA l) 0 else MR (CA l) 0) else none
def XE:Option Int→PyData | some n=>.int n | none=>.none
def rwD:PyData→PyData | .str s=>XE (rwL s.cps.toList) | d=>d
def CP:FSp:=fn1 nZ rwD
theorem UV {c:Nat}:PH c=true↔48≤c∧c≤57:=by unfold PH;simp
theorem UW:∀c:Fin 128,(!(occurrences (Str.ofString "0123456789") ⟨#[c.1]⟩ 0 (Str.ofString "0123456789").length 1).isEmpty)=PH c.1:=by decide +kernel
theorem gZ {c:Nat}(h:c < 128):(!(occurrences (Str.ofString "0123456789") ⟨#[c]⟩ 0 (Str.ofString "0123456789").length 1).isEmpty)=PH c:=UW ⟨c,h⟩
def h7:PyData→Bool | .str s=>s.cps.toList.all PH | _=>false
theorem bC (l:List Nat):((l.map fun c=>PyData.str ⟨#[c]⟩).filter fun _=>true).map (fun d=>PyData.bool (h7 d))=(l.map PH).map .bool:=by
 rw[List.filter_eq_self.mpr (fun _ _=>rfl),zD,zD]
 apply yM
 intro c _
 show PyData.bool (h7 (.str ⟨#[c]⟩)) = .bool (PH c)
 simp[h7]
theorem bD (l:List Nat):(l.map PH).all id=l.all PH:=by rw[List.all_map];rfl
theorem m5 {s:Str}(h:okS s):okS ⟨⟨CA s.cps.toList⟩⟩:=by
 unfold CA
 split
 · exact⟨by have:=h.1;simp only[Array.size] at this ⊢;rw[List.length_tail];omega,fun c hc=>h.2 c (List.mem_of_mem_tail hc)⟩
 · exact h
theorem hU {x:Str}(h:okS x) (a b:Nat):okS (strSub x a b):=by
 have hx:x.cps.toList.length≤5000:=h.1
 refine⟨?_,fun c hc=>?_⟩
 · show(strSub x a b).cps.toList.length≤5000
   rw[HU,List.length_take,List.length_drop];omega
 · rw[HU] at hc
   exact h.2 c (List.mem_of_mem_drop (List.mem_of_mem_take hc))
theorem ZB {x:Str}(h:okS x) (n:Nat):∀(l:List Nat) (a:Nat),∀p∈partsFrom x n a l,okS p
 | [],a,p,hp=>by
   have:p=strSub x a x.length:=by simpa [partsFrom] using hp
   rw[this];exact hU h _ _
 | c::r,a,p,hp=>by
   rcases yX.mp hp with e | e
   · rw[e];exact hU h _ _
   · exact ZB h n r _ p e
theorem UX (x:Str) (n:Nat):∀(l:List Nat) (a:Nat),(partsFrom x n a l).length=l.length+1
 | [],a=>rfl
 | c::r,a=>by
   show(strSub x a c::partsFrom x n (c+n) r).length=_
   rw[yR,UX x n r];rfl
end DL
namespace XC
open PySem PySem.Spec
def LL (h:Heap) (e:Addr) (cls:Value) (dd:Option Addr) (ar:Value) (T:Option Addr) (fl:Value):Prop:=
 ∃oe vs,h.get? e=some oe∧oe.cls=cls∧oe.dict=dd∧oe.data = .fields vs∧vs[0]?=some ar ∧
   match T with
   | none=>vs[1]?=some .none
   | some T=>vs[1]?=some (.ref T)∧T≠e∧∃oT ts,h.get? T=some oT∧oT.data = .fields ts∧ts[3]?=some fl
structure Moved (fs ch:List Addr) (h h':Heap):Prop where
 keep:∀b o,h.get? b=some o→b∉fs→b∉ch→h'.get? b=some o
 slot:∀b o,h.get? b=some o→b∉ch→∃sl,h'.get? b=some { o with slots:=sl }
 there:∀b o,h.get? b=some o→∃o',h'.get? b=some o'
theorem Moved.refl (fs ch:List Addr) (h:Heap):Moved fs ch h h:=⟨fun _ _ e _ _=>e,fun _ o e _=>⟨o.slots,e⟩,fun _ o e=>⟨o,e⟩⟩
theorem Moved.trans {fs ch:List Addr}{h h1 h2:Heap}(a:Moved fs ch h h1) (b:Moved fs ch h1 h2):Moved fs ch h h2 where
 keep:=fun c o e n m=>b.keep c o (a.keep c o e n m) n m
 slot:=fun c o e m=>by
   obtain⟨sl,e1⟩:=a.slot c o e m
   obtain⟨sl',e2⟩:=b.slot c _ e1 m
   exact⟨sl',e2⟩
 there:=fun c o e=>by
   obtain⟨o',e1⟩:=a.there c o e
   exact b.there c o' e1
theorem Moved.mono {fs fs' ch ch':List Addr}{h h':Heap}(a:Moved fs ch h h') (f:∀b∈fs,b∈fs') (g:∀b∈ch,b∈ch'):Moved fs' ch' h h':=
 ⟨fun b o e n m=>a.keep b o e (fun z=>n (f b z)) fun z=>m (g b z),fun b o e m=>a.slot b o e fun z=>m (g b z),a.there⟩
theorem Moved.drop {fs ch ch':List Addr}{h h':Heap}(a:Moved fs ch h h') (g:∀b∈ch,b∈ch'∨h.get? b=none):Moved fs ch' h h':=
 ⟨fun b o e n m=>a.keep b o e n fun z=>(g b z).elim m fun q=>by(rw[q] at e;cases e),fun b o e m=>a.slot b o e fun z=>(g b z).elim m fun q=>by(rw[q] at e;cases e),a.there⟩
theorem Moved.frames {fs ch:List Addr}{h h' base:Heap}(a:Moved fs ch h h') {l:List Env}(hl:h.FunFrames base l) (hc:∀b∈ch,b∉l.filterMap (·.frame)):h'.FunFrames base l:=by
 induction l with
 | nil=>trivial
 | cons env rest ih=>
   obtain⟨hk,⟨L,o,hf,hn,ho,hd⟩,hr⟩:=hl
   obtain⟨sl,e⟩:=a.slot L o ho fun z=>hc L z (by rw[List.filterMap_cons,hf];exact .head _)
   exact⟨hk,⟨L,_,hf,hn,e,hd⟩,ih hr fun b z q=>hc b z (by rw[List.filterMap_cons,hf];exact .tail _ q)⟩
theorem FH {o:Obj}{vs:Array Value}(f:Array Value→Array Value) (hd:o.data = .fields vs):(o.mapFields f).isFreed=false:=Obj.isFreed_of_fields (Obj.data_mapFields hd f)
theorem hX {o:Obj}{vs:Array Value}(f:Array Value→Array Value) (hd:o.data = .fields vs):o.mapFields f={ o with data:=.fields (f vs) }:=by
 obtain⟨c,d,dt,sl⟩:=o
 cases hd
 rfl
theorem IR {h:Heap}{a:Addr}{o:Obj}{vs:Array Value}(f:Array Value→Array Value) (ho:h.get? a=some o) (hd:o.data = .fields vs) (fs:List Addr):Moved fs [a] h (h.update a (Obj.mapFields f)):=by
 have k:∀b u,h.get? b=some u→b∉[a]→(h.update a (Obj.mapFields f)).get? b=some u:=fun b u e m=>by
   rw[yC _ _ (fun z=>m (by simp[z]))];exact e
 refine⟨fun b u e _ m=>k b u e m,fun b u e m=>⟨u.slots,k b u e m⟩,fun b u e=>?_⟩
 by_cases q:b=a
 · subst q;exact⟨_,Heap.get?_update_self _ ho (FH f hd)⟩
 · exact⟨u,k b u e (by simp[q])⟩
section
variable {M:Model}{A:Around}{E:Value→Shared→Prop}{s:Shared}{base:Heap}{env:Env}{outer:List Env}{L e:Addr}{cls ar:Value}{dd:Option Addr}{T:Option Addr}
theorem LM {T:Addr}{fl:Value}{Q:Unit→Shared→Prop}(x:LL s.heap e cls dd ar (some T) fl)
   (h:∀h',LL h' e cls dd ar (some T) .none→Moved [] [T] s.heap h'→Q () { s with heap:=h' }):wpAny M A (setFlight (.ref e) none) Q E s:=by
 obtain⟨oe,vs,he,hc,hdd,hd,h0,h1,hT,oT,ts,hoT,hdT,h3⟩:=x
 unfold setFlight
 refine zZ (wpAny_field he hd h1 ?_)
 rw[if_pos (show(Value.ref T != Value.none)=true from by simp)]
 have hsz:3 < ts.size:=(Array.getElem?_eq_some_iff.mp h3).1
 refine wpAny_setField hoT hdT hsz (h _ ⟨oe,vs,?_,hc,hdd,hd,h0,h1,hT,_,_,Heap.get?_update_self _ hoT (FH _ hdT),Obj.data_mapFields hdT _,by simp[hsz]⟩ (IR _ hoT hdT []))
 rw[yC _ _ hT];exact he
theorem UY {oe:Obj}{vs:Array Value}{head:Value}{hadNext:Bool}{Q:Unit→Shared→Prop}(hfr:A.frames=some (env::outer)) (hl:s.heap.FunFrames base (env::outer)) (hf:env.frame=some L)
   (he:s.heap.get? e=some oe) (hd:oe.data = .fields vs) (hsz:1 < vs.size) (h0:vs[0]?=some ar)
   (h:∀h' T',LL h' e oe.cls oe.dict ar (some T') (rawInt L)→s.heap.get? T'=none→s.heap.objs.size≤T'→Moved ((env::outer).filterMap (·.frame)) [e] s.heap h'→Q () { s with heap:=h' }) :
   wpAny M A (do let a ← frameOf env;let pl ← entryPlaceOf L hadNext;let b ← EntryCells.newEntry head a .none (rawInt L) .none pl;setField (.ref e) 1 b) Q E s:=by
 have hene:e∉(env::outer).filterMap (·.frame):=fun hm=>by
   obtain⟨_,o,ho,hnf⟩:=hl.mem hm
   rw[he] at ho;injection ho with ho;subst ho;exact hnf vs hd
 refine zZ (wpAny_frameOf_fun hfr hl hf fun h₁ hs₁=>?_)
 refine zZ (wpAny_entryPlaceOf fun pl hpl=>?_)
 unfold EntryCells.newEntry newFields
 refine zZ (xN ?_ (hpl.sizeOk5 _ _ _ _ _))
 have he₁:h₁.get? e=some oe:=(hs₁.2.1 e hene).trans he
 generalize hob:({ cls:=.type "traceback", dict:=none,data:=.fields ([head,.ref L,.none,rawInt L,.none]++(if pl.isEmpty then List.replicate 6 Value.none else pl)).toArray }:Obj)=ob
 have he₂:=zW (h:=h₁) ob he₁
 have hTe:h₁.objs.size≠e:=Nat.ne_of_gt (zM he₁)
 refine wpAny_setField he₂ hd hsz (h _ h₁.objs.size ⟨_,_,Heap.get?_update_self _ he₂ (FH _ hd),?_,?_,Obj.data_mapFields hd _,?_,?_,hTe,ob,([head,.ref L,.none,rawInt L,.none]++(if pl.isEmpty then List.replicate 6 Value.none else pl)).toArray,?_,?_,?_⟩ ?_ ?_ ?_)
 · rw[hX _ hd]
 · rw[hX _ hd]
 · rw[Array.getElem?_setIfInBounds_ne (by decide)];exact h0
 · simp[hsz]
 · rw[yC _ _ (Ne.symm hTe)]
   exact yZ h₁ (by rw[← hob];rfl)
 · rw[← hob]
 · simp
 · rw[hs₁.1];exact Heap.get?_none_of_le (zR _)
 · rw[hs₁.1];exact zR _
 · have k1:Moved ((env::outer).filterMap (·.frame)) [e] s.heap h₁:=⟨fun b o q n _=>(hs₁.2.1 b n).trans q,fun b o q _=>hs₁.2.2 b o q,fun b o q=>let ⟨sl,z⟩:=hs₁.2.2 b o q;⟨_,z⟩⟩
   have k2:Moved ((env::outer).filterMap (·.frame)) [e] h₁ (h₁.push ob):=⟨fun b o q _ _=>zW _ q,fun b o q _=>⟨o.slots,zW _ q⟩,fun b o q=>⟨o,zW _ q⟩⟩
   exact(k1.trans k2).trans (IR _ he₂ hd _)
theorem m6 {Q:Unit→Shared→Prop}(hfr:A.frames=some (env::outer)) (hl:s.heap.FunFrames base (env::outer)) (hf:env.frame=some L) (x:LL s.heap e cls dd ar T .none)
   (h:∀h' T',LL h' e cls dd ar (some T') (rawInt L)→s.heap.get? T'=none→s.heap.objs.size≤T'→Moved ((env::outer).filterMap (·.frame)) (e::T.toList) s.heap h'→Q () { s with heap:=h' }) :
   wpAny M A (noteFrame (.ref e) env) Q E s:=by
 obtain⟨oe,vs,he,hc,hdd,hd,h0,hT⟩:=x
 subst hc hdd
 unfold noteFrame
 simp only[hf]
 cases T with
 | none=>
   refine zZ (wpAny_field he hd hT ?_)
   rw[if_neg (by decide)]
   exact UY hfr hl hf he hd (Array.getElem?_eq_some_iff.mp hT).1 h0 fun h' T' a b c d=>h h' T' a b c d
 | some T=>
   obtain⟨h1,hTe,oT,ts,hoT,hdT,h3⟩:=hT
   refine zZ (wpAny_field he hd h1 ?_)
   rw[if_pos (show(Value.ref T != Value.none)=true from by simp)]
   refine zZ (wpAny_field hoT hdT h3 ?_)
   rw[if_neg (show ¬((Value.none==rawInt L)=true) from by simp[rawInt])]
   refine zZ (wpAny_setField hoT hdT (Array.getElem?_eq_some_iff.mp h3).1 ?_)
   have mv:=IR (h:=s.heap) (·.setIfInBounds 3 Value.none) hoT hdT ((env::outer).filterMap (·.frame))
   have hnT:T∉(env::outer).filterMap (·.frame):=fun hm=>by
     obtain⟨_,o,ho,hnf⟩:=hl.mem hm
     rw[hoT] at ho;injection ho with ho;subst ho;exact hnf ts hdT
   refine UY hfr (mv.frames hl fun b hb=>by(rw[List.mem_singleton] at hb;subst hb;exact hnT)) hf (by rw[yC _ _ hTe];exact he) hd (Array.getElem?_eq_some_iff.mp h1).1 h0 fun h' T' a b c d=>?_
   have hsz:(s.heap.update T (Obj.mapFields (·.setIfInBounds 3 Value.none))).objs.size=s.heap.objs.size:=Heap.size_after_update ..
   rw[hsz] at c
   refine h h' T' a (Heap.get?_none_of_le c) c ((mv.mono (fun _ z=>z) fun b z=>by simp at z;simp[z]).trans (d.mono (fun _ z=>z) fun b z=>by simp at z;simp[z]))
theorem OO {fl:Value}{Q:Unit→Shared→Prop}(hfr:A.frames=some (env::outer)) (hl:s.heap.FunFrames base (env::outer)) (hf:env.frame=some L) (x:LL s.heap e cls dd ar T fl) (hfl:fl = .none∨(T≠none∧fl=rawInt L))
   (h:∀h' T',LL h' e cls dd ar (some T') (rawInt L)→(T=some T'∨s.heap.get? T'=none∧s.heap.objs.size≤T')→Moved ((env::outer).filterMap (·.frame)) (e::T.toList) s.heap h'→Q () { s with heap:=h' }) :
   wpAny M A (noteFrame (.ref e) env) Q E s:=by
 rcases hfl with rfl | ⟨hT,rfl⟩
 · exact m6 hfr hl hf x fun h' T' a b c d=>h h' T' a (.inr ⟨b,c⟩) d
 · cases T with
   | none=>exact absurd rfl hT
   | some T=>
     obtain⟨oe,vs,he,hc,hdd,hd,h0,h1,hTe,oT,ts,hoT,hdT,h3⟩:=id x
     unfold noteFrame
     simp only[hf]
     refine zZ (wpAny_field he hd h1 ?_)
     rw[if_pos (show(Value.ref T != Value.none)=true from by simp)]
     refine zZ (wpAny_field hoT hdT h3 ?_)
     rw[if_pos (show(rawInt L==rawInt L)=true from by simp)]
     exact zY (h s.heap T x (.inl rfl) (Moved.refl ..))
theorem bE {fl:Value}{Q:Unit→Shared→Prop}(hfr:A.frames=some (env::outer)) (hl:s.heap.FunFrames base (env::outer)) (hf:env.frame=some L) (x:LL s.heap e cls dd ar T fl) (hfl:fl = .none∨(T≠none∧fl=rawInt L))
   (h:∀h' T',LL h' e cls dd ar (some T') .none→(T=some T'∨s.heap.objs.size≤T')→Moved ((env::outer).filterMap (·.frame)) (e::T.toList) s.heap h'→Q () { s with heap:=h' }) :
   wpAny M A (leaving env (.ref e)) Q E s:=by
 unfold leaving
 refine zZ (OO hfr hl hf x hfl fun h1 T' x1 n1 m1=>?_)
 refine LM (s:={ s with heap:=h1 }) x1 fun h2 x2 m2=>h h2 T' x2 (n1.imp id fun z=>z.2) ?_
 have m1':Moved ((env::outer).filterMap (·.frame)) (T'::e::T.toList) s.heap h1:=m1.mono (fun _ z=>z) fun b z=>.tail _ z
 have m2':Moved ((env::outer).filterMap (·.frame)) (T'::e::T.toList) h1 h2:=m2.mono (fun _ z=>absurd z (by simp)) fun b z=>by simp at z;simp[z]
 refine(m1'.trans m2').drop fun b z=>(yX.mp z).elim (fun q=>?_) fun q=>.inl q
 rcases n1 with n1 | n1
 · left;rw[q,n1];simp
 · right;rw[q];exact n1.1
theorem XF {T f:Addr}{fl:Value}{Q:Unit→Shared→Prop}(x:LL s.heap e cls dd ar (some T) fl)
   (h:∀h',LL h' e cls dd ar (some T) (rawInt f)→Moved [] [T] s.heap h'→Q () { s with heap:=h' }):wpAny M A (setFlight (.ref e) (some f)) Q E s:=by
 obtain⟨oe,vs,he,hc,hdd,hd,h0,h1,hT,oT,ts,hoT,hdT,h3⟩:=x
 unfold setFlight
 refine zZ (wpAny_field he hd h1 ?_)
 rw[if_pos (show(Value.ref T != Value.none)=true from by simp)]
 have hsz:3 < ts.size:=(Array.getElem?_eq_some_iff.mp h3).1
 refine wpAny_setField hoT hdT hsz (h _ ⟨oe,vs,?_,hc,hdd,hd,h0,h1,hT,_,_,Heap.get?_update_self _ hoT (FH _ hdT),Obj.data_mapFields hdT _,by simp[hsz]⟩ (IR _ hoT hdT []))
 rw[yC _ _ hT];exact he
end
end XC
namespace XC
open PySem PySem.Spec
abbrev i0 (C t:Addr):Obj:={ cls:=.ref C,data:=.fields #[.ref t,.none,.none,.none,.bool false,.none] }
abbrev PJ (h:Heap) (C:Addr) (rest:List Value):Heap:=(h.push { cls:=.type "tuple", data:=.seq rest.toArray }).push (i0 C h.objs.size)
theorem GN {h:Heap}{C:Addr}{rest:List Value}:∀b o,h.get? b=some o→(PJ h C rest).get? b=some o:=fun b o e=>zW _ (zW _ e)
theorem ZC {h:Heap}{C:Addr}{rest:List Value}:(PJ h C rest).get? (h.objs.size+1)=some (i0 C h.objs.size):=by heap_get
section
variable {prog:Program}{w:World}{A:Around}{E:Value→Shared→Prop}{h:Heap}{g:Array GenState}{d:Drawn}{t:Nat}{os:OsState}
variable {nm q:Str}{C N:Addr}{bs bm bmN:List Value}{hdct:Bool}{sn:List Str}{sub:List Value}{ab:Bool}{col:Option Bool}{dd:Option Addr}{k0 k1 k2 k3 k5:Option Value}{B newId initId:String}{init:Value}
theorem UZ {M:Model}(F:ExcBaseFacts B newId initId bmN) (hB:bm.contains (.type B)=true) {rest:List Value}{Q:Unit→Shared→Prop}(hC:h.get? C=some (excClassObj nm q C N bs bm hdct sn sub ab col dd k0 k1 k2 k3 k5 newId))
   (hq:Q () ⟨h,g,d,t,os⟩):wpAny M A (checkBuiltinCall newId ⟨.ref C::rest,[]⟩) Q E ⟨h,g,d,t,os⟩:=by
 have hcont:(Value.ref C::bm).contains (.type B)=true:=by rw[List.contains_cons,hB,Bool.or_true]
 have hstar:=F.noStar
 simp only[checkBuiltinCall,F.newKind,F.newSplit,F.newRow]
 repeat (first | refine wpAny_loadPart_at hC ?_ | (refine wpAny_isSubtype_exc hC ?_;rw[hcont]) | refine wpAny_staticBase_exc hC ?_ | refine wpAny_madeBy_exc hC ?_ | simp only[bne_self_eq_false,Bool.false_eq_true,if_false] | wp_step)
 exact hq
theorem uP {R:Result→Shared→Prop}(F:ExcBaseFacts B newId initId bmN) (hB:bm.contains (.type B)=true) (hA:bm.contains (.type "AttributeError")=false) (hN:bm.contains (.type "NameError")=false) {rest:List Value}
   (hC:h.get? C=some (excClassObj nm q C N bs bm hdct sn sub ab col dd k0 k1 k2 k3 k5 newId))
   (hq:R (.ok (.ret (.ref (h.objs.size+1)))) ⟨PJ h C rest,g,d,t,os⟩) (hrest:rest.length≤sizeLine) :
   codeAny (model prog w) A (.builtin newId ⟨.ref C::rest,[]⟩) R ⟨h,g,d,t,os⟩:=by
 have hends:=F.ends
 have hcB:(Value.ref C::bm).contains (.type B)=true:=by rw[List.contains_cons,hB,Bool.or_true]
 have hcA:(Value.ref C::bm).contains (.type "AttributeError")=false:=by rw[List.contains_cons,hA];rfl
 have hcN:(Value.ref C::bm).contains (.type "NameError")=false:=by rw[List.contains_cons,hN];rfl
 refine codeAny_builtinAt F.entry ?_
 unfold Builtin.«BaseException.__new__»
 refine wpAt_bind ?_
 show wpAt _ _ _ (stack >>= _) _ _ _
 refine wpAt_bind (wpAt_stack fun p below=>wpAt_of_wpAny ?_)
 wp_walk
 refine wpAt_of_wpAny ?_
 rw[F.owner]
 repeat (first | with_reducible refine wpAny_madeHere_exc F.canon hC ?_ | with_reducible refine wpAny_loadPart_at hC ?_ | (with_reducible refine wpAny_isSubtype_exc hC ?_;first | rw[hcB] | rw[hcA] | rw[hcN]) | wp_step)
 show R _ _
 rw[Heap.size_push]
 exact hq
theorem V0 (F:ExcBaseFacts B newId initId bmN) (hB:bm.contains (.type B)=true) (hA:bm.contains (.type "AttributeError")=false) (hN:bm.contains (.type "NameError")=false) {rest:List Value}{Q:Fin→Shared→Prop}
   (hC:h.get? C=some (excClassObj nm q C N bs bm hdct sn sub ab col dd k0 k1 k2 k3 k5 newId)) (hi:PySem.W.Looks (model prog w) h (typeLookup (.ref C) "__init__") (some init))
   (hb:∀self:Value,PySem.W.Looks (model prog w) h (bindSpecial init self) (init,[self]))
   (hq:codeAny (model prog w) A (.call init ⟨.ref (h.objs.size+1)::rest,[]⟩)
     (fun r s'=>match r with | .ok (.ret v)=>v = .none∧Q (.done (.ret (.ref (h.objs.size+1)))) s' | .ok _=>False | .error e=>E e s') ⟨PJ h C rest,g,d,t,os⟩) (hrest:rest.length≤sizeLine) :
   wpAny (model prog w) A (Builtin.«type.__call__» ⟨.ref C::rest,[]⟩) Q E ⟨h,g,d,t,os⟩:=by
 repeat (first | with_reducible refine wpAny_loadPart_at hC ?_ | with_reducible refine wpAny_madeBy_exc hC ?_ | wp_step)
 refine codeAny_call_builtin_code (Code.quiet_builtin _ F.quiet) (UZ F hB hC ?_)
 refine uP F hB hA hN hC ?_ hrest
 show wpAny _ _ _ _ _ _
 have hC₁:(PJ h C rest).get? C=_:=GN _ _ hC
 have hget:(PJ h C rest).get? (h.objs.size+1)=some (i0 C h.objs.size):=ZC
 have hcC:(Value.ref C::bm).contains (.ref C)=true:=by simp
 unfold isInstance
 repeat (first | with_reducible refine wpAny_loadPart_at hget ?_ | (with_reducible refine wpAny_isSubtype_exc hC₁ ?_;rw[hcC]) | wp_step)
 show wpAny _ _ (typeLookup (.ref C) _) _ _ _
 refine(hi.keeps GN).here (s:=⟨PJ h C rest,g,d,t,os⟩) ?_
 refine wpAny_holding (zZ (((hb _).keeps GN).here (s:=⟨PJ h C rest,g,d,t,os⟩) ?_))
 refine zZ (wpAny_call (xP hq fun r s' z=>?_))
 rcases r with e | (v | _ | _ | _) <;> first | exact z | exact z.elim | skip
 obtain⟨rfl,z⟩:=z
 wp_walk
 exact z
theorem rZ (F:ExcBaseFacts B newId initId bmN) (hB:bm.contains (.type B)=true) (hA:bm.contains (.type "AttributeError")=false) (hN:bm.contains (.type "NameError")=false) {rest:List Value}{Q:Value→Shared→Prop}
   (hC:h.get? C=some (excClassObj nm q C N bs bm hdct sn sub ab col dd k0 k1 k2 k3 k5 newId)) (hi:PySem.W.Looks (model prog w) h (typeLookup (.ref C) "__init__") (some init))
   (hb:∀self:Value,PySem.W.Looks (model prog w) h (bindSpecial init self) (init,[self]))
   (hq:codeAny (model prog w) (A.under (.builtin "type.__call__" ⟨.ref C::rest,[]⟩)) (.call init ⟨.ref (h.objs.size+1)::rest,[]⟩)
     (fun r s'=>match r with | .ok (.ret v)=>v = .none∧Q (.ref (h.objs.size+1)) s' | .ok _=>False | .error e=>E e s') ⟨PJ h C rest,g,d,t,os⟩) (hrest:rest.length≤sizeLine) :
   wpAny (model prog w) A (call (.ref C) rest) Q E ⟨h,g,d,t,os⟩:=by
 have f1:=tc_lookup
 have f2:=tc_bind (.ref C)
 have hT:(⟨h,g,d,t,os⟩:Shared).TypeIs (.ref C) "type" := ⟨_,hC,rfl⟩
 refine wpAny_call (codeAny_of_tree ?_)
 show wpAny _ _ (callAny (.ref C) _) _ _ _
 repeat (any_goals (first | assumption | with_reducible refine wpAny_loadPart_at hC ?_ | wp_step))
 refine⟨rfl,?_⟩
 refine codeAny_call_builtin_at (Code.quiet_builtin _ (by decide +kernel)) entry_typeCall (wpAny_check_type_call_sub hC (V0 F hB hA hN hC hi hb (xP hq fun r s' z=>?_) hrest))
 rcases r with e | (v | _ | _ | _) <;> first | exact z | exact z.elim
theorem bF {s:Shared}{env:Env}{x:Sem Value}{Q:Flow→Shared→Prop}(hbase:bm.contains (.type "BaseException")=true) (hh:A.handled=none)
   (hx:wpAny (model prog w) A x (fun v s₁=>∃e t dx,v = .ref e∧s₁.heap.get? C=some (excClassObj nm q C N bs bm hdct sn sub ab col dd k0 k1 k2 k3 k5 newId) ∧
     s₁.heap.get? e=some { cls:=.ref C,dict:=dx,data:=.fields #[.ref t,.none,.none,.none,.bool false,.none] }∧E (.ref e) s₁) E s) :
   wpAny (model prog w) A (raiseStmt env (some x) none) Q E s:=by
 have hcB:(Value.ref C::bm).contains (.type "BaseException")=true:=by rw[List.contains_cons,hbase,Bool.or_true]
 unfold raiseStmt
 refine zZ (wpAny_mono hx (fun v s₁ h₁=>?_) fun _ _ x=>x)
 obtain⟨e,t,dx,rfl,hC,he,hE⟩:=h₁
 obtain⟨hp,g,d,tk,os⟩:=s₁
 repeat (first | with_reducible refine wpAny_loadPart_at he ?_ | with_reducible refine wpAny_loadPart_at hC ?_ | (with_reducible refine wpAny_isSubtype_exc hC ?_;rw[hcB]) | wp_step)
 exact wpAny_raiseNew_none hh hE
end
end XC
namespace XC
open PySem PySem.Spec PySem.W Builtin Builtin.ObjectAttr
section
variable {prog:Program}{w:World}{A:Around}{E:Value→Shared→Prop}{K:Frag}{C x:Addr}{s:Shared}{o:Obj}{vs:Array Value}{name:Str}{v:Value}{cd:ClassData}
theorem m7 {R:Result→Shared→Prop}{tk:Tok}(X:K.In s.heap) (hx:s.heap.get? x=some o) (hc:o.cls = .ref C) (hdn:o.dict=none) (hdt:o.data = .fields vs)
   (hcd:clsIn K C=some cd) (hm:cd.mro.contains (.type "object")=true) (hp:∀self,refuseLoop self "__setattr__" cd.mro=pure ()) (ht:takerIn K C name=some none) (hh:cd.hasDict=true)
   (hq:∀h' tk' dx,s.heap.objs.size≤dx→h'.get? x=some { o with dict:=some dx }→h'.Ns1 dx (fun y=>if y=name then some v else none)→(∀b u,b≠x→s.heap.get? b=some u→h'.get? b=some u) →
     R (.ok (.ret .none)) { s with heap:=h',toks:=tk' }) :
   codeAny (model prog w) A (.call (.builtin "object.__setattr__") ⟨[.ref x,.str name tk,v],[]⟩) R s:=by
 have SF:=PySem.F.store_object
 have ne:cd.mro.isEmpty=false:=by cases q:cd.mro with | nil=>rw[q] at hm;cases hm | cons _ _=>rfl
 have ty:Looks (model prog w) s.heap (typeOf (.ref x)) (.ref C):=(Looks.ld hx).andThen (by rw[hc];exact .now)
 have sub:Looks (model prog w) s.heap (isInstance (.ref x) (.type "object")) true:=ty.andThen (looks_mroIn X (by unfold mroIn;rw[hcd,Option.bind_some,if_neg (by rw[ne];decide),hm]))
 refine codeAny_call_builtin SF.slot.plain SF.entry (@check_slot (model prog w) _ _ s "object.__setattr__" "object" "__setattr__" (.ref x) [.str name tk,v] [] _ SF.kind SF.split sub (SF.args (.ref x) (.str name tk) v) ?_)
 obtain⟨attr,ha,hr⟩:=Option.bind_eq_some_iff.mp ht
 have hmr:Looks (model prog w) s.heap (mroOf (.ref C)) cd.mro:=(looks_clsIn X hcd).andThen .now
 have L3:Looks (model prog w) s.heap (storeTaker? attr) none:=by
   cases attr with
   | none=>cases hr;exact .now
   | some a=>
     obtain⟨b,hb,e⟩:=Option.map_eq_some_iff.mp hr
     refine(looks_takesIn X hb).andThen ?_
     cases b <;> first | exact .now | cases e
 rw[osa_eq,refuse_eq]
 refine zZ (zZ (ty.here (zZ (hmr.here ?_))))
 rw[hp]
 refine zY (zZ (ty.here (zZ ((looks_findIn X ha).here (zZ (L3.here ?_))))))
 obtain⟨hp0,g,d,t,os⟩:=s
 obtain⟨oc,od,oda,osl⟩:=o
 dsimp only at hc hdn hdt hq
 subst hc hdn hdt
 have hx':hp0.get? x=some ⟨.ref C,none,.fields vs,osl⟩:=hx
 refine zZ (zY (zZ (zZ (wpAny_loadPart hx' (zZ ((looks_clsIn X hcd).here ?_))))))
 rw[hh]
 have hx₁:(hp0.push { cls:=.type "dict", data:=.dict #[] }).get? x=some ⟨.ref C,none,.fields vs,osl⟩:=zW _ hx'
 have hxs:x≠hp0.objs.size:=zC (zM hx')
 refine zZ (wpAny_alloc' ?_)
 refine zZ (wpAny_update' hx₁ ?_)
 refine zY (a:=some hp0.objs.size) ?_
 have hgd:((hp0.push { cls:=.type "dict", data:=.dict #[] }).update x fun o=>{ cls:=o.cls,dict:=some hp0.objs.size,data:=o.data,slots:=o.slots }).get? hp0.objs.size
     = some { cls:=.type "dict", data:=.dict #[] }:=
   (yB _ _ _ _ hxs.symm).trans (Heap.get?_push_at rfl rfl)
 have hnd:((hp0.push { cls:=.type "dict", data:=.dict #[] }).update x fun o=>{ cls:=o.cls,dict:=some hp0.objs.size,data:=o.data,slots:=o.slots }).Ns hp0.objs.size (fun _=>none):=
   ⟨_,#[],_,hgd,rfl,fun e he=>absurd he (by simp),fun _=>rfl⟩
 show wpAny _ _ (storeInDict hp0.objs.size (.str name tk) name v) _ _ _
 unfold storeInDict newKeyGuard
 refine zZ (zY (zZ (wpAny_nsSet1 (Heap.Ns1.of_empty hnd) fun h' hn' hs=>?_)))
 obtain⟨oD,esD,epD,hoD,hdD,hcD⟩:=hn'.count (Within.cons name v Within.nil)
 refine zZ (wpAny_lookBehind hoD (by rw[hdD];exact pastItsLine_dict (zN hcD (by rw[yR,List.length_nil,sizeLine_eq];omega))) ?_)
 refine zY (hq h' _ hp0.objs.size (zR _) ?_ hn' fun b u hbx hb=>?_)
 · exact(hs.2 x hxs).trans (Heap.get?_update_self _ hx₁ rfl)
 · exact(hs.2 b (zC (zM hb))).trans ((yB _ _ _ _ hbx).trans (zW _ hb))
theorem m8 {Q:Unit→Shared→Prop}(X:K.In s.heap) (hx:s.heap.get? x=some o) (hc:o.cls = .ref C) (hdn:o.dict=none) (hdt:o.data = .fields vs)
   (hs:findIn K (.ref C) "__setattr__"=some (some (.builtin "object.__setattr__"))) (hcd:clsIn K C=some cd) (hm:cd.mro.contains (.type "object")=true) (hp:∀self,refuseLoop self "__setattr__" cd.mro=pure ())
   (ht:takerIn K C name=some none) (hh:cd.hasDict=true)
   (hq:∀h' tk' dx,s.heap.objs.size≤dx→h'.get? x=some { o with dict:=some dx }→h'.Ns1 dx (fun y=>if y=name then some v else none)→(∀b u,b≠x→s.heap.get? b=some u→h'.get? b=some u) →
     Q () { s with heap:=h',toks:=tk' }) :
   wpAny (model prog w) A (setAttr (.ref x) name v) Q E s:=by
 have J:InstAt s.heap x o C none:=⟨hx,hc,by obtain⟨_,_,_,_⟩:=o;cases hdt;rfl,by rw[hdn];trivial⟩
 exact set_plain X J hs (m7 (s:={ s with toks:=s.toks+1 }) X hx hc hdn hdt hcd hm hp ht hh fun h' tk' dx a b c d=>hq h' tk' dx a b c d)
end
end XC
namespace XC
open PySem PySem.Spec L2
open PyProof.Rows (envOfC AllBare)
abbrev St:=L2.St
theorem RB {P:Program}{w:World}{H:Hp}{h h':Heap}{fs ch:List Addr}(ok:HOk P w H h) (m:Moved fs ch h h') (f1:∀b∈fs,H b=none) (f2:∀b∈ch,H b=none):HOk P w H h':=fun a o e=>by
 have ne:∀b u,H b=some u→b∉fs∧b∉ch:=fun b u q=>⟨fun z=>(by rw[f1 b z] at q;cases q),fun z=>(by rw[f2 b z] at q;cases q)⟩
 refine(ok a o e).stay (fun b u hb q=>?_) (fun _ q=>q) fun _ _ q=>q
 rcases hb with rfl | hb
 · exact m.keep b u q (ne b o e).1 (ne b o e).2
 · exact m.keep b u q (ne b _ hb).1 (ne b _ hb).2
def CXE (P:Program) (w:World):CXT:=fun outer H s E e s'=>∃(a T:Addr) (cls:Value) (dd:Option Addr) (ar:Value) (H':Hp),e = .ref a∧s'.os=s.os∧AllBare s'.gens∧Un (frs outer) [] H H' s.heap s'.heap∧HOk P w H' s'.heap ∧
 LL s'.heap a cls dd ar (some T) .none∧s.heap.objs.size≤a∧s.heap.objs.size≤T∧H' a=none∧H' T=none∧E cls dd H'
structure Loose (X:Cx) (H:Hp) (b:Addr):Prop where
 above:X.s₀.heap.objs.size≤b
 loc:b≠X.env.locals
 cel:∀x c,X.env.cells.lookup x=some c→c≠b
 fre:H b=none
 pn:∀p∈X.pn,p.1≠b
theorem Loose.of {X:Cx}{pins:List (Addr×Obj)}{σ:St}{H H':Hp}{s:Shared}{b:Addr}(I:Inv X pins σ H s) (h:s.heap.objs.size≤b) (f:H' b=none):Loose X H' b:=by
 refine⟨zN I.sz h,fun z=>?_,fun x c e z=>?_,f,fun p hp z=>?_⟩
 · have:=I.lt;rw[← z] at this;exact absurd (zP this h) (yF _)
 · obtain⟨v,o,ho,_⟩:=I.cell x c e
   have:=zM ho
   rw[z] at this
   exact absurd (zP this h) (yF _)
 · have:=zM (I.pin p (List.mem_append_left _ hp)).1
   rw[z] at this
   exact absurd (zP this h) (yF _)
def Fly (X:Cx) (R:St→XK) (e:Value) (s':Shared):Prop:=
 ∃(a:Addr) (T:Option Addr) (cls:Value) (dd:Option Addr) (ar:Value) (σ:St) (H:Hp) (fl:Value),e = .ref a∧Inv X [] σ H s'∧(LL s'.heap a cls dd ar T fl∧(fl = .none∨(T≠none∧fl=rawInt X.env.locals)))∧Loose X H a∧(∀t,T=some t→Loose X H t)∧R σ cls dd H
theorem i6 {X:Cx}{pins:List (Addr×Obj)}{σ:St}{H:Hp}{s:Shared}(I:Inv X pins σ H s):Inv X [] σ H s:=I.pins_of fun p hp=>nomatch hp
theorem i7 {X:Cx}{R:St→XK}{pins:List (Addr×Obj)}{σ:St}{H:Hp}{s:Shared}{e:Value}{s':Shared}(I:Inv (X.wish (Fly X R)) pins σ H s) (h:CXE X.prog X.w X.stack H s (R σ) e s'):Fly X R e s':=by
 obtain⟨a,T,cls,dd,ar,H',rfl,os,bare,un,hok,x,h1,h2,f1,f2,r⟩:=h
 have I':=I.unwish
 have J:Inv X pins σ H' s':=I'.call' (ch:=[]) os un hok bare fun b z=>absurd z (by simp)
 exact⟨a,some T,cls,dd,ar,σ,H',.none,rfl,i6 J,⟨x,.inl rfl⟩,Loose.of I' h1 f1,fun t e=>(by cases e;exact Loose.of I' h2 f2),r⟩
def SJ (sp:Sp) (R:St→XK) (t:TA):TE:=fun σ H Q=>t σ H fun vs H1=>sp vs H1 Q (R σ)
theorem i8 {X:Cx}{R:St→XK}{k:Nat}{f:Addr}{fd:FuncData}{ps:List Str}{sp:Sp}{x:Str}{p pos:Pos}{e:Expr}{es:List Expr}{t:TA}(F:FnOk X.prog X.w X.K X.mg X.base (CXE X.prog X.w) k f fd ps sp) (hr:Room k X.A) (hg:Gl X x) (hm:X.mg x=some (.ref f)) (hk:PySem.W.keepIn X.K (.ref f)=true) (hb:Binds X.K fd ps [])
   (ha:PA (X.wish (Fly X R)) (e::es) t) (hdb:(x==("__debug__":Str))=false:=by decide) (he:starEach (e::es) X.env=(false,eval e X.env)::starEach es X.env:=by rfl) (hpl:(backTo pos (starEach es X.env)).any (·.1)=false:=by rfl) :
   PE (X.wish (Fly X R)) (.Call (.Name x p) (e::es) [] pos) (SJ sp R t):=by
 intro pins s σ H Q I h
 refine wpAny_Call_Name_kw (IL (X:=X.wish (Fly X R)) I hg hm ?_ hdb)
 refine PySem.W.callWith_K (h₀:=X.base) I.ok.mod.kin hk (thn (ha pos pins s σ H _ I h) fun us s1 ⟨vs,H1,I1,r,q⟩=>⟨I1.kIn,?_⟩) he hpl
 have hl:(us++[]).length=ps.length:=by rw[List.append_nil,← r.length];exact F.len _ _ _ _ q
 have r2:Vals vs (us++[]):=by rw[List.append_nil];exact r
 refine wpAny_call (xP (F.run X.A X.stack s1 H1 ⟨us,[]⟩ (us++[]) vs Q (R σ) hr I1.env0 (hb s1 us I1.kIn hl) r2 q) fun r' s' hq=>?_)
 cases r' with
 | error e=>exact i7 I1 hq
 | ok fl=>
   cases fl with
   | ret u=>exact I1.after hq
   | next=>exact False.elim hq
   | brk=>exact False.elim hq
   | cont=>exact False.elim hq
theorem FZ {X:Cx}{pins:List (Addr×Obj)}{σ:St}{H:Hp}{s:Shared}{ch:List Addr}{h':Heap}(I:Inv X pins σ H s) (m:Moved (frs X.stack) ch s.heap h') (hch:∀b∈ch,H b=none∧X.s₀.heap.objs.size≤b∧b≠X.env.locals∧(∀x c,X.env.cells.lookup x=some c→c≠b)∧∀p∈X.pn++pins,p.1≠b) :
   Inv X pins σ H { s with heap:=h' }:=by
 refine I.call' (s':={ s with heap:=h' }) (ch:=ch) rfl ⟨fun b o q n f c=>m.keep b o q f c,fun b o q n f c=>m.slot b o q c,fun _ _ _ n _=>n,fun b o q _=>m.there b o q,fun _ _ q=>q,fun _ _ _ q=>q,fun b ps q=>⟨#[],by rw[q];simp⟩⟩
   (RB I.hok m I.stkFree fun b hb=>(hch b hb).1) I.bare fun b hb=>⟨.inr (hch b hb).2.1,(hch b hb).2.2⟩
theorem Loose.ch {X:Cx}{H:Hp}{b:Addr}(l:Loose X H b):H b=none∧X.s₀.heap.objs.size≤b∧b≠X.env.locals∧(∀x c,X.env.cells.lookup x=some c→c≠b)∧∀p∈X.pn++[],p.1≠b:=⟨l.fre,l.above,l.loc,l.cel,fun p hp=>l.pn p (by simpa using hp)⟩
theorem XG {X:Cx}{R:St→XK}(hstk:X.stack=X.env::X.outer) (hfr:X.env.frame=some X.env.locals):PassesOwn (model X.prog X.w) X.A X.env (Fly X R):=fun e s' h=>by
 obtain⟨a,T,cls,dd,ar,σ,H,fl,rfl,I,⟨x,hfl⟩,la,lT,r⟩:=h
 have fr:X.A.frames=some (X.env::X.outer):=by rw[← hstk];exact I.ok.frames
 have hl:s'.heap.FunFrames X.base (X.env::X.outer):=by rw[← hstk];exact I.stack
 refine OO fr hl hfr x hfl fun h2 T' x2 n2 m2=>?_
 have hfs:(X.env::X.outer).filterMap (·.frame)=frs X.stack:=by rw[hstk];rfl
 rw[hfs] at m2
 have I2:Inv X [] σ H { s' with heap:=h2 }:=FZ I m2 fun b hb=>by
   rcases yX.mp hb with q | q
   · rw[q];exact la.ch
   · exact(lT b (by cases T with | none=>simp at q | some t=>simp at q;rw[q])).ch
 have lT':Loose X H T':=n2.elim (fun z=>lT T' z) fun z=>Loose.of I z.2 (I.hok.fresh z.2)
 obtain⟨oe,vs,he,hc,hdd,hd,h0,h1,hTe,_⟩:=id x2
 unfold cameBackBy
 refine zZ (wpAny_field (s:={ s' with heap:=h2 }) he hd h1 ?_)
 rw[if_neg (by simp)]
 rw[hfr]
 refine XF (s:={ s' with heap:=h2 }) x2 fun h3 x3 m3=>?_
 have I3:Inv X [] σ H { s' with heap:=h3 }:=FZ (s:={ s' with heap:=h2 }) (ch:=[T']) I2 (m3.mono (fun b z=>absurd z (by simp)) fun b z=>z) fun b hb=>by
   have:b=T':=by simpa using hb
   rw[this];exact lT'.ch
 exact⟨a,some T',cls,dd,ar,σ,H,_,rfl,I3,⟨x3,.inr ⟨by simp,rfl⟩⟩,la,fun t e=>(by cases e;exact lT'),r⟩
section
variable {P:Program}{w:World}{K:Frg}{mg:Str→Option Value}{base:Heap}
theorem sB {N:List Str}{qual:Str}{scope:Scope}{f:Addr}{cd:Value}{A:Around}{outer:List Env}{s:Shared}{H:Hp}{E:XK}{e:Value}{s':Shared}
   (h:Fly (F5 (CXE P w) P w K mg base N qual scope f cd A outer s H E) (fun _=>E) e s'):(F5 (CXE P w) P w K mg base N qual scope f cd A outer s H E).xe e s':=by
 obtain⟨a,T,cls,dd,ar,σ,H',fl,rfl,I,⟨x,hfl⟩,la,lT,r⟩:=h
 have hst:=I.stack
 have hfre:=I.stkFree
 refine bE (base:=base) (env:=envOfC qual scope s.heap.objs.size f cd) (outer:=outer) (L:=s.heap.objs.size) I.ok.frames hst rfl x hfl fun h' T' x' z m=>?_
 have hfr:∀b∈(envOfC qual scope s.heap.objs.size f cd::outer).filterMap (·.frame),H' b=none:=hfre
 have hch:∀b∈a::T.toList,Loose (F5 (CXE P w) P w K mg base N qual scope f cd A outer s H E) H' b:=fun b hb=>by
   rcases yX.mp hb with q | q
   · rw[q];exact la
   · exact lT b (by cases T with | none=>simp at q | some t=>simp at q;rw[q])
 have nch:∀b o,s.heap.get? b=some o→b∉a::T.toList:=fun b o q hb=>absurd (zP (zM q) (hch b hb).above) (yF _)
 have nfr:∀b o,s.heap.get? b=some o→b∉frs outer→b∉(envOfC qual scope s.heap.objs.size f cd::outer).filterMap (·.frame):=fun b o q n hb=>by
   rcases yX.mp (show b∈s.heap.objs.size::frs outer from hb) with z | z
   · rw[z] at q;exact absurd (zM q) (yF _)
   · exact n z
 have B:=I.base
 have hok:=RB I.hok m hfr fun b hb=>(hch b hb).fre
 have sz:=I.sz
 have hT2:s.heap.objs.size≤T'∧H' T'=none:=by
   rcases z with z | z
   · exact⟨(lT T' z).above,(lT T' z).fre⟩
   · exact⟨zN sz z,I.hok.fresh z⟩
 refine⟨a,T',cls,dd,ar,H',rfl,I.os,I.bare,⟨fun b o q n hb hx=>?_,fun b o q n hb hx=>?_,B.free,fun b o q hx=>?_,B.tups,B.frzs,B.tbls⟩,hok,x',la.above,hT2.1,la.fre,hT2.2,r⟩
 · exact m.keep b o (B.keep b o q n hb hx) (nfr b o q hb) (nch b o q)
 · obtain⟨sl,q1⟩:=B.slot b o q n hb hx
   obtain⟨sl',q2⟩:=m.slot b _ q1 (nch b o q)
   exact⟨sl',q2⟩
 · obtain⟨o',q1⟩:=B.there b o q hx
   exact m.there b o' q1
theorem i9 {X:Cx}{E:Value→Shared→Prop}{st:List Stmt}{t:TS}(h:PSs (X.wish E) st t) (hE:∀e s,E e s→X.xe e s):PSs X st t:=fun pins s σ H D I hw=>
 wpAny_mono (h pins s σ H D (I.wish _) hw) (fun _ _ q=>q.unwish) hE
theorem vM {x qual:Str}{st:Stmt}{f:Addr}{fd:FuncData}{N ps:List Str}{k:Nat}{sp:Sp}(F:Fun K x qual st f fd) (S:FnScope N ps (AA st)) (len:∀vs H Q E,sp vs H Q E→vs.length=ps.length)
   (hbody:∀(cdv:Value) (A:Around) (outer:List Env) (s:Shared) (H:Hp) (vs:List V) (Q:VK) (E:XK),Room k (A.deeper (envOfC qual (AA st) s.heap.objs.size f cdv))→sp vs H Q E →
     ∃t,PSs ((F5 (CXE P w) P w K mg base N qual (AA st) f cdv A outer s H E).wish (Fly (F5 (CXE P w) P w K mg base N qual (AA st) f cdv A outer s H E) fun _=>E)) (BF st) t∧t { nx:=fun _ H'=>Q .non H',rt:=Q } (F8 N vs) H):FnOk P w K mg base (CXE P w) (k+1) f fd ps sp:=by
 obtain⟨oc,od,kV,doc,pm,an,cdv,ct,osl,rfl,lk,hcd⟩:=F.ex
 refine nI lk hcd S len fun A outer s H vs Q E hr hsp=>?_
 obtain⟨t,h,q⟩:=hbody cdv A outer s H vs Q E hr hsp
 exact⟨t,i9 h fun e s' z=>sB z,q⟩
end
end XC
namespace XC
open PySem PySem.Spec L2
open PyProof.Rows (envOfC AllBare)
abbrev bmV:List Value:=[.type "ValueError", .type "Exception", .type "BaseException", .type "object"]
structure XCls (K:Frg) (C S:Addr) (init:Value):Prop where
 lk:∃(nm q:Str) (N:Addr) (bs:List Value) (sn:List Str) (sub:List Value) (ab:Bool) (col:Option Bool) (dd:Option Addr) (k0 k1 k2 k3 k5:Option Value),K.lookup C=some (excClassObj nm q C N bs (.ref S::bmV) true sn sub ab col dd k0 k1 k2 k3 k5 "ValueError.__new__")
 init:PySem.W.findIn K (.ref C) "__init__"=some (some init)
 kp:PySem.W.keepIn K (.ref C)=true
theorem m9 {S:Addr}:(Value.ref S::bmV).contains (.type "ValueError")=true:=by rw[List.contains_cons];rfl
theorem mB {S:Addr}:(Value.ref S::bmV).contains (.type "AttributeError")=false:=by rw[List.contains_cons];rfl
theorem mD {S:Addr}:(Value.ref S::bmV).contains (.type "NameError")=false:=by rw[List.contains_cons];rfl
theorem V1 {S:Addr}:(Value.ref S::bmV).contains (.type "BaseException")=true:=by rw[List.contains_cons];rfl
end XC
namespace XC
open PySem PySem.Spec L2
open PyProof.Rows (envOfC AllBare)
def xo (e C t:Addr) (dx:Option Addr):HO:=.ext fun h=>h.get? e=some { cls:=.ref C,dict:=dx,data:=.fields #[.ref t,.none,.none,.none,.bool false,.none] }
theorem o8 {P:Program}{w:World}{H:Hp}{h:Heap}{e C t:Addr}{dx:Option Addr}(q:h.get? e=some { cls:=.ref C,dict:=dx,data:=.fields #[.ref t,.none,.none,.none,.bool false,.none] }):ObjOk P w H h e (xo e C t dx):=
 ⟨q,⟨_,q⟩,fun _ _ a b=>b _ a⟩
structure XSet (K:Frg) (C:Addr) (fn:Str):Prop where
 sa:PySem.W.findIn K (.ref C) "__setattr__"=some (some (.builtin "object.__setattr__"))
 ta:PySem.W.takerIn K C fn=some none
def sX (C:Addr) (fn:Str) (ta tv:TE):TS:=fun D σ H=>tv σ H fun y H1=>ta σ H1 fun x H2=>∃e t,x = .ref e∧H2 e=some (xo e C t none) ∧
 ∀d,H2 d=none→d≠e→D.nx σ (upd (upd H2 d (.xd [(fn,y)])) e (xo e C t (some d)))
section
variable {X:Cx}{pins:List (Addr×Obj)}{σ:St}{H:Hp}{s:Shared}
theorem iE {e C t dx:Addr}{fn:Str}{y:V}{u:Value}{h':Heap}{t':Nat}(I:Inv X pins σ H s) (he:H e=some (xo e C t none)) (ry:RelV y u) (hd:s.heap.objs.size≤dx)
   (q1:h'.get? e=some { cls:=.ref C,dict:=some dx,data:=.fields #[.ref t,.none,.none,.none,.bool false,.none] }) (q2:h'.Ns1 dx (fun z=>if z=fn then some u else none))
   (k:∀b o,b≠e→s.heap.get? b=some o→h'.get? b=some o):Inv X pins σ (upd (upd H dx (.xd [(fn,y)])) e (xo e C t (some dx))) { s with heap:=h',toks:=t' }:=by
 have hdn:H dx=none:=I.hok.fresh hd
 have hne:dx≠e:=fun z=>by rw[z,he] at hdn;cases hdn
 have lo:∀b o,s.heap.get? b=some o→b≠dx:=fun b o q z=>by rw[z] at q;exact absurd (zP (zM q) hd) (yF _)
 have same:∀b,b≠e→b≠dx→upd (upd H dx (.xd [(fn,y)])) e (xo e C t (some dx)) b=H b:=fun b h1 h2=>by rw[AH h1,AH h2]
 have tr:∀b o,H b=some o→b≠dx:=fun b o q z=>by rw[z,hdn] at q;cases q
 refine I.un ⟨fun b o q n _ _=>k b o (fun z=>by rw[z,he] at n;cases n) q,fun b o q n _ _=>⟨o.slots,k b o (fun z=>by rw[z,he] at n;cases n) q⟩,fun b o q n _=>?_,fun b o q _=>?_,fun b xs q=>?_,fun b o xs q=>?_,fun b ps q=>⟨#[],?_⟩⟩ fun b o q=>?_
 · rw[same b (fun z=>by rw[z,he] at n;cases n) (lo b o q)];exact n
 · by_cases z:b=e
   · rw[z];exact⟨_,q1⟩
   · exact⟨o,k b o z q⟩
 · rw[same b (fun z=>by rw[z,he] at q;cases q) (tr b _ q)];exact q
 · rw[same b (fun z=>by rw[z,he] at q;cases q) (tr b _ q)];exact q
 · rw[same b (fun z=>by rw[z,he] at q;cases q) (tr b _ q)];rw[q];simp
 · by_cases z:b=e
   · subst z;rw[AG] at q;cases q;exact o8 q1
   · by_cases z2:b=dx
     · subst z2
       rw[AH z,AG] at q
       cases q
       refine⟨_,q2,fun f=>?_⟩
       by_cases hf:f=fn
       · subst hf;simp[List.lookup];exact ry
       · have:(f==fn)=false:=by simp[hf]
         simp[List.lookup,this,hf,RelO]
     · rw[same b z z2] at q
       refine(I.hok b o q).stay (fun c v hc qq=>k c v ?_ qq) (fun c qq=>?_) fun c xs qq=>?_
       · rcases hc with rfl | hc
         · exact z
         · rintro rfl;rw[he] at hc;cases hc
       · rw[same c (fun z=>by rw[z,he] at qq;cases qq) (tr c _ qq)];exact qq
       · rw[same c (fun z=>by rw[z,he] at qq;cases qq) (tr c _ qq)];exact qq
theorem mE {C S:Addr}{init:Value}{fn:Str}{o value:Expr}{pos pos':Pos}{ta tv:TE}(c:XCls X.K C S init) (cs:XSet X.K C fn) (ha:PE X o ta) (hv:PE X value tv) (hs:swapsWith value (some (.Attribute o fn pos')) pos.line X.env=pure false) :
   PS X (.Assign [.Attribute o fn pos'] value pos) (sX C fn ta tv):=by
 intro pins s σ H D I h
 refine plainObj_wpAny_Assign_Attribute (thn (hv pins s σ H _ I h) fun u s1 ⟨y,H1,I1,ry,q⟩=>thn (ha pins s1 σ H1 _ I1 q) fun ov s2 ⟨x,H2,I2,rx,e,t,ex,ea,q2⟩=>?_) hs
 subst ex
 obtain rfl:ov=Value.ref e:=rx
 obtain⟨nm,q,N,bs,sn,sub,ab,col,dd,k0,k1,k2,k3,k5,lk⟩:=c.lk
 have hx:=(I2.hok e _ ea).1
 refine m8 (cd:={ name:=nm,bases:=bs,mro:=.ref C::.ref S::bmV,ns:=N,qualname:=q,hasDict:=true,slotNames:=sn,subclasses:=sub,abstract:=ab,collection:=col,hasDel:=false }) I2.kIn hx rfl rfl rfl cs.sa (by unfold PySem.W.clsIn;rw[lk]) (by rw[List.contains_cons,List.contains_cons];rfl)
   (fun self=>by show refuseLoop self "__setattr__" (.ref C::.ref S::bmV)=pure ();rw[refuseLoop_ref,refuseLoop_ref];exact PySem.F.store_ValueError.passes self) cs.ta rfl fun h' tk' dx z1 z2 z3 z4=>?_
 have hdn:H2 dx=none:=I2.hok.fresh z1
 have hne:dx≠e:=fun z=>by rw[z,ea] at hdn;cases hdn
 exact⟨σ,_,iE (t':=tk') I2 ea ry z1 z2 z3 z4,q2 dx hdn hne⟩
end
def LN (C:Addr) (fn:Str):Sp:=fun vs H Q _=>∃e v t,vs=[.ref e,v]∧H e=some (xo e C t none)∧∀d,H d=none→d≠e→Q .non (upd (upd H d (.xd [(fn,v)])) e (xo e C t (some d)))
theorem XH {X:Cx}{pins:List (Addr×Obj)}{σ:St}{H:Hp}{s:Shared}{e C t:Addr}{dx:Option Addr}(I:Inv X pins σ (upd H e (xo e C t dx)) s) (hn:H e=none) (ha:X.s₀.heap.objs.size≤e):Inv X pins σ H s:=by
 have B:=I.base
 have sm:∀b,b≠e→upd H e (xo e C t dx) b=H b:=fun b z=>AH z
 have ne:∀b o,X.s₀.heap.get? b=some o→b≠e:=fun b o q z=>by rw[z] at q;exact absurd (zP (zM q) ha) (yF _)
 have nn:∀b,upd H e (xo e C t dx) b=none→H b=none:=fun b q=>by
   by_cases z:b=e
   · rw[z];exact hn
   · rw[sm b z] at q;exact q
 have nt:∀{b o},upd H e (xo e C t dx) b=some o→o≠xo e C t dx→H b=some o:=fun {b o} q no=>by
   by_cases z:b=e
   · rw[z,AG] at q;cases q;exact absurd rfl no
   · rw[sm b z] at q;exact q
 refine⟨I.ok,I.os,I.bare,⟨B.keep,B.slot,fun b o q n hx=>nn b (B.free b o q n hx),B.there,fun b xs q=>nt (B.tups b xs q) (by unfold xo;simp),fun b o xs q=>nt (B.frzs b o xs q) (by unfold xo;simp),fun b ps q=>?_⟩,I.loc,I.cell,nn _ I.free,fun x c q=>nn _ (I.freeC x c q),fun p hp=>?_,fun b o q=>?_,I.len⟩
 · obtain⟨m,q'⟩:=B.tbls b ps q
   exact⟨m,nt q' (by unfold xo;simp)⟩
 · obtain⟨a1,a2,a3⟩:=I.pin p hp
   exact⟨a1,nn _ a2,a3⟩
 · have z:b≠e:=fun z=>by rw[z,hn] at q;cases q
   have q':upd H e (xo e C t dx) b=some o:=by rw[sm b z];exact q
   exact(I.hok b o q').stay (fun _ _ _ a=>a) (fun c a=>nt a (by unfold xo;simp)) fun c xs a=>nt a (by unfold xo;simp)
section
variable {X:Cx}{R:St→XK}{C S f:Addr}{x fn:Str}{np cpos pos:Pos}{arg:Expr}{t:TA}{k:Nat}{fd:FuncData}{ps:List Str}
def SK (C:Addr) (fn:Str) (R:St→XK) (t:TA):TS:=fun _ σ H=>t σ H fun vs H1=>∃v,vs=[v]∧∀d,H1 d=none→R σ (.ref C) (some d) (upd H1 d (.xd [(fn,v)]))
theorem bG (c:XCls X.K C S (.ref f)) (hfn:PySem.W.isFn X.K (.ref f)=true) (F:FnOk X.prog X.w X.K X.mg X.base CX0 k f fd ps (LN C fn)) (hb:Binds X.K fd ps []) (hr:Room (k+1) X.A) (hg:Gl X x) (hm:X.mg x=some (.ref C))
   (ha:PA (X.wish (Fly X R)) [arg] t) (hdb:(x==("__debug__":Str))=false:=by decide) (he:starEach [arg] X.env=[(false,eval arg X.env)]:=by rfl) :
   PS (X.wish (Fly X R)) (.Raise (some (.Call (.Name x np) [arg] [] cpos)) none pos) (SK C fn R t):=by
 intro pins s σ H D I h
 have FB:=PySem.F.excBase_ValueError
 obtain⟨nm,q,N,bs,sn,sub,ab,col,dd,k0,k1,k2,k3,k5,lk⟩:=c.lk
 rw[arm_exec_Raise]
 refine zZ (wpAny_standAt (bF (C:=C) (hbase:=V1 (S:=S)) (hh:=hr.hd) (nm:=nm) (q:=q) (N:=N) (bs:=bs) (hdct:=true) (sn:=sn) (sub:=sub) (ab:=ab) (col:=col) (dd:=dd) (k0:=k0) (k1:=k1) (k2:=k2) (k3:=k3) (k5:=k5) (newId:= "ValueError.__new__") ?_))
 refine zZ (thn (wpAny_Call_Name_kw (IL I (X:=X.wish (Fly X R)) hg hm (PySem.W.callWith_K (h₀:=X.base) I.ok.mod.kin c.kp (Q:=fun v s₁=>∃e t dx,v = .ref e∧s₁.heap.get? C=some (excClassObj nm q C N bs (.ref S::bmV) true sn sub ab col dd k0 k1 k2 k3 k5 "ValueError.__new__") ∧
     s₁.heap.get? e=some { cls:=.ref C,dict:=dx,data:=.fields #[.ref t,.none,.none,.none,.bool false,.none] }∧Fly X R (.ref e) s₁) (thn (ha cpos pins s σ H _ I h) fun us s1 ⟨vs,H1,I1,r,v,ev,q1⟩=>⟨I1.kIn,?_⟩) he rfl) hdb)) fun v s3 h3=>zZ (wpAny_standAt (zY h3)))
 subst ev
 obtain⟨u,rfl,ru⟩:∃u,us=[u]∧RelV v u:=by cases r with | cons a b=>cases b;exact⟨_,rfl,a⟩
 have I0:=I1.unwish
 have hC:=I0.kIn _ _ lk
 obtain⟨hp,g,d,tk,os⟩:=s1
 have kk:=GN (h:=hp) (C:=C) (rest:=[u])
 have hat:=ZC (h:=hp) (C:=C) (rest:=[u])
 have I2:Inv X pins σ (upd H1 (hp.objs.size+1) (xo (hp.objs.size+1) C hp.objs.size none)) ⟨PJ hp C [u],g,d,tk,os⟩:=I0.laid (a:=hp.objs.size+1) (t':=tk) kk (Nat.le_succ _) (o8 hat)
 have hen:H1 (hp.objs.size+1)=none:=I0.hok.fresh (Nat.le_succ _)
 have r2:Vals [V.ref (hp.objs.size+1),v] [Value.ref (hp.objs.size+1),u]:=.cons rfl (.cons ru .nil)
 have hsp:LN C fn [V.ref (hp.objs.size+1),v] (upd H1 (hp.objs.size+1) (xo (hp.objs.size+1) C hp.objs.size none))
     (fun w H2=>w = .non∧∃d',H1 d'=none∧d'≠hp.objs.size+1∧H2=upd (upd H1 d' (.xd [(fn,v)])) (hp.objs.size+1) (xo (hp.objs.size+1) C hp.objs.size (some d'))) (fun _ _ _=>False):=by
   refine⟨_,v,hp.objs.size,rfl,AG,fun d' hd' hne=>⟨rfl,d',by rw[AH hne] at hd';exact hd',hne,?_⟩⟩
   funext b
   unfold upd
   by_cases z:b=hp.objs.size+1 <;> simp[z]
 have hl:([Value.ref (hp.objs.size+1),u]++[]).length=ps.length:=by
   have:=F.len _ _ _ _ hsp
   simpa using this
 refine rZ FB m9 mB mD hC (PySem.W.looks_findIn I0.kIn c.init) (fun self=>PySem.W.bind_fn I0.kIn self (beq_iff_eq.mp hfn)) (xP (F.run _ X.stack _ _ ⟨[Value.ref (hp.objs.size+1),u],[]⟩ ([Value.ref (hp.objs.size+1),u]++[]) _ _ _ (hr.make C [u] []) (I2.env0.make C [u] []) (hb _ [Value.ref (hp.objs.size+1),u] I2.kIn hl) r2 hsp) fun r' s' hq'=>?_) (by show 1≤sizeLine;decide)
 rcases r' with e | (w | _ | _ | _) <;> first | exact hq'.elim | skip
 obtain⟨w',H2,I3,rw',rfl,d',hd1,hd2,rfl⟩:=I2.after hq'
 have hx:=(I3.hok _ _ AG).1
 have hen':(upd H1 d' (.xd [(fn,v)])) (hp.objs.size+1)=none:=by rw[AH (Ne.symm hd2)];exact hen
 have ab':X.s₀.heap.objs.size≤hp.objs.size+1:=zN I0.sz (Nat.le_succ _)
 have I4:=XH I3 hen' ab'
 refine⟨rw',hp.objs.size+1,hp.objs.size,some d',rfl,I3.kIn _ _ lk,hx,hp.objs.size+1,none,.ref C,some d',.ref hp.objs.size,σ,_,.none,rfl,i6 I4,⟨⟨_,_,hx,rfl,rfl,rfl,rfl,rfl⟩,.inl rfl⟩,Loose.of I0 (Nat.le_succ _) hen',fun t e=>(by cases e),q1 d' hd1⟩
end
end XC
namespace XC
open PySem PySem.Spec L2
open PyProof.Rows (envOfC AllBare)
def XM (K:Frg) (C D:Addr):Prop:=∀(prog:Program) (w:World) (A:Around) (E:Value→Shared→Prop) (s:Shared) (e:Addr) (oe:Obj) (Q:Bool→Shared→Prop),K.In s.heap→s.heap.get? e=some oe→oe.cls = .ref C→Q true s →
 wpAny (model prog w) A (excMatches (.ref e) (.ref D)) Q E s
theorem mF {K:Frg}{C S:Addr}{init:Value}(c:XCls K C S init):XM K C C:=fun prog w A E s e oe Q X he hc q=>by
 obtain⟨nm,q',N,bs,sn,sub,ab,col,dd,k0,k1,k2,k3,k5,lk⟩:=c.lk
 obtain⟨hp,g,d,t,os⟩:=s
 exact wpAny_excMatches_sub_self (X _ _ lk) he hc V1 q
abbrev bH (X:Cx) (a:Addr):Cx:={ X with A:=X.A.mark (some (.ref a)),calm:=false,xe:=fun _ _=>False }
abbrev pinned (X:Cx) (pn:List (Addr×Obj)):Cx:={ X with pn:=pn }
section
variable {X:Cx}{pins:List (Addr×Obj)}{σ:St}{H:Hp}{s:Shared}{a:Addr}
theorem V2 (I:Inv X pins σ H s) (a:Addr):Inv (bH X a) pins σ H s:=
 ⟨⟨I.ok.mod,I.ok.kind,I.ok.glob,I.ok.blt,I.ok.above,I.ok.inj,I.ok.has,I.ok.cab,(fun z=>nomatch z),I.ok.frames,I.ok.stk,I.ok.exf,I.ok.bs,I.ok.bsz,I.ok.noex,I.ok.exfs,I.ok.funs,I.ok.frf⟩,I.os,I.bare,I.base,I.loc,I.cell,I.free,I.freeC,I.pin,I.hok,I.len⟩
theorem GO {X:Cx}(ok:X.Ok) (I:Inv (bH X a) pins σ H s):Inv X pins σ H s:=
 ⟨ok,I.os,I.bare,I.base,I.loc,I.cell,I.free,I.freeC,I.pin,I.hok,I.len⟩
theorem mG (I:Inv X pins σ H s):Inv (pinned X (X.pn++pins)) [] σ H s:=
 ⟨⟨I.ok.mod,I.ok.kind,I.ok.glob,I.ok.blt,I.ok.above,I.ok.inj,I.ok.has,I.ok.cab,I.ok.hd,I.ok.frames,I.ok.stk,I.ok.exf,I.ok.bs,I.ok.bsz,I.ok.noex,I.ok.exfs,I.ok.funs,I.ok.frf⟩,I.os,I.bare,I.base,I.loc,I.cell,I.free,I.freeC,fun p hp=>I.pin p (by simpa using hp),I.hok,I.len⟩
theorem G0 {X:Cx}(ok:X.Ok) (I:Inv (pinned X (X.pn++pins)) [] σ H s):Inv X pins σ H s:=
 ⟨ok,I.os,I.bare,I.base,I.loc,I.cell,I.free,I.freeC,fun p hp=>I.pin p (by simpa using hp),I.hok,I.len⟩
theorem iF {X:Cx}(ok:X.Ok) {D:Ends}{f:Flow}{s':Shared}(h:SP (pinned X (X.pn++pins)) [] D f s'):SP X pins D f s':=by
 cases f with
 | next=>obtain⟨σ',H',I,q⟩:=h;exact⟨σ',H',G0 ok I,q⟩
 | brk=>obtain⟨σ',H',I,q⟩:=h;exact⟨σ',H',G0 ok I,q⟩
 | cont=>obtain⟨σ',H',I,q⟩:=h;exact⟨σ',H',G0 ok I,q⟩
 | ret u=>obtain⟨v,σ',H',I,r,q⟩:=h;exact⟨v,σ',H',G0 ok I,r,q⟩
theorem bI {X:Cx}(ok:X.Ok) {D:Ends}{f:Flow}{s':Shared}(h:SP (bH X a) pins D f s'):SP X pins D f s':=by
 cases f with
 | next=>obtain⟨σ',H',I,q⟩:=h;exact⟨σ',H',GO ok I,q⟩
 | brk=>obtain⟨σ',H',I,q⟩:=h;exact⟨σ',H',GO ok I,q⟩
 | cont=>obtain⟨σ',H',I,q⟩:=h;exact⟨σ',H',GO ok I,q⟩
 | ret u=>obtain⟨v,σ',H',I,r,q⟩:=h;exact⟨v,σ',H',GO ok I,r,q⟩
end
def iG (K:Frg) (D:Addr) (cls:Value):Prop:=∃C,cls = .ref C∧XM K C D
def sC (K:Frg) (D:Addr) (tb:(St→XK)→TS) (ts:TS):TS:=fun D' σ H=>tb (fun σ' cls _ H'=>iG K D cls∧ts D' σ' H') D' σ H
theorem sD {X:Cx}{D:Addr}{body:List Stmt}{b₀:Stmt}{suite:List Stmt}{x:Str}{np hpos pos:Pos}{tb:(St→XK)→TS}{ts:TS}(hstk:X.stack=X.env::X.outer) (hfr:X.env.frame=some X.env.locals)
   (hg:Gl X x) (hm:X.mg x=some (.ref D)) (hb:∀(pn:List (Addr×Obj)) (R:St→XK),PSs ((pinned X pn).wish (Fly (pinned X pn) R)) body (tb R)) (hs:∀a,PSs (bH X a) (b₀::suite) ts) (hdb:(x==("__debug__":Str))=false:=by decide) :
   PS X (.Try body [.ExceptHandler (some (.Name x np)) none (b₀::suite) hpos] [] [] pos) (sC X.K D tb ts):=by
 intro pins s σ H D' I h
 have ok:=I.ok
 refine wpAny_Try_except ?_
 have hbody:=hb (X.pn++pins) _ [] s σ H D' ((mG I).wish _) h
 refine wpAny_mono hbody (fun f s1 q=>?_) fun e s1 q=>?_
 · have q':=iF ok q.unwish
   cases f with
   | next=>exact wpAny_execs_nil q'
   | ret v=>exact q'
   | brk=>exact q'
   | cont=>exact q'
 · obtain⟨a,T,cls,dd,ar,σ',H',fl,rfl,J,⟨x1,hfl⟩,la,lT,⟨C,rfl,xm⟩,r⟩:=q
   have I1:=G0 ok J
   have fr:X.A.frames=some (X.env::X.outer):=by rw[← hstk];exact ok.frames
   have hl:s1.heap.FunFrames X.base (X.env::X.outer):=by rw[← hstk];exact I1.stack
   refine OO fr hl hfr x1 hfl fun h2 T' x2 n2 m2=>?_
   have hfs:(X.env::X.outer).filterMap (·.frame)=frs X.stack:=by rw[hstk];rfl
   rw[hfs] at m2
   have lo:∀b,Loose (pinned X (X.pn++pins)) H' b→H' b=none∧X.s₀.heap.objs.size≤b∧b≠X.env.locals∧(∀x c,X.env.cells.lookup x=some c→c≠b)∧∀p∈X.pn++pins,p.1≠b:=fun b l=>⟨l.fre,l.above,l.loc,l.cel,l.pn⟩
   have I2:Inv X pins σ' H' { s1 with heap:=h2 }:=FZ I1 m2 fun b hb=>by
     rcases yX.mp hb with q | q
     · rw[q];exact lo _ la
     · exact lo _ (lT b (by cases T with | none=>simp at q | some t=>simp at q;rw[q]))
   have lT':=lo _ (n2.elim (fun z=>lT T' z) fun z=>Loose.of (b:=T') J z.2 (J.hok.fresh z.2))
   refine LM (s:={ s1 with heap:=h2 }) x2 fun h3 x3 m3=>?_
   have I3:Inv X pins σ' H' { s1 with heap:=h3 }:=FZ (s:={ s1 with heap:=h2 }) (ch:=[T']) I2 (m3.mono (fun b z=>absurd z (by simp)) fun b z=>z) fun b hb=>by
     have:b=T':=by simpa using hb
     rw[this];exact lT'
   have I4:=V2 I3 a
   refine wpAny_handleBy_cons (codeAny_handlers_test (IL (X:=bH X a) I4 hg hm ?_ hdb)) (by intro q;cases q)
   obtain⟨oe,vs,he,hc,_⟩:=id x3
   refine xm _ _ _ _ { s1 with heap:=h3 } a oe _ I3.kIn he hc (codeAny_handlers_suite ?_)
   refine LM (s:={ s1 with heap:=h3 }) x3 fun h4 x4 m4=>?_
   have I5:Inv X pins σ' H' { s1 with heap:=h4 }:=FZ (s:={ s1 with heap:=h3 }) (ch:=[T']) I3 (m4.mono (fun b z=>absurd z (by simp)) fun b z=>z) fun b hb=>by
     have:b=T':=by simpa using hb
     rw[this];exact lT'
   refine wpAny_mono (hs a pins { s1 with heap:=h4 } σ' H' D' (V2 I5 a) r) (fun f s' q=>?_) fun _ _ z=>False.elim z
   exact bI ok q
end XC
namespace DL
open PySem PySem.Spec L2 XC
open PyProof.Rows (envOfC AllBare)
abbrev Rx:=L2.St→XK
theorem XI.sub {K:Frg}{H:Hp}{M M':Own}(hs:M'.Sub M) {dd:Option Addr}{fs:List (Str×PyData)}(h:XI K H M.W dd fs):XI K H M'.W dd fs:=h.grow (BB hs)
abbrev DXK:=List (Option DS)→Value→List (Str×PyData)→Own→Prop
def KX (K:Frg) (R:Rx) (M:Own) (H:Hp) (DX:DXK):Prop:=∀(ρ':List (Option DS)) (cls:Value) (fs:List (Str×PyData)) (M':Own) (σ':St) (dd:Option Addr) (H':Hp),Rel K M' ρ' σ' H'→Step K M M' H H'→XI K H' M'.W dd fs→DX ρ' cls fs M'→R σ' cls dd H'
theorem KX.step {K:Frg}{R:Rx}{M M1:Own}{H H1:Hp}{DX:DXK}(k:KX K R M H DX) (t:Step K M M1 H H1):KX K R M1 H1 DX:=fun a b c d e f g h i j l=>k a b c d e f g h (t.trans i) j l
def DXt (K:Frg) (R:Rx) (t:TS) (ρ:List (Option DS)) (M:Own) (D:EndsD) (DX:DXK):Prop:=
 ∀(σ:St) (H:Hp) (E:Ends),Rel K M ρ σ H→(∀ρ' M' σ' H',Rel K M' ρ' σ' H'→Step K M M' H H'→D.nx ρ' M'→E.nx σ' H')→(∀v H' x M',OA K H' M'→SI K H' M' x v→Step K M M' H H'→D.rt x M'→E.rt v H') →
   (∀ρ' M' σ' H',Rel K M' ρ' σ' H'→Step K M M' H H'→D.bk ρ' M'→E.bk σ' H')→(∀ρ' M' σ' H',Rel K M' ρ' σ' H'→Step K M M' H H'→D.ct ρ' M'→E.ct σ' H')→KX K R M H DX→t E σ H
def DEx (K:Frg) (R:Rx) (t:TE) (ρ:List (Option DS)) (M:Own) (Q:DS→Own→Prop) (DX:DXK):Prop:=
 ∀(σ:St) (H:Hp) (QQ:VK),Rel K M ρ σ H→(∀v H' x M',OA K H' M'→SI K H' M' x v→Step K M M' H H'→Q x M'→QQ v H')→KX K R M H DX→t σ H QQ
structure FSpX where
 pre:List DS→Own→Prop
 post:List DS→Own→DS→Own→Prop
 xpost:List DS→Own→Value→List (Str×PyData)→Own→Prop
def spX (K:Frg) (n:Nat) (S:FSpX):Sp:=fun vs H Q E=>∃xs M,xs.length=n∧OA K H M∧SIs K H M xs vs∧S.pre xs M∧(∀x M' v H',S.post xs M x M'→Step K M M' H H'→OA K H' M'→SI K H' M' x v→Q v H') ∧
 ∀cls fs M' dd H',S.xpost xs M cls fs M'→Step K M M' H H'→OA K H' M'→XI K H' M'.W dd fs→E cls dd H'
section
variable {K:Frg}{R:Rx}{ρ:List (Option DS)}{M:Own}{D:EndsD}{DX:DXK}{t u:TS}{ta:TE}{tl:TA}{tA:TT}{Q:DS→Own→Prop}
theorem FI (h:DSt K t ρ M D):DXt K R t ρ M D DX:=fun σ H E Rl k1 k2 k3 k4 _=>h σ H E Rl k1 k2 k3 k4
theorem sE (h:DXt K R t ρ M { D with nx:=fun ρ1 M1=>DXt K R u ρ1 M1 D DX } DX):DXt K R (jB t u) ρ M D DX:=fun σ H E Rl k1 k2 k3 k4 k5=>by
 refine h σ H { E with nx:=fun σ' H'=>u E σ' H' } Rl (fun ρ1 M1 σ1 H1 R1 t1 q=>?_) k2 k3 k4 k5
 exact q σ1 H1 E R1 (fun a b c d e f g=>k1 a b c d e (t1.trans f) g) (fun a b c d e f g q=>k2 a b c d e f (t1.trans g) q) (fun a b c d e f g=>k3 a b c d e (t1.trans f) g) (fun a b c d e f g=>k4 a b c d e (t1.trans f) g) (k5.step t1)
theorem uQ (h:DT K tA ρ M fun c M1=>if c=true then DXt K R t ρ M1 D DX else DXt K R u ρ M1 D DX):DXt K R (oU tA t u) ρ M D DX:=fun σ H E Rl k1 k2 k3 k4 k5=>
 h σ H _ Rl fun c H1 M1 o1 t1 h1=>by
   have go:∀{w:TS},DXt K R w ρ M1 D DX→w E σ H1:=fun q=>q σ H1 E (Rl.step o1 t1) (fun a b c d e f g=>k1 a b c d e (t1.trans f) g) (fun a b c d e f g q=>k2 a b c d e f (t1.trans g) q) (fun a b c d e f g=>k3 a b c d e (t1.trans f) g) (fun a b c d e f g=>k4 a b c d e (t1.trans f) g) (k5.step t1)
   cases c with
   | true=>rw[if_pos rfl] at h1 ⊢;exact go h1
   | false=>rw[if_neg nft] at h1 ⊢;exact go h1
theorem sF {wi:TI}{g:TG}{tb:TS}(h:DI K wi ρ M fun ds M1=>∃P:Nat→List (Option DS)→Own→Prop,P 0 ρ M1∧(∀k d ρ' M',ds[k]?=some d→P k ρ' M'→DG K g d ρ' M' fun ρ2 M2=>DXt K R tb ρ2 M2 (D.turn (P (k+1))) DX)∧∀ρ' M',P ds.length ρ' M'→D.nx ρ' M') :
   DXt K R (p6 wi g tb) ρ M D DX:=fun σ H E Rl k1 k2 k3 k4 k5=>
 h σ H _ Rl fun J ds H1 M1 o1 t1 wd ⟨P,p0,pt,pe⟩=>by
   refine⟨fun i m σ' H'=>m=ds.length - i∧i≤ds.length∧∃ρ' M',Rel K M' ρ' σ' H'∧Step K M1 M' H1 H'∧P i ρ' M',⟨_,rfl,xU _,ρ,M1,Rl.step o1 t1,Step.refl,p0⟩,?_⟩
   rintro i m σ' H' ⟨rfl,hi,ρ',M',R',st,p⟩
   by_cases hlt:i < ds.length
   · refine .inr ⟨wd.go i H' M' hlt R'.own st,fun σ2 H2=>∃ρ2 M2,Rel K M2 ρ2 σ2 H2∧Step K M1 M2 H1 H2∧P (i+1) ρ2 M2,fun σ2 H2 ⟨ρ2,M2,a,b,c⟩=>⟨ds.length - (i+1),by omega,rfl,hlt,ρ2,M2,a,b,c⟩,fun x H2 y=>?_⟩
     obtain⟨oa2,st2,d,e1,e2⟩:=wd.yld i H' M' x H2 R'.own st hlt y
     refine pt i d ρ' M' e1 p σ' H2 x _ (R'.step oa2 st2) e2 fun ρ3 M3 σ3 H3 R3 st3 b3=>?_
     have s3:=(st.trans st2).trans st3
     exact b3 σ3 H3 _ R3 (fun r m s hh R4 st4 q=>⟨r,m,R4,s3.trans st4,q⟩) (fun w hh x m a b c q=>k2 w hh x m a b (t1.trans (s3.trans c)) q)
       (fun r m s hh R4 st4 q=>k1 r m s hh R4 (t1.trans (s3.trans st4)) q) (fun r m s hh R4 st4 q=>⟨r,m,R4,s3.trans st4,q⟩) (k5.step (t1.trans s3))
   · have e:i=ds.length:=by omega
     subst e
     exact .inl ⟨wd.stop H' M' R'.own st,k1 ρ' M' σ' H' R' (t1.trans st) (pe ρ' M' p)⟩
theorem bJ {C:Addr}{fn:Str}(h:DA K tl ρ M fun xs M1=>∃d,xs=[.d d]∧DX ρ (.ref C) [(fn,d)] M1):DXt K R (SK C fn R tl) ρ M D DX:=fun σ H E Rl _ _ _ _ k5=>
 h σ H _ Rl fun vs H1 xs M1 o1 s1 t1 ⟨d,ex,q⟩=>by
   subst ex
   obtain⟨v,r,rfl,sv,rfl⟩:=s1
   refine⟨v,rfl,fun p hp=>?_⟩
   have g:Step K M1 M1 H1 (upd H1 p (.xd [(fn,v)])):=⟨AW _ hp⟩
   exact k5 ρ _ [(fn,d)] M1 σ (some p) _ ((Rl.step o1 t1).step (o1.new hp) g) (t1.trans g) ⟨v,fun z=>z (o1.none hp),AG,DV.grow g.grow sv⟩ q
theorem HV {n:Nat}{S:FSpX}(h:DA K tl ρ M fun xs M1=>xs.length=n∧S.pre xs M1∧(∀x M',S.post xs M1 x M'→Q x M')∧∀cls fs M',S.xpost xs M1 cls fs M'→DX ρ cls fs M'):DEx K R (SJ (spX K n S) R tl) ρ M Q DX:=fun σ H QQ Rl k k5=>
 h σ H _ Rl fun vs H1 xs M1 o1 s1 t1 ⟨h0,h1,h2,h3⟩=>
   ⟨xs,M1,h0,o1,s1,h1,fun x M' v H' p st oa si=>k v H' x M' oa si (t1.trans st) (h2 x M' p),fun cls fs M' dd H' p st oa xi=>k5 ρ cls fs M' σ dd H' ((Rl.step o1 t1).step oa st) (t1.trans st) xi (h3 cls fs M' p)⟩
theorem mH (h:DEx K R ta ρ M (fun _ M1=>D.nx ρ M1) DX):DXt K R (cD ta) ρ M D DX:=fun σ H E Rl k1 _ _ _ k5=>h σ H _ Rl (fun v H' x M' a b c q=>k1 ρ M' σ H' (Rl.step a c) c q) k5
theorem iH {i:Nat}(h:DEx K R ta ρ M (fun x M1=>D.nx (ρ.set i (some x)) M1) DX):DXt K R (ZT ta (LX i)) ρ M D DX:=fun σ H E Rl k1 _ _ _ k5=>
 h σ H _ Rl (fun v H' x M' a b c q=>k1 _ M' _ H' ((Rl.step a c).set b i) c q) k5
theorem sG {Da:Addr}{tb:Rx→TS}{ts:TS}(h:∀R,DXt K R (tb R) ρ M D fun ρ' cls fs M'=>iG K Da cls∧DSt K ts ρ' M' D):DSt K (sC K Da tb ts) ρ M D:=fun σ H E Rl k1 k2 k3 k4=>by
 refine h _ σ H E Rl k1 k2 k3 k4 fun ρ' cls fs M' σ' dd H' R' st _ ⟨xm,q⟩=>⟨xm,?_⟩
 exact q σ' H' E R' (fun a b c d e f g=>k1 a b c d e (st.trans f) g) (fun a b c d e f g q=>k2 a b c d e f (st.trans g) q) (fun a b c d e f g=>k3 a b c d e (st.trans f) g) (fun a b c d e f g=>k4 a b c d e (st.trans f) g)
end
section
variable {P:Program}{w:World}{K:Frg}{mg:Str→Option Value}{base:Heap}
theorem mI {n:Nat}{S:FSpX}:∀vs H Q E,spX K n S vs H Q E→vs.length=n:=fun vs H Q E ⟨xs,M,hl,_,h,_⟩=>by rw[h.length,hl]
theorem mJ {x qual:Str}{st:Stmt}{f:Addr}{fd:FuncData}{N ps:List Str}{k:Nat}{S:FSpX}(F:Fun K x qual st f fd) (Sc:FnScope N ps (AA st))
   (hbody:∀(cdv:Value) (A:Around) (outer:List Env) (s:Shared) (H:Hp) (E:XK),Room k (A.deeper (envOfC qual (AA st) s.heap.objs.size f cdv)) →
     ∃t,PSs ((F5 (CXE P w) P w K mg base N qual (AA st) f cdv A outer s H E).wish (Fly (F5 (CXE P w) P w K mg base N qual (AA st) f cdv A outer s H E) fun _=>E)) (BF st) t ∧
       ∀xs M,xs.length=ps.length→S.pre xs M→DXt K (fun _=>E) t (NO N xs) M { nx:=fun _ M1=>∃M2:Own,M2.Sub M1∧S.post xs M (.d .none) M2,rt:=fun y M1=>∃M2:Own,M2.Sub M1∧S.post xs M y M2 } fun _ cls fs M1=>∃M2:Own,M2.Sub M1∧S.xpost xs M cls fs M2) :
   FnOk P w K mg base (CXE P w) (k+1) f fd ps (spX K ps.length S):=by
 refine vM F Sc mI fun cdv A outer s H vs Q E hr h=>?_
 obtain⟨t,ht,hq⟩:=hbody cdv A outer s H E hr
 obtain⟨xs,M,hl,oa,si,pre,post,xpost⟩:=h
 refine⟨t,ht,hq xs M hl pre (L2.F8 N vs) H _ (QE oa si) ?_ ?_ (fun _ _ _ _ _ _ z=>z.elim) (fun _ _ _ _ _ _ z=>z.elim) ?_⟩
 · rintro ρ' M1 σ' H' R st ⟨M2,hs,p⟩
   exact post (.d .none) M2 .non H' p (st.trans ⟨BB hs⟩) (R.own.sub hs) (by unfold SI DV;rfl)
 · rintro v H' y M1 o s1 st ⟨M2,hs,p⟩
   exact post y M2 v H' p (st.trans ⟨BB hs⟩) (o.sub hs) (s1.sub hs)
 · rintro ρ' cls fs M1 σ' dd H' R st xi ⟨M2,hs,p⟩
   exact xpost cls fs M2 dd H' p (st.trans ⟨BB hs⟩) (R.own.sub hs) (xi.sub hs)
structure HasX (P:Program) (w:World) (K:Frg) (mg:Str→Option Value) (base:Heap) (x:Str) (k:Nat) (ps:List Str) (S:FSpX):Prop where
 ex:∃f fd,FnOk P w K mg base (CXE P w) k f fd ps (spX K ps.length S)∧mg x=some (.ref f)∧PySem.W.keepIn K (.ref f)=true∧Binds K fd ps []
theorem bK {X:Cx}{R:Rx}{x:Str}{k:Nat}{ps:List Str}{S:FSpX}{e:Expr}{es:List Expr}{t:TA}{p pos:Pos}(h:HasX X.prog X.w X.K X.mg X.base x k ps S) (hr:Room k X.A) (hg:Gl X x) (ha:PA (X.wish (Fly X R)) (e::es) t)
   (hdb:(x==("__debug__":Str))=false:=by decide) (he:starEach (e::es) X.env=(false,eval e X.env)::starEach es X.env:=by rfl) (hpl:(backTo pos (starEach es X.env)).any (·.1)=false:=by rfl) :
   PE (X.wish (Fly X R)) (.Call (.Name x p) (e::es) [] pos) (SJ (spX X.K ps.length S) R t):=by
 obtain⟨f,fd,F,hm,hk,hb⟩:=h.ex
 exact i8 F hr hg hm hk hb ha hdb he hpl
end
end DL
namespace DL
open PySem PySem.Spec L2 XC
open PyProof.Rows (envOfC AllBare)
def RC (k:Nat):Stmt→Stmt
 | .ClassDef _ _ _ b _ _ _ _ _ _ _=>b.getD k (.Pass ⟨0,0,0,0⟩)
 | _=>.Pass ⟨0,0,0,0⟩
section
variable {P:Program}{w:World}{K:Frg}{mg:Str→Option Value}{base:Heap}
theorem SL (X:Cx) (R:Rx) {x:Str}{k:Nat}{ps:List Str}{S:FSpX}{e:Expr}{es:List Expr}{t:TA}{p pos:Pos}(hK:X.K=K) (hP:X.prog=P) (hw:X.w=w) (hmg:X.mg=mg) (hbs:X.base=base)
   (h:HasX P w K mg base x k ps S) (hr:Room k X.A) (hg:Gl X x) (ha:PA (X.wish (Fly X R)) (e::es) t)
   (hdb:(x==("__debug__":Str))=false:=by decide) (he:starEach (e::es) X.env=(false,eval e X.env)::starEach es X.env:=by rfl) (hpl:(backTo pos (starEach es X.env)).any (·.1)=false:=by rfl) :
   PE (X.wish (Fly X R)) (.Call (.Name x p) (e::es) [] pos) (SJ (spX K ps.length S) R t):=by
 subst hK hP hw hmg hbs
 exact bK h hr hg ha hdb he hpl
structure HasR (P:Program) (w:World) (K:Frg) (mg:Str→Option Value) (base:Heap) (x fn:Str) (C S:Addr):Prop where
 ex:∃(f:Addr) (fd:FuncData) (ps:List Str),XCls K C S (.ref f)∧PySem.W.isFn K (.ref f)=true∧FnOk P w K mg base CX0 1 f fd ps (LN C fn)∧Binds K fd ps []∧mg x=some (.ref C)
theorem HasR.at {x fn:Str}{C S:Addr}(h:HasR P w K mg base x fn C S):mg x=some (.ref C):=let ⟨_,_,_,_,_,_,_,q⟩:=h.ex;q
theorem HasR.self {x fn:Str}{C S:Addr}(h:HasR P w K mg base x fn C S):XM K C C:=let ⟨_,_,_,q,_⟩:=h.ex;mF q
theorem ZD (X:Cx) (R:Rx) {x fn:Str}{C S:Addr}{arg:Expr}{t:TA}{np cpos pos:Pos}(hK:X.K=K) (hP:X.prog=P) (hw:X.w=w) (hmg:X.mg=mg) (hbs:X.base=base)
   (h:HasR P w K mg base x fn C S) (hr:Room 2 X.A) (hg:Gl X x) (ha:PA (X.wish (Fly X R)) [arg] t) (hdb:(x==("__debug__":Str))=false:=by decide) (he:starEach [arg] X.env=[(false,eval arg X.env)]:=by rfl) :
   PS (X.wish (Fly X R)) (.Raise (some (.Call (.Name x np) [arg] [] cpos)) none pos) (SK C fn R t):=by
 subst hK hP hw hmg hbs
 obtain⟨f,fd,ps,c,hf,F,hb,hm⟩:=h.ex
 exact bG c hf F hb hr hg hm ha hdb he
theorem vN (X:Cx) {D:Addr}{body:List Stmt}{b₀:Stmt}{suite:List Stmt}{x:Str}{np hpos pos:Pos}{tb:Rx→TS}{ts:TS}(hK:X.K=K) (hstk:X.stack=X.env::X.outer) (hfr:X.env.frame=some X.env.locals)
   (hg:Gl X x) (hm:X.mg x=some (.ref D)) (hb:∀(pn:List (Addr×Obj)) (R:Rx),PSs ((pinned X pn).wish (Fly (pinned X pn) R)) body (tb R)) (hs:∀a,PSs (bH X a) (b₀::suite) ts) (hdb:(x==("__debug__":Str))=false:=by decide) :
   PS X (.Try body [.ExceptHandler (some (.Name x np)) none (b₀::suite) hpos] [] [] pos) (sC K D tb ts):=by
 subst hK
 exact sD hstk hfr hg hm hb hs hdb
theorem ZE {qual fn pn:Str}{st:Stmt}{f C S:Addr}{fd:FuncData}{p1 p2 p3 p4:Pos}(F:Fun K "__init__" qual st f fd) (Sc:FnScope ["self", pn] ["self", pn] (AA st)) (hb:BF st=[.Assign [.Attribute (.Name "self" p1) fn p2] (.Name pn p3) p4])
   (c:XCls K C S (.ref f)) (cs:XSet K C fn) (nd:(["self", pn]:List Str).Nodup) (hs:∀env:Env,swapsWith (.Name pn p3) (some (.Attribute (.Name "self" p1) fn p2)) p4.line env=pure false)
   (h0:∀X:Cx,X.N=(["self", pn]:List Str)→X.env.scope=AA st→PE X (.Name "self" p1) (ZS 0)) (h1:∀X:Cx,X.N=(["self", pn]:List Str)→X.env.scope=AA st→PE X (.Name pn p3) (ZS 1)):FnOk P w K mg base CX0 1 f fd ["self", pn] (LN C fn):=by
 refine F.ok Sc (fun vs H Q E ⟨e,v,t,h,_⟩=>by rw[h];rfl) fun cdv A outer s H vs Q E hr ⟨e,v,t,ev,he,hq⟩=>?_
 subst ev
 rw[hb]
 refine⟨_,RJ (mE (C:=C) (S:=S) (fn:=fn) c cs (h0 _ rfl rfl) (h1 _ rfl rfl) (hs _)),?_⟩
 exact⟨v,rfl,.ref e,rfl,e,t,rfl,he,fun d hd hne=>hq d hd hne⟩
end
end DL
namespace DL
open PySem PySem.Spec L2
theorem V3 (m:Nat):MS (D6 m)=true:=by
 obtain⟨d1,d2,_⟩:=OK m
 unfold MS
 rw[show(D6 m).isEmpty=false by simpa using d2,Bool.and_eq_true]
 exact⟨rfl,List.all_eq_true.mpr fun c hc=>UV.mpr (d1 c hc)⟩
theorem bL:D6 0=[48]:=Z8 (by decide)
theorem rw_dec {n:Int}(hb:big n):rwL (CK n).cps.toList=some n:=by
 obtain⟨m,hm,hc⟩:=RA n hb
 obtain⟨d1,d2,d3,d4,d5⟩:=OK m
 rcases hc with ⟨h0,hn,e⟩ | ⟨h0,hn,hm0,e⟩
 · rw[e]
   have hh:¬(D6 m).head?=some 45:=fun h=>by
     have:=d1 45 (List.mem_of_mem_head? h)
     omega
   have hf:CA (D6 m)=D6 m:=by unfold CA;rw[if_neg hh]
   unfold rwL
   rw[hf,V3,if_neg hh,d3,if_pos,hn]
   by_cases h48:(D6 m).head?=some 48
   · have:m=0:=by
       cases hd:D6 m with
       | nil=>exact absurd hd d2
       | cons y ys=>
         rw[hd] at h48
         have:y=48:=by simpa using h48
         subst this
         exact d4 ys hd
     subst this
     rw[bL];rfl
   · rw[decide_eq_false h48];rfl
 · rw[e]
   have hh:(45::D6 m).head?=some 45:=rfl
   have hf:CA (45::D6 m)=D6 m:=by unfold CA;rw[if_pos hh];rfl
   have h48:¬(D6 m).head?=some 48:=fun h=>by
     cases hd:D6 m with
     | nil=>exact absurd hd d2
     | cons y ys=>
       rw[hd] at h
       have:y=48:=by simpa using h
       subst this
       have:=d4 ys hd
       omega
   unfold rwL
   rw[hf,V3,if_pos hh,d3,decide_eq_false h48,hn];rfl
example:(GE (rwD (.str (Txt.partition (Str.ofString "01:1") (Str.ofString ":")).1))&&HL (rwD (.str (Txt.partition (Str.ofString "01:1") (Str.ofString ":")).2.2)))=false:=by decide +kernel
example:(GE (rwD (.str (Txt.partition (Str.ofString "1:1.0") (Str.ofString ":")).1))&&HL (rwD (.str (Txt.partition (Str.ofString "1:1.0") (Str.ofString ":")).2.2)))=false:=by decide +kernel
end DL
namespace DL
open PySem PySem.Spec L2
def BW:FSp:=⟨fun xs M=>∃p o,xs=[.loc p]∧M p=some o∧B5 o,fun xs M y M'=>∀p,xs=[.loc p]→∃n o,y = .d (.int n)∧0≤n∧n≤999∧B5 o∧M'=M.put p o⟩
theorem OP {p:Addr}{o:MO}{M:Own}{Q:DS→Own→Prop}(m:M p=some o) (ho:B5 o) (q:∀n o',0≤n→n≤999→B5 o'→Q (.d (.int n)) (M.put p o')):[DS.loc p].length=1∧BW.pre [.loc p] M∧∀x M',BW.post [.loc p] M x M'→Q x M':=
 ⟨rfl,⟨p,o,rfl,m,ho⟩,fun x M' h=>by obtain⟨n,o',rfl,h1,h2,h3,rfl⟩:=h p rfl;exact q n o' h1 h2 h3⟩
end DL
namespace DL
open PySem PySem.Spec L2
def ZF (ys:List Str):Prop:=(∀z∈ys,B8 z)∧ys.Nodup
def CQ:FSp:=⟨fun xs M=>∃p o,xs=[.loc p]∧M p=some o∧B5 o,fun xs M y M'=>y = .d (.bool true)∧∀p,xs=[.loc p]→∃o,M'=M.put p o⟩
def wT2 (t:Th):Str×List PyData:=(t.1,[.int t.2.1,.int t.2.2])
def unT (u:Str×List PyData):Th:=match u with | (a,[.int p,.int c])=>(a,p,c) | (a,_)=>(a,0,0)
theorem V4 (w:List Th):(w.map wT2).map JR=w.map thD:=by rw[zD];rfl
theorem V5 {ts:List (Str×List PyData)}{w:List Th}(h:ts.Perm (w.map wT2)):(ts.map unT).Perm w∧ts.map JR=(ts.map unT).map thD∧(ts.map unT).map (·.1)=ts.map (·.1):=by
 have e:(w.map wT2).map unT=w:=by rw[zD];exact List.map_id _
 refine⟨by have:=h.map unT;rw[e] at this;exact this,?_,?_⟩
 · rw[zD]
   apply yM
   intro u hu
   obtain⟨t,_,rfl⟩:=zL.mp (h.mem_iff.mp hu)
   rfl
 · rw[zD]
   apply yM
   intro u hu
   obtain⟨t,_,rfl⟩:=zL.mp (h.mem_iff.mp hu)
   rfl
theorem RD {ts:List (Str×List PyData)}(h:ts.Pairwise fun x y=>x.1.cps.toList < y.1.cps.toList):Ris (ts.map (·.1)):=by
 unfold Ris
 rw[List.pairwise_map]
 exact h.imp fun {a b} q=>by rw[← uD];exact decide_eq_true q
theorem XJ {t:Th}(h:B8 t.1):zH (thD t)=true:=by
 refine D0 ?_ ?_
 · exact RZ (ds:=[.str t.1,.int t.2.1,.int t.2.2]) fun d hd=>by
     simp only[yX,xX,or_false] at hd
     rcases hd with rfl | rfl | rfl
     · exact JO h
     · rfl
     · rfl
 · simp[thD,PyData.depth,PyData.depthAll]
theorem bM {w:List Th}(h:EV w):zH (wD w)=true:=by
 refine D0 (RZ fun d hd=>?_) ?_
 · obtain⟨t,ht,rfl⟩:=zL.mp hd
   exact zG (XJ (h.2 t ht).1)
 · have:PyData.depthAll (w.map thD)≤3:=fC fun d hd=>by
     obtain⟨t,ht,rfl⟩:=zL.mp hd
     simp[thD,PyData.depth,PyData.depthAll]
   simp only[wD,PyData.depth]
   omega
theorem V6 {D:Deed}(h:D.ok):zH D.d=true:=by
 have wk:PyData.canLay0 (.str D.word)=true:=zG D.word_ok
 have nk:∀x∈D.names,PyData.canLay0 (.str x)=true:=fun x hx=>JO (h x hx)
 refine D0 ?_ (by cases D <;> simp[Deed.d,PyData.depth,PyData.depthAll])
 cases D <;> (refine RZ ?_;simp only[List.forall_mem_cons])
 · exact⟨wk,nk _ (by simp[Deed.names]),rfl,rfl,by simp⟩
 · exact⟨wk,nk _ (by simp[Deed.names]),by simp⟩
 · exact⟨wk,nk _ (by simp[Deed.names]),rfl,by simp⟩
 · exact⟨wk,nk _ (by simp[Deed.names]),rfl,by simp⟩
 · exact⟨wk,nk _ (by simp[Deed.names]),nk _ (by simp[Deed.names]),by simp⟩
 · exact⟨wk,nk _ (by simp[Deed.names]),nk _ (by simp[Deed.names]),rfl,rfl,by simp⟩
 · exact⟨wk,nk _ (by simp[Deed.names]),nk _ (by simp[Deed.names]),by simp⟩
theorem bN {ys:List Str}{y:Str}:((ys.map PyData.str).filter fun d=>!PyData.eqv d (.str y)).map id=(ys.filter fun z=>decide (z≠y)).map .str:=by
 rw[List.map_id,xV]
 congr 1
 apply List.filter_congr
 intro z _
 show(!PyData.eqv (.str z) (.str y))=_
 rw[N5]
 by_cases e:z=y <;> simp[e]
theorem XN {ys:List Str}{y:Str}(nd:ys.Nodup) (hy:y∈ys) (h2:2≤ys.length):0 < (ys.filter fun z=>decide (z≠y)).length∧(ys.filter fun z=>decide (z≠y)).length≤ys.length:=by
 refine⟨?_,yJ _ _⟩
 rw[List.length_pos_iff_exists_mem]
 match ys,nd,hy,h2 with
 | a::b::r,nd,hy,_=>
   by_cases e:a=y
   · refine⟨b,yL.mpr ⟨by simp,?_⟩⟩
     rw[xW] at nd
     simp
     intro q
     exact nd.1 (by rw[e,← q];simp)
   · exact⟨a,yL.mpr ⟨by simp,by simpa using e⟩⟩
theorem XO {y1 y2:Str}{pl k:Int}{D:Deed}(h1:B8 y1) (h2:B8 y2) (hne:y1≠y2) (hp:0≤pl∧pl≤999) (h:D∈[Deed.put y1 pl k,.take y1,.move y1 pl,.count y1 k,.name y1 y2,.split y1 y2 pl k,.join y1 y2]):D.real:=by
 have o1:∀x∈[y1],B8 x:=by simpa using h1
 have o2:∀x∈[y1,y2],B8 x:=fun x hx=>by simp at hx;rcases hx with rfl | rfl;exact h1;exact h2
 simp only[yX,xX,or_false] at h
 rcases h with rfl | rfl | rfl | rfl | rfl | rfl | rfl
 · exact⟨o1,trivial,hp⟩
 · exact⟨o1,trivial,trivial⟩
 · exact⟨o1,trivial,hp⟩
 · exact⟨o1,trivial,trivial⟩
 · exact⟨o2,hne,trivial⟩
 · exact⟨o2,hne,hp⟩
 · exact⟨o2,hne,trivial⟩
theorem bO {M:Own}{p A:Addr}{o o' x:MO}(h:p≠A):((M.put p o).put A x).put p o'=(M.put p o').put A x:=by
 funext b
 unfold Own.put
 by_cases e1:b=p
 · subst e1;simp[h]
 · simp[e1]
def amB (ns:List Str) (D:Deed) (n:Str):Bool:=decide (n∈ns)==decide (D.made=some n)
theorem V7 {ns:List Str}{D:Deed}{k:Nat}{n:Str}(h:∀x∈D.names.take k,amB ns D x=false) (hn:D.names[k]?=some n) (hb:amB ns D n=true):AF ns D=some n:=by
 unfold AF
 have hk:k < D.names.length:=(yT.mp hn).1
 have e:D.names=D.names.take k++n::D.names.drop (k+1):=by
   have:D.names[k]=n:=by rw[zV hk] at hn;exact Option.some.inj hn
   rw[← this,List.getElem_cons_drop,List.take_append_drop]
 rw[e,List.find?_append,List.find?_eq_none.mpr fun x hx=>by
   have:=h x hx
   unfold amB at this
   rw[this];exact nft]
 rw[Option.none_or,List.find?_cons]
 unfold amB at hb
 rw[hb]
theorem iI {ns:List Str}{D:Deed}(h:∀x∈D.names,amB ns D x=false):AF ns D=none:=by
 unfold AF
 rw[List.find?_eq_none]
 intro x hx
 have:=h x hx
 unfold amB at this
 rw[this];exact nft
theorem XQ {p:Addr}{o:MO}{M:Own}{Q:DS→Own→Prop}(m:M p=some o) (ho:B5 o) (q:∀o',Q (.d (.bool true)) (M.put p o')):[DS.loc p].length=1∧CQ.pre [.loc p] M∧∀x M',CQ.post [.loc p] M x M'→Q x M':=
 ⟨rfl,⟨p,o,rfl,m,ho⟩,fun x M' h=>by obtain⟨rfl,h⟩:=h;obtain⟨o',rfl⟩:=h p rfl;exact q o'⟩
end DL
namespace DL
open PySem PySem.Spec L2 XC
theorem HasX.calm {P:Program}{w:World}{K:Frg}{mg:Str→Option Value}{base:Heap}{x:Str}{k:Nat}{ps:List Str}{S:FSpX}{S':FSp}(h:HasX P w K mg base x k ps S)
   (hp:∀xs M,S'.pre xs M→S.pre xs M∧(∀y M',S.post xs M y M'→S'.post xs M y M')∧∀cls fs M',¬S.xpost xs M cls fs M'):Has P w K mg base x k ps S':=by
 obtain⟨f,fd,F,hm,hk,hb⟩:=h.ex
 refine⟨f,fd,⟨YN,fun A outer s H args us vs Q E hr he hbt hv hs=>?_⟩,hm,hk,hb⟩
 obtain⟨xs,M,h0,oa,si,pre,q⟩:=hs
 obtain⟨g1,g2,g3⟩:=hp xs M pre
 refine xP (F.run A outer s H args us vs Q (fun _ _ _=>False) hr he hbt hv ⟨xs,M,h0,oa,si,g1,fun y M' v H' p1=>q y M' v H' (g2 y M' p1),fun cls fs M' dd H' p1=>absurd p1 (g3 cls fs M')⟩) fun r s' hr'=>?_
 cases r with
 | ok z=>cases z <;> first | exact hr' | exact hr'.elim
 | error e=>
   obtain⟨_,_,_,_,_,_,_,_,_,_,_,_,_,_,_,_,hf⟩:=hr'
   exact hf.elim
end DL
namespace L2
open PySem PySem.Spec PyProof.Rows
theorem V8 {prog:Program}{w:World}{A:Around}{I:Addr}{fp wr:List Addr}{G:Array GenState→Array GenState→Prop}{n:Nat}{P:Nat→Value→Prop}{St:Nat→Shared→Prop}
   (W:WalksS prog w A I fp wr G (n+1) P St):WalksS prog w A I fp wr G n (fun i v=>P (i+1) v) (fun i s=>St (i+1) s):=
 ⟨W.sub,W.grefl,W.gtrans,fun i=>W.frame (i+1),fun i s Q E hi st hQ=>W.item (i+1) s Q E (Nat.succ_lt_succ hi) st hQ,W.done,fun i=>W.self (i+1)⟩
section
variable {prog:Program}{w:World}{A:Around}{E:Value→Shared→Prop}{s:Shared}
theorem V9 {l:Addr}{x:Value}{xs:List Value}{Q:List Value→Shared→Prop}(hh:A.handled=none) (hl:s.heap.IsList l (x::xs).toArray) (hn:xs.length≤sizeLine)
   (hQ:∀(h':Heap) (k:Nat),(∀b o,s.heap.get? b=some o→h'.get? b=some o)→Q [x,.ref h'.objs.size] { s with heap:=h'.push { cls:=.type "list", data:=.seq xs.toArray },toks:=k }) :
   wpAny (model prog w) A (unpackItems (.ref l) 2 (some 1)) Q E s:=by
 have hne:l≠s.heap.objs.size:=by obtain⟨o,ho,_⟩:=hl;exact zC (zM ho)
 have hlt:l < s.heap.objs.size:=by obtain⟨o,ho,_⟩:=hl;exact zM ho
 unfold unpackItems;refine zZ ?_;unfold notIterableAtAll
 refine zZ (wpAny_specialOf hl.typeIs F.slot_list_iter.lookup ?_);refine zY ?_;simp only[Bool.false_eq_true,if_false]
 refine zZ (wpAny_holding (wpAny_pyIter_list hl ?_))
 refine zZ (wpAny_holding (NY hne 1 0 _ _ ⟨_,yZ _ rfl,rfl,rfl⟩ (hl.push _) (by simp) fun g1 t1 q1=>?_))
 rw[show List.take 1 (List.drop 0 ((x::xs).toArray).toList)=[x] from rfl,if_neg (by simp)]
 have hl1:=(hl.push { cls:=.type "list_iterator", data:=.fields #[.ref l,rawInt 0] }).extBut q1.extBut hne
 have hW:=V8 (n:=xs.length) ((Walks.list (prog:=prog) (w:=w) (A:=A.in1) hh s.heap.objs.size l hne (x::xs).toArray).toS)
 refine zZ (wpAny_holding (wpAny_collect_iter (T:= "list_iterator") (.inr (.inr (.inl rfl))) hW (fun i r st=>st.1.typeIs) ⟨t1,hl1⟩ (fun b hb=>?_) (by simp) (fun s' acc hm hacc=>?_) hn))
 · obtain⟨o,ho,_⟩:=id t1
   obtain⟨o2,ho2,_⟩:=id hl1
   rcases yX.mp hb with e | e
   · rw[e];exact zM ho
   · rw[List.mem_singleton.mp e];exact zM ho2
 have he:acc.toList=xs:=by
   apply List.ext_getElem?
   intro j
   obtain⟨e1,e2⟩:=hacc
   by_cases hj:j < xs.length
   · have h1:=e2 j acc[j] (by simp[e1,hj])
     rw[Array.getElem?_toList,Array.getElem?_eq_getElem (by omega)]
     have h2:xs[j]?=some acc[j]:=by simpa using h1
     exact h2.symm
   · rw[List.getElem?_eq_none (by rw[Array.length_toList];omega),List.getElem?_eq_none (by omega)]
 rw[he,if_neg (by simp)]
 have hk:∀b o,s.heap.get? b=some o→s'.heap.get? b=some o:=fun b o e=>hm.heap b o (fun hI=>absurd (zM e) (by rw[List.mem_singleton.mp hI];exact yF _)) (q1.extBut b o (zC (zM e)) (zW _ e))
 have hsz:sizeOk (.seq (xs.take (xs.length - (2 - 1 - 1))).toArray):=by
   show(xs.take (xs.length - (2 - 1 - 1))).toArray.size≤sizeLine
   rw[zJ]
   exact zN (List.length_take_le _ _) (zN (Nat.sub_le _ _) hn)
 refine zZ (xN (zY ?_) hsz)
 have hq:=hQ s'.heap s'.toks hk
 rw[Moved.eq_with hm]
 have e1:xs.take (xs.length - (2 - 1 - 1))=xs:=List.take_of_length_le (by simp)
 have e2:xs.drop (xs.length - (2 - 1 - 1))=[]:=List.drop_of_length_le (by simp)
 rw[e1,e2]
 exact hq
end
section
variable {X:Cx}{pos:Pos}
def iJ (K:Frg) (t:TGs):TG:=fun v σ H Q=>∃a x xs,v = .ref a∧SqL K H a (x::xs)∧∀p,H p=none→t [x,.ref p] σ (upd H p (.lst xs)) Q
theorem mK {es es':List Expr}{k:Nat}{t:TGs}(hc:X.calm=true) (h:PGs X es' t) (he:(assignEach es X.env).map (·.2)=(assignEach es' X.env).map (·.2):=by rfl)
   (hn:(assignEach es X.env).length=2:=by rfl) (hst:(assignEach es X.env).findIdx? (·.1)=some 1:=by rfl):PG X (.Tuple es k pos) (iJ X.K t):=by
 intro pins s σ H v u Q I r hw
 obtain⟨a,x,xs,e1,hq,hw⟩:=hw
 subst e1
 cases r
 obtain⟨its,rv,pl,hz⟩:=I.list hq
 cases rv with
 | @cons _ y _ ys r1 r2=>
 rw[arm_assign_Tuple]
 refine zZ (wpAny_standAt ?_)
 unfold unpack
 rw[hn,hst]
 refine zZ (wpAny_holding (V9 (I.ok.hd hc) pl.isList (by rw[← r2.length];exact zN (Nat.le_succ _) hz) fun h' k' hx=>?_))
 have I1:Inv X pins σ H { s with heap:=h',toks:=k' }:=I.kept (t':=k') fun b o e=>hx b o e
 have hno:H h'.objs.size=none:=I1.hok.fresh (zR _)
 have I2:=I1.laid (t':=k') (o:=.lst xs) (fun b o e=>zW _ e) (zR _) ⟨zN (Nat.le_succ _) hz,ys,0,r2,yZ _ rfl⟩
 rw[he]
 exact h pins _ σ _ [x,.ref h'.objs.size] _ Q I2 (.cons r1 (.cons rfl .nil)) (hw _ hno)
end
end L2
namespace DL
open PySem PySem.Spec L2
theorem uR {X:Cx}{K:Frg}{pos:Pos}{es es':List Expr}{k:Nat}{t:TGs}(hK:X.K=K) (hc:X.calm=true) (h:PGs X es' t) (he:(assignEach es X.env).map (·.2)=(assignEach es' X.env).map (·.2):=by rfl)
   (hn:(assignEach es X.env).length=2:=by rfl) (hst:(assignEach es X.env).findIdx? (·.1)=some 1:=by rfl):PG X (.Tuple es k pos) (iJ K t):=hK▸mK hc h he hn hst
section
variable {K:Frg}{M:Own}{ρ:List (Option DS)}{P:List (Option DS)→Own→Prop}
theorem mL {g:TGs}{d:PyData}{ds:List PyData}(h:DGs K g [d,.list ds] ρ M P):DG K (iJ K g) (.list (d::ds)) ρ M P:=fun σ H v QQ R dv k=>by
 unfold DV at dv
 obtain⟨a,vs,rfl,hl,hd⟩:=dv
 unfold DVs at hd
 obtain⟨x,xs,rfl,h1,h2⟩:=hd
 refine⟨a,x,xs,rfl,hl.sq,fun p hp=>?_⟩
 have g':Grow K M.W M.W H (upd H p (.lst xs)):=AW _ hp
 refine h σ _ _ QQ (R.step (R.own.new hp) ⟨g'⟩) ?_ fun ρ1 M1 σ1 H1 R1 st1 q=>k ρ1 M1 σ1 H1 R1 (Step.trans ⟨g'⟩ st1) q
 refine DVs.cons (h1.grow g') (DVs.cons ?_ DVs.nil)
 unfold DV
 exact⟨p,_,rfl,.inl ⟨fun w=>w (R.own.none hp),.inl AG⟩,h2.grow g'⟩
end
end DL
namespace L2
open PySem PySem.Spec PyProof.Rows
section
variable {prog:Program}{w:World}{A:Around}{E:Value→Shared→Prop}{s:Shared}
theorem mM {i t:Addr}{k:Nat}{items:Array Value}{y:Value}(hne:t≠i) (hx:items[k]?=some y):NxI prog w A i (fun h=>h.IsListIter i t k∧h.IsList t items) (fun h=>h.IsListIter i t (k+1)∧h.IsList t items) (fun v=>v=y):=fun s Q E hS hQ=>by
 obtain⟨hit,ht⟩:=hS
 exact wpAny_nextOf_list_item hit ht hx fun h' a b=>hQ h' _ y rfl ⟨a,ht.extBut b.extBut hne⟩ b
theorem iK {t:Addr}{items:Array Value}:NX (.ref t) { cls:=.type "list_iterator", data:=.fields #[.ref t,.int 0 0] } (fun h=>h.IsList t items):=fun prog w A E s Q ht hQ=>wpAny_pyIter_list ht hQ
end
section
variable {X:Cx}{pins:List (Addr×Obj)}{σ:St}{H:Hp}{s:Shared}
theorem sH {a z:Addr}{xs:List V}(I:Inv X pins σ H s) (hf:IX X pins H z) (h:SqL X.K H a xs):a≠z:=by
 rintro rfl
 rcases h with h | ⟨o,its,n,hk,_⟩
 · rcases h with h | ⟨o',h⟩ <;> rw[hf.1] at h <;> cases h
 · have e:=I.ok.mod.kin a o hk
   rcases hf.2.2.2.1 with z | z
   · exact I.ok.noex a o e z
   · exact absurd (zP (zM e) (zN I.ok.bsz z)) (yF _)
end
def uS (K:Frg) (x:Str) (l2:Addr):It:=
 ⟨fun i H=>∃ys,SqL K H l2 ys∧i < x.cps.size∧i < ys.length,
  fun i H v H'=>∃p c b,H p=none∧v = .ref p∧H'=upd H p (.tup [.str ⟨#[c]⟩,b])∧x.cps[i]?=some c∧∀ys,SqL K H l2 ys→ys[i]?=some b,
  fun i H=>x.cps.size≤i⟩
theorem XR {P:Program}{w:World}{K:Frg}{elts:List Expr}{kk:Nat}{tpos:Pos}(z TI TO i1 i2:Addr) (x:Str) (t:Tok) (l2:Addr) (d1:TI≠z) (d2:TO≠z) (d3:i1≠z) (d4:i2≠z) (d5:TI≠TO) (d6:TI≠i1) (d7:TI≠i2) (d8:TO≠i1) (d9:TO≠i2) (d10:i1≠i2) :
   Turn P w K (.Tuple elts kk tpos) (uS K x l2) [z,TI,TO,i1,i2] z (fun i h=>IsZip h z TI TO .none∧IsPair h TI (.ref i1) (.ref i2)∧(∃a b,IsPair h TO a b)∧h.IsStrIter i1 "str_ascii_iterator" x t i∧h.IsListIter i2 l2 i) where
 mem:=by simp
 obj:=fun i h ⟨a1,a2,⟨x,y,a3⟩,a4,a5⟩ b hb=>by
   simp only[yX,xX,or_false] at hb
   rcases hb with rfl | rfl | rfl | rfl | rfl
   · exact⟨_,a1,fun v q=>by cases q⟩
   · exact⟨_,a2,fun v q=>by cases q⟩
   · exact⟨_,a3,fun v q=>by cases q⟩
   · obtain⟨o,e,c,d⟩:=a4;exact⟨o,e,fun v q=>by rw[d] at q;cases q⟩
   · obtain⟨o,e,c,d⟩:=a5;exact⟨o,e,fun v q=>by rw[d] at q;cases q⟩
 keep:=fun i h h' ⟨a1,a2,⟨x,y,a3⟩,⟨o4,e4,r4⟩,a5⟩ k=>⟨k z (by simp) _ a1,k TI (by simp) _ a2,⟨x,y,k TO (by simp) _ a3⟩,⟨o4,k i1 (by simp) o4 e4,r4⟩,a5.at fun o e=>k i2 (by simp) o e⟩
 item:=by
   intro X hP hw hK hc i pins s σ H E I hf ⟨a1,a2,⟨x0,y0,a3⟩,a4,a5⟩ hg
   subst hP hw hK
   obtain⟨ys,hy,lx,ly⟩:=hg
   obtain⟨its2,ry,py,_⟩:=I.list hy
   obtain⟨v,hv,rv⟩:=ry.get (zV ly)
   have hx:x.cps[i]?=some x.cps[i]:=Array.getElem?_eq_getElem lx
   have py':s.heap.IsList l2 its2.toArray:=py.isList
   have ne2:∀c∈[z,TI,TO,i1,i2],l2≠c:=fun c hc=>sH I (hf c hc) hy
   have D:ZAp z TI TO i1 i2 [i1] [i2,l2]:=⟨d2,d3,d4,d8,d9,d10,fun c hc=>by
       have:c=i1:=by simpa using hc
       subst this;exact⟨d3,d8.symm,d10⟩,fun c hc=>by
       rcases yX.mp hc with rfl | hc
       · exact⟨d4,d9.symm,d10.symm⟩
       · have:c=l2:=by simpa using hc
         subst this;exact⟨ne2 z (by simp),ne2 TO (by simp),ne2 i1 (by simp)⟩⟩
   have t1:∀k,ET [i1] (fun h=>h.IsStrIter i1 "str_ascii_iterator" x t k):=fun k h h' ⟨o,e,r⟩ q=>⟨o,q i1 (by simp) o e,r⟩
   have t2:∀k,ET [i2,l2] (fun h=>h.IsListIter i2 l2 k∧h.IsList l2 its2.toArray):=fun k h h' ⟨⟨o,e,r⟩,⟨o',e',r'⟩⟩ q=>⟨⟨o,q i2 (by simp) o e,r⟩,⟨o',q l2 (by simp) o' e',r'⟩⟩
   refine QS (R1:=fun u=>RelV (.str ⟨#[x.cps[i]]⟩) u) (R2:=fun u=>u=v) D (t1 i) (t1 (i+1)) (t2 i) (t2 (i+1)) (fun A=>U6 hx) (fun A=>mM (ne2 i2 (by simp)) (by simpa using hv)) a1 a2 a3 a4 ⟨a5,py'⟩
     (fun h ⟨o,e,_⟩=>zM e) (fun h ⟨⟨o,e,_⟩,_⟩=>zM e) fun h' tk u u2 ru eu2 b1 b2 b3 b4 b5 b6 hk=>?_
   subst eu2
   refine⟨_,rfl,wpAny_letOwnedTupleGo_zip (s:={ s with heap:=h',toks:=tk }) b1 fun h2 c1 sb=>?_⟩
   have lt:∀{c o},s.heap.get? c=some o→s.heap.objs.size≠c:=fun e=>Nat.ne_of_gt (zM e)
   have keep:∀b o,b∉[z,TO,i1,i2]→s.heap.get? b=some o→h2.get? b=some o:=fun b o hb e=>by
     simp only[yX,xX,or_false,not_or] at hb
     exact sb.extBut b o hb.1 (hk b o hb.1 hb.2.1 hb.2.2.1 hb.2.2.2 e)
   have sub:∀b∈[z,TO,i1,i2],b∈[z,TI,TO,i1,i2]:=fun b hb=>by
     simp only[yX,xX,or_false] at hb ⊢
     rcases hb with h | h | h | h <;> simp[h]
   have hTz:s.heap.objs.size≠z:=lt a1
   have I1:Inv X pins σ (upd H s.heap.objs.size (.tup [.str ⟨#[x.cps[i]]⟩,ys[i]])) { s with heap:=h2,toks:=tk }:=I.turnedT (t':=tk) (ch:=[z,TO,i1,i2]) keep (fun b hb=>(hf b (sub b hb)).1)
     (fun b hb=>let q:=hf b (sub b hb);⟨q.2.2.2.1,q.2.1,q.2.2.2.2.1,q.2.2.2.2.2⟩) (zR _)
     ⟨by show 2≤sizeLine;decide,[u,u2],.cons ru (.cons rv .nil),⟨_,sb.extBut _ _ hTz b5,rfl,_,rfl⟩⟩
   refine⟨.ref s.heap.objs.size,_,I1,rfl,⟨s.heap.objs.size,x.cps[i],ys[i],I.hok.fresh (zR _),rfl,rfl,hx,fun ys' hy'=>?_⟩,
     ⟨c1,keep _ _ ?_ a2,⟨_,_,sb.extBut _ _ d2 b2⟩,b3.extBut sb.extBut d3,b4.1.extBut sb.extBut d4⟩,fun b hb=>?_⟩
   · rw[I.list_inj hy' hy]
     exact zV ly
   · simp[d1,d5,d6,d7]
   · have hlt:s.heap.objs.size≠b:=by
       simp only[yX,xX,or_false] at hb
       rcases hb with rfl | rfl | rfl | rfl | rfl
       · exact lt a1
       · exact lt a2
       · exact lt a3
       · obtain⟨o,e,_⟩:=a4;exact lt e
       · obtain⟨o,e,_⟩:=a5;exact lt e
     rw[AH (Ne.symm hlt)]
     exact(hf b hb).1
 done:=by
   intro X hP hw hK hc i pins s σ H E I hf ⟨a1,a2,⟨x0,y0,a3⟩,a4,a5⟩ hg
   subst hP hw hK
   have hx:x.cps[i]?=none:=Array.getElem?_eq_none hg
   have D:ZAp z TI TO i1 i2 [i1] []:=⟨d2,d3,d4,d8,d9,d10,fun c hc=>by
       have:c=i1:=by simpa using hc
       subst this;exact⟨d3,d8.symm,d10⟩,fun c hc=>nomatch hc⟩
   have t1:ET [i1] (fun h=>h.IsStrIter i1 "str_ascii_iterator" x t i):=fun h h' ⟨o,e,r⟩ q=>⟨o,q i1 (by simp) o e,r⟩
   have sub:∀b∈[z,TO,i1,i2],b∈[z,TI,TO,i1,i2]:=fun b hb=>by
     simp only[yX,xX,or_false] at hb ⊢
     rcases hb with h | h | h | h <;> simp[h]
   refine QT (I.ok.hd hc) a1 (fun Q' E' hE' A' hA'=>QR D t1 (QU hA' hx) a1 a2 a3 a4 hE') fun h' tk hk=>⟨rfl,I.turnedL (t':=tk) (ch:=[z,TO,i1,i2]) (fun b o hb e=>?_) (fun b hb=>(hf b (sub b hb)).1) fun b hb=>let q:=hf b (sub b hb);⟨q.2.2.2.1,q.2.1,q.2.2.2.2.1,q.2.2.2.2.2⟩⟩
   simp only[yX,xX,or_false,not_or] at hb
   exact hk b o hb.1 hb.2.1 hb.2.2.1 hb.2.2.2 e
 self:=fun _ _ _ _ _ st h=>wpAny_pyIter_zip st.1 h
section
variable {X:Cx}{K:Frg}
def XS (K:Frg) (ta:TA):TI:=fun σ H R=>ta σ H fun vs H1=>False∨∃x b,vs=[.str x,.ref b]∧x.cps.all (· < 128)=true∧(∃ys,SqL K H1 b ys)∧R (uS K x b) H1
theorem iL {a b:Expr}{ta:TA}{p pos:Pos}{elts:List Expr}{kk:Nat}{tpos:Pos}(hg:Gl X "zip") (hm:X.mg "zip"=none) (ha:PA X [a,b] ta) (hs:starEach [a,b] X.env=[(false,eval a X.env),(false,eval b X.env)]:=by rfl) (hs2:starEach [b] X.env=[(false,eval b X.env)]:=by rfl) :
   PI X (.Tuple elts kk tpos) (.Call (.Name "zip" p) [a,b] [] pos) (XS X.K ta):=by
 intro pins s σ H R I h
 refine Call_ (JI I hg hm boot_zip (xI (thn (ha pos pins s σ H _ I h) fun us s1 ⟨vs,H1,I1,r1,q1⟩=>?_) (by rw[hs,hs2]) (by rw[hs2];rfl)))
 have ne:∀(m n:Nat),m≠n→s1.heap.objs.size+m≠s1.heap.objs.size+n:=fun m n h e=>h (Nat.add_left_cancel e)
 have fp:∀b∈[s1.heap.objs.size+4,s1.heap.objs.size+2,s1.heap.objs.size+3,s1.heap.objs.size,s1.heap.objs.size+1],IX X pins H1 b:=fun b hb=>by
   have hle:s1.heap.objs.size≤b:=by
     simp only[yX,xX,or_false] at hb
     rcases hb with rfl | rfl | rfl | rfl | rfl
     · exact Nat.le_add_right _ _
     · exact Nat.le_add_right _ _
     · exact Nat.le_add_right _ _
     · exact zR _
     · exact Nat.le_add_right _ _
   exact I1.fpOk hle (I1.hok.fresh hle)
 rcases q1 with q1 | ⟨x,l2,e,hx,⟨ys,hy⟩,q⟩
 · exact q1.elim
 · subst e
   cases r1 with
   | cons r rr=>
     cases rr with
     | cons r' rr=>
       cases rr;cases r'
       obtain⟨t,rfl⟩:=r
       obtain⟨its2,ry,py,_⟩:=I1.list hy
       refine QW (QV (t:=t) hx) (iK (t:=l2) (items:=its2.toArray)) (fun h o q=>q.push o) rfl rfl trivial (show s1.heap.IsList l2 its2.toArray from py.isList) fun h' b1 b2 b3 b4 b5 hk=>?_
       refine wpAny_pyIter_zip (s:={ s1 with heap:=h' }) b1 ?_
       exact⟨s1.heap.objs.size+4,[s1.heap.objs.size+4,s1.heap.objs.size+2,s1.heap.objs.size+3,s1.heap.objs.size,s1.heap.objs.size+1],_,_,H1,rfl,I1.kept (t':=s1.toks) hk,
         XR (s1.heap.objs.size+4) (s1.heap.objs.size+2) (s1.heap.objs.size+3) s1.heap.objs.size (s1.heap.objs.size+1) x t l2 (ne 2 4 (by decide)) (ne 3 4 (by decide)) (ne 0 4 (by decide)) (ne 1 4 (by decide)) (ne 2 3 (by decide)) (ne 2 0 (by decide)) (ne 2 1 (by decide)) (ne 3 0 (by decide)) (ne 3 1 (by decide)) (ne 0 1 (by decide)),
         ⟨b1,b2,⟨_,_,b3⟩,⟨_,b4,rfl,rfl⟩,⟨_,b5,rfl,rfl⟩⟩,fp,q⟩
theorem sI {a b:Expr}{ta:TA}{p pos:Pos}{elts:List Expr}{kk:Nat}{tpos:Pos}(h:X.K=K) (hg:Gl X "zip") (hm:X.mg "zip"=none) (ha:PA X [a,b] ta) (hs:starEach [a,b] X.env=[(false,eval a X.env),(false,eval b X.env)]:=by rfl) (hs2:starEach [b] X.env=[(false,eval b X.env)]:=by rfl) :
   PI X (.Tuple elts kk tpos) (.Call (.Name "zip" p) [a,b] [] pos) (XS K ta):=h▸iL hg hm ha hs hs2
end
end L2
namespace DL
open PySem PySem.Spec L2
section
variable {K:Frg}{ρ:List (Option DS)}{M:Own}{QI:List PyData→Own→Prop}
theorem iM {ta:TA}(h:DA K ta ρ M fun xs M1=>∃z bs,xs=[.d (.str z),.d (.list bs)]∧z.cps.all (· < 128)=true∧z.cps.size≤bs.length∧QI (IZ (AI z) bs) M1):DI K (XS K ta) ρ M QI:=fun σ H R Rl k=>
 h σ H _ Rl fun vs H1 xs M1 o1 s1 t1 ⟨z,bs,e,hz,hl0,q⟩=>by
   subst e
   obtain⟨v,r,rfl,h1,v2,r2,rfl,h2,h3⟩:=s1
   cases h3
   rw[AT h1]
   unfold SI DV at h2
   obtain⟨b,vb,rfl,hl2,hd2⟩:=h2
   have hlen:(IZ (AI z) bs).length=z.cps.size:=by unfold IZ;rw[zX,List.length_zip,LC];omega
   refine .inr ⟨z,b,rfl,hz,⟨vb,hl2.sq⟩,k _ (IZ (AI z) bs) H1 M1 o1 t1 ⟨fun i H' M' hi oa st=>?_,fun H' M' oa st=>?_,fun i H' M' x H2 oa st hi y=>?_⟩ q⟩
   · rw[hlen] at hi
     exact⟨vb,(hl2.grow st.grow).sq,hi,by rw[hd2.length];omega⟩
   · show z.cps.size≤_
     rw[hlen];exact zR _
   · obtain⟨p,c,xb,hp,rfl,rfl,hc,hy⟩:=y
     have e2:=hy vb (hl2.grow st.grow).sq
     obtain⟨db,g1,g2⟩:=hd2.get e2
     have gg:Grow K M'.W M'.W H' (upd H' p (.tup [.str ⟨#[c]⟩,xb])):=AW _ hp
     refine⟨oa.new hp,⟨gg⟩,.tuple [.str ⟨#[c]⟩,db],?_,?_⟩
     · unfold IZ
       rw[zF]
       have hs:(AI z)[i]?=some (.str ⟨#[c]⟩):=by unfold AI;rw[zF];simp[hc]
       have:((AI z).zip bs)[i]?=some (.str ⟨#[c]⟩,db):=by rw[List.getElem?_zip_eq_some];exact⟨hs,g1⟩
       rw[this];rfl
     · unfold DV
       exact⟨p,_,rfl,.inl ⟨fun w=>w (oa.none hp),.inl AG⟩,DVs.cons (by unfold DV;rfl) (DVs.cons ((g2.grow st.grow).grow gg) DVs.nil)⟩
end
end DL
namespace DL
open PySem PySem.Spec L2 PySem.Builtin.Str PySem.StrLaws
def RE (c:Nat):List (List Nat)→List Nat
 | []=>[]
 | [p]=>p
 | p::q::r=>p++c::RE c (q::r)
theorem RF {x:Str}{d:Nat}:∀(ps:List (List Nat)) (pre:List Nat) (cuts:List Nat) (f:Nat),ps≠[]→x.cps.toList=pre++RE d ps→(∀p∈ps,d∉p) →
   ChainG x ⟨#[d]⟩ x.length pre.length cuts f→(∀k,f≤k→¬At x ⟨#[d]⟩ x.length k)→(partsFrom x 1 pre.length cuts).map (·.cps.toList)=ps
 | [],_,_,_,h,_,_,_,_=>absurd rfl h
 | [p],pre,[],f,_,hx,hp,hc,hn=>by
   show [(strSub x pre.length x.length).cps.toList]=[p]
   rw[HU,hx]
   have hl:x.length=(pre++p).length:=by show x.cps.size=_;rw[← Array.length_toList,hx];rfl
   show [((pre++p).drop pre.length).take (x.length - pre.length)]=[p]
   rw[List.drop_left,hl,yY,Nat.add_sub_cancel_left,List.take_length]
 | [p],pre,c::r,f,_,hx,hp,hc,hn=>by
   obtain⟨h1,h2,_⟩:=hc
   have:=(subAt_one x d c).mp h2
   rw[hx] at this
   rw[yP h1] at this
   exact absurd (yN this) (hp p (by simp))
 | p::q::r,pre,cuts,f,_,hx,hp,hc,hn=>by
   have hx':x.cps.toList=pre++(p++(d::RE d (q::r))):=by rw[hx];rfl
   have hA:At x ⟨#[d]⟩ x.length (pre.length+p.length):=by
     refine(subAt_one x d _).mpr ?_
     rw[hx',yP (by omega),yP (by omega)]
     simp
   cases cuts with
   | nil=>
     have e:f=pre.length:=hc
     exact absurd hA (hn _ (by omega))
   | cons c cs=>
     obtain⟨h1,h2,h3,h4⟩:=hc
     have hle:c≤pre.length+p.length:=Nat.le_of_not_lt fun h=>h3 _ (Nat.le_add_right _ _) h hA
     have hce:c=pre.length+p.length:=by
       refine Nat.le_antisymm hle (Nat.le_of_not_lt fun hlt=>?_)
       have:=(subAt_one x d c).mp h2
       rw[hx',yP h1,yQ (by omega)] at this
       exact hp p (by simp) (yN this)
     subst hce
     show(strSub x pre.length (pre.length+p.length)).cps.toList::(partsFrom x 1 (pre.length+p.length+1) cs).map (·.cps.toList)=_
     have e2:pre.length+p.length+1=(pre++p++[d]).length:=by simp only[yY,yR,List.length_nil]
     rw[e2,RF (q::r) (pre++p++[d]) cs f (by simp) (by rw[hx'];simp[List.append_assoc]) (fun z hz=>hp z (yV _ hz)) (e2▸h4) hn,HU,hx',List.drop_left,Nat.add_sub_cancel_left,List.take_left]
theorem OQ (c:Nat):∀ps:List Str,(Str.join ⟨#[c]⟩ ps).cps.toList=RE c (ps.map (·.cps.toList))
 | []=>rfl
 | [p]=>rfl
 | p::q::r=>by
   show(p++⟨#[c]⟩++Str.join ⟨#[c]⟩ (q::r)).cps.toList=p.cps.toList++c::RE c ((q::r).map (·.cps.toList))
   rw[FY,FY,OQ c (q::r),List.append_assoc];rfl
theorem bP {c:Nat}(hc128:c < 128) {ps:List Str}(hne:ps≠[]) (hp:∀p∈ps,c∉p.cps.toList):Txt.split (Txt.join ⟨#[c]⟩ ps) ⟨#[c]⟩=ps:=by
 have hj:Txt.join ⟨#[c]⟩ ps=Str.join ⟨#[c]⟩ ps:=glued_eq_join _ _
 rw[hj]
 generalize hx:Str.join ⟨#[c]⟩ ps=x
 have hxl:x.cps.toList=[]++RE c (ps.map (·.cps.toList)):=by rw[← hx,OQ];rfl
 obtain⟨f,hG,hn⟩:=occ_tight x ⟨#[c]⟩ (by show 1≤1;decide)
 have key:=RF (x:=x) (ps.map (·.cps.toList)) [] _ f (by simpa using hne) hxl (fun p hp'=>by
   obtain⟨q,hq,rfl⟩:=zL.mp hp'
   exact hp q hq) hG hn
 have fin:partsFrom x 1 0 (occurrences x ⟨#[c]⟩ 0 x.length (x.length+1))=ps:=by
   have:=key
   exact(List.map_inj_right (fun _ _ h=>GG h)).mp this
 have whole:occurrences x ⟨#[c]⟩ 0 x.length (x.length+1)=[]→[x]=ps:=fun e0=>by
   rw[e0] at fin
   rw[← fin]
   show [x]=[strSub x 0 x.length]
   have:x=strSub x 0 x.length:=GG (by
     rw[HU,List.drop_zero,Nat.sub_zero,show x.length=x.cps.toList.length by show x.cps.size=_;simp,List.take_length])
   rw[← this]
 unfold Txt.split
 split
 · rename_i hc
   refine whole ?_
   have hk:PySem.Builtin.Str.strKind ⟨#[c]⟩=1:=by
     unfold PySem.Builtin.Str.strKind
     rw[if_pos]
     simp;omega
   have hs:1≤PySem.Builtin.Str.strKind x:=by unfold PySem.Builtin.Str.strKind;split;exact zR _;split <;> decide
   have hlen:x.length < 1:=by
     rcases Bool.or_eq_true_iff.mp hc with h | h
     · exact of_decide_eq_true h
     · have:=of_decide_eq_true h;omega
   cases hcut:occurrences x ⟨#[c]⟩ 0 x.length (x.length+1) with
   | nil=>rfl
   | cons c' r=>
     rw[hcut] at hG
     have h2:c'+1≤x.length:=hG.2.1.1
     omega
 · split
   · rename_i he
     exact whole (List.isEmpty_iff.mp he)
   · rw[partsBetween_eq];exact fin
theorem bQ {x y:Str}(h:okS x):∀p∈Txt.split x y,okS p:=fun p hp=>by
 unfold Txt.split at hp
 split at hp
 · have:p=x:=by simpa using hp
   rw[this];exact h
 · split at hp
   · have:p=x:=by simpa using hp
     rw[this];exact h
   · rw[partsBetween_eq] at hp;exact ZB h _ _ _ p hp
theorem bR {x y:Str}:1≤(Txt.split x y).length∧(Txt.split x y).length≤x.length+2:=by
 unfold Txt.split
 split
 · exact⟨by simp,by simp⟩
 · split
   · exact⟨by simp,by simp⟩
   · rw[partsBetween_eq,UX]
     have:=occ_length_le x y 0 x.length (x.length+1)
     omega
end DL
namespace DL
open PySem PySem.Spec L2 PySem.Builtin.Str PySem.StrLaws
def KI (s:List Nat):List (List Nat)→List Nat
 | []=>[]
 | [p]=>p
 | p::q::r=>p++s++KI s (q::r)
theorem join_list (s:Str):∀ps:List Str,(Str.join s ps).cps.toList=KI s.cps.toList (ps.map (·.cps.toList))
 | []=>rfl
 | [p]=>rfl
 | p::q::r=>by
   show(p++s++Str.join s (q::r)).cps.toList=p.cps.toList++s.cps.toList++KI s.cps.toList ((q::r).map (·.cps.toList))
   rw[FY,FY,join_list s (q::r)]
theorem VA (s:Str) (ps:List Str):(Txt.join s ps).cps.toList=KI s.cps.toList (ps.map (·.cps.toList)):=by
 rw[show Txt.join s ps=Str.join s ps from glued_eq_join _ _];exact join_list s ps
theorem VB {s:List Nat}{c:Nat}:∀{ps:List (List Nat)},c∈KI s ps→c∈s∨∃p∈ps,c∈p
 | [],h=>by simp[KI] at h
 | [p],h=>.inr ⟨p,by simp,h⟩
 | p::q::r,h=>by
   rcases yW.mp h with h | h
   · rcases yW.mp h with h | h
     · exact .inr ⟨p,by simp,h⟩
     · exact .inl h
   · rcases VB h with h | ⟨p',hp,h⟩
     · exact .inl h
     · exact .inr ⟨p',yV _ hp,h⟩
theorem VC {s:List Nat}{k:Nat}(hs:s.length≤3):∀{ps:List (List Nat)},(∀p∈ps,p.length≤k)→(KI s ps).length≤ps.length*(k+3)
 | [],h=>by simp[KI]
 | [p],h=>by
   have:=h p (by simp)
   show p.length≤1*(k+3);omega
 | p::q::r,h=>by
   have h1:=h p (by simp)
   have h2:=VC hs (ps:=q::r) (k:=k) fun p' hp=>h p' (yV _ hp)
   show(p++s++KI s (q::r)).length≤_
   rw[yY,yY,yR,Nat.succ_mul]
   omega
end DL
namespace DL
open PySem PySem.Spec L2 XC PySem.Builtin.Str PySem.StrLaws
def D7:PyData→PyData→PyData
 | .str s,p=>if s == "n" then p else rwD p
 | _,p=>rwD p
def C6 (f:Str) (ps:List Str):List PyData:=((AI f).zip (ps.map .str)).map fun q=>D7 q.1 q.2
def rdL:List Str→Option PyData
 | w::ps=>match CY.lookup w with
   | some f=>if ps.length=f.cps.size then (if AU (.str w::C6 f ps) then some (.tuple (.str w::C6 f ps)) else none) else none
   | none=>none
 | []=>none
def rdD:PyData→Option PyData | .str x=>rdL (Txt.split x (Str.ofString " ")) | _=>none
def DY (cT:Addr):FSpX:=⟨fun xs M=>∃d,xs=[.d d]∧okD d,fun xs M y M'=>∀d,xs=[.d d]→∃r,rdD d=some r∧y = .d r∧M'=M,
 fun xs M cls fs M'=>∀d,xs=[.d d]→rdD d=none∧cls = .ref cT∧fs=[(Str.ofString "part", .none)]∧M'=M⟩
def EW:PyData→Str | .str s=>s | .int n=>CK n | _=>Str.empty
def Deed.list:Deed→List PyData:=fun D=>.str D.word::.str D.fst::D.rest
def o9:PyData→PyData | .tuple ds=>.str (Txt.join (Str.ofString " ") (ds.map EW)) | d=>d
def Deed.fit:Deed→Prop | .put _ _ k=>-1000000000000≤k∧k≤1000000000000 | .count _ k=>-1000000000000≤k∧k≤1000000000000 | .split _ _ _ k=>-1000000000000≤k∧k≤1000000000000 | _=>True
def HW:FSp:=fn1 (fun d=>∃D:Deed,d=D.d∧D.real∧D.fit) o9
def dS (D:Deed):Str:=Txt.join (Str.ofString " ") (D.list.map EW)
theorem mN (D:Deed):o9 D.d = .str (dS D):=by rw[D.d_eq];rfl
def XT (d:PyData):Prop:=(∃s:Str,d = .str s∧s.length≤8∧∀c∈s.cps.toList,EE c=true)∨∃n:Int,d = .int n∧big n
theorem VD (D:Deed):D.word.length≤8∧∀c∈D.word.cps.toList,EE c=true:=by cases D <;> (simp only[Deed.word];decide +kernel)
theorem LO {n:Int}(h : -1000000000000≤n∧n≤1000000000000):big n:=by unfold big;omega
theorem LP {n:Int}(h:0≤n∧n≤999):big n:=by unfold big;omega
theorem IS {x:Str}(h:B8 x):XT (.str x):=.inl ⟨x,rfl,h.2.1,h.2.2⟩
theorem KJ {D:Deed}(h:D.real) (hf:D.fit):∀d∈D.list,XT d:=by
 obtain⟨h1,h2,h3⟩:=h
 intro d hd
 rcases yX.mp hd with rfl | hd
 · exact .inl ⟨_,rfl,(VD D).1,(VD D).2⟩
 rcases yX.mp hd with rfl | hd
 · exact IS (Deed.fst_ok h1)
 cases D with
 | put x p k=>
   rcases yX.mp hd with rfl | hd
   · exact .inr ⟨p,rfl,LP h3⟩
   · rw[List.mem_singleton.mp hd];exact .inr ⟨k,rfl,LO hf⟩
 | take x=>simp[Deed.rest] at hd
 | move x p=>rw[List.mem_singleton.mp hd];exact .inr ⟨p,rfl,LP h3⟩
 | count x k=>rw[List.mem_singleton.mp hd];exact .inr ⟨k,rfl,LO hf⟩
 | name x y=>rw[List.mem_singleton.mp hd];exact IS (h1 y (by simp[Deed.names]))
 | split x y p k=>
   rcases yX.mp hd with rfl | hd
   · exact IS (h1 y (by simp[Deed.names]))
   rcases yX.mp hd with rfl | hd
   · exact .inr ⟨p,rfl,LP h3⟩
   · rw[List.mem_singleton.mp hd];exact .inr ⟨k,rfl,LO hf⟩
 | join x y=>rw[List.mem_singleton.mp hd];exact IS (h1 y (by simp[Deed.names]))
theorem OR {d:PyData}(h:XT d):(EW d).cps.toList.length≤19∧(∀c∈(EW d).cps.toList,c < 128)∧32∉(EW d).cps.toList:=by
 rcases h with ⟨s,rfl,h1,h2⟩ | ⟨n,rfl,hb⟩
 · refine⟨?_,fun c hc=>WJ (h2 c hc),fun hc=>?_⟩
   · have:s.cps.toList.length≤8:=by rw[Array.length_toList];exact h1
     exact zN this (by decide)
   · have:=h2 32 hc
     exact absurd this (by decide)
 · obtain⟨c1,c2⟩:=IQ hb
   refine⟨by show(CK n).cps.toList.length≤19;rw[Array.length_toList];exact c2,fun c hc=>?_,fun hc=>?_⟩
   · rcases c1 c hc with rfl | h
     · decide
     · omega
   · have:=c1 32 hc;omega
theorem uT:Str.ofString " "=⟨#[32]⟩:=by decide +kernel
theorem LQ (D:Deed):D.list.length≤5:=by cases D <;> simp[Deed.list,Deed.rest]
theorem ZG {α:Type}(f:α→Nat) {k:Nat}:∀(l:List α),(∀a∈l,f a≤k)→(l.map f).sum≤l.length*k
 | [],_=>by simp
 | a::r,h=>by
   have h1:=h a (by simp)
   have h2:=ZG f r fun b hb=>h b (yV _ hb)
   rw[zI,List.sum_cons,yR,Nat.succ_mul];omega
theorem bS {D:Deed}(h:D.real) (hf:D.fit):((D.list.map EW).map (·.length)).sum+(D.list.map EW).length*(Str.ofString " ").length≤16777216:=by
 have h1:=ZG (fun s:Str=>s.length) (k:=19) (D.list.map EW) fun s hs=>by
   obtain⟨d,hd,rfl⟩:=zL.mp hs
   have:=(OR (KJ h hf d hd)).1
   rwa [Array.length_toList] at this
 have h2:=LQ D
 rw[zX] at h1 ⊢
 rw[show(Str.ofString " ").length=1 by decide +kernel]
 omega
theorem iN {D:Deed}(h:D.real) (hf:D.fit):Txt.split (dS D) (Str.ofString " ")=D.list.map EW:=by
 unfold dS
 rw[uT]
 exact bP (by decide) (by simp[Deed.list]) fun p hp=>by
   obtain⟨d,hd,rfl⟩:=zL.mp hp
   exact(OR (KJ h hf d hd)).2.2
theorem VE (s:Str):D7 (.str ⟨#[110]⟩) (.str s) = .str s:=rfl
theorem iO {n:Int}(hb:big n):D7 (.str ⟨#[112]⟩) (.str (CK n)) = .int n:=by
 show XE (rwL (CK n).cps.toList)=_
 rw[rw_dec hb];rfl
theorem iP {n:Int}(hb:big n):D7 (.str ⟨#[107]⟩) (.str (CK n)) = .int n:=by
 show XE (rwL (CK n).cps.toList)=_
 rw[rw_dec hb];rfl
theorem XU {D:Deed}(h:D.real) (hf:D.fit):CY.lookup D.word=some D.form∧(D.list.map EW).tail.length=D.form.cps.size∧C6 D.form (D.list.map EW).tail = .str D.fst::D.rest:=by
 obtain⟨h1,h2,h3⟩:=h
 have g1:AI (Str.ofString "npk")=[.str ⟨#[110]⟩,.str ⟨#[112]⟩,.str ⟨#[107]⟩]:=by unfold AI;rw[show(Str.ofString "npk").cps.toList=[110,112,107] by decide +kernel];rfl
 have g2:AI (Str.ofString "n")=[.str ⟨#[110]⟩]:=by unfold AI;rw[show(Str.ofString "n").cps.toList=[110] by decide +kernel];rfl
 have g3:AI (Str.ofString "np")=[.str ⟨#[110]⟩,.str ⟨#[112]⟩]:=by unfold AI;rw[show(Str.ofString "np").cps.toList=[110,112] by decide +kernel];rfl
 have g4:AI (Str.ofString "nk")=[.str ⟨#[110]⟩,.str ⟨#[107]⟩]:=by unfold AI;rw[show(Str.ofString "nk").cps.toList=[110,107] by decide +kernel];rfl
 have g5:AI (Str.ofString "nn")=[.str ⟨#[110]⟩,.str ⟨#[110]⟩]:=by unfold AI;rw[show(Str.ofString "nn").cps.toList=[110,110] by decide +kernel];rfl
 have g6:AI (Str.ofString "nnpk")=[.str ⟨#[110]⟩,.str ⟨#[110]⟩,.str ⟨#[112]⟩,.str ⟨#[107]⟩]:=by unfold AI;rw[show(Str.ofString "nnpk").cps.toList=[110,110,112,107] by decide +kernel];rfl
 cases D with
 | put x p k=>
   refine⟨rfl,by show 3=(Str.ofString "npk").cps.size;decide +kernel,?_⟩
   show((AI (Str.ofString "npk")).zip [.str x,.str (CK p),.str (CK k)]).map (fun q=>D7 q.1 q.2)=[.str x,.int p,.int k]
   rw[g1]
   show [D7 _ _,D7 _ _,D7 _ _]=_
   rw[VE,iO (LP h3),iP (LO hf)]
 | take x=>
   refine⟨rfl,by show 1=(Str.ofString "n").cps.size;decide +kernel,?_⟩
   show((AI (Str.ofString "n")).zip [.str x]).map (fun q=>D7 q.1 q.2)=[.str x]
   rw[g2];rfl
 | move x p=>
   refine⟨rfl,by show 2=(Str.ofString "np").cps.size;decide +kernel,?_⟩
   show((AI (Str.ofString "np")).zip [.str x,.str (CK p)]).map (fun q=>D7 q.1 q.2)=[.str x,.int p]
   rw[g3]
   show [D7 _ _,D7 _ _]=_
   rw[VE,iO (LP h3)]
 | count x k=>
   refine⟨rfl,by show 2=(Str.ofString "nk").cps.size;decide +kernel,?_⟩
   show((AI (Str.ofString "nk")).zip [.str x,.str (CK k)]).map (fun q=>D7 q.1 q.2)=[.str x,.int k]
   rw[g4]
   show [D7 _ _,D7 _ _]=_
   rw[VE,iP (LO hf)]
 | name x y=>
   refine⟨rfl,by show 2=(Str.ofString "nn").cps.size;decide +kernel,?_⟩
   show((AI (Str.ofString "nn")).zip [.str x,.str y]).map (fun q=>D7 q.1 q.2)=[.str x,.str y]
   rw[g5];rfl
 | split x y p k=>
   refine⟨rfl,by show 4=(Str.ofString "nnpk").cps.size;decide +kernel,?_⟩
   show((AI (Str.ofString "nnpk")).zip [.str x,.str y,.str (CK p),.str (CK k)]).map (fun q=>D7 q.1 q.2)=[.str x,.str y,.int p,.int k]
   rw[g6]
   show [D7 _ _,D7 _ _,D7 _ _,D7 _ _]=_
   rw[VE,VE,iO (LP h3),iP (LO hf)]
 | join x y=>
   refine⟨rfl,by show 2=(Str.ofString "nn").cps.size;decide +kernel,?_⟩
   show((AI (Str.ofString "nn")).zip [.str x,.str y]).map (fun q=>D7 q.1 q.2)=[.str x,.str y]
   rw[g5];rfl
theorem oB {D:Deed}(h:D.real) (hf:D.fit):rdD (.str (dS D))=some D.d:=by
 show rdL (Txt.split (dS D) (Str.ofString " "))=_
 rw[iN h hf]
 obtain⟨e1,e2,e3⟩:=XU h hf
 show rdL (D.word::(D.list.map EW).tail)=_
 unfold rdL
 dsimp only
 rw[e1]
 dsimp only
 rw[if_pos e2,e3,if_pos (by have:=Z5 h;rw[D.d_eq] at this;exact this),D.d_eq]
theorem XV {f:Str}{ps:List Str}(h:ps.length=f.cps.size):(C6 f ps).length=f.cps.size:=by
 unfold C6
 rw[zX,List.length_zip,LC,zX,h,Nat.min_self]
def EQ:FSp:=⟨fun xs M=>∃p o,xs=[.loc p]∧M p=some o∧B5 o,fun xs M y M'=>∀p,xs=[.loc p]→∃n o,y = .d (.int n)∧(-1000000000000≤n∧n≤1000000000000)∧B5 o∧M'=M.put p o⟩
theorem KK {p:Addr}{o:MO}{M:Own}{Q:DS→Own→Prop}(m:M p=some o) (ho:B5 o) (q:∀n o',-1000000000000≤n∧n≤1000000000000→B5 o'→Q (.d (.int n)) (M.put p o')):[DS.loc p].length=1∧EQ.pre [.loc p] M∧∀x M',EQ.post [.loc p] M x M'→Q x M':=
 ⟨rfl,⟨p,o,rfl,m,ho⟩,fun x M' h=>by obtain⟨n,o',rfl,h1,h2,rfl⟩:=h p rfl;exact q n o' h1 h2⟩
theorem bT {y1 y2:Str}{pl k:Int}{D:Deed}(hk : -1000000000000≤k∧k≤1000000000000) (h:D∈[Deed.put y1 pl k,.take y1,.move y1 pl,.count y1 k,.name y1 y2,.split y1 y2 pl k,.join y1 y2]):D.fit:=by
 simp only[yX,xX,or_false] at h
 rcases h with rfl | rfl | rfl | rfl | rfl | rfl | rfl <;> first | exact hk | trivial
theorem bU (c:PyData) (p:Str):D7 c (.str p) = .str p∨(∃n,D7 c (.str p) = .int n)∨D7 c (.str p) = .none:=by
 have h:(∃n,rwD (.str p) = .int n)∨rwD (.str p) = .none:=by
   show(∃n,XE (rwL p.cps.toList) = .int n)∨XE (rwL p.cps.toList) = .none
   cases rwL p.cps.toList with
   | none=>exact .inr rfl
   | some n=>exact .inl ⟨n,rfl⟩
 unfold D7
 split
 · split
   · exact .inl rfl
   · exact .inr h
 · exact .inr h
theorem XW {f:Str}{ps:List Str}{d:PyData}(h:d∈C6 f ps):(∃p∈ps,d = .str p)∨(∃n,d = .int n)∨d = .none:=by
 obtain⟨⟨c,q⟩,hq,rfl⟩:=zL.mp h
 obtain⟨p,hp,e⟩:=zL.mp (List.of_mem_zip hq).2
 have e':q = .str p:=e.symm
 subst e'
 rcases bU c p with h | h | h
 · exact .inl ⟨p,hp,h⟩
 · exact .inr (.inl h)
 · exact .inr (.inr h)
def uU:PyData→PyData | .tuple [a,b]=>D7 a b | d=>d
theorem iQ (f:Str) (ps:List Str):((IZ (AI f) (ps.map .str)).filter fun _=>true).map uU=C6 f ps:=by
 rw[List.filter_eq_self.mpr (fun _ _=>rfl)]
 unfold IZ C6
 rw[zD];rfl
theorem VF {c:Nat}(h:c < 128):zH (.str ⟨#[c]⟩)=true:=JV fun d hd=>by
 have:d=c:=by simpa using hd
 rw[this];exact h
theorem bV {f w:Str}{ps:List Str}(hw:okS w) (hp:∀p∈ps,okS p):∀d∈(.str w::C6 f ps:List PyData),okD d:=fun d hd=>by
 rcases yX.mp hd with rfl | hd
 · exact hw
 · rcases XW hd with ⟨p,h,rfl⟩ | ⟨n,rfl⟩ | rfl
   · exact hp p h
   · trivial
   · trivial
def okA (n:Nat) (s:Str):Prop:=s.cps.toList.length≤n∧∀c∈s.cps.toList,c < 128
theorem okA.len {n:Nat}{s:Str}(h:okA n s):s.length≤n:=by have:=h.1;rwa [Array.length_toList] at this
theorem okA.ok {n:Nat}{s:Str}(h:okA n s) (hn:n≤5000):okS s:=⟨zN h.len hn,h.2⟩
theorem iR {n k:Nat}{ps:List Str}(hp:∀p∈ps,okA n p) (hk:ps.length≤k):okA (k*(n+3)) (Txt.join (Str.ofString " ") ps):=by
 constructor
 · rw[VA]
   have:=VC (s:=(Str.ofString " ").cps.toList) (k:=n) (by decide +kernel) (ps:=ps.map (·.cps.toList)) fun p h=>by
     obtain⟨q,hq,rfl⟩:=zL.mp h
     exact(hp q hq).1
   rw[zX] at this
   exact zN this (Nat.mul_le_mul_right _ hk)
 · intro c hc
   rw[VA] at hc
   rcases VB hc with h | ⟨p,hp',h⟩
   · have:∀c∈(Str.ofString " ").cps.toList,c < 128:=by decide +kernel
     exact this c h
   · obtain⟨q,hq,rfl⟩:=zL.mp hp'
     exact(hp q hq).2 c h
theorem sJ {D:Deed}(h:D.real) (hf:D.fit):okA 110 (dS D):=
 iR (n:=19) (k:=5) (fun p hp=>by
   obtain⟨d,hd,rfl⟩:=zL.mp hp
   have:=OR (KJ h hf d hd)
   exact⟨this.1,this.2.1⟩) (by rw[zX];exact LQ D)
end DL
namespace DL
open PySem PySem.Spec L2 XC
def nnX (z:Str):List (Str×PyData):=[("name", .str z)]
def D8 (cN:Addr):FSpX:=⟨fun xs M=>∃(p:Addr) (ts:List Th) (D:Deed),xs=[.loc p,.d D.d]∧M p=some (tsO ts)∧D.real,
 fun xs M y M'=>∀(p:Addr) (ts:List Th) (D:Deed),xs=[.loc p,.d D.d]→M p=some (tsO ts)→AF (ts.map (·.1)) D=none∧y = .d .none∧M'=M,
 fun xs M cls fs M'=>∀(p:Addr) (ts:List Th) (D:Deed),xs=[.loc p,.d D.d]→M p=some (tsO ts)→∃z,AF (ts.map (·.1)) D=some z∧cls = .ref cN∧fs=nnX z∧M'=M⟩
theorem KL {cN p:Addr}{ts:List Th}{D:Deed}{M:Own}{Q:DS→Own→Prop}{DX:Value→List (Str×PyData)→Own→Prop}(m:M p=some (tsO ts)) (hr:D.real) (q:AF (ts.map (·.1)) D=none→Q (.d .none) M) (q2:∀z,AF (ts.map (·.1)) D=some z→DX (.ref cN) (nnX z) M) :
   [DS.loc p,.d D.d].length=2∧(D8 cN).pre [.loc p,.d D.d] M∧(∀x M',(D8 cN).post [.loc p,.d D.d] M x M'→Q x M')∧∀cls fs M',(D8 cN).xpost [.loc p,.d D.d] M cls fs M'→DX cls fs M':=
 ⟨rfl,⟨p,ts,D,rfl,m,hr⟩,fun x M' h=>(by obtain⟨a,rfl,rfl⟩:=h p ts D rfl m;exact q a),fun cls fs M' h=>by obtain⟨z,a,rfl,rfl,rfl⟩:=h p ts D rfl m;exact q2 z a⟩
def IT (cN:Addr):FSpX:=⟨fun xs M=>∃(w:List Th) (D:Deed),xs=[.d (wD w),.d D.d]∧GY w∧D.real,
 fun xs M y M'=>∀(w:List Th) (D:Deed),xs=[.d (wD w),.d D.d]→AF (w.map (·.1)) D=none∧y = .d (wD (AJ (doT w D)))∧M'=M,
 fun xs M cls fs M'=>∀(w:List Th) (D:Deed),xs=[.d (wD w),.d D.d]→∃z,AF (w.map (·.1)) D=some z∧cls = .ref cN∧fs=nnX z∧M'=M⟩
theorem XX {cN:Addr}{w:List Th}{D:Deed}{M:Own}{Q:DS→Own→Prop}{DX:Value→List (Str×PyData)→Own→Prop}(hc:GY w) (hr:D.real) (q:AF (w.map (·.1)) D=none→Q (.d (wD (AJ (doT w D)))) M) (q2:∀z,AF (w.map (·.1)) D=some z→DX (.ref cN) (nnX z) M) :
   [DS.d (wD w),.d D.d].length=2∧(IT cN).pre [.d (wD w),.d D.d] M∧(∀x M',(IT cN).post [.d (wD w),.d D.d] M x M'→Q x M')∧∀cls fs M',(IT cN).xpost [.d (wD w),.d D.d] M cls fs M'→DX cls fs M':=
 ⟨rfl,⟨w,D,rfl,hc,hr⟩,fun x M' h=>(by obtain⟨a,rfl,rfl⟩:=h w D rfl;exact q a),fun cls fs M' h=>by obtain⟨z,a,rfl,rfl,rfl⟩:=h w D rfl;exact q2 z a⟩
end DL
namespace DL
open PySem PySem.Spec L2 XC
theorem OS {p p':Addr}{ts ts':List Th}{D D':Deed}{M:Own}(e:[DS.loc p,.d D.d]=[.loc p',.d D'.d]) (m:M p=some (tsO ts)) (m':M p'=some (tsO ts')):p=p'∧ts=ts'∧D=D':=by
 simp only[List.cons.injEq,DS.loc.injEq,and_true] at e
 obtain⟨rfl,e⟩:=e
 exact⟨rfl,N7 (Option.some.inj (m.symm.trans m')),(D5 (w:=[]) (w':=[]) (by rw[e])).2⟩
end DL
namespace DL
open PySem PySem.Spec L2
def VG (kvs:List (PyData×PyData)):PyData→PyData | .str z=>(FC z kvs).getD (.str z) | d=>d
def D9:FSp:=⟨fun xs M=>∃(ps:List PyData) (kvs:List (PyData×PyData)),xs=[.d (.tuple ps),.d (.dict kvs)]∧ps.length≤60,fun xs M y M'=>∀(ps:List PyData) (kvs:List (PyData×PyData)),xs=[.d (.tuple ps),.d (.dict kvs)]→y = .d (.tuple (ps.map (VG kvs)))∧M'=M⟩
theorem MF {ps:List PyData}{kvs:List (PyData×PyData)}{M:Own}{Q:DS→Own→Prop}(h:ps.length≤60) (q:Q (.d (.tuple (ps.map (VG kvs)))) M):[DS.d (.tuple ps),.d (.dict kvs)].length=2∧D9.pre [.d (.tuple ps),.d (.dict kvs)] M∧∀x M',D9.post [.d (.tuple ps),.d (.dict kvs)] M x M'→Q x M':=
 ⟨rfl,⟨ps,kvs,rfl,h⟩,fun x M' h=>by obtain⟨rfl,rfl⟩:=h ps kvs rfl;exact q⟩
end DL
namespace DL
open PySem PySem.Spec L2
def DB (kvs:List (PyData×PyData)) (f:Str→Str) (S:List Str):Prop:=∀n∈S,FC n kvs=some (.str (f n))
theorem sK {kvs:List (PyData×PyData)}{f:Str→Str}{S:List Str}(h:DB kvs f S) {t:Th}(ht:t.1∈S):[PyData.str t.1,.int t.2.1,.int t.2.2].map (VG kvs)=[.str (f t.1),.int t.2.1,.int t.2.2]:=by
 show [(FC t.1 kvs).getD (.str t.1),_,_]=_
 rw[h t.1 ht];rfl
def uV (kvs:List (PyData×PyData)):PyData→PyData | .tuple ps=>.tuple (ps.map (VG kvs)) | d=>d
theorem bW {kvs:List (PyData×PyData)}{f:Str→Str}{S:List Str}(h:DB kvs f S) {w:List Th}(hw:∀t∈w,t.1∈S):(w.map thD).map (uV kvs)=(rnT f w).map thD:=by
 unfold rnT
 rw[zD,zD]
 apply yM
 intro t ht
 show PyData.tuple ([PyData.str t.1,.int t.2.1,.int t.2.2].map (VG kvs))=_
 rw[sK h (hw t ht)];rfl
theorem KM {f:Str→Str}{S:List Str}(hf:HF f S) {ts:List Th}(h:∀t∈ts,t.1∈S) (nd:(ts.map (·.1)).Nodup):((rnT f ts).map (·.1)).Nodup:=by
 rw[OG]
 unfold List.Nodup
 rw[List.pairwise_map]
 refine nd.imp_of_mem fun {a b} ha hb q e=>q ?_
 obtain⟨t,ht,rfl⟩:=zL.mp ha
 obtain⟨u,hu,rfl⟩:=zL.mp hb
 exact hf _ (h t ht) _ (h u hu) e
def DZ:FSp:=⟨fun xs M=>∃(w:List Th) (kvs:List (PyData×PyData)) (f:Str→Str) (S:List Str),xs=[.d (wD w),.d (.dict kvs)]∧DB kvs f S∧HF f S∧(∀t∈w,t.1∈S)∧(w.map (·.1)).Nodup∧w.length < 60,fun xs M y M'=>∀(w:List Th) (kvs:List (PyData×PyData)) (f:Str→Str) (S:List Str),xs=[.d (wD w),.d (.dict kvs)]→DB kvs f S→(∀t∈w,t.1∈S)→y = .d (wD (AJ (rnT f w)))∧M'=M⟩
theorem KN {w:List Th}{kvs:List (PyData×PyData)}{f:Str→Str}{S:List Str}{M:Own}{Q:DS→Own→Prop}(h1:DB kvs f S) (h2:HF f S) (h3:∀t∈w,t.1∈S) (h4:(w.map (·.1)).Nodup) (h5:w.length < 60) (q:Q (.d (wD (AJ (rnT f w)))) M):[DS.d (wD w),.d (.dict kvs)].length=2∧DZ.pre [.d (wD w),.d (.dict kvs)] M∧∀x M',DZ.post [.d (wD w),.d (.dict kvs)] M x M'→Q x M':=
 ⟨rfl,⟨w,kvs,f,S,rfl,h1,h2,h3,h4,h5⟩,fun x M' h=>by obtain⟨rfl,rfl⟩:=h w kvs f S rfl h1 h3;exact q⟩
theorem mO {kvs:List (PyData×PyData)}{f g:Str→Str}{S S':List Str}(h1:DB kvs f S) (h2:DB kvs g S') {w:List Th}(hw:∀t∈w,t.1∈S) (hw':∀t∈w,t.1∈S'):rnT f w=rnT g w:=by
 unfold rnT
 apply yM
 intro t ht
 have e1:=h1 t.1 (hw t ht)
 rw[h2 t.1 (hw' t ht)] at e1
 have:=Option.some.inj e1
 rw[PyData.str.inj this]
def CI:FSp:=⟨fun xs M=>∃(D:Deed) (kvs:List (PyData×PyData)) (f:Str→Str) (S:List Str),xs=[.d D.d,.d (.dict kvs)]∧DB kvs f S∧∀x∈D.names,x∈S,fun xs M y M'=>∀(D:Deed) (kvs:List (PyData×PyData)) (f:Str→Str) (S:List Str),xs=[.d D.d,.d (.dict kvs)]→DB kvs f S→(∀x∈D.names,x∈S)→y = .d (rnD f D).d∧M'=M⟩
def DC:FSp:=⟨fun xs M=>∃D:Deed,xs=[.d D.d],fun xs M y M'=>∀D:Deed,xs=[.d D.d]→y = .d (sgD D).d∧M'=M⟩
end DL
namespace DL
open PySem PySem.Spec L2
theorem iS {kvs:List (PyData×PyData)}{f g:Str→Str}{S S':List Str}(h1:DB kvs f S) (h2:DB kvs g S') {D:Deed}(hD:∀x∈D.names,x∈S) (hD':∀x∈D.names,x∈S'):rnD f D=rnD g D:=by
 have e:∀x∈D.names,f x=g x:=fun x hx=>by
   have e1:=h1 x (hD x hx)
   rw[h2 x (hD' x hx)] at e1
   exact(PyData.str.inj (Option.some.inj e1)).symm
 cases D <;> simp only[rnD] <;> simp[Deed.names] at e <;> simp[e]
end DL
namespace DL
open PySem PySem.Spec L2
theorem iT (a:PyData) (r:List PyData):BU (a::r) none (some 1)=[a]:=(rC _ 1).trans rfl
theorem iU (a:PyData) (r:List PyData):BU (a::r) (some 1) none=r:=(TZ _ 1).trans rfl
end DL
namespace DL
open PySem PySem.Spec L2 XC
def DAx (K:Frg) (R:Rx) (t:TA) (ρ:List (Option DS)) (M:Own) (Q:List DS→Own→Prop) (DX:DXK):Prop:=
 ∀(σ:St) (H:Hp) (QQ:List V→Hp→Prop),Rel K M ρ σ H→(∀vs H' xs M',OA K H' M'→SIs K H' M' xs vs→Step K M M' H H'→Q xs M'→QQ vs H')→KX K R M H DX→t σ H QQ
section
variable {K:Frg}{R:Rx}{ρ:List (Option DS)}{M:Own}{DX:DXK}{ta:TE}{tl:TA}{Q:DS→Own→Prop}{QL:List DS→Own→Prop}
theorem iV (h:DA K tl ρ M QL):DAx K R tl ρ M QL DX:=fun σ H QQ Rl k _=>h σ H QQ Rl k
theorem VH (h:DEx K R ta ρ M (fun x M1=>DAx K R tl ρ M1 (fun xs M2=>QL (x::xs) M2) DX) DX):DAx K R (YC ta tl) ρ M QL DX:=fun σ H QQ Rl k k5=>
 h σ H _ Rl (fun v H1 x M1 o1 s1 t1 h1=>h1 σ H1 _ (Rl.step o1 t1) (fun vs H2 xs M2 o2 s2 t2 q=>k (v::vs) H2 (x::xs) M2 o2 ⟨v,vs,rfl,s1.step t2,s2⟩ (t1.trans t2) q) (k5.step t1)) k5
theorem mP (h:DAx K R tl ρ M (fun xs M1=>∃ds,NK xs=some ds∧ds.length≤sizeLine∧Q (.d (.tuple ds)) M1) DX):DEx K R (pH tl) ρ M Q DX:=fun σ H QQ Rl k k5=>
 h σ H _ Rl (fun vs H1 xs M1 o1 s1 t1 h1=>by
   obtain⟨ds,e,hz,q⟩:=h1
   have hd:=s1.data e
   refine⟨by rw[hd.length];exact hz,fun p hp=>?_⟩
   have g:Grow K M1.W M1.W H1 (upd H1 p (.tup vs)):=AW _ hp
   refine k _ _ (.d (.tuple ds)) M1 (o1.new hp) ?_ (t1.trans ⟨g⟩) q
   unfold SI DV
   exact⟨p,_,rfl,.inl ⟨fun w=>w (o1.none hp),.inl AG⟩,hd.grow g⟩) k5
end
end DL
namespace DL
open PySem PySem.Spec L2 XC
def IU (cN:Addr):FSpX:=⟨fun xs M=>∃(w:List Th) (D:Deed),xs=[.d (wD w),.d D.d]∧GY w∧D.real,
 fun xs M y M'=>∀(w:List Th) (D:Deed),xs=[.d (wD w),.d D.d]→AF (w.map (·.1)) D=none∧y = .d (AM w D).d∧M'=M,
 fun xs M cls fs M'=>∀(w:List Th) (D:Deed),xs=[.d (wD w),.d D.d]→∃z,AF (w.map (·.1)) D=some z∧cls = .ref cN∧fs=nnX z∧M'=M⟩
theorem XY {cN:Addr}{w:List Th}{D:Deed}{M:Own}{Q:DS→Own→Prop}{DX:Value→List (Str×PyData)→Own→Prop}(hc:GY w) (hr:D.real) (q:AF (w.map (·.1)) D=none→Q (.d (AM w D).d) M) (q2:∀z,AF (w.map (·.1)) D=some z→DX (.ref cN) (nnX z) M) :
   [DS.d (wD w),.d D.d].length=2∧(IU cN).pre [.d (wD w),.d D.d] M∧(∀x M',(IU cN).post [.d (wD w),.d D.d] M x M'→Q x M')∧∀cls fs M',(IU cN).xpost [.d (wD w),.d D.d] M cls fs M'→DX cls fs M':=
 ⟨rfl,⟨w,D,rfl,hc,hr⟩,fun x M' h=>(by obtain⟨a,rfl,rfl⟩:=h w D rfl;exact q a),fun cls fs M' h=>by obtain⟨z,a,rfl,rfl,rfl⟩:=h w D rfl;exact q2 z a⟩
def B7 (w:List Th) (D:Deed):PyData:=match AF (w.map (·.1)) D with | none=>.tuple [wD (AJ (doT w D)),(AM w D).d] | some _=>.none
def HX:FSp:=⟨fun xs M=>∃(w:List Th) (D:Deed),xs=[.d (wD w),.d D.d]∧GY w∧D.real,fun xs M y M'=>∀(w:List Th) (D:Deed),xs=[.d (wD w),.d D.d]→y = .d (B7 w D)∧M'=M⟩
theorem FJ {w:List Th}{D:Deed}{M:Own}{Q:DS→Own→Prop}(hc:GY w) (hr:D.real) (q:Q (.d (B7 w D)) M):[DS.d (wD w),.d D.d].length=2∧HX.pre [.d (wD w),.d D.d] M∧∀x M',HX.post [.d (wD w),.d D.d] M x M'→Q x M':=
 ⟨rfl,⟨w,D,rfl,hc,hr⟩,fun x M' h=>by obtain⟨rfl,rfl⟩:=h w D rfl;exact q⟩
theorem ZH {f:Str→Str}{S:List Str}(hf:HF f S) {w:List Th}(h:∀t∈w,t.1∈S) (nd:(w.map (·.1)).Nodup) {D:Deed}(hD:∀x∈D.names,x∈S):AF ((rnT f w).map (·.1)) (rnD f D)=(AF (w.map (·.1)) D).map f:=by
 rw[OG]
 exact gR hf (fun n hn=>by obtain⟨t,ht,rfl⟩:=zL.mp hn;exact h t ht) hD
end DL
namespace L2
open PySem PySem.Spec PyProof.Rows
section
variable {X:Cx}
def RG:R2:=fun x y H Q=>QM x y H Q∨∃z:Str,x = .str z∧y = .int 0∧z.length≤1000∧Q (.str (Str.ofString "")) H
theorem mQ:OpR X (binaryOp .Mult) RG:=by
 intro pins s σ H x y v u Q I rx ry h
 rcases h with h | ⟨z,rfl,rfl,h3,q⟩
 · exact YW pins s σ H x y v u Q I rx ry h
 · obtain⟨t,rfl⟩:=rx
   obtain⟨t',rfl⟩:=ry
   exact P.mul_str_none (by decide) (by decide) ⟨.str _,H,I.tok _,⟨_,rfl⟩,q⟩
end
end L2
namespace DL
open PySem PySem.Spec L2
theorem uW {X:Cx}{K:Frg}(_:X.K=K):OpR X (binaryOp .Mult) RG:=mQ
theorem ZI {K:Frg}{M:Own}{Q:DS→Own→Prop}{x y:DS}(h:D2 K QM x y M Q):D2 K RG x y M Q:=fun H v u QQ oa s1 s2 k=>.inl (h H v u QQ oa s1 s2 k)
theorem mR {K:Frg}{M:Own}{Q:DS→Own→Prop}{z:Str}(h3:z.length≤1000) (q:Q (.d (.str (Str.ofString ""))) M):D2 K RG (.d (.str z)) (.d (.int 0)) M Q:=fun H v u QQ oa s1 s2 k=>by
 rw[AT s1,BE s2]
 exact .inr ⟨z,rfl,rfl,h3,k _ H _ M oa BS Step.refl q⟩
end DL
namespace DL
open PySem PySem.Spec L2 XC
def HY:List Str:=["m", "znn", "zzooo", "pppp", "zq", "zzrr", "sss", "ztttt", "zzu", "vv", "zwww", "zzxxxx", "y"]
theorem mS:∀z∈HY,B8 z:=by
 intro z hz
 simp only[HY,yX,xX,or_false] at hz
 rcases hz with rfl | rfl | rfl | rfl | rfl | rfl | rfl | rfl | rfl | rfl | rfl | rfl | rfl <;> (refine⟨by decide +kernel,by decide +kernel,?_⟩;decide +kernel)
theorem RH:HY.Nodup:=by decide +kernel
def CB (ys:List Str) (n:Str):Str:=HY.getD (ys.idxOf n) n
theorem N9 {ys:List Str}(nd:ys.Nodup) {k:Nat}{y:Str}(h:ys[k]?=some y) (hk:k < 13):CB ys y=HY.getD k y:=by
 unfold CB
 obtain⟨hl,e⟩:=yT.mp h
 rw[← e,nd.idxOf_getElem k hl]
theorem iW {ys:List Str}(nd:ys.Nodup) (hl:ys.length≤13):HF (CB ys) ys:=by
 intro a ha b hb e
 obtain⟨i,hi,rfl⟩:=List.mem_iff_getElem.mp ha
 obtain⟨j,hj,rfl⟩:=List.mem_iff_getElem.mp hb
 have hn:HY.length=13:=rfl
 rw[N9 nd (zV hi) (by omega),N9 nd (zV hj) (by omega),yU,yU,zV (by omega),zV (by omega)] at e
 have e:HY[i]'(by omega)=HY[j]'(by omega):=e
 have:i=j:=by
   rcases Nat.lt_trichotomy i j with q | q | q
   · exact absurd e (List.pairwise_iff_getElem.mp RH i j (by omega) (by omega) q)
   · exact q
   · exact absurd e.symm (List.pairwise_iff_getElem.mp RH j i (by omega) (by omega) q)
 subst this;rfl
theorem bX {ys:List Str}(nd:ys.Nodup) (hl:ys.length≤13) {n:Str}(hn:n∈ys):B8 (CB ys n):=by
 obtain⟨i,hi,rfl⟩:=List.mem_iff_getElem.mp hn
 have h13:HY.length=13:=rfl
 rw[N9 nd (zV hi) (by omega),yU,zV (by omega)]
 exact mS _ (List.getElem_mem _)
end DL
namespace DL
open PySem PySem.Spec L2 XC
def OT:FSp:=⟨fun xs M=>∃D:Deed,xs=[.d (.str (dS D))]∧D.real∧D.fit∧okD (.str (dS D)),fun xs M y M'=>∀D:Deed,xs=[.d (.str (dS D))]→D.real→D.fit→y = .d D.d∧M'=M⟩
theorem OU {P:Program}{w0:World}{K:Frg}{mg:Str→Option Value}{base:Heap}{x:Str}{k:Nat}{ps:List Str}{cT:Addr}(h:HasX P w0 K mg base x k ps (DY cT)):Has P w0 K mg base x k ps OT:=
 h.calm fun xs M hp=>by
   obtain⟨D,rfl,hr,hf,ho⟩:=hp
   refine⟨⟨_,rfl,ho⟩,fun y M' hq D' e hr' hf'=>?_,fun cls fs M' hx=>?_⟩
   · obtain⟨r,a,b,c⟩:=hq (.str (dS D')) e
     rw[oB hr' hf'] at a
     have a:=Option.some.inj a
     subst a
     exact⟨b,c⟩
   · obtain⟨a,_⟩:=hx _ rfl
     rw[oB hr hf] at a
     cases a
theorem VI {D:Deed}{M:Own}{Q:DS→Own→Prop}(hr:D.real) (hf:D.fit) (ho:okD (.str (dS D))) (q:Q (.d D.d) M):[DS.d (.str (dS D))].length=1∧OT.pre [.d (.str (dS D))] M∧∀x M',OT.post [.d (.str (dS D))] M x M'→Q x M':=
 ⟨rfl,⟨D,rfl,hr,hf,ho⟩,fun x M' h=>by obtain⟨rfl,rfl⟩:=h D rfl hr hf;exact q⟩
theorem VJ {f:Str→Str}{S:List Str}(hf:HF f S) {w:List Th}(h:∀t∈w,t.1∈S) (nd:(w.map (·.1)).Nodup) {D:Deed}(hD:∀x∈D.names,x∈S) (hdo:∀t∈doT w D,t.1∈S) (ndo:((doT w D).map (·.1)).Nodup) :
   (match AF (w.map (·.1)) D with | none=>PyData.tuple [wD (AJ (rnT f (AJ (doT w D)))),(rnD f (AM w D)).d] | some _=>.none)=match AF ((rnT f w).map (·.1)) (rnD f D) with | none=>.tuple [wD (AJ (doT (rnT f w) (rnD f D))),(AM (rnT f w) (rnD f D)).d] | some _=>.none:=by
 rw[ZH hf h nd hD]
 cases AF (w.map (·.1)) D with
 | some z=>rfl
 | none=>
   show PyData.tuple _ = .tuple _
   rw[nY hf h hD,lV hf h hD,rT hf hdo ndo]
theorem VL {w:List Th}(D:Deed) (ndo:((doT w D).map (·.1)).Nodup) :
   (match AF (w.map (·.1)) D with | none=>PyData.tuple [wD (sgT (AJ (doT w D))),(sgD (AM w D)).d] | some _=>.none)=B7 (sgT w) (sgD D):=by
 unfold B7
 rw[KH,UR]
 cases AF (w.map (·.1)) D with
 | some z=>rfl
 | none=>
   show PyData.tuple _ = .tuple _
   rw[uL,lY,rV ndo]
end DL
namespace DL
open PySem PySem.Spec L2
section
variable {as bs:List Th}
theorem E1 (p:as.Perm bs) (nd:(as.map (·.1)).Nodup) (x:Str):AB as x=AB bs x:=by
 have nd2:(bs.map (·.1)).Nodup:=(p.map _).nodup_iff.mp nd
 cases h:AB as x with
 | none=>
   have:=CF.mp h
   exact(CF.mpr fun q=>this ((p.map _).mem_iff.mpr q)).symm
 | some v=>exact(CO nd2 (p.mem_iff.mp (CH h))).symm
theorem HZ (p:as.Perm bs) (x:Str) (q c:Int):(B3 as x q c).Perm (B3 bs x q c):=by
 unfold B3
 have e:(as.any fun t=>decide (t.1=x))=bs.any fun t=>decide (t.1=x):=by
   rw[Bool.eq_iff_iff,List.any_eq_true,List.any_eq_true]
   exact⟨fun⟨t,a,b⟩=>⟨t,p.mem_iff.mp a,b⟩,fun⟨t,a,b⟩=>⟨t,p.mem_iff.mpr a,b⟩⟩
 rw[e]
 split
 · exact p.map _
 · exact p.append_right _
theorem LR (p:as.Perm bs) (x:Str):(AS as x).Perm (AS bs x):=p.filter _
theorem OV (p:as.Perm bs) (nd:(as.map (·.1)).Nodup) (x:Str) (k:Int):(BG as x k).Perm (BG bs x k):=by
 unfold BG
 rw[E1 p nd x]
 cases AB bs x with
 | none=>exact p
 | some v=>exact HZ p _ _ _
theorem mT (p:as.Perm bs) (nd:(as.map (·.1)).Nodup) (D:Deed):(doT as D).Perm (doT bs D):=by
 cases D with
 | put x q k=>exact HZ p _ _ _
 | take x=>exact LR p _
 | move x q=>
   show(match AB as x with | some v=>B3 as x q v.2 | none=>as).Perm (match AB bs x with | some v=>B3 bs x q v.2 | none=>bs)
   rw[E1 p nd x]
   cases AB bs x with
   | none=>exact p
   | some v=>exact HZ p _ _ _
 | count x k=>exact OV p nd _ _
 | name x y=>
   show(match AB as x with | some v=>B3 (AS as x) y v.1 v.2 | none=>as).Perm (match AB bs x with | some v=>B3 (AS bs x) y v.1 v.2 | none=>bs)
   rw[E1 p nd x]
   cases AB bs x with
   | none=>exact p
   | some v=>exact HZ (LR p _) _ _ _
 | split x y q k=>exact HZ (OV p nd _ _) _ _ _
 | join x y=>
   show(match AB as y with | some v=>AS (BG as x v.2) y | none=>as).Perm (match AB bs y with | some v=>AS (BG bs x v.2) y | none=>bs)
   rw[E1 p nd y]
   cases AB bs y with
   | none=>exact p
   | some v=>exact LR (OV p nd _ _) _
theorem bY (p:as.Perm bs) (nd:(as.map (·.1)).Nodup) (D:Deed):AM as D=AM bs D:=by
 cases D <;> first | rfl | (simp only[AM];rw[E1 p nd])
theorem MG (p:as.Perm bs) (D:Deed):AF (as.map (·.1)) D=AF (bs.map (·.1)) D:=by
 unfold AF
 congr 1
 funext n
 rw[show decide (n∈as.map (·.1))=decide (n∈bs.map (·.1)) from by rw[Bool.eq_iff_iff,decide_eq_true_iff,decide_eq_true_iff];exact(p.map _).mem_iff]
theorem iX (nd:(as.map (·.1)).Nodup) (D:Deed) (ndo:((doT as D).map (·.1)).Nodup):B7 (AJ as) D=B7 as D:=by
 have p:=AR as
 have nd1:((AJ as).map (·.1)).Nodup:=(p.map _).nodup_iff.mpr nd
 unfold B7
 rw[MG p D]
 cases AF (as.map (·.1)) D with
 | some z=>rfl
 | none=>
   show PyData.tuple _ = .tuple _
   have pd:=mT p nd1 D
   have nd2:((doT (AJ as) D).map (·.1)).Nodup:=(pd.map _).nodup_iff.mpr ndo
   rw[bY p nd1 D,FX ((AR _).trans pd) (DU nd2)]
end
end DL
namespace DL
open PySem PySem.Spec L2 XC
def KO:FSp:=⟨fun xs M=>∃(p:Addr) (o:MO) (ys:List Str),xs=[.loc p,.d (.list (ys.map .str))]∧M p=some o∧B5 o∧2≤ys.length∧ys.length≤100∧ZF ys,
 fun xs M y M'=>∀p (ys:List Str),xs=[.loc p,.d (.list (ys.map .str))]→∃(D:Deed) (o:MO),y = .d D.d∧D.real∧D.fit∧(∀x∈D.names,x∈ys)∧B5 o∧M'=M.put p o⟩
theorem XZ {p:Addr}{ys:List Str}{o:MO}{M:Own}{Q:DS→Own→Prop}(m:M p=some o) (ho:B5 o) (h0:2≤ys.length) (h1:ys.length≤100) (hy:ZF ys) (q:∀(D:Deed) o',D.real→D.fit→(∀x∈D.names,x∈ys)→B5 o'→Q (.d D.d) (M.put p o')) :
   [DS.loc p,.d (.list (ys.map .str))].length=2∧KO.pre [.loc p,.d (.list (ys.map .str))] M∧∀x M',KO.post [.loc p,.d (.list (ys.map .str))] M x M'→Q x M':=
 ⟨rfl,⟨p,o,ys,rfl,m,ho,h0,h1,hy⟩,fun x M' h=>by obtain⟨D,o',rfl,a,b,c,d,rfl⟩:=h p _ rfl;exact q D o' a b c d⟩
def G1:FSp:=⟨fun xs M=>∃(p:Addr) (o:MO) (ys:List Str),xs=[.loc p,.d (.list (ys.map .str))]∧M p=some o∧B5 o∧ys.length≤50∧ZF ys,
 fun xs M y M'=>∀p (ys:List Str),xs=[.loc p,.d (.list (ys.map .str))]→∃(w:List Th) (o:MO),y = .d (wD w)∧EV w∧w.length≤ys.length∧(∀t∈w,t.1∈ys)∧B5 o∧M'=M.put p o⟩
theorem SM {p:Addr}{ys:List Str}{o:MO}{M:Own}{Q:DS→Own→Prop}(m:M p=some o) (ho:B5 o) (h1:ys.length≤50) (hy:ZF ys) (q:∀(w:List Th) o',EV w→w.length≤ys.length→(∀t∈w,t.1∈ys)→B5 o'→Q (.d (wD w)) (M.put p o')) :
   [DS.loc p,.d (.list (ys.map .str))].length=2∧G1.pre [.loc p,.d (.list (ys.map .str))] M∧∀x M',G1.post [.loc p,.d (.list (ys.map .str))] M x M'→Q x M':=
 ⟨rfl,⟨p,o,ys,rfl,m,ho,h1,hy⟩,fun x M' h=>by obtain⟨w,o',rfl,h2,h3,h4,h5,rfl⟩:=h p ys rfl;exact q w o' h2 h3 h4 h5⟩
theorem iY {y1 y2:Str}{pl k:Int}{D:Deed}{ys:List Str}(h1:y1∈ys) (h2:y2∈ys) (h:D∈[Deed.put y1 pl k,.take y1,.move y1 pl,.count y1 k,.name y1 y2,.split y1 y2 pl k,.join y1 y2]):∀x∈D.names,x∈ys:=by
 simp only[yX,xX,or_false] at h
 rcases h with rfl | rfl | rfl | rfl | rfl | rfl | rfl <;> intro x hx <;> simp[Deed.names] at hx <;> first | (subst hx;exact h1) | (rcases hx with rfl | rfl <;> assumption)
theorem IA {w:List Th}{D:Deed}(hw:EV w) (hl:w.length < 60) (hr:D.real):zH (B7 w D)=true:=by
 unfold B7
 cases h:AF (w.map (·.1)) D with
 | some z=>rfl
 | none=>
   obtain⟨g2,_,_,fw,_⟩:=OF hw ⟨⟨hw.1.nodup,by omega⟩,hr,h⟩ hl
   have s1:=bM fw
   have s2:=V6 g2.2.1.1
   refine D0 (RZ fun d hd=>?_) ?_
   · simp only[yX,xX,or_false] at hd
     rcases hd with rfl | rfl
     · exact zG s1
     · exact zG s2
   · have d1:PyData.depthAll ((AJ (doT w D)).map thD)≤3:=fC fun d hd=>by
       obtain⟨t,ht,rfl⟩:=zL.mp hd
       simp[thD,PyData.depth,PyData.depthAll]
     have d2:PyData.depth (AM w D).d≤3:=by cases AM w D <;> simp[Deed.d,PyData.depth,PyData.depthAll]
     simp only[wD,PyData.depth,PyData.depthAll]
     omega
theorem iZ {w:List Th}{D:Deed}{S:List Str}(hr:D.real) (ha:AF (w.map (·.1)) D=none) (h:∀t∈w,t.1∈S) (hD:∀x∈D.names,x∈S):∀t∈doT w D,t.1∈S:=fun t ht=>by
 have hn:∀n∈w.map (·.1),n∈S:=fun n hn=>by obtain⟨t,ht,rfl⟩:=zL.mp hn;exact h t ht
 have:t.1∈JT (w.map (·.1)) D:=by rw[← LJ hr ha];exact zL.mpr ⟨t,ht,rfl⟩
 have hs:∀n∈JT (w.map (·.1)) D,n∈S:=by
   cases D <;> simp only[JT] <;> intro n hn' <;> simp[Deed.names] at hD <;> (try simp only[yW,yL,List.mem_singleton] at hn')
   all_goals first
     | exact hn n hn'
     | exact hn n hn'.1
     | (rcases hn' with q | rfl
        · exact hn n q
        · first | exact hD | exact hD.2)
     | (rcases hn' with q | rfl
        · exact hn n q.1
        · first | exact hD | exact hD.2)
 exact hs _ this
theorem mU {w:List Th}{D:Deed}{S:List Str}(hD:∀x∈D.names,x∈S):∀x∈(AM w D).names,x∈S:=by
 cases D <;> simp[Deed.names] at hD <;> intro x hx <;> simp only[AM] at hx
 all_goals (try (split at hx)) <;> simp[Deed.names] at hx <;> first | (subst hx;first | exact hD | exact hD.1 | exact hD.2) | (rcases hx with rfl | rfl <;> first | exact hD.1 | exact hD.2)
theorem mV {f:Str→Str}{S:List Str}(hf:HF f S) (hn:∀n∈S,B8 (f n)) {D:Deed}(hr:D.real) (hD:∀x∈D.names,x∈S):(rnD f D).real:=by
 refine⟨fun x hx=>?_,?_,?_⟩
 · rw[R8] at hx
   obtain⟨y,hy,rfl⟩:=zL.mp hx
   exact hn y (hD y hy)
 · have:=hr.2.1
   cases D <;> first | trivial | exact fun e=>this (hf _ (hD _ (by simp[Deed.names])) _ (hD _ (by simp[Deed.names])) e)
 · have:=hr.2.2
   cases D <;> exact this
theorem mW {f:Str→Str}{S:List Str}(hf:HF f S) (hn:∀n∈S,B8 (f n)) {w:List Th}(hw:EV w) (h:∀t∈w,t.1∈S):EV (AJ (rnT f w)):=by
 refine⟨DU (KM hf h hw.1.nodup),fun t ht=>?_⟩
 have ht:=(AR _).mem_iff.mp ht
 obtain⟨u,hu,rfl⟩:=zL.mp ht
 exact⟨hn _ (h u hu),(hw.2 u hu).2⟩
theorem ZJ {D:Deed}(hr:D.real):(sgD D).real:=by
 obtain⟨a,b,c⟩:=hr
 cases D <;> exact⟨a,b,c⟩
theorem ZK {w:List Th}(hw:EV w):EV (sgT w):=by
 refine⟨by rw[KH];exact hw.1,fun t ht=>?_⟩
 obtain⟨u,hu,rfl⟩:=zL.mp ht
 exact hw.2 u hu
theorem j0 {f:Str→Str}{S:List Str}(hf:HF f S) {w:List Th}(hw:EV w) (h:∀t∈w,t.1∈S) {D:Deed}(hl:w.length < 60) (hr:D.real) (hD:∀x∈D.names,x∈S) :
   B7 (AJ (rnT f w)) (rnD f D)=match AF (w.map (·.1)) D with | none=>PyData.tuple [wD (AJ (rnT f (AJ (doT w D)))),(rnD f (AM w D)).d] | some _=>.none:=by
 have nd:=KM hf h hw.1.nodup
 cases ha:AF (w.map (·.1)) D with
 | some z=>
   unfold B7
   rw[MG (AR _),ZH hf h hw.1.nodup hD,ha]
   rfl
 | none=>
   have hg:goD w D:=⟨⟨hw.1.nodup,by omega⟩,hr,ha⟩
   have hdo:=iZ hr ha h hD
   have ndo:=(OD hg).1
   have e:=VJ hf h hw.1.nodup hD hdo ndo
   rw[ha] at e
   rw[iX nd _ (by rw[nY hf h hD];exact KM hf hdo ndo)]
   exact e.symm
theorem bZ {w:List Th}(hw:EV w) {D:Deed}(hl:w.length < 60) (hr:D.real) :
   B7 (sgT w) (sgD D)=match AF (w.map (·.1)) D with | none=>PyData.tuple [wD (sgT (AJ (doT w D))),(sgD (AM w D)).d] | some _=>.none:=by
 cases ha:AF (w.map (·.1)) D with
 | some z=>unfold B7;rw[KH,UR,ha]
 | none=>
   have e:=VL D (OD ⟨⟨hw.1.nodup,by omega⟩,hr,ha⟩).1
   rw[ha] at e
   exact e.symm
def IB (ys:List Str):List (Str×PyData):=ys.map fun y=>(y,.str (CB ys y))
theorem c5 {ys:List Str}:DB (AO (IB ys)) (CB ys) ys:=by
 intro n hn
 have:∀zs:List Str,n∈zs→FC n (AO (zs.map fun y=>(y,PyData.str (CB ys y))))=some (.str (CB ys n)):=by
   intro zs
   induction zs with
   | nil=>intro h;cases h
   | cons z r ih=>
     intro h
     show(if z=n then some (PyData.str (CB ys z)) else FC n (AO (r.map fun y=>(y,PyData.str (CB ys y)))))=_
     split
     · rename_i e
       rw[e]
     · rename_i e
       exact ih ((yX.mp h).resolve_left fun q=>e q.symm)
 exact this ys hn
end DL
namespace DL
open PySem PySem.Spec L2 XC
def c6 (k:Nat):Str:=if k % 3=0 then Str.ofString "" else HE (Str.ofString "z") ((k % 3:Nat):Int)
def MH (k:Nat):Nat:=(Str.ofString "mnopqrstuvwxy").cps.toList.getD k 0
theorem sL:∀k:Fin 13,c6 k.1++HE ⟨#[MH k.1]⟩ ((1+k.1 % 4:Nat):Int)=HY.getD k.1 (Str.ofString ""):=by decide +kernel
theorem sM:∀k:Fin 13,(Str.ofString "mnopqrstuvwxy").cps.toList[k.1]?=some (MH k.1):=by decide +kernel
theorem mX:∀k:Fin 13,(c6 k.1).length+(HE ⟨#[MH k.1]⟩ ((1+k.1 % 4:Nat):Int)).length≤100:=by decide +kernel
def SN (ys:List Str):PyData→PyData | .int k=>(match ys[k.toNat]? with | some y=>R5 (y,.str (CB ys y)) | none=>.none) | d=>d
theorem j1 (ys:List Str):(ED 0 ys.length).map (SN ys)=(IB ys).map R5:=by
 apply List.ext_getElem
 · simp[ED,IB]
 · intro i h1 h2
   have hi:i < ys.length:=by simpa [ED] using h1
   simp[ED,IB,SN,hi]
end DL
namespace DL
open PySem PySem.Spec L2 XC
theorem KP {D:Deed}{kvs:List (PyData×PyData)}{f:Str→Str}{S:List Str}{M:Own}{Q:DS→Own→Prop}(h1:DB kvs f S) (h2:∀x∈D.names,x∈S) (q:Q (.d (rnD f D).d) M):[DS.d D.d,.d (.dict kvs)].length=2∧CI.pre [.d D.d,.d (.dict kvs)] M∧∀x M',CI.post [.d D.d,.d (.dict kvs)] M x M'→Q x M':=
 ⟨rfl,⟨D,kvs,f,S,rfl,h1,h2⟩,fun x M' h=>by obtain⟨rfl,rfl⟩:=h D kvs f S rfl h1 h2;exact q⟩
theorem MI {D:Deed}{M:Own}{Q:DS→Own→Prop}(q:Q (.d (sgD D).d) M):[DS.d D.d].length=1∧DC.pre [.d D.d] M∧∀x M',DC.post [.d D.d] M x M'→Q x M':=
 ⟨rfl,⟨D,rfl⟩,fun x M' h=>by obtain⟨rfl,rfl⟩:=h D rfl;exact q⟩
def sgP:PyData→PyData | .tuple [a,b,.int c]=>.tuple [a,b,.int (0 - c)] | d=>d
theorem j2 (w:List Th):(w.map thD).map sgP=(sgT w).map thD:=by
 unfold sgT
 rw[zD,zD]
 apply yM
 intro t _
 show PyData.tuple [.str t.1,.int t.2.1,.int (0 - t.2.2)]=PyData.tuple [.str t.1,.int t.2.1,.int (-t.2.2)]
 rw[Int.zero_sub]
end DL
namespace DL
open PySem PySem.Spec L2 XC
theorem mY {K:Frg}{M:Own}{Q:DS→Own→Prop}(k:Nat) (q:Q (.d (.str (c6 k))) M):D2 K RG (.d (.str (Str.ofString "z"))) (.d (.int ((k:Int) % 3))) M Q:=by
 rw[show(k:Int) % 3=((k % 3:Nat):Int) by omega]
 unfold c6 at q
 by_cases h:k % 3=0
 · rw[if_pos h] at q
   rw[h]
   exact mR (by decide) q
 · rw[if_neg h] at q
   exact ZI (WM (by omega) (by omega) (by decide +kernel) q)
theorem j3 {K:Frg}{M:Own}{Q:DS→Own→Prop}(k:Nat) (q:Q (.d (.str (HE ⟨#[MH k]⟩ ((1+k % 4:Nat):Int)))) M):D2 K RG (.d (.str ⟨#[MH k]⟩)) (.d (.int (1+(k:Int) % 4))) M Q:=by
 rw[show 1+(k:Int) % 4=((1+k % 4:Nat):Int) by omega]
 exact ZI (WM (by omega) (by omega) (yD rfl) q)
theorem mZ {ys:List Str}(nd:ys.Nodup) {k:Nat}{y:Str}(h:ys[k]?=some y) (hk:k < 13):c6 k++HE ⟨#[MH k]⟩ ((1+k % 4:Nat):Int)=CB ys y:=by
 rw[N9 nd h hk,sL ⟨k,hk⟩,yU,yU]
 rw[zV (show k < HY.length from hk)]
 rfl
theorem n4 {ys:List Str}(nd:ys.Nodup) {k:Nat}{y:Str}(h:ys[k]?=some y) (hk:k < 13):PyData.tuple [.str y,.str (c6 k++HE ⟨#[MH k]⟩ ((1+k % 4:Nat):Int))]=SN ys (.int k):=by
 rw[mZ nd h hk]
 show _=match ys[(k:Int).toNat]? with | some y=>R5 (y,.str (CB ys y)) | none=>.none
 rw[Int.toNat_natCast,h]
 rfl
end DL
namespace L2
open PySem PySem.Spec PyProof.Rows
def uX:List Nat:=[0,1,2,3,4,5,6,7,8,9,10,11,12,13,14,15,16,17,18,19,20,21,22,23]
theorem j4 {x:Str}{i:Nat}:∀(l:List Str) (k n:Nat),(l.zip (List.range' k n)).lookup x=some i→k≤i∧l[i - k]?=some x
 | [],_,_,h=>by cases h
 | _::_,_,0,h=>by cases h
 | a::r,k,n+1,h=>by
   rw[List.range'_succ,List.zip_cons_cons,List.lookup_cons] at h
   split at h
   · rename_i e
     have h:=Option.some.inj h
     subst h
     rw[Nat.sub_self]
     exact⟨zR _,by rw[eq_of_beq e];rfl⟩
   · obtain⟨h1,h2⟩:=j4 r (k+1) n h
     refine⟨by omega,?_⟩
     rw[show i - k=(i - (k+1))+1 by omega]
     exact h2
theorem Y0 {l:List Str}{x:Str}{i:Nat}(h:(l.zip uX).lookup x=some i):l[i]?=some x:=(j4 l 0 24 h).2
theorem pvx {X:Cx}{i:Nat}{x:Str}{pos:Pos}(h:(X.N.zip uX).lookup x=some i) (hv:Vis X.env.scope x) (hd:(x==("__debug__":Str))=false:=by decide)
   (hcd:(x==("__classdict__":Str))=false:=by decide):PE X (.Name x pos) (ZS i):=cB (Y0 h) hv hd hcd
end L2
namespace DL
open PySem PySem.Spec L2
def FnIn (K:Frg) (n:Str) (st:Stmt):Prop:=∃(f:Addr) (oc:Value) (od:Option Addr) (kV dc pm:Value) (an:Option Addr) (cd ct:Value) (sl:Array (Option Value)),PySem.W.nsIn K mainGlobals n=some (some (.ref f)) ∧
 K.lookup f=some ⟨oc,od,.func (PySem.W.fnOf n n (CM st) (BF st) (AA st) .none kV dc pm an cd ct),sl⟩∧PySem.W.codeIn K cd n=true∧PySem.W.keepIn K (.ref f)=true
theorem n5 {K:Frg}{n:Str}{st:Stmt}{f:Addr}{oc:Value}{od:Option Addr}{kV dc pm:Value}{an:Option Addr}{cd ct:Value}{sl:Array (Option Value)}(a:PySem.W.nsIn K mainGlobals n=some (some (.ref f)))
   (l:K.lookup f=some ⟨oc,od,.func (PySem.W.fnOf n n (CM st) (BF st) (AA st) .none kV dc pm an cd ct),sl⟩) (c:PySem.W.codeIn K cd n=true) (k:PySem.W.keepIn K (.ref f)=true):FnIn K n st:=⟨f,oc,od,kV,dc,pm,an,cd,ct,sl,a,l,c,k⟩
structure FnAt (K:Frg) (mg:Str→Option Value) (n:Str) (st:Stmt) (f:Addr) (fd:FuncData):Prop where
 fn:Fun K n n st f fd
 mg_:mg n=some (.ref f)
 kp:PySem.W.keepIn K (.ref f)=true
theorem FnIn.at {K:Frg}{n:Str}{st:Stmt}{h:Heap}{mg:Str→Option Value}(b:FnIn K n st) (X:K.In h) (G:h.Ns mainGlobals mg):∃f fd,FnAt K mg n st f fd:=
 let ⟨f,_,_,_,_,_,_,_,_,_,a,l,c,k⟩:=b
 ⟨f,_,WB l c k,PySem.W.mg_of X G a,k⟩
section
variable {P:Program}{w:World}{K:Frg}{mg:Str→Option Value}{base:Heap}{n:Str}{st:Stmt}{f:Addr}{fd:FuncData}{k:Nat}{ps:List Str}
abbrev j5 (n:Str) (st:Stmt) (ps:List Str):Prop:=∀(kV doc pm:Value) (an:Option Addr) (cdv ct:Value) (us:List Value),us.length=ps.length→bindArgs (PySem.W.fnOf n n (CM st) (BF st) (AA st) .none kV doc pm an cdv ct) ⟨us,[]⟩=pure (ps.zip us)
theorem FnAt.has {S:FSp}(a:FnAt K mg n st f fd) (h:FnOk P w K mg base CX0 k f fd ps (spD K ps.length S)) (b:j5 n st ps):Has P w K mg base n k ps S:=⟨f,fd,h,a.mg_,a.kp,a.fn.binds b⟩
theorem FnAt.hasX {S:FSpX}(a:FnAt K mg n st f fd) (h:FnOk P w K mg base (XC.CXE P w) k f fd ps (spX K ps.length S)) (b:j5 n st ps):HasX P w K mg base n k ps S:=⟨f,fd,h,a.mg_,a.kp,a.fn.binds b⟩
end
end DL
namespace DL
open PySem PySem.Spec L2 XC
set_option hygiene false
local macro_rules | `(tactic| walk_at "lc")=>`(tactic| first | exact Or.inl rfl | exact Or.inr rfl | exact Or.inr (Or.inl rfl) | exact Or.inr (Or.inr rfl))
local macro_rules | `(tactic| walk_at "or")=>`(tactic| first | exact .inl rfl | exact .inr rfl | assumption)
local macro_rules | `(tactic| walk_at "q")=>`(tactic| first | ((with_reducible show PSs _ [] _);exact @jC _) | ((with_reducible show PSs _ [_] _);exact @RJ _ _ _ (by walk_at "s")) | ((with_reducible show PSs _ (_::_) _);exact @T6 _ _ _ _ _ (by walk_at "s") (by walk_at "q")))
local macro_rules | `(tactic| walk_at "s")=>`(tactic| first | ((with_reducible show PS _ (.Assign [.Name ..] ..) _);first | ((fail_if_success (with_reducible show PS _ (.Assign _ (.ListComp ..) _) _));exact @oZ _ _ _ _ _ _ _ (by assumption) (Y0 (by rfl)) (by walk_at "lc") (by walk_at "e") (by rfl) (by walk_at "or"))) | ((with_reducible show PS _ (.If ..) _);first | walk_at "z" | exact @nD _ _ _ _ _ _ _ _ (by walk_at "t") (by walk_at "q") (by walk_at "q")) | ((with_reducible show PS _ (.Return (some _) _) _);exact @oS _ _ _ _ (by walk_at "e")) | ((with_reducible show PS _ (.For ..) _);first | walk_at "y" | exact @cJ _ _ _ _ _ _ _ _ PassesOwn.never rfl (by walk_at "n") (by walk_at "g") (by walk_at "q") (by intro _;rfl)) | ((with_reducible show PS _ (.Expr ..) _);exact @jD _ _ _ _ (by walk_at "e") (by rfl)) | ((with_reducible show PS _ (.Return none _) _);exact @ps_retN _ _) | ((with_reducible show PS _ (.Continue _) _);exact @ps_continue _ _) | ((with_reducible show PS _ (.Break _) _);exact @ps_break _ _) | ((with_reducible show PS _ (.Pass _) _);exact @ps_pass _ _) | walk_at "x")
local macro_rules | `(tactic| walk_at "e")=>`(tactic| first | ((with_reducible show PE _ (.Name ..) _);first | exact @pvx _ _ _ _ (by rfl) (by walk_at "lc") (by decide) (by decide) | exact @kN _ _ _ _ (by rfl) (by assumption) (by decide) | exact @kM _ _ _ _ (by rfl) (by assumption) (by decide) | exact @G5 _ _ (.ty "int") _ _ (by rfl) (by assumption) PyProof.Rows.boot_int rfl (by decide) (by decide) | exact @G5 _ _ (.ty "str") _ _ (by rfl) (by assumption) PyProof.Rows.boot_str rfl (by decide) (by decide) | exact @G5 _ _ (.ty "bool") _ _ (by rfl) (by assumption) PyProof.Rows.boot_bool rfl (by decide) (by decide) | exact @G5 _ _ (.ty "list") _ _ (by rfl) (by assumption) PyProof.Rows.boot_list rfl (by decide) (by decide) | exact @G5 _ _ (.ty "tuple") _ _ (by rfl) (by assumption) PyProof.Rows.boot_tuple rfl (by decide) (by decide) | exact @G5 _ _ (.ty "dict") _ _ (by rfl) (by assumption) PyProof.Rows.boot_dict rfl (by decide) (by decide) | exact @G5 _ _ (.ty "ValueError") _ _ (by rfl) (by assumption) PyProof.Rows.boot_ValueError rfl (by decide) (by decide)) | ((with_reducible show PE _ (.Constant ..) _);first | ((with_reducible show PE _ (.Constant (.int _) ..) _);exact @oI _ _ _ _) | ((with_reducible show PE _ (.Constant (.str _) ..) _);exact @oK _ _ _ _) | ((with_reducible show PE _ (.Constant (.bool _) ..) _);exact @sR _ _ _ _) | ((with_reducible show PE _ (.Constant .none ..) _);exact @oJ _ _ _)) | ((with_reducible show PE _ (.Call ..) _);first | ((with_reducible show PE _ (.Call (.Name (Str.ofString "len") _) ..) _);exact @C7 _ _ _ _ _ _ _ _ _ (@vC _ K rfl) (by rfl) (by assumption) PySem.boot_len (by walk_at "a") (by decide) (by decide) (by rfl) (by rfl)) | ((with_reducible show PE _ (.Call (.Name (Str.ofString "isinstance") _) ..) _);exact @C7 _ _ _ _ _ _ _ _ _ (@vF _ K rfl) (by rfl) (by assumption) PyProof.Rows.boot_isinstance (by walk_at "a") (by decide) (by decide) (by rfl) (by rfl)) | ((with_reducible show PE _ (.Call (.Name (Str.ofString "all") _) ..) _);exact @C7 _ _ _ _ _ _ _ _ _ (@vD _ K rfl rfl) (by rfl) (by assumption) PyProof.Rows.boot_all (by walk_at "a") (by decide) (by decide) (by rfl) (by rfl)) | ((with_reducible show PE _ (.Call (.Name (Str.ofString "any") _) ..) _);exact @C7 _ _ _ _ _ _ _ _ _ (@kAny _ K rfl rfl) (by rfl) (by assumption) PyProof.Rows.boot_any (by walk_at "a") (by decide) (by decide) (by rfl) (by rfl)) | ((with_reducible show PE _ (.Call (.Name (Str.ofString "sorted") _) ..) _);exact @C7 _ _ _ _ _ _ _ _ _ (@rM _ K rfl rfl) (by rfl) (by assumption) PyProof.Rows.boot_sorted (by walk_at "a") (by decide) (by decide) (by rfl) (by rfl)) | ((with_reducible show PE _ (.Call (.Name (Str.ofString "abs") _) ..) _);exact @C7 _ _ _ _ _ _ _ _ _ (@vE _ K rfl) (by rfl) (by assumption) PyProof.Rows.boot_abs (by walk_at "a") (by decide) (by decide) (by rfl) (by rfl)) | ((with_reducible show PE _ (.Call (.Name (Str.ofString "max") _) ..) _);exact @C7 _ _ _ _ _ _ _ _ _ (@kMax _ K rfl rfl) (by rfl) (by assumption) PyProof.Rows.boot_max (by walk_at "a") (by decide) (by decide) (by rfl) (by rfl)) | ((with_reducible show PE _ (.Call (.Name (Str.ofString "min") _) ..) _);exact @C7 _ _ _ _ _ _ _ _ _ (@kMin _ K rfl rfl) (by rfl) (by assumption) PyProof.Rows.boot_min (by walk_at "a") (by decide) (by decide) (by rfl) (by rfl)) | ((with_reducible show PE _ (.Call (.Name (Str.ofString "divmod") _) ..) _);exact @C7 _ _ _ _ _ _ _ _ _ (@l4 _ K rfl) (by rfl) (by assumption) PyProof.Rows.boot_divmod (by walk_at "a") (by decide) (by decide) (by rfl) (by rfl)) | ((with_reducible show PE _ (.Call (.Name (Str.ofString "sum") _) ..) _);exact @C7 _ _ _ _ _ _ _ _ _ (@kSum _ K rfl rfl) (by rfl) (by assumption) PyProof.Rows.boot_sum (by walk_at "a") (by decide) (by decide) (by rfl) (by rfl)) | ((with_reducible show PE _ (.Call (.Name (Str.ofString "tuple") _) ..) _);exact @FS _ _ _ _ _ _ _ _ _ (@r8 _ K rfl) (by rfl) (by assumption) PyProof.Rows.boot_tuple (by walk_at "a") (by decide) (by decide) (by rfl) (by rfl)) | ((with_reducible show PE _ (.Call (.Name (Str.ofString "int") _) ..) _);exact @FS _ _ _ _ _ _ _ _ _ (@kInt _ K rfl) (by rfl) (by assumption) PyProof.Rows.boot_int (by walk_at "a") (by decide) (by decide) (by rfl) (by rfl)) | ((with_reducible show PE _ (.Call (.Name ..) ..) _);exact @nT _ K P w mg base _ _ _ _ _ _ _ _ _ rfl rfl rfl rfl rfl (by with_reducible assumption) (hr.mono (by decide)) rfl (by walk_at "a") (by decide) (by rfl) (by rfl)) | walk_at "x") | ((with_reducible show PE _ (.BinOp ..) _);first | ((with_reducible show PE _ (.BinOp _ .Add ..) _);exact @J2 _ _ _ _ _ _ _ _ (@uC _ K rfl) (by walk_at "e") (by walk_at "e")) | ((with_reducible show PE _ (.BinOp _ .Sub ..) _);exact @J2 _ _ _ _ _ _ _ _ (@pA _) (by walk_at "e") (by walk_at "e")) | ((with_reducible show PE _ (.BinOp _ .Mod ..) _);exact @J2 _ _ _ _ _ _ _ _ (@pC _) (by walk_at "e") (by walk_at "e")) | ((with_reducible show PE _ (.BinOp _ .FloorDiv ..) _);exact @J2 _ _ _ _ _ _ _ _ (@dH _) (by walk_at "e") (by walk_at "e")) | ((with_reducible show PE _ (.BinOp _ .Pow ..) _);exact @J2 _ _ _ _ _ _ _ _ (@pD _) (by walk_at "e") (by walk_at "e"))) | ((with_reducible show PE _ (.Compare ..) _);first | ((with_reducible show PE _ (.Compare _ [.Eq] ..) _);exact @EG _ _ _ _ _ _ _ _ (@kEq _ K rfl hu) (by walk_at "e") (by walk_at "e") (@CL _ _ (by decide) (by decide))) | ((with_reducible show PE _ (.Compare _ [.NotEq] ..) _);exact @EG _ _ _ _ _ _ _ _ (@kNe _ K rfl hu) (by walk_at "e") (by walk_at "e") (@CL _ _ (by decide) (by decide))) | ((with_reducible show PE _ (.Compare _ [.Lt] ..) _);exact @EG _ _ _ _ _ _ _ _ (@dU _) (by walk_at "e") (by walk_at "e") (@CL _ _ (by decide) (by decide))) | ((with_reducible show PE _ (.Compare _ [.Is] ..) _);exact @EG _ _ _ _ _ _ _ _ (@fL _) (by walk_at "e") (by walk_at "e") (@CL _ _ (by decide) (by decide))) | ((with_reducible show PE _ (.Compare _ [.IsNot] ..) _);exact @EG _ _ _ _ _ _ _ _ (@YY _) (by walk_at "e") (by walk_at "e") (@CL _ _ (by decide) (by decide))) | ((with_reducible show PE _ (.Compare _ [.Gt] ..) _);exact @EG _ _ _ _ _ _ _ _ (@nF _) (by walk_at "e") (by walk_at "e") (@CL _ _ (by decide) (by decide))) | ((with_reducible show PE _ (.Compare _ [.GtE] ..) _);exact @EG _ _ _ _ _ _ _ _ (@nG _) (by walk_at "e") (by walk_at "e") (@CL _ _ (by decide) (by decide)))) | ((with_reducible show PE _ (.Subscript ..) _);first | ((with_reducible show PE _ (.Subscript _ (.Slice _ _ none _) _) _);exact @cU _ _ _ _ _ _ _ _ _ _ (@vG _ K rfl) (by walk_at "e") (by walk_at "o") (by walk_at "o")) | walk_at "y" | exact @tG _ _ _ _ _ _ _ (@kIx _ K rfl) (by walk_at "e") (by walk_at "e") (fun _ _=>rfl)) | ((with_reducible show PE _ (.Tuple ..) _);exact @pJ _ _ _ _ _ (by walk_at "a")) | ((with_reducible show PE _ (.List ..) _);exact @pK _ _ _ _ (by walk_at "a")) | ((with_reducible show PE _ (.IfExp ..) _);exact @cC _ _ _ _ _ _ _ _ (by walk_at "t") (by walk_at "e") (by walk_at "e")) | ((with_reducible show PE _ (.BoolOp ..) _);first | ((with_reducible show PE _ (.BoolOp _ [_] _) _);exact @oP _ _ _ _ _ (by walk_at "e")) | ((with_reducible show PE _ (.BoolOp .Or ..) _);exact @sW _ _ _ _ _ _ _ (by walk_at "e") (by walk_at "e")) | exact @oQ _ _ _ _ _ _ _ (by walk_at "e") (by walk_at "e")) | ((with_reducible show PE _ (.UnaryOp ..) _);first | ((with_reducible show PE _ (.UnaryOp .Not ..) _);exact @oR _ _ _ _ (by walk_at "e")) | exact @t8 _ _ _ _ _ _ (@pE _) (by walk_at "e")) | walk_at "x")
local macro_rules | `(tactic| walk_at "t")=>`(tactic| first | ((with_reducible show PT _ (.Compare ..) _);first | ((with_reducible show PT _ (.Compare _ [.Eq] ..) _);exact @EH _ _ _ _ _ _ _ _ (@kEq _ K rfl hu) (by walk_at "e") (by walk_at "e") (@CL _ _ (by decide) (by decide))) | ((with_reducible show PT _ (.Compare _ [.NotEq] ..) _);exact @EH _ _ _ _ _ _ _ _ (@kNe _ K rfl hu) (by walk_at "e") (by walk_at "e") (@CL _ _ (by decide) (by decide))) | ((with_reducible show PT _ (.Compare _ [.Lt] ..) _);exact @EH _ _ _ _ _ _ _ _ (@dU _) (by walk_at "e") (by walk_at "e") (@CL _ _ (by decide) (by decide))) | ((with_reducible show PT _ (.Compare _ [.Is] ..) _);exact @EH _ _ _ _ _ _ _ _ (@fL _) (by walk_at "e") (by walk_at "e") (@CL _ _ (by decide) (by decide))) | ((with_reducible show PT _ (.Compare _ [.IsNot] ..) _);exact @EH _ _ _ _ _ _ _ _ (@YY _) (by walk_at "e") (by walk_at "e") (@CL _ _ (by decide) (by decide))) | ((with_reducible show PT _ (.Compare _ [.Gt] ..) _);exact @EH _ _ _ _ _ _ _ _ (@nF _) (by walk_at "e") (by walk_at "e") (@CL _ _ (by decide) (by decide))) | ((with_reducible show PT _ (.Compare _ [.GtE] ..) _);exact @EH _ _ _ _ _ _ _ _ (@nG _) (by walk_at "e") (by walk_at "e") (@CL _ _ (by decide) (by decide))) | walk_at "x") | ((with_reducible show PT _ (.BoolOp ..) _);first | exact @L2.PW.pt _ _ _ (by walk_at "w")) | ((with_reducible show PT _ (.UnaryOp .Not ..) _);first | exact @oO _ _ _ _ (by walk_at "t")) | exact @oN _ _ _ (by walk_at "e") (by intro _;rfl))
local macro_rules | `(tactic| walk_at "w")=>`(tactic| first | ((with_reducible show PW _ (.BoolOp .Or ..) _);first | ((with_reducible show PW _ (.BoolOp _ [_] _) _);exact @pw_or1 _ _ _ _ (by walk_at "t")) | exact @pw_or _ _ _ _ _ _ _ (by walk_at "t") (by walk_at "w")) | ((with_reducible show PW _ (.BoolOp _ [_] _) _);exact @pw_and1 _ _ _ _ (by walk_at "t")) | exact @pw_and _ _ _ _ _ _ _ (by walk_at "t") (by walk_at "w"))
local macro_rules | `(tactic| walk_at "a")=>`(tactic| first | ((with_reducible show PA _ [] _);exact @cR _) | exact @YD _ _ _ _ _ (by walk_at "e") (by walk_at "a") (by rfl))
local macro_rules | `(tactic| walk_at "o")=>`(tactic| first | ((with_reducible show PO _ none _);exact @jJ _) | exact @jK _ _ _ (by walk_at "e"))
local macro_rules | `(tactic| walk_at "u")=>`(tactic| first | ((with_reducible show PTs _ [] _);exact @jT _) | exact @jU _ _ _ (by walk_at "t"))
local macro_rules | `(tactic| walk_at "n")=>`(tactic| first | ((with_reducible show PI _ _ (.Call ..) _);first | ((with_reducible show PI _ _ (.Call (.Name (Str.ofString "range") _) [_] ..) _);exact @ZV _ _ _ _ _ _ rfl (by assumption) (by walk_at "a") (by rfl)) | ((with_reducible show PI _ _ (.Call (.Name (Str.ofString "range") _) [_,_] ..) _);exact @pi_range2 _ _ _ _ _ _ _ rfl (by assumption) (by walk_at "a") (by rfl) (by rfl)) | walk_at "x") | walk_at "y" | exact @uB _ K _ _ _ rfl (by walk_at "e"))
local macro_rules | `(tactic| walk_at "g")=>`(tactic| first | ((with_reducible show PG _ (.Name ..) _);first | exact @MX _ _ _ _ (by assumption) (Y0 (by rfl)) (by walk_at "lc") (by walk_at "or")) | walk_at "x")
local macro_rules | `(tactic| walk_at "j")=>`(tactic| first | ((with_reducible show PGs _ [] _);exact @Y9 _) | exact @NA _ _ _ _ _ (by walk_at "g") (by walk_at "j") (by rfl))
local macro_rules | `(tactic| walk_at "b1")=>`(tactic| exact @RJ _ _ _ (by walk_at "s"))
local macro_rules | `(tactic| walk_at "b2")=>`(tactic| exact @T6 _ _ _ _ _ (by walk_at "s") (by walk_at "q"))
local macro_rules | `(tactic| walk_at "dl")=>`(tactic| first
 | (with_reducible first | refine dP ?_ | refine sE ?_ | refine dO ?_ | refine YR ?_ | refine dN ?_ | refine tZ ?_ | refine YQ ?_ | refine YO ?_ | refine NM ?_ | refine fZ ?_ | refine uQ ?_ | refine bJ ?_ | refine dx_raise0 ?_ | refine mH (HV ?_) | refine iH (HV ?_) | refine dx_ret (HV ?_) | refine FI (dO ?_) | refine FI (YR ?_) | refine FI (dN ?_) | refine FI (YQ ?_) | refine FI (YO ?_) | refine FI (NM ?_) | refine FI (fZ ?_))
 | ((with_reducible apply qC);exact rfl)
 | (with_reducible first | refine qD ?_ | refine tQ ?_ | refine qE ?_ | refine qF ?_ | refine de_fmt ?_ | refine df_val ?_ | refine d2_leI ?_ | refine de_cref ?_ | refine tR ?_ | refine tS ?_ | refine tT ?_ | refine dL ?_ | refine jZ ?_ | refine vA ?_ | refine qG ?_ | refine tU ?_ | refine qH ?_ | refine qI ?_ | refine qJ ?_ | refine tV ?_ | refine qK ?_ | refine tW ?_ | refine dM ?_ | refine k6 ?_ | refine tX ?_ | refine qL ?_ | refine tY ?_ | refine k8 ?_ | refine k9 ?_ | refine kH ?_ | refine NP ?_ | refine YU ?_)
 | ((with_reducible refine rA ?_ ?_);exact rfl)
 | ((with_reducible refine lA ?_ ?_);exact rfl)
 | (with_reducible first | refine u4 ?_ | refine u5 ?_ | refine vB ?_ | refine eU ?_ | refine kL ?_)
 | ((with_reducible refine u6 ?_ ?_);(first
     | ((with_reducible show CMul _ _);first | exact eV (by decide) (by decide) | exact RY (by decide) (by decide) | exact RY (by omega) (by omega))
     | ((with_reducible show nP _ _);first | exact⟨by decide,by decide⟩ | exact⟨by assumption,by assumption⟩)
     | ((with_reducible show tE _ _);exact⟨by decide,by decide,by decide⟩)
     | (show(0:Int) < _;first | decide | assumption | omega)))
 | ((with_reducible apply kK);(first | assumption | exact zU);exact rfl)
 | ((with_reducible apply vH);(first | assumption | exact zU);exact rfl)
 | ((with_reducible refine fF ?_ ?_);(first | exact CMul.ok (eV (by decide) (by decide)) | exact CMul.ok (RY (by decide) (by decide))))
 | (with_reducible first | refine d2_isB ?_ | refine d2_notB ?_ | refine rd_max ?_ | refine rd_min ?_ | refine rd_intb ?_ | refine fG ?_ | refine r6 ?_)
 | ((with_reducible refine eG (b:=true) ?_ ?_);exact rfl)
 | ((with_reducible refine eG (b:=false) ?_ ?_);exact rfl)
 | with_reducible refine k7 ?_
 | ((with_reducible apply vI);exact rfl;exact yD rfl)
 | (with_reducible refine Exists.intro _ (And.intro rfl ?_))
 | (with_reducible refine L2.jS ?_)
 | (with_reducible refine L2.jR ?_)
 | (refine L2.jS ?_)
 | (refine L2.jR ?_))
local macro_rules | `(tactic| walk_at "r")=>`(tactic| repeat walk_at "dl")
local macro_rules | `(tactic| walk_at "wkd")=>`(tactic| repeat (first | walk_at "dl" | refine NL ?_ | refine de_dnew ?_))
local macro_rules | `(tactic| walk_at "wks")=>`(tactic| repeat ((fail_if_success (with_reducible show DSt _ _ _ _ _));(first | walk_at "dl" | refine NL ?_ | refine de_dnew ?_)))
section
variable {P:Program}{w:World}{K:Frg}{mg:Str→Option Value}{base:Heap}
abbrev DJ:Stmt:=_root_.sT 47
def OW:List Str:=["_law_things", "_law_called_here", "_law_found", "_law_part"]
theorem IC:FnScope OW ["_law_things", "_law_called_here"] (AA DJ):=⟨rfl,rfl,rfl,by decide +kernel,rfl,by decide +kernel,by decide +kernel⟩
section
local macro_rules | `(tactic| walk_at "x")=>`(tactic| first | ((with_reducible show PE _ (.Call (.Attribute _ (Str.ofString "get") _) ..) _);exact @dC _ _ _ _ _ _ _ _ _ hu1 (by walk_at "e") (by walk_at "e") (by walk_at "e") (@L2.M2.mk _ _ _ _ _ _ _ rfl rfl rfl rfl)) | ((with_reducible show PE _ (.Call (.Attribute _ (Str.ofString "append") _) ..) _);exact @kBm _ K _ _ _ _ _ _ _ _ _ _ _ rfl PySem.F.plainAttrs_list PySem.F.slot_list_append PySem.F.type_list_append (@K8 _) (by walk_at "e") (by walk_at "a") (by rfl) (by rfl) (by rfl) (by rfl) (by rfl)))
theorem OX {f:Addr}{fd:FuncData}(F:Fun K "_law_called" "_law_called" DJ f fd) (n_isinstance:mg "isinstance"=none) (n_str:mg "str"=none) (n_tuple:mg "tuple"=none):FnOk P w K mg base CX0 1 f fd ["_law_things", "_law_called_here"] (spD K 2 D9):=by
 refine fnD F IC fun cdv A outer s H E hr=>?_
 have hu:=hr.units
 have hu1:=zQ (Nat.add_le_add_left (show 1≤64 by decide) _) hu
 have nd:=IC.nd
 refine⟨_,by walk_at "b2", ?_⟩
 clear nd
 rintro xs M hl ⟨ps,kvs,rfl,hps⟩
 walk_at "r"
 refine G7 ?_
 walk_at "r"
 intro p hp
 walk_at "wks"
 refine JN (fun ρ1 M1=>M1=M.put p (.l (ps.map (VG kvs)))∧∃x:Option DS,ρ1=[some (.d (.tuple ps)),some (.d (.dict kvs)),some (.loc p),x]) ?_ ?_
 · refine NN ?_
   refine GA ?_
   walk_at "r"
   refine⟨fun k ρ1 M1=>M1=M.put p (.l ((ps.take k).map (VG kvs)))∧∃x:Option DS,ρ1=[some (.d (.tuple ps)),some (.d (.dict kvs)),some (.loc p),x],⟨rfl,_,rfl⟩,?_,?_⟩
   · rintro k d ρ1 M1 hk ⟨rfl,x,rfl⟩
     walk_at "r"
     cases d
     case str z=>
       walk_at "r"
       refine fM ?_
       walk_at "r"
       walk_at "r"
       refine J8 ?_
       walk_at "dl"
       refine⟨K4 zU,?_⟩
       walk_at "r"
       refine FU zU (by rw[zX,List.length_take];exact zQ (show _≤60 by omega) (by decide)) ?_
       rw[yI]
       exact⟨by rw[List.take_add_one,hk,xJ];rfl,_,rfl⟩
     all_goals
       walk_at "r"
       refine J8 ?_
       walk_at "dl"
       refine⟨K4 zU,?_⟩
       walk_at "r"
       refine FU zU (by rw[zX,List.length_take];exact zQ (show _≤60 by omega) (by decide)) ?_
       rw[yI]
       exact⟨by rw[List.take_add_one,hk,xJ];rfl,_,rfl⟩
   · rintro ρ1 M1 ⟨rfl,x,rfl⟩
     rw[List.take_length]
     exact⟨rfl,x,rfl⟩
 · rintro ρ1 M1 ⟨rfl,x,rfl⟩
   refine aB (i:=2) (a:=p) rfl zU ?_
   rw[Own.del_put hp]
   walk_at "r"
   refine GC ?_
   refine⟨M,zT M,fun ps' kvs' e=>?_⟩
   cases e
   exact⟨rfl,rfl⟩
end
end
section
variable {P:Program}{w:World}{K:Frg}{mg:Str→Option Value}{base:Heap}
abbrev B1:Stmt:=_root_.sT 48
def E2:List Str:=["_law_world_here", "_law_called_here"]
def CS:List Str:=["_law_thing", "_law_called_here"]
def CT:List (Option Nat):=[none,some 1]
theorem GP:CS.Nodup:=by decide +kernel
theorem E3:FnScope E2 ["_law_world_here", "_law_called_here"] (AA B1):=⟨rfl,rfl,rfl,by decide +kernel,rfl,by decide +kernel,by decide +kernel⟩
section
local macro_rules | `(tactic| walk_at "x")=>`(tactic| first | ((with_reducible show PE _ (.ListComp ..) _);exact @CC _ _ _ _ _ _ _ _ _ _ _ _ _ rfl (@L2.CSc.of _ _ (CS) (CT) (AA B1) (E2) (by decide +kernel) rfl rfl) (by walk_at "n") (fun C s' H' ex' pn'=>⟨(by walk_at "g"),(by walk_at "u"),(by walk_at "e")⟩) (by intro _;rfl)))
theorem ID {f:Addr}{fd:FuncData}(F:Fun K "_law_world_called" "_law_world_called" B1 f fd) (n_sorted:mg "sorted"=none) (n_tuple:mg "tuple"=none) (h__law_called:Has P w K mg base "_law_called" 1 ["_law_things", "_law_called_here"] D9):FnOk P w K mg base CX0 2 f fd ["_law_world_here", "_law_called_here"] (spD K 2 DZ):=by
 refine fnD F E3 fun cdv A outer s H E hr=>?_
 have hu:=hr.units
 have nd:=E3.nd
 have n0:=GP
 refine⟨_,by walk_at "b1", ?_⟩
 clear nd n0
 rintro xs M hl ⟨w,kvs,f,S,rfl,hc,hf,hw,nd,hwl⟩
 walk_at "r"
 refine AQ (BV 0) (by simp[CT]) ?_
 refine GA ?_
 walk_at "r"
 refine⟨by rw[zX];exact zP hwl (by decide),fun _=>true,uV kvs,?_,?_⟩
 · intro d hd M'
   obtain⟨t,ht,rfl⟩:=zL.mp hd
   walk_at "dl"
   refine⟨rfl,?_⟩
   walk_at "dl"
   refine⟨rfl,rfl,fun _=>?_⟩
   walk_at "r"
   refine MF (ps:=[.str t.1,.int t.2.1,.int t.2.2]) (by simp) ?_
   exact⟨rfl,rfl⟩
 rw[X5,bW hc hw,← V4]
 have nd2:=KM hf hw nd
 walk_at "r"
 refine fW (by rw[zD];exact nd2) (by unfold rnT;rw[zX,zX];omega) fun ts' hp hlt=>?_
 obtain⟨u1,u2,u3⟩:=V5 hp
 rw[u2]
 walk_at "r"
 refine GC ?_
 refine⟨M,zT M,fun w' kvs' f' S' e hc' hw'=>?_⟩
 simp only[List.cons.injEq,DS.d.injEq,PyData.dict.injEq,and_true] at e
 obtain⟨e1,rfl⟩:=e
 have e1:=X4 e1
 subst e1
 refine⟨?_,rfl⟩
 show DS.d (wD (ts'.map unT))=_
 rw[mO hc' hc hw' hw]
 congr 2
 exact FX u1 (by rw[u3];exact RD hlt)
end
end
section
variable {P:Program}{w:World}{K:Frg}{mg:Str→Option Value}{base:Heap}
abbrev BI:Stmt:=_root_.sT 49
def J0:List Str:=["_law_deed", "_law_called_here"]
theorem EF:FnScope J0 ["_law_deed", "_law_called_here"] (AA BI):=⟨rfl,rfl,rfl,by decide +kernel,rfl,by decide +kernel,by decide +kernel⟩
theorem J1 {f:Addr}{fd:FuncData}(F:Fun K "_law_deed_called" "_law_deed_called" BI f fd) (h__law_called:Has P w K mg base "_law_called" 1 ["_law_things", "_law_called_here"] D9):FnOk P w K mg base CX0 2 f fd ["_law_deed", "_law_called_here"] (spD K 2 CI):=by
 refine fnD F EF fun cdv A outer s H E hr=>?_
 have hu:=hr.units
 have nd:=EF.nd
 refine⟨_,by walk_at "b1", ?_⟩
 clear nd
 rintro xs M hl ⟨D,kvs,f,S,rfl,hc,hD⟩
 walk_at "r"
 have n2:∀x∈D.names,(FC x kvs).getD (.str x) = .str (f x):=fun x hx=>by rw[hc x (hD x hx)];rfl
 have fin:∀y:DS,y = .d (rnD f D).d→∃M2:Own,M2.Sub M∧CI.post [.d D.d,.d (.dict kvs)] M y M2:=fun y e0=>⟨M,zT M,fun D' kvs' f' S' e hc' hD'=>by
   simp only[List.cons.injEq,DS.d.injEq,PyData.dict.injEq,and_true] at e
   obtain⟨e1,rfl⟩:=e
   obtain rfl:=KD e1
   rw[e0,iS hc hc' hD hD']
   exact⟨rfl,rfl⟩⟩
 cases D <;> (
   refine C9 (ds:=_) ?_
   rw[iT]
   walk_at "r"
   refine C9 (ds:=_) ?_
   rw[iU]
   walk_at "r"
   refine MF (by simp) ?_
   refine C8 (zN (show _≤60 by simp) (by decide)) ?_
   refine fin _ ?_
   simp[Deed.names] at n2
   simp[VG,rnD,Deed.d,n2])
end
section
variable {P:Program}{w:World}{K:Frg}{mg:Str→Option Value}{base:Heap}
abbrev DK:Stmt:=_root_.sT 50
def OY:List Str:=["_law_deed"]
theorem IE:FnScope OY ["_law_deed"] (AA DK):=⟨rfl,rfl,rfl,by decide +kernel,rfl,by decide +kernel,by decide +kernel⟩
section
local macro_rules | `(tactic| walk_at "x")=>`(tactic| first | ((with_reducible show PT _ (.Compare _ [.In] ..) _);exact @EH _ _ _ _ _ _ _ _ (@kIn _ K rfl) (by walk_at "e") (by walk_at "e") (by with_unfolding_all rfl)))
theorem OZ {f:Addr}{fd:FuncData}(F:Fun K "_law_signed" "_law_signed" DK f fd):FnOk P w K mg base CX0 1 f fd ["_law_deed"] (spD K 1 DC):=by
 refine fnD F IE fun cdv A outer s H E hr=>?_
 have hu:=hr.units
 have nd:=IE.nd
 refine⟨_,by walk_at "b2", ?_⟩
 clear nd
 rintro xs M hl ⟨D,rfl⟩
 have fin:∀y:DS,y = .d (sgD D).d→∃M2:Own,M2.Sub M∧DC.post [.d D.d] M y M2:=fun y e0=>⟨M,zT M,fun D' e=>by
   simp only[List.cons.injEq,DS.d.injEq,and_true] at e
   obtain rfl:=KD e
   exact⟨e0,rfl⟩⟩
 walk_at "r"
 cases D with
 | put x pl k=>
   refine AC (d:=.str (Str.ofString "put")) rfl ?_
   walk_at "wkd"
   refine G9 (ys:=["put", "count", "split"]) ?_
   rw[show decide (Str.ofString "put" ∈ [Str.ofString "put", "count", "split"])=true from by decide +kernel]
   walk_at "r"
   refine C9 (ds:=[.str (Str.ofString "put"),.str x,.int pl,.int k]) ?_
   rw[show BU [.str (Str.ofString "put"),.str x,.int pl,.int k] none (some (-1))=[.str (Str.ofString "put"),.str x,.int pl] from rfl]
   walk_at "r"
   refine AC (d:=.int k) rfl ?_
   walk_at "r"
   refine C8 (yD rfl) ?_
   exact fin _ (by rw[Int.zero_sub];rfl)
 | take x=>
   refine AC (d:=.str (Str.ofString "take")) rfl ?_
   walk_at "wkd"
   refine G9 (ys:=["put", "count", "split"]) ?_
   rw[show decide (Str.ofString "take" ∈ [Str.ofString "put", "count", "split"])=false from by decide +kernel]
   walk_at "r"
   exact fin _ rfl
 | move x pl=>
   refine AC (d:=.str (Str.ofString "move")) rfl ?_
   walk_at "wkd"
   refine G9 (ys:=["put", "count", "split"]) ?_
   rw[show decide (Str.ofString "move" ∈ [Str.ofString "put", "count", "split"])=false from by decide +kernel]
   walk_at "r"
   exact fin _ rfl
 | count x k=>
   refine AC (d:=.str (Str.ofString "count")) rfl ?_
   walk_at "wkd"
   refine G9 (ys:=["put", "count", "split"]) ?_
   rw[show decide (Str.ofString "count" ∈ [Str.ofString "put", "count", "split"])=true from by decide +kernel]
   walk_at "r"
   refine C9 (ds:=[.str (Str.ofString "count"),.str x,.int k]) ?_
   rw[show BU [.str (Str.ofString "count"),.str x,.int k] none (some (-1))=[.str (Str.ofString "count"),.str x] from rfl]
   walk_at "r"
   refine AC (d:=.int k) rfl ?_
   walk_at "r"
   refine C8 (yD rfl) ?_
   exact fin _ (by rw[Int.zero_sub];rfl)
 | name x y=>
   refine AC (d:=.str (Str.ofString "name")) rfl ?_
   walk_at "wkd"
   refine G9 (ys:=["put", "count", "split"]) ?_
   rw[show decide (Str.ofString "name" ∈ [Str.ofString "put", "count", "split"])=false from by decide +kernel]
   walk_at "r"
   exact fin _ rfl
 | split x y pl k=>
   refine AC (d:=.str (Str.ofString "split")) rfl ?_
   walk_at "wkd"
   refine G9 (ys:=["put", "count", "split"]) ?_
   rw[show decide (Str.ofString "split" ∈ [Str.ofString "put", "count", "split"])=true from by decide +kernel]
   walk_at "r"
   refine C9 (ds:=[.str (Str.ofString "split"),.str x,.str y,.int pl,.int k]) ?_
   rw[show BU [.str (Str.ofString "split"),.str x,.str y,.int pl,.int k] none (some (-1))=[.str (Str.ofString "split"),.str x,.str y,.int pl] from rfl]
   walk_at "r"
   refine AC (d:=.int k) rfl ?_
   walk_at "r"
   refine C8 (yD rfl) ?_
   exact fin _ (by rw[Int.zero_sub];rfl)
 | join x y=>
   refine AC (d:=.str (Str.ofString "join")) rfl ?_
   walk_at "wkd"
   refine G9 (ys:=["put", "count", "split"]) ?_
   rw[show decide (Str.ofString "join" ∈ [Str.ofString "put", "count", "split"])=false from by decide +kernel]
   walk_at "r"
   exact fin _ rfl
end
end
section
variable {P:Program}{w:World}{K:Frg}{mg:Str→Option Value}{base:Heap}
abbrev EX:Stmt:=_root_.sT 21
def MJ:List Str:=["world"]
def JA:List Str:=["name", "place", "count"]
def JB:List (Option Nat):=[none,none,none]
theorem PK:JA.Nodup:=by decide +kernel
theorem MK:FnScope MJ ["world"] (AA EX):=⟨rfl,rfl,rfl,by decide +kernel,rfl,by decide +kernel,by decide +kernel⟩
section
local macro_rules | `(tactic| walk_at "x")=>`(tactic| first | ((with_reducible show PE _ (.DictComp ..) _);exact @fS _ _ _ _ _ _ _ _ _ _ _ _ _ _ _ rfl hu1 (@L2.CSc.of _ _ (JA) (JB) (AA EX) (MJ) (by decide +kernel) rfl rfl) (by walk_at "n") (fun C s' H' ex' pn'=>⟨(by walk_at "g"),(by walk_at "u"),(by walk_at "e"),(by walk_at "e")⟩) (by intro _;rfl)) | ((with_reducible show PG _ (.Tuple ..) _);exact @rB _ K _ _ _ _ (3) rfl rfl (by walk_at "j") (by rfl) (by rfl)))
theorem VM {f:Addr}{fd:FuncData}(F:Fun K "by_names" "by_names" EX f fd):FnOk P w K mg base CX0 1 f fd ["world"] (spD K 1 D3):=by
 refine fnD F MK fun cdv A outer s H E hr=>?_
 have hu:=hr.units
 have hu1:=zQ (Nat.add_le_add_left (show 1≤64 by decide) _) hu
 have nd:=MK.nd
 have n0:=PK
 refine⟨_,by walk_at "b1", ?_⟩
 clear nd n0
 rintro xs M hl ⟨w,rfl,nd,hlen⟩
 have hz:w.length < sizeLine:=zP hlen (by decide)
 walk_at "r"
 refine fY (WG (GD (GD (GD WF)))) (by simp[JB]) ?_
 refine GA ?_
 walk_at "r"
 have ek:(w.map thD).map nm0=w.map (·.1):=kX w
 refine⟨by rw[zX];exact hz,fun _=>true,nm0,vL,by rw[X5,ek];exact nd,?_,?_⟩
 · intro d hd M'
   obtain⟨t,ht,rfl⟩:=zL.mp hd
   rw[show thD t = .tuple [.str t.1,.int t.2.1,.int t.2.2] from rfl]
   walk_at "r"
   refine⟨rfl,?_⟩
   walk_at "dl"
   refine⟨rfl,rfl,fun _=>?_⟩
   walk_at "r"
   refine⟨rfl,rfl,?_⟩
   walk_at "r"
   exact⟨rfl,rfl⟩
 · intro p hp
   rw[X5,zD]
   refine⟨_,zT _,fun w' e=>⟨p,hp,rfl,?_⟩⟩
   have e:=X4 (show wD w=wD w' by simpa using e)
   subst e
   rfl
end
abbrev BD:Stmt:=_root_.sT 22
def EY:List Str:=["things"]
def E4:List Str:=["name", "things"]
def E5:List (Option Nat):=[none,some 0]
theorem IF:E4.Nodup:=by decide +kernel
theorem EZ:FnScope EY ["things"] (AA BD):=⟨rfl,rfl,rfl,by decide +kernel,rfl,by decide +kernel,by decide +kernel⟩
section
local macro_rules | `(tactic| walk_at "x")=>`(tactic| first | ((with_reducible show PE _ (.ListComp ..) _);exact @CC _ _ _ _ _ _ _ _ _ _ _ _ _ rfl (@L2.CSc.of _ _ (E4) (E5) (AA BD) (EY) (by decide +kernel) rfl rfl) (by walk_at "n") (fun C s' H' ex' pn'=>⟨(by walk_at "g"),(by walk_at "u"),(by walk_at "e")⟩) (by intro _;rfl)))
local macro_rules | `(tactic| walk_at "y")=>`(tactic| first | ((with_reducible show PE _ (.Subscript ..) _);exact @IM _ _ _ _ _ _ hu1 (@pv _ 1 _ _ (by rfl) (by walk_at "lc") (by decide) (by decide)) (@pv _ 0 _ _ (by rfl) (by walk_at "lc") (by decide) (by decide)) (fun _ _=>rfl)))
theorem JW {f:Addr}{fd:FuncData}(F:Fun K "rising_by_names" "rising_by_names" BD f fd) (n_sorted:mg "sorted"=none) (n_tuple:mg "tuple"=none):FnOk P w K mg base CX0 1 f fd ["things"] (spD K 1 BC):=by
 refine fnD F EZ fun cdv A outer s H E hr=>?_
 have hu:=hr.units
 have hu1:=zQ (Nat.add_le_add_left (show 1≤64 by decide) _) hu
 have nd:=EZ.nd
 have n0:=IF
 refine⟨_,by walk_at "b1", ?_⟩
 clear nd n0
 rintro xs M hl ⟨p,ts,rfl,m,nd,h64⟩
 walk_at "r"
 refine S0 (BV 0) (by simp[E5]) ?_
 refine K6 ?_
 walk_at "r"
 refine fV m (by unfold tsD;rw[zX];exact h64) fun ss hp hs=>?_
 rw[show(tsD ts).map (·.1)=ts.map (·.1) by unfold tsD;rw[zD];rfl] at hp
 have hlen:ss.length=ts.length:=by have:=hp.length_eq;simpa using this
 refine⟨_,rfl,by rw[zX,hlen];exact zP h64 (by decide),fun _=>true,Z4 ts,?_,?_⟩
 · rintro d hd A acc M' hA rfl
   obtain⟨s,hs',rfl⟩:=zL.mp hd
   obtain⟨t,ht,et⟩:=zL.mp (hp.mem_iff.mp hs')
   have hlook:AB ts s=some t.2:=by rw[← et];exact CO nd ht
   have hpA:p≠A:=fun e=>by rw[e] at m;rw[hA] at m;cases m
   walk_at "r"
   refine⟨rfl,?_⟩
   walk_at "dl"
   refine⟨rfl,rfl,fun _=>?_⟩
   walk_at "r"
   refine EU ?_
   walk_at "r"
   refine⟨p,tsD ts,s,pcD t.2.1 t.2.2,rfl,rfl,by rw[yH hpA];exact m,by rw[BK,hlook];rfl,?_⟩
   refine C8 (yD rfl) ?_
   refine⟨?_,rfl⟩
   simp only[Z4,hlook]
   rfl
 · rw[X5,aV nd hp hs]
   walk_at "r"
   refine GC ?_
   refine⟨M,zT M,fun p' ts' e m' nd'=>?_⟩
   cases e
   have e:=N7 (Option.some.inj (m.symm.trans m'))
   subst e
   exact⟨rfl,rfl⟩
end
abbrev FK:Stmt:=_root_.sT 28
def SO:List Str:=["things", "name", "more", "place", "count"]
theorem KQ:FnScope SO ["things", "name", "more"] (AA FK):=⟨rfl,rfl,rfl,by decide +kernel,rfl,by decide +kernel,by decide +kernel⟩
section
local macro_rules | `(tactic| walk_at "x")=>`(tactic| first | ((with_reducible show PS _ (.Assign [.Tuple ..] ..) _);exact @RK _ _ _ _ _ _ (by walk_at "e") (by walk_at "g") (by rfl) (by rfl) (by rfl)) | ((with_reducible show PG _ (.Tuple ..) _);exact @nX _ K _ _ _ _ (2) rfl rfl (by walk_at "j") (by rfl) (by rfl)) | ((with_reducible show PS _ (.Assign [.Subscript ..] ..) _);exact @YJ _ _ _ _ _ _ _ _ _ hu1 (by walk_at "e") (by walk_at "e") (by walk_at "e") (by rfl)))
local macro_rules | `(tactic| walk_at "y")=>`(tactic| first | ((with_reducible show PE _ (.Subscript ..) _);exact @IM _ _ _ _ _ _ hu1 (@pv _ 0 _ _ (by rfl) (by walk_at "lc") (by decide) (by decide)) (@pv _ 1 _ _ (by rfl) (by walk_at "lc") (by decide) (by decide)) (fun _ _=>rfl)))
theorem SQ {f:Addr}{fd:FuncData}(F:Fun K "add_count" "add_count" FK f fd):FnOk P w K mg base CX0 1 f fd ["things", "name", "more"] (spD K 3 DW):=by
 refine fnD F KQ fun cdv A outer s H E hr=>?_
 have hu:=hr.units
 have hu1:=zQ (Nat.add_le_add_left (show 1≤64 by decide) _) hu
 have nd:=KQ.nd
 refine⟨_,by walk_at "b2", ?_⟩
 clear nd
 rintro xs M hl ⟨p,ts,x,k,v,rfl,m,hlk,h64⟩
 walk_at "dl"
 refine S3 ?_
 refine EU ?_
 walk_at "r"
 refine⟨p,tsD ts,x,pcD v.1 v.2,rfl,rfl,m,by rw[BK,hlk];rfl,?_⟩
 rw[show pcD v.1 v.2 = .tuple [.int v.1,.int v.2] from rfl]
 walk_at "r"
 refine K9 ?_
 walk_at "r"
 refine⟨p,tsD ts,x,pcD v.1 (v.2+k),rfl,rfl,rfl,m,by unfold tsD;rw[zX];exact zP h64 (by decide),?_⟩
 refine⟨_,zT _,fun p' ts' x' k' e m'=>?_⟩
 cases e
 have e:=N7 (Option.some.inj (m.symm.trans m'))
 subst e
 refine⟨rfl,?_⟩
 rw[KC]
 unfold BG
 rw[hlk]
end
end
section
variable {P:Program}{w:World}{K:Frg}{mg:Str→Option Value}{base:Heap}
abbrev BM:Stmt:=RC 0 (_root_.sT 19)
theorem VN {f C S:Addr}{fd:FuncData}(F:Fun K "__init__" "NotNow.__init__" BM f fd) (c:XCls K C S (.ref f)) (cs:XSet K C "name"):FnOk P w K mg base CX0 1 f fd ["self", "name"] (LN C "name"):=
 ZE F ⟨rfl,rfl,rfl,by decide +kernel,rfl,by decide +kernel,by decide +kernel⟩ rfl c cs (by decide) (fun _=>rfl) (fun X hN hS=>pv 0 (by rw[hN];rfl) (by rw[hS];exact Or.inl rfl)) (fun X hN hS=>pv 1 (by rw[hN];rfl) (by rw[hS];exact Or.inl rfl))
abbrev B0:Stmt:=_root_.sT 26
def CG:List Str:=["things", "deed", "made", "name"]
theorem F0:FnScope CG ["things", "deed"] (AA B0):=⟨rfl,rfl,rfl,by decide +kernel,rfl,by decide +kernel,by decide +kernel⟩
section
local macro_rules | `(tactic| walk_at "x")=>`(tactic| first | ((with_reducible show PE _ (.Compare _ [.In] ..) _);exact @oM _ _ _ _ _ _ (@pV _ _ _ _ _ hu1 (by walk_at "e") (by walk_at "e")) (by with_unfolding_all rfl)) | ((with_reducible show PS _ (.Raise (some (.Call (.Name (Str.ofString "NotNow") _) ..)) ..) _);exact @ZD _ _ _ _ _ (F5 (CXE P w) P w K mg base CG "refuse_undoable" (AA B0) f cdv A outer s H E) (fun _=>E) _ _ _ _ _ _ _ _ _ rfl rfl rfl rfl rfl r_NotNow (hr.mono (by decide)) rfl (by walk_at "a") (by decide) (by rfl)) | ((with_reducible show PS _ (.Raise ..) _);exact @cE _ _))
local macro_rules | `(tactic| walk_at "y")=>`(tactic| first | ((with_reducible show PS _ (.For ..) _);exact @cJ _ _ _ _ _ _ _ _ (@XG ((F5 (CXE P w) P w K mg base CG "refuse_undoable" (AA B0) f cdv A outer s H E)) ((fun _=>E)) rfl rfl) rfl (by walk_at "n") (by walk_at "g") (by walk_at "q") (by intro _;rfl)))
theorem JX {f:Addr}{fd:FuncData}{c_S c_NotNow:Addr}(F:Fun K "refuse_undoable" "refuse_undoable" B0 f fd) (r_NotNow:HasR P w K mg base "NotNow" "name" c_NotNow c_S) (h_is_deed:Has P w K mg base "is_deed" 5 ["thing"] FW) (h_made_by:Has P w K mg base "made_by" 1 ["deed"] LH) (h_names_in:Has P w K mg base "names_in" 2 ["deed"] GI):FnOk P w K mg base (CXE P w) 6 f fd ["things", "deed"] (spX K 2 (D8 c_NotNow)):=by
 refine mJ F F0 fun cdv A outer s H E hr=>?_
 have hu:=hr.units
 have hu1:=zQ (Nat.add_le_add_left (show 1≤64 by decide) _) hu
 have nd:=F0.nd
 refine⟨_,by walk_at "b2", ?_⟩
 clear nd
 rintro xs M hl ⟨p,ts,D,rfl,m,hr⟩
 have iD:X0 D.d:=UN hr
 walk_at "r"
 refine AZ (lP hr.1) ?_
 rw[Z5 hr]
 walk_at "r"
 refine AZ iD ?_
 walk_at "r"
 refine sF ?_
 refine GA ?_
 walk_at "r"
 refine AZ (gB D) ?_
 rw[gC]
 walk_at "r"
 refine⟨fun k ρ' M'=>M'=M∧(∀x∈D.names.take k,amB (ts.map (·.1)) D x=false)∧∃x:Option DS,ρ'=[some (.loc p),some (.d D.d),some (.d (UK D.d)),x],⟨rfl,by simp,_,rfl⟩,?_,?_⟩
 · rintro k d ρ' M' hd ⟨rfl,hk,x,rfl⟩
   rw[zF] at hd
   cases hsk:D.names[k]? with
   | none=>rw[hsk] at hd;cases hd
   | some n=>
     rw[hsk] at hd
     cases hd
     have hn:n∈D.names:=yN hsk
     have hz:B8 n:=hr.1 n hn
     walk_at "r"
     refine lB ?_
     walk_at "r"
     refine⟨p,tsD ts,n,rfl,rfl,m,?_⟩
     walk_at "r"
     refine AE (BP hz) (lI hr.1) ?_
     rw[if_neg nft,lQ]
     refine AE rfl rfl ?_
     rw[if_neg nft,aW,BK,Option.isSome_map,GK]
     have eb:(decide (n∈ts.map (·.1))==decide (D.made=some n))=amB (ts.map (·.1)) D n:=rfl
     rw[eb]
     cases hb:amB (ts.map (·.1)) D n with
     | true=>
       walk_at "r"
       refine⟨_,zT _,fun p' ts' D' e m'=>?_⟩
       obtain⟨rfl,rfl,rfl⟩:=OS e m m'
       exact⟨n,V7 hk hsk hb,rfl,rfl,rfl⟩
     | false=>
       walk_at "r"
       refine⟨rfl,fun y hy=>?_,_,rfl⟩
       rw[List.take_add_one,hsk] at hy
       rcases yW.mp hy with h | h
       · exact hk y h
       · have:y=n:=by simpa using h
         rw[this];exact hb
 · rintro ρ' M' ⟨rfl,hk,x,rfl⟩
   rw[zX,List.take_length] at hk
   refine⟨_,zT _,fun p' ts' D' e m'=>?_⟩
   obtain⟨rfl,rfl,rfl⟩:=OS e m m'
   exact⟨iI hk,rfl,rfl⟩
end
end
section
variable {P:Program}{w:World}{K:Frg}{mg:Str→Option Value}{base:Heap}
abbrev KR:Stmt:=_root_.sT 27
def c7:List Str:=["things", "deed", "word", "name"]
theorem LS:FnScope c7 ["things", "deed"] (AA KR):=⟨rfl,rfl,rfl,by decide +kernel,rfl,by decide +kernel,by decide +kernel⟩
section
local macro_rules | `(tactic| walk_at "x")=>`(tactic| first | ((with_reducible show PS _ (.Assign [.Tuple ..] (.Tuple ..) _) _);exact @cG _ _ (2) (3) _ _ _ _ _ _ _ _ _ _ _ rfl LS.nd rfl rfl (by decide) rfl rfl (by walk_at "a") rfl (by rfl)) | ((with_reducible show PS _ (.Assign [.Subscript ..] ..) _);exact @YJ _ _ _ _ _ _ _ _ _ hu1 (by walk_at "e") (by walk_at "e") (by walk_at "e") (by rfl)) | ((with_reducible show PS _ (.Delete ..) _);exact @jQ _ _ _ _ _ _ _ (by walk_at "e") (by walk_at "e")) | ((with_reducible show PE _ (.Call (.Attribute _ (Str.ofString "pop") _) ..) _);exact @dD _ _ _ _ _ _ _ (by walk_at "e") (by walk_at "e") (@L2.M1.mk _ _ _ _ _ _ rfl rfl rfl rfl)))
local macro_rules | `(tactic| walk_at "y")=>`(tactic| first | ((with_reducible show PE _ (.Subscript ..) _);exact @IM _ _ _ _ _ _ hu1 (@pv _ 0 _ _ (by rfl) (by walk_at "lc") (by decide) (by decide)) (@pv _ 3 _ _ (by rfl) (by walk_at "lc") (by decide) (by decide)) (fun _ _=>rfl)) | ((with_reducible show PE _ (.Subscript ..) _);exact @IM _ _ _ _ _ _ hu1 (@pv _ 0 _ _ (by rfl) (by walk_at "lc") (by decide) (by decide)) (by walk_at "e") (fun _ _=>rfl)))
theorem c8 {f:Addr}{fd:FuncData}(F:Fun K "change" "change" KR f fd) (h_add_count:Has P w K mg base "add_count" 1 ["things", "name", "more"] DW):FnOk P w K mg base CX0 2 f fd ["things", "deed"] (spD K 2 HR):=by
 refine fnD F LS fun cdv A outer s H E hr=>?_
 have hu:=hr.units
 have hu1:=zQ (Nat.add_le_add_left (show 1≤64 by decide) _) hu
 have nd:=LS.nd
 refine⟨_,by walk_at "b2", ?_⟩
 clear nd
 rintro xs M hl ⟨p,ts,D,rfl,m,⟨nd,hlen⟩,hr,ha⟩
 have h64:ts.length < 64:=Nat.lt_succ_of_lt hlen
 have hst:=FD ha
 cases D with
 | put x pl k=>
   have hx:x∉ts.map (·.1):=fun q=>(hst x (by simp[Deed.names])).mp q rfl
   rw[show Deed.d (Deed.put x pl k) = .tuple [.str (Str.ofString "put"),.str x,.int pl,.int k] from rfl]
   walk_at "r"
   refine AC (d:=.str (Str.ofString "put")) (AD (j:=0) rfl) ?_
   walk_at "r"
   refine AC (d:=.str x) (AD (j:=1) rfl) ?_
   walk_at "r"
   refine⟨_,_,rfl,?_⟩
   walk_at "r"
   refine AE (by decide +kernel) (by decide +kernel) ?_
   rw[if_neg nft,show PyData.eqv (.str (Str.ofString "put")) (.str (Str.ofString "put"))=true from by decide +kernel]
   walk_at "r"
   refine K9 ?_
   walk_at "r"
   refine AC (d:=.int pl) (AD (j:=2) rfl) ?_
   walk_at "r"
   refine AC (d:=.int k) (AD (j:=3) rfl) ?_
   walk_at "r"
   refine⟨p,tsD ts,x,pcD pl k,rfl,rfl,rfl,m,N8 h64,?_⟩
   refine⟨_,zT _,fun p' ts' D' e m'=>?_⟩
   obtain⟨rfl,rfl,rfl⟩:=GL (D:=Deed.put x pl k) m e m'
   refine⟨rfl,?_⟩
   rw[KC];rfl
 | take x=>
   obtain⟨v,hv⟩:=B9 ((hst x (by simp[Deed.names])).mpr (by simp[Deed.made]))
   rw[show Deed.d (Deed.take x) = .tuple [.str (Str.ofString "take"),.str x] from rfl]
   walk_at "r"
   refine AC (d:=.str (Str.ofString "take")) (AD (j:=0) rfl) ?_
   walk_at "r"
   refine AC (d:=.str x) (AD (j:=1) rfl) ?_
   walk_at "r"
   refine⟨_,_,rfl,?_⟩
   walk_at "r"
   refine AE (by decide +kernel) (by decide +kernel) ?_
   rw[if_neg nft,show PyData.eqv (.str (Str.ofString "take")) (.str (Str.ofString "put"))=false from by decide +kernel]
   walk_at "r"
   refine AE (by decide +kernel) (by decide +kernel) ?_
   rw[if_neg nft,show PyData.eqv (.str (Str.ofString "take")) (.str (Str.ofString "take"))=true from by decide +kernel]
   walk_at "r"
   refine Z2 ?_
   walk_at "r"
   refine⟨p,tsD ts,x,rfl,rfl,m,by rw[BK,hv];rfl,?_⟩
   refine⟨_,zT _,fun p' ts' D' e m'=>?_⟩
   obtain⟨rfl,rfl,rfl⟩:=GL (D:=Deed.take x) m e m'
   refine⟨rfl,?_⟩
   rw[O8];rfl
 | move x pl=>
   obtain⟨v,hv⟩:=B9 ((hst x (by simp[Deed.names])).mpr (by simp[Deed.made]))
   rw[show Deed.d (Deed.move x pl) = .tuple [.str (Str.ofString "move"),.str x,.int pl] from rfl]
   walk_at "r"
   refine AC (d:=.str (Str.ofString "move")) (AD (j:=0) rfl) ?_
   walk_at "r"
   refine AC (d:=.str x) (AD (j:=1) rfl) ?_
   walk_at "r"
   refine⟨_,_,rfl,?_⟩
   walk_at "r"
   refine AE (by decide +kernel) (by decide +kernel) ?_
   rw[if_neg nft,show PyData.eqv (.str (Str.ofString "move")) (.str (Str.ofString "put"))=false from by decide +kernel]
   walk_at "r"
   refine AE (by decide +kernel) (by decide +kernel) ?_
   rw[if_neg nft,show PyData.eqv (.str (Str.ofString "move")) (.str (Str.ofString "take"))=false from by decide +kernel]
   walk_at "r"
   refine AE (by decide +kernel) (by decide +kernel) ?_
   rw[if_neg nft,show PyData.eqv (.str (Str.ofString "move")) (.str (Str.ofString "move"))=true from by decide +kernel]
   walk_at "r"
   refine K9 ?_
   walk_at "r"
   refine AC (d:=.int pl) (AD (j:=2) rfl) ?_
   walk_at "r"
   refine EU ?_
   walk_at "r"
   refine⟨p,tsD ts,x,pcD v.1 v.2,rfl,rfl,m,by rw[BK,hv];rfl,?_⟩
   walk_at "r"
   refine AC (ds:=[.int v.1,.int v.2]) (d:=.int v.2) (AD (j:=1) rfl) ?_
   walk_at "r"
   refine⟨p,tsD ts,x,pcD pl v.2,rfl,rfl,rfl,m,N8 h64,?_⟩
   refine⟨_,zT _,fun p' ts' D' e m'=>?_⟩
   obtain⟨rfl,rfl,rfl⟩:=GL (D:=Deed.move x pl) m e m'
   refine⟨rfl,?_⟩
   rw[KC];simp only[doT,hv]
 | count x k=>
   obtain⟨v,hv⟩:=B9 ((hst x (by simp[Deed.names])).mpr (by simp[Deed.made]))
   rw[show Deed.d (Deed.count x k) = .tuple [.str (Str.ofString "count"),.str x,.int k] from rfl]
   walk_at "r"
   refine AC (d:=.str (Str.ofString "count")) (AD (j:=0) rfl) ?_
   walk_at "r"
   refine AC (d:=.str x) (AD (j:=1) rfl) ?_
   walk_at "r"
   refine⟨_,_,rfl,?_⟩
   walk_at "r"
   refine AE (by decide +kernel) (by decide +kernel) ?_
   rw[if_neg nft,show PyData.eqv (.str (Str.ofString "count")) (.str (Str.ofString "put"))=false from by decide +kernel]
   walk_at "r"
   refine AE (by decide +kernel) (by decide +kernel) ?_
   rw[if_neg nft,show PyData.eqv (.str (Str.ofString "count")) (.str (Str.ofString "take"))=false from by decide +kernel]
   walk_at "r"
   refine AE (by decide +kernel) (by decide +kernel) ?_
   rw[if_neg nft,show PyData.eqv (.str (Str.ofString "count")) (.str (Str.ofString "move"))=false from by decide +kernel]
   walk_at "r"
   refine AE (by decide +kernel) (by decide +kernel) ?_
   rw[if_neg nft,show PyData.eqv (.str (Str.ofString "count")) (.str (Str.ofString "count"))=true from by decide +kernel]
   walk_at "r"
   refine AC (d:=.int k) (AD (j:=2) rfl) ?_
   walk_at "r"
   refine O9 m hv h64 ?_
   walk_at "r"
   refine⟨_,zT _,fun p' ts' D' e m'=>?_⟩
   obtain⟨rfl,rfl,rfl⟩:=GL (D:=Deed.count x k) m e m'
   refine⟨rfl,?_⟩
   rfl
 | name x y=>
   obtain⟨v,hv⟩:=B9 ((hst x (by simp[Deed.names])).mpr (by simp[Deed.made,hr.2.1.symm]))
   rw[show Deed.d (Deed.name x y) = .tuple [.str (Str.ofString "name"),.str x,.str y] from rfl]
   walk_at "r"
   refine AC (d:=.str (Str.ofString "name")) (AD (j:=0) rfl) ?_
   walk_at "r"
   refine AC (d:=.str x) (AD (j:=1) rfl) ?_
   walk_at "r"
   refine⟨_,_,rfl,?_⟩
   walk_at "r"
   refine AE (by decide +kernel) (by decide +kernel) ?_
   rw[if_neg nft,show PyData.eqv (.str (Str.ofString "name")) (.str (Str.ofString "put"))=false from by decide +kernel]
   walk_at "r"
   refine AE (by decide +kernel) (by decide +kernel) ?_
   rw[if_neg nft,show PyData.eqv (.str (Str.ofString "name")) (.str (Str.ofString "take"))=false from by decide +kernel]
   walk_at "r"
   refine AE (by decide +kernel) (by decide +kernel) ?_
   rw[if_neg nft,show PyData.eqv (.str (Str.ofString "name")) (.str (Str.ofString "move"))=false from by decide +kernel]
   walk_at "r"
   refine AE (by decide +kernel) (by decide +kernel) ?_
   rw[if_neg nft,show PyData.eqv (.str (Str.ofString "name")) (.str (Str.ofString "count"))=false from by decide +kernel]
   walk_at "r"
   refine AE (by decide +kernel) (by decide +kernel) ?_
   rw[if_neg nft,show PyData.eqv (.str (Str.ofString "name")) (.str (Str.ofString "name"))=true from by decide +kernel]
   walk_at "r"
   refine K9 ?_
   refine lC ?_
   walk_at "r"
   refine⟨p,tsD ts,rfl,m,?_⟩
   walk_at "r"
   refine⟨tsD ts,x,pcD v.1 v.2,rfl,m,by rw[BK,hv];rfl,?_⟩
   rw[O8]
   walk_at "r"
   refine AC (d:=.str y) (AD (j:=2) rfl) ?_
   refine⟨p,tsD (AS ts x),y,pcD v.1 v.2,rfl,rfl,rfl,zU,N8 (zQ (yJ _ _) h64),?_⟩
   rw[yI]
   refine⟨_,zT _,fun p' ts' D' e m'=>?_⟩
   obtain⟨rfl,rfl,rfl⟩:=GL (D:=Deed.name x y) m e m'
   refine⟨rfl,?_⟩
   rw[KC];simp only[doT,hv]
 | split x y pl k=>
   obtain⟨v,hv⟩:=B9 ((hst x (by simp[Deed.names])).mpr (by simp[Deed.made,hr.2.1.symm]))
   rw[show Deed.d (Deed.split x y pl k) = .tuple [.str (Str.ofString "split"),.str x,.str y,.int pl,.int k] from rfl]
   walk_at "r"
   refine AC (d:=.str (Str.ofString "split")) (AD (j:=0) rfl) ?_
   walk_at "r"
   refine AC (d:=.str x) (AD (j:=1) rfl) ?_
   walk_at "r"
   refine⟨_,_,rfl,?_⟩
   walk_at "r"
   refine AE (by decide +kernel) (by decide +kernel) ?_
   rw[if_neg nft,show PyData.eqv (.str (Str.ofString "split")) (.str (Str.ofString "put"))=false from by decide +kernel]
   walk_at "r"
   refine AE (by decide +kernel) (by decide +kernel) ?_
   rw[if_neg nft,show PyData.eqv (.str (Str.ofString "split")) (.str (Str.ofString "take"))=false from by decide +kernel]
   walk_at "r"
   refine AE (by decide +kernel) (by decide +kernel) ?_
   rw[if_neg nft,show PyData.eqv (.str (Str.ofString "split")) (.str (Str.ofString "move"))=false from by decide +kernel]
   walk_at "r"
   refine AE (by decide +kernel) (by decide +kernel) ?_
   rw[if_neg nft,show PyData.eqv (.str (Str.ofString "split")) (.str (Str.ofString "count"))=false from by decide +kernel]
   walk_at "r"
   refine AE (by decide +kernel) (by decide +kernel) ?_
   rw[if_neg nft,show PyData.eqv (.str (Str.ofString "split")) (.str (Str.ofString "name"))=false from by decide +kernel]
   walk_at "r"
   refine AE (by decide +kernel) (by decide +kernel) ?_
   rw[if_neg nft,show PyData.eqv (.str (Str.ofString "split")) (.str (Str.ofString "split"))=true from by decide +kernel]
   walk_at "r"
   refine AC (d:=.int k) (AD (j:=4) rfl) ?_
   walk_at "r"
   refine O9 m hv h64 ?_
   walk_at "r"
   refine K9 ?_
   walk_at "r"
   refine AC (d:=.int pl) (AD (j:=3) rfl) ?_
   walk_at "r"
   refine AC (d:=.int k) (AD (j:=4) rfl) ?_
   walk_at "r"
   refine AC (d:=.str y) (AD (j:=2) rfl) ?_
   refine⟨p,tsD (BG ts x (-k)),y,pcD pl k,rfl,rfl,rfl,zU,N8 (by rw[gL];exact h64),?_⟩
   rw[yI]
   refine⟨_,zT _,fun p' ts' D' e m'=>?_⟩
   obtain⟨rfl,rfl,rfl⟩:=GL (D:=Deed.split x y pl k) m e m'
   refine⟨rfl,?_⟩
   rw[KC];rfl
 | join x y=>
   obtain⟨v,hv⟩:=B9 ((hst x (by simp[Deed.names])).mpr (by simp[Deed.made]))
   obtain⟨u,hu'⟩:=B9 ((hst y (by simp[Deed.names])).mpr (by simp[Deed.made]))
   rw[show Deed.d (Deed.join x y) = .tuple [.str (Str.ofString "join"),.str x,.str y] from rfl]
   walk_at "r"
   refine AC (d:=.str (Str.ofString "join")) (AD (j:=0) rfl) ?_
   walk_at "r"
   refine AC (d:=.str x) (AD (j:=1) rfl) ?_
   walk_at "r"
   refine⟨_,_,rfl,?_⟩
   walk_at "r"
   refine AE (by decide +kernel) (by decide +kernel) ?_
   rw[if_neg nft,show PyData.eqv (.str (Str.ofString "join")) (.str (Str.ofString "put"))=false from by decide +kernel]
   walk_at "r"
   refine AE (by decide +kernel) (by decide +kernel) ?_
   rw[if_neg nft,show PyData.eqv (.str (Str.ofString "join")) (.str (Str.ofString "take"))=false from by decide +kernel]
   walk_at "r"
   refine AE (by decide +kernel) (by decide +kernel) ?_
   rw[if_neg nft,show PyData.eqv (.str (Str.ofString "join")) (.str (Str.ofString "move"))=false from by decide +kernel]
   walk_at "r"
   refine AE (by decide +kernel) (by decide +kernel) ?_
   rw[if_neg nft,show PyData.eqv (.str (Str.ofString "join")) (.str (Str.ofString "count"))=false from by decide +kernel]
   walk_at "r"
   refine AE (by decide +kernel) (by decide +kernel) ?_
   rw[if_neg nft,show PyData.eqv (.str (Str.ofString "join")) (.str (Str.ofString "name"))=false from by decide +kernel]
   walk_at "r"
   refine AE (by decide +kernel) (by decide +kernel) ?_
   rw[if_neg nft,show PyData.eqv (.str (Str.ofString "join")) (.str (Str.ofString "split"))=false from by decide +kernel]
   walk_at "r"
   refine EU ?_
   walk_at "r"
   refine AC (d:=.str y) (AD (j:=2) rfl) ?_
   refine⟨p,tsD ts,y,pcD u.1 u.2,rfl,rfl,m,by rw[BK,hu'];rfl,?_⟩
   walk_at "r"
   refine AC (ds:=[.int u.1,.int u.2]) (d:=.int u.2) (AD (j:=1) rfl) ?_
   walk_at "r"
   refine O9 m hv h64 ?_
   walk_at "r"
   refine Z2 ?_
   walk_at "r"
   refine AC (d:=.str y) (AD (j:=2) rfl) ?_
   refine⟨p,tsD (BG ts x u.2),y,rfl,rfl,zU,by rw[BK,Option.isSome_map,GK,D4,← GK,hu'];rfl,?_⟩
   rw[yI]
   refine⟨_,zT _,fun p' ts' D' e m'=>?_⟩
   obtain⟨rfl,rfl,rfl⟩:=GL (D:=Deed.join x y) m e m'
   refine⟨rfl,?_⟩
   rw[O8];simp only[doT,hu']
end
end
section
variable {P:Program}{w:World}{K:Frg}{mg:Str→Option Value}{base:Heap}
abbrev P0:Stmt:=_root_.sT 24
def ZL:List Str:=["world", "deed", "things"]
theorem ZM:FnScope ZL ["world", "deed"] (AA P0):=⟨rfl,rfl,rfl,by decide +kernel,rfl,by decide +kernel,by decide +kernel⟩
section
local macro_rules | `(tactic| walk_at "x")=>`(tactic| first | ((with_reducible show PE _ (.Call (.Name (Str.ofString "refuse_undoable") _) ..) _);exact @SL _ _ _ _ _ (F5 (CXE P w) P w K mg base ZL "done" (AA P0) f cdv A outer s H E) (fun _=>E) _ _ _ _ _ _ _ _ _ rfl rfl rfl rfl rfl h_refuse_undoable (hr.mono (by decide)) rfl (by walk_at "a") (by decide) (by rfl) (by rfl)))
theorem n6 {f:Addr}{fd:FuncData}{c_NotNow:Addr}(F:Fun K "done" "done" P0 f fd) (h_refuse_undoable:HasX P w K mg base "refuse_undoable" 6 ["things", "deed"] (D8 c_NotNow)) (h_by_names:Has P w K mg base "by_names" 1 ["world"] D3) (h_change:Has P w K mg base "change" 2 ["things", "deed"] HR) (h_rising_by_names:Has P w K mg base "rising_by_names" 1 ["things"] BC):FnOk P w K mg base (CXE P w) 7 f fd ["world", "deed"] (spX K 2 (IT c_NotNow)):=by
 refine mJ F ZM fun cdv A outer s H E hr=>?_
 have hu:=hr.units
 have nd:=ZM.nd
 refine⟨_,by walk_at "b2", ?_⟩
 clear nd
 rintro xs M hl ⟨w,D,rfl,hc,hr⟩
 walk_at "r"
 refine J9 hc fun p hp=>?_
 walk_at "r"
 refine KL zU hr (fun ha=>?_) fun z hz=>?_
 · have hg:goD w D:=⟨hc,hr,ha⟩
   obtain⟨n1,n2⟩:=OD hg
   walk_at "r"
   refine UP zU hc hr ha ?_
   rw[yI]
   walk_at "r"
   refine UO zU n1 n2 ?_
   refine⟨M,(zT M).put hp,fun w' D' e=>?_⟩
   obtain⟨rfl,rfl⟩:=D5 e
   exact⟨ha,rfl,rfl⟩
 · refine⟨M,(zT M).put hp,fun w' D' e=>?_⟩
   obtain⟨rfl,rfl⟩:=D5 e
   exact⟨z,hz,rfl,rfl,rfl⟩
end
end
section
variable {P:Program}{w:World}{K:Frg}{mg:Str→Option Value}{base:Heap}
abbrev E6:Stmt:=_root_.sT 25
def KS:List Str:=["world", "deed", "things", "word", "name"]
theorem GQ:FnScope KS ["world", "deed"] (AA E6):=⟨rfl,rfl,rfl,by decide +kernel,rfl,by decide +kernel,by decide +kernel⟩
section
local macro_rules | `(tactic| walk_at "x")=>`(tactic| first | ((with_reducible show PE _ (.Call (.Name (Str.ofString "refuse_undoable") _) ..) _);exact @SL _ _ _ _ _ (F5 (CXE P w) P w K mg base KS "back_deed" (AA E6) f cdv A outer s H E) (fun _=>E) _ _ _ _ _ _ _ _ _ rfl rfl rfl rfl rfl h_refuse_undoable (hr.mono (by decide)) rfl (by walk_at "a") (by decide) (by rfl) (by rfl)) | ((with_reducible show PS _ (.Assign [.Tuple ..] (.Tuple ..) _) _);exact @cG _ _ (3) (4) _ _ _ _ _ _ _ _ _ _ _ rfl GQ.nd rfl rfl (by decide) rfl rfl (by walk_at "a") rfl (by rfl)))
local macro_rules | `(tactic| walk_at "y")=>`(tactic| first | ((with_reducible show PE _ (.Subscript ..) _);exact @IM _ _ _ _ _ _ hu1 (@pv _ 2 _ _ (by rfl) (by walk_at "lc") (by decide) (by decide)) (@pv _ 4 _ _ (by rfl) (by walk_at "lc") (by decide) (by decide)) (fun _ _=>rfl)) | ((with_reducible show PE _ (.Subscript ..) _);exact @IM _ _ _ _ _ _ hu1 (@pv _ 2 _ _ (by rfl) (by walk_at "lc") (by decide) (by decide)) (by walk_at "e") (fun _ _=>rfl)))
theorem SR {f:Addr}{fd:FuncData}{c_NotNow:Addr}(F:Fun K "back_deed" "back_deed" E6 f fd) (h_refuse_undoable:HasX P w K mg base "refuse_undoable" 6 ["things", "deed"] (D8 c_NotNow)) (h_by_names:Has P w K mg base "by_names" 1 ["world"] D3):FnOk P w K mg base (CXE P w) 7 f fd ["world", "deed"] (spX K 2 (IU c_NotNow)):=by
 refine mJ F GQ fun cdv A outer s H E hr=>?_
 have hu:=hr.units
 have hu1:=zQ (Nat.add_le_add_left (show 1≤64 by decide) _) hu
 have nd:=GQ.nd
 refine⟨_,by walk_at "b2", ?_⟩
 clear nd
 rintro xs M hl ⟨w,D,rfl,hc,hr⟩
 walk_at "r"
 refine J9 hc fun p hp=>?_
 walk_at "r"
 refine KL zU hr (fun hn=>?_) fun z hz=>?_
 rotate_left
 · refine⟨M,(zT M).put hp,fun w' D' e=>?_⟩
   obtain⟨rfl,rfl⟩:=D5 e
   exact⟨z,hz,rfl,rfl,rfl⟩
 have hst:=FD hn
 cases D with
 | put x pl k=>
   rw[show Deed.d (Deed.put x pl k) = .tuple [.str (Str.ofString "put"),.str x,.int pl,.int k] from rfl]
   walk_at "r"
   refine AC (d:=.str (Str.ofString "put")) (AD (j:=0) rfl) ?_
   walk_at "r"
   refine AC (d:=.str x) (AD (j:=1) rfl) ?_
   walk_at "r"
   refine⟨_,_,rfl,?_⟩
   walk_at "r"
   refine AE (by decide +kernel) (by decide +kernel) ?_
   rw[if_neg nft,show PyData.eqv (.str (Str.ofString "put")) (.str (Str.ofString "put"))=true from by decide +kernel]
   walk_at "r"
   refine⟨M,(zT M).put hp,fun w' D' e=>?_⟩
   obtain⟨rfl,rfl⟩:=D5 (D:=Deed.put x pl k) e
   refine⟨hn,?_⟩
   exact⟨rfl,rfl⟩
 | take x=>
   obtain⟨v,hv⟩:=B9 ((hst x (by simp[Deed.names])).mpr (by simp[Deed.made]))
   rw[show Deed.d (Deed.take x) = .tuple [.str (Str.ofString "take"),.str x] from rfl]
   walk_at "r"
   refine AC (d:=.str (Str.ofString "take")) (AD (j:=0) rfl) ?_
   walk_at "r"
   refine AC (d:=.str x) (AD (j:=1) rfl) ?_
   walk_at "r"
   refine⟨_,_,rfl,?_⟩
   walk_at "r"
   refine AE (by decide +kernel) (by decide +kernel) ?_
   rw[if_neg nft,show PyData.eqv (.str (Str.ofString "take")) (.str (Str.ofString "put"))=false from by decide +kernel]
   walk_at "r"
   refine AE (by decide +kernel) (by decide +kernel) ?_
   rw[if_neg nft,show PyData.eqv (.str (Str.ofString "take")) (.str (Str.ofString "take"))=true from by decide +kernel]
   walk_at "r"
   refine EU ?_
   walk_at "r"
   refine⟨p,tsD w,x,pcD v.1 v.2,rfl,rfl,zU,by rw[BK,hv];rfl,?_⟩
   refine C8 (yD rfl) ?_
   refine⟨M,(zT M).put hp,fun w' D' e=>?_⟩
   obtain⟨rfl,rfl⟩:=D5 (D:=Deed.take x) e
   refine⟨hn,?_⟩
   exact⟨by simp only[AM,hv];rfl,rfl⟩
 | move x pl=>
   obtain⟨v,hv⟩:=B9 ((hst x (by simp[Deed.names])).mpr (by simp[Deed.made]))
   rw[show Deed.d (Deed.move x pl) = .tuple [.str (Str.ofString "move"),.str x,.int pl] from rfl]
   walk_at "r"
   refine AC (d:=.str (Str.ofString "move")) (AD (j:=0) rfl) ?_
   walk_at "r"
   refine AC (d:=.str x) (AD (j:=1) rfl) ?_
   walk_at "r"
   refine⟨_,_,rfl,?_⟩
   walk_at "r"
   refine AE (by decide +kernel) (by decide +kernel) ?_
   rw[if_neg nft,show PyData.eqv (.str (Str.ofString "move")) (.str (Str.ofString "put"))=false from by decide +kernel]
   walk_at "r"
   refine AE (by decide +kernel) (by decide +kernel) ?_
   rw[if_neg nft,show PyData.eqv (.str (Str.ofString "move")) (.str (Str.ofString "take"))=false from by decide +kernel]
   walk_at "r"
   refine AE (by decide +kernel) (by decide +kernel) ?_
   rw[if_neg nft,show PyData.eqv (.str (Str.ofString "move")) (.str (Str.ofString "move"))=true from by decide +kernel]
   walk_at "r"
   refine EU ?_
   walk_at "r"
   refine⟨p,tsD w,x,pcD v.1 v.2,rfl,rfl,zU,by rw[BK,hv];rfl,?_⟩
   walk_at "r"
   refine AC (ds:=[.int v.1,.int v.2]) (d:=.int v.1) (AD (j:=0) rfl) ?_
   walk_at "r"
   refine⟨M,(zT M).put hp,fun w' D' e=>?_⟩
   obtain⟨rfl,rfl⟩:=D5 (D:=Deed.move x pl) e
   refine⟨hn,?_⟩
   exact⟨by simp only[AM,hv];rfl,rfl⟩
 | count x k=>
   rw[show Deed.d (Deed.count x k) = .tuple [.str (Str.ofString "count"),.str x,.int k] from rfl]
   walk_at "r"
   refine AC (d:=.str (Str.ofString "count")) (AD (j:=0) rfl) ?_
   walk_at "r"
   refine AC (d:=.str x) (AD (j:=1) rfl) ?_
   walk_at "r"
   refine⟨_,_,rfl,?_⟩
   walk_at "r"
   refine AE (by decide +kernel) (by decide +kernel) ?_
   rw[if_neg nft,show PyData.eqv (.str (Str.ofString "count")) (.str (Str.ofString "put"))=false from by decide +kernel]
   walk_at "r"
   refine AE (by decide +kernel) (by decide +kernel) ?_
   rw[if_neg nft,show PyData.eqv (.str (Str.ofString "count")) (.str (Str.ofString "take"))=false from by decide +kernel]
   walk_at "r"
   refine AE (by decide +kernel) (by decide +kernel) ?_
   rw[if_neg nft,show PyData.eqv (.str (Str.ofString "count")) (.str (Str.ofString "move"))=false from by decide +kernel]
   walk_at "r"
   refine AE (by decide +kernel) (by decide +kernel) ?_
   rw[if_neg nft,show PyData.eqv (.str (Str.ofString "count")) (.str (Str.ofString "count"))=true from by decide +kernel]
   walk_at "r"
   refine AC (d:=.int k) (AD (j:=2) rfl) ?_
   walk_at "r"
   refine⟨M,(zT M).put hp,fun w' D' e=>?_⟩
   obtain⟨rfl,rfl⟩:=D5 (D:=Deed.count x k) e
   refine⟨hn,?_⟩
   exact⟨rfl,rfl⟩
 | name x y=>
   rw[show Deed.d (Deed.name x y) = .tuple [.str (Str.ofString "name"),.str x,.str y] from rfl]
   walk_at "r"
   refine AC (d:=.str (Str.ofString "name")) (AD (j:=0) rfl) ?_
   walk_at "r"
   refine AC (d:=.str x) (AD (j:=1) rfl) ?_
   walk_at "r"
   refine⟨_,_,rfl,?_⟩
   walk_at "r"
   refine AE (by decide +kernel) (by decide +kernel) ?_
   rw[if_neg nft,show PyData.eqv (.str (Str.ofString "name")) (.str (Str.ofString "put"))=false from by decide +kernel]
   walk_at "r"
   refine AE (by decide +kernel) (by decide +kernel) ?_
   rw[if_neg nft,show PyData.eqv (.str (Str.ofString "name")) (.str (Str.ofString "take"))=false from by decide +kernel]
   walk_at "r"
   refine AE (by decide +kernel) (by decide +kernel) ?_
   rw[if_neg nft,show PyData.eqv (.str (Str.ofString "name")) (.str (Str.ofString "move"))=false from by decide +kernel]
   walk_at "r"
   refine AE (by decide +kernel) (by decide +kernel) ?_
   rw[if_neg nft,show PyData.eqv (.str (Str.ofString "name")) (.str (Str.ofString "count"))=false from by decide +kernel]
   walk_at "r"
   refine AE (by decide +kernel) (by decide +kernel) ?_
   rw[if_neg nft,show PyData.eqv (.str (Str.ofString "name")) (.str (Str.ofString "name"))=true from by decide +kernel]
   walk_at "r"
   refine AC (d:=.str y) (AD (j:=2) rfl) ?_
   walk_at "r"
   refine⟨M,(zT M).put hp,fun w' D' e=>?_⟩
   obtain⟨rfl,rfl⟩:=D5 (D:=Deed.name x y) e
   refine⟨hn,?_⟩
   exact⟨rfl,rfl⟩
 | split x y pl k=>
   rw[show Deed.d (Deed.split x y pl k) = .tuple [.str (Str.ofString "split"),.str x,.str y,.int pl,.int k] from rfl]
   walk_at "r"
   refine AC (d:=.str (Str.ofString "split")) (AD (j:=0) rfl) ?_
   walk_at "r"
   refine AC (d:=.str x) (AD (j:=1) rfl) ?_
   walk_at "r"
   refine⟨_,_,rfl,?_⟩
   walk_at "r"
   refine AE (by decide +kernel) (by decide +kernel) ?_
   rw[if_neg nft,show PyData.eqv (.str (Str.ofString "split")) (.str (Str.ofString "put"))=false from by decide +kernel]
   walk_at "r"
   refine AE (by decide +kernel) (by decide +kernel) ?_
   rw[if_neg nft,show PyData.eqv (.str (Str.ofString "split")) (.str (Str.ofString "take"))=false from by decide +kernel]
   walk_at "r"
   refine AE (by decide +kernel) (by decide +kernel) ?_
   rw[if_neg nft,show PyData.eqv (.str (Str.ofString "split")) (.str (Str.ofString "move"))=false from by decide +kernel]
   walk_at "r"
   refine AE (by decide +kernel) (by decide +kernel) ?_
   rw[if_neg nft,show PyData.eqv (.str (Str.ofString "split")) (.str (Str.ofString "count"))=false from by decide +kernel]
   walk_at "r"
   refine AE (by decide +kernel) (by decide +kernel) ?_
   rw[if_neg nft,show PyData.eqv (.str (Str.ofString "split")) (.str (Str.ofString "name"))=false from by decide +kernel]
   walk_at "r"
   refine AE (by decide +kernel) (by decide +kernel) ?_
   rw[if_neg nft,show PyData.eqv (.str (Str.ofString "split")) (.str (Str.ofString "split"))=true from by decide +kernel]
   walk_at "r"
   refine AC (d:=.str y) (AD (j:=2) rfl) ?_
   walk_at "r"
   refine⟨M,(zT M).put hp,fun w' D' e=>?_⟩
   obtain⟨rfl,rfl⟩:=D5 (D:=Deed.split x y pl k) e
   refine⟨hn,?_⟩
   exact⟨rfl,rfl⟩
 | join x y=>
   obtain⟨u,hu'⟩:=B9 ((hst y (by simp[Deed.names])).mpr (by simp[Deed.made]))
   rw[show Deed.d (Deed.join x y) = .tuple [.str (Str.ofString "join"),.str x,.str y] from rfl]
   walk_at "r"
   refine AC (d:=.str (Str.ofString "join")) (AD (j:=0) rfl) ?_
   walk_at "r"
   refine AC (d:=.str x) (AD (j:=1) rfl) ?_
   walk_at "r"
   refine⟨_,_,rfl,?_⟩
   walk_at "r"
   refine AE (by decide +kernel) (by decide +kernel) ?_
   rw[if_neg nft,show PyData.eqv (.str (Str.ofString "join")) (.str (Str.ofString "put"))=false from by decide +kernel]
   walk_at "r"
   refine AE (by decide +kernel) (by decide +kernel) ?_
   rw[if_neg nft,show PyData.eqv (.str (Str.ofString "join")) (.str (Str.ofString "take"))=false from by decide +kernel]
   walk_at "r"
   refine AE (by decide +kernel) (by decide +kernel) ?_
   rw[if_neg nft,show PyData.eqv (.str (Str.ofString "join")) (.str (Str.ofString "move"))=false from by decide +kernel]
   walk_at "r"
   refine AE (by decide +kernel) (by decide +kernel) ?_
   rw[if_neg nft,show PyData.eqv (.str (Str.ofString "join")) (.str (Str.ofString "count"))=false from by decide +kernel]
   walk_at "r"
   refine AE (by decide +kernel) (by decide +kernel) ?_
   rw[if_neg nft,show PyData.eqv (.str (Str.ofString "join")) (.str (Str.ofString "name"))=false from by decide +kernel]
   walk_at "r"
   refine AE (by decide +kernel) (by decide +kernel) ?_
   rw[if_neg nft,show PyData.eqv (.str (Str.ofString "join")) (.str (Str.ofString "split"))=false from by decide +kernel]
   walk_at "r"
   refine AC (d:=.str y) (AD (j:=2) rfl) ?_
   walk_at "r"
   refine EU ?_
   walk_at "r"
   refine AC (d:=.str y) (AD (j:=2) rfl) ?_
   refine⟨p,tsD w,y,pcD u.1 u.2,rfl,rfl,zU,by rw[BK,hu'];rfl,?_⟩
   refine C8 (yD rfl) ?_
   refine⟨M,(zT M).put hp,fun w' D' e=>?_⟩
   obtain⟨rfl,rfl⟩:=D5 (D:=Deed.join x y) e
   refine⟨hn,?_⟩
   exact⟨by simp only[AM,hu'];rfl,rfl⟩
end
end
section
variable {P:Program}{w:World}{K:Frg}{mg:Str→Option Value}{base:Heap}
abbrev BQ:Stmt:=_root_.sT 51
def EJ:List Str:=["_law_world_here", "_law_deed", "_law_found"]
theorem KU:FnScope EJ ["_law_world_here", "_law_deed"] (AA BQ):=⟨rfl,rfl,rfl,by decide +kernel,rfl,by decide +kernel,by decide +kernel⟩
section
local macro_rules | `(tactic| walk_at "x")=>`(tactic| first | ((with_reducible show PS _ (.Try ..) _);exact @vN _ (Cx.nox (F5 CX0 P w K mg base EJ "_law_told" (AA BQ) f cdv A outer s H E)) _ _ _ _ _ _ _ _ _ _ rfl rfl rfl rfl r_NotNow.at (fun pn R=>(by walk_at "q")) (fun a=>(by walk_at "q")) (by decide)) | ((with_reducible show PE _ (.Call (.Name (Str.ofString "done") _) ..) _);exact @SL _ _ _ _ _ (pinned (Cx.nox (F5 CX0 P w K mg base EJ "_law_told" (AA BQ) f cdv A outer s H E)) pn) R _ _ _ _ _ _ _ _ _ rfl rfl rfl rfl rfl h_done (hr.mono (by decide)) rfl (by walk_at "a") (by decide) (by rfl) (by rfl)) | ((with_reducible show PE _ (.Call (.Name (Str.ofString "back_deed") _) ..) _);exact @SL _ _ _ _ _ (pinned (Cx.nox (F5 CX0 P w K mg base EJ "_law_told" (AA BQ) f cdv A outer s H E)) pn) R _ _ _ _ _ _ _ _ _ rfl rfl rfl rfl rfl h_back_deed (hr.mono (by decide)) rfl (by walk_at "a") (by decide) (by rfl) (by rfl)))
theorem SS {f:Addr}{fd:FuncData}{c_S c_NotNow:Addr}(F:Fun K "_law_told" "_law_told" BQ f fd) (r_NotNow:HasR P w K mg base "NotNow" "name" c_NotNow c_S) (h_back_deed:HasX P w K mg base "back_deed" 7 ["world", "deed"] (IU c_NotNow)) (h_done:HasX P w K mg base "done" 7 ["world", "deed"] (IT c_NotNow)):FnOk P w K mg base CX0 8 f fd ["_law_world_here", "_law_deed"] (spD K 2 HX):=by
 refine fnD F KU fun cdv A outer s H E hr=>?_
 have hu:=hr.units
 have nd:=KU.nd
 refine⟨_,by walk_at "b2", ?_⟩
 clear nd
 rintro xs M hl ⟨w,D,rfl,hc,hr⟩
 walk_at "r"
 refine sG fun R=>?_
 refine iH (mP (VH (HV ?_)))
 walk_at "r"
 refine XX hc hr (fun ha=>?_) fun z hz=>⟨⟨_,rfl,r_NotNow.self⟩,?_⟩
 · refine VH (HV ?_)
   walk_at "r"
   refine XY hc hr (fun _=>?_) fun z hz=>⟨⟨_,rfl,r_NotNow.self⟩,?_⟩
   · refine iV (dM ?_)
     refine⟨[wD (AJ (doT w D)),(AM w D).d],rfl,yD rfl,?_⟩
     walk_at "r"
     refine⟨M,zT M,fun w' D' e=>?_⟩
     obtain⟨rfl,rfl⟩:=D5 e
     unfold B7
     rw[ha]
     exact⟨rfl,rfl⟩
   · rw[ha] at hz;cases hz
 · walk_at "r"
   refine⟨M,zT M,fun w' D' e=>?_⟩
   obtain⟨rfl,rfl⟩:=D5 e
   unfold B7
   rw[hz]
   exact⟨rfl,rfl⟩
end
end
section
variable {P:Program}{w:World}{K:Frg}{mg:Str→Option Value}{base:Heap}
abbrev GR:Stmt:=_root_.sT 4
def VO:List Str:=["thing"]
theorem ML:FnScope VO ["thing"] (AA GR):=⟨rfl,rfl,rfl,by decide +kernel,rfl,by decide +kernel,by decide +kernel⟩
theorem VP {f:Addr}{fd:FuncData}(F:Fun K "is_whole" "is_whole" GR f fd) (n_bool:mg "bool"=none) (n_int:mg "int"=none) (n_isinstance:mg "isinstance"=none):FnOk P w K mg base CX0 1 f fd ["thing"] (spD K 1 GF):=by
 refine fnD F ML fun cdv A outer s H E hr=>?_
 have hu:=hr.units
 have nd:=ML.nd
 refine⟨_,by walk_at "b1", ?_⟩
 clear nd
 rintro xs M hl ⟨d,rfl,-⟩
 walk_at "dl";walk_at "dl";walk_at "dl"
 cases d <;>
 · walk_at "r"
   exact⟨M,zT M,fun d' e=>by cases e;exact⟨rfl,rfl⟩⟩
abbrev FL:Stmt:=_root_.sT 6
def ST:List Str:=["thing", "low", "high"]
theorem KW:FnScope ST ["thing", "low", "high"] (AA FL):=⟨rfl,rfl,rfl,by decide +kernel,rfl,by decide +kernel,by decide +kernel⟩
section
local macro_rules | `(tactic| walk_at "x")=>`(tactic| first | ((with_reducible show PE _ (.Compare _ [_,_] ..) _);exact @cL _ _ _ _ _ _ _ _ _ _ _ _ (@YB _) (@YB _) (by walk_at "e") (by walk_at "e") (by walk_at "e") (by with_unfolding_all rfl)))
theorem SU {f:Addr}{fd:FuncData}(F:Fun K "is_within" "is_within" FL f fd) (h_is_whole:Has P w K mg base "is_whole" 1 ["thing"] GF):FnOk P w K mg base CX0 2 f fd ["thing", "low", "high"] (spD K 3 DO):=by
 refine fnD F KW fun cdv A outer s H E hr=>?_
 have hu:=hr.units
 have nd:=KW.nd
 refine⟨_,by walk_at "b1", ?_⟩
 clear nd
 rintro xs M hl ⟨d,lo,hi,rfl⟩
 walk_at "r"
 refine AZ trivial ?_
 cases d
 case int i=>
   walk_at "r"
   refine NH (fun h=>?_) (fun h=>?_)
   · walk_at "r"
     exact⟨M,zT M,fun d' lo' hi' e=>by cases e;refine⟨?_,rfl⟩;simp only[K7];rw[h];rfl⟩
   · exact⟨M,zT M,fun d' lo' hi' e=>by cases e;refine⟨?_,rfl⟩;simp only[K7];simp at h;simp;omega⟩
 all_goals
   walk_at "r"
   exact⟨M,zT M,fun d' lo' hi' e=>by cases e;exact⟨rfl,rfl⟩⟩
end
abbrev GS:Stmt:=_root_.sT 7
def VQ:List Str:=["thing"]
theorem MM:FnScope VQ ["thing"] (AA GS):=⟨rfl,rfl,rfl,by decide +kernel,rfl,by decide +kernel,by decide +kernel⟩
theorem VR {f:Addr}{fd:FuncData}(F:Fun K "is_place" "is_place" GS f fd) (g_LAST_PLACE:∃t,mg "LAST_PLACE"=some (.int (999) t)) (h_is_within:Has P w K mg base "is_within" 2 ["thing", "low", "high"] DO):FnOk P w K mg base CX0 3 f fd ["thing"] (spD K 1 JM):=by
 refine fnD F MM fun cdv A outer s H E hr=>?_
 have hu:=hr.units
 have nd:=MM.nd
 refine⟨_,by walk_at "b1", ?_⟩
 clear nd
 rintro xs M hl ⟨d,rfl,-⟩
 walk_at "r"
 refine TU ?_
 exact⟨M,zT M,fun d' e=>by cases e;exact⟨by rw[RX],rfl⟩⟩
abbrev G2:Stmt:=_root_.sT 5
def P1:List Str:=["thing"]
def KY:List Str:=["sign"]
def KZ:List (Option Nat):=[none]
theorem SV:KY.Nodup:=by decide +kernel
theorem P2:FnScope P1 ["thing"] (AA G2):=⟨rfl,rfl,rfl,by decide +kernel,rfl,by decide +kernel,by decide +kernel⟩
section
local macro_rules | `(tactic| walk_at "x")=>`(tactic| first | ((with_reducible show PT _ (.Compare _ [_,_] ..) _);exact @cM _ _ _ _ _ _ _ _ _ _ _ _ (@YB _) (@YB _) (by walk_at "e") (by walk_at "e") (by walk_at "e") (by with_unfolding_all rfl)) | ((with_reducible show PE _ (.ListComp ..) _);exact @CC _ _ _ _ _ _ _ _ _ _ _ _ _ rfl (@L2.CSc.of _ _ (KY) (KZ) (AA G2) (P1) (by decide +kernel) rfl rfl) (by walk_at "n") (fun C s' H' ex' pn'=>⟨(by walk_at "g"),(by walk_at "u"),(by walk_at "e")⟩) (by intro _;rfl)) | ((with_reducible show PE _ (.Compare _ [.In] ..) _);exact @EG _ _ _ _ _ _ _ _ (@kIn _ K rfl) (by walk_at "e") (by walk_at "e") (by with_unfolding_all rfl)))
theorem Y1 {f:Addr}{fd:FuncData}(F:Fun K "is_name" "is_name" G2 f fd) (n_all:mg "all"=none) (n_isinstance:mg "isinstance"=none) (n_len:mg "len"=none) (n_str:mg "str"=none) (g_LETTERS:∃t,mg "LETTERS"=some (.str ("abcdefghijklmnopqrstuvwxyz") t)) (g_LONGEST_NAME:∃t,mg "LONGEST_NAME"=some (.int (8) t)):FnOk P w K mg base CX0 1 f fd ["thing"] (spD K 1 LB):=by
 refine fnD F P2 fun cdv A outer s H E hr=>?_
 have hu:=hr.units
 have nd:=P2.nd
 have n0:=SV
 refine⟨_,by walk_at "b2", ?_⟩
 clear nd n0
 rintro xs M hl ⟨d,rfl,hd⟩
 cases d
 case str z=>
   have hz:z.length≤sizeLine:=zN hd.1 (by decide)
   have hlen:(z.length:Int)=(z.cps.size:Int):=rfl
   walk_at "r"
   refine MZ hz ?_
   walk_at "r"
   refine NH (fun h1=>?_) (fun h1=>?_)
   · walk_at "r"
     refine NH (fun h2=>?_) (fun h2=>?_)
     · walk_at "r"
       exact⟨M,zT M,fun d' e=>by cases e;refine⟨?_,rfl⟩;simp only[BZ];simp at h1 h2;rw[hlen] at h1 h2;simp;omega⟩
     · walk_at "r"
       refine AQ (BV 0) (by simp[KZ]) ?_
       refine RV ?_
       walk_at "r"
       refine⟨by simp only[AI,zX,Array.length_toList];exact zQ hd.1 (by decide),fun _=>true,fun d=>.bool (kU d),?_,?_⟩
       · intro d hd' M'
         obtain⟨c,hc,rfl⟩:=zL.mp hd'
         walk_at "dl"
         refine⟨rfl,?_⟩
         walk_at "dl"
         refine⟨rfl,rfl,fun _=>?_⟩
         walk_at "r"
         refine YT ?_
         rw[WH c (hd.2 c hc)]
         exact⟨by simp[kU],rfl⟩
       · walk_at "r"
         rw[aG]
         refine RW ?_
         rw[WI]
         exact⟨M,zT M,fun d' e=>by cases e;refine⟨?_,rfl⟩;simp only[BZ];simp at h1 h2;rw[hlen] at h1 h2;simp;omega⟩
   · walk_at "r"
     exact⟨M,zT M,fun d' e=>by cases e;refine⟨?_,rfl⟩;simp only[BZ];simp at h1;rw[hlen] at h1;simp;omega⟩
 all_goals
   walk_at "r"
   exact⟨M,zT M,fun d' e=>by cases e;exact⟨rfl,rfl⟩⟩
end
end
section
variable {P:Program}{w:World}{K:Frg}{mg:Str→Option Value}{base:Heap}
abbrev IV:Stmt:=_root_.sT 10
def Y2:List Str:=["word"]
theorem P3:FnScope Y2 ["word"] (AA IV):=⟨rfl,rfl,rfl,by decide +kernel,rfl,by decide +kernel,by decide +kernel⟩
section
local macro_rules | `(tactic| walk_at "x")=>`(tactic| first | ((with_reducible show PE _ (.Call (.Attribute _ (Str.ofString "get") _) ..) _);exact @kY _ _ _ _ _ _ _ _ rfl g_FORMS (by walk_at "e") (@L2.M1.mk _ _ _ _ _ _ rfl rfl rfl rfl) (by decide)))
theorem Y3 {f:Addr}{fd:FuncData}(F:Fun K "form_of" "form_of" IV f fd) (n_isinstance:mg "isinstance"=none) (n_str:mg "str"=none) (g_FORMS:∃a,mg "FORMS"=some (.ref a)∧GDict w K a CY):FnOk P w K mg base CX0 1 f fd ["word"] (spD K 1 FV):=by
 refine fnD F P3 fun cdv A outer s H E hr=>?_
 have hu:=hr.units
 have nd:=P3.nd
 refine⟨_,by walk_at "b1", ?_⟩
 clear nd
 rintro xs M hl ⟨d,rfl,-⟩
 cases d
 case str z=>
   walk_at "r"
   refine kZ ?_
   walk_at "r"
   exact⟨M,zT M,fun d' e=>by cases e;exact⟨rfl,rfl⟩⟩
 all_goals
   walk_at "r"
   exact⟨M,zT M,fun d' e=>by cases e;exact⟨rfl,rfl⟩⟩
end
abbrev SW:Stmt:=_root_.sT 12
def n8:List Str:=["sign", "part"]
theorem ZN:FnScope n8 ["sign", "part"] (AA SW):=⟨rfl,rfl,rfl,by decide +kernel,rfl,by decide +kernel,by decide +kernel⟩
theorem n9 {f:Addr}{fd:FuncData}(F:Fun K "fits" "fits" SW f fd) (h_is_name:Has P w K mg base "is_name" 1 ["thing"] LB) (h_is_place:Has P w K mg base "is_place" 3 ["thing"] JM) (h_is_whole:Has P w K mg base "is_whole" 1 ["thing"] GF):FnOk P w K mg base CX0 4 f fd ["sign", "part"] (spD K 2 X2):=by
 refine fnD F ZN fun cdv A outer s H E hr=>?_
 have hu:=hr.units
 have nd:=ZN.nd
 refine⟨_,by walk_at "b2", ?_⟩
 clear nd
 rintro xs M hl ⟨a,b,rfl,c,rfl,hc,hb⟩
 have hsh:zH (.str ⟨#[c]⟩)=true:=D0 (by show PyData.strOk _=true;simp[PyData.strOk];omega) (by simp[PyData.depth])
 walk_at "r"
 refine AE hsh (by decide +kernel) ?_
 rw[if_neg nft,N5]
 cases h1:((⟨#[c]⟩:Str)==Str.ofString "n") with
 | true=>
   walk_at "r"
   refine AZ hb ?_
   exact⟨M,zT M,fun a b e=>by cases e;exact⟨by simp only[KB,h1];rfl,rfl⟩⟩
 | false=>
   walk_at "r"
   refine AE hsh (by decide +kernel) ?_
   rw[if_neg nft,N5]
   cases h2:((⟨#[c]⟩:Str)==Str.ofString "p") with
   | true=>
     walk_at "r"
     refine AZ trivial ?_
     exact⟨M,zT M,fun a b e=>by cases e;exact⟨by simp only[KB,h1,h2];rfl,rfl⟩⟩
   | false=>
     walk_at "r"
     refine AZ trivial ?_
     exact⟨M,zT M,fun a b e=>by cases e;exact⟨by simp only[KB,h1,h2];rfl,rfl⟩⟩
abbrev GT:Stmt:=_root_.sT 13
def VS:List Str:=["deed"]
theorem MN:FnScope VS ["deed"] (AA GT):=⟨rfl,rfl,rfl,by decide +kernel,rfl,by decide +kernel,by decide +kernel⟩
section
local macro_rules | `(tactic| walk_at "x")=>`(tactic| first | ((with_reducible show PE _ (.Call (.Attribute _ (Str.ofString "startswith") _) ..) _);exact @kBm _ K _ _ _ _ _ _ _ _ _ _ _ rfl PySem.F.plainAttrs_str PySem.F.slot_str_startswith PySem.F.type_str_startswith (@MA _ K rfl) (by walk_at "e") (by walk_at "a") (by rfl) (by rfl) (by rfl) (by rfl) (by rfl)))
theorem VT {f:Addr}{fd:FuncData}(F:Fun K "names_in" "names_in" GT f fd) (h_form_of:Has P w K mg base "form_of" 1 ["word"] FV):FnOk P w K mg base CX0 2 f fd ["deed"] (spD K 1 GI):=by
 refine fnD F MN fun cdv A outer s H E hr=>?_
 have hu:=hr.units
 have nd:=MN.nd
 refine⟨_,by walk_at "b1", ?_⟩
 clear nd
 rintro xs M hl ⟨d,rfl,w,f,r,rfl,hf⟩
 obtain⟨fa,fs,fn,_,_⟩:=JS hf
 have hform:KA (.str w) = .str f:=by
   show U3 (CY.lookup w)=_
   rw[hf];rfl
 walk_at "r"
 refine J8 ?_
 walk_at "r"
 refine AC (d:=.str w) (AD (j:=0) rfl) ?_
 walk_at "r"
 refine AZ trivial ?_
 rw[hform]
 refine⟨K3,?_⟩
 walk_at "r"
 refine QN ?_
 rw[fn]
 cases htw:UI w with
 | true=>
   walk_at "r"
   refine C9 ?_
   rw[show BU (PyData.str w::r) (some 1) (some 3)=r.take 2 from YV _ 1 3]
   exact⟨M,zT M,fun d' e=>by cases e;refine⟨?_,rfl⟩;simp only[O6,htw];rfl⟩
 | false=>
   walk_at "r"
   refine C9 ?_
   rw[show BU (PyData.str w::r) (some 1) (some 2)=r.take 1 from YV _ 1 2]
   exact⟨M,zT M,fun d' e=>by cases e;refine⟨?_,rfl⟩;simp only[O6,htw];rfl⟩
end
end
section
variable {P:Program}{w:World}{K:Frg}{mg:Str→Option Value}{base:Heap}
abbrev G3:Stmt:=_root_.sT 11
def P4:List Str:=["thing", "form", "names"]
def L0:List Str:=["sign", "part"]
def L1:List (Option Nat):=[none,none]
theorem SX:L0.Nodup:=by decide +kernel
theorem P5:FnScope P4 ["thing"] (AA G3):=⟨rfl,rfl,rfl,by decide +kernel,rfl,by decide +kernel,by decide +kernel⟩
section
local macro_rules | `(tactic| walk_at "x")=>`(tactic| first | ((with_reducible show PE _ (.ListComp ..) _);exact @CC _ _ _ _ _ _ _ _ _ _ _ _ _ rfl (@L2.CSc.of _ _ (L0) (L1) (AA G3) (P4) (by decide +kernel) rfl rfl) (by walk_at "n") (fun C s' H' ex' pn'=>⟨(by walk_at "g"),(by walk_at "u"),(by walk_at "e")⟩) (by intro _;rfl)) | ((with_reducible show PI _ _ (.Call (.Name (Str.ofString "zip") _) ..) _);exact @uG _ K _ _ _ _ _ _ _ _ rfl rfl n_zip (by walk_at "a") (by rfl) (by rfl)) | ((with_reducible show PG _ (.Tuple ..) _);exact @rB _ K _ _ _ _ (2) rfl rfl (by walk_at "j") (by rfl) (by rfl)))
theorem Y4 {f:Addr}{fd:FuncData}(F:Fun K "is_deed" "is_deed" G3 f fd) (n_all:mg "all"=none) (n_isinstance:mg "isinstance"=none) (n_len:mg "len"=none) (n_tuple:mg "tuple"=none) (n_zip:mg "zip"=none) (h_fits:Has P w K mg base "fits" 4 ["sign", "part"] X2) (h_form_of:Has P w K mg base "form_of" 1 ["word"] FV) (h_names_in:Has P w K mg base "names_in" 2 ["deed"] GI):FnOk P w K mg base CX0 5 f fd ["thing"] (spD K 1 FW):=by
 refine fnD F P5 fun cdv A outer s H E hr=>?_
 have hu:=hr.units
 have nd:=P5.nd
 have n0:=SX
 refine⟨_,by walk_at "b2", ?_⟩
 clear nd n0
 rintro xs M hl ⟨d,rfl,hd⟩
 cases d
 case tuple ds=>
   have fin:∀b:Bool,AU ds=b→∃M2:Own,M2.Sub M∧FW.post [.d (.tuple ds)] M (.d (.bool b)) M2:=fun b hb=>⟨M,zT M,fun d' e=>by cases e;exact⟨by show DS.d (.bool b) = .d (.bool (AU ds));rw[hb],rfl⟩⟩
   walk_at "r"
   refine N1 ?_
   walk_at "r"
   refine AE rfl rfl ?_
   rw[if_neg nft]
   match ds,hd,fin with
   | [],_,fin=>
     walk_at "r"
     exact fin false rfl
   | a::r,hd,fin=>
     rw[show PyData.eqv (.int ((a::r).length:Nat)) (.int 0)=false by simp[PyData.eqv];omega]
     walk_at "r"
     refine AC (d:=a) (AD (j:=0) rfl) ?_
     walk_at "r"
     refine AZ trivial ?_
     have hnone:DF (KA a)=true→AU (a::r)=false:=fun h=>by
       cases a with
       | str w=>
         cases hf:CY.lookup w with
         | none=>simp only[AU,hf]
         | some f=>simp only[KA,hf,U3,DF] at h;cases h
       | _=>rfl
     cases hn:DF (KA a) with
     | true=>
       walk_at "r"
       refine N2 ?_
       rw[hn]
       walk_at "r"
       exact fin false (hnone hn)
     | false=>
       have hw:∃w f,a = .str w∧CY.lookup w=some f:=by
         cases a with
         | str w=>
           cases hf:CY.lookup w with
           | none=>simp only[KA,hf,U3,DF] at hn;cases hn
           | some f=>exact⟨w,f,rfl,hf⟩
         | _=>cases hn
       obtain⟨w,f,rfl,hf⟩:=hw
       obtain⟨fa,fs,fn,ft,f1⟩:=JS hf
       have hform:KA (.str w) = .str f:=by
         show U3 (CY.lookup w)=_
         rw[hf];rfl
       have hdl:AU (.str w::r)=((r.length==f.cps.size)&&GJ f r&&(!UI w||!PyData.eqv (r.getD 0 .none) (r.getD 1 .none))):=by simp only[AU,hf]
       rw[hform]
       walk_at "r"
       refine N2 ?_
       walk_at "r"
       refine N1 ?_
       walk_at "r"
       refine MZ (zN fs (by decide)) ?_
       walk_at "r"
       refine AE rfl rfl ?_
       rw[if_pos rfl]
       have hcmp:PyData.eqv (.int ((PyData.str w::r).length:Nat)) (.int ((f.length:Int)+1))=(r.length==f.cps.size):=by
         show(((r.length+1:Nat):Int)==((f.cps.size:Int)+1))=_
         rw[Bool.eq_iff_iff,beq_iff_eq,beq_iff_eq];omega
       rw[hcmp]
       cases hlen:(r.length==f.cps.size) with
       | false=>
         walk_at "r"
         exact fin false (by rw[hdl,hlen];rfl)
       | true=>
         have hl':r.length=f.cps.size:=eq_of_beq hlen
         have hrl:r.length≤4:=by omega
         walk_at "r"
         refine AQ (WG (GD (GD WF))) (by simp[L1]) ?_
         refine l8 ?_
         walk_at "r"
         refine C9 ?_
         rw[show BU (PyData.str w::r) (some 1) none=r from TZ _ 1]
         walk_at "r"
         refine⟨_,_,rfl,fa,by omega,?_,fun _=>true,uK,?_,?_⟩
         · unfold IZ
           rw[zX,List.length_zip]
           exact zQ (show _≤4 by omega) (by decide)
         · intro d hd' M'
           obtain⟨⟨s1,p1⟩,hm,rfl⟩:=zL.mp hd'
           have hs:s1∈AI f:=(List.of_mem_zip hm).1
           have hp:p1∈r:=(List.of_mem_zip hm).2
           obtain⟨c,hc,rfl⟩:=zL.mp hs
           have hc128:c < 128:=by
             have:=Array.all_eq_true'.mp fa c (by simpa using hc)
             simpa using this
           walk_at "r"
           refine⟨rfl,?_⟩
           walk_at "dl"
           refine⟨rfl,rfl,fun _=>?_⟩
           walk_at "r"
           refine fD ⟨c,rfl,hc128,hd.2 p1 (yV _ hp)⟩ ?_
           exact⟨rfl,rfl⟩
         · rw[gG]
           walk_at "r"
           refine RW ?_
           rw[show(((AI f).zip r).map fun p=>KB p.1 p.2).all id=GJ f r by unfold GJ;rw[List.all_map];rfl]
           cases hfit:GJ f r with
           | false=>
             walk_at "r"
             exact fin false (by rw[hdl,hlen,hfit];rfl)
           | true=>
             walk_at "r"
             refine AZ ⟨w,f,r,rfl,hf⟩ ?_
             rw[show O6 (.tuple (.str w::r)) = .tuple (r.take (if UI w then 2 else 1)) from rfl]
             cases htw:UI w with
             | false=>
               match r,hl',hrl,hdl,hfit,fin with
               | [],hl',_,_,_,_=>exact absurd hl' (by show ¬(0=f.cps.size);omega)
               | x::r',hl',hrl,hdl,hfit,fin=>
                 walk_at "r"
                 refine N1 ?_
                 walk_at "r"
                 refine AE rfl rfl ?_
                 walk_at "r"
                 exact fin true (by rw[hdl,hlen,hfit,htw];rfl)
             | true=>
               obtain⟨f2,g0,g1⟩:=ft htw
               match r,hl',hrl,hdl,hfit,fin with
               | [],hl',_,_,_,_=>exact absurd hl' (by show ¬(0=f.cps.size);omega)
               | [_],hl',_,_,_,_=>exact absurd hl' (by show ¬(1=f.cps.size);omega)
               | x::y::r',hl',hrl,hdl,hfit,fin=>
                 obtain⟨nx,ny⟩:=gH g0 g1 hfit
                 obtain⟨zx,rfl,hzx⟩:=QK nx
                 obtain⟨zy,rfl,hzy⟩:=QK ny
                 walk_at "r"
                 refine N1 ?_
                 walk_at "r"
                 refine AE rfl rfl ?_
                 walk_at "r"
                 refine AC (d:=.str zx) (AD (j:=0) rfl) ?_
                 walk_at "r"
                 refine AC (d:=.str zy) (AD (j:=1) rfl) ?_
                 refine AE (BP hzx) (BP hzy) ?_
                 rw[if_pos rfl]
                 exact fin _ (by rw[hdl,hlen,hfit,htw];rfl)
 all_goals
   walk_at "r"
   exact⟨M,zT M,fun d' e=>by cases e;exact⟨rfl,rfl⟩⟩
end
end
section
variable {P:Program}{w:World}{K:Frg}{mg:Str→Option Value}{base:Heap}
abbrev IW:Stmt:=_root_.sT 14
def Y5:List Str:=["deed"]
theorem P6:FnScope Y5 ["deed"] (AA IW):=⟨rfl,rfl,rfl,by decide +kernel,rfl,by decide +kernel,by decide +kernel⟩
section
local macro_rules | `(tactic| walk_at "x")=>`(tactic| first | ((with_reducible show PT _ (.Compare _ [.In] ..) _);exact @EH _ _ _ _ _ _ _ _ (@kIn _ K rfl) (by walk_at "e") (by walk_at "e") (by with_unfolding_all rfl)))
theorem Y6 {f:Addr}{fd:FuncData}(F:Fun K "made_by" "made_by" IW f fd):FnOk P w K mg base CX0 1 f fd ["deed"] (spD K 1 LH):=by
 refine fnD F P6 fun cdv A outer s H E hr=>?_
 have hu:=hr.units
 have nd:=P6.nd
 refine⟨_,by walk_at "b2", ?_⟩
 clear nd
 rintro xs M hl ⟨d,rfl,D,rfl,hD⟩
 rw[D.d_eq]
 walk_at "r"
 refine AC (d:=.str D.word) (AD (j:=0) rfl) ?_
 walk_at "r"
 refine AE D.word_ok (by decide +kernel) ?_
 rw[if_neg nft,N5,gI]
 cases hp:D.isPut with
 | true=>
   walk_at "r"
   refine AC (d:=.str D.fst) (AD (j:=1) rfl) ?_
   refine⟨M,zT M,fun d' e=>?_⟩
   cases e
   refine⟨?_,rfl⟩
   cases D <;> first | rfl | cases hp
 | false=>
   walk_at "r"
   refine AC (d:=.str D.word) (AD (j:=0) rfl) ?_
   walk_at "r"
   refine l3 (ys:=[Str.ofString "name", Str.ofString "split"]) ?_
   rw[vK,lH]
   cases hn:D.isNS with
   | true=>
     have h2:∃y t,D.rest = .str y::t:=by cases D <;> first | exact⟨_,_,rfl⟩ | cases hn
     obtain⟨y,t,h2⟩:=h2
     walk_at "r"
     refine AC (d:=.str y) (AD (j:=2) (by rw[h2];rfl)) ?_
     refine⟨M,zT M,fun d' e=>?_⟩
     cases e
     refine⟨?_,rfl⟩
     cases D <;> first | (cases hn;done) | (simp only[Deed.rest] at h2;injection h2 with h3 h4;injection h3 with h3;subst h3;rfl)
   | false=>
     walk_at "r"
     refine⟨M,zT M,fun d' e=>?_⟩
     cases e
     refine⟨?_,rfl⟩
     cases D <;> first | rfl | (cases hn;done) | (cases hp;done)
end
end
section
variable {P:Program}{w:World}{K:Frg}{mg:Str→Option Value}{base:Heap}
abbrev CU:Stmt:=_root_.sT 33
def PL:List Str:=["number", "groups", "low"]
theorem DN:FnScope PL ["number"] (AA CU):=⟨rfl,rfl,rfl,by decide +kernel,rfl,by decide +kernel,by decide +kernel⟩
section
local macro_rules | `(tactic| walk_at "x")=>`(tactic| first | ((with_reducible show PS _ (.While ..) _);exact @T7 _ _ _ _ _ _ PassesOwn.never (by walk_at "t") (@L8 _ _)) | ((with_reducible show PE _ (.Call (.Attribute _ (Str.ofString "append") _) ..) _);exact @kBm _ K _ _ _ _ _ _ _ _ _ _ _ rfl PySem.F.plainAttrs_list PySem.F.slot_list_append PySem.F.type_list_append (@K8 _) (by walk_at "e") (by walk_at "a") (by rfl) (by rfl) (by rfl) (by rfl) (by rfl)) | ((with_reducible show PE _ (.Call (.Name (Str.ofString "str") _) ..) _);exact @FS _ _ _ _ _ _ _ _ _ (@u9 _ K rfl) (by rfl) n_str PyProof.Rows.boot_str (by walk_at "a") (by decide) (by decide) (by rfl) (by rfl)) | ((with_reducible show PE _ (.Call (.Attribute _ (Str.ofString "join") _) ..) _);exact @UT _ K _ _ _ _ _ _ _ _ _ _ rfl (by walk_at "e") hr.hd rfl n_reversed PyProof.Rows.boot_reversed (by decide) (by decide) (by rfl) (by rfl) (by rfl) (by rfl) (by rfl)))
local macro_rules | `(tactic| walk_at "z")=>`(tactic| first | ((with_reducible show PS _ (.If ..) _);exact @nD _ _ _ _ _ _ _ _ (by walk_at "t") (@L8 _ _) (by walk_at "q")))
theorem P7 {f:Addr}{fd:FuncData}(F:Fun K "show_whole" "show_whole" CU f fd) (n_reversed:mg "reversed"=none) (n_str:mg "str"=none) (g_GROUP:∃t,mg "GROUP"=some (.int (1000000000000000000) t)):FnOk P w K mg base CX0 1 f fd ["number"] (spD K 1 FO):=by
 refine fnD F DN fun cdv A outer s H E hr=>?_
 have hu:=hr.units
 have nd:=DN.nd
 refine⟨_,by walk_at "b2", ?_⟩
 clear nd
 rintro xs M hl ⟨d,rfl,n,rfl,hn⟩
 have hb:big n:=ZA hn
 walk_at "r"
 refine G7 ?_
 walk_at "r"
 intro q hq
 walk_at "dl"
 refine R9 ?_
 walk_at "r"
 refine⟨decide_eq_false (by omega),?_⟩
 walk_at "r"
 refine J8 ?_
 walk_at "dl"
 refine⟨K4 zU,?_⟩
 walk_at "r"
 refine eL (Z9 hb) ?_
 walk_at "r"
 refine FU zU (by show 0 < sizeLine;decide) ?_
 rw[yI]
 walk_at "r"
 refine ME ?_
 walk_at "r"
 refine⟨q,[CK (n:Int)],rfl,zU,?_,?_⟩
 · have:=(IQ hb).2
   rw[show(Str.ofString "").length=0 from rfl,Nat.mul_zero]
   simp only[zI,List.map_nil,List.sum_cons,List.sum_nil]
   omega
 refine⟨M,(zT M).put hq,fun d' e=>?_⟩
 cases e
 exact⟨rfl,rfl⟩
end
section
local macro_rules | `(tactic| walk_at "x")=>`(tactic| first | ((with_reducible show PS _ (.While ..) _);exact @T7 _ _ _ _ _ _ PassesOwn.never (by walk_at "t") (@L8 _ _)) | ((with_reducible show PE _ (.Call (.Attribute _ (Str.ofString "append") _) ..) _);exact @kBm _ K _ _ _ _ _ _ _ _ _ _ _ rfl PySem.F.plainAttrs_list PySem.F.slot_list_append PySem.F.type_list_append (@K8 _) (by walk_at "e") (by walk_at "a") (by rfl) (by rfl) (by rfl) (by rfl) (by rfl)) | ((with_reducible show PE _ (.Call (.Name (Str.ofString "str") _) ..) _);exact @FS _ _ _ _ _ _ _ _ _ (@u9 _ K rfl) (by rfl) n_str PyProof.Rows.boot_str (by walk_at "a") (by decide) (by decide) (by rfl) (by rfl)) | ((with_reducible show PE _ (.Call (.Attribute _ (Str.ofString "join") _) ..) _);exact @UT _ K _ _ _ _ _ _ _ _ _ _ rfl (by walk_at "e") hr.hd rfl n_reversed PyProof.Rows.boot_reversed (by decide) (by decide) (by rfl) (by rfl) (by rfl) (by rfl) (by rfl)))
theorem PM {f:Addr}{fd:FuncData}(F:Fun K "show_whole" "show_whole" CU f fd) (n_reversed:mg "reversed"=none) (n_str:mg "str"=none) (g_GROUP:∃t,mg "GROUP"=some (.int (1000000000000000000) t)) (h_show_whole0:Has P w K mg base "show_whole" 1 ["number"] FO):FnOk P w K mg base CX0 2 f fd ["number"] (spD K 1 GM):=by
 refine fnD F DN fun cdv A outer s H E hr=>?_
 have hu:=hr.units
 have nd:=DN.nd
 refine⟨_,by walk_at "b2", ?_⟩
 clear nd
 rintro xs M hl ⟨d,rfl,n,rfl,hb⟩
 have hb2:=hb.2
 walk_at "r"
 by_cases h0:n < 0
 · rw[if_pos (decide_eq_true h0)]
   obtain⟨m,rfl⟩:∃m:Nat,n = -((m:Int)+1):=⟨(-n - 1).toNat,by omega⟩
   have hm:m+1 < 1000000000000000000:=by have:=hb.1;omega
   walk_at "r"
   refine AZ (d:=.int (- -((m:Int)+1))) ⟨m+1,by rw[Int.neg_neg];rfl,hm⟩ ?_
   rw[Int.neg_neg]
   have hl:(Str.ofString "-").length+(CK ((m:Int)+1)).length≤sizeLine:=by
     have:(CK ((m:Int)+1)).length≤19:=(IQ (n:=((m+1:Nat):Int)) (ZA hm)).2
     rw[show(Str.ofString "-").length=1 from rfl,sizeLine_eq]
     exact zN (Nat.add_le_add_left this 1) (by decide)
   refine HJ hl ?_
   refine⟨M,zT M,fun d' e=>?_⟩
   cases e
   exact⟨congrArg (fun z=>DS.d (.str z)) (UU m).symm,rfl⟩
 · rw[if_neg (by rw[decide_eq_false h0];exact nft)]
   walk_at "r"
   refine G7 ?_
   walk_at "r"
   intro q hq
   walk_at "dl"
   refine R9 ?_
   walk_at "r"
   refine⟨decide_eq_false (by omega),?_⟩
   walk_at "r"
   refine J8 ?_
   walk_at "dl"
   refine⟨K4 zU,?_⟩
   walk_at "r"
   refine eL (Z9 hb) ?_
   walk_at "r"
   refine FU zU (by show 0 < sizeLine;decide) ?_
   rw[yI]
   walk_at "r"
   refine ME ?_
   walk_at "r"
   refine⟨q,[CK n],rfl,zU,?_,?_⟩
   · have:=(IQ hb).2
     rw[show(Str.ofString "").length=0 from rfl,Nat.mul_zero]
     simp only[zI,List.map_nil,List.sum_cons,List.sum_nil]
     omega
   refine⟨M,(zT M).put hq,fun d' e=>?_⟩
   cases e
   exact⟨rfl,rfl⟩
end
end
section
variable {P:Program}{w:World}{K:Frg}{mg:Str→Option Value}{base:Heap}
abbrev B2:Stmt:=_root_.sT 35
def E7:List Str:=["text"]
def CV:List Str:=["sign"]
def CW:List (Option Nat):=[none]
theorem GU:CV.Nodup:=by decide +kernel
theorem E8:FnScope E7 ["text"] (AA B2):=⟨rfl,rfl,rfl,by decide +kernel,rfl,by decide +kernel,by decide +kernel⟩
section
local macro_rules | `(tactic| walk_at "x")=>`(tactic| first | ((with_reducible show PE _ (.ListComp ..) _);exact @CC _ _ _ _ _ _ _ _ _ _ _ _ _ rfl (@L2.CSc.of _ _ (CV) (CW) (AA B2) (E7) (by decide +kernel) rfl rfl) (by walk_at "n") (fun C s' H' ex' pn'=>⟨(by walk_at "g"),(by walk_at "u"),(by walk_at "e")⟩) (by intro _;rfl)) | ((with_reducible show PE _ (.Compare _ [.In] ..) _);exact @EG _ _ _ _ _ _ _ _ (@kIn _ K rfl) (by walk_at "e") (by walk_at "e") (by with_unfolding_all rfl)))
theorem IG {f:Addr}{fd:FuncData}(F:Fun K "is_row_of_figures" "is_row_of_figures" B2 f fd) (n_all:mg "all"=none) (n_len:mg "len"=none) (g_FIGURES:∃t,mg "FIGURES"=some (.str ("0123456789") t)):FnOk P w K mg base CX0 1 f fd ["text"] (spD K 1 C0):=by
 refine fnD F E8 fun cdv A outer s H E hr=>?_
 have hu:=hr.units
 have nd:=E8.nd
 have n0:=GU
 refine⟨_,by walk_at "b1", ?_⟩
 clear nd n0
 rintro xs M hl ⟨d,rfl,s,rfl,hs⟩
 have hz:s.length≤sizeLine:=zN hs.1 (by decide)
 walk_at "r"
 refine MZ hz ?_
 walk_at "r"
 by_cases h0:s.cps.toList=[]
 · rw[show decide ((0:Int) < (s.length:Int))=false from decide_eq_false (by rw[show s.length=s.cps.toList.length from rfl,h0];simp)]
   walk_at "r"
   refine⟨M,zT M,fun d' e=>?_⟩
   cases e
   refine⟨congrArg (fun b=>DS.d (.bool b)) ?_,rfl⟩
   unfold MS;rw[h0];rfl
 · rw[show decide ((0:Int) < (s.length:Int))=true from decide_eq_true (Int.ofNat_lt.mpr (List.length_pos_iff.mpr h0))]
   walk_at "r"
   refine AQ (BV 0) (by simp[CW]) ?_
   refine RV ?_
   walk_at "r"
   refine⟨by simp only[AI,zX];exact zQ hs.1 (by decide),fun _=>true,fun d=>.bool (h7 d),?_,?_⟩
   · intro d hd' M'
     obtain⟨c,hc,rfl⟩:=zL.mp hd'
     walk_at "dl"
     refine⟨rfl,?_⟩
     walk_at "dl"
     refine⟨rfl,rfl,fun _=>?_⟩
     walk_at "r"
     refine YT ?_
     rw[gZ (hs.2 c hc)]
     exact⟨congrArg (fun b=>DS.d (.bool b)) (by simp[h7]),rfl⟩
   · rw[show AI s=s.cps.toList.map fun c=>PyData.str ⟨#[c]⟩ from rfl,bC]
     walk_at "r"
     refine RW ?_
     rw[bD]
     refine⟨M,zT M,fun d' e=>?_⟩
     cases e
     refine⟨congrArg (fun b=>DS.d (.bool b)) ?_,rfl⟩
     unfold MS
     rw[show s.cps.toList.isEmpty=false by simpa using h0];rfl
end
abbrev EK:Stmt:=_root_.sT 34
def PN:List Str:=["text", "below", "figures", "number", "figure"]
theorem JC:FnScope PN ["text"] (AA EK):=⟨rfl,rfl,rfl,by decide +kernel,rfl,by decide +kernel,by decide +kernel⟩
section
local macro_rules | `(tactic| walk_at "x")=>`(tactic| first | ((with_reducible show PE _ (.Call (.Attribute _ (Str.ofString "startswith") _) ..) _);exact @kBm _ K _ _ _ _ _ _ _ _ _ _ _ rfl PySem.F.plainAttrs_str PySem.F.slot_str_startswith PySem.F.type_str_startswith (@MA _ K rfl) (by walk_at "e") (by walk_at "a") (by rfl) (by rfl) (by rfl) (by rfl) (by rfl)) | ((with_reducible show PE _ (.BinOp _ .Mult ..) _);exact @J2 _ _ _ _ _ _ _ _ (@pB _) (by walk_at "e") (by walk_at "e")) | ((with_reducible show PE _ (.Call (.Attribute _ (Str.ofString "index") _) ..) _);exact @kBm _ K _ _ _ _ _ _ _ _ _ _ _ rfl PySem.F.plainAttrs_str PySem.F.slot_str_index PySem.F.type_str_index (@rX _ K rfl) (by walk_at "e") (by walk_at "a") (by rfl) (by rfl) (by rfl) (by rfl) (by rfl)))
theorem PP {f:Addr}{fd:FuncData}(F:Fun K "read_whole" "read_whole" EK f fd) (g_FIGURES:∃t,mg "FIGURES"=some (.str ("0123456789") t)) (h_is_row_of_figures:Has P w K mg base "is_row_of_figures" 1 ["text"] C0):FnOk P w K mg base CX0 2 f fd ["text"] (spD K 1 CP):=by
 refine fnD F JC fun cdv A outer s H E hr=>?_
 have hu:=hr.units
 have nd:=JC.nd
 refine⟨_,by walk_at "b2", ?_⟩
 clear nd
 rintro xs M hl ⟨d,rfl,s,rfl,hs⟩
 have hz:s.length≤sizeLine:=zN hs.1 (by decide)
 have hf:=m5 hs
 have hz2:(⟨⟨CA s.cps.toList⟩⟩:Str).length≤sizeLine:=zN hf.1 (by decide)
 generalize hbl:decide (s.cps.toList.head?=some 45)=bl
 walk_at "r"
 refine J8 ?_
 walk_at "dl"
 refine⟨K3,?_⟩
 walk_at "r"
 refine QN ?_
 rw[SH,hbl]
 refine JN (fun ρ1 M1=>M1=M∧ρ1=[some (.d (.str s)),some (.d (.bool bl)),some (.d (.str ⟨⟨CA s.cps.toList⟩⟩)),none,none]) ?_ ?_
 · walk_at "r"
   cases bl with
   | false=>
     rw[if_neg nft]
     walk_at "r"
     refine⟨rfl,?_⟩
     rw[show(⟨⟨CA s.cps.toList⟩⟩:Str)=s from GG (by unfold CA;rw[if_neg (of_decide_eq_false hbl)])]
     rfl
   | true=>
     rw[if_pos rfl]
     walk_at "r"
     refine HK hz ?_
     rw[show Txt.slice s (some 1) none=⟨⟨CA s.cps.toList⟩⟩ from GG (by rw[show(1:Int)=((1:Nat):Int) from rfl,ES];unfold CA;rw[if_pos (of_decide_eq_true hbl),List.drop_one])]
     exact⟨rfl,rfl⟩
 · rintro ρ1 M1 ⟨rfl,rfl⟩
   have no:∀b,(MS (CA s.cps.toList)&&!(decide ((CA s.cps.toList).head?=some 48)&&!decide (s.cps.toList=[48])))=b→rwL s.cps.toList=if b then some (if bl then - MR (CA s.cps.toList) 0 else MR (CA s.cps.toList) 0) else none:=fun b hb=>by
     unfold rwL
     rw[hb,← hbl]
     cases b <;> simp
   generalize hfl:CA s.cps.toList=fl at *
   have none_ok:(MS fl&&!(decide (fl.head?=some 48)&&!decide (s.cps.toList=[48])))=false→∃M',M'.Sub M1∧CP.post [.d (.str s)] M1 (.d .none) M':=fun hb=>⟨M1,zT M1,fun d' e=>by
     cases e
     refine⟨congrArg DS.d ?_,rfl⟩
     show _=XE (rwL s.cps.toList)
     rw[no false hb];rfl⟩
   refine JN (fun ρ2 M2=>M2=M1∧ρ2=[some (.d (.str s)),some (.d (.bool bl)),some (.d (.str ⟨⟨fl⟩⟩)),none,none]∧(MS fl&&!(decide (fl.head?=some 48)&&!decide (s.cps.toList=[48])))=true) ?_ ?_
   · walk_at "r"
     refine AZ ⟨_,rfl,hf⟩ ?_
     rw[show uO (.str ⟨⟨fl⟩⟩) = .bool (MS fl) from rfl]
     cases hrow:MS fl with
     | false=>
       walk_at "r"
       exact none_ok (by rw[hrow];rfl)
     | true=>
       obtain⟨y,ys,rfl⟩:∃y ys,fl=y::ys:=by cases fl with | nil=>cases hrow | cons y ys=>exact⟨y,ys,rfl⟩
       have hy:=hf.2 y (show y∈y::ys by simp)
       have h0s:zH (.str (Str.ofString "0"))=true:=by decide +kernel
       walk_at "r"
       refine K5 (c:=y) hz2 (AD (j:=0) rfl) ?_
       walk_at "r"
       refine AE (JV fun c hc'=>by have e:c=y:=(by simpa using hc');rw[e];omega) h0s ?_
       have e48:((⟨#[y]⟩:Str)==Str.ofString "0")=decide ((y::ys).head?=some 48):=by
         rw[show Str.ofString "0"=⟨#[48]⟩ by decide +kernel,Bool.eq_iff_iff,beq_iff_eq,decide_eq_true_iff]
         exact⟨fun e=>by injection e with e;simpa using e,fun e=>by rw[show y=48 by simpa using e]⟩
       have es:(s==Str.ofString "0")=decide (s.cps.toList=[48]):=by
         rw[show Str.ofString "0"=⟨#[48]⟩ by decide +kernel,Bool.eq_iff_iff,beq_iff_eq,decide_eq_true_iff]
         exact⟨fun e=>by rw[e],fun e=>GG e⟩
       rw[if_neg nft,XD,e48]
       rw[hrow] at none_ok
       cases h8:decide ((y::ys).head?=some 48) with
       | false=>
         walk_at "r"
         exact⟨rfl,rfl,rfl⟩
       | true=>
         rw[h8] at none_ok
         walk_at "r"
         refine AE (JV hs.2) h0s ?_
         rw[if_pos rfl,XD,es]
         cases h9:decide (s.cps.toList=[48]) with
         | true=>
           walk_at "r"
           exact⟨rfl,rfl,rfl⟩
         | false=>
           rw[h9] at none_ok
           walk_at "r"
           exact none_ok rfl
   · rintro ρ2 M2 ⟨rfl,rfl,hgo⟩
     have hall:∀c∈fl,48≤c∧c≤57:=fun c hc=>by
       rw[Bool.and_eq_true] at hgo
       have h1:=hgo.1
       unfold MS at h1
       rw[Bool.and_eq_true] at h1
       exact UV.mp (List.all_eq_true.mp h1.2 c hc)
     have some_ok:∀n,n=(if bl=true then - MR fl 0 else MR fl 0)→∃M',M'.Sub M2∧CP.post [.d (.str s)] M2 (.d (.int n)) M':=fun n hn=>⟨M2,zT M2,fun d' e=>by
       cases e
       refine⟨congrArg DS.d ?_,rfl⟩
       show _=XE (rwL s.cps.toList)
       rw[no true hgo,hn];rfl⟩
     walk_at "r"
     refine NN ?_
     refine RV ?_
     walk_at "r"
     refine⟨fun k ρ' M'=>M'=M2∧∃z,ρ'=[some (.d (.str s)),some (.d (.bool bl)),some (.d (.str ⟨⟨fl⟩⟩)),some (.d (.int (MR (fl.take k) 0))),z],⟨rfl,_,rfl⟩,?_,?_⟩
     · rintro k d ρ' M' hdk ⟨rfl,z,rfl⟩
       unfold AI at hdk
       rw[zF] at hdk
       cases hk:fl[k]? with
       | none=>rw[show(⟨⟨fl⟩⟩:Str).cps.toList[k]?=none from hk] at hdk;cases hdk
       | some c=>
         rw[show(⟨⟨fl⟩⟩:Str).cps.toList[k]?=some c from hk] at hdk
         cases hdk
         obtain⟨r,hr⟩:=rY (hall c (yN hk))
         walk_at "r"
         refine J8 ?_
         walk_at "r"
         refine⟨K3,?_⟩
         walk_at "r"
         refine gX hr ?_
         walk_at "r"
         refine⟨rfl,some (.d (.str ⟨#[c]⟩)),?_⟩
         have ev:MR (fl.take (k+1)) 0=MR (fl.take k) 0*10+((c - 48:Nat):Int):=by
           unfold MR
           rw[List.take_add_one,hk,List.foldl_append]
           rfl
         rw[ev]
         rfl
     · rintro ρ' M' ⟨rfl,z,rfl⟩
       rw[show(AI (⟨⟨fl⟩⟩:Str)).length=fl.length by simp[AI],List.take_length]
       walk_at "r"
       cases bl with
       | true=>
         rw[if_pos rfl]
         walk_at "r"
         exact some_ok _ rfl
       | false=>
         rw[if_neg nft]
         walk_at "r"
         exact some_ok _ rfl
end
end
section
variable {P:Program}{w:World}{K:Frg}{mg:Str→Option Value}{base:Heap}
abbrev E9:Stmt:=_root_.sT 37
def L4:List Str:=["deed"]
def IH:List Str:=["part"]
def II:List (Option Nat):=[none]
theorem P8:IH.Nodup:=by decide +kernel
theorem L5:FnScope L4 ["deed"] (AA E9):=⟨rfl,rfl,rfl,by decide +kernel,rfl,by decide +kernel,by decide +kernel⟩
section
local macro_rules | `(tactic| walk_at "x")=>`(tactic| first | ((with_reducible show PE _ (.Call (.Attribute _ (Str.ofString "join") _) ..) _);exact @kBm _ K _ _ _ _ _ _ _ _ _ _ _ rfl PySem.F.plainAttrs_str PySem.F.slot_str_join PySem.F.type_str_join (@uA _ K rfl) (by walk_at "e") (by walk_at "a") (by rfl) (by rfl) (by rfl) (by rfl) (by rfl)) | ((with_reducible show PE _ (.ListComp ..) _);exact @CC _ _ _ _ _ _ _ _ _ _ _ _ _ rfl (@L2.CSc.of _ _ (IH) (II) (AA E9) (L4) (by decide +kernel) rfl rfl) (by walk_at "n") (fun C s' H' ex' pn'=>⟨(by walk_at "g"),(by walk_at "u"),(by walk_at "e")⟩) (by intro _;rfl)))
theorem SY {f:Addr}{fd:FuncData}(F:Fun K "show_deed" "show_deed" E9 f fd) (n_isinstance:mg "isinstance"=none) (n_str:mg "str"=none) (h_show_whole:Has P w K mg base "show_whole" 2 ["number"] GM):FnOk P w K mg base CX0 3 f fd ["deed"] (spD K 1 HW):=by
 refine fnD F L5 fun cdv A outer s H E hr=>?_
 have hu:=hr.units
 have nd:=L5.nd
 have n0:=P8
 refine⟨_,by walk_at "b1", ?_⟩
 clear nd n0
 rintro xs M hl ⟨d,rfl,D,rfl,hr,hf⟩
 have hp:=KJ hr hf
 rw[show D.d = .tuple D.list from D.d_eq]
 walk_at "r"
 refine J8 ?_
 walk_at "dl"
 refine⟨K3,?_⟩
 walk_at "r"
 refine AQ (BV 0) (by simp[II]) ?_
 refine GA ?_
 walk_at "r"
 refine⟨zQ (LQ D) (by decide),fun _=>true,fun d=>.str (EW d),?_,?_⟩
 · intro d hd M'
   rcases hp d hd with ⟨s,rfl,h1,h2⟩ | ⟨n,rfl,hb⟩
   · walk_at "r"
     refine⟨rfl,?_⟩
     walk_at "dl"
     refine⟨rfl,rfl,fun _=>?_⟩
     walk_at "r"
     exact⟨rfl,rfl⟩
   · walk_at "r"
     refine⟨rfl,?_⟩
     walk_at "dl"
     refine⟨rfl,rfl,fun _=>?_⟩
     walk_at "r"
     refine AZ ⟨n,rfl,hb⟩ ?_
     exact⟨rfl,rfl⟩
 rw[List.filter_eq_self.mpr (fun _ _=>rfl),show D.list.map (fun d=>PyData.str (EW d))=(D.list.map EW).map .str by rw[zD];rfl]
 walk_at "r"
 refine kF (bS hr hf) ?_
 refine⟨M,zT M,fun d' e=>?_⟩
 cases e
 exact⟨rfl,rfl⟩
end
end
section
variable {P:Program}{w:World}{K:Frg}{mg:Str→Option Value}{base:Heap}
abbrev BN:Stmt:=RC 0 (_root_.sT 17)
theorem VU {f C S:Addr}{fd:FuncData}(F:Fun K "__init__" "NoText.__init__" BN f fd) (c:XCls K C S (.ref f)) (cs:XSet K C "part"):FnOk P w K mg base CX0 1 f fd ["self", "part"] (LN C "part"):=
 ZE F ⟨rfl,rfl,rfl,by decide +kernel,rfl,by decide +kernel,by decide +kernel⟩ rfl c cs (by decide) (fun _=>rfl) (fun X hN hS=>pv 0 (by rw[hN];rfl) (by rw[hS];exact Or.inl rfl)) (fun X hN hS=>pv 1 (by rw[hN];rfl) (by rw[hS];exact Or.inl rfl))
abbrev CJ:Stmt:=_root_.sT 38
def GV:List Str:=["text", "word", "parts", "form", "deed"]
def IJ:List Str:=["sign", "part"]
def IK:List (Option Nat):=[none,none]
theorem P9:IJ.Nodup:=by decide +kernel
theorem EL:FnScope GV ["text"] (AA CJ):=⟨rfl,rfl,rfl,by decide +kernel,rfl,by decide +kernel,by decide +kernel⟩
section
local macro_rules | `(tactic| walk_at "x")=>`(tactic| first | ((with_reducible show PS _ (.Raise (some (.Call (.Name (Str.ofString "NoText") _) ..)) ..) _);exact @ZD _ _ _ _ _ (F5 (CXE P w) P w K mg base GV "read_deed" (AA CJ) f cdv A outer s H E) (fun _=>E) _ _ _ _ _ _ _ _ _ rfl rfl rfl rfl rfl r_NoText (hr.mono (by decide)) rfl (by walk_at "a") (by decide) (by rfl)) | ((with_reducible show PS _ (.Assign [.Tuple ..] ..) _);exact @RK _ _ _ _ _ _ (by walk_at "e") (by walk_at "g") (by rfl) (by rfl) (by rfl)) | ((with_reducible show PE _ (.Call (.Attribute _ (Str.ofString "split") _) ..) _);exact @kBm _ K _ _ _ _ _ _ _ _ _ _ _ rfl PySem.F.plainAttrs_str PySem.F.slot_str_split PySem.F.type_str_split (@rW _ K rfl) (by walk_at "e") (by walk_at "a") (by rfl) (by rfl) (by rfl) (by rfl) (by rfl)) | ((with_reducible show PG _ (.Tuple ..) _);exact @uR _ K _ _ _ _ _ rfl rfl (@NA _ _ _ _ _ (@MX _ _ (1) _ EL.nd rfl (by walk_at "lc") (by walk_at "or")) (@NA _ _ _ _ _ (@MX _ _ (2) _ EL.nd rfl (by walk_at "lc") (by walk_at "or")) (@Y9 _) (by rfl)) (by rfl)) rfl (by rfl) (by rfl)) | ((with_reducible show PE _ (.ListComp ..) _);exact @CC _ _ _ _ _ _ _ _ _ _ _ _ _ rfl (@L2.CSc.of _ _ (IJ) (IK) (AA CJ) (GV) (by decide +kernel) rfl rfl) (by walk_at "n") (fun C s' H' ex' pn'=>⟨(by walk_at "g"),(by walk_at "u"),(by walk_at "e")⟩) (by intro _;rfl)) | ((with_reducible show PI _ _ (.Call (.Name (Str.ofString "zip") _) ..) _);exact @sI _ K _ _ _ _ _ _ _ _ rfl rfl n_zip (by walk_at "a") (by rfl) (by rfl)) | ((with_reducible show PG _ (.Tuple ..) _);exact @rB _ K _ _ _ _ (2) rfl rfl (by walk_at "j") (by rfl) (by rfl)))
theorem SZ {f:Addr}{fd:FuncData}{c_S c_NoText:Addr}(F:Fun K "read_deed" "read_deed" CJ f fd) (n_isinstance:mg "isinstance"=none) (n_len:mg "len"=none) (n_str:mg "str"=none) (n_tuple:mg "tuple"=none) (n_zip:mg "zip"=none) (r_NoText:HasR P w K mg base "NoText" "part" c_NoText c_S) (h_form_of:Has P w K mg base "form_of" 1 ["word"] FV) (h_is_deed:Has P w K mg base "is_deed" 5 ["thing"] FW) (h_read_whole:Has P w K mg base "read_whole" 2 ["text"] CP):FnOk P w K mg base (CXE P w) 6 f fd ["text"] (spX K 1 (DY c_NoText)):=by
 refine mJ F EL fun cdv A outer s H E hr=>?_
 have hu:=hr.units
 have nd:=EL.nd
 have n0:=P9
 refine⟨_,by walk_at "b2", ?_⟩
 clear nd n0
 rintro xs M hl ⟨d,rfl,hd⟩
 have xn:rdD d=none→∃M2:Own,M2.Sub M∧(DY c_NoText).xpost [.d d] M (.ref c_NoText) [(Str.ofString "part", .none)] M2:=fun h=>
   ⟨M,zT M,fun d' e=>by cases e;exact⟨h,rfl,rfl,rfl⟩⟩
 cases d with
 | str x=>
   have hx:okS x:=hd
   have hs:=bQ (y:=Str.ofString " ") hx
   have hc:=bR (x:=x) (y:=Str.ofString " ")
   have hx5:x.length≤5000:=hx.1
   have hrd:rdD (.str x)=rdL (Txt.split x (Str.ofString " ")):=rfl
   walk_at "r"
   refine FI ?_
   refine S3 ?_
   refine J8 ?_
   walk_at "dl"
   refine⟨K3,?_⟩
   walk_at "r"
   refine gW (by decide +kernel) (zN (Nat.add_le_add_right hx.1 2) (by decide)) ?_
   revert hs hc hrd
   generalize Txt.split x (Str.ofString " ")=ws
   intro hs hc hrd
   cases ws with
   | nil=>exact absurd hc.1 (by decide)
   | cons w ps=>
   have hw:=hs w (by simp)
   have hp:∀p∈ps,okS p:=fun p hp=>hs p (yV _ hp)
   have hpl:ps.length≤5001:=by have:=hc.2;rw[yR] at this;omega
   rw[zI]
   refine⟨_,rfl,?_⟩
   refine mL (NP (NP (YU ?_)))
   walk_at "r"
   refine AZ trivial ?_
   cases hf:CY.lookup w with
   | none=>
     rw[show KA (.str w) = .none by show U3 (CY.lookup w)=_;rw[hf];rfl]
     walk_at "r"
     refine N2 ?_
     walk_at "r"
     exact xn (by rw[hrd];unfold rdL;dsimp only;rw[hf])
   | some f=>
     obtain⟨fa,fs,_⟩:=JS hf
     rw[show KA (.str w) = .str f by show U3 (CY.lookup w)=_;rw[hf];rfl]
     walk_at "r"
     refine N2 ?_
     walk_at "r"
     refine N0 ?_
     rw[zX]
     walk_at "r"
     refine MZ (zN (show f.length≤4 from fs) (by decide)) ?_
     walk_at "r"
     refine AE rfl rfl ?_
     rw[if_pos rfl]
     by_cases hlen:ps.length=f.cps.size
     · rw[show(!PyData.eqv (.int (ps.length:Int)) (.int (f.length:Int)))=false by simp only[PyData.eqv];rw[show f.length=f.cps.size from rfl,hlen];simp]
       walk_at "r"
       refine AQ (WG (GD (GD WF))) (by simp[IK]) ?_
       refine iM ?_
       walk_at "r"
       refine⟨_,_,rfl,fa,by rw[zX];omega,?_,fun _=>true,uU,?_,?_⟩
       · unfold IZ
         rw[zX,List.length_zip,zX]
         exact zQ (show _≤5001 by omega) (by decide)
       · intro d hd' M'
         obtain⟨⟨s1,p1⟩,hm,rfl⟩:=zL.mp hd'
         obtain⟨c,hc,rfl⟩:=zL.mp (List.of_mem_zip hm).1
         obtain⟨q,hq,e⟩:=zL.mp (List.of_mem_zip hm).2
         have e':p1 = .str q:=e.symm
         subst e'
         have hc128:c < 128:=by
           have:=Array.all_eq_true'.mp fa c (by simpa using hc)
           simpa using this
         walk_at "r"
         refine⟨rfl,?_⟩
         walk_at "dl"
         refine⟨rfl,rfl,fun _=>?_⟩
         walk_at "r"
         refine AE (VF hc128) (by decide +kernel) ?_
         rw[if_neg nft,XD]
         cases hcn:((⟨#[c]⟩:Str)==Str.ofString "n") with
         | true=>
           walk_at "r"
           refine⟨congrArg DS.d ?_,rfl⟩
           show PyData.str q=if ((⟨#[c]⟩:Str)==Str.ofString "n") then .str q else rwD (.str q)
           rw[hcn];rfl
         | false=>
           walk_at "r"
           refine AZ ⟨q,rfl,hp q hq⟩ ?_
           refine⟨congrArg DS.d ?_,rfl⟩
           show rwD (.str q)=if ((⟨#[c]⟩:Str)==Str.ofString "n") then .str q else rwD (.str q)
           rw[hcn];rfl
       rw[iQ]
       walk_at "r"
       refine GC ?_
       have hpr:=XV hlen
       refine C8 (show 1+(C6 f ps).length≤sizeLine by rw[hpr];exact zN (Nat.add_le_add_left fs 1) (by decide)) ?_
       rw[show [PyData.str w]++C6 f ps = .str w::C6 f ps from rfl]
       walk_at "r"
       refine AZ (show okP (.tuple (.str w::C6 f ps)) from ⟨by rw[yR,hpr];omega,bV hw hp⟩) ?_
       cases hdd:AU (.str w::C6 f ps) with
       | true=>
         rw[show N6 (.tuple (.str w::C6 f ps))=true from hdd]
         walk_at "r"
         refine⟨M,zT M,fun d' e=>?_⟩
         cases e
         exact⟨_,by rw[hrd];unfold rdL;dsimp only;rw[hf];dsimp only;rw[if_pos hlen,if_pos hdd],rfl,rfl⟩
       | false=>
         rw[show N6 (.tuple (.str w::C6 f ps))=false from hdd]
         walk_at "r"
         exact xn (by rw[hrd];unfold rdL;dsimp only;rw[hf];dsimp only;rw[if_pos hlen,hdd];rfl)
     · rw[show(!PyData.eqv (.int (ps.length:Int)) (.int (f.length:Int)))=true by simp only[PyData.eqv];rw[show f.length=f.cps.size from rfl];simp;omega]
       walk_at "r"
       exact xn (by rw[hrd];unfold rdL;dsimp only;rw[hf];dsimp only;rw[if_neg hlen])
 | _=>
   walk_at "r"
   exact xn rfl
end
end
section
variable {P:Program}{w:World}{K:Frg}{mg:Str→Option Value}{base:Heap}
abbrev FM:Stmt:=_root_.sT 41
def T0:List Str:=["_law_pack_here", "_law_size", "_law_digit", "_law_turn", "_law_upper", "_law_lower"]
theorem L6:FnScope T0 ["_law_pack_here", "_law_size"] (AA FM):=⟨rfl,rfl,rfl,by decide +kernel,rfl,by decide +kernel,by decide +kernel⟩
section
local macro_rules | `(tactic| walk_at "x")=>`(tactic| first | ((with_reducible show PS _ (.Assign [.Tuple ..] ..) _);exact @RK _ _ _ _ _ _ (by walk_at "e") (by walk_at "g") (by rfl) (by rfl) (by rfl)) | ((with_reducible show PG _ (.Tuple ..) _);exact @nX _ K _ _ _ _ (2) rfl rfl (by walk_at "j") (by rfl) (by rfl)) | ((with_reducible show PG _ (.Subscript ..) _);exact @oY _ _ _ _ _ _ _ (by walk_at "e") (by walk_at "e") (@cW _) (by intro _;rfl)) | ((with_reducible show PS _ (.Assign [.Subscript ..] ..) _);exact @RK _ _ _ _ _ _ (by walk_at "e") (by walk_at "g") (by rfl) (by rfl) (by rfl)) | ((with_reducible show PE _ (.BinOp _ .Mult ..) _);exact @J2 _ _ _ _ _ _ _ _ (@rE _ K rfl) (by walk_at "e") (by walk_at "e")))
theorem T1 {f:Addr}{fd:FuncData}(F:Fun K "_law_take" "_law_take" FM f fd) (n_divmod:mg "divmod"=none) (n_range:mg "range"=none):FnOk P w K mg base CX0 1 f fd ["_law_pack_here", "_law_size"] (spD K 2 B6):=by
 refine fnD F L6 fun cdv A outer s H E hr=>?_
 have hu:=hr.units
 have nd:=L6.nd
 refine⟨_,by walk_at "b2", ?_⟩
 clear nd
 rintro xs M hl ⟨p,size,o,rfl,m,⟨a,v,rfl⟩,h0,h1⟩
 have h64:size < 2 ^ 64:=by rw[p64];omega
 walk_at "r"
 refine AE rfl rfl ?_
 rw[if_neg nft]
 walk_at "r"
 refine NH (fun h=>?_) (fun h=>?_)
 · walk_at "dl"
   refine S3 ?_
   walk_at "r"
   refine QO h0 h1 ?_
   walk_at "r"
   refine⟨_,zT _,fun p' size' e=>?_⟩
   cases e
   exact⟨_,_,rfl,Int.emod_nonneg _ (by omega),Int.emod_lt_of_pos _ h0,⟨a,_,rfl⟩,rfl⟩
 · walk_at "r"
   refine NN ?_
   refine IO ?_
   walk_at "r"
   refine⟨by decide,by decide,?_⟩
   refine⟨fun k ρ' M'=>∃(v':Int) (x y z u:Option DS),M'=M.put p (.l [.int a,.int v'])∧ρ'=[some (.loc p),some (.d (.int size)),x,y,z,u],⟨v,_,_,_,_,(Own.put_self m).symm,rfl⟩,?_,?_⟩
   · rintro k d ρ' M' hd ⟨v',x,y,z,u,rfl,rfl⟩
     walk_at "r"
     refine S3 ?_
     walk_at "r"
     refine QO (by decide) (by decide) ?_
     walk_at "r"
     exact⟨_,_,_,_,_,by rw[yI];rfl,rfl⟩
   · rintro ρ' M' ⟨v',x,y,z,u,rfl,rfl⟩
     walk_at "r"
     refine⟨_,zT _,fun p' size' e=>?_⟩
     cases e
     exact⟨_,_,rfl,Int.emod_nonneg _ (by omega),Int.emod_lt_of_pos _ h0,⟨a,v',rfl⟩,rfl⟩
end
abbrev EM:Stmt:=_root_.sT 44
def PQ:List Str:=["_law_pack_here"]
theorem JD:FnScope PQ ["_law_pack_here"] (AA EM):=⟨rfl,rfl,rfl,by decide +kernel,rfl,by decide +kernel,by decide +kernel⟩
theorem PR {f:Addr}{fd:FuncData}(F:Fun K "_law_place" "_law_place" EM f fd) (h__law_take:Has P w K mg base "_law_take" 1 ["_law_pack_here", "_law_size"] B6):FnOk P w K mg base CX0 2 f fd ["_law_pack_here"] (spD K 1 BW):=by
 refine fnD F JD fun cdv A outer s H E hr=>?_
 have hu:=hr.units
 have nd:=JD.nd
 refine⟨_,by walk_at "b1", ?_⟩
 clear nd
 rintro xs M hl ⟨p,o,rfl,m,ho⟩
 walk_at "r"
 refine NL ?_
 walk_at "r"
 refine AV m ho (by decide) (by decide) fun v o1 a0 a1 ho1=>?_
 walk_at "r"
 refine AV zU ho1 (by decide) (by decide) fun v2 o2 b0 b1 ho2=>?_
 have hv:v2=0∨v2=1∨v2=2:=by omega
 rcases hv with rfl | rfl | rfl
 · refine FA (d:=.int 0) rfl ?_
   refine⟨_,zT _,fun p' e=>?_⟩
   cases e
   exact⟨0,o2,rfl,by decide,by decide,ho2,by rw[yI]⟩
 · refine FA (d:=.int 999) rfl ?_
   refine⟨_,zT _,fun p' e=>?_⟩
   cases e
   exact⟨999,o2,rfl,by decide,by decide,ho2,by rw[yI]⟩
 · refine FA (d:=.int v) rfl ?_
   refine⟨_,zT _,fun p' e=>?_⟩
   cases e
   exact⟨v,o2,rfl,a0,by omega,ho2,by rw[yI]⟩
abbrev EN:Stmt:=_root_.sT 43
def PU:List Str:=["_law_pack_here", "_law_pick", "_law_number"]
theorem JE:FnScope PU ["_law_pack_here"] (AA EN):=⟨rfl,rfl,rfl,by decide +kernel,rfl,by decide +kernel,by decide +kernel⟩
section
local macro_rules | `(tactic| walk_at "x")=>`(tactic| first | ((with_reducible show PE _ (.BinOp _ .Mult ..) _);exact @J2 _ _ _ _ _ _ _ _ (@rE _ K rfl) (by walk_at "e") (by walk_at "e")))
theorem PV {f:Addr}{fd:FuncData}(F:Fun K "_law_count" "_law_count" EN f fd) (h__law_take:Has P w K mg base "_law_take" 1 ["_law_pack_here", "_law_size"] B6):FnOk P w K mg base CX0 2 f fd ["_law_pack_here"] (spD K 1 EQ):=by
 refine fnD F JE fun cdv A outer s H E hr=>?_
 have hu:=hr.units
 have nd:=JE.nd
 refine⟨_,by walk_at "b2", ?_⟩
 clear nd
 rintro xs M hl ⟨p,o,rfl,m,ho⟩
 walk_at "r"
 refine AV m ho (by decide) (by decide) fun v o1 a0 a1 ho1=>?_
 walk_at "r"
 refine NH (fun h=>?_) (fun h=>?_)
 · walk_at "r"
   refine AV zU ho1 (by decide) (by decide) fun v2 o2 b0 b1 ho2=>?_
   walk_at "r"
   refine⟨_,zT _,fun p' e=>?_⟩
   cases e
   exact⟨_,o2,rfl,⟨by omega,by omega⟩,ho2,by rw[yI]⟩
 · walk_at "r"
   refine AE rfl rfl ?_
   walk_at "r"
   refine NH (fun h=>?_) (fun h=>?_)
   · walk_at "r"
     refine NL ?_
     walk_at "r"
     refine AV zU ho1 (by decide) (by decide) fun v2 o2 b0 b1 ho2=>?_
     obtain⟨x,ex,mx⟩:=U1 (xs:=[PyData.int (10 ^ Int.toNat 12),.int (0 - 10 ^ Int.toNat 12)]) b0 b1
     obtain⟨i,rfl,hi⟩:∃i:Int,x = .int i∧(-1000000000000≤i∧i≤1000000000000):=by
       simp only[yX,xX,or_false] at mx
       rcases mx with rfl | rfl
       · exact⟨_,rfl,by decide,by decide⟩
       · exact⟨_,rfl,by decide,by decide⟩
     refine FA ex ?_
     refine⟨_,zT _,fun p' e=>?_⟩
     cases e
     exact⟨_,o2,rfl,hi,ho2,by rw[yI]⟩
   · walk_at "r"
     refine AV zU ho1 (by decide) (by decide) fun v2 o2 b0 b1 ho2=>?_
     rw[yI]
     refine JN (fun ρ1 M1=>∃(n:Int) (o3:MO) (a b:Option DS),0≤n∧n < 1000000000000∧B5 o3∧M1=M.put p o3∧ρ1=[a,b,some (.d (.int n))]∧a=some (.loc p)) ?_ ?_
     · walk_at "r"
       refine AE rfl rfl ?_
       walk_at "r"
       have e6:(10:Int) ^ Int.toNat 6=1000000:=by decide
       rw[e6] at b1
       refine NH (fun h=>?_) (fun h=>?_)
       · walk_at "r"
         refine AV zU ho2 (by decide) (by decide) fun v3 o3 c0 c1 ho3=>?_
         rw[e6] at c1
         rw[yI,e6]
         walk_at "r"
         exact⟨_,o3,_,_,by omega,by omega,ho3,rfl,rfl,rfl⟩
       · walk_at "r"
         exact⟨v2,o2,_,_,b0,by omega,ho2,rfl,rfl,rfl⟩
     · rintro ρ1 M1 ⟨n,o3,a,b,n0,n1,ho3,rfl,rfl,rfl⟩
       walk_at "r"
       refine AV zU ho3 (by decide) (by decide) fun v4 o4 d0 d1 ho4=>?_
       walk_at "r"
       refine fF (CMul.ok (RY (by omega) (by omega))) ?_
       refine⟨_,zT _,fun p' e=>?_⟩
       cases e
       have hb : -1000000000000≤n*(1 - 2*v4)∧n*(1 - 2*v4)≤1000000000000:=by
         obtain rfl | rfl:v4=0∨v4=1:=by omega
         · rw[show(1 - 2*0:Int)=1 from rfl,Int.mul_one];omega
         · rw[show(1 - 2*1:Int) = -1 from rfl,Int.mul_neg,Int.mul_one];omega
       exact⟨_,o4,rfl,hb,ho4,by rw[yI]⟩
end
end
section
variable {P:Program}{w:World}{K:Frg}{mg:Str→Option Value}{base:Heap}
abbrev BX:Stmt:=_root_.sT 42
def FP:List Str:=["_law_pack_here", "_law_amount", "_law_letters", "_law_turn", "_law_pick", "_law_size"]
def GZ:List Str:=["_law_k", "_law_letters"]
def H0:List (Option Nat):=[none,some 2]
theorem MT:GZ.Nodup:=by decide +kernel
def HA:List Str:=["_law_k", "_law_letters", "_law_size"]
def EB:List (Option Nat):=[none,some 2,some 5]
theorem MU:HA.Nodup:=by decide +kernel
theorem JF:FnScope FP ["_law_pack_here", "_law_amount"] (AA BX):=⟨rfl,rfl,rfl,by decide +kernel,rfl,by decide +kernel,by decide +kernel⟩
section
local macro_rules | `(tactic| walk_at "x")=>`(tactic| first | ((with_reducible show PE _ (.ListComp ..) _);exact @CC _ _ _ _ _ _ _ _ _ _ _ _ _ rfl (@L2.CSc.of _ _ (GZ) (H0) (AA BX) (FP) (by decide +kernel) rfl rfl) (by walk_at "n") (fun C s' H' ex' pn'=>⟨(by walk_at "g"),(by walk_at "u"),(by walk_at "e")⟩) (by intro _;rfl)) | ((with_reducible show PE _ (.BinOp _ .Mult ..) _);exact @J2 _ _ _ _ _ _ _ _ (@rE _ K rfl) (by walk_at "e") (by walk_at "e")) | ((with_reducible show PE _ (.ListComp ..) _);exact @CC _ _ _ _ _ _ _ _ _ _ _ _ _ rfl (@L2.CSc.of _ _ (HA) (EB) (AA BX) (FP) (by decide +kernel) rfl rfl) (by walk_at "n") (fun C s' H' ex' pn'=>⟨(by walk_at "g"),(by walk_at "u"),(by walk_at "e")⟩) (by intro _;rfl)))
theorem PX {f:Addr}{fd:FuncData}(F:Fun K "_law_names" "_law_names" BX f fd) (n_range:mg "range"=none) (h__law_take:Has P w K mg base "_law_take" 1 ["_law_pack_here", "_law_size"] B6):FnOk P w K mg base CX0 2 f fd ["_law_pack_here", "_law_amount"] (spD K 2 CN):=by
 refine fnD F JF fun cdv A outer s H E hr=>?_
 have hu:=hr.units
 have nd:=JF.nd
 have n0:=MT
 have n1:=MU
 refine⟨_,by walk_at "b2", ?_⟩
 clear nd n0 n1
 rintro xs M hl ⟨p,n,o,rfl,m,ho,hn0,hn1⟩
 obtain⟨N,rfl⟩:∃N:Nat,n=(N:Int):=⟨n.toNat,by omega⟩
 have hlz:((Str.ofString "abcdefghijklmnopqrstuvwxyz"):Str).length≤sizeLine:=by rw[HM];decide
 walk_at "r"
 refine AV m ho (by decide) (by decide) fun v1 o1 hv0 hv1 ho1=>?_
 obtain⟨t,rfl⟩:∃t:Nat,v1=(t:Int):=⟨v1.toNat,by omega⟩
 walk_at "r"
 refine HK hlz ?_
 walk_at "r"
 refine HK hlz ?_
 refine HJ (zN (Nat.add_le_add (QF _ _ _ (Nat.le_of_eq HM)) (QF _ _ _ (Nat.le_of_eq HM))) (by decide)) ?_
 have hRl:WP (Txt.slice (Str.ofString "abcdefghijklmnopqrstuvwxyz") (some (t:Int)) none++Txt.slice (Str.ofString "abcdefghijklmnopqrstuvwxyz") none (some (t:Int))):=by
   refine NW (fun c hc=>?_) (fun c hc=>?_)
   · rw[ES] at hc;exact NS c (List.mem_of_mem_drop hc)
   · exact NS c (aI hc)
 have hRn:(Txt.slice (Str.ofString "abcdefghijklmnopqrstuvwxyz") (some (t:Int)) none++Txt.slice (Str.ofString "abcdefghijklmnopqrstuvwxyz") none (some (t:Int))).cps.toList.length=26:=by
   rw[AN,yY,ES,GH,List.length_drop,List.length_take,← LE,fA];exact rF (xT (Int.ofNat_lt.mp hv1))
 have hRd:(Txt.slice (Str.ofString "abcdefghijklmnopqrstuvwxyz") (some (t:Int)) none++Txt.slice (Str.ofString "abcdefghijklmnopqrstuvwxyz") none (some (t:Int))).cps.toList.Nodup:=by
   rw[AN,ES,GH];exact aU t
 have hRrun:Run (Txt.slice (Str.ofString "abcdefghijklmnopqrstuvwxyz") (some (t:Int)) none++Txt.slice (Str.ofString "abcdefghijklmnopqrstuvwxyz") none (some (t:Int))).cps.toList:=by
   rw[AN,ES,GH];exact rN (gD t (by omega))
 revert hRl hRn hRd hRrun
 generalize Txt.slice (Str.ofString "abcdefghijklmnopqrstuvwxyz") (some (t:Int)) none++Txt.slice (Str.ofString "abcdefghijklmnopqrstuvwxyz") none (some (t:Int))=R
 intro hRl hRn hRd hRrun
 have hRz:R.length≤sizeLine:=by
   have:R.length=R.cps.toList.length:=by simp[Str.length]
   rw[this,hRn];decide
 have hRat:∀k:Nat,k < 26→∃c,atI R.cps.toList (k:Int)=some c∧EE c=true:=fun k hk=>by
   have hk':k < R.cps.toList.length:=by rw[hRn];exact hk
   exact⟨R.cps.toList[k],AD (zV hk'),hRl _ (List.getElem_mem hk')⟩
 walk_at "r"
 refine AV zU ho1 (by decide) (by decide) fun v2 o2 _ _ ho2=>?_
 rw[yI]
 walk_at "r"
 refine AV zU ho2 (by decide) (by decide) fun v3 o3 h30 h31 ho3=>?_
 rw[yI]
 obtain⟨s3,rfl⟩:∃s3:Nat,v3=(s3:Int):=⟨v3.toNat,by omega⟩
 have hmid:WP (Txt.slice R (some 3) (some (3+(s3:Int))))∧(Txt.slice R (some 3) (some (3+(s3:Int)))).cps.toList.length≤7∧Run (Txt.slice R (some 3) (some (3+(s3:Int)))).cps.toList:=by
   have e:(Txt.slice R (some 3) (some (3+(s3:Int)))).cps.toList=(R.cps.toList.take (3+s3)).drop 3:=aL R 3 (3+s3)
   refine⟨fun c hc=>?_,?_,?_⟩
   · rw[e] at hc;exact hRl c (List.mem_of_mem_take (List.mem_of_mem_drop hc))
   · rw[e,List.length_drop,List.length_take];exact rG (Nat.le_of_lt_succ (Int.ofNat_lt.mp h31))
   · rw[e];exact(hRrun.take _).drop _
 have hids:(ED 0 N).length=N:=by simp[ED]
 have hN:N≤26:=Int.ofNat_le.mp hn1
 have hsz:(ED 0 N).length < sizeLine:=by rw[hids];exact zQ hN (by decide)
 have fin:∀(g:PyData→PyData),(∀k:Nat,k < N→∃z,g (.int k) = .str z∧B8 z∧z∉MQ)→(∀i j:Nat,i < N→j < N→g (.int i)=g (.int j)→i=j)→∃ys:List Str,((ED 0 N).filter fun _=>true).map g=ys.map .str∧ys.length=N∧(∀z∈ys,B8 z∧z∉MQ)∧ys.Nodup:=fun g hg hi=>by
   rw[flt]
   refine⟨(List.range N).map fun(k:Nat)=>U0 (g (.int (k:Int))),?_,by simp,?_,?_⟩
   · unfold ED
     rw[zD,zD]
     apply yM
     intro k hk
     obtain⟨z,e,_⟩:=hg k (List.mem_range.mp hk)
     show g (.int (0+(k:Int))) = .str (U0 (g (.int k)))
     rw[Int.zero_add,e];rfl
   · intro z hz
     obtain⟨k,hk,rfl⟩:=zL.mp hz
     obtain⟨z,e,h⟩:=hg k (List.mem_range.mp hk)
     rw[e];exact h
   · refine nodup_range fun i j h1 h2 e=>hi i j h1 h2 ?_
     obtain⟨z1,e1,_⟩:=hg i h1
     obtain⟨z2,e2,_⟩:=hg j h2
     rw[e1,e2] at e ⊢
     exact congrArg PyData.str e
 walk_at "r"
 refine AE rfl rfl ?_
 rw[if_neg nft]
 walk_at "r"
 refine NH (fun h=>?_) (fun h=>?_)
 · walk_at "r"
   refine AQ (BV 0) (by simp[H0]) ?_
   refine IO ?_
   walk_at "r"
   refine⟨by omega,by omega,?_⟩
   rw[Int.toNat_natCast]
   have hel:∀k:Nat,k < N→∃c,atI R.cps.toList ((k:Int)/8)=some c∧EE c=true:=fun k hk=>hRat (k/8) (WO hk hN)
   refine⟨hsz,fun _=>true,nmA R,?_,?_⟩
   · intro d hd M'
     obtain⟨k,hk,rfl⟩:=zL.mp hd
     obtain⟨c,e1,e2⟩:=hel k (List.mem_range.mp hk)
     rw[Int.zero_add]
     walk_at "dl"
     refine⟨rfl,?_⟩
     walk_at "dl"
     refine⟨rfl,rfl,fun _=>?_⟩
     walk_at "r"
     refine K5 hRz e1 ?_
     walk_at "r"
     refine WM (JP _).1 (JP _).2.1 (by show 1≤1000;decide) ?_
     exact⟨by rw[S9 e1],rfl⟩
   · have iA:∀i j:Nat,i < N→j < N→(nmA R) (.int i)=(nmA R) (.int j)→i=j:=fun i j h1 h2 e=>by
       obtain⟨c1,q1,_⟩:=hel i h1
       obtain⟨c2,q2,_⟩:=hel j h2
       rw[S9 q1,S9 q2] at e
       have e':HE ⟨#[c1]⟩ (1+(i:Int) % 8)=HE ⟨#[c2]⟩ (1+(j:Int) % 8):=by injection e
       obtain⟨hcc,hmn⟩:=lG (JP _).1 (JP _).1 e'
       subst hcc
       have hq:=O7 (i:=i/8) (j:=j/8) hRd q1 q2 (by rw[hRn];exact WO h1 hN) (by rw[hRn];exact WO h2 hN)
       exact uE hmn hq
     have hA:∀k:Nat,k < N→∃z,(nmA R) (.int k) = .str z∧B8 z∧z∉MQ:=fun k hk=>by
       obtain⟨c,q1,q2⟩:=hel k hk
       have hz:=S6 (c:=c) (n:=1+(k:Int) % 8) (JP k).1
       refine⟨HE ⟨#[c]⟩ (1+(k:Int) % 8),S9 q1,?_,lD hz⟩
       refine NV (fun d hd=>?_) ?_ ?_
       · rw[hz] at hd;rw[List.eq_of_mem_replicate hd];exact q2
       · rw[hz,List.length_replicate];exact(JP k).2.2.1
       · rw[hz,List.length_replicate];exact(JP k).2.2.2
     obtain⟨ys,e1,e2,e3,e4⟩:=fin (nmA R) hA iA
     rw[e1]
     refine⟨_,zT _,fun p' n' e=>?_⟩
     cases e
     exact⟨ys,o3,rfl,by rw[e2],fun z hz=>(e3 z hz).1,fun z hz=>(e3 z hz).2,e4,ho3,rfl⟩
 · walk_at "r"
   refine AE rfl rfl ?_
   rw[if_neg nft]
   walk_at "r"
   have hel:∀k:Nat,k < N→∃c,atI R.cps.toList (k:Int)=some c∧EE c=true:=fun k hk=>hRat k (zP hk hN)
   have hszs:∀c:Nat,(⟨#[c]⟩:Str).length+(Txt.slice R (some 3) (some (3+(s3:Int)))).length≤sizeLine:=fun c=>by
     have:(Txt.slice R (some 3) (some (3+(s3:Int)))).length=(Txt.slice R (some 3) (some (3+(s3:Int)))).cps.toList.length:=by simp[Str.length]
     rw[this]
     exact zN (Nat.add_le_add (zR 1) hmid.2.1) (by decide)
   refine NH (fun h2=>?_) (fun h2=>?_)
   · walk_at "r"
     refine AQ (BV 0) (by simp[EB]) ?_
     refine IO ?_
     walk_at "r"
     refine⟨by omega,by omega,?_⟩
     rw[Int.toNat_natCast]
     refine⟨hsz,fun _=>true,nmB R (Txt.slice R (some 3) (some (3+(s3:Int)))),?_,?_⟩
     · intro d hd M'
       obtain⟨k,hk,rfl⟩:=zL.mp hd
       obtain⟨c,e1,e2⟩:=hel k (List.mem_range.mp hk)
       rw[Int.zero_add]
       walk_at "dl"
       refine⟨rfl,?_⟩
       walk_at "dl"
       refine⟨rfl,rfl,fun _=>?_⟩
       walk_at "r"
       refine K5 hRz e1 ?_
       walk_at "r"
       refine HK hRz ?_
       refine HJ (hszs c) ?_
       exact⟨by rw[SA e1],rfl⟩
     · have iB:∀i j:Nat,i < N→j < N→(nmB R (Txt.slice R (some 3) (some (3+(s3:Int))))) (.int i)=(nmB R (Txt.slice R (some 3) (some (3+(s3:Int))))) (.int j)→i=j:=fun i j h1 h2 e=>by
         obtain⟨c1,q1,_⟩:=hel i h1
         obtain⟨c2,q2,_⟩:=hel j h2
         rw[SA q1,SA q2] at e
         have e':(⟨#[c1]⟩:Str)++Txt.slice R (some 3) (some (3+(s3:Int)))=⟨#[c2]⟩++Txt.slice R (some 3) (some (3+(s3:Int))):=by injection e
         have hc:=gE e'
         subst hc
         exact O7 hRd q1 q2 (by rw[hRn];exact zP h1 hN) (by rw[hRn];exact zP h2 hN)
       have hB:∀k:Nat,k < N→∃z,(nmB R (Txt.slice R (some 3) (some (3+(s3:Int))))) (.int k) = .str z∧B8 z∧z∉MQ:=fun k hk=>by
         obtain⟨c,q1,q2⟩:=hel k hk
         refine⟨_,SA q1,?_,lE (c:=c) (by rw[AN];rfl) hmid.2.2⟩
         refine NV (NW (U5 q2) hmid.1) ?_ ?_
         · rw[AN,yY];exact Nat.le_add_right 1 _
         · rw[AN,yY];exact Nat.add_le_add_left hmid.2.1 1
       obtain⟨ys,e1,e2,e3,e4⟩:=fin (nmB R (Txt.slice R (some 3) (some (3+(s3:Int))))) hB iB
       rw[e1]
       refine⟨_,zT _,fun p' n' e=>?_⟩
       cases e
       exact⟨ys,o3,rfl,by rw[e2],fun z hz=>(e3 z hz).1,fun z hz=>(e3 z hz).2,e4,ho3,rfl⟩
   · walk_at "r"
     refine AQ (BV 0) (by simp[EB]) ?_
     refine IO ?_
     walk_at "r"
     refine⟨by omega,by omega,?_⟩
     rw[Int.toNat_natCast]
     refine⟨hsz,fun _=>true,nmC R (Txt.slice R (some 3) (some (3+(s3:Int)))),?_,?_⟩
     · intro d hd M'
       obtain⟨k,hk,rfl⟩:=zL.mp hd
       obtain⟨c,e1,e2⟩:=hel k (List.mem_range.mp hk)
       rw[Int.zero_add]
       walk_at "dl"
       refine⟨rfl,?_⟩
       walk_at "dl"
       refine⟨rfl,rfl,fun _=>?_⟩
       walk_at "r"
       refine HK hRz ?_
       walk_at "r"
       refine K5 hRz e1 ?_
       refine HJ (by rw[Nat.add_comm];exact hszs c) ?_
       exact⟨by rw[SB e1],rfl⟩
     · have iC:∀i j:Nat,i < N→j < N→(nmC R (Txt.slice R (some 3) (some (3+(s3:Int))))) (.int i)=(nmC R (Txt.slice R (some 3) (some (3+(s3:Int))))) (.int j)→i=j:=fun i j h1 h2 e=>by
         obtain⟨c1,q1,_⟩:=hel i h1
         obtain⟨c2,q2,_⟩:=hel j h2
         rw[SB q1,SB q2] at e
         have e':Txt.slice R (some 3) (some (3+(s3:Int)))++(⟨#[c1]⟩:Str)=Txt.slice R (some 3) (some (3+(s3:Int)))++⟨#[c2]⟩:=by injection e
         have hc:=gF e'
         subst hc
         exact O7 hRd q1 q2 (by rw[hRn];exact zP h1 hN) (by rw[hRn];exact zP h2 hN)
       have hC:∀k:Nat,k < N→∃z,(nmC R (Txt.slice R (some 3) (some (3+(s3:Int))))) (.int k) = .str z∧B8 z∧z∉MQ:=fun k hk=>by
         obtain⟨c,q1,q2⟩:=hel k hk
         refine⟨_,SB q1,?_,lF (c:=c) (by rw[AN]) hmid.2.2⟩
         refine NV (NW hmid.1 (U5 q2)) ?_ ?_
         · rw[AN,yY];exact Nat.le_add_left 1 _
         · rw[AN,yY];exact Nat.add_le_add_right hmid.2.1 1
       obtain⟨ys,e1,e2,e3,e4⟩:=fin (nmC R (Txt.slice R (some 3) (some (3+(s3:Int))))) hC iC
       rw[e1]
       refine⟨_,zT _,fun p' n' e=>?_⟩
       cases e
       exact⟨ys,o3,rfl,by rw[e2],fun z hz=>(e3 z hz).1,fun z hz=>(e3 z hz).2,e4,ho3,rfl⟩
end
end
section
variable {P:Program}{w:World}{K:Frg}{mg:Str→Option Value}{base:Heap}
abbrev BL:Stmt:=_root_.sT 45
def G4:List Str:=["_law_pack_here", "_law_names_here", "_law_one", "_law_others", "_law_other", "_law_place_here", "_law_number", "_law_some"]
def F3:List Str:=["_law_name", "_law_one"]
def F4:List (Option Nat):=[none,some 2]
theorem JY:F3.Nodup:=by decide +kernel
theorem DD:FnScope G4 ["_law_pack_here", "_law_names_here"] (AA BL):=⟨rfl,rfl,rfl,by decide +kernel,rfl,by decide +kernel,by decide +kernel⟩
section
local macro_rules | `(tactic| walk_at "x")=>`(tactic| first | ((with_reducible show PS _ (.Assign _ (.ListComp ..) _) _);exact @jV _ _ _ _ _ _ _ _ _ _ _ _ _ (3) _ _ _ rfl DD.nd rfl (by walk_at "lc") (@L2.CSc.of _ _ (F3) (F4) (AA BL) (G4) (by decide +kernel) rfl rfl) (by walk_at "n") (fun C s' H' ex' pn'=>⟨(by walk_at "g"),(by walk_at "u"),(by walk_at "e")⟩) rfl (by walk_at "or") (by intro _;rfl)))
theorem LT {f:Addr}{fd:FuncData}(F:Fun K "_law_any_deed" "_law_any_deed" BL f fd) (n_len:mg "len"=none) (h__law_count:Has P w K mg base "_law_count" 2 ["_law_pack_here"] EQ) (h__law_place:Has P w K mg base "_law_place" 2 ["_law_pack_here"] BW) (h__law_take:Has P w K mg base "_law_take" 1 ["_law_pack_here", "_law_size"] B6):FnOk P w K mg base CX0 3 f fd ["_law_pack_here", "_law_names_here"] (spD K 2 KO):=by
 refine fnD F DD fun cdv A outer s H E hr=>?_
 have hu:=hr.units
 have nd:=DD.nd
 have n0:=JY
 refine⟨_,by walk_at "b2", ?_⟩
 clear nd n0
 rintro xs M hl ⟨p,o,ys,rfl,m,ho,h2,h3,hy,nd⟩
 walk_at "r"
 refine N0 ?_
 rw[zX]
 walk_at "r"
 refine AV m ho (by omega) (by omega) fun v1 o1 a0 a1 ho1=>?_
 walk_at "r"
 obtain⟨y1,ey1,my1⟩:=Z3 (ys:=ys) a0 a1
 have hy1:=hy y1 my1
 refine FA ey1 ?_
 walk_at "r"
 refine AQ (BV 0) (by simp[F4]) ?_
 refine K6 ?_
 walk_at "r"
 refine⟨by rw[zX];exact zQ h3 (by decide),fun d=>!PyData.eqv d (.str y1),id,?_,?_⟩
 · intro d hd M'
   obtain⟨z,hz,rfl⟩:=zL.mp hd
   walk_at "r"
   refine⟨rfl,?_⟩
   walk_at "r"
   refine AE (BP (hy z hz)) (BP hy1) ?_
   rw[if_pos rfl]
   walk_at "r"
   refine⟨rfl,rfl,fun _=>?_⟩
   walk_at "r"
   exact⟨rfl,rfl⟩
 rw[bN]
 obtain⟨hpos,hle⟩:=XN nd my1 h2
 walk_at "r"
 refine N0 ?_
 rw[zX]
 walk_at "r"
 refine AV zU ho1 (by omega) (by omega) fun v2 o2 b0 b1 ho2=>?_
 rw[yI]
 walk_at "r"
 obtain⟨y2,ey2,my2⟩:=Z3 (ys:=ys.filter fun z=>decide (z≠y1)) b0 b1
 have hy2:=hy y2 (yL.mp my2).1
 have hne:y1≠y2:=fun e=>by have:=(yL.mp my2).2;simp at this;exact this e.symm
 refine FA ey2 ?_
 walk_at "r"
 refine OP zU ho2 fun pl o3 p0 p1 ho3=>?_
 rw[yI]
 walk_at "r"
 refine KK zU ho3 fun k o4 hk ho4=>?_
 rw[yI]
 walk_at "wkd"
 refine TR (yD rfl) ?_
 walk_at "r"
 refine AV zU ho4 (by decide) (by decide) fun v5 o5 d0 d1 ho5=>?_
 rw[yI]
 obtain⟨x,ex,mx⟩:=U1 (xs:=[Deed.put y1 pl k,.take y1,.move y1 pl,.count y1 k,.name y1 y2,.split y1 y2 pl k,.join y1 y2].map Deed.d) d0 d1
 obtain⟨D,hD,rfl⟩:=zL.mp mx
 refine FA ex ?_
 refine⟨_,zT _,fun p' ys' e=>?_⟩
 simp only[List.cons.injEq,DS.loc.injEq,DS.d.injEq,PyData.list.injEq,and_true] at e
 obtain⟨rfl,e⟩:=e
 have e:=M9 e
 subst e
 exact⟨D,o5,rfl,XO hy1 hy2 hne ⟨p0,p1⟩ hD,bT hk hD,iY my1 (yL.mp my2).1 hD,ho5,rfl⟩
end
end
section
variable {P:Program}{w:World}{K:Frg}{mg:Str→Option Value}{base:Heap}
abbrev EO:Stmt:=_root_.sT 46
def PY:List Str:=["_law_pack_here", "_law_names_here", "_law_found", "_law_name"]
theorem JG:FnScope PY ["_law_pack_here", "_law_names_here"] (AA EO):=⟨rfl,rfl,rfl,by decide +kernel,rfl,by decide +kernel,by decide +kernel⟩
section
local macro_rules | `(tactic| walk_at "x")=>`(tactic| first | ((with_reducible show PE _ (.Call (.Attribute _ (Str.ofString "append") _) ..) _);exact @kBm _ K _ _ _ _ _ _ _ _ _ _ _ rfl PySem.F.plainAttrs_list PySem.F.slot_list_append PySem.F.type_list_append (@K8 _) (by walk_at "e") (by walk_at "a") (by rfl) (by rfl) (by rfl) (by rfl) (by rfl)))
theorem PZ {f:Addr}{fd:FuncData}(F:Fun K "_law_world" "_law_world" EO f fd) (n_sorted:mg "sorted"=none) (n_tuple:mg "tuple"=none) (h__law_count:Has P w K mg base "_law_count" 2 ["_law_pack_here"] EQ) (h__law_place:Has P w K mg base "_law_place" 2 ["_law_pack_here"] BW) (h__law_take:Has P w K mg base "_law_take" 1 ["_law_pack_here", "_law_size"] B6):FnOk P w K mg base CX0 3 f fd ["_law_pack_here", "_law_names_here"] (spD K 2 G1):=by
 refine fnD F JG fun cdv A outer s H E hr=>?_
 have hu:=hr.units
 have nd:=JG.nd
 refine⟨_,by walk_at "b2", ?_⟩
 clear nd
 rintro xs M hl ⟨p,o,ys,rfl,m,ho,h3,hy,nd⟩
 walk_at "dl";walk_at "dl"
 refine G7 ?_
 walk_at "r"
 intro q hq
 have hpq:p≠q:=by rintro rfl;rw[m] at hq;cases hq
 refine JN (fun ρ1 M1=>∃(w:List Th) (o1:MO) (x:Option DS),(w.map (·.1)).Sublist ys∧(∀t∈w,0≤t.2.1∧t.2.1≤999)∧B5 o1∧ρ1=[some (.loc p),some (.d (.list (ys.map .str))),some (.loc q),x]∧M1=(M.put p o1).put q (.l (w.map thD))) ?_ ?_
 · refine NN ?_
   refine K6 ?_
   walk_at "r"
   refine⟨fun k ρ1 M1=>∃(w:List Th) (o1:MO) (x:Option DS),(w.map (·.1)).Sublist (ys.take k)∧(∀t∈w,0≤t.2.1∧t.2.1≤999)∧B5 o1∧ρ1=[some (.loc p),some (.d (.list (ys.map .str))),some (.loc q),x]∧M1=(M.put p o1).put q (.l (w.map thD)),⟨[],o,none,by simp,by simp,ho,rfl,by rw[Own.put_self m];rfl⟩,?_,?_⟩
   · rintro k d ρ1 M1 hd ⟨w,o2,x,hs,hw,ho2,rfl,rfl⟩
     rw[zF] at hd
     cases hsk:ys[k]? with
     | none=>rw[hsk] at hd;cases hd
     | some y=>
       rw[hsk] at hd
       cases hd
       have etk:ys.take (k+1)=ys.take k++[y]:=by rw[List.take_add_one,hsk];rfl
       have hwl:w.length≤50:=by
         have:=hs.length_le
         rw[zX,List.length_take] at this
         omega
       walk_at "r"
       refine AV (by rw[yH hpq];exact zU) ho2 (by decide) (by decide) fun v o3 h0 h1 ho3=>?_
       walk_at "r"
       refine AE rfl rfl ?_
       rw[if_neg nft]
       cases hv:PyData.eqv (.int v) (.int 1) with
       | false=>
         walk_at "r"
         exact⟨w,o3,_,by rw[etk];exact hs.trans (List.sublist_append_left _ _),hw,ho3,rfl,bO hpq⟩
       | true=>
         walk_at "r"
         refine J8 ?_
         walk_at "dl"
         refine⟨K4 (ds:=w.map thD) (by rw[yH hpq.symm];exact zU),?_⟩
         walk_at "r"
         refine OP zU ho3 fun pl o4 p0 p1 ho4=>?_
         walk_at "r"
         refine KK zU ho4 fun n o5 _ ho5=>?_
         walk_at "r"
         refine FU (ds:=w.map thD) (by rw[yH hpq.symm,yH hpq.symm,yH hpq.symm];exact zU) (by rw[zX];exact zQ hwl (by decide)) ?_
         refine⟨w++[(y,pl,n)],o5,_,?_,?_,ho5,rfl,?_⟩
         · rw[etk,xJ]
           exact hs.append (List.Sublist.refl _)
         · intro t ht
           rcases yW.mp ht with h | h
           · exact hw t h
           · have:t=(y,pl,n):=by simpa using h
             subst this;exact⟨p0,p1⟩
         · rw[xJ,yI,yI]
           exact eZ hpq
   · rintro ρ1 M1 ⟨w,o2,x,hs,hw,ho2,rfl,rfl⟩
     exact⟨w,o2,x,hs.trans (List.take_sublist _ _),hw,ho2,rfl,rfl⟩
 · rintro ρ1 M1 ⟨w,o1,x,hs,hw,ho1,rfl,rfl⟩
   have hwl:w.length≤ys.length:=by have:=hs.length_le;rw[zX] at this;exact this
   have ndw:(w.map (·.1)).Nodup:=nd.sublist hs
   walk_at "r"
   refine aR (ts:=w.map wT2) (by rw[V4];exact zU) (by rw[zD];exact ndw) (by rw[zX];omega) fun ts' hp hlt=>?_
   obtain⟨u1,u2,u3⟩:=V5 hp
   rw[u2]
   walk_at "r"
   refine GC ?_
   refine⟨M.put p o1,?_,fun p' ys' e=>?_⟩
   · intro b ob e
     rw[yH];exact e
     rintro rfl
     rw[yH hpq.symm,hq] at e;cases e
   · simp only[List.cons.injEq,DS.loc.injEq,DS.d.injEq,PyData.list.injEq,and_true] at e
     obtain⟨rfl,e⟩:=e
     have e:=M9 e
     subst e
     refine⟨ts'.map unT,o1,rfl,⟨by rw[u3];exact RD hlt,fun t ht=>?_⟩,by rw[u1.length_eq];exact hwl,fun t ht=>hs.subset (zL.mpr ⟨t,u1.mem_iff.mp ht,rfl⟩),ho1,rfl⟩
     have ht:=u1.mem_iff.mp ht
     exact⟨hy _ (hs.subset (zL.mpr ⟨t,ht,rfl⟩)),hw t ht⟩
end
end
section
variable {P:Program}{w:World}{K:Frg}{mg:Str→Option Value}{base:Heap}
abbrev FN:Stmt:=_root_.sT 40
def T2:List Str:=["_law_cell"]
theorem L7:FnScope T2 ["_law_cell"] (AA FN):=⟨rfl,rfl,rfl,by decide +kernel,rfl,by decide +kernel,by decide +kernel⟩
theorem T3 {f:Addr}{fd:FuncData}(F:Fun K "_law_pack" "_law_pack" FN f fd) (n_abs:mg "abs"=none):FnOk P w K mg base CX0 1 f fd ["_law_cell"] (spD K 1 DQ):=by
 refine fnD F L7 fun cdv A outer s H E hr=>?_
 have hu:=hr.units
 have nd:=L7.nd
 refine⟨_,by walk_at "b2", ?_⟩
 clear nd
 rintro xs M hl ⟨c,rfl⟩
 walk_at "r"
 refine NH (fun h=>?_) (fun h=>?_)
 · walk_at "r"
   refine G7 ?_
   walk_at "r"
   intro p hp
   exact⟨_,zT _,p,_,hp,⟨_,_,rfl⟩,rfl,rfl⟩
 · walk_at "r"
   refine NH (fun h=>?_) (fun h=>?_)
   · walk_at "r"
     refine G7 ?_
     walk_at "r"
     intro p hp
     exact⟨_,zT _,p,_,hp,⟨_,_,rfl⟩,rfl,rfl⟩
   · walk_at "r"
     refine G7 ?_
     walk_at "r"
     intro p hp
     exact⟨_,zT _,p,_,hp,⟨_,_,rfl⟩,rfl,rfl⟩
end
section
variable {P:Program}{w:World}{K:Frg}{mg:Str→Option Value}{base:Heap}
abbrev BY:Stmt:=_root_.sT 52
def FQ:List Str:=["_law_pack_here", "_law_names_here", "_law_world_here", "_law_called_here", "_law_turn", "_law_deed", "_law_found", "_law_due", "_law_other_sign", "_law_signed_here"]
def HB:List Str:=["_law_k", "_law_names_here"]
def HC:List (Option Nat):=[none,some 1]
theorem MV:HB.Nodup:=by decide +kernel
def HD:List Str:=["_law_thing"]
def EC:List (Option Nat):=[none]
theorem MW:HD.Nodup:=by decide +kernel
theorem JH:FnScope FQ ["_law_pack_here"] (AA BY):=⟨rfl,rfl,rfl,by decide +kernel,rfl,by decide +kernel,by decide +kernel⟩
section
local macro_rules | `(tactic| walk_at "x")=>`(tactic| first | ((with_reducible show PE _ (.Call (.Name (Str.ofString "dict") _) ..) _);exact @FS _ _ _ _ _ _ _ _ _ (@uI _ K rfl rfl) (by rfl) n_dict PyProof.Rows.boot_dict (by walk_at "a") (by decide) (by decide) (by rfl) (by rfl)) | ((with_reducible show PE _ (.ListComp ..) _);exact @CC _ _ _ _ _ _ _ _ _ _ _ _ _ rfl (@L2.CSc.of _ _ (HB) (HC) (AA BY) (FQ) (by decide +kernel) rfl rfl) (by walk_at "n") (fun C s' H' ex' pn'=>⟨(by walk_at "g"),(by walk_at "u"),(by walk_at "e")⟩) (by intro _;rfl)) | ((with_reducible show PE _ (.BinOp _ .Mult ..) _);exact @J2 _ _ _ _ _ _ _ _ (@uW _ K rfl) (by walk_at "e") (by walk_at "e")) | ((with_reducible show PE _ (.ListComp ..) _);exact @CC _ _ _ _ _ _ _ _ _ _ _ _ _ rfl (@L2.CSc.of _ _ (HD) (EC) (AA BY) (FQ) (by decide +kernel) rfl rfl) (by walk_at "n") (fun C s' H' ex' pn'=>⟨(by walk_at "g"),(by walk_at "u"),(by walk_at "e")⟩) (by intro _;rfl)) | ((with_reducible show PE _ (.Call (.Name (Str.ofString "read_deed") _) ..) _);exact @nT _ K P w mg base _ _ _ _ _ _ _ _ _ rfl rfl rfl rfl rfl (OU h_read_deed) (hr.mono (by decide)) rfl (by walk_at "a") (by decide) (by rfl) (by rfl)))
theorem Q0 {f:Addr}{fd:FuncData}{c_NoText:Addr}(F:Fun K "_law_right" "_law_right" BY f fd) (n_dict:mg "dict"=none) (n_len:mg "len"=none) (n_range:mg "range"=none) (n_tuple:mg "tuple"=none) (h_read_deed:HasX P w K mg base "read_deed" 6 ["text"] (DY c_NoText)) (h__law_any_deed:Has P w K mg base "_law_any_deed" 3 ["_law_pack_here", "_law_names_here"] KO) (h__law_deed_called:Has P w K mg base "_law_deed_called" 2 ["_law_deed", "_law_called_here"] CI) (h__law_names:Has P w K mg base "_law_names" 2 ["_law_pack_here", "_law_amount"] CN) (h__law_signed:Has P w K mg base "_law_signed" 1 ["_law_deed"] DC) (h__law_take:Has P w K mg base "_law_take" 1 ["_law_pack_here", "_law_size"] B6) (h__law_told:Has P w K mg base "_law_told" 8 ["_law_world_here", "_law_deed"] HX) (h__law_world:Has P w K mg base "_law_world" 3 ["_law_pack_here", "_law_names_here"] G1) (h__law_world_called:Has P w K mg base "_law_world_called" 2 ["_law_world_here", "_law_called_here"] DZ) (h_show_deed:Has P w K mg base "show_deed" 3 ["deed"] HW):FnOk P w K mg base CX0 9 f fd ["_law_pack_here"] (spD K 1 CQ):=by
 refine fnD F JH fun cdv A outer s H E hr=>?_
 have hu:=hr.units
 have nd:=JH.nd
 have n0:=MV
 have n1:=MW
 refine⟨_,by walk_at "b2", ?_⟩
 clear nd n0 n1
 rintro xs M hl ⟨p,o,rfl,m,ho⟩
 walk_at "r"
 refine AV m ho (by decide) (by decide) fun v0 o0 a0 a1 ho0=>?_
 walk_at "r"
 refine X1 zU ho0 (by omega) (by omega) fun ys o1 hyl hy hyb hyn ho1=>?_
 rw[yI]
 have hy2:2≤ys.length:=by omega
 have hy3:ys.length≤12:=by omega
 walk_at "wks"
 walk_at "dl"
 walk_at "dl"
 walk_at "wks"
 refine SM zU ho1 (by omega) ⟨hy,hyn⟩ fun w o2 hw hwl hwn ho2=>?_
 rw[yI]
 have hf:=iW hyn (by omega:ys.length≤13)
 have hfn:∀n∈ys,B8 (CB ys n):=fun n hn=>bX hyn (by omega) hn
 have hcl:=c5 (ys:=ys)
 have hlk:(IB ys).map (·.1)=ys:=by unfold IB;rw[zD];exact List.map_id _
 refine JN (fun ρ1 M1=>M1=M.put p o2∧ρ1=[some (.loc p),some (.d (.list (ys.map .str))),some (.d (wD w)),some (.d (.dict (AO (IB ys)))),none,none,none,none,none,none]) ?_ ?_
 · walk_at "r"
   refine AQ (BV 0) (by simp[HC]) ?_
   refine IO ?_
   walk_at "r"
   refine N0 ?_
   rw[zX]
   walk_at "r"
   refine⟨by omega,by omega,?_⟩
   rw[Int.toNat_natCast]
   refine⟨by simp[ED];exact zQ hy3 (by decide),fun _=>true,SN ys,?_,?_⟩
   · intro d hd M'
     obtain⟨k,hk,rfl⟩:=zL.mp hd
     have hk:k < ys.length:=List.mem_range.mp hk
     have hk13:k < 13:=by omega
     have hky:ys[k]?=some ys[k]:=zV hk
     rw[Int.zero_add]
     walk_at "dl"
     refine⟨rfl,?_⟩
     walk_at "dl"
     refine⟨rfl,rfl,fun _=>?_⟩
     walk_at "r"
     refine FA (d:=.str ys[k]) (AD (by rw[zF,hky];rfl)) ?_
     walk_at "r"
     refine mY k ?_
     walk_at "r"
     refine K5 (c:=MH k) (by decide +kernel) (AD (sM ⟨k,hk13⟩)) ?_
     walk_at "r"
     refine j3 k ?_
     refine HJ (zN (mX ⟨k,hk13⟩) (by decide)) ?_
     walk_at "r"
     exact⟨congrArg DS.d (n4 hyn hky hk13),rfl⟩
   · rw[X5,j1]
     walk_at "r"
     refine aS (by rw[hlk];exact hyn) (by rw[show(IB ys).length=ys.length by simp[IB]];exact zN hy3 (by decide)) ?_
     exact⟨rfl,rfl⟩
 rintro ρ1 M1 ⟨rfl,rfl⟩
 walk_at "r"
 refine NN ?_
 refine IO ?_
 walk_at "r"
 refine⟨by decide,by decide,?_⟩
 refine⟨fun k ρ' M'=>k≤4∧∃(w:List Th) (o':MO) (x1 x2 x3 x4 x5 x6:Option DS),EV w∧w.length≤12+k∧(∀t∈w,t.1∈ys)∧B5 o'∧M'=M.put p o'∧ρ'=[some (.loc p),some (.d (.list (ys.map .str))),some (.d (wD w)),some (.d (.dict (AO (IB ys)))),x1,x2,x3,x4,x5,x6],⟨by omega,w,o2,_,_,_,_,_,_,hw,by omega,hwn,ho2,rfl,rfl⟩,?_,?_⟩
 · rintro k d ρ' M' hd ⟨hk4,w,o',x1,x2,x3,x4,x5,x6,hw,hwl,hwn,ho',rfl,rfl⟩
   have hk:k < 4:=(yT.mp hd).1
   have hl60:w.length < 60:=by omega
   walk_at "r"
   refine XZ zU ho' hy2 (by omega) ⟨hy,hyn⟩ fun D o3 hr hfit hDn ho3=>?_
   rw[yI]
   walk_at "r"
   refine FJ ⟨hw.1.nodup,by omega⟩ hr ?_
   have eD:=j0 hf hw hwn hl60 hr hDn
   have eS:=bZ hw hl60 hr
   have fR:=mW hf hfn hw hwn
   have rR:=mV hf hfn hr hDn
   have lR:(AJ (rnT (CB ys) w)).length < 60:=by rw[(AR _).length_eq];unfold rnT;rw[zX];exact hl60
   have lS:(sgT w).length < 60:=by unfold sgT;rw[zX];exact hl60
   have s0:=IA hw hl60 hr
   have s1:=IA fR lR rR
   have s2:=IA (ZK hw) lS (ZJ hr)
   have q0:PyData.eqv (B7 w D) (B7 w D)=true:=PySem.SeqAt.eqv_refl _ (zG s0)
   have q1:PyData.eqv (B7 (AJ (rnT (CB ys) w)) (rnD (CB ys) D)) (B7 (AJ (rnT (CB ys) w)) (rnD (CB ys) D))=true:=PySem.SeqAt.eqv_refl _ (zG s1)
   have q2:PyData.eqv (B7 (sgT w) (sgD D)) (B7 (sgT w) (sgD D))=true:=PySem.SeqAt.eqv_refl _ (zG s2)
   walk_at "dl"
   walk_at "dl"
   walk_at "wks"
   walk_at "dl"
   walk_at "dl"
   walk_at "wks"
   refine JN (fun ρ1 M1=>M1=M.put p o3∧ρ1=[some (.loc p),some (.d (.list (ys.map .str))),some (.d (wD w)),some (.d (.dict (AO (IB ys)))),some (.d d),some (.d D.d),some (.d (B7 w D)),some (.d (B7 (AJ (rnT (CB ys) w)) (rnD (CB ys) D))),some (.d (B7 (sgT w) (sgD D))),x6]) ?_ ?_
   · walk_at "r"
     refine U7 ?_
     cases ha:AF (w.map (·.1)) D with
     | some z=>
       have e0:B7 w D = .none:=by unfold B7;rw[ha]
       rw[ha] at eD eS
       rw[eD,eS,e0]
       walk_at "r"
       exact⟨rfl,rfl⟩
     | none=>
       have hg:goD w D:=⟨⟨hw.1.nodup,by omega⟩,hr,ha⟩
       obtain⟨g2,b1,b2,fw,fl⟩:=OF hw hg hl60
       have e0:B7 w D = .tuple [wD (AJ (doT w D)),(AM w D).d]:=by unfold B7;rw[ha]
       have hdo:∀t∈AJ (doT w D),t.1∈ys:=fun t ht=>iZ hr ha hwn hDn t ((AR _).mem_iff.mp ht)
       rw[ha] at eD eS
       rw[eD,eS,e0]
       walk_at "r"
       refine AC (d:=wD (AJ (doT w D))) rfl ?_
       walk_at "r"
       refine KN hcl hf hdo fw.1.nodup (by omega) ?_
       walk_at "r"
       refine AC (d:=(AM w D).d) (AD (j:=1) rfl) ?_
       walk_at "r"
       refine KP hcl (mU hDn) ?_
       walk_at "r"
       refine AQ (BV 0) (by simp[EC]) ?_
       refine GA ?_
       walk_at "r"
       refine AC (d:=wD (AJ (doT w D))) rfl ?_
       walk_at "r"
       refine⟨by rw[zX];exact zP (show(AJ (doT w D)).length < 60 by omega) (by decide),fun _=>true,sgP,?_,?_⟩
       · intro d hd M'
         obtain⟨t,ht,rfl⟩:=zL.mp hd
         walk_at "dl"
         refine⟨rfl,?_⟩
         walk_at "dl"
         refine⟨rfl,rfl,fun _=>?_⟩
         walk_at "r"
         refine C9 (ds:=[.str t.1,.int t.2.1,.int t.2.2]) ?_
         rw[show BU [PyData.str t.1,.int t.2.1,.int t.2.2] none (some 2)=[.str t.1,.int t.2.1] from rfl]
         walk_at "r"
         refine AC (ds:=[.str t.1,.int t.2.1,.int t.2.2]) (d:=.int t.2.2) rfl ?_
         walk_at "r"
         refine C8 (yD rfl) ?_
         exact⟨rfl,rfl⟩
       rw[X5,j2]
       walk_at "r"
       refine GC ?_
       walk_at "r"
       refine AC (d:=(AM w D).d) (AD (j:=1) rfl) ?_
       walk_at "r"
       refine MI ?_
       walk_at "r"
       exact⟨rfl,rfl⟩
   rintro ρ1 M1 ⟨rfl,rfl⟩
   walk_at "r"
   refine KN hcl hf hwn hw.1.nodup (by omega) ?_
   walk_at "r"
   refine KP hcl hDn ?_
   walk_at "r"
   refine FJ ⟨fR.1.nodup,by omega⟩ rR ?_
   walk_at "r"
   refine AE s1 s1 ?_
   rw[if_pos rfl,q1]
   walk_at "r"
   refine AQ (BV 0) (by simp[EC]) ?_
   refine GA ?_
   walk_at "r"
   refine⟨by rw[zX];exact zP hl60 (by decide),fun _=>true,sgP,?_,?_⟩
   · intro d hd M'
     obtain⟨t,ht,rfl⟩:=zL.mp hd
     walk_at "dl"
     refine⟨rfl,?_⟩
     walk_at "dl"
     refine⟨rfl,rfl,fun _=>?_⟩
     walk_at "r"
     refine C9 (ds:=[.str t.1,.int t.2.1,.int t.2.2]) ?_
     rw[show BU [PyData.str t.1,.int t.2.1,.int t.2.2] none (some 2)=[.str t.1,.int t.2.1] from rfl]
     walk_at "r"
     refine AC (ds:=[.str t.1,.int t.2.1,.int t.2.2]) (d:=.int t.2.2) rfl ?_
     walk_at "r"
     refine C8 (yD rfl) ?_
     exact⟨rfl,rfl⟩
   rw[X5,j2]
   walk_at "r"
   refine GC ?_
   walk_at "r"
   refine MI ?_
   walk_at "r"
   refine FJ ⟨(ZK hw).1.nodup,by omega⟩ (ZJ hr) ?_
   walk_at "r"
   refine AE s2 s2 ?_
   rw[if_pos rfl,q2]
   walk_at "r"
   refine AZ ⟨D,rfl,hr,hfit⟩ ?_
   rw[mN]
   walk_at "r"
   refine VI hr hfit ((sJ hr hfit).ok (by decide)) ?_
   walk_at "r"
   refine FJ ⟨hw.1.nodup,by omega⟩ hr ?_
   walk_at "r"
   refine AE s0 s0 ?_
   rw[if_pos rfl,q0]
   walk_at "r"
   refine U7 ?_
   cases ha:AF (w.map (·.1)) D with
   | some z=>
     have e0:B7 w D = .none:=by unfold B7;rw[ha]
     rw[e0]
     walk_at "r"
     exact⟨by omega,w,o3,_,_,_,_,_,_,hw,by omega,hwn,ho3,rfl,rfl⟩
   | none=>
     have hg:goD w D:=⟨⟨hw.1.nodup,by omega⟩,hr,ha⟩
     obtain⟨g2,b1,b2,fw,fl⟩:=OF hw hg hl60
     have e0:B7 w D = .tuple [wD (AJ (doT w D)),(AM w D).d]:=by unfold B7;rw[ha]
     have hdo:∀t∈AJ (doT w D),t.1∈ys:=fun t ht=>iZ hr ha hwn hDn t ((AR _).mem_iff.mp ht)
     rw[e0]
     walk_at "r"
     refine AC (d:=wD (AJ (doT w D))) rfl ?_
     walk_at "r"
     exact⟨by omega,_,o3,_,_,_,_,_,_,fw,by omega,hdo,ho3,rfl,rfl⟩
 · rintro ρ' M' ⟨hk4,w,o',x1,x2,x3,x4,x5,x6,hw,hwl,hwn,ho',rfl,rfl⟩
   walk_at "r"
   refine⟨_,zT _,rfl,fun p' e=>?_⟩
   cases e
   exact⟨o',rfl⟩
end
end
section
variable {P:Program}{w:World}{K:Frg}{mg:Str→Option Value}{base:Heap}
abbrev VV:Stmt:=_root_.sT 53
def j6:List Str:=["_law_script"]
def VW:List Str:=["_law_cell"]
def VX:List (Option Nat):=[none]
theorem j7:VW.Nodup:=by decide +kernel
theorem j8:FnScope j6 ["_law_script"] (AA VV):=⟨rfl,rfl,rfl,by decide +kernel,rfl,by decide +kernel,by decide +kernel⟩
section
local macro_rules | `(tactic| walk_at "x")=>`(tactic| first | ((with_reducible show PE _ (.ListComp ..) _);exact @CC _ _ _ _ _ _ _ _ _ _ _ _ _ rfl (@L2.CSc.of _ _ (VW) (VX) (AA VV) (j6) (by decide +kernel) rfl rfl) (by walk_at "n") (fun C s' H' ex' pn'=>⟨(by walk_at "g"),(by walk_at "u"),(by walk_at "e")⟩) (by intro _;rfl)))
theorem sN {f:Addr}{fd:FuncData}(F:Fun K "law" "law" VV f fd) (n_all:mg "all"=none) (h__law_pack:Has P w K mg base "_law_pack" 1 ["_law_cell"] DQ) (h__law_right:Has P w K mg base "_law_right" 9 ["_law_pack_here"] CQ):FnOk P w K mg base CX0 10 f fd ["_law_script"] (spD K 1 UJ):=by
 refine fnD F j8 fun cdv A outer s H E hr=>?_
 have hu:=hr.units
 have nd:=j8.nd
 have n0:=j7
 refine⟨_,by walk_at "b1", ?_⟩
 clear nd n0
 rintro xs M hl ⟨ns,rfl,hns,_⟩
 walk_at "r"
 refine RU (BV 0) (by simp[VX]) ?_
 refine K6 ?_
 walk_at "r"
 refine NL ?_
 walk_at "r"
 refine aF ?_
 have hcl:([PyData.int 0]++BU (ns.map PyData.int) none (some 15)).length≤64:=by
   have:=kW (ns.map PyData.int) none (some 15)
   rw[zX] at this
   rw[yY]
   simp only[yR,List.length_nil]
   omega
 refine TR (by rw[← yY];exact zN hcl (by decide)) ?_
 refine⟨_,rfl,zQ hcl (by decide),fun A hA=>?_⟩
 refine⟨fun k acc M'=>acc=List.replicate k (.bool true)∧M' A=some (.l acc),⟨rfl,zU⟩,?_,?_,?_⟩
 · rintro k acc M' ⟨rfl,hA'⟩
   exact⟨hA',by simp⟩
 · rintro k d acc M' hd ⟨rfl,hA'⟩
   have hi:∃c:Int,d = .int c:=by
     rcases yW.mp (yN hd) with h | h
     · exact⟨0,by simpa using h⟩
     · unfold BU at h
       obtain⟨c,_,rfl⟩:=zL.mp (List.mem_of_mem_drop (List.mem_of_mem_take h))
       exact⟨c,rfl⟩
   obtain⟨c,rfl⟩:=hi
   walk_at "r"
   refine aT fun p o hp ho=>?_
   walk_at "r"
   have hpA:p≠A:=fun e=>by rw[e,hA'] at hp;cases hp
   refine XQ zU ho fun o2=>?_
   rw[yI]
   refine⟨_,rfl,by rw[yH hpA.symm];exact hA',?_,?_⟩
   · rw[List.replicate_succ']
   · exact zU
 · rintro acc M' ⟨rfl,hA'⟩
   rw[show List.replicate ([PyData.int 0]++BU (ns.map PyData.int) none (some 15)).length (PyData.bool true)=(List.replicate ([PyData.int 0]++BU (ns.map PyData.int) none (some 15)).length true).map .bool by rw[List.map_replicate]]
   walk_at "r"
   refine RW ?_
   rw[show(List.replicate ([PyData.int 0]++BU (ns.map PyData.int) none (some 15)).length true).all id=true by rw[List.all_eq_true];intro x hx;exact(List.mem_replicate.mp hx).2]
   exact⟨_,zT _,rfl⟩
end
end
end DL
namespace DL
open PySem PySem.Spec L2 XC
local macro_rules | `(tactic| walk_at "b1")=>`(tactic| exact fun _ _ _ _ _ _ us hl=>match us,hl with | [_],_=>rfl)
local macro_rules | `(tactic| walk_at "b2")=>`(tactic| exact fun _ _ _ _ _ _ us hl=>match us,hl with | [_,_],_=>rfl)
local macro_rules | `(tactic| walk_at "b3")=>`(tactic| exact fun _ _ _ _ _ _ us hl=>match us,hl with | [_,_,_],_=>rfl)
theorem sO {l:PySem.W.OpenLaw}{w:World}{K:Frg}{h:Heap}{mg:Str→Option Value}{fa:Addr}{C_S:Addr}{t_FIGURES:Tok}{a_FORMS:Addr}{ep_FORMS:Nat}{tk_FORMS_0 tv_FORMS_0:Tok}{tk_FORMS_1 tv_FORMS_1:Tok}{tk_FORMS_2 tv_FORMS_2:Tok}{tk_FORMS_3 tv_FORMS_3:Tok}{tk_FORMS_4 tv_FORMS_4:Tok}{tk_FORMS_5 tv_FORMS_5:Tok}{tk_FORMS_6 tv_FORMS_6:Tok}{t_GROUP:Tok}{t_LAST_PLACE:Tok}{t_LETTERS:Tok}{t_LONGEST_NAME:Tok}{C_NoText N_NoText:Addr}{nm_NoText q_NoText:Str}{bs_NoText sb_NoText:List Value}{sn_NoText:List Str}{ab_NoText:Bool}{co_NoText:Option Bool}{dd_NoText:Option Addr}{k0_NoText k1_NoText k2_NoText k3_NoText k5_NoText:Option Value}{fc_NoText:Addr}{odc_NoText anc_NoText:Option Addr}{slc_NoText:Array (Option Value)}{occ_NoText kVc_NoText dcc_NoText pmc_NoText cdc_NoText ctc_NoText:Value}{C_NotNow N_NotNow:Addr}{nm_NotNow q_NotNow:Str}{bs_NotNow sb_NotNow:List Value}{sn_NotNow:List Str}{ab_NotNow:Bool}{co_NotNow:Option Bool}{dd_NotNow:Option Addr}{k0_NotNow k1_NotNow k2_NotNow k3_NotNow k5_NotNow:Option Value}{fc_NotNow:Addr}{odc_NotNow anc_NotNow:Option Addr}{slc_NotNow:Array (Option Value)}{occ_NotNow kVc_NotNow dcc_NotNow pmc_NotNow cdc_NotNow ctc_NotNow:Value}
   (X:K.In h) (G:h.Ns mainGlobals mg) (hfa:mg "law"=some (.ref fa))
   (b0:FnIn K "is_row_of_figures" B2)
   (b1:FnIn K "show_whole" CU)
   (b2:FnIn K "read_whole" EK)
   (b3:FnIn K "is_whole" GR)
   (b4:FnIn K "is_name" G2)
   (b5:FnIn K "is_within" FL)
   (b6:FnIn K "is_place" GS)
   (b7:FnIn K "form_of" IV)
   (b8:FnIn K "fits" SW)
   (b9:FnIn K "names_in" GT)
   (b10:FnIn K "is_deed" G3)
   (b11:FnIn K "made_by" IW)
   (b12:FnIn K "show_deed" E9)
   (b13:FnIn K "read_deed" CJ)
   (b14:FnIn K "by_names" EX)
   (b15:FnIn K "rising_by_names" BD)
   (b16:FnIn K "add_count" FK)
   (b17:FnIn K "refuse_undoable" B0)
   (b18:FnIn K "change" KR)
   (b19:FnIn K "done" P0)
   (b20:FnIn K "back_deed" E6)
   (b21:FnIn K "_law_pack" FN)
   (b22:FnIn K "_law_take" FM)
   (b23:FnIn K "_law_names" BX)
   (b24:FnIn K "_law_count" EN)
   (b25:FnIn K "_law_place" EM)
   (b26:FnIn K "_law_any_deed" BL)
   (b27:FnIn K "_law_world" EO)
   (b28:FnIn K "_law_called" DJ)
   (b29:FnIn K "_law_world_called" B1)
   (b30:FnIn K "_law_deed_called" BI)
   (b31:FnIn K "_law_signed" DK)
   (b32:FnIn K "_law_told" BQ)
   (b33:FnIn K "_law_right" BY)
   (b34:FnIn K "law" VV)
   (z_abs:PySem.W.nsIn K mainGlobals "abs"=some none)
   (z_all:PySem.W.nsIn K mainGlobals "all"=some none)
   (z_bool:PySem.W.nsIn K mainGlobals "bool"=some none)
   (z_dict:PySem.W.nsIn K mainGlobals "dict"=some none)
   (z_divmod:PySem.W.nsIn K mainGlobals "divmod"=some none)
   (z_int:PySem.W.nsIn K mainGlobals "int"=some none)
   (z_isinstance:PySem.W.nsIn K mainGlobals "isinstance"=some none)
   (z_len:PySem.W.nsIn K mainGlobals "len"=some none)
   (z_range:PySem.W.nsIn K mainGlobals "range"=some none)
   (z_reversed:PySem.W.nsIn K mainGlobals "reversed"=some none)
   (z_sorted:PySem.W.nsIn K mainGlobals "sorted"=some none)
   (z_str:PySem.W.nsIn K mainGlobals "str"=some none)
   (z_tuple:PySem.W.nsIn K mainGlobals "tuple"=some none)
   (z_zip:PySem.W.nsIn K mainGlobals "zip"=some none)
   (y_FIGURES:PySem.W.nsIn K mainGlobals "FIGURES"=some (some (.str "0123456789" t_FIGURES)))
   (y_FORMS:PySem.W.nsIn K mainGlobals "FORMS"=some (some (.ref a_FORMS)))
   (x_FORMS:K.lookup a_FORMS=some { cls:=.type "dict", data:=.dict #[{ hash:=PyData.keyHash w.params (Str.ofString "put"),key:=.str (Str.ofString "put") tk_FORMS_0,val:=.str (Str.ofString "npk") tv_FORMS_0 },{ hash:=PyData.keyHash w.params (Str.ofString "take"),key:=.str (Str.ofString "take") tk_FORMS_1,val:=.str (Str.ofString "n") tv_FORMS_1 },{ hash:=PyData.keyHash w.params (Str.ofString "move"),key:=.str (Str.ofString "move") tk_FORMS_2,val:=.str (Str.ofString "np") tv_FORMS_2 },{ hash:=PyData.keyHash w.params (Str.ofString "count"),key:=.str (Str.ofString "count") tk_FORMS_3,val:=.str (Str.ofString "nk") tv_FORMS_3 },{ hash:=PyData.keyHash w.params (Str.ofString "name"),key:=.str (Str.ofString "name") tk_FORMS_4,val:=.str (Str.ofString "nn") tv_FORMS_4 },{ hash:=PyData.keyHash w.params (Str.ofString "split"),key:=.str (Str.ofString "split") tk_FORMS_5,val:=.str (Str.ofString "nnpk") tv_FORMS_5 },{ hash:=PyData.keyHash w.params (Str.ofString "join"),key:=.str (Str.ofString "join") tk_FORMS_6,val:=.str (Str.ofString "nn") tv_FORMS_6 }] ep_FORMS })
   (s_FORMS:(a_FORMS==sysModules)=false)
   (y_GROUP:PySem.W.nsIn K mainGlobals "GROUP"=some (some (.int 1000000000000000000 t_GROUP)))
   (y_LAST_PLACE:PySem.W.nsIn K mainGlobals "LAST_PLACE"=some (some (.int 999 t_LAST_PLACE)))
   (y_LETTERS:PySem.W.nsIn K mainGlobals "LETTERS"=some (some (.str "abcdefghijklmnopqrstuvwxyz" t_LETTERS)))
   (y_LONGEST_NAME:PySem.W.nsIn K mainGlobals "LONGEST_NAME"=some (some (.int 8 t_LONGEST_NAME)))
   (ac_NoText:PySem.W.nsIn K mainGlobals "NoText"=some (some (.ref C_NoText))) (lc_NoText:K.lookup C_NoText=some (excClassObj nm_NoText q_NoText C_NoText N_NoText bs_NoText (.ref C_S::XC.bmV) true sn_NoText sb_NoText ab_NoText co_NoText dd_NoText k0_NoText k1_NoText k2_NoText k3_NoText k5_NoText "ValueError.__new__")) (kc_NoText:PySem.W.keepIn K (.ref C_NoText)=true)
   (ic_NoText:PySem.W.findIn K (.ref C_NoText) "__init__"=some (some (.ref fc_NoText)))
   (fl_NoText:K.lookup fc_NoText=some ⟨occ_NoText,odc_NoText,.func (PySem.W.fnOf "__init__" "NoText.__init__" (CM BN) (BF BN) (AA BN) .none kVc_NoText dcc_NoText pmc_NoText anc_NoText cdc_NoText ctc_NoText),slc_NoText⟩)
   (cc_NoText:PySem.W.codeIn K cdc_NoText "NoText.__init__"=true) (if_NoText:PySem.W.isFn K (.ref fc_NoText)=true) (kf_NoText:PySem.W.keepIn K (.ref fc_NoText)=true)
   (sa_NoText:PySem.W.findIn K (.ref C_NoText) "__setattr__"=some (some (.builtin "object.__setattr__"))) (ta_NoText:PySem.W.takerIn K C_NoText "part"=some none)
   (ac_NotNow:PySem.W.nsIn K mainGlobals "NotNow"=some (some (.ref C_NotNow))) (lc_NotNow:K.lookup C_NotNow=some (excClassObj nm_NotNow q_NotNow C_NotNow N_NotNow bs_NotNow (.ref C_S::XC.bmV) true sn_NotNow sb_NotNow ab_NotNow co_NotNow dd_NotNow k0_NotNow k1_NotNow k2_NotNow k3_NotNow k5_NotNow "ValueError.__new__")) (kc_NotNow:PySem.W.keepIn K (.ref C_NotNow)=true)
   (ic_NotNow:PySem.W.findIn K (.ref C_NotNow) "__init__"=some (some (.ref fc_NotNow)))
   (fl_NotNow:K.lookup fc_NotNow=some ⟨occ_NotNow,odc_NotNow,.func (PySem.W.fnOf "__init__" "NotNow.__init__" (CM BM) (BF BM) (AA BM) .none kVc_NotNow dcc_NotNow pmc_NotNow anc_NotNow cdc_NotNow ctc_NotNow),slc_NotNow⟩)
   (cc_NotNow:PySem.W.codeIn K cdc_NotNow "NotNow.__init__"=true) (if_NotNow:PySem.W.isFn K (.ref fc_NotNow)=true) (kf_NotNow:PySem.W.keepIn K (.ref fc_NotNow)=true)
   (sa_NotNow:PySem.W.findIn K (.ref C_NotNow) "__setattr__"=some (some (.builtin "object.__setattr__"))) (ta_NotNow:PySem.W.takerIn K C_NotNow "name"=some none) :
   ∃fd:FuncData,(∀(s:Shared) (v:Value),BindsTo s fd ⟨[v],[]⟩ [("_law_script", v)])∧∀base:Heap,K.In base→base.Ns mainGlobals mg→FnOk l.prog w K mg base CX0 10 fa fd ["_law_script"] (spD K 1 UJ):=by
 obtain⟨f0,d0,A0⟩:=b0.at X G
 obtain⟨f1,d1,A1⟩:=b1.at X G
 obtain⟨f2,d2,A2⟩:=b2.at X G
 obtain⟨f3,d3,A3⟩:=b3.at X G
 obtain⟨f4,d4,A4⟩:=b4.at X G
 obtain⟨f5,d5,A5⟩:=b5.at X G
 obtain⟨f6,d6,A6⟩:=b6.at X G
 obtain⟨f7,d7,A7⟩:=b7.at X G
 obtain⟨f8,d8,A8⟩:=b8.at X G
 obtain⟨f9,d9,A9⟩:=b9.at X G
 obtain⟨f10,d10,A10⟩:=b10.at X G
 obtain⟨f11,d11,A11⟩:=b11.at X G
 obtain⟨f12,d12,A12⟩:=b12.at X G
 obtain⟨f13,d13,A13⟩:=b13.at X G
 obtain⟨f14,d14,A14⟩:=b14.at X G
 obtain⟨f15,d15,A15⟩:=b15.at X G
 obtain⟨f16,d16,A16⟩:=b16.at X G
 obtain⟨f17,d17,A17⟩:=b17.at X G
 obtain⟨f18,d18,A18⟩:=b18.at X G
 obtain⟨f19,d19,A19⟩:=b19.at X G
 obtain⟨f20,d20,A20⟩:=b20.at X G
 obtain⟨f21,d21,A21⟩:=b21.at X G
 obtain⟨f22,d22,A22⟩:=b22.at X G
 obtain⟨f23,d23,A23⟩:=b23.at X G
 obtain⟨f24,d24,A24⟩:=b24.at X G
 obtain⟨f25,d25,A25⟩:=b25.at X G
 obtain⟨f26,d26,A26⟩:=b26.at X G
 obtain⟨f27,d27,A27⟩:=b27.at X G
 obtain⟨f28,d28,A28⟩:=b28.at X G
 obtain⟨f29,d29,A29⟩:=b29.at X G
 obtain⟨f30,d30,A30⟩:=b30.at X G
 obtain⟨f31,d31,A31⟩:=b31.at X G
 obtain⟨f32,d32,A32⟩:=b32.at X G
 obtain⟨f33,d33,A33⟩:=b33.at X G
 obtain⟨f34,d34,A34⟩:=b34.at X G
 have e:=hfa.symm.trans A34.mg_
 cases e
 have n_abs:=PySem.W.mg_none_of X G z_abs
 have n_all:=PySem.W.mg_none_of X G z_all
 have n_bool:=PySem.W.mg_none_of X G z_bool
 have n_dict:=PySem.W.mg_none_of X G z_dict
 have n_divmod:=PySem.W.mg_none_of X G z_divmod
 have n_int:=PySem.W.mg_none_of X G z_int
 have n_isinstance:=PySem.W.mg_none_of X G z_isinstance
 have n_len:=PySem.W.mg_none_of X G z_len
 have n_range:=PySem.W.mg_none_of X G z_range
 have n_reversed:=PySem.W.mg_none_of X G z_reversed
 have n_sorted:=PySem.W.mg_none_of X G z_sorted
 have n_str:=PySem.W.mg_none_of X G z_str
 have n_tuple:=PySem.W.mg_none_of X G z_tuple
 have n_zip:=PySem.W.mg_none_of X G z_zip
 have g_FIGURES:∃t,mg "FIGURES"=some (.str "0123456789" t):=⟨_,PySem.W.mg_of X G y_FIGURES⟩
 have g_FORMS:∃a,mg "FORMS"=some (.ref a)∧GDict w K a CY:=⟨_,PySem.W.mg_of X G y_FORMS,s_FORMS,by decide +kernel,_,_,x_FORMS,rfl,⟨_,rfl⟩,⟨_,rfl⟩,rfl,⟨_,rfl⟩,⟨_,rfl⟩,rfl,⟨_,rfl⟩,⟨_,rfl⟩,rfl,⟨_,rfl⟩,⟨_,rfl⟩,rfl,⟨_,rfl⟩,⟨_,rfl⟩,rfl,⟨_,rfl⟩,⟨_,rfl⟩,rfl,⟨_,rfl⟩,⟨_,rfl⟩,trivial⟩
 have g_GROUP:∃t,mg "GROUP"=some (.int 1000000000000000000 t):=⟨_,PySem.W.mg_of X G y_GROUP⟩
 have g_LAST_PLACE:∃t,mg "LAST_PLACE"=some (.int 999 t):=⟨_,PySem.W.mg_of X G y_LAST_PLACE⟩
 have g_LETTERS:∃t,mg "LETTERS"=some (.str "abcdefghijklmnopqrstuvwxyz" t):=⟨_,PySem.W.mg_of X G y_LETTERS⟩
 have g_LONGEST_NAME:∃t,mg "LONGEST_NAME"=some (.int 8 t):=⟨_,PySem.W.mg_of X G y_LONGEST_NAME⟩
 have xc_NoText:XC.XCls K C_NoText C_S (.ref fc_NoText):=⟨⟨_,_,_,_,_,_,_,_,_,_,_,_,_,_,lc_NoText⟩,ic_NoText,kc_NoText⟩
 have Fc_NoText:=WB (st:=BN) fl_NoText cc_NoText kf_NoText
 have xc_NotNow:XC.XCls K C_NotNow C_S (.ref fc_NotNow):=⟨⟨_,_,_,_,_,_,_,_,_,_,_,_,_,_,lc_NotNow⟩,ic_NotNow,kc_NotNow⟩
 have Fc_NotNow:=WB (st:=BM) fl_NotNow cc_NotNow kf_NotNow
 have q_NoText:=PySem.W.mg_of X G ac_NoText
 have q_NotNow:=PySem.W.mg_of X G ac_NotNow
 refine⟨d34,fun s v=>?_,fun base _ _=>?_⟩
 · obtain⟨oc,od,kV,doc,pm,an,cdv,ct,osl,e,_,_⟩:=A34.fn.ex
   subst e
   exact .of_eq rfl
 have r_NoText:HasR l.prog w K mg base "NoText" "part" C_NoText C_S:=⟨fc_NoText,_,["self", "part"],xc_NoText,if_NoText,VU Fc_NoText xc_NoText ⟨sa_NoText,ta_NoText⟩,Fc_NoText.binds (ps:=["self", "part"]) fun _ _ _ _ _ _ us hl=>match us,hl with | [_,_],_=>rfl,PySem.W.mg_of X G ac_NoText⟩
 have r_NotNow:HasR l.prog w K mg base "NotNow" "name" C_NotNow C_S:=⟨fc_NotNow,_,["self", "name"],xc_NotNow,if_NotNow,VN Fc_NotNow xc_NotNow ⟨sa_NotNow,ta_NotNow⟩,Fc_NotNow.binds (ps:=["self", "name"]) fun _ _ _ _ _ _ us hl=>match us,hl with | [_,_],_=>rfl,PySem.W.mg_of X G ac_NotNow⟩
 have h_is_row_of_figures:Has l.prog w K mg base "is_row_of_figures" 1 ["text"] C0:=A0.has (IG A0.fn n_all n_len g_FIGURES) (by walk_at "b1")
 have h_show_whole0:Has l.prog w K mg base "show_whole" 1 ["number"] FO:=A1.has (P7 A1.fn n_reversed n_str g_GROUP) (by walk_at "b1")
 have h_show_whole:Has l.prog w K mg base "show_whole" 2 ["number"] GM:=A1.has (PM A1.fn n_reversed n_str g_GROUP h_show_whole0) (by walk_at "b1")
 have h_read_whole:Has l.prog w K mg base "read_whole" 2 ["text"] CP:=A2.has (PP A2.fn g_FIGURES h_is_row_of_figures) (by walk_at "b1")
 have h_is_whole:Has l.prog w K mg base "is_whole" 1 ["thing"] GF:=A3.has (VP A3.fn n_bool n_int n_isinstance) (by walk_at "b1")
 have h_is_name:Has l.prog w K mg base "is_name" 1 ["thing"] LB:=A4.has (Y1 A4.fn n_all n_isinstance n_len n_str g_LETTERS g_LONGEST_NAME) (by walk_at "b1")
 have h_is_within:Has l.prog w K mg base "is_within" 2 ["thing", "low", "high"] DO:=A5.has (SU A5.fn h_is_whole) (by walk_at "b3")
 have h_is_place:Has l.prog w K mg base "is_place" 3 ["thing"] JM:=A6.has (VR A6.fn g_LAST_PLACE h_is_within) (by walk_at "b1")
 have h_form_of:Has l.prog w K mg base "form_of" 1 ["word"] FV:=A7.has (Y3 A7.fn n_isinstance n_str g_FORMS) (by walk_at "b1")
 have h_fits:Has l.prog w K mg base "fits" 4 ["sign", "part"] X2:=A8.has (n9 A8.fn h_is_name h_is_place h_is_whole) (by walk_at "b2")
 have h_names_in:Has l.prog w K mg base "names_in" 2 ["deed"] GI:=A9.has (VT A9.fn h_form_of) (by walk_at "b1")
 have h_is_deed:Has l.prog w K mg base "is_deed" 5 ["thing"] FW:=A10.has (Y4 A10.fn n_all n_isinstance n_len n_tuple n_zip h_fits h_form_of h_names_in) (by walk_at "b1")
 have h_made_by:Has l.prog w K mg base "made_by" 1 ["deed"] LH:=A11.has (Y6 A11.fn ) (by walk_at "b1")
 have h_show_deed:Has l.prog w K mg base "show_deed" 3 ["deed"] HW:=A12.has (SY A12.fn n_isinstance n_str h_show_whole) (by walk_at "b1")
 have h_read_deed:HasX l.prog w K mg base "read_deed" 6 ["text"] (DY C_NoText):=A13.hasX (SZ A13.fn n_isinstance n_len n_str n_tuple n_zip r_NoText h_form_of h_is_deed h_read_whole) (by walk_at "b1")
 have h_by_names:Has l.prog w K mg base "by_names" 1 ["world"] D3:=A14.has (VM A14.fn ) (by walk_at "b1")
 have h_rising_by_names:Has l.prog w K mg base "rising_by_names" 1 ["things"] BC:=A15.has (JW A15.fn n_sorted n_tuple) (by walk_at "b1")
 have h_add_count:Has l.prog w K mg base "add_count" 1 ["things", "name", "more"] DW:=A16.has (SQ A16.fn ) (by walk_at "b3")
 have h_refuse_undoable:HasX l.prog w K mg base "refuse_undoable" 6 ["things", "deed"] (D8 C_NotNow):=A17.hasX (JX A17.fn r_NotNow h_is_deed h_made_by h_names_in) (by walk_at "b2")
 have h_change:Has l.prog w K mg base "change" 2 ["things", "deed"] HR:=A18.has (c8 A18.fn h_add_count) (by walk_at "b2")
 have h_done:HasX l.prog w K mg base "done" 7 ["world", "deed"] (IT C_NotNow):=A19.hasX (n6 A19.fn h_refuse_undoable h_by_names h_change h_rising_by_names) (by walk_at "b2")
 have h_back_deed:HasX l.prog w K mg base "back_deed" 7 ["world", "deed"] (IU C_NotNow):=A20.hasX (SR A20.fn h_refuse_undoable h_by_names) (by walk_at "b2")
 have h__law_pack:Has l.prog w K mg base "_law_pack" 1 ["_law_cell"] DQ:=A21.has (T3 A21.fn n_abs) (by walk_at "b1")
 have h__law_take:Has l.prog w K mg base "_law_take" 1 ["_law_pack_here", "_law_size"] B6:=A22.has (T1 A22.fn n_divmod n_range) (by walk_at "b2")
 have h__law_names:Has l.prog w K mg base "_law_names" 2 ["_law_pack_here", "_law_amount"] CN:=A23.has (PX A23.fn n_range h__law_take) (by walk_at "b2")
 have h__law_count:Has l.prog w K mg base "_law_count" 2 ["_law_pack_here"] EQ:=A24.has (PV A24.fn h__law_take) (by walk_at "b1")
 have h__law_place:Has l.prog w K mg base "_law_place" 2 ["_law_pack_here"] BW:=A25.has (PR A25.fn h__law_take) (by walk_at "b1")
 have h__law_any_deed:Has l.prog w K mg base "_law_any_deed" 3 ["_law_pack_here", "_law_names_here"] KO:=A26.has (LT A26.fn n_len h__law_count h__law_place h__law_take) (by walk_at "b2")
 have h__law_world:Has l.prog w K mg base "_law_world" 3 ["_law_pack_here", "_law_names_here"] G1:=A27.has (PZ A27.fn n_sorted n_tuple h__law_count h__law_place h__law_take) (by walk_at "b2")
 have h__law_called:Has l.prog w K mg base "_law_called" 1 ["_law_things", "_law_called_here"] D9:=A28.has (OX A28.fn n_isinstance n_str n_tuple) (by walk_at "b2")
 have h__law_world_called:Has l.prog w K mg base "_law_world_called" 2 ["_law_world_here", "_law_called_here"] DZ:=A29.has (ID A29.fn n_sorted n_tuple h__law_called) (by walk_at "b2")
 have h__law_deed_called:Has l.prog w K mg base "_law_deed_called" 2 ["_law_deed", "_law_called_here"] CI:=A30.has (J1 A30.fn h__law_called) (by walk_at "b2")
 have h__law_signed:Has l.prog w K mg base "_law_signed" 1 ["_law_deed"] DC:=A31.has (OZ A31.fn ) (by walk_at "b1")
 have h__law_told:Has l.prog w K mg base "_law_told" 8 ["_law_world_here", "_law_deed"] HX:=A32.has (SS A32.fn r_NotNow h_back_deed h_done) (by walk_at "b2")
 have h__law_right:Has l.prog w K mg base "_law_right" 9 ["_law_pack_here"] CQ:=A33.has (Q0 A33.fn n_dict n_len n_range n_tuple h_read_deed h__law_any_deed h__law_deed_called h__law_names h__law_signed h__law_take h__law_told h__law_world h__law_world_called h_show_deed) (by walk_at "b1")
 exact sN A34.fn n_all h__law_pack h__law_right
theorem sP {K:Frg}{H:Hp}{a:Addr}{ns:List Int}(hl:ns.length≤63) (hb:∀i∈ns,xL i≤2 ^ 20) (hS:SqL K H a (ns.map V.int)):spD K 1 UJ [.ref a] H (fun v _=>v = .bl true) fun _ _ _=>False:=by
 refine⟨[.d (.list (ns.map .int))],fun _=>none,rfl,(fun a o e=>nomatch e),⟨.ref a,[],rfl,?_,rfl⟩,⟨ns,rfl,hl,hb⟩,fun x M' v H' post st oa si=>?_⟩
 · unfold SI DV
   refine⟨a,ns.map V.int,rfl,?_,M0⟩
   rcases hS with h | h
   · exact .inl ⟨fun w=>w rfl,h⟩
   · exact .inr h
 · have e:x = .d (.bool true):=post
   subst e
   exact u0 si
theorem vO {l:PySem.W.OpenLaw}{q:Program}{loose:List Str}{XP:(Str→Option Value)→Heap→Prop}{YP:World→Heap→Prop}{d:DefRec}{K:Params→Frg}(hn:l.most=some 63) (hdf:d.params.defaults=[])
   (hY:∀(w:World) (h:Heap),YP w h→(K w.params).In h)
   (F:∀(w:World) (mg:Str→Option Value) (fa:Addr) (h:Heap),(K w.params).In h→h.Ns mainGlobals mg→mg d.name=some (.ref fa) →
     ∃fd:FuncData,(∀(s:Shared) (u:Value),BindsTo s fd ⟨[u],[]⟩ [("_law_script", u)])∧∀base:Heap,(K w.params).In base→base.Ns mainGlobals mg→FnOk l.prog w (K w.params) mg base CX0 10 fa fd ["_law_script"] (spD (K w.params) 1 UJ)) :
   PySem.W.WalkO q loose XP YP l.row.toRowW d [] (fun f vs=>PySem.call f vs):=
 L2.fH (n:=63) (k:=10) (x:= "_law_script") (CX:=fun _=>CX0) (sp:=fun w=>spD (K w.params) 1 UJ) hn (by decide) hdf ⟨rfl,by decide,by decide⟩ hY F (fun _ _ a ns hl hb _ hS=>sP hl hb hS) fun _ _ _ _ _ z=>z
abbrev vS (x:String) (t:Tok):Value:=.str (Str.ofString x) t
abbrev eS (P:Params) (x:String) (t:Tok) (v:Value):DictEntry:=⟨PyData.keyHash P (Str.ofString x),.str (Str.ofString x) t,v⟩
abbrev hs (i:Nat):Stmt:=PySem.Challenge.pw_struckdeeds_k14_whole_names_called_other.main.body.getD i (.Pass ⟨0,0,0,0⟩)
abbrev fO (n q:String) (st:Stmt) (doc pm:Value) (c:Nat):Obj:=⟨.type "function", none,.func (PySem.W.fnOf (Str.ofString n) (Str.ofString q) (CM st) (BF st) (AA st) .none .none doc pm none (.ref c) .none),#[]⟩
abbrev gO (n q:String) (st:Stmt):Obj:=⟨.none,none,.func (.mk (Str.ofString n) (Str.ofString q) (CM st) (.stmts (BF st)) (AA st) 0 [] .none .none .none .none none .none .none 0),#[]⟩
abbrev tO (vs:Array Value):Obj:=⟨.type "tuple", none,.seq vs 0,#[]⟩
abbrev kO (n q:String) (a b c:Tok) (l k f:Nat) (x1:Value) (t:Nat) (x2 x3 x4 x5:Value) (u l2:Nat) (d:Tok):Obj:=⟨.type "code", none,.fields #[vS n a,vS q b,vS "/claim/cut.py" c,.int l 0,.int k 0,.int 0 0,.int 0 0,.int f 0,x1,.bool true,.int t 0,x2,.none,x3,x4,x5,.int u 0,.int l2 0,vS "/claim/cut.py" d],#[]⟩
def hV:Program:={ PySem.Challenge.pw_struckdeeds_k14_whole_names_called_other with main:={ PySem.Challenge.pw_struckdeeds_k14_whole_names_called_other.main with body:=([1,2,3,4,5,6,7,9,10,11,12,13,14,16,17,18,19,21,22,24,25,26,27,28,30,31,32,33,34,35,37,38,40,41,42,43,44,45,46,47,48,49,50,51,52,53]:List Nat).map hs } }
abbrev hB:List Stmt:=PySem.W.behindTheImports PySem.Challenge.pw_struckdeeds_k14_whole_names_called_other
def hN:Env:={ scope:=PySem.Challenge.pw_struckdeeds_k14_whole_names_called_other.main.scope,locals:=mainNs,globals:=mainNs,cells:=[],code:=PySem.Value.ref 13,frame:=some 14 }
abbrev hC:Code:=.body hB hN
abbrev hF:List Frame:=[PySem.W.topFrame { line:=0,col:=0,endLine:=0,endCol:=0 }]
abbrev hI (t:PySem.W.BT) (l:List (Nat×Obj)):PySem.W.BT:=l.foldl (fun t x=>t.ins x.1 x.2) t
noncomputable def hT0:Params→PySem.W.BT:=fun P=>hI .nil [(0,PySem.W.boot_o_0 P),(1,PySem.W.boot_o_1 P),(2,PySem.W.boot_o_2 P),(3,PySem.W.boot_o_3 P),(4,PySem.W.boot_o_4 P),(5,PySem.W.boot_o_5 P),(6,PySem.W.boot_o_6 P),(7,PySem.W.boot_o_7 P),(8,PySem.W.boot_o_8 P),(9,PySem.W.boot_o_9 P),(10,PySem.W.boot_o_10 P)]
noncomputable def hT1:Params→PySem.W.BT:=fun P=>hI (hT0 P) (
 (11,tO #[]) ::
 (12,(⟨.none,none,(.fields #[]),#[]⟩:Obj)) ::
 (13,(⟨(.type "code"),none,(.fields #[(vS "<module>" 182),(vS "<module>" 183),(vS "/claim/cut.py" 184),(.int 1 0),(.int 0 0),(.int 0 0),(.int 0 0),(.int 0 0),(.ref 11),(.bool false),(.int 181 0),(.ref 12),.none,.none,.none,.none,(.int 185 0),(.int 1 0),(vS "/claim/cut.py" 186)]),#[]⟩:Obj)) ::
 (14,(⟨(.type "frame"),none,.plain,#[(some (.ref 13)),(some (.ref 3)),(some (.ref 3)),none,(some (vS "__main__" 164)),none,(some (.ref 0))]⟩:Obj))::[])
noncomputable abbrev hX1 (w:World) (os:OsState):PySem.W.SharedT:=⟨hT1 w.params,15,{ },⟨[]⟩,{ },187,os⟩
noncomputable abbrev hX2 (w:World) (os:OsState):PySem.W.SharedT:=⟨hT1 w.params,15,{ },⟨[]⟩,{ },187,os⟩
def hD3:Params→List DictEntry:=fun P=>[eS P "__name__" 165 (vS "struckdeeds.doings" 383),eS P "__doc__" 166 .none,eS P "__package__" 167 .none,eS P "__loader__" 168 (.builtin "__main__.__loader__#opaque"),eS P "__spec__" 169 .none,eS P "__annotations__" 170 (.ref 6),eS P "__builtins__" 171 (.ref 4),eS P "__file__" 173 (vS "/claim/cut.py" 172),eS P "__cached__" 174 .none,eS P "LETTERS" 190 (vS "abcdefghijklmnopqrstuvwxyz" 189),eS P "LONGEST_NAME" 192 (.int 8 191),eS P "LAST_PLACE" 194 (.int 999 193),eS P "is_whole" 201 (.ref 21),eS P "is_name" 207 (.ref 26),eS P "is_within" 216 (.ref 33),eS P "is_place" 223 (.ref 40),eS P "FORMS" 247 (.ref 41),eS P "form_of" 254 (.ref 48),eS P "is_deed" 260 (.ref 53),eS P "fits" 268 (.ref 60),eS P "names_in" 275 (.ref 67),eS P "made_by" 282 (.ref 74),eS P "StrikeError" 302 (.ref 84),eS P "NoText" 327 (.ref 104),eS P "NoDeed" 343 (.ref 116),eS P "NotNow" 368 (.ref 135),eS P "by_names" 376 (.ref 142),eS P "rising_by_names" 382 (.ref 147)]
noncomputable def hT3:Params→PySem.W.BT:=fun P=>hI (hT1 P) (
 (3,(⟨.type "dict", none,.dict (hD3 P).toArray 28,#[]⟩:Obj)) ::
 (12,(⟨.none,none,(.fields #[(.int 5 0),(.int 0 0),(.ref 20),(.int 7 0),(.int 0 0),(.ref 25),(.int 11 0),(.int 0 0),(.ref 32),(.int 13 0),(.int 0 0),(.ref 39),(.int 17 0),(.int 0 0),(.ref 47),(.int 19 0),(.int 0 0),(.ref 52),(.int 29 0),(.int 0 0),(.ref 59),(.int 35 0),(.int 0 0),(.ref 66),(.int 37 0),(.int 0 0),(.ref 73),(.int 44 0),(.int 0 0),(.ref 80),(.int 46 0),(.int 0 0),(.ref 93),(.int 50 0),(.int 0 0),(.ref 112),(.int 52 0),(.int 0 0),(.ref 124),(.int 57 0),(.int 0 0),(.ref 141),(.int 59 0),(.int 0 0),(.ref 146)]),#[]⟩:Obj)) ::
 (15,tO #[]) ::
 (16,(⟨.none,none,(.fields #[]),#[]⟩:Obj)) ::
 (17,tO #[(vS "thing" 198)]) ::
 (18,tO #[]) ::
 (19,gO "is_whole" "is_whole" (hs 4)) ::
 (20,kO "is_whole" "is_whole" 195 196 197 5 1 3 (.ref 15) 181 (.ref 16) (.ref 17) (.ref 18) (.ref 19) 199 5 200) ::
 (21,fO "is_whole" "is_whole" (hs 4) .none (vS "struckdeeds.words" 187) 20) ::
 (22,tO #[]) ::
 (23,(⟨.none,none,(.fields #[]),#[]⟩:Obj)) ::
 (24,gO "is_name" "is_name" (hs 5)) ::
 (25,kO "is_name" "is_name" 202 203 204 7 1 3 (.ref 22) 181 (.ref 23) .none .none (.ref 24) 205 7 206) ::
 (26,fO "is_name" "is_name" (hs 5) .none (vS "struckdeeds.words" 187) 25) ::
 (27,tO #[]) ::
 (28,(⟨.none,none,(.fields #[]),#[]⟩:Obj)) ::
 (29,tO #[(vS "thing" 211),(vS "low" 212),(vS "high" 213)]) ::
 (30,tO #[]) ::
 (31,gO "is_within" "is_within" (hs 6)) ::
 (32,kO "is_within" "is_within" 208 209 210 11 3 3 (.ref 27) 181 (.ref 28) (.ref 29) (.ref 30) (.ref 31) 214 11 215) ::
 (33,fO "is_within" "is_within" (hs 6) .none (vS "struckdeeds.words" 187) 32) ::
 (34,tO #[]) ::
 (35,(⟨.none,none,(.fields #[]),#[]⟩:Obj)) ::
 (36,tO #[(vS "thing" 220)]) ::
 (37,tO #[]) ::
 (38,gO "is_place" "is_place" (hs 7)) ::
 (39,kO "is_place" "is_place" 217 218 219 13 1 3 (.ref 34) 181 (.ref 35) (.ref 36) (.ref 37) (.ref 38) 221 13 222) ::
 (40,fO "is_place" "is_place" (hs 7) .none (vS "struckdeeds.words" 187) 39) ::
 (41,(⟨(.type "dict"),none,(.dict #[eS P "put" 226 (vS "npk" 227),eS P "take" 228 (vS "n" 229),eS P "move" 230 (vS "np" 231),eS P "count" 232 (vS "nk" 233),eS P "name" 234 (vS "nn" 235),eS P "split" 236 (vS "nnpk" 237),eS P "join" 238 (vS "nn" 239)] 7),#[]⟩:Obj)) ::
 (42,tO #[]) ::
 (43,(⟨.none,none,(.fields #[]),#[]⟩:Obj)) ::
 (44,tO #[(vS "word" 251)]) ::
 (45,tO #[]) ::
 (46,gO "form_of" "form_of" (hs 10)) ::
 (47,kO "form_of" "form_of" 248 249 250 17 1 3 (.ref 42) 181 (.ref 43) (.ref 44) (.ref 45) (.ref 46) 252 17 253) ::
 (48,fO "form_of" "form_of" (hs 10) .none (vS "struckdeeds.deeds" 224) 47) ::
 (49,tO #[]) ::
 (50,(⟨.none,none,(.fields #[]),#[]⟩:Obj)) ::
 (51,gO "is_deed" "is_deed" (hs 11)) ::
 (52,kO "is_deed" "is_deed" 255 256 257 19 1 3 (.ref 49) 181 (.ref 50) .none .none (.ref 51) 258 19 259) ::
 (53,fO "is_deed" "is_deed" (hs 11) .none (vS "struckdeeds.deeds" 224) 52) ::
 (54,tO #[]) ::
 (55,(⟨.none,none,(.fields #[]),#[]⟩:Obj)) ::
 (56,tO #[(vS "sign" 264),(vS "part" 265)]) ::
 (57,tO #[]) ::
 (58,gO "fits" "fits" (hs 12)) ::
 (59,kO "fits" "fits" 261 262 263 29 2 3 (.ref 54) 181 (.ref 55) (.ref 56) (.ref 57) (.ref 58) 266 29 267) ::
 (60,fO "fits" "fits" (hs 12) .none (vS "struckdeeds.deeds" 224) 59) ::
 (61,tO #[]) ::
 (62,(⟨.none,none,(.fields #[]),#[]⟩:Obj)) ::
 (63,tO #[(vS "deed" 272)]) ::
 (64,tO #[]) ::
 (65,gO "names_in" "names_in" (hs 13)) ::
 (66,kO "names_in" "names_in" 269 270 271 35 1 3 (.ref 61) 181 (.ref 62) (.ref 63) (.ref 64) (.ref 65) 273 35 274) ::
 (67,fO "names_in" "names_in" (hs 13) .none (vS "struckdeeds.deeds" 224) 66) ::
 (68,tO #[]) ::
 (69,(⟨.none,none,(.fields #[]),#[]⟩:Obj)) ::
 (70,tO #[(vS "deed" 279)]) ::
 (71,tO #[]) ::
 (72,gO "made_by" "made_by" (hs 14)) ::
 (73,kO "made_by" "made_by" 276 277 278 37 1 3 (.ref 68) 181 (.ref 69) (.ref 70) (.ref 71) (.ref 72) 280 37 281) ::
 (74,fO "made_by" "made_by" (hs 14) .none (vS "struckdeeds.deeds" 224) 73) ::
 (75,tO #[(.type "ValueError")]) ::
 (76,(⟨(.type "builtin_function_or_method"),none,(.fields #[(.builtin "type.__prepare__"),(.type "type")]),#[]⟩:Obj)) ::
 (77,(⟨(.type "dict"),none,(.dict #[eS P "__module__" 292 (vS "struckdeeds.errors" 283),eS P "__qualname__" 294 (vS "StrikeError" 293),eS P "__firstlineno__" 296 (.int 44 295),eS P "__static_attributes__" 297 (.ref 82)] 4),#[]⟩:Obj)) ::
 (78,tO #[]) ::
 (79,(⟨.none,none,(.fields #[]),#[]⟩:Obj)) ::
 (80,(⟨(.type "code"),none,(.fields #[(vS "StrikeError" 287),(vS "StrikeError" 288),(vS "/claim/cut.py" 289),(.int 44 0),(.int 0 0),(.int 0 0),(.int 0 0),(.int 0 0),(.ref 78),(.bool false),(.int 181 0),(.ref 79),.none,.none,.none,.none,(.int 290 0),(.int 44 0),(vS "/claim/cut.py" 291)]),#[]⟩:Obj)) ::
 (81,(⟨(.type "frame"),none,.plain,#[(some (.ref 80)),(some (.ref 3)),(some (.ref 77)),none,(some (vS "struckdeeds.errors" 283)),none,(some (.ref 0))]⟩:Obj)) ::
 (82,tO #[]) ::
 (83,(⟨(.type "dict"),none,(.dict #[eS P "__module__" 292 (vS "struckdeeds.errors" 283),eS P "__firstlineno__" 296 (.int 44 295),eS P "__static_attributes__" 297 (.ref 82),eS P "__weakref__" 299 (.ref 85),eS P "__doc__" 300 .none] 3),#[]⟩:Obj)) ::
 (84,(⟨(.type "type"),none,(.cls (.mk "StrikeError" [(.type "ValueError")] [(.ref 84),(.type "ValueError"),(.type "Exception"),(.type "BaseException"),(.type "object")] 83 "StrikeError" true [] [(.ref 104),(.ref 116),(.ref 135)] false none false)),#[(some (.ref 75)),none,(some (vS "StrikeError" 285)),(some (vS "StrikeError" 293)),(some (.builtin "ValueError.__new__")),(some (.bool true))]⟩:Obj)) ::
 (85,(⟨(.type "getset_descriptor"),none,(.fields #[(vS "__weakref__" 298),(.ref 84),(.builtin "ExceptionGroup.__weakref__"),.none]),#[]⟩:Obj)) ::
 (86,(⟨(.type "super"),none,(.fields #[(.ref 84),(.ref 84),(.ref 84)]),#[]⟩:Obj)) ::
 (87,(⟨(.type "builtin_function_or_method"),none,(.fields #[(.builtin "object.__init_subclass__"),(.ref 84)]),#[]⟩:Obj)) ::
 (88,tO #[(.ref 84)]) ::
 (89,(⟨(.type "builtin_function_or_method"),none,(.fields #[(.builtin "type.__prepare__"),(.type "type")]),#[]⟩:Obj)) ::
 (90,(⟨(.type "dict"),none,(.dict #[eS P "__module__" 310 (vS "struckdeeds.errors" 283),eS P "__qualname__" 312 (vS "NoText" 311),eS P "__firstlineno__" 314 (.int 46 313),eS P "__init__" 322 (.ref 101),eS P "__static_attributes__" 324 (.ref 102)] 5),#[]⟩:Obj)) ::
 (91,tO #[]) ::
 (92,(⟨.none,none,(.fields #[(.int 48 0),(.int 4 0),(.ref 100)]),#[]⟩:Obj)) ::
 (93,(⟨(.type "code"),none,(.fields #[(vS "NoText" 305),(vS "NoText" 306),(vS "/claim/cut.py" 307),(.int 46 0),(.int 0 0),(.int 0 0),(.int 0 0),(.int 0 0),(.ref 91),(.bool false),(.int 181 0),(.ref 92),.none,.none,.none,.none,(.int 308 0),(.int 46 0),(vS "/claim/cut.py" 309)]),#[]⟩:Obj)) ::
 (94,(⟨(.type "frame"),none,.plain,#[(some (.ref 93)),(some (.ref 3)),(some (.ref 90)),none,(some (vS "struckdeeds.errors" 283)),none,(some (.ref 0))]⟩:Obj)) ::
 (95,tO #[]) ::
 (96,(⟨.none,none,(.fields #[]),#[]⟩:Obj)) ::
 (97,tO #[(vS "self" 318),(vS "part" 319)]) ::
 (98,tO #[]) ::
 (99,gO "__init__" "NoText.__init__" (RC 0 (hs 17))) ::
 (100,kO "__init__" "NoText.__init__" 315 316 317 48 2 3 (.ref 95) 181 (.ref 96) (.ref 97) (.ref 98) (.ref 99) 320 48 321) ::
 (101,fO "__init__" "NoText.__init__" (RC 0 (hs 17)) .none (vS "struckdeeds.errors" 283) 100) ::
 (102,tO #[(vS "part" 323)]) ::
 (103,(⟨(.type "dict"),none,(.dict #[eS P "__module__" 310 (vS "struckdeeds.errors" 283),eS P "__firstlineno__" 314 (.int 46 313),eS P "__init__" 322 (.ref 101),eS P "__static_attributes__" 324 (.ref 102),eS P "__doc__" 325 .none] 2),#[]⟩:Obj)) ::
 (104,(⟨(.type "type"),none,(.cls (.mk "NoText" [(.ref 84)] [(.ref 104),(.ref 84),(.type "ValueError"),(.type "Exception"),(.type "BaseException"),(.type "object")] 103 "NoText" true [] [] false none false)),#[(some (.ref 88)),none,(some (vS "NoText" 303)),(some (vS "NoText" 311)),(some (.builtin "ValueError.__new__")),(some (.bool true))]⟩:Obj)) ::
 (105,(⟨(.type "super"),none,(.fields #[(.ref 104),(.ref 104),(.ref 104)]),#[]⟩:Obj)) ::
 (106,(⟨(.type "builtin_function_or_method"),none,(.fields #[(.builtin "object.__init_subclass__"),(.ref 104)]),#[]⟩:Obj)) ::
 (107,tO #[(.ref 84)]) ::
 (108,(⟨(.type "builtin_function_or_method"),none,(.fields #[(.builtin "type.__prepare__"),(.type "type")]),#[]⟩:Obj)) ::
 (109,(⟨(.type "dict"),none,(.dict #[eS P "__module__" 335 (vS "struckdeeds.errors" 283),eS P "__qualname__" 337 (vS "NoDeed" 336),eS P "__firstlineno__" 339 (.int 50 338),eS P "__static_attributes__" 340 (.ref 114)] 4),#[]⟩:Obj)) ::
 (110,tO #[]) ::
 (111,(⟨.none,none,(.fields #[]),#[]⟩:Obj)) ::
 (112,(⟨(.type "code"),none,(.fields #[(vS "NoDeed" 330),(vS "NoDeed" 331),(vS "/claim/cut.py" 332),(.int 50 0),(.int 0 0),(.int 0 0),(.int 0 0),(.int 0 0),(.ref 110),(.bool false),(.int 181 0),(.ref 111),.none,.none,.none,.none,(.int 333 0),(.int 50 0),(vS "/claim/cut.py" 334)]),#[]⟩:Obj)) ::
 (113,(⟨(.type "frame"),none,.plain,#[(some (.ref 112)),(some (.ref 3)),(some (.ref 109)),none,(some (vS "struckdeeds.errors" 283)),none,(some (.ref 0))]⟩:Obj)) ::
 (114,tO #[]) ::
 (115,(⟨(.type "dict"),none,(.dict #[eS P "__module__" 335 (vS "struckdeeds.errors" 283),eS P "__firstlineno__" 339 (.int 50 338),eS P "__static_attributes__" 340 (.ref 114),eS P "__doc__" 341 .none] 2),#[]⟩:Obj)) ::
 (116,(⟨(.type "type"),none,(.cls (.mk "NoDeed" [(.ref 84)] [(.ref 116),(.ref 84),(.type "ValueError"),(.type "Exception"),(.type "BaseException"),(.type "object")] 115 "NoDeed" true [] [] false none false)),#[(some (.ref 107)),none,(some (vS "NoDeed" 328)),(some (vS "NoDeed" 336)),(some (.builtin "ValueError.__new__")),(some (.bool true))]⟩:Obj)) ::
 (117,(⟨(.type "super"),none,(.fields #[(.ref 116),(.ref 116),(.ref 116)]),#[]⟩:Obj)) ::
 (118,(⟨(.type "builtin_function_or_method"),none,(.fields #[(.builtin "object.__init_subclass__"),(.ref 116)]),#[]⟩:Obj)) ::
 (119,tO #[(.ref 84)]) ::
 (120,(⟨(.type "builtin_function_or_method"),none,(.fields #[(.builtin "type.__prepare__"),(.type "type")]),#[]⟩:Obj)) ::
 (121,(⟨(.type "dict"),none,(.dict #[eS P "__module__" 351 (vS "struckdeeds.errors" 283),eS P "__qualname__" 353 (vS "NotNow" 352),eS P "__firstlineno__" 355 (.int 52 354),eS P "__init__" 363 (.ref 132),eS P "__static_attributes__" 365 (.ref 133)] 5),#[]⟩:Obj)) ::
 (122,tO #[]) ::
 (123,(⟨.none,none,(.fields #[(.int 54 0),(.int 4 0),(.ref 131)]),#[]⟩:Obj)) ::
 (124,(⟨(.type "code"),none,(.fields #[(vS "NotNow" 346),(vS "NotNow" 347),(vS "/claim/cut.py" 348),(.int 52 0),(.int 0 0),(.int 0 0),(.int 0 0),(.int 0 0),(.ref 122),(.bool false),(.int 181 0),(.ref 123),.none,.none,.none,.none,(.int 349 0),(.int 52 0),(vS "/claim/cut.py" 350)]),#[]⟩:Obj)) ::
 (125,(⟨(.type "frame"),none,.plain,#[(some (.ref 124)),(some (.ref 3)),(some (.ref 121)),none,(some (vS "struckdeeds.errors" 283)),none,(some (.ref 0))]⟩:Obj)) ::
 (126,tO #[]) ::
 (127,(⟨.none,none,(.fields #[]),#[]⟩:Obj)) ::
 (128,tO #[(vS "self" 359),(vS "name" 360)]) ::
 (129,tO #[]) ::
 (130,gO "__init__" "NotNow.__init__" (RC 0 (hs 19))) ::
 (131,kO "__init__" "NotNow.__init__" 356 357 358 54 2 3 (.ref 126) 181 (.ref 127) (.ref 128) (.ref 129) (.ref 130) 361 54 362) ::
 (132,fO "__init__" "NotNow.__init__" (RC 0 (hs 19)) .none (vS "struckdeeds.errors" 283) 131) ::
 (133,tO #[(vS "name" 364)]) ::
 (134,(⟨(.type "dict"),none,(.dict #[eS P "__module__" 351 (vS "struckdeeds.errors" 283),eS P "__firstlineno__" 355 (.int 52 354),eS P "__init__" 363 (.ref 132),eS P "__static_attributes__" 365 (.ref 133),eS P "__doc__" 366 .none] 2),#[]⟩:Obj)) ::
 (135,(⟨(.type "type"),none,(.cls (.mk "NotNow" [(.ref 84)] [(.ref 135),(.ref 84),(.type "ValueError"),(.type "Exception"),(.type "BaseException"),(.type "object")] 134 "NotNow" true [] [] false none false)),#[(some (.ref 119)),none,(some (vS "NotNow" 344)),(some (vS "NotNow" 352)),(some (.builtin "ValueError.__new__")),(some (.bool true))]⟩:Obj)) ::
 (136,(⟨(.type "super"),none,(.fields #[(.ref 135),(.ref 135),(.ref 135)]),#[]⟩:Obj)) ::
 (137,(⟨(.type "builtin_function_or_method"),none,(.fields #[(.builtin "object.__init_subclass__"),(.ref 135)]),#[]⟩:Obj)) ::
 (138,tO #[]) ::
 (139,(⟨.none,none,(.fields #[]),#[]⟩:Obj)) ::
 (140,gO "by_names" "by_names" (hs 21)) ::
 (141,kO "by_names" "by_names" 371 372 373 57 1 3 (.ref 138) 181 (.ref 139) .none .none (.ref 140) 374 57 375) ::
 (142,fO "by_names" "by_names" (hs 21) .none (vS "struckdeeds.worlds" 369) 141) ::
 (143,tO #[]) ::
 (144,(⟨.none,none,(.fields #[]),#[]⟩:Obj)) ::
 (145,gO "rising_by_names" "rising_by_names" (hs 22)) ::
 (146,kO "rising_by_names" "rising_by_names" 377 378 379 59 1 3 (.ref 143) 181 (.ref 144) .none .none (.ref 145) 380 59 381) ::
 (147,fO "rising_by_names" "rising_by_names" (hs 22) .none (vS "struckdeeds.worlds" 369) 146)::[])
noncomputable abbrev hX3 (w:World) (os:OsState):PySem.W.SharedT:=⟨hT3 w.params,148,{ },⟨[]⟩,{ },385,os⟩
def hD4:Params→List DictEntry:=fun P=>(hD3 P).set 0 (eS P "__name__" 165 (vS "law_struckdeeds_k14_whole_names_called_other" 486))++[eS P "done" 393 (.ref 154),eS P "back_deed" 404 (.ref 161),eS P "refuse_undoable" 414 (.ref 168),eS P "change" 424 (.ref 175),eS P "add_count" 435 (.ref 182),eS P "FIGURES" 439 (vS "0123456789" 438),eS P "GROUP_LENGTH" 441 (.int 18 440),eS P "GROUP" 445 (.int 1000000000000000000 444),eS P "show_whole" 454 (.ref 189),eS P "read_whole" 465 (.ref 196),eS P "is_row_of_figures" 471 (.ref 201),eS P "show_deed" 479 (.ref 206),eS P "read_deed" 485 (.ref 211),eS P "_law_pack" 494 (.ref 218),eS P "_law_take" 506 (.ref 225),eS P "_law_names" 512 (.ref 230),eS P "_law_count" 521 (.ref 237),eS P "_law_place" 528 (.ref 244),eS P "_law_any_deed" 534 (.ref 249),eS P "_law_world" 544 (.ref 256),eS P "_law_called" 554 (.ref 263),eS P "_law_world_called" 560 (.ref 268),eS P "_law_deed_called" 568 (.ref 275),eS P "_law_signed" 575 (.ref 282),eS P "_law_told" 584 (.ref 289),eS P "_law_right" 590 (.ref 294),eS P "law" 596 (.ref 299)]
noncomputable def hT4:Params→PySem.W.BT:=fun P=>hI (hT3 P) (
 (3,(⟨.type "dict", none,.dict (hD4 P).toArray 55,#[]⟩:Obj)) ::
 (12,(⟨.none,none,(.fields #[(.int 5 0),(.int 0 0),(.ref 20),(.int 7 0),(.int 0 0),(.ref 25),(.int 11 0),(.int 0 0),(.ref 32),(.int 13 0),(.int 0 0),(.ref 39),(.int 17 0),(.int 0 0),(.ref 47),(.int 19 0),(.int 0 0),(.ref 52),(.int 29 0),(.int 0 0),(.ref 59),(.int 35 0),(.int 0 0),(.ref 66),(.int 37 0),(.int 0 0),(.ref 73),(.int 44 0),(.int 0 0),(.ref 80),(.int 46 0),(.int 0 0),(.ref 93),(.int 50 0),(.int 0 0),(.ref 112),(.int 52 0),(.int 0 0),(.ref 124),(.int 57 0),(.int 0 0),(.ref 141),(.int 59 0),(.int 0 0),(.ref 146),(.int 62 0),(.int 0 0),(.ref 153),(.int 67 0),(.int 0 0),(.ref 160),(.int 84 0),(.int 0 0),(.ref 167),(.int 91 0),(.int 0 0),(.ref 174),(.int 109 0),(.int 0 0),(.ref 181),(.int 116 0),(.int 0 0),(.ref 188),(.int 125 0),(.int 0 0),(.ref 195),(.int 134 0),(.int 0 0),(.ref 200),(.int 137 0),(.int 0 0),(.ref 205),(.int 139 0),(.int 0 0),(.ref 210),(.int 151 0),(.int 0 0),(.ref 217),(.int 155 0),(.int 0 0),(.ref 224),(.int 163 0),(.int 0 0),(.ref 229),(.int 174 0),(.int 0 0),(.ref 236),(.int 184 0),(.int 0 0),(.ref 243),(.int 186 0),(.int 0 0),(.ref 248),(.int 195 0),(.int 0 0),(.ref 255),(.int 201 0),(.int 0 0),(.ref 262),(.int 208 0),(.int 0 0),(.ref 267),(.int 210 0),(.int 0 0),(.ref 274),(.int 212 0),(.int 0 0),(.ref 281),(.int 216 0),(.int 0 0),(.ref 288),(.int 223 0),(.int 0 0),(.ref 293),(.int 243 0),(.int 0 0),(.ref 298)]),#[]⟩:Obj)) ::
 (148,tO #[]) ::
 (149,(⟨.none,none,(.fields #[]),#[]⟩:Obj)) ::
 (150,tO #[(vS "world" 388),(vS "deed" 389),(vS "things" 390)]) ::
 (151,tO #[]) ::
 (152,gO "done" "done" (hs 24)) ::
 (153,kO "done" "done" 385 386 387 62 2 3 (.ref 148) 181 (.ref 149) (.ref 150) (.ref 151) (.ref 152) 391 62 392) ::
 (154,fO "done" "done" (hs 24) .none (vS "struckdeeds.doings" 383) 153) ::
 (155,tO #[]) ::
 (156,(⟨.none,none,(.fields #[]),#[]⟩:Obj)) ::
 (157,tO #[(vS "world" 397),(vS "deed" 398),(vS "things" 399),(vS "word" 400),(vS "name" 401)]) ::
 (158,tO #[]) ::
 (159,gO "back_deed" "back_deed" (hs 25)) ::
 (160,kO "back_deed" "back_deed" 394 395 396 67 2 3 (.ref 155) 181 (.ref 156) (.ref 157) (.ref 158) (.ref 159) 402 67 403) ::
 (161,fO "back_deed" "back_deed" (hs 25) .none (vS "struckdeeds.doings" 383) 160) ::
 (162,tO #[]) ::
 (163,(⟨.none,none,(.fields #[]),#[]⟩:Obj)) ::
 (164,tO #[(vS "things" 408),(vS "deed" 409),(vS "made" 410),(vS "name" 411)]) ::
 (165,tO #[]) ::
 (166,gO "refuse_undoable" "refuse_undoable" (hs 26)) ::
 (167,kO "refuse_undoable" "refuse_undoable" 405 406 407 84 2 3 (.ref 162) 181 (.ref 163) (.ref 164) (.ref 165) (.ref 166) 412 84 413) ::
 (168,fO "refuse_undoable" "refuse_undoable" (hs 26) .none (vS "struckdeeds.doings" 383) 167) ::
 (169,tO #[]) ::
 (170,(⟨.none,none,(.fields #[]),#[]⟩:Obj)) ::
 (171,tO #[(vS "things" 418),(vS "deed" 419),(vS "word" 420),(vS "name" 421)]) ::
 (172,tO #[]) ::
 (173,gO "change" "change" (hs 27)) ::
 (174,kO "change" "change" 415 416 417 91 2 3 (.ref 169) 181 (.ref 170) (.ref 171) (.ref 172) (.ref 173) 422 91 423) ::
 (175,fO "change" "change" (hs 27) .none (vS "struckdeeds.doings" 383) 174) ::
 (176,tO #[]) ::
 (177,(⟨.none,none,(.fields #[]),#[]⟩:Obj)) ::
 (178,tO #[(vS "things" 428),(vS "name" 429),(vS "more" 430),(vS "place" 431),(vS "count" 432)]) ::
 (179,tO #[]) ::
 (180,gO "add_count" "add_count" (hs 28)) ::
 (181,kO "add_count" "add_count" 425 426 427 109 3 3 (.ref 176) 181 (.ref 177) (.ref 178) (.ref 179) (.ref 180) 433 109 434) ::
 (182,fO "add_count" "add_count" (hs 28) .none (vS "struckdeeds.doings" 383) 181) ::
 (183,tO #[]) ::
 (184,(⟨.none,none,(.fields #[]),#[]⟩:Obj)) ::
 (185,tO #[(vS "number" 449),(vS "groups" 450),(vS "low" 451)]) ::
 (186,tO #[]) ::
 (187,gO "show_whole" "show_whole" (hs 33)) ::
 (188,kO "show_whole" "show_whole" 446 447 448 116 1 3 (.ref 183) 181 (.ref 184) (.ref 185) (.ref 186) (.ref 187) 452 116 453) ::
 (189,fO "show_whole" "show_whole" (hs 33) .none (vS "struckdeeds.figures" 436) 188) ::
 (190,tO #[]) ::
 (191,(⟨.none,none,(.fields #[]),#[]⟩:Obj)) ::
 (192,tO #[(vS "text" 458),(vS "below" 459),(vS "figures" 460),(vS "number" 461),(vS "figure" 462)]) ::
 (193,tO #[]) ::
 (194,gO "read_whole" "read_whole" (hs 34)) ::
 (195,kO "read_whole" "read_whole" 455 456 457 125 1 3 (.ref 190) 181 (.ref 191) (.ref 192) (.ref 193) (.ref 194) 463 125 464) ::
 (196,fO "read_whole" "read_whole" (hs 34) .none (vS "struckdeeds.figures" 436) 195) ::
 (197,tO #[]) ::
 (198,(⟨.none,none,(.fields #[]),#[]⟩:Obj)) ::
 (199,gO "is_row_of_figures" "is_row_of_figures" (hs 35)) ::
 (200,kO "is_row_of_figures" "is_row_of_figures" 466 467 468 134 1 3 (.ref 197) 181 (.ref 198) .none .none (.ref 199) 469 134 470) ::
 (201,fO "is_row_of_figures" "is_row_of_figures" (hs 35) .none (vS "struckdeeds.figures" 436) 200) ::
 (202,tO #[]) ::
 (203,(⟨.none,none,(.fields #[]),#[]⟩:Obj)) ::
 (204,gO "show_deed" "show_deed" (hs 37)) ::
 (205,kO "show_deed" "show_deed" 474 475 476 137 1 3 (.ref 202) 181 (.ref 203) .none .none (.ref 204) 477 137 478) ::
 (206,fO "show_deed" "show_deed" (hs 37) .none (vS "struckdeeds.deedtexts" 472) 205) ::
 (207,tO #[]) ::
 (208,(⟨.none,none,(.fields #[]),#[]⟩:Obj)) ::
 (209,gO "read_deed" "read_deed" (hs 38)) ::
 (210,kO "read_deed" "read_deed" 480 481 482 139 1 3 (.ref 207) 181 (.ref 208) .none .none (.ref 209) 483 139 484) ::
 (211,fO "read_deed" "read_deed" (hs 38) .none (vS "struckdeeds.deedtexts" 472) 210) ::
 (212,tO #[]) ::
 (213,(⟨.none,none,(.fields #[]),#[]⟩:Obj)) ::
 (214,tO #[(vS "_law_cell" 491)]) ::
 (215,tO #[]) ::
 (216,gO "_law_pack" "_law_pack" (hs 40)) ::
 (217,kO "_law_pack" "_law_pack" 488 489 490 151 1 3 (.ref 212) 181 (.ref 213) (.ref 214) (.ref 215) (.ref 216) 492 151 493) ::
 (218,fO "_law_pack" "_law_pack" (hs 40) .none (vS "law_struckdeeds_k14_whole_names_called_other" 486) 217) ::
 (219,tO #[]) ::
 (220,(⟨.none,none,(.fields #[]),#[]⟩:Obj)) ::
 (221,tO #[(vS "_law_pack_here" 498),(vS "_law_size" 499),(vS "_law_digit" 500),(vS "_law_turn" 501),(vS "_law_upper" 502),(vS "_law_lower" 503)]) ::
 (222,tO #[]) ::
 (223,gO "_law_take" "_law_take" (hs 41)) ::
 (224,kO "_law_take" "_law_take" 495 496 497 155 2 3 (.ref 219) 181 (.ref 220) (.ref 221) (.ref 222) (.ref 223) 504 155 505) ::
 (225,fO "_law_take" "_law_take" (hs 41) .none (vS "law_struckdeeds_k14_whole_names_called_other" 486) 224) ::
 (226,tO #[]) ::
 (227,(⟨.none,none,(.fields #[]),#[]⟩:Obj)) ::
 (228,gO "_law_names" "_law_names" (hs 42)) ::
 (229,kO "_law_names" "_law_names" 507 508 509 163 2 3 (.ref 226) 181 (.ref 227) .none .none (.ref 228) 510 163 511) ::
 (230,fO "_law_names" "_law_names" (hs 42) .none (vS "law_struckdeeds_k14_whole_names_called_other" 486) 229) ::
 (231,tO #[]) ::
 (232,(⟨.none,none,(.fields #[]),#[]⟩:Obj)) ::
 (233,tO #[(vS "_law_pack_here" 516),(vS "_law_pick" 517),(vS "_law_number" 518)]) ::
 (234,tO #[]) ::
 (235,gO "_law_count" "_law_count" (hs 43)) ::
 (236,kO "_law_count" "_law_count" 513 514 515 174 1 3 (.ref 231) 181 (.ref 232) (.ref 233) (.ref 234) (.ref 235) 519 174 520) ::
 (237,fO "_law_count" "_law_count" (hs 43) .none (vS "law_struckdeeds_k14_whole_names_called_other" 486) 236) ::
 (238,tO #[]) ::
 (239,(⟨.none,none,(.fields #[]),#[]⟩:Obj)) ::
 (240,tO #[(vS "_law_pack_here" 525)]) ::
 (241,tO #[]) ::
 (242,gO "_law_place" "_law_place" (hs 44)) ::
 (243,kO "_law_place" "_law_place" 522 523 524 184 1 3 (.ref 238) 181 (.ref 239) (.ref 240) (.ref 241) (.ref 242) 526 184 527) ::
 (244,fO "_law_place" "_law_place" (hs 44) .none (vS "law_struckdeeds_k14_whole_names_called_other" 486) 243) ::
 (245,tO #[]) ::
 (246,(⟨.none,none,(.fields #[]),#[]⟩:Obj)) ::
 (247,gO "_law_any_deed" "_law_any_deed" (hs 45)) ::
 (248,kO "_law_any_deed" "_law_any_deed" 529 530 531 186 2 3 (.ref 245) 181 (.ref 246) .none .none (.ref 247) 532 186 533) ::
 (249,fO "_law_any_deed" "_law_any_deed" (hs 45) .none (vS "law_struckdeeds_k14_whole_names_called_other" 486) 248) ::
 (250,tO #[]) ::
 (251,(⟨.none,none,(.fields #[]),#[]⟩:Obj)) ::
 (252,tO #[(vS "_law_pack_here" 538),(vS "_law_names_here" 539),(vS "_law_found" 540),(vS "_law_name" 541)]) ::
 (253,tO #[]) ::
 (254,gO "_law_world" "_law_world" (hs 46)) ::
 (255,kO "_law_world" "_law_world" 535 536 537 195 2 3 (.ref 250) 181 (.ref 251) (.ref 252) (.ref 253) (.ref 254) 542 195 543) ::
 (256,fO "_law_world" "_law_world" (hs 46) .none (vS "law_struckdeeds_k14_whole_names_called_other" 486) 255) ::
 (257,tO #[]) ::
 (258,(⟨.none,none,(.fields #[]),#[]⟩:Obj)) ::
 (259,tO #[(vS "_law_things" 548),(vS "_law_called_here" 549),(vS "_law_found" 550),(vS "_law_part" 551)]) ::
 (260,tO #[]) ::
 (261,gO "_law_called" "_law_called" (hs 47)) ::
 (262,kO "_law_called" "_law_called" 545 546 547 201 2 3 (.ref 257) 181 (.ref 258) (.ref 259) (.ref 260) (.ref 261) 552 201 553) ::
 (263,fO "_law_called" "_law_called" (hs 47) .none (vS "law_struckdeeds_k14_whole_names_called_other" 486) 262) ::
 (264,tO #[]) ::
 (265,(⟨.none,none,(.fields #[]),#[]⟩:Obj)) ::
 (266,gO "_law_world_called" "_law_world_called" (hs 48)) ::
 (267,kO "_law_world_called" "_law_world_called" 555 556 557 208 2 3 (.ref 264) 181 (.ref 265) .none .none (.ref 266) 558 208 559) ::
 (268,fO "_law_world_called" "_law_world_called" (hs 48) .none (vS "law_struckdeeds_k14_whole_names_called_other" 486) 267) ::
 (269,tO #[]) ::
 (270,(⟨.none,none,(.fields #[]),#[]⟩:Obj)) ::
 (271,tO #[(vS "_law_deed" 564),(vS "_law_called_here" 565)]) ::
 (272,tO #[]) ::
 (273,gO "_law_deed_called" "_law_deed_called" (hs 49)) ::
 (274,kO "_law_deed_called" "_law_deed_called" 561 562 563 210 2 3 (.ref 269) 181 (.ref 270) (.ref 271) (.ref 272) (.ref 273) 566 210 567) ::
 (275,fO "_law_deed_called" "_law_deed_called" (hs 49) .none (vS "law_struckdeeds_k14_whole_names_called_other" 486) 274) ::
 (276,tO #[]) ::
 (277,(⟨.none,none,(.fields #[]),#[]⟩:Obj)) ::
 (278,tO #[(vS "_law_deed" 572)]) ::
 (279,tO #[]) ::
 (280,gO "_law_signed" "_law_signed" (hs 50)) ::
 (281,kO "_law_signed" "_law_signed" 569 570 571 212 1 3 (.ref 276) 181 (.ref 277) (.ref 278) (.ref 279) (.ref 280) 573 212 574) ::
 (282,fO "_law_signed" "_law_signed" (hs 50) .none (vS "law_struckdeeds_k14_whole_names_called_other" 486) 281) ::
 (283,tO #[]) ::
 (284,(⟨.none,none,(.fields #[]),#[]⟩:Obj)) ::
 (285,tO #[(vS "_law_world_here" 579),(vS "_law_deed" 580),(vS "_law_found" 581)]) ::
 (286,tO #[]) ::
 (287,gO "_law_told" "_law_told" (hs 51)) ::
 (288,kO "_law_told" "_law_told" 576 577 578 216 2 3 (.ref 283) 181 (.ref 284) (.ref 285) (.ref 286) (.ref 287) 582 216 583) ::
 (289,fO "_law_told" "_law_told" (hs 51) .none (vS "law_struckdeeds_k14_whole_names_called_other" 486) 288) ::
 (290,tO #[]) ::
 (291,(⟨.none,none,(.fields #[]),#[]⟩:Obj)) ::
 (292,gO "_law_right" "_law_right" (hs 52)) ::
 (293,kO "_law_right" "_law_right" 585 586 587 223 1 3 (.ref 290) 181 (.ref 291) .none .none (.ref 292) 588 223 589) ::
 (294,fO "_law_right" "_law_right" (hs 52) .none (vS "law_struckdeeds_k14_whole_names_called_other" 486) 293) ::
 (295,tO #[]) ::
 (296,(⟨.none,none,(.fields #[]),#[]⟩:Obj)) ::
 (297,gO "law" "law" (hs 53)) ::
 (298,kO "law" "law" 591 592 593 243 1 3 (.ref 295) 181 (.ref 296) .none .none (.ref 297) 594 243 595) ::
 (299,fO "law" "law" (hs 53) .none (vS "law_struckdeeds_k14_whole_names_called_other" 486) 298)::[])
noncomputable abbrev hX4 (w:World) (os:OsState):PySem.W.SharedT:=⟨hT4 w.params,300,{ },⟨[]⟩,{ },597,os⟩
noncomputable abbrev hX5 (w:World) (os:OsState):PySem.W.SharedT:=⟨hT4 w.params,300,{ },⟨[]⟩,{ },597,os⟩
noncomputable def hg (P:Params) (a:Nat):Obj:=((hT4 P).get a).getD default
noncomputable def hK:Params→PySem.W.Frag:=fun P=>
 (nat_lit 2,hg P 2) ::
 (nat_lit 3,hg P 3) ::
 (nat_lit 20,hg P 20) ::
 (nat_lit 21,fO "is_whole" "is_whole" GR .none (vS "struckdeeds.words" 187) 20) ::
 (nat_lit 25,hg P 25) ::
 (nat_lit 26,fO "is_name" "is_name" G2 .none (vS "struckdeeds.words" 187) 25) ::
 (nat_lit 32,hg P 32) ::
 (nat_lit 33,fO "is_within" "is_within" FL .none (vS "struckdeeds.words" 187) 32) ::
 (nat_lit 39,hg P 39) ::
 (nat_lit 40,fO "is_place" "is_place" GS .none (vS "struckdeeds.words" 187) 39) ::
 (nat_lit 41,(⟨(.type "dict"),none,(.dict #[eS P "put" 226 (vS "npk" 227),eS P "take" 228 (vS "n" 229),eS P "move" 230 (vS "np" 231),eS P "count" 232 (vS "nk" 233),eS P "name" 234 (vS "nn" 235),eS P "split" 236 (vS "nnpk" 237),eS P "join" 238 (vS "nn" 239)] 7),#[]⟩:Obj)) ::
 (nat_lit 47,hg P 47) ::
 (nat_lit 48,fO "form_of" "form_of" IV .none (vS "struckdeeds.deeds" 224) 47) ::
 (nat_lit 52,hg P 52) ::
 (nat_lit 53,fO "is_deed" "is_deed" G3 .none (vS "struckdeeds.deeds" 224) 52) ::
 (nat_lit 59,hg P 59) ::
 (nat_lit 60,fO "fits" "fits" SW .none (vS "struckdeeds.deeds" 224) 59) ::
 (nat_lit 66,hg P 66) ::
 (nat_lit 67,fO "names_in" "names_in" GT .none (vS "struckdeeds.deeds" 224) 66) ::
 (nat_lit 73,hg P 73) ::
 (nat_lit 74,fO "made_by" "made_by" IW .none (vS "struckdeeds.deeds" 224) 73) ::
 (nat_lit 83,hg P 83) ::
 (nat_lit 84,hg P 84) ::
 (nat_lit 85,hg P 85) ::
 (nat_lit 100,hg P 100) ::
 (nat_lit 101,fO "__init__" "NoText.__init__" BN .none (vS "struckdeeds.errors" 283) 100) ::
 (nat_lit 103,hg P 103) ::
 (nat_lit 104,(⟨(.type "type"),none,(.cls (.mk "NoText" [(.ref 84)] [(.ref 104),(.ref 84),(.type "ValueError"),(.type "Exception"),(.type "BaseException"),(.type "object")] 103 "NoText" true [] [] false none false)),#[(some (.ref 88)),none,(some (vS "NoText" 303)),(some (vS "NoText" 311)),(some (.builtin "ValueError.__new__")),(some (.bool true))]⟩:Obj)) ::
 (nat_lit 115,hg P 115) ::
 (nat_lit 116,hg P 116) ::
 (nat_lit 131,hg P 131) ::
 (nat_lit 132,fO "__init__" "NotNow.__init__" BM .none (vS "struckdeeds.errors" 283) 131) ::
 (nat_lit 134,hg P 134) ::
 (nat_lit 135,(⟨(.type "type"),none,(.cls (.mk "NotNow" [(.ref 84)] [(.ref 135),(.ref 84),(.type "ValueError"),(.type "Exception"),(.type "BaseException"),(.type "object")] 134 "NotNow" true [] [] false none false)),#[(some (.ref 119)),none,(some (vS "NotNow" 344)),(some (vS "NotNow" 352)),(some (.builtin "ValueError.__new__")),(some (.bool true))]⟩:Obj)) ::
 (nat_lit 141,hg P 141) ::
 (nat_lit 142,fO "by_names" "by_names" EX .none (vS "struckdeeds.worlds" 369) 141) ::
 (nat_lit 146,hg P 146) ::
 (nat_lit 147,fO "rising_by_names" "rising_by_names" BD .none (vS "struckdeeds.worlds" 369) 146) ::
 (nat_lit 153,hg P 153) ::
 (nat_lit 154,fO "done" "done" P0 .none (vS "struckdeeds.doings" 383) 153) ::
 (nat_lit 160,hg P 160) ::
 (nat_lit 161,fO "back_deed" "back_deed" E6 .none (vS "struckdeeds.doings" 383) 160) ::
 (nat_lit 167,hg P 167) ::
 (nat_lit 168,fO "refuse_undoable" "refuse_undoable" B0 .none (vS "struckdeeds.doings" 383) 167) ::
 (nat_lit 174,hg P 174) ::
 (nat_lit 175,fO "change" "change" KR .none (vS "struckdeeds.doings" 383) 174) ::
 (nat_lit 181,hg P 181) ::
 (nat_lit 182,fO "add_count" "add_count" FK .none (vS "struckdeeds.doings" 383) 181) ::
 (nat_lit 188,hg P 188) ::
 (nat_lit 189,fO "show_whole" "show_whole" CU .none (vS "struckdeeds.figures" 436) 188) ::
 (nat_lit 195,hg P 195) ::
 (nat_lit 196,fO "read_whole" "read_whole" EK .none (vS "struckdeeds.figures" 436) 195) ::
 (nat_lit 200,hg P 200) ::
 (nat_lit 201,fO "is_row_of_figures" "is_row_of_figures" B2 .none (vS "struckdeeds.figures" 436) 200) ::
 (nat_lit 205,hg P 205) ::
 (nat_lit 206,fO "show_deed" "show_deed" E9 .none (vS "struckdeeds.deedtexts" 472) 205) ::
 (nat_lit 210,hg P 210) ::
 (nat_lit 211,fO "read_deed" "read_deed" CJ .none (vS "struckdeeds.deedtexts" 472) 210) ::
 (nat_lit 217,hg P 217) ::
 (nat_lit 218,fO "_law_pack" "_law_pack" FN .none (vS "law_struckdeeds_k14_whole_names_called_other" 486) 217) ::
 (nat_lit 224,hg P 224) ::
 (nat_lit 225,fO "_law_take" "_law_take" FM .none (vS "law_struckdeeds_k14_whole_names_called_other" 486) 224) ::
 (nat_lit 229,hg P 229) ::
 (nat_lit 230,fO "_law_names" "_law_names" BX .none (vS "law_struckdeeds_k14_whole_names_called_other" 486) 229) ::
 (nat_lit 236,hg P 236) ::
 (nat_lit 237,fO "_law_count" "_law_count" EN .none (vS "law_struckdeeds_k14_whole_names_called_other" 486) 236) ::
 (nat_lit 243,hg P 243) ::
 (nat_lit 244,fO "_law_place" "_law_place" EM .none (vS "law_struckdeeds_k14_whole_names_called_other" 486) 243) ::
 (nat_lit 248,hg P 248) ::
 (nat_lit 249,fO "_law_any_deed" "_law_any_deed" BL .none (vS "law_struckdeeds_k14_whole_names_called_other" 486) 248) ::
 (nat_lit 255,hg P 255) ::
 (nat_lit 256,fO "_law_world" "_law_world" EO .none (vS "law_struckdeeds_k14_whole_names_called_other" 486) 255) ::
 (nat_lit 262,hg P 262) ::
 (nat_lit 263,fO "_law_called" "_law_called" DJ .none (vS "law_struckdeeds_k14_whole_names_called_other" 486) 262) ::
 (nat_lit 267,hg P 267) ::
 (nat_lit 268,fO "_law_world_called" "_law_world_called" B1 .none (vS "law_struckdeeds_k14_whole_names_called_other" 486) 267) ::
 (nat_lit 274,hg P 274) ::
 (nat_lit 275,fO "_law_deed_called" "_law_deed_called" BI .none (vS "law_struckdeeds_k14_whole_names_called_other" 486) 274) ::
 (nat_lit 281,hg P 281) ::
 (nat_lit 282,fO "_law_signed" "_law_signed" DK .none (vS "law_struckdeeds_k14_whole_names_called_other" 486) 281) ::
 (nat_lit 288,hg P 288) ::
 (nat_lit 289,fO "_law_told" "_law_told" BQ .none (vS "law_struckdeeds_k14_whole_names_called_other" 486) 288) ::
 (nat_lit 293,hg P 293) ::
 (nat_lit 294,fO "_law_right" "_law_right" BY .none (vS "law_struckdeeds_k14_whole_names_called_other" 486) 293) ::
 (nat_lit 298,hg P 298) ::
 (nat_lit 299,fO "law" "law" VV .none (vS "law_struckdeeds_k14_whole_names_called_other" 486) 298)::[]
def hA:List Addr:=[2,3,20,21,25,26,32,33,39,40,41,47,48,52,53,59,60,66,67,73,74,83,84,85,100,101,103,104,115,116,131,132,134,135,141,142,146,147,153,154,160,161,167,168,174,175,181,182,188,189,195,196,200,201,205,206,210,211,217,218,224,225,229,230,236,237,243,244,248,249,255,256,262,263,267,268,274,275,281,282,288,289,293,294,298,299]
theorem hE:∀P,hA=(hK P).map (·.1):=fun _=>by kernel_rfl
theorem hp1 (w:World):(fun os=>PySem.W.topGo treeTable PySem.Challenge.pw_struckdeeds_k14_whole_names_called_other w 11 (Option.some (PySem.Value.ref 6)) 12 ⟨PySem.W.boot_heap w.params,⟨[]⟩,PySem.W.boot_drawn,PySem.W.boot_toks,os⟩ (PySem.W.topStub PySem.Challenge.pw_struckdeeds_k14_whole_names_called_other))=fun os=>some ((hX1 w os).abs,⟨denote treeTable hC,hC,{ line:=0,col:=0,endLine:=0,endCol:=0 },hF⟩):=by kernel_rfl
theorem hp2 (w:World):(fun os=>PySem.W.segRunT treeTable PySem.Challenge.pw_struckdeeds_k14_whole_names_called_other w 11 (Option.some (PySem.Value.ref 6)) 1 1 (hX1 w os) (PySem.W.blockOf hB hN hC { line:=0,col:=0,endLine:=0,endCol:=0 } hF))=fun os=>some (.next,hX2 w os,hC,{ line:=0,col:=0,endLine:=0,endCol:=0 }):=by kernel_rfl
def hQ3:List Stmt:=(hB.drop 0).take 24
abbrev vP (w:World):Prop:=(fun os=>PySem.W.segRunT treeTable PySem.Challenge.pw_struckdeeds_k14_whole_names_called_other w 11 (Option.some (PySem.Value.ref 6)) 1 1387 (hX2 w os) (PySem.W.piecesOf hQ3 hN hC { line:=0,col:=0,endLine:=0,endCol:=0 } hF))=fun os=>some (.next,hX3 w os,hC,{ line:=61,col:=0,endLine:=61,endCol:=8 })
theorem c9 (w:World):(fun os=>PySem.W.segRunT treeTable PySem.Challenge.pw_struckdeeds_k14_whole_names_called_other (w.withFollow "special-get-raises" false) 11 (Option.some (PySem.Value.ref 6)) 1 1387 (hX2 (w.withFollow "special-get-raises" false) os) (PySem.W.piecesOf hQ3 hN hC { line:=0,col:=0,endLine:=0,endCol:=0 } hF))=fun os=>some (.next,hX3 (w.withFollow "special-get-raises" false) os,hC,{ line:=61,col:=0,endLine:=61,endCol:=8 }):=by kernel_rfl
theorem j9 (w:World):(fun os=>PySem.W.segRunT treeTable PySem.Challenge.pw_struckdeeds_k14_whole_names_called_other (w.withFollow "special-get-raises" true) 11 (Option.some (PySem.Value.ref 6)) 1 1387 (hX2 (w.withFollow "special-get-raises" true) os) (PySem.W.piecesOf hQ3 hN hC { line:=0,col:=0,endLine:=0,endCol:=0 } hF))=fun os=>some (.next,hX3 (w.withFollow "special-get-raises" true) os,hC,{ line:=61,col:=0,endLine:=61,endCol:=8 }):=by kernel_rfl
theorem hp3:∀w:World,vP w:=PySem.W.byRow2 "special-get-raises" c9 j9
def hQ4:List Stmt:=(hB.drop 24).take 30
theorem hp4 (w:World):(fun os=>PySem.W.segRunT treeTable PySem.Challenge.pw_struckdeeds_k14_whole_names_called_other w 11 (Option.some (PySem.Value.ref 6)) 1 771 (hX3 w os) (PySem.W.piecesOf hQ4 hN hC { line:=61,col:=0,endLine:=61,endCol:=8 } hF))=fun os=>some (.next,hX4 w os,hC,{ line:=243,col:=0,endLine:=244,endCol:=90 }):=by kernel_rfl
theorem hp5 (w:World):(fun os=>PySem.W.topRun treeTable PySem.Challenge.pw_struckdeeds_k14_whole_names_called_other w 11 (Option.some (PySem.Value.ref 6)) 2 (hX4 w os).abs (PySem.W.restOf [] hN hC { line:=243,col:=0,endLine:=244,endCol:=90 } hF))=fun os=>some (hX5 w os).abs:=by kernel_rfl
theorem hR1:hB=(hQ3++(hQ4++[])):=by kernel_rfl
theorem hr5 (w:World) (os:OsState):PySem.W.topRun treeTable PySem.Challenge.pw_struckdeeds_k14_whole_names_called_other w 11 (Option.some (PySem.Value.ref 6)) 2 (hX4 w os).abs (PySem.W.restOf [] hN hC { line:=243,col:=0,endLine:=244,endCol:=90 } hF)=some (hX5 w os).abs:=congrFun (hp5 w) os
theorem hr4 (w:World) (os:OsState):PySem.W.topRun treeTable PySem.Challenge.pw_struckdeeds_k14_whole_names_called_other w 11 (Option.some (PySem.Value.ref 6)) (771+2) (hX3 w os).abs (PySem.W.restOf (hQ4++[]) hN hC { line:=61,col:=0,endLine:=61,endCol:=8 } hF)=some (hX5 w os).abs:=PySem.W.piece_app (n:=771) (N:=2) (s:=(hX3 w os).abs) (s':=(hX4 w os).abs) (r:=(hX5 w os).abs) (l:=hQ4) (rest:=[]) (c:=hC) (pos:={ line:=61,col:=0,endLine:=61,endCol:=8 }) (p':={ line:=243,col:=0,endLine:=244,endCol:=90 }) (env:=hN) (q:={ line:=0,col:=0,endLine:=0,endCol:=0 }) (PySem.W.segRun_of (congrFun (hp4 w) os)) (hr5 w os)
theorem hr3 (w:World) (os:OsState):PySem.W.topRun treeTable PySem.Challenge.pw_struckdeeds_k14_whole_names_called_other w 11 (Option.some (PySem.Value.ref 6)) (1387+(771+2)) (hX2 w os).abs (PySem.W.restOf (hQ3++(hQ4++[])) hN hC { line:=0,col:=0,endLine:=0,endCol:=0 } hF)=some (hX5 w os).abs:=PySem.W.piece_app (n:=1387) (N:=(771+2)) (s:=(hX2 w os).abs) (s':=(hX3 w os).abs) (r:=(hX5 w os).abs) (l:=hQ3) (rest:=(hQ4++[])) (c:=hC) (pos:={ line:=0,col:=0,endLine:=0,endCol:=0 }) (p':={ line:=61,col:=0,endLine:=61,endCol:=8 }) (env:=hN) (q:={ line:=0,col:=0,endLine:=0,endCol:=0 }) (PySem.W.segRun_of (congrFun (hp3 w) os)) (hr4 w os)
theorem hr2 (w:World) (os:OsState):PySem.W.topRun treeTable PySem.Challenge.pw_struckdeeds_k14_whole_names_called_other w 11 (Option.some (PySem.Value.ref 6)) (1+(1387+(771+2))) (hX1 w os).abs ⟨denote treeTable hC,hC,{ line:=0,col:=0,endLine:=0,endCol:=0 },hF⟩=some (hX5 w os).abs:=PySem.W.piece_block (n:=1) (N:=(1387+(771+2))) (s:=(hX1 w os).abs) (s':=(hX2 w os).abs) (r:=(hX5 w os).abs) (b:=hB) (env:=hN) (c:=hC) (pos:={ line:=0,col:=0,endLine:=0,endCol:=0 }) (p':={ line:=0,col:=0,endLine:=0,endCol:=0 }) (q:={ line:=0,col:=0,endLine:=0,endCol:=0 }) (PySem.W.segRun_of (congrFun (hp2 w) os)) (by rw[hR1];exact hr3 w os)
noncomputable def hH:Params→Heap:=fun P=>PySem.W.absHeap (hT4 P) 300 { }
theorem hr1 (w:World) (os:OsState):PySem.W.topRun treeTable PySem.Challenge.pw_struckdeeds_k14_whole_names_called_other w 11 (Option.some (PySem.Value.ref 6)) (12+(1+(1387+(771+2)))) ⟨PySem.W.boot_heap w.params,⟨[]⟩,PySem.W.boot_drawn,PySem.W.boot_toks,os⟩ (PySem.W.topStub PySem.Challenge.pw_struckdeeds_k14_whole_names_called_other)=some (hX5 w os).abs:=PySem.W.go_top (n:=12) (N:=(1+(1387+(771+2)))) (s':=(hX1 w os).abs) (t':=⟨denote treeTable hC,hC,{ line:=0,col:=0,endLine:=0,endCol:=0 },hF⟩) (congrFun (hp1 w) os) (hr2 w os)
theorem hR (w:World) (os:OsState):PySem.W.topRun treeTable PySem.Challenge.pw_struckdeeds_k14_whole_names_called_other w 11 (Option.some (PySem.Value.ref 6)) (12+(1+(1387+(771+2)))) ⟨PySem.W.boot_heap w.params,⟨[]⟩,PySem.W.boot_drawn,PySem.W.boot_toks,os⟩ (PySem.W.topStub PySem.Challenge.pw_struckdeeds_k14_whole_names_called_other)=some ⟨hH w.params,⟨[]⟩,{ },597,os⟩:=(hr1 w os).trans (by kernel_rfl)
theorem hZ (w:World):(fun os=>((PySem.W.staticsOk (PySem.importedModules PySem.Challenge.pw_struckdeeds_k14_whole_names_called_other.main.body) (PySem.W.boot_heap w.params) (hH w.params)&&PySem.W.namesBound PySem.Challenge.pw_struckdeeds_k14_whole_names_called_other (hH w.params)&&PySem.W.gensDone ⟨hH w.params,⟨[]⟩,{ },597,os⟩&&PySem.W.laidKept (PySem.W.boot_heap w.params) (hH w.params)),PySem.W.openSeen hV [Str.ofString "FORMS", Str.ofString "GROUP"] (PySem.importedModules PySem.Challenge.pw_struckdeeds_k14_whole_names_called_other.main.body) (fun s=>PySem.W.xlAt hV [(Str.ofString "GROUP", PySem.W.WData.int (1000000000000000000))] s&&PySem.W.recOk (PySem.W.RowW.records (PySem.W.OpenRow.toRowW (PySem.W.OpenLaw.row PySem.Challenge.rw_struckdeeds_k14_whole_names_called_other))) s) true ⟨hH w.params,⟨[]⟩,{ },597,os⟩,PySem.W.Hook.obs (PySem.W.kHook hK hA hE) ⟨hH w.params,⟨[]⟩,{ },597,os⟩))=fun _=>(true,PySem.W.openGood hV [Str.ofString "FORMS", Str.ofString "GROUP"],PySem.W.Hook.val (PySem.W.kHook hK hA hE) w):=by kernel_rfl
theorem hO:PySem.W.opening PySem.Challenge.pw_struckdeeds_k14_whole_names_called_other=PySem.W.plainProg PySem.Challenge.pw_struckdeeds_k14_whole_names_called_other.main.scope.names:=by kernel_rfl
theorem hG (w:World):((PySem.W.boot_heap w.params).isNs mainGlobals&&(⟨[]⟩:Array GenState).size==0,(PySem.W.boot_heap w.params).objs.size,(PySem.W.boot_heap w.params).nsMap mainGlobals (Str.ofString "__annotations__"))=(true,11,Option.some (PySem.Value.ref 6)):=by kernel_rfl
theorem hJ (s:Shared):PySem.fenceModules? PySem.Challenge.pw_struckdeeds_k14_whole_names_called_other s=some s:=by kernel_rfl
theorem hL:PySem.W.LeftO PySem.Challenge.pw_struckdeeds_k14_whole_names_called_other hV [Str.ofString "FORMS", Str.ofString "GROUP"] (fun s=>PySem.W.xlAt hV [(Str.ofString "GROUP", PySem.W.WData.int (1000000000000000000))] s&&PySem.W.recOk (PySem.W.RowW.records (PySem.W.OpenRow.toRowW (PySem.W.OpenLaw.row PySem.Challenge.rw_struckdeeds_k14_whole_names_called_other))) s) (PySem.W.Hook.obs (PySem.W.kHook hK hA hE)) (PySem.W.Hook.val (PySem.W.kHook hK hA hE)) 4438:=
 @PySem.W.LeftO.of_pieces PySem.Challenge.pw_struckdeeds_k14_whole_names_called_other hV [Str.ofString "FORMS", Str.ofString "GROUP"] (fun s=>PySem.W.xlAt hV [(Str.ofString "GROUP", PySem.W.WData.int (1000000000000000000))] s&&PySem.W.recOk (PySem.W.RowW.records (PySem.W.OpenRow.toRowW (PySem.W.OpenLaw.row PySem.Challenge.rw_struckdeeds_k14_whole_names_called_other))) s) _ (PySem.W.Hook.obs (PySem.W.kHook hK hA hE)) (PySem.W.Hook.val (PySem.W.kHook hK hA hE)) 4438 true PySem.W.boot_heap hH ⟨[]⟩ ⟨[]⟩ PySem.W.boot_drawn { } PySem.W.boot_toks 597 11 (Option.some (PySem.Value.ref 6)) (12+(1+(1387+(771+2)))) (PySem.W.boot_open hO (by decide) hJ) hG hR (by decide) hZ
theorem hS:PySem.W.OpenLaw.wellSaid PySem.Challenge.rw_struckdeeds_k14_whole_names_called_other=true:=by kernel_rfl
end DL
open PySem PySem.W PyProof.Rows
set_option maxRecDepth 100000 in
set_option maxHeartbeats 0 in
theorem PySem.Challenge.cw_struckdeeds_k14_whole_names_called_other_holds : PySem.Challenge.rw_struckdeeds_k14_whole_names_called_other.Holds := by
 w_on
 refine PySem.W.holds_law DL.hS fun said=>?_
 refine PySem.W.holds_open (q:=DL.hV) (loose:=[Str.ofString "FORMS", Str.ofString "GROUP"]) (Xt:=(fun s=>PySem.W.xlAt DL.hV [(Str.ofString "GROUP", PySem.W.WData.int (1000000000000000000))] s&&PySem.W.recOk (PySem.W.RowW.records (PySem.W.OpenRow.toRowW (PySem.W.OpenLaw.row PySem.Challenge.rw_struckdeeds_k14_whole_names_called_other))) s)) (XP:=PySem.W.XL DL.hV [(Str.ofString "GROUP", PySem.W.WData.int (1000000000000000000))]) (Yf:=PySem.W.Hook.obs (PySem.W.kHook DL.hK DL.hA DL.hE)) (Ya:=PySem.W.Hook.val (PySem.W.kHook DL.hK DL.hA DL.hE)) (YP:=PySem.W.Hook.says (PySem.W.kHook DL.hK DL.hA DL.hE)) (N:=4438) DL.hL (PySem.W.Hook.of (PySem.W.kHook DL.hK DL.hA DL.hE)) (PySem.W.Hook.keeps (PySem.W.kHook DL.hK DL.hA DL.hE)) (fun s e=>PySem.W.xl_of s (Bool.and_eq_true_iff.mp e).1) PySem.W.XL.keeps (by rfl) (by rfl) (by rfl) (fun s e=>PySem.W.recFacts_of (Bool.and_eq_true_iff.mp e).2) rfl said (by decide +kernel) ⟨rfl,rfl,rfl,rfl,rfl,by decide +kernel⟩ ?hw ?hc
 (case hw=>w_witness2)
 k_fill
 refine DL.vO (l:=PySem.Challenge.rw_struckdeeds_k14_whole_names_called_other) rfl rfl (fun w h Y=>PySem.W.kIn_of Y) ?F
 case F=>
   intro w mg fa h KX G hmg
   refine' DL.sO KX G hmg ?b0 ?b1 ?b2 ?b3 ?b4 ?b5 ?b6 ?b7 ?b8 ?b9 ?b10 ?b11 ?b12 ?b13 ?b14 ?b15 ?b16 ?b17 ?b18 ?b19 ?b20 ?b21 ?b22 ?b23 ?b24 ?b25 ?b26 ?b27 ?b28 ?b29 ?b30 ?b31 ?b32 ?b33 ?b34 ?z_abs ?z_all ?z_bool ?z_dict ?z_divmod ?z_int ?z_isinstance ?z_len ?z_range ?z_reversed ?z_sorted ?z_str ?z_tuple ?z_zip ?y_FIGURES ?y_FORMS ?x_FORMS ?s_FORMS ?y_GROUP ?y_LAST_PLACE ?y_LETTERS ?y_LONGEST_NAME ?ac_NoText ?lc_NoText ?kc_NoText ?ic_NoText ?fl_NoText ?cc_NoText ?if_NoText ?kf_NoText ?sa_NoText ?ta_NoText ?ac_NotNow ?lc_NotNow ?kc_NotNow ?ic_NotNow ?fl_NotNow ?cc_NotNow ?if_NotNow ?kf_NotNow ?sa_NotNow ?ta_NotNow
   all_goals (first | (refine' DL.n5 ?fa ?fl ?fc ?fk;(case fa=>k_is);(case fl=>k_is);(case fc=>k_is);(case fk=>k_is)) | skip)
   (case z_abs=>k_is)
   (case z_all=>k_is)
   (case z_bool=>k_is)
   (case z_dict=>k_is)
   (case z_divmod=>k_is)
   (case z_int=>k_is)
   (case z_isinstance=>k_is)
   (case z_len=>k_is)
   (case z_range=>k_is)
   (case z_reversed=>k_is)
   (case z_sorted=>k_is)
   (case z_str=>k_is)
   (case z_tuple=>k_is)
   (case z_zip=>k_is)
   (case y_FIGURES=>k_is)
   (case y_FORMS=>k_is)
   (case x_FORMS=>k_is)
   (case s_FORMS=>decide)
   (case y_GROUP=>k_is)
   (case y_LAST_PLACE=>k_is)
   (case y_LETTERS=>k_is)
   (case y_LONGEST_NAME=>k_is)
   (case ac_NoText=>k_is)
   (case lc_NoText=>k_is)
   (case kc_NoText=>k_is)
   (case ic_NoText=>k_is)
   (case fl_NoText=>k_is)
   (case cc_NoText=>k_is)
   (case if_NoText=>k_is)
   (case kf_NoText=>k_is)
   (case sa_NoText=>k_is)
   (case ta_NoText=>k_is)
   (case ac_NotNow=>k_is)
   (case lc_NotNow=>k_is)
   (case kc_NotNow=>k_is)
   (case ic_NotNow=>k_is)
   (case fl_NotNow=>k_is)
   (case cc_NotNow=>k_is)
   (case if_NotNow=>k_is)
   (case kf_NotNow=>k_is)
   (case sa_NotNow=>k_is)
   (case ta_NotNow=>k_is)
#print axioms PySem.Challenge.cw_struckdeeds_k14_whole_names_called_other_holds
