import PyProof.Rows.All
import Wide.All
import OpenK.AllK
import Wide.FinOn
import Lean
import PyProof.EqAt
import PyProof.EqKinds
import PyProof.TupleCall
import KE.KRevIter
import PyProof.P3In
import PyProof.SumAnyB
import PyProof.NeKinds
import KE.KEqDict
import PyProof.ListRange
import PyProof.TupleOfSeq
import PySem.Challenge.RW_struckdeeds_k32_what_goes_with_struck_li
set_option Elab.async false
set_option linter.all false
set_option maxRecDepth 100000
set_option compiler.extract_closed false
set_option maxHeartbeats 4000000
open PySem renaming wpAny_bind → zZ, wpAny_pure → zY, codeAny_mono → xN, wpAny_newObj_type → xM
open List renaming length_map → zX, getElem?_eq_getElem → zV, mem_map → zL, size_toArray → zJ, map_cons → zI, getElem?_map → zF, map_map → zD, mem_append_right → zB, mem_append_left → zA, length_append → yY, mem_cons → yX, mem_append → yW, mem_cons_of_mem → yV, getD_eq_getElem?_getD → yU, getElem?_eq_some_iff → yT, length_cons → yR, getElem?_append_left → yQ, getElem?_append_right → yP, mem_of_getElem? → yN, map_congr_left → yM, mem_filter → yL, length_filter_le → yJ, getElem?_range → yA, length_range → xZ, not_mem_nil → xX, nodup_cons → xV, filter_map → xU, map_append → xI
open PySem.Heap renaming get?_push_of_some → zW, lt_size → zM, get?_push_size → yZ, get?_update_other → yC, get?_update_ne → yB
open Nat renaming le_refl → zR, lt_of_le_of_lt → zQ, lt_of_lt_of_le → zP, le_trans → zN, ne_of_lt → zC, lt_irrefl → yF, le_of_ble_eq_true → yD, zero_le → xT, le_of_lt → xR
open PySem.SeqAt renaming shaped → zH, canLay_of_shaped → zG
open Option renaming isSome_iff_exists → xY
open PySem.Calls renaming spliced_cons → xP
open PySem.Builtin.Int renaming intBits → xJ
open PyProof.Rows renaming callWith_type1 → xH
abbrev sT (n:Nat):PySem.Stmt:=PySem.Challenge.pw_struckdeeds_k32_what_goes_with_struck_li.main.body.getD n (.Pass ⟨0,0,0,0⟩)
abbrev Frg:=PySem.W.Frag
theorem nft:¬(false=true):=Bool.false_ne_true
namespace L2
open PySem PySem.Spec PyProof.Rows
abbrev Key:=Sum Int Str
def keyIs:Key→Value→Bool
 | .inl k,v=>Value.isInt k v
 | .inr x,v=>Value.isStrOf x v
def keyH (w:World):Key→Int
 | .inl k=>hashInt k
 | .inr x=>hashStr w x
theorem keyIs_shape:∀{k:Key}{v:Value},keyIs k v=true→(∃i t,k=Sum.inl i∧v=Value.int i t)∨(∃x t,k=Sum.inr x∧v=Value.str x t)
 | .inl i,v,h=>by
   obtain⟨t,e⟩:=Value.isInt_shape (k:=i) (v:=v) h
   exact .inl ⟨i,t,rfl,e⟩
 | .inr x,v,h=>by
   obtain⟨t,e⟩:=Value.isStrOf_shape (x:=x) (v:=v) h
   exact .inr ⟨x,t,rfl,e⟩
theorem keyIs_int (i:Int) (t:Tok):keyIs (.inl i) (.int i t)=true:=by simp[keyIs,Value.isInt]
theorem keyIs_str (x:Str) (t:Tok):keyIs (.inr x) (.str x t)=true:=by simp[keyIs,Value.isStrOf]
theorem key_ll (a b:Int):decide ((Sum.inl a:Key)=Sum.inl b)=(a==b):=by
 by_cases e:a=b
 · subst e;simp
 · have h:¬(Sum.inl a:Key)=Sum.inl b:=fun q=>e (Sum.inl.inj q)
   rw[decide_eq_false h]
   exact(beq_eq_false_iff_ne.mpr e).symm
theorem key_rr (a b:Str):decide ((Sum.inr a:Key)=Sum.inr b)=decide (a=b):=by
 by_cases e:a=b
 · subst e;simp
 · have h:¬(Sum.inr a:Key)=Sum.inr b:=fun q=>e (Sum.inr.inj q)
   rw[decide_eq_false h,decide_eq_false e]
theorem key_lr (a:Int) (b:Str):decide ((Sum.inl a:Key)=Sum.inr b)=false:=decide_eq_false (fun q=>nomatch q)
theorem key_rl (a:Str) (b:Int):decide ((Sum.inr a:Key)=Sum.inl b)=false:=decide_eq_false (fun q=>nomatch q)
def mixKind (prog:Program) (w:World):PySem.KeyKind prog w Key where
 is:=keyIs
 hash:=keyH w
 inj:=fun v a b ha hb=>by
   rcases keyIs_shape ha with ⟨i,t,rfl,rfl⟩ | ⟨x,t,rfl,rfl⟩
   · rcases keyIs_shape hb with ⟨j,u,rfl,e⟩ | ⟨y,u,rfl,e⟩
     · injection e with e1 _;rw[e1]
     · exact nomatch e
   · rcases keyIs_shape hb with ⟨j,u,rfl,e⟩ | ⟨y,u,rfl,e⟩
     · exact nomatch e
     · injection e with e1 _;rw[e1]
 byValue:=fun k v h=>by
   rcases keyIs_shape h with ⟨i,t,rfl,rfl⟩ | ⟨x,t,rfl,rfl⟩ <;> rfl
 pyHash:=fun hv h=>by
   rcases keyIs_shape hv with ⟨i,t,rfl,rfl⟩ | ⟨x,t,rfl,rfl⟩
   · exact wpAny_pyHash_int h
   · exact wpAny_pyHash_str h
 eqBool:=fun hu hv h=>by
   rcases keyIs_shape hu with ⟨i,t,rfl,rfl⟩ | ⟨x,t,rfl,rfl⟩
   · rcases keyIs_shape hv with ⟨j,u,rfl,rfl⟩ | ⟨y,u,rfl,rfl⟩
     · rw[key_ll] at h;exact wpAny_eqBool_int h
     · rw[key_lr] at h;exact SeqAt.EqAt.int_str i t y u _ _ _ _ h
   · rcases keyIs_shape hv with ⟨j,u,rfl,rfl⟩ | ⟨y,u,rfl,rfl⟩
     · rw[key_rl] at h;exact SeqAt.EqAt.str_int x t j u _ _ _ _ h
     · rw[key_rr] at h;exact wpAny_eqBool_str h
 «strs»:=fun k x t v h=>by
   rcases keyIs_shape h with ⟨i,u,rfl,e⟩ | ⟨y,u,rfl,e⟩
   · exact nomatch e
   · injection e with e1 _
     subst e1
     cases v <;> rfl
theorem mixKind_int (prog:Program) (w:World) (i:Int) (t:Tok):(mixKind prog w).is (.inl i) (.int i t)=true:=keyIs_int i t
theorem mixKind_str (prog:Program) (w:World) (x:Str) (t:Tok):(mixKind prog w).is (.inr x) (.str x t)=true:=keyIs_str x t
end L2
namespace L2
open PySem PySem.Spec PyProof.Rows
inductive V where
 | non | bl (b:Bool) | int (i:Int) | str (x:Str) | byt (b:Array UInt8) | flt (b:UInt64) | ref (a:Addr) | ty (n:String)
 deriving DecidableEq
def RelV:V→Value→Prop
 | .non,u=>u=Value.none
 | .bl b,u=>u=Value.bool b
 | .int i,u=>∃t,u=Value.int i t
 | .str x,u=>∃t,u=Value.str x t
 | .byt b,u=>∃t,u=Value.bytes b t
 | .flt b,u=>∃t,u=Value.float b t
 | .ref a,u=>u=Value.ref a
 | .ty n,u=>u=Value.type n
abbrev Vals:List V→List Value→Prop:=Paired RelV
theorem Vals.length {xs:List V}{us:List Value}(r:Vals xs us):xs.length=us.length:=Paired.length r
theorem Vals.get:∀{xs:List V}{us:List Value}{i:Nat}{x:V},Vals xs us→xs[i]?=some x→∃u,us[i]?=some u∧RelV x u
 | _,_,_,_,.nil,e=>by simp at e
 | _,_,0,_,.cons r _,e=>by simp at e;subst e;exact⟨_,rfl,r⟩
 | _,_,i+1,x,.cons _ t,e=>by
   obtain⟨u,h1,h2⟩:=Vals.get (i:=i) (x:=x) t (by simpa using e)
   exact⟨u,by simpa using h1,h2⟩
theorem Vals.set {x:V}{u:Value}(r:RelV x u):∀{xs:List V}{us:List Value}(i:Nat),Vals xs us→Vals (xs.set i x) (us.set i u)
 | _,_,_,.nil=>.nil
 | _,_,0,.cons _ t=>.cons r t
 | _,_,i+1,.cons q t=>.cons q (Vals.set r i t)
theorem Vals.append:∀{xs ys:List V}{us ws:List Value},Vals xs us→Vals ys ws→Vals (xs++ys) (us++ws)
 | _,_,_,_,.nil,s=>s
 | _,_,_,_,.cons r t,s=>.cons r (Vals.append t s)
theorem Vals.take:∀{xs:List V}{us:List Value}(n:Nat),Vals xs us→Vals (xs.take n) (us.take n)
 | _,_,0,_=>.nil
 | _,_,_+1,.nil=>.nil
 | _,_,n+1,.cons r t=>.cons r (Vals.take n t)
theorem Vals.drop:∀{xs:List V}{us:List Value}(n:Nat),Vals xs us→Vals (xs.drop n) (us.drop n)
 | _,_,0,r=>r
 | _,_,_+1,.nil=>.nil
 | _,_,n+1,.cons _ t=>Vals.drop n t
def RelO:Option V→Option Value→Prop
 | some v,some u=>RelV v u
 | none,none=>True
 | _,_=>False
def KV {κ:Type}:List (κ×V)→List (κ×Value)→Prop:=Paired fun(p:κ×V) (q:κ×Value)=>p.1=q.1∧RelV p.2 q.2
def kV:Key→V
 | .inl i=>.int i
 | .inr x=>.str x
inductive HO where
 | lst (xs:List V)
 | tup (xs:List V)
 | dK (kvs:List (Key×V)) | dT (kvs:List (List Key×V))
 | set (S:Int→Bool) (n:Nat)
 | ins (C dx:Addr) (fs:List (Str×V))
 | own (x:Addr)
 | xd (fs:List (Str×V))
 | met (f x:Addr)
 | rng (lo hi:Int)
 | frz (o:Obj) (u:HO)
 | tbl (ps:Array Value)
 | ext (φ:Heap→Prop)
abbrev Hp:=Addr→Option HO
def upd (H:Hp) (a:Addr) (o:HO):Hp:=fun b=>if b=a then some o else H b
theorem upd_same {H:Hp}{a:Addr}{o:HO}:upd H a o a=some o:=by unfold upd;rw[if_pos rfl]
theorem upd_ne {H:Hp}{a b:Addr}{o:HO}(h:b≠a):upd H a o b=H b:=by unfold upd;rw[if_neg h]
theorem ne_of {H:Hp}{a b:Addr}{o u:HO}(h:H a=some o) (h':H b=some u) (d:o≠u):a≠b:=by
 intro e;subst e;rw[h] at h';exact d (Option.some.inj h')
theorem ne_of_none {H:Hp}{a b:Addr}{o:HO}(h:H a=some o) (h':H b=none):a≠b:=by
 intro e;subst e;rw[h] at h';cases h'
section
variable (P:Program) (w:World)
def ObjOk (H:Hp) (h:Heap) (a:Addr):HO→Prop
 | .lst xs=>xs.length≤sizeLine∧∃(its:List Value) (n:Nat),Vals xs its∧h.get? a=some { cls:=.type "list", data:=.seq its.toArray n }
 | .tup xs=>xs.length≤sizeLine∧∃its:List Value,Vals xs its∧IsTup h a its.toArray
 | .dK kvs=>kvs.length≤sizeLine∧(a==sysModules)=false∧∃vs,KV kvs vs∧h.DictOf (mixKind P w) a vs
 | .dT kvs=>kvs.length≤sizeLine∧(a==sysModules)=false∧∃xs:List (List Key×Addr×Value),
     Paired (fun(p:List Key×V) (q:List Key×Addr×Value)=>p.1=q.1∧H q.2.1=some (.tup (p.1.map kV))∧RelV p.2 q.2.2) kvs xs ∧
     ∃o es ep,h.get? a=some o∧o.ExactDict∧o.data = .dict es ep∧es.toList=xs.map (entryOfKey (tupleKind (mixKind P w)))∧(xs.map (·.1)).Nodup
 | .set S n=>h.SetOf (intKind P w) a S n
 | .ins C dx fs=>H dx=some (.own a)∧fs.length≤1000∧dx≠a∧h.get? a=some (PySem.W.instObj C dx) ∧
     ∃mA,h.Ns1 dx mA∧(∀f,RelO (fs.lookup f) (mA f))∧PySem.Within mA (fs.map (·.1))
 | .own _=>∃o,h.get? a=some o
 | .xd fs=>∃mA,h.Ns1 a mA∧∀f,RelO (fs.lookup f) (mA f)
 | .rng lo hi=>∃t u v,h.get? a=some { cls:=.type "range", data:=.fields #[.int lo t,.int hi u,.int 1 v] }
 | .frz o u=>h.get? a=some o∧ObjOk H h a u
 | .tbl ps=>h.get? a=some { cls:=.none,data:=.fields ps }
 | .met f x=>h.get? a=some (PySem.W.methodObj (.ref f) (.ref x))
 | .ext φ=>φ h∧(∃o,h.get? a=some o)∧∀h1 h2:Heap,φ h1→(∀o,h1.get? a=some o→h2.get? a=some o)→φ h2
def HOk (H:Hp) (h:Heap):Prop:=∀a o,H a=some o→ObjOk P w H h a o
end
section
variable {P:Program}{w:World}{H H':Hp}{h h':Heap}{a:Addr}{o:HO}
theorem ObjOk.lt (x:ObjOk P w H h a o):a < h.objs.size:=by
 cases o with
 | lst xs=>obtain⟨_,_,_,_,e⟩:=x;exact zM e
 | tup xs=>obtain⟨_,_,_,p⟩:=x;exact p.lt
 | dK kvs=>obtain⟨_,_,_,_,o,_,_,e,_⟩:=x;exact zM e
 | dT kvs=>obtain⟨_,_,_,_,o,_,_,e,_⟩:=x;exact zM e
 | set S n=>obtain⟨o,_,_,_,e,_⟩:=x;exact zM e
 | ins C dx fs=>obtain⟨_,_,_,e,_⟩:=x;exact zM e
 | own y=>obtain⟨_,e⟩:=x;exact zM e
 | xd fs=>obtain⟨_,⟨_,_,_,e,_⟩,_⟩:=x;exact zM e
 | rng lo hi=>obtain⟨_,_,_,e⟩:=x;exact zM e
 | frz ob u=>obtain⟨e,_⟩:=x;exact zM e
 | tbl ps=>exact zM (show h.get? a=some _ from x)
 | met f y=>exact zM (show h.get? a=some _ from x)
 | ext φ=>obtain⟨_,⟨_,e⟩,_⟩:=x;exact zM e
theorem Paired.mapP {α β:Type}{F G:α→β→Prop}:∀{l₁:List α}{l₂:List β},Paired F l₁ l₂→(∀a b,F a b→G a b)→Paired G l₁ l₂
 | _,_,.nil,_=>.nil
 | _,_,.cons r t,f=>.cons (f _ _ r) (Paired.mapP t f)
theorem ObjOk.stay (x:ObjOk P w H h a o) (k:∀b u,(b=a∨H b=some (.own a))→h.get? b=some u→h'.get? b=some u)
   (ho:∀b,H b=some (.own a)→H' b=some (.own a)) (ht:∀b xs,H b=some (.tup xs)→H' b=some (.tup xs)):ObjOk P w H' h' a o:=by
 induction o with
 | lst xs=>obtain⟨z,its,n,r,e⟩:=x;exact⟨z,its,n,r,k _ _ (.inl rfl) e⟩
 | tup xs=>obtain⟨z,its,r,ob,e,c⟩:=x;exact⟨z,its,r,ob,k _ _ (.inl rfl) e,c⟩
 | dK kvs=>obtain⟨z,y,vs,r,ob,es,ep,e,c⟩:=x;exact⟨z,y,vs,r,ob,es,ep,k _ _ (.inl rfl) e,c⟩
 | dT kvs=>
   obtain⟨z,y,xs,r,ob,es,ep,e,c⟩:=x
   exact⟨z,y,xs,Paired.mapP r fun p q z=>⟨z.1,ht _ _ z.2.1,z.2.2⟩,ob,es,ep,k _ _ (.inl rfl) e,c⟩
 | set S n=>obtain⟨ob,es,ep,t,e,c⟩:=x;exact⟨ob,es,ep,t,k _ _ (.inl rfl) e,c⟩
 | ins C dx fs=>
   obtain⟨d,z,ne,e,mA,⟨od,es,ep,e2,c⟩,r⟩:=x
   exact⟨ho _ d,z,ne,k _ _ (.inl rfl) e,mA,⟨od,es,ep,k _ _ (.inr d) e2,c⟩,r⟩
 | own y=>obtain⟨ob,e⟩:=x;exact⟨ob,k _ _ (.inl rfl) e⟩
 | xd fs=>obtain⟨mA,⟨od,es,ep,e,c⟩,r⟩:=x;exact⟨mA,⟨od,es,ep,k _ _ (.inl rfl) e,c⟩,r⟩
 | rng lo hi=>obtain⟨t,u,v,e⟩:=x;exact⟨t,u,v,k _ _ (.inl rfl) e⟩
 | frz ob u ih=>obtain⟨e,q⟩:=x;exact⟨k _ _ (.inl rfl) e,ih q⟩
 | tbl ps=>
   have e:h.get? a=some { cls:=.none,data:=.fields ps }:=x
   show h'.get? a=some { cls:=.none,data:=.fields ps }
   exact k a _ (.inl rfl) e
 | met f y=>
   have e:h.get? a=some (PySem.W.methodObj (.ref f) (.ref y)):=x
   show h'.get? a=some (PySem.W.methodObj (.ref f) (.ref y))
   exact k a _ (.inl rfl) e
 | ext φ=>obtain⟨p,⟨o,e⟩,st⟩:=x;exact⟨st _ _ p fun o q=>k _ _ (.inl rfl) q,⟨o,k _ _ (.inl rfl) e⟩,st⟩
theorem HOk.lt (x:HOk P w H h) (e:H a=some o):a < h.objs.size:=(x a o e).lt
theorem HOk.fresh (x:HOk P w H h) (e:h.objs.size≤a):H a=none:=by
 cases q:H a with
 | none=>rfl
 | some u=>exact absurd (zP (x.lt q) e) (yF _)
theorem HOk.kept (x:HOk P w H h) (k:∀b u,h.get? b=some u→h'.get? b=some u):HOk P w H h':=fun a o e=>
 (x a o e).stay (fun b u _ q=>k b u q) (fun _ q=>q) fun _ _ q=>q
theorem HOk.laid (x:HOk P w H h) (k:∀b u,h.get? b=some u→h'.get? b=some u) (hp:h.objs.size≤a) (new:ObjOk P w (upd H a o) h' a o):HOk P w (upd H a o) h':=fun b u e=>by
 have hn:=x.fresh hp
 by_cases hb:b=a
 · subst hb;rw[upd_same] at e;cases e;exact new
 · rw[upd_ne hb] at e
   exact(x b u e).stay (fun c v _ q=>k c v q) (fun c q=>by rw[upd_ne (ne_of_none q hn)];exact q) fun c xs q=>by rw[upd_ne (ne_of_none q hn)];exact q
end
def Rd (H:Hp) (a:Addr) (u:HO):Prop:=H a=some u∨∃o,H a=some (.frz o u)
theorem Rd.ok {P:Program}{w:World}{H:Hp}{h:Heap}{a:Addr}{u:HO}(r:Rd H a u) (x:HOk P w H h):ObjOk P w H h a u:=by
 rcases r with r | ⟨o,r⟩
 · exact x a u r
 · obtain⟨_,q⟩:=x a _ r
   exact q
def Mut:Option HO→Prop
 | some (.lst _)=>True
 | some (.dK _)=>True
 | some (.dT _)=>True
 | some (.set _ _)=>True
 | some (.ins _ _ _)=>True
 | some (.ext _)=>True
 | _=>False
section
variable {P:Program}{w:World}{H:Hp}{h h':Heap}{x e:Addr}{o':HO}
theorem HOk.write (ok:HOk P w H h) (mu:Mut (H x)) (he:e=x∨H e=some (.own x)) (k:∀b u,b≠e→h.get? b=some u→h'.get? b=some u) (heo:∃u,h'.get? e=some u)
   (new:ObjOk P w (upd H x o') h' x o'):HOk P w (upd H x o') h':=fun b u q=>by
 have nown:∀c y,H c=some (.own y)→c≠x:=fun c y r z=>by subst z;rw[r] at mu;exact mu
 have ntup:∀c xs,H c=some (.tup xs)→c≠x:=fun c xs r z=>by subst z;rw[r] at mu;exact mu
 by_cases hb:b=x
 · subst hb;rw[upd_same] at q;cases q;exact new
 · rw[upd_ne hb] at q
   by_cases hbe:b=e
   · have q':H b=some (.own x):=by
       rcases he with z | z
       · exact absurd (hbe.trans z) hb
       · rw[hbe];exact z
     rw[q] at q';cases q'
     obtain⟨v,hv⟩:=heo
     exact⟨v,by rw[hbe];exact hv⟩
   · refine(ok b u q).stay (fun c v hc r=>k c v ?_ r) (fun c r=>by rw[upd_ne (nown c b r)];exact r) fun c xs r=>by rw[upd_ne (ntup c xs r)];exact r
     rcases hc with rfl | hc
     · exact hbe
     · rintro rfl
       rcases he with z | z
       · exact nown c b hc z
       · rw[hc] at z;cases z;exact hb rfl
end
structure Un (fs ex:List Addr) (H H':Hp) (h h':Heap):Prop where
 keep:∀b o,h.get? b=some o→H b=none→b∉fs→b∉ex→h'.get? b=some o
 slot:∀b o,h.get? b=some o→H b=none→b∈fs→b∉ex→∃sl,h'.get? b=some { o with slots:=sl }
 free:∀b o,h.get? b=some o→H b=none→b∉ex→H' b=none
 there:∀b o,h.get? b=some o→b∉ex→∃o',h'.get? b=some o'
 tups:∀b xs,H b=some (.tup xs)→H' b=some (.tup xs)
 frzs:∀b o u,H b=some (.frz o u)→H' b=some (.frz o u)
 tbls:∀b ps,H b=some (.tbl ps)→∃more,H' b=some (.tbl (ps++more))
section
variable {fs fs' ex ex':List Addr}{H H1 H2:Hp}{h h1 h2 h':Heap}{a x e:Addr}{o:HO}
theorem Un.any (u:Un fs ex H H1 h h1) {b:Addr}{ob:Obj}(q:h.get? b=some ob) (n:H b=none) (hx:b∉ex):∃sl,h1.get? b=some { ob with slots:=sl }:=by
 by_cases hb:b∈fs
 · exact u.slot b ob q n hb hx
 · exact⟨ob.slots,u.keep b ob q n hb hx⟩
theorem Un.kept (k:∀b u,h.get? b=some u→h'.get? b=some u):Un fs ex H H h h':=
 ⟨fun b ob q _ _ _=>k b ob q,fun b ob q _ _ _=>⟨ob.slots,k b ob q⟩,fun _ _ _ n _=>n,fun b ob q _=>⟨ob,k b ob q⟩,fun _ _ q=>q,fun _ _ _ q=>q,fun _ ps q=>⟨#[],by rw[q];simp⟩⟩
theorem Un.refl:Un fs ex H H h h:=Un.kept fun _ _ q=>q
theorem Un.laid (k:∀b u,h.get? b=some u→h'.get? b=some u) (hp:h.objs.size≤a) (hn:H a=none):Un fs ex H (upd H a o) h h' where
 keep:=fun b u q _ _ _=>k b u q
 slot:=fun b u q _ _ _=>⟨u.slots,k b u q⟩
 free:=fun b u q n _=>by rw[upd_ne (zC (zP (zM q) hp))];exact n
 there:=fun b u q _=>⟨u,k b u q⟩
 tups:=fun b xs q=>by rw[upd_ne (ne_of_none q hn)];exact q
 frzs:=fun b u xs q=>by rw[upd_ne (ne_of_none q hn)];exact q
 tbls:=fun b ps q=>⟨#[],by rw[upd_ne (ne_of_none q hn),q];simp⟩
theorem Un.write (mu:Mut (H x)) (he:e=x∨H e=some (.own x)) (k:∀b u,b≠e→h.get? b=some u→h'.get? b=some u) (heo:∃u,h'.get? e=some u):Un fs ex H (upd H x o) h h':=by
 have hx:∀b,H b=none→b≠x:=fun b n z=>by subst z;rw[n] at mu;exact mu
 have hb:∀b,H b=none→b≠e:=fun b n z=>by
   subst z
   rcases he with r | r
   · exact hx b n r
   · rw[n] at r;cases r
 have hm:∀b u,H b=some u→¬Mut (some u)→b≠x:=fun b u q nm z=>by subst z;rw[q] at mu;exact nm mu
 refine⟨fun b u q n _ _=>k b u (hb b n) q,fun b u q n _ _=>⟨u.slots,k b u (hb b n) q⟩,fun b u q n _=>by rw[upd_ne (hx b n)];exact n,fun b u q _=>?_,
   fun b xs q=>by rw[upd_ne (hm b _ q fun z=>z)];exact q,fun b u xs q=>by rw[upd_ne (hm b _ q fun z=>z)];exact q,fun b ps q=>⟨#[],by rw[upd_ne (hm b _ q fun z=>z),q];simp⟩⟩
 by_cases hbe:b=e
 · subst hbe;exact heo
 · exact⟨u,k b u hbe q⟩
end
def trk (h:Heap) (H:Hp):List Addr:=(List.range h.objs.size).filter fun a=>(H a).isSome
def hidT (h:Heap) (H:Hp):Heap:=PySem.W.hideAll h (trk h H)
theorem hidT_size (h:Heap) (H:Hp):(hidT h H).objs.size=h.objs.size:=PySem.W.hideAll_size _ _
theorem hidT_get {h:Heap}{H:Hp}{b:Addr}{o:Obj}(e:h.get? b=some o) (n:H b=none):(hidT h H).get? b=some o:=
 PySem.W.hideAll_get _ e fun hm=>by
   have q:(H b).isSome=true:=(yL.mp hm).2
   rw[n] at q;simp at q
theorem of_hidT {h:Heap}{H:Hp}{b:Addr}{o:Obj}(e:(hidT h H).get? b=some o):h.get? b=some o∧H b=none:=by
 have e':h.get? b=some o:=PySem.W.of_hideAll (trk h H) e
 refine⟨e',?_⟩
 cases q:H b with
 | none=>rfl
 | some x=>
   have hm:b∈trk h H:=yL.mpr ⟨List.mem_range.mpr (zM e'),by simp[q]⟩
   have z:(hidT h H).get? b=none:=PySem.W.hideAll_none (trk h H) hm
   rw[z] at e;cases e
end L2
namespace L2
open PySem PySem.Spec PyProof.Rows
structure Mod (K:Frg) (mg:Str→Option Value) (base:Heap):Prop where
 kin:K.In base
 glob:base.Ns mainGlobals mg
 blt:∃mb,base.Ns builtinsNs mb∧∀x:Str,x ≠ "__name__" → mb x=bootBuiltins x
 nolimit:base.NoLimit
structure Cx where
 prog:Program
 w:World
 K:Frg
 mg:Str→Option Value
 base:Heap
 A:Around
 N:List Str
 s₀:Shared
 H₀:Hp
 env:Env
 outer:List Env
 stack:List Env
 ex:List Addr
 fn:Str→Bool
 calm:Bool
 pn:List (Addr×Obj)
 xe:Value→Shared→Prop
def frs (l:List Env):List Addr:=l.filterMap (·.frame)
abbrev Cx.fs (X:Cx):List Addr:=frs X.outer
def Vis (sc:Scope) (x:Str):Prop:=sc.names.lookup x=some .local∨sc.names.lookup x=some .cell∨sc.names.lookup x=some .free
def Loc (sc:Scope) (x:Str):Prop:=sc.names.lookup x=some .local∨sc.names.lookup x=some .cell
def Look (env:Env) (h:Heap) (m:Str→Option Value) (x:Str) (u:Value):Prop:=
 (env.kindOf x=some .local∧m x=some u)∨((env.kindOf x=some .cell∨env.kindOf x=some .free)∧∃c,env.cells.lookup x=some c∧h.IsCell c (some u))
structure Cx.Ok (X:Cx):Prop where
 mod:Mod X.K X.mg X.base
 kind:X.env.scope.kind = .function
 glob:X.env.globals=mainGlobals
 blt:X.env.builtins=builtinsNs
 above:X.s₀.heap.objs.size≤X.env.locals
 inj:∀x y c,X.env.cells.lookup x=some c→X.env.cells.lookup y=some c→x=y
 has:∀x,(X.env.kindOf x=some .cell∨X.env.kindOf x=some .free)→∃c,X.env.cells.lookup x=some c
 cab:∀x c,X.fn x=true→X.env.cells.lookup x=some c→X.s₀.heap.objs.size≤c
 hd:X.calm=true→X.A.handled=none
 frames:X.A.frames=some X.stack
 stk:X.stack=X.outer∨(X.stack=X.env::X.outer∧X.env.frame=some X.env.locals)
 exf:∀b∈X.ex,b≠X.env.locals∧∀x c,X.env.cells.lookup x=some c→c≠b
 bs:∀b o,X.base.get? b=some o→X.s₀.heap.get? b=some o∧X.H₀ b=none
 bsz:X.base.objs.size≤X.s₀.heap.objs.size
 noex:∀b o,X.base.get? b=some o→b∉X.ex
 exfs:∀b∈X.ex,b∉X.fs
 funs:X.s₀.heap.FunFrames X.base X.outer
 frf:∀b∈X.fs,X.H₀ b=none
structure Inv (X:Cx) (pins:List (Addr×Obj)) (σ:List (Option V)) (H:Hp) (s:Shared):Prop where
 ok:X.Ok
 os:s.os=X.s₀.os
 bare:AllBare s.gens
 base:Un X.fs X.ex X.H₀ H X.s₀.heap s.heap
 loc:∃m,s.heap.Ns X.env.locals m∧∀(i:Nat) (x:Str) (v:V),X.N[i]?=some x→σ[i]?=some (some v)→Vis X.env.scope x→∃u,RelV v u∧Look X.env s.heap m x u
 cell:∀x c,X.env.cells.lookup x=some c→∃v,s.heap.IsCell c v
 free:H X.env.locals=none
 freeC:∀x c,X.env.cells.lookup x=some c→H c=none
 pin:∀p∈X.pn++pins,s.heap.get? p.1=some p.2∧H p.1=none∧p.1≠X.env.locals∧p.1∉X.fs∧∀v,p.2.data≠.cell v
 hok:HOk X.prog X.w H s.heap
 len:σ.length=X.N.length
section
variable {X:Cx}{pins:List (Addr×Obj)}{σ:List (Option V)}{H H':Hp}{s:Shared}{h':Heap}
theorem Cx.Ok.nofr (ok:X.Ok) {b:Addr}{o:Obj}(e:X.base.get? b=some o):b∉X.fs:=fun hb=>by
 have:=(ok.funs.mem hb).1
 rw[e] at this;cases this
theorem Inv.bs (I:Inv X pins σ H s):∀b o,X.base.get? b=some o→s.heap.get? b=some o∧H b=none:=fun b o e=>
 ⟨I.base.keep b o (I.ok.bs b o e).1 (I.ok.bs b o e).2 (I.ok.nofr e) (I.ok.noex b o e),I.base.free b o (I.ok.bs b o e).1 (I.ok.bs b o e).2 (I.ok.noex b o e)⟩
theorem Inv.bk (I:Inv X pins σ H s):∀b o,X.base.get? b=some o→s.heap.get? b=some o:=fun b o e=>(I.bs b o e).1
theorem Inv.mod (I:Inv X pins σ H s):Mod X.K X.mg X.base:=I.ok.mod
theorem Inv.kIn (I:Inv X pins σ H s):X.K.In s.heap:=I.ok.mod.kin.keeps I.bk
theorem Inv.lt (I:Inv X pins σ H s):X.env.locals < s.heap.objs.size:=let ⟨_,hn,_⟩:=I.loc;hn.lt
theorem Inv.sz (I:Inv X pins σ H s):X.s₀.heap.objs.size≤s.heap.objs.size:=zN I.ok.above (xR I.lt)
theorem Inv.nofs (I:Inv X pins σ H s) {a:Addr}(h:s.heap.objs.size≤a):a∉X.fs:=fun hb=>by
 obtain⟨_,o,ho,_⟩:=I.ok.funs.mem hb
 exact absurd (zP (zM ho) (zN I.sz h)) (yF _)
theorem Inv.cne (I:Inv X pins σ H s):∀x c,X.env.cells.lookup x=some c→c≠X.env.locals:=fun x c e z=>by
 obtain⟨v,o,ho,hd⟩:=I.cell x c e
 obtain⟨m,⟨o',es,ep,ho',hd',_⟩,_⟩:=I.loc
 rw[z,ho'] at ho;cases ho;rw[hd'] at hd;cases hd
theorem Inv.funs (I:Inv X pins σ H s):s.heap.FunFrames X.base X.outer:=by
 have all:∀(l:List Env),(∀b∈frs l,b∈X.fs)→X.s₀.heap.FunFrames X.base l→s.heap.FunFrames X.base l:=by
   intro l
   induction l with
   | nil=>intro _ _;trivial
   | cons env r ih=>
     intro hs hl
     obtain⟨hk,⟨L,o,hf,hn,ho,hd⟩,hr⟩:=hl
     have hL:L∈X.fs:=hs L (by unfold frs;rw[List.filterMap_cons,hf];exact List.mem_cons_self)
     obtain⟨sl,e⟩:=I.base.slot L o ho (I.ok.frf L hL) hL fun z=>I.ok.exfs L z hL
     exact⟨hk,⟨L,_,hf,hn,e,hd⟩,ih (fun b hb=>hs b (by unfold frs;rw[List.filterMap_cons,hf];exact yV _ hb)) hr⟩
 exact all X.outer (fun _ hb=>hb) I.ok.funs
theorem Inv.stack (I:Inv X pins σ H s):s.heap.FunFrames X.base X.stack:=by
 rcases I.ok.stk with e | ⟨e,hf⟩
 · rw[e];exact I.funs
 · rw[e]
   obtain⟨m,hn,_⟩:=I.loc
   refine .cons (by rw[I.ok.kind];decide) hf hn ?_ I.funs
   exact Heap.get?_none_of_le (zN I.ok.bsz I.ok.above)
theorem Inv.stkSub (I:Inv X pins σ H s):∀b∈frs X.stack,b∈X.env.locals::X.fs:=fun b hb=>by
 rcases I.ok.stk with e | ⟨e,hf⟩
 · rw[e] at hb;exact yV _ hb
 · rw[e] at hb
   unfold frs at hb
   rw[List.filterMap_cons,hf] at hb
   exact hb
theorem Inv.stkFree (I:Inv X pins σ H s):∀b∈frs X.stack,H b=none:=fun b hb=>by
 rcases yX.mp (I.stkSub b hb) with e | hb
 · rw[e];exact I.free
 · obtain⟨_,o,ho,_⟩:=I.ok.funs.mem hb
   exact I.base.free b o ho (I.ok.frf b hb) fun z=>I.ok.exfs b z hb
theorem Inv.step {g':Array GenState}{t':Nat}{d':Drawn}{ch:List Addr}(I:Inv X pins σ H s)
   (hch:∀b∈ch,(b∈X.ex∨X.s₀.heap.objs.size≤b)∧b≠X.env.locals∧(∀x c,X.env.cells.lookup x=some c→c≠b)∧∀p∈X.pn++pins,p.1≠b)
   (keep:∀b o,b≠X.env.locals→b∉X.fs→b∉ch→s.heap.get? b=some o→H b=none→h'.get? b=some o)
   (slot:∀b o,b≠X.env.locals→b∈X.fs→b∉ch→s.heap.get? b=some o→H b=none→∃sl,h'.get? b=some { o with slots:=sl }) (free:∀b o,b∉ch→s.heap.get? b=some o→H b=none→H' b=none)
   (there:∀b o,b∉ch→s.heap.get? b=some o→∃o',h'.get? b=some o')
   (tups:∀b xs,H b=some (.tup xs)→H' b=some (.tup xs)) (frzs:∀b o u,H b=some (.frz o u)→H' b=some (.frz o u)) (tbls:∀b ps,H b=some (.tbl ps)→∃more,H' b=some (.tbl (ps++more)))
   (ns:∀m,s.heap.Ns X.env.locals m→h'.Ns X.env.locals m) (hok:HOk X.prog X.w H' h') (hg:AllBare g') :
   Inv X pins σ H' { s with heap:=h',gens:=g',drawn:=d',toks:=t' }:=by
 have neL:∀b o,X.s₀.heap.get? b=some o→b≠X.env.locals:=fun b o e=>zC (zP (zM e) I.ok.above)
 have neC:∀b o,X.s₀.heap.get? b=some o→b∉X.ex→b∉ch:=fun b o e hx hb=>by
   rcases (hch b hb).1 with z | z
   · exact hx z
   · exact absurd (zP (zM e) z) (yF _)
 have cellK:∀x c,X.env.cells.lookup x=some c→∀v,s.heap.IsCell c v→h'.IsCell c v:=fun x c e v ⟨o,ho,hd⟩=>by
   have nch:c∉ch:=fun z=>(hch c z).2.2.1 x c e rfl
   by_cases hc:c∈X.fs
   · obtain⟨sl,q⟩:=slot c o (I.cne x c e) hc nch ho (I.freeC x c e)
     exact⟨_,q,hd⟩
   · exact⟨o,keep c o (I.cne x c e) hc nch ho (I.freeC x c e),hd⟩
 refine⟨I.ok,I.os,hg,⟨fun b o e n hb hx=>?_,fun b o e n hb hx=>?_,fun b o e n hx=>?_,fun b o e hx=>?_,fun b xs e=>tups b xs (I.base.tups b xs e),fun b o xs e=>frzs b o xs (I.base.frzs b o xs e),fun b ps e=>?_⟩,?_,fun x c e=>?_,?_,fun x c e=>?_,fun p hp=>?_,hok,I.len⟩
 · exact keep b o (neL b o e) hb (neC b o e hx) (I.base.keep b o e n hb hx) (I.base.free b o e n hx)
 · obtain⟨sl,e1⟩:=I.base.slot b o e n hb hx
   obtain⟨sl',e2⟩:=slot b _ (neL b o e) hb (neC b o e hx) e1 (I.base.free b o e n hx)
   exact⟨sl',e2⟩
 · obtain⟨o',e1⟩:=I.base.there b o e hx
   exact free b o' (neC b o e hx) e1 (I.base.free b o e n hx)
 · obtain⟨o',e1⟩:=I.base.there b o e hx
   exact there b o' (neC b o e hx) e1
 · obtain⟨m1,e1⟩:=I.base.tbls b ps e
   obtain⟨m2,e2⟩:=tbls b _ e1
   exact⟨m1++m2,by rw[e2,Array.append_assoc]⟩
 · obtain⟨m,hn,hl⟩:=I.loc
   refine⟨m,ns m hn,fun i x v e1 e2 e3=>?_⟩
   obtain⟨u,r,l⟩:=hl i x v e1 e2 e3
   refine⟨u,r,?_⟩
   rcases l with l | ⟨k,c,e,z⟩
   · exact .inl l
   · exact .inr ⟨k,c,e,cellK x c e _ z⟩
 · obtain⟨v,z⟩:=I.cell x c e
   exact⟨v,cellK x c e v z⟩
 · obtain⟨m,⟨o,_,_,ho,_⟩,_⟩:=I.loc
   exact free _ o (fun z=>(hch _ z).2.1 rfl) ho I.free
 · obtain⟨v,o,ho,hd⟩:=I.cell x c e
   exact free c o (fun z=>(hch c z).2.2.1 x c e rfl) ho (I.freeC x c e)
 · obtain⟨e,n,ne,nf,d⟩:=I.pin p hp
   have nch:p.1∉ch:=fun z=>(hch p.1 z).2.2.2 p hp rfl
   exact⟨keep p.1 p.2 ne nf nch e n,free p.1 p.2 nch e n,ne,nf,d⟩
theorem Inv.un {t':Nat}(I:Inv X pins σ H s) (u:Un X.fs [] H H' s.heap h') (hok:HOk X.prog X.w H' h'):Inv X pins σ H' { s with heap:=h',toks:=t' }:=by
 obtain⟨m,⟨o,es,ep,ho,r⟩,_⟩:=id I.loc
 obtain⟨sl,hL⟩:=u.any ho I.free (by simp)
 exact I.step (g':=s.gens) (d':=s.drawn) (ch:=[]) (fun _ z=>nomatch z) (fun b o _ hb _ e n=>u.keep b o e n hb (by simp)) (fun b o _ hb _ e n=>u.slot b o e n hb (by simp)) (fun b o _ e n=>u.free b o e n (by simp)) (fun b o _ e=>u.there b o e (by simp)) u.tups u.frzs u.tbls (fun m' hm=>by
   obtain⟨o',es',ep',ho',r'⟩:=hm
   rw[ho] at ho';cases ho'
   exact⟨_,es',ep',hL,r'⟩) hok I.bare
theorem Inv.call {g':Array GenState}{t':Nat}{d':Drawn}{ch:List Addr}(I:Inv X pins σ H s) (u:Un (frs X.stack) ch H H' s.heap h') (hok:HOk X.prog X.w H' h') (hg:AllBare g')
   (hch:∀b∈ch,(b∈X.ex∨X.s₀.heap.objs.size≤b)∧b≠X.env.locals∧(∀x c,X.env.cells.lookup x=some c→c≠b)∧∀p∈X.pn++pins,p.1≠b) :
   Inv X pins σ H' { s with heap:=h',gens:=g',drawn:=d',toks:=t' }:=by
 obtain⟨m,⟨o,es,ep,ho,r⟩,_⟩:=id I.loc
 obtain⟨sl,hL⟩:=u.any ho I.free fun z=>(hch _ z).2.1 rfl
 exact I.step (ch:=ch) hch (fun b o hL hb hc e n=>u.keep b o e n (fun z=>(yX.mp (I.stkSub b z)).elim hL hb) hc) (fun b o _ _ hc e n=>u.any e n hc) (fun b o hc e n=>u.free b o e n hc) (fun b o hc e=>u.there b o e hc) u.tups u.frzs u.tbls (fun m' hm=>by
   obtain⟨o',es',ep',ho',r'⟩:=hm
   rw[ho] at ho';cases ho'
   exact⟨_,es',ep',hL,r'⟩) hok hg
theorem Inv.turned {t':Nat}{it:Addr}(I:Inv X pins σ H s) (k:∀b o,b≠it→s.heap.get? b=some o→h'.get? b=some o) (hn:H it=none) (hL:it≠X.env.locals)
   (h1:it∈X.ex∨X.s₀.heap.objs.size≤it) (h2:∀x c,X.env.cells.lookup x=some c→c≠it) (h3:∀p∈X.pn++pins,p.1≠it):Inv X pins σ H { s with heap:=h',toks:=t' }:=by
 have nit:∀b u,H b=some u→b≠it:=fun b u e z=>by rw[z,hn] at e;cases e
 refine I.step (g':=s.gens) (d':=s.drawn) (ch:=[it]) (fun b hb=>?_) (fun b o _ _ hc e _=>k b o (fun z=>hc (by simp[z])) e) (fun b o _ _ hc e _=>⟨o.slots,k b o (fun z=>hc (by simp[z])) e⟩) (fun _ _ _ _ n=>n)
   (fun b o hc e=>⟨o,k b o (fun z=>hc (by simp[z])) e⟩) (fun _ _ e=>e) (fun _ _ _ e=>e) (fun b ps e=>⟨#[],by rw[e];simp⟩) (fun m hm=>?_) (fun b u e=>?_) I.bare
 · have e:b=it:=by simpa using hb
   subst e
   exact⟨h1,hL,h2,h3⟩
 · obtain⟨o,es,ep,ho,r⟩:=hm
   exact⟨o,es,ep,k _ o (Ne.symm hL) ho,r⟩
 · refine(I.hok b u e).stay (fun c v hc q=>k c v ?_ q) (fun _ q=>q) fun _ _ q=>q
   rcases hc with z | z
   · rw[z];exact nit b u e
   · exact nit c _ z
theorem Inv.tok (I:Inv X pins σ H s) (t:Nat):Inv X pins σ H { s with toks:=t }:=I.un (h':=s.heap) (t':=t) Un.refl I.hok
theorem Inv.kept {t':Nat}(I:Inv X pins σ H s) (k:∀b u,s.heap.get? b=some u→h'.get? b=some u):Inv X pins σ H { s with heap:=h',toks:=t' }:=I.un (Un.kept k) (I.hok.kept k)
theorem Inv.laid {a:Addr}{o:HO}{t':Nat}(I:Inv X pins σ H s) (k:∀b u,s.heap.get? b=some u→h'.get? b=some u) (hp:s.heap.objs.size≤a) (new:ObjOk X.prog X.w (upd H a o) h' a o) :
   Inv X pins σ (upd H a o) { s with heap:=h',toks:=t' }:=I.un (Un.laid k hp (I.hok.fresh hp)) (I.hok.laid k hp new)
theorem Inv.write {x e:Addr}{o:HO}{t':Nat}(I:Inv X pins σ H s) (mu:Mut (H x)) (he:e=x∨H e=some (.own x)) (k:∀b u,b≠e→s.heap.get? b=some u→h'.get? b=some u) (heo:∃u,h'.get? e=some u)
   (new:ObjOk X.prog X.w (upd H x o) h' x o):Inv X pins σ (upd H x o) { s with heap:=h',toks:=t' }:=I.un (Un.write mu he k heo) (I.hok.write mu he k heo new)
theorem Inv.weak {σ':List (Option V)}(I:Inv X pins σ H s) (hl:σ'.length=σ.length) (w:∀(i:Nat) v,σ'[i]?=some (some v)→σ[i]?=some (some v)):Inv X pins σ' H s:=
 ⟨I.ok,I.os,I.bare,I.base,let ⟨m,hn,hl'⟩:=I.loc;⟨m,hn,fun i x v e1 e2 e3=>hl' i x v e1 (w i v e2) e3⟩,I.cell,I.free,I.freeC,I.pin,I.hok,hl.trans I.len⟩
theorem Inv.pins_of {pins':List (Addr×Obj)}(I:Inv X pins σ H s) (h:∀p∈pins',s.heap.get? p.1=some p.2∧H p.1=none∧p.1≠X.env.locals∧p.1∉X.fs∧∀v,p.2.data≠.cell v):Inv X pins' σ H s:=
 ⟨I.ok,I.os,I.bare,I.base,I.loc,I.cell,I.free,I.freeC,fun p hp=>(yW.mp hp).elim (fun z=>I.pin p (zA _ z)) (h p),I.hok,I.len⟩
theorem nodup_ix {N:List Str}(hN:N.Nodup) {i j:Nat}{x:Str}(a:N[i]?=some x) (b:N[j]?=some x):i=j:=by
 obtain⟨h1,e1⟩:=yT.mp a
 obtain⟨h2,e2⟩:=yT.mp b
 exact(List.getElem_inj hN).mp (e1.trans e2.symm)
theorem store_ok2 {M:Model}{A:Around}{E:Value→Shared→Prop}{i:Nat}{x:Str}{v:V}{u:Value}{Q:Unit→Shared→Prop}(I:Inv X pins σ H s) (hN:X.N.Nodup) (hi:X.N[i]?=some x) (hx:Loc X.env.scope x) (r:RelV v u)
   (h:∀s',Inv X pins (σ.set i (some v)) H s'→(∃a,Heap.SameBut a s.heap s'.heap∧(a=X.env.locals∨X.env.cells.lookup x=some a))→Q () s') (hf:X.fn x=true∨X.env.scope.names.lookup x=some .local:=by first | exact .inl rfl | exact .inr rfl | assumption):wpAny M A (storeName X.env x u) Q E s:=by
 obtain⟨m,hn,hl⟩:=id I.loc
 have hcls:(X.env.scope.kind==.class||(X.env.scope.kind==.module&&X.env.locals != X.env.globals))=false:=by rw[I.ok.kind];rfl
 have hiσ:i < σ.length:=by rw[I.len];exact(yT.mp hi).1
 have cne:=I.cne
 have tracked:∀{a:Addr}{h':Heap},(∃o,s.heap.get? a=some o∧H a=none)→Heap.SameBut a s.heap h'→HOk X.prog X.w H h':=fun {a h'} ha hs b ob e=>by
   obtain⟨_,_,hfree⟩:=ha
   refine(I.hok b ob e).stay (fun c w' hc q=>(hs.2 c ?_).trans q) (fun _ q=>q) fun _ _ q=>q
   rintro rfl
   rcases hc with rfl | hc
   · rw[hfree] at e;cases e
   · rw[hfree] at hc;cases hc
 rcases hx with hk | hk
 · refine wpAny_storeName_local hk hn (fun h' hn' hs=>?_) hcls
   obtain⟨oL,_,_,hoL,_⟩:=id hn
   refine h _ ⟨I.ok,I.os,I.bare,⟨fun b o e n hb hx=>?_,fun b o e n hb hx=>?_,I.base.free,fun b o e hx=>?_,I.base.tups,I.base.frzs,I.base.tbls⟩,⟨_,hn',fun j y v' e1 e2 e3=>?_⟩,fun y c e=>?_,I.free,I.freeC,fun p hp=>?_,tracked ⟨oL,hoL,I.free⟩ hs,by simpa using I.len⟩ ⟨_,hs,.inl rfl⟩
   · exact(hs.2 b (zC (zP (zM e) I.ok.above))).trans (I.base.keep b o e n hb hx)
   · obtain⟨sl,e1⟩:=I.base.slot b o e n hb hx
     exact⟨sl,(hs.2 b (zC (zP (zM e) I.ok.above))).trans e1⟩
   · obtain⟨o',e1⟩:=I.base.there b o e hx
     exact⟨o',(hs.2 b (zC (zP (zM e) I.ok.above))).trans e1⟩
   · by_cases hj:j=i
     · subst hj
       rw[hi] at e1;cases e1
       rw[List.getElem?_set_self hiσ] at e2
       cases e2
       exact⟨u,r,.inl ⟨hk,by simp⟩⟩
     · rw[List.getElem?_set_ne (Ne.symm hj)] at e2
       obtain⟨u',r',q⟩:=hl j y v' e1 e2 e3
       refine⟨u',r',?_⟩
       rcases q with ⟨k,e⟩ | ⟨k,c,e,z⟩
       · refine .inl ⟨k,?_⟩
         have:y≠x:=fun e=>hj (nodup_ix hN e1 (e▸hi))
         simp[this,e]
       · exact .inr ⟨k,c,e,z.sameBut hs (cne y c e)⟩
   · obtain⟨w',z⟩:=I.cell y c e
     exact⟨w',z.sameBut hs (cne y c e)⟩
   · obtain⟨e,n,ne,nf,d⟩:=I.pin p hp
     exact⟨(hs.2 p.1 ne).trans e,n,ne,nf,d⟩
 · have hfn:X.fn x=true:=by
     rcases hf with z | z
     · exact z
     · rw[z] at hk;cases hk
   obtain⟨c,hc⟩:=I.ok.has x (.inl hk)
   obtain⟨w',z⟩:=I.cell x c hc
   refine wpAny_storeName_cell I.ok.kind hk hc z (fun h' hc' hs=>?_)
   obtain⟨oc,hoc,hocd⟩:=id z
   refine h { s with heap:=h' } ⟨I.ok,I.os,I.bare,⟨fun b o e n hb hx=>?_,fun b o e n hb hx=>?_,I.base.free,fun b o e hx=>?_,I.base.tups,I.base.frzs,I.base.tbls⟩,⟨m,hn.sameBut hs (Ne.symm (cne x c hc)),fun j y v' e1 e2 e3=>?_⟩,fun y c' e=>?_,I.free,I.freeC,fun p hp=>?_,tracked ⟨oc,hoc,I.freeC x c hc⟩ hs,by simpa using I.len⟩ ⟨c,hs,.inr hc⟩
   · exact(hs.2 b (zC (zP (zM e) (I.ok.cab x c hfn hc)))).trans (I.base.keep b o e n hb hx)
   · obtain⟨sl,e1⟩:=I.base.slot b o e n hb hx
     exact⟨sl,(hs.2 b (zC (zP (zM e) (I.ok.cab x c hfn hc)))).trans e1⟩
   · obtain⟨o',e1⟩:=I.base.there b o e hx
     exact⟨o',(hs.2 b (zC (zP (zM e) (I.ok.cab x c hfn hc)))).trans e1⟩
   · by_cases hj:j=i
     · subst hj
       rw[hi] at e1;cases e1
       rw[List.getElem?_set_self hiσ] at e2
       cases e2
       exact⟨u,r,.inr ⟨.inl hk,c,hc,hc'⟩⟩
     · rw[List.getElem?_set_ne (Ne.symm hj)] at e2
       obtain⟨u',r',q⟩:=hl j y v' e1 e2 e3
       refine⟨u',r',?_⟩
       rcases q with q | ⟨k,c',e,z'⟩
       · exact .inl q
       · refine .inr ⟨k,c',e,z'.sameBut hs ?_⟩
         rintro rfl
         exact hj (nodup_ix hN e1 (I.ok.inj _ _ _ e hc▸hi))
   · by_cases hcc:c'=c
     · subst hcc;exact⟨_,hc'⟩
     · obtain⟨w2,z2⟩:=I.cell y c' e
       exact⟨w2,z2.sameBut hs hcc⟩
   · obtain⟨e,n,ne,nf,d⟩:=I.pin p hp
     refine⟨(hs.2 p.1 ?_).trans e,n,ne,nf,d⟩
     intro q
     rw[q,hoc] at e
     have q':oc=p.2:=Option.some.inj e
     exact d w' (by rw[← q'];exact hocd)
theorem store_ok {M:Model}{A:Around}{E:Value→Shared→Prop}{i:Nat}{x:Str}{v:V}{u:Value}{Q:Unit→Shared→Prop}(I:Inv X pins σ H s) (hN:X.N.Nodup) (hi:X.N[i]?=some x) (hx:Loc X.env.scope x) (r:RelV v u)
   (h:∀s',Inv X pins (σ.set i (some v)) H s'→Q () s') (hf:X.fn x=true∨X.env.scope.names.lookup x=some .local:=by first | exact .inl rfl | exact .inr rfl | assumption):wpAny M A (storeName X.env x u) Q E s:=
 store_ok2 I hN hi hx r (fun s' I' _=>h s' I') hf
theorem Inv.call' {s':Shared}{ch:List Addr}(I:Inv X pins σ H s) (ho:s'.os=s.os) (u:Un (frs X.stack) ch H H' s.heap s'.heap) (hok:HOk X.prog X.w H' s'.heap) (hg:AllBare s'.gens)
   (hch:∀b∈ch,(b∈X.ex∨X.s₀.heap.objs.size≤b)∧b≠X.env.locals∧(∀x c,X.env.cells.lookup x=some c→c≠b)∧∀p∈X.pn++pins,p.1≠b):Inv X pins σ H' s':=by
 obtain⟨h',g',d',t',o'⟩:=s'
 have e:o'=s.os:=ho
 subst e
 exact I.call (g':=g') (t':=t') (d':=d') u hok hg hch
end
abbrev XK:=Value→Option Addr→Hp→Prop
abbrev St:=List (Option V)
abbrev VK:=V→Hp→Prop
abbrev TE:=St→Hp→VK→Prop
abbrev TT:=St→Hp→(Bool→Hp→Prop)→Prop
abbrev TA:=St→Hp→(List V→Hp→Prop)→Prop
structure Ends where
 nx:St→Hp→Prop
 rt:VK
 bk:St→Hp→Prop:=fun _ _=>False
 ct:St→Hp→Prop:=fun _ _=>False
abbrev TS:=Ends→St→Hp→Prop
def EP (X:Cx) (pins:List (Addr×Obj)) (σ:St) (Q:VK) (u:Value) (s':Shared):Prop:=∃v H',Inv X pins σ H' s'∧RelV v u∧Q v H'
def TP (X:Cx) (pins:List (Addr×Obj)) (σ:St) (Q:Bool→Hp→Prop) (b:Bool) (s':Shared):Prop:=∃H',Inv X pins σ H' s'∧Q b H'
def AP (X:Cx) (pins:List (Addr×Obj)) (σ:St) (Q:List V→Hp→Prop) (us:List Value) (s':Shared):Prop:=∃vs H',Inv X pins σ H' s'∧Vals vs us∧Q vs H'
def SP (X:Cx) (pins:List (Addr×Obj)) (D:Ends) (f:Flow) (s':Shared):Prop:=
 match f with
 | .next=>∃σ' H',Inv X pins σ' H' s'∧D.nx σ' H'
 | .brk=>∃σ' H',Inv X pins σ' H' s'∧D.bk σ' H'
 | .cont=>∃σ' H',Inv X pins σ' H' s'∧D.ct σ' H'
 | .ret u=>∃v σ' H',Inv X pins σ' H' s'∧RelV v u∧D.rt v H'
def PE (X:Cx) (e:Expr) (t:TE):Prop:=
 ∀(pins:List (Addr×Obj)) (s:Shared) (σ:St) (H:Hp) (Q:VK),Inv X pins σ H s→t σ H Q→wpAny (model X.prog X.w) X.A (eval e X.env) (EP X pins σ Q) X.xe s
def PT (X:Cx) (e:Expr) (t:TT):Prop:=
 ∀(pins:List (Addr×Obj)) (s:Shared) (σ:St) (H:Hp) (Q:Bool→Hp→Prop),Inv X pins σ H s→t σ H Q→wpAny (model X.prog X.w) X.A (isTrue e X.env (eval e X.env)) (TP X pins σ Q) X.xe s
def PW (X:Cx) (e:Expr) (t:TT):Prop:=
 ∀(whole:Sem Value) (pins:List (Addr×Obj)) (s:Shared) (σ:St) (H:Hp) (Q:Bool→Hp→Prop),Inv X pins σ H s→t σ H Q→wpAny (model X.prog X.w) X.A (isTrue e X.env whole) (TP X pins σ Q) X.xe s
theorem PW.pt {X:Cx}{e:Expr}{t:TT}(h:PW X e t):PT X e t:=h _
def PA (X:Cx) (es:List Expr) (t:TA):Prop:=
 ∀(pos:Pos) (pins:List (Addr×Obj)) (s:Shared) (σ:St) (H:Hp) (Q:List V→Hp→Prop),Inv X pins σ H s→t σ H Q→wpAny (model X.prog X.w) X.A (spliced (backTo pos (starEach es X.env))) (AP X pins σ Q) X.xe s
def PS (X:Cx) (st:Stmt) (t:TS):Prop:=
 ∀(pins:List (Addr×Obj)) (s:Shared) (σ:St) (H:Hp) (D:Ends),Inv X pins σ H s→t D σ H→wpAny (model X.prog X.w) X.A (exec st X.env) (SP X pins D) X.xe s
def PSs (X:Cx) (st:List Stmt) (t:TS):Prop:=
 ∀(pins:List (Addr×Obj)) (s:Shared) (σ:St) (H:Hp) (D:Ends),Inv X pins σ H s→t D σ H→wpAny (model X.prog X.w) X.A (execs st X.env) (SP X pins D) X.xe s
theorem thn {α:Type}{t:Sem α}{Q Q':α→Shared→Prop}{M:Model}{A:Around}{E:Value→Shared→Prop}{s:Shared}(h:wpAny M A t Q E s) (hQ:∀a s,Q a s→Q' a s):wpAny M A t Q' E s:=wpAny_mono h hQ fun _ _ x=>x
end L2
namespace L2
open PySem PySem.Spec PyProof.Rows
section
variable {X:Cx}
def tVar (i:Nat):TE:=fun σ H Q=>∃v,σ[i]?=some (some v)∧Q v H
def tC (v:V):TE:=fun _ H Q=>Q v H
theorem pe_var {i:Nat}{x:Str}{pos:Pos}(hN:X.N[i]?=some x) (hv:Vis X.env.scope x) (hd:(x==("__debug__":Str))=false:=by decide) (hcd:(x==("__classdict__":Str))=false:=by decide):PE X (.Name x pos) (tVar i):=by
 intro pins s σ H Q I h
 obtain⟨v,e,h⟩:=h
 obtain⟨m,hn,hl⟩:=I.loc
 obtain⟨u,r,l⟩:=hl i x v hN e hv
 have fin:EP X pins σ Q u s:=⟨v,H,I,r,h⟩
 rcases l with ⟨hk,hm⟩ | ⟨hk,c,hc,hcell⟩
 · exact wpAny_Name (wpAny_loadName_local I.ok.kind hk hn hm fin) hd
 · rcases hk with hk | hk
   · exact wpAny_Name (wpAny_loadName_cell I.ok.kind hk hc hcell fin) hd
   · exact wpAny_Name (wpAny_loadName_free I.ok.kind hk hc hcell fin hcd) hd
theorem pe_int {i j pos}:PE X (.Constant (.int i) j pos) (tC (.int i)):=fun _ _ _ H _ I h=>wpAny_Constant_int ⟨.int i,H,I.tok _,⟨_,rfl⟩,h⟩
theorem pe_bl {b j pos}:PE X (.Constant (.bool b) j pos) (tC (.bl b)):=fun _ _ _ H _ I h=>Constant_bool ⟨.bl b,H,I,rfl,h⟩
theorem pe_non {j pos}:PE X (.Constant .none j pos) (tC .non):=fun _ _ _ H _ I h=>Constant_none ⟨.non,H,I,rfl,h⟩
theorem pe_str {x j pos}:PE X (.Constant (.str x) j pos) (tC (.str x)):=fun _ _ _ H _ I h=>Calls.Constant_str ⟨.str x,H,I.tok _,⟨_,rfl⟩,h⟩
def Gl (X:Cx) (x:Str):Prop:=X.env.kindOf x=some .globalImplicit
theorem ld_glob {E:Value→Shared→Prop}{pins:List (Addr×Obj)}{s:Shared}{σ:St}{H:Hp}{x:Str}{u:Value}{pos:Pos}{Q:Value→Shared→Prop}(I:Inv X pins σ H s) (hg:Gl X x) (hm:X.mg x=some u) (h:Q u s)
   (hd:(x==("__debug__":Str))=false:=by decide):wpAny (model X.prog X.w) X.A (eval (.Name x pos) X.env) Q E s:=
 Calls.Name_function_global I.ok.kind hg (Calls.loadGlobal_global (by rw[I.ok.glob];exact I.mod.glob.keeps I.bk) hm h) hd
theorem ld_blt {E:Value→Shared→Prop}{pins:List (Addr×Obj)}{s:Shared}{σ:St}{H:Hp}{x:Str}{u:Value}{pos:Pos}{Q:Value→Shared→Prop}(I:Inv X pins σ H s) (hg:Gl X x) (hm:X.mg x=none) (hv:bootBuiltins x=some u) (h:Q u s)
   (hn:x ≠ "__name__" := by decide) (hd:(x==("__debug__":Str))=false:=by decide):wpAny (model X.prog X.w) X.A (eval (.Name x pos) X.env) Q E s:=by
 obtain⟨mb,h1,h2⟩:=I.mod.blt
 exact Calls.Name_function_global I.ok.kind hg (Calls.loadGlobal_builtin (by rw[I.ok.glob];exact I.mod.glob.keeps I.bk) hm (by rw[I.ok.blt];exact h1.keeps I.bk) ((h2 x hn).trans hv) h) hd
theorem pe_glob {x:Str}{v:V}{u:Value}{pos:Pos}(hg:Gl X x) (hm:X.mg x=some u) (r:RelV v u) (hd:(x==("__debug__":Str))=false:=by decide):PE X (.Name x pos) (tC v):=
 fun _ _ _ H _ I h=>ld_glob I hg hm ⟨v,H,I,r,h⟩ hd
theorem pe_bltn {x:Str}{v:V}{u:Value}{pos:Pos}(hg:Gl X x) (hm:X.mg x=none) (hv:bootBuiltins x=some u) (r:RelV v u) (hn:x ≠ "__name__" := by decide) (hd:(x==("__debug__":Str))=false:=by decide):PE X (.Name x pos) (tC v):=
 fun _ _ _ H _ I h=>ld_blt I hg hm hv ⟨v,H,I,r,h⟩ hn hd
variable {a b:Expr}{ta tb:TE}{pos:Pos}
def PC (X:Cx) (op:CmpOp) (a b:Expr) (t:TE):Prop:=
 ∀(pins:List (Addr×Obj)) (s:Shared) (σ:St) (H:Hp) (Q:VK),Inv X pins σ H s→t σ H Q →
   wpAny (model X.prog X.w) X.A (eval a X.env) (fun v s₁=>wpAny (model X.prog X.w) X.A (eval b X.env) (fun u s₂=>wpAny (model X.prog X.w) X.A (compareOp op v u) (EP X pins σ Q) X.xe s₂) X.xe s₁) X.xe s
def tB (t:TE):TT:=fun σ H Q=>t σ H fun x H1=>∃c,x = .bl c∧Q c H1
theorem pt_cmp {op:CmpOp}{t:TE}(h:PC X op a b t) (h1:behindInMarks op b=false:=by first | exact nobehind _ (by decide) (by decide) | rfl):PT X (.Compare a [op] [b] pos) (tB t):=by
 intro pins s σ H Q I hw
 refine wpAny_isTrue_Compare1 (thn (h pins s σ H _ I hw) fun v s1 h1=>thn h1 fun u s2 h2=>thn h2 fun c s3 ⟨x,H1,I1,r1,q1⟩=>?_) h1
 obtain⟨d,rfl,q⟩:=q1
 cases r1
 exact wpAny_truthy_bool ⟨H1,I1,q⟩
theorem pt_val {e:Expr}{t:TE}(h:PE X e t) (he:∀whole,isTrue e X.env whole=(do let v ← whole;standAt e.pos;holding [v] (truthy v)):=by intro _;rfl):PT X e (tB t):=by
 intro pins s σ H Q I hw
 refine isTrue_plain (thn (h pins s σ H _ I hw) fun v s1 ⟨x,H1,I1,r1,q1⟩=>?_) (he _)
 obtain⟨d,rfl,q⟩:=q1
 cases r1
 exact wpAny_truthy_bool ⟨H1,I1,q⟩
variable {tA tB':TT}{rest:List Expr}
def tAnd (t u:TT):TT:=fun σ H Q=>t σ H fun c H1=>if c=true then u σ H1 Q else Q false H1
def tOr (t u:TT):TT:=fun σ H Q=>t σ H fun c H1=>if c=true then Q true H1 else u σ H1 Q
def tNot (t:TT):TT:=fun σ H Q=>t σ H fun c H1=>Q (!c) H1
theorem pw_and1 (ha:PT X a tA):PW X (.BoolOp .And [a] pos) tA:=by
 intro wh pins s σ H Q I h
 refine isTrue_and (thn (ha pins s σ H Q I h) fun c s1 e=>?_)
 cases c with
 | true=>exact isTrue_and_nil e
 | false=>exact e
theorem pw_or1 (ha:PT X a tA):PW X (.BoolOp .Or [a] pos) tA:=by
 intro wh pins s σ H Q I h
 refine isTrue_or (thn (ha pins s σ H Q I h) fun c s1 e=>?_)
 cases c with
 | false=>exact isTrue_or_nil e
 | true=>exact e
theorem pw_and (ha:PT X a tA) (hb:PW X (.BoolOp .And (b::rest) pos) tB'):PW X (.BoolOp .And (a::b::rest) pos) (tAnd tA tB'):=by
 intro wh pins s σ H Q I h
 refine isTrue_and (thn (ha pins s σ H _ I h) fun c s1 ⟨H1,I1,q1⟩=>?_)
 cases c with
 | true=>exact hb wh pins s1 σ H1 Q I1 q1
 | false=>exact⟨H1,I1,q1⟩
theorem pw_or (ha:PT X a tA) (hb:PW X (.BoolOp .Or (b::rest) pos) tB'):PW X (.BoolOp .Or (a::b::rest) pos) (tOr tA tB'):=by
 intro wh pins s σ H Q I h
 refine isTrue_or (thn (ha pins s σ H _ I h) fun c s1 ⟨H1,I1,q1⟩=>?_)
 cases c with
 | true=>exact⟨H1,I1,q1⟩
 | false=>exact hb wh pins s1 σ H1 Q I1 q1
theorem pt_not (ha:PT X a tA):PT X (.UnaryOp .Not a pos) (tNot tA):=by
 intro pins s σ H Q I h
 exact isTrue_not (ha pins s σ H (fun c H1=>Q (!c) H1) I h)
def tAndV (ta tb:TE):TE:=fun σ H Q=>ta σ H fun x H1=>∃c,x = .bl c∧if c=true then tb σ H1 Q else Q (.bl false) H1
def tNotV (ta:TE):TE:=fun σ H Q=>ta σ H fun x H1=>∃c,x = .bl c∧Q (.bl (!c)) H1
theorem pe_one {op} {t:TE}(h:PE X a t):PE X (.BoolOp op [a] pos) t:=fun pins s σ H Q I hw=>BoolOp_one (h pins s σ H Q I hw)
theorem pe_and (ha:PE X a ta) (hb:PE X (.BoolOp .And (b::rest) pos) tb):PE X (.BoolOp .And (a::b::rest) pos) (tAndV ta tb):=by
 intro pins s σ H Q I h
 refine BoolOp_and (thn (ha pins s σ H _ I h) fun v s1 ⟨x,H1,I1,r1,q1⟩=>?_)
 obtain⟨c,rfl,q1⟩:=q1
 cases r1
 refine wpAny_truthy_bool ?_
 cases c with
 | true=>exact hb pins s1 σ H1 Q I1 q1
 | false=>exact⟨.bl false,H1,I1,rfl,q1⟩
theorem pe_not (ha:PE X a ta):PE X (.UnaryOp .Not a pos) (tNotV ta):=by
 intro pins s σ H Q I h
 refine UnaryOp_ (thn (ha pins s σ H _ I h) fun v s1 ⟨x,H1,I1,r1,q1⟩=>?_)
 obtain⟨c,rfl,q1⟩:=q1
 cases r1
 exact not_of (wpAny_truthy_bool ⟨.bl (!c),H1,I1,rfl,q1⟩)
def tIf (t:TT) (ta tb:TE):TE:=fun σ H Q=>t σ H fun c H1=>if c=true then ta σ H1 Q else tb σ H1 Q
theorem pe_ifExp {c:Expr}(hc:PT X c tA) (ha:PE X a ta) (hb:PE X b tb):PE X (.IfExp c a b pos) (tIf tA ta tb):=by
 intro pins s σ H Q I h
 refine wpAny_IfExp (thn (hc pins s σ H _ I h) fun d s1 ⟨H1,I1,q1⟩=>?_)
 cases d with
 | true=>exact ha pins s1 σ H1 Q I1 q1
 | false=>exact hb pins s1 σ H1 Q I1 q1
end
end L2
namespace L2
open PySem PySem.Spec PyProof.Rows
def SqL (K:Frg) (H:Hp) (a:Addr) (xs:List V):Prop:=
 Rd H a (.lst xs) ∨
   ∃(o:Obj) (its:Array Value) (n:Nat),K.lookup a=some o∧o.cls = .type "list" ∧ o.dict=none∧o.data = .seq its n∧its.size≤sizeLine∧Vals xs its.toList
def SqT (K:Frg) (H:Hp) (a:Addr) (xs:List V):Prop:=
 Rd H a (.tup xs) ∨
   ∃(o:Obj) (its:Array Value) (n:Nat),K.lookup a=some o∧o.cls = .type "tuple" ∧ o.data = .seq its n∧its.size≤sizeLine∧Vals xs its.toList
def absV:Value→Option V
 | .none=>some .non
 | .bool b=>some (.bl b)
 | .int i _=>some (.int i)
 | .str x _=>some (.str x)
 | .bytes b _=>some (.byt b)
 | .float b _=>some (.flt b)
 | .ref a=>some (.ref a)
 | .type n=>some (.ty n)
 | _=>none
theorem RelV.abs {x:V}{u:Value}(r:RelV x u):absV u=some x:=by
 cases x with
 | non=>cases r;rfl
 | bl _=>cases r;rfl
 | int _=>obtain⟨t,rfl⟩:=r;rfl
 | str _=>obtain⟨t,rfl⟩:=r;rfl
 | byt _=>obtain⟨t,rfl⟩:=r;rfl
 | flt _=>obtain⟨t,rfl⟩:=r;rfl
 | ref _=>cases r;rfl
 | ty _=>cases r;rfl
theorem RelV.inj {x y:V}{u:Value}(r:RelV x u) (q:RelV y u):x=y:=Option.some.inj (r.abs.symm.trans q.abs)
theorem Vals.inj:∀{xs ys:List V}{us:List Value},Vals xs us→Vals ys us→xs=ys
 | _,_,_,.nil,.nil=>rfl
 | _,_,_,.cons r t,.cons r' t'=>by rw[r.inj r',Vals.inj t t']
section
variable {X:Cx}{pins:List (Addr×Obj)}{σ:St}{H:Hp}{s:Shared}{a:Addr}{xs ys:List V}
theorem SqL.of {K:Frg}(h:H a=some (.lst xs)):SqL K H a xs:=.inl (.inl h)
theorem Inv.list (I:Inv X pins σ H s) (h:SqL X.K H a xs):∃its:List Value,Vals xs its∧PlainL s.heap a its.toArray∧xs.length≤sizeLine:=by
 rcases h with h | ⟨o,its,n,hk,hc,hd,hs,hz,r⟩
 · obtain⟨z,its,n,r,e⟩:=h.ok I.hok
   exact⟨its,r,⟨_,n,e,rfl,rfl,rfl⟩,z⟩
 · refine⟨its.toList,r,⟨o,n,I.kIn a o hk,hc,hd,by simpa using hs⟩,?_⟩
   have e:=r.length
   simp only[Array.length_toList] at e
   omega
theorem Inv.tuple (I:Inv X pins σ H s) (h:SqT X.K H a xs):∃its:List Value,Vals xs its∧IsTup s.heap a its.toArray∧xs.length≤sizeLine:=by
 rcases h with h | ⟨o,its,n,hk,hc,hs,hz,r⟩
 · obtain⟨z,its,r,p⟩:=h.ok I.hok
   exact⟨its,r,p,z⟩
 · refine⟨its.toList,r,⟨o,I.kIn a o hk,hc,n,by simpa using hs⟩,?_⟩
   have e:=r.length
   simp only[Array.length_toList] at e
   omega
theorem Inv.list_inj (I:Inv X pins σ H s) (h:SqL X.K H a xs) (h':SqL X.K H a ys):xs=ys:=by
 obtain⟨its,r,⟨o,n,e,_,_,d⟩,_⟩:=I.list h
 obtain⟨its',r',⟨o',n',e',_,_,d'⟩,_⟩:=I.list h'
 rw[e] at e';cases e'
 rw[d] at d'
 injection d' with d1 _
 have:its=its':=by simpa using congrArg Array.toList d1
 subst this
 exact r.inj r'
theorem Inv.tuple_inj (I:Inv X pins σ H s) (h:SqT X.K H a xs) (h':SqT X.K H a ys):xs=ys:=by
 obtain⟨its,r,⟨o,e,_,n,d⟩,_⟩:=I.tuple h
 obtain⟨its',r',⟨o',e',_,n',d'⟩,_⟩:=I.tuple h'
 rw[e] at e';cases e'
 rw[d] at d'
 injection d' with d1 _
 have:its=its':=by simpa using congrArg Array.toList d1
 subst this
 exact r.inj r'
end
abbrev Cx.wish (X:Cx) (E:Value→Shared→Prop):Cx:={ X with xe:=E }
abbrev Cx.nox (X:Cx):Cx:=X.wish fun _ _=>False
theorem Cx.Ok.wish {X:Cx}(ok:X.Ok) (E:Value→Shared→Prop):(X.wish E).Ok:=
 ⟨ok.mod,ok.kind,ok.glob,ok.blt,ok.above,ok.inj,ok.has,ok.cab,ok.hd,ok.frames,ok.stk,ok.exf,ok.bs,ok.bsz,ok.noex,ok.exfs,ok.funs,ok.frf⟩
theorem Cx.Ok.unwish {X:Cx}{E:Value→Shared→Prop}(ok:(X.wish E).Ok):X.Ok:=
 ⟨ok.mod,ok.kind,ok.glob,ok.blt,ok.above,ok.inj,ok.has,ok.cab,ok.hd,ok.frames,ok.stk,ok.exf,ok.bs,ok.bsz,ok.noex,ok.exfs,ok.funs,ok.frf⟩
section
variable {X:Cx}{pins:List (Addr×Obj)}{σ:St}{H:Hp}{s:Shared}{E:Value→Shared→Prop}
theorem Inv.wish (I:Inv X pins σ H s) (E:Value→Shared→Prop):Inv (X.wish E) pins σ H s:=⟨I.ok.wish E,I.os,I.bare,I.base,I.loc,I.cell,I.free,I.freeC,I.pin,I.hok,I.len⟩
theorem Inv.unwish (I:Inv (X.wish E) pins σ H s):Inv X pins σ H s:=⟨I.ok.unwish,I.os,I.bare,I.base,I.loc,I.cell,I.free,I.freeC,I.pin,I.hok,I.len⟩
theorem SP.unwish {D:Ends}{f:Flow}{s':Shared}(h:SP (X.wish E) pins D f s'):SP X pins D f s':=by
 cases f with
 | next=>obtain⟨σ',H',I,q⟩:=h;exact⟨σ',H',I.unwish,q⟩
 | brk=>obtain⟨σ',H',I,q⟩:=h;exact⟨σ',H',I.unwish,q⟩
 | cont=>obtain⟨σ',H',I,q⟩:=h;exact⟨σ',H',I.unwish,q⟩
 | ret u=>obtain⟨v,σ',H',I,r,q⟩:=h;exact⟨v,σ',H',I.unwish,r,q⟩
theorem PSs.nox {st:List Stmt}{t:TS}(h:PSs X.nox st t):PSs X st t:=fun pins s σ H D I hw=>
 wpAny_mono (h pins s σ H D (I.wish _) hw) (fun _ _ q=>q.unwish) fun _ _ z=>False.elim z
end
section
variable {X:Cx}{st:Stmt}{rest:List Stmt}{t u:TS}{e:Expr}{te:TE}{pos:Pos}
def tNext:TS:=fun D σ H=>D.nx σ H
def tSeq (t u:TS):TS:=fun D σ H=>t { D with nx:=u D } σ H
theorem pss_nil:PSs X [] tNext:=fun _ _ σ H _ I h=>wpAny_execs_nil ⟨σ,H,I,h⟩
theorem pss_cons (h1:PS X st t) (h2:PSs X rest u):PSs X (st::rest) (tSeq t u):=by
 intro pins s σ H D I h
 refine wpAny_execs_cons (thn (h1 pins s σ H { D with nx:=u D } I h) fun f s1 q=>?_)
 cases f with
 | next=>
   obtain⟨σ',H',I',q⟩:=q
   exact h2 pins s1 σ' H' D I' q
 | ret v=>exact q
 | brk=>exact q
 | cont=>exact q
theorem pss_one (h1:PS X st t):PSs X [st] t:=by
 intro pins s σ H D I h
 refine wpAny_execs_cons (thn (h1 pins s σ H D I h) fun f s1 q=>?_)
 cases f with
 | next=>exact wpAny_execs_nil q
 | ret v=>exact q
 | brk=>exact q
 | cont=>exact q
theorem Inv.quiet {pins:List (Addr×Obj)}{σ:St}{H:Hp}{s:Shared}(I:Inv X pins σ H s):interactive X.env=false:=by simp[interactive,I.ok.kind]
def tDrop (te:TE):TS:=fun D σ H=>te σ H fun _ H1=>D.nx σ H1
theorem ps_expr (he:PE X e te) (hs:swapsWith e none pos.line X.env=pure false:=by rfl):PS X (.Expr e pos) (tDrop te):=by
 intro pins s σ H D I h
 exact wpAny_Expr_any (thn (he pins s σ H _ I h) fun v s1 ⟨x,H1,I1,r1,q1⟩=>⟨σ,H1,I1,q1⟩) I.quiet hs
def tRet (te:TE):TS:=fun D σ H=>te σ H D.rt
theorem ps_ret (he:PE X e te):PS X (.Return (some e) pos) (tRet te):=by
 intro pins s σ H D I h
 exact wpAny_Return_some (thn (he pins s σ H _ I h) fun v s1 ⟨x,H1,I1,r1,q1⟩=>⟨x,σ,H1,I1,r1,q1⟩)
def tIfS (c:TT) (t u:TS):TS:=fun D σ H=>c σ H fun b H1=>if b=true then t D σ H1 else u D σ H1
theorem ps_if {c:Expr}{a b:List Stmt}{tc:TT}(hc:PT X c tc) (ha:PSs X a t) (hb:PSs X b u):PS X (.If c a b pos) (tIfS tc t u):=by
 intro pins s σ H D I h
 refine wpAny_If (thn (hc pins s σ H _ I h) fun d s1 ⟨H1,I1,q1⟩=>?_)
 cases d with
 | true=>exact ha pins s1 σ H1 D I1 q1
 | false=>exact hb pins s1 σ H1 D I1 q1
def tNever:TS:=fun _ _ _=>False
theorem ps_never:PS X st tNever:=fun _ _ _ _ _ _ h=>h.elim
end
abbrev TG:=V→St→Hp→(St→Hp→Prop)→Prop
abbrev TGs:=List V→St→Hp→(St→Hp→Prop)→Prop
def PG (X:Cx) (target:Expr) (t:TG):Prop:=
 ∀(pins:List (Addr×Obj)) (s:Shared) (σ:St) (H:Hp) (v:V) (u:Value) (Q:St→Hp→Prop),Inv X pins σ H s→RelV v u→t v σ H Q →
   wpAny (model X.prog X.w) X.A (assign target X.env u) (fun _ s'=>∃σ' H',Inv X pins σ' H' s'∧Q σ' H') X.xe s
def PGs (X:Cx) (ts:List Expr) (t:TGs):Prop:=
 ∀(pins:List (Addr×Obj)) (s:Shared) (σ:St) (H:Hp) (vs:List V) (us:List Value) (Q:St→Hp→Prop),Inv X pins σ H s→Vals vs us→t vs σ H Q →
   wpAny (model X.prog X.w) X.A (assignInOrder ((assignEach ts X.env).map (·.2)) us) (fun _ s'=>∃σ' H',Inv X pins σ' H' s'∧Q σ' H') X.xe s
abbrev TSet:=V→V→V→Hp→(Hp→Prop)→Prop
def PSet (X:Cx) (t:TSet):Prop:=
 ∀(pins:List (Addr×Obj)) (s:Shared) (σ:St) (H:Hp) (o i v:V) (ov iv u:Value) (Q:Hp→Prop),Inv X pins σ H s→RelV o ov→RelV i iv→RelV v u→t o i v H Q →
   wpAny (model X.prog X.w) X.A (setItem ov iv u) (fun _ s'=>∃H',Inv X pins σ H' s'∧Q H') X.xe s
section
variable {X:Cx}{pos:Pos}
def gName (i:Nat):TG:=fun v σ H Q=>Q (σ.set i (some v)) H
theorem pg_name {i:Nat}{x:Str}(hN:X.N.Nodup) (hi:X.N[i]?=some x) (hx:Loc X.env.scope x) (hf:X.fn x=true∨X.env.scope.names.lookup x=some .local:=by first | exact .inl rfl | exact .inr rfl | assumption):PG X (.Name x pos) (gName i):=by
 intro pins s σ H v u Q I r h
 exact wpAny_assign_Name (store_ok I hN hi hx r (fun s' I'=>⟨_,H,I',h⟩) hf)
def gNil:TGs:=fun vs σ H Q=>vs=[]∧Q σ H
def gCons (t:TG) (u:TGs):TGs:=fun vs σ H Q=>∃v r,vs=v::r∧t v σ H fun σ' H'=>u r σ' H' Q
theorem pgs_nil:PGs X [] gNil:=by
 intro pins s σ H vs us Q I r h
 obtain⟨e,h⟩:=h
 subst e
 cases r
 exact assignInOrder_nil ⟨σ,H,I,h⟩
theorem pgs_cons {e:Expr}{es:List Expr}{t:TG}{u:TGs}(h1:PG X e t) (h2:PGs X es u)
   (hs:(assignEach (e::es) X.env).map (·.2)=assign e X.env::(assignEach es X.env).map (·.2):=by rfl):PGs X (e::es) (gCons t u):=by
 intro pins s σ H vs us Q I r h
 obtain⟨v,vr,e1,h⟩:=h
 subst e1
 cases r with
 | cons r rr=>
   rw[hs]
   refine assignInOrder_cons (thn (h1 pins s σ H _ _ _ I r h) fun _ s1 ⟨σ1,H1,I1,q1⟩=>?_)
   exact h2 pins s1 σ1 H1 _ _ Q I1 rr q1
def gTup (K:Frg) (n:Nat) (t:TGs):TG:=fun v σ H Q=>∃a xs,v = .ref a∧SqT K H a xs∧xs.length=n∧t xs σ H Q
theorem pg_tup {es:List Expr}{k:Nat}{t:TGs}{n:Nat}(hc:X.calm=true) (h:PGs X es t)
   (hn:(assignEach es X.env).length=n:=by rfl) (hst:(assignEach es X.env).findIdx? (·.1)=none:=by rfl):PG X (.Tuple es k pos) (gTup X.K n t):=by
 intro pins s σ H v u Q I r hw
 obtain⟨a,xs,e1,hq,hl,hw⟩:=hw
 subst e1
 cases r
 obtain⟨its,rv,ht,hz⟩:=I.tuple hq
 refine assign_Tuple_tuple (I.ok.hd hc) ht (by simp[hn,← hl,rv.length]) hst fun h' hx=>?_
 have I1:Inv X pins σ H { s with heap:=h' }:=I.kept (t':=s.toks) fun b o e=>hx b o (zC (zM e)) e
 exact h pins _ σ H xs _ Q I1 (by simpa using rv) hw
def gSub (to ti:TE) (t:TSet):TG:=fun v σ H Q=>to σ H fun o H1=>ti σ H1 fun i H2=>t o i v H2 fun H3=>Q σ H3
theorem pg_sub {o i:Expr}{to ti:TE}{t:TSet}(ho:PE X o to) (hi:PE X i ti) (hs:PSet X t)
   (ha:∀v,assign (.Subscript o i pos) X.env v=(do
     let ov ← holding [v] (eval o X.env)
     let iv ← holding [v,ov] (eval i X.env)
     standAt pos
     holding [v,ov,iv] (setItem ov iv v)
     release [v,ov,iv] []):=by intro _;rfl):PG X (.Subscript o i pos) (gSub to ti t):=by
 intro pins s σ H v u Q I r h
 rw[ha]
 refine zZ (wpAny_holding (thn (ho pins s σ H _ I h) fun ov s1 ⟨x,H1,I1,r1,q1⟩=>?_))
 refine zZ (wpAny_holding (thn (hi pins s1 σ H1 _ I1 q1) fun iv s2 ⟨y,H2,I2,r2,q2⟩=>?_))
 refine zZ (wpAny_standAt (zZ (wpAny_holding (thn (hs pins s2 σ H2 x y v ov iv u _ I2 r1 r2 r q2) fun _ s3 ⟨H3,I3,q3⟩=>?_))))
 exact wpAny_release ⟨σ,H3,I3,q3⟩
def tAsg (te:TE) (g:TG):TS:=fun D σ H=>te σ H fun x H1=>g x σ H1 D.nx
theorem ps_asg {tg e:Expr}{te:TE}{g:TG}(he:PE X e te) (hg:PG X tg g) (hs:swapsWithSole [tg] e pos.line X.env=pure false:=by rfl) (hw:swappedStores [tg] e X.env=pure none:=by rfl)
   (h1:(assignEach [tg] X.env).map (·.2)=[assign tg X.env]:=by rfl):PS X (.Assign [tg] e pos) (tAsg te g):=by
 intro pins s σ H D I h
 refine wpAny_Assign_stores (thn (he pins s σ H _ I h) fun v s1 ⟨x,H1,I1,r1,q1⟩=>?_) hs hw
 rw[h1]
 exact thn (hg pins s1 σ H1 x v _ I1 r1 q1) fun _ s2 q=>q
theorem ps_set {i:Nat}{x:Str}{e:Expr}{te:TE}{pos':Pos}(hN:X.N.Nodup) (hi:X.N[i]?=some x) (hx:Loc X.env.scope x) (he:PE X e te) (hs:swapsWith e (some (.Name x pos')) pos.line X.env=pure false:=by rfl) (hf:X.fn x=true∨X.env.scope.names.lookup x=some .local:=by first | exact .inl rfl | exact .inr rfl | assumption) :
   PS X (.Assign [.Name x pos'] e pos) (tAsg te (gName i)):=by
 intro pins s σ H D I h
 refine wpAny_Assign_Name (thn (he pins s σ H _ I h) fun v s1 ⟨y,H1,I1,r1,q1⟩=>?_) hs
 exact store_ok I1 hN hi hx r1 (fun s2 I2=>⟨_,H1,I2,q1⟩) hf
end
structure It where
 go:Nat→Hp→Prop
 yld:Nat→Hp→V→Hp→Prop
 stop:Nat→Hp→Prop
def FpOk (X:Cx) (pins:List (Addr×Obj)) (H:Hp) (b:Addr):Prop:=
 H b=none∧b≠X.env.locals∧b∉X.fs∧(b∈X.ex∨X.s₀.heap.objs.size≤b)∧(∀x c,X.env.cells.lookup x=some c→c≠b)∧∀p∈X.pn++pins,p.1≠b
theorem Inv.fpOk {X:Cx}{pins:List (Addr×Obj)}{σ:St}{H H':Hp}{s:Shared}{b:Addr}(I:Inv X pins σ H s) (hb:s.heap.objs.size≤b) (hn:H' b=none):FpOk X pins H' b:=by
 refine⟨hn,Nat.ne_of_gt (zP I.lt hb),I.nofs hb,.inr (zN I.sz hb),fun x c e z=>?_,fun p hp z=>?_⟩
 · obtain⟨v,q⟩:=I.cell x c e
   exact absurd (zP q.lt (by rw[z];exact hb)) (yF _)
 · exact absurd (zP (zM (I.pin p hp).1) (by rw[z];exact hb)) (yF _)
structure Turn (P:Program) (w:World) (K:Frg) (tg:Expr) (J:It) (fp:List Addr) (it:Addr) (tn:Nat→Heap→Prop):Prop where
 mem:it∈fp
 obj:∀i h,tn i h→∀b∈fp,∃o,h.get? b=some o∧∀v,o.data≠.cell v
 keep:∀i h h',tn i h→(∀b∈fp,∀o,h.get? b=some o→h'.get? b=some o)→tn i h'
 item:∀(X:Cx),X.prog=P→X.w=w→X.K=K→X.calm=true→∀(i:Nat) (pins:List (Addr×Obj)) (s:Shared) (σ:St) (H:Hp) (E:Value→Shared→Prop),Inv X pins σ H s→(∀b∈fp,FpOk X pins H b)→tn i s.heap→J.go i H →
   wpAny (model P w) X.A (pyNext (.ref it)) (fun r s1=>∃u,r=some u ∧
     wpAny (model P w) X.A (letOwnedTupleGo tg (.ref it) u) (fun _ s2=>∃x H',Inv X pins σ H' s2∧RelV x u∧J.yld i H x H'∧tn (i+1) s2.heap∧∀b∈fp,H' b=none) E s1) E s
 done:∀(X:Cx),X.prog=P→X.w=w→X.K=K→X.calm=true→∀(i:Nat) (pins:List (Addr×Obj)) (s:Shared) (σ:St) (H:Hp) (E:Value→Shared→Prop),Inv X pins σ H s→(∀b∈fp,FpOk X pins H b)→tn i s.heap→J.stop i H →
   wpAny (model P w) X.A (pyNext (.ref it)) (fun r s1=>r=none∧Inv X pins σ H s1) E s
 self:∀(A:Around) (i:Nat) (s:Shared) (Q:Value→Shared→Prop) (E:Value→Shared→Prop),tn i s.heap→Q (.ref it) s→wpAny (model P w) A (pyIter (.ref it)) Q E s
abbrev TI:=St→Hp→(It→Hp→Prop)→Prop
def PIE (X:Cx) (pins:List (Addr×Obj)) (σ:St) (tg:Expr) (R:It→Hp→Prop) (itv:Value) (s2:Shared):Prop:=
 ∃(it:Addr) (fp:List Addr) (tn:Nat→Heap→Prop) (J:It) (H':Hp),itv = .ref it∧Inv X pins σ H' s2∧Turn X.prog X.w X.K tg J fp it tn∧tn 0 s2.heap∧(∀b∈fp,FpOk X pins H' b)∧R J H'
def PI (X:Cx) (tg iter:Expr) (wi:TI):Prop:=
 ∀(pins:List (Addr×Obj)) (s:Shared) (σ:St) (H:Hp) (R:It→Hp→Prop),Inv X pins σ H s→wi σ H R →
   wpAny (model X.prog X.w) X.A (eval iter X.env) (fun v s1=>wpAny (model X.prog X.w) X.A (pyIter v) (PIE X pins σ tg R) X.xe s1) X.xe s
theorem go_of {M:Model}{A:Around}{E:Value→Shared→Prop}{s:Shared}{tg:Expr}{it:Addr}{u:Value}{o:Obj}{n:String}{vs:Array Value}{Q:Unit→Shared→Prop}(ho:s.heap.get? it=some o) (hc:o.cls = .type n) (hd:o.data = .fields vs)
   (hn:["enumerate", "zip", "dict_itemiterator", "dict_reverseitemiterator", "odict_iterator", "itertools.zip_longest", "itertools.pairwise"].contains n=false) (hQ:Q () s):wpAny M A (letOwnedTupleGo tg (.ref it) u) Q E s:=by
 unfold letOwnedTupleGo
 cases tg <;> first
   | exact zY hQ
   | (cases u <;> first
       | exact zY hQ
       | (refine zZ (wpAny_load ho ?_)
          rw[hc,hd]
          show wpAny M A (if (["enumerate", "zip", "dict_itemiterator", "dict_reverseitemiterator", "odict_iterator", "itertools.zip_longest", "itertools.pairwise"].contains n&&vs[0]?==some (rawInt _))=true then _ else _) Q E s
          rw[if_neg (by intro h;rw[hn,Bool.false_and] at h;cases h)]
          exact zY hQ))
def Itl (K:Frg) (a:Addr):It:=
 ⟨fun i H=>∃xs x,SqL K H a xs∧xs[i]?=some x,fun i H x H'=>H'=H∧∀xs,SqL K H a xs→xs[i]?=some x,fun i H=>∃xs,SqL K H a xs∧xs.length≤i⟩
def Itt (K:Frg) (a:Addr):It:=
 ⟨fun i H=>∃xs x,SqT K H a xs∧xs[i]?=some x,fun i H x H'=>H'=H∧∀xs,SqT K H a xs→xs[i]?=some x,fun i H=>∃xs,SqT K H a xs∧xs.length≤i⟩
def Itr (lo:Int) (n:Nat):It:=⟨fun i _=>i < n,fun i H x H'=>H'=H∧x = .int (lo+i),fun i _=>n≤i⟩
theorem turn_list {P:Program}{w:World}{K:Frg}{tg:Expr}(a it:Addr):Turn P w K tg (Itl K a) [it] it (fun i h=>h.IsListIter it a i) where
 mem:=by simp
 obj:=fun i h st b hb=>by
   have e:b=it:=by simpa using hb
   subst e
   obtain⟨o,e,c,d⟩:=st
   exact⟨o,e,fun v z=>by rw[d] at z;cases z⟩
 keep:=fun i h h' st k=>st.at fun o e=>k it (by simp) o e
 item:=by
   intro X hP hw hK hc i pins s σ H E I hf st hg
   subst hP hw hK
   obtain⟨xs,x,hq,hx⟩:=hg
   obtain⟨its,rv,p,hz⟩:=I.list hq
   obtain⟨u,hu,ru⟩:=rv.get hx
   obtain⟨f0,f1,f2,f3,f4,f5⟩:=hf it (by simp)
   refine wpAny_pyNext_list_item st p.isList (x:=u) (by simpa using hu) fun h' st' sb=>?_
   have I1:Inv X pins σ H { s with heap:=h' }:=I.turned (t':=s.toks) (fun b o hb e=>(sb.2 b hb).trans e) f0 f1 f3 f4 f5
   obtain⟨o,e,c,d⟩:=id st'
   exact⟨u,rfl,go_of (s:={ s with heap:=h' }) e c d (by decide) ⟨x,H,I1,ru,⟨rfl,fun ys hy=>by rw[I.list_inj hy hq];exact hx⟩,st',fun b hb=>(hf b hb).1⟩⟩
 done:=by
   intro X hP hw hK hc i pins s σ H E I hf st hg
   subst hP hw hK
   obtain⟨xs,hq,hx⟩:=hg
   obtain⟨its,rv,p,hz⟩:=I.list hq
   obtain⟨f0,f1,f2,f3,f4,f5⟩:=hf it (by simp)
   have hl:=rv.length
   exact wpAny_pyNext_list_end (I.ok.hd hc) st p.isList (by simp;omega) fun h' eb=>⟨rfl,I.turned (t':=s.toks) (fun b o hb e=>eb b o hb e) f0 f1 f3 f4 f5⟩
 self:=fun _ _ _ _ _ st h=>wpAny_pyIter_listiter st h
theorem turn_tuple {P:Program}{w:World}{K:Frg}{tg:Expr}(a it:Addr):Turn P w K tg (Itt K a) [it] it (fun i h=>h.IsTupleIter it a i) where
 mem:=by simp
 obj:=fun i h st b hb=>by
   have e:b=it:=by simpa using hb
   subst e
   obtain⟨o,e,c,d⟩:=st
   exact⟨o,e,fun v z=>by rw[d] at z;cases z⟩
 keep:=fun i h h' st k=>st.at fun o e=>k it (by simp) o e
 item:=by
   intro X hP hw hK hc i pins s σ H E I hf st hg
   subst hP hw hK
   obtain⟨xs,x,hq,hx⟩:=hg
   obtain⟨its,rv,p,hz⟩:=I.tuple hq
   obtain⟨u,hu,ru⟩:=rv.get hx
   obtain⟨f0,f1,f2,f3,f4,f5⟩:=hf it (by simp)
   refine wpAny_pyNext_tuple_item st (show s.heap.IsTuple a its.toArray from p) (x:=u) (by simpa using hu) fun h' st' sb=>?_
   have I1:Inv X pins σ H { s with heap:=h' }:=I.turned (t':=s.toks) (fun b o hb e=>(sb.2 b hb).trans e) f0 f1 f3 f4 f5
   obtain⟨o,e,c,d⟩:=id st'
   exact⟨u,rfl,go_of (s:={ s with heap:=h' }) e c d (by decide) ⟨x,H,I1,ru,⟨rfl,fun ys hy=>by rw[I.tuple_inj hy hq];exact hx⟩,st',fun b hb=>(hf b hb).1⟩⟩
 done:=by
   intro X hP hw hK hc i pins s σ H E I hf st hg
   subst hP hw hK
   obtain⟨xs,hq,hx⟩:=hg
   obtain⟨its,rv,p,hz⟩:=I.tuple hq
   obtain⟨f0,f1,f2,f3,f4,f5⟩:=hf it (by simp)
   have hl:=rv.length
   exact wpAny_pyNext_tuple_end (I.ok.hd hc) st (show s.heap.IsTuple a its.toArray from p) (by simp;omega) fun h' eb=>⟨rfl,I.turned (t':=s.toks) (fun b o hb e=>eb b o hb e) f0 f1 f3 f4 f5⟩
 self:=fun _ _ _ _ _ st h=>wpAny_pyIter_tupleiter st h
theorem turn_range {P:Program}{w:World}{K:Frg}{tg:Expr}(it:Addr) (lo:Int) (n:Nat):Turn P w K tg (Itr lo n) [it] it (fun i h=>IsRangeIter h it (lo+(i:Nat)*1) ((n:Int) - (i:Nat)) 1) where
 mem:=by simp
 obj:=fun i h st b hb=>by
   have e:b=it:=by simpa using hb
   subst e
   exact⟨_,st,fun v z=>by
     have z':Data.fields _=Data.cell v:=z
     cases z'⟩
 keep:=fun i h h' st k=>k it (by simp) _ st
 item:=by
   intro X hP hw hK hc i pins s σ H E I hf st hg
   subst hP hw hK
   obtain⟨f0,f1,f2,f3,f4,f5⟩:=hf it (by simp)
   have W:=Walks.range (prog:=X.prog) (w:=X.w) (I.ok.hd hc) it lo 1 n
   refine W.item i s _ _ hg st fun v h' tk hv st' kk=>?_
   obtain⟨t,rfl⟩:=hv
   have I1:Inv X pins σ H { s with heap:=h',toks:=tk }:=I.turned (fun b o hb e=>kk b o (by simpa using hb) e) f0 f1 f3 f4 f5
   refine⟨_,rfl,go_of (s:={ s with heap:=h',toks:=tk }) (n:= "range_iterator") st' rfl rfl (by decide) ⟨.int (lo+i),H,I1,⟨t,?_⟩,⟨rfl,rfl⟩,st',fun b hb=>(hf b hb).1⟩⟩
   rw[Int.mul_one]
 done:=by
   intro X hP hw hK hc i pins s σ H E I hf st hg
   subst hP hw hK
   obtain⟨f0,f1,f2,f3,f4,f5⟩:=hf it (by simp)
   exact wpAny_pyNext_range_end (I.ok.hd hc) st (by have:n≤i:=hg;omega) fun h' eb=>⟨rfl,I.turned (t':=s.toks) (fun b o hb e=>eb b o hb e) f0 f1 f3 f4 f5⟩
 self:=fun _ _ _ _ _ st h=>wpAny_pyIter_rangeiter st h
end L2
namespace L2
open PySem PySem.Spec PyProof.Rows
section
variable {X:Cx}{tg:Expr}
theorem range_it {pins:List (Addr×Obj)}{σ:St}{H:Hp}{s:Shared}{R:It→Hp→Prop}{E:Value→Shared→Prop}{lo hi:Int}{t u v:Tok}{tk:Nat}(I:Inv X pins σ H s) (h1 : -(2 ^ 62)≤lo) (h2:lo < 2 ^ 62) (h3 : -(2 ^ 62)≤hi) (h4:hi < 2 ^ 62)
   (q:R (Itr lo (hi - lo).toNat) H):wpAny (model X.prog X.w) X.A (pyIter (.ref s.heap.objs.size)) (PIE X pins σ tg R) E { s with heap:=s.heap.push { cls:=.type "range", data:=.fields #[.int lo t,.int hi u,.int 1 v] },toks:=tk }:=by
 refine wpAny_pyIter_range (IsRange.new ..) (small_one h1 h2 h3 h4) ?_
 have I1:Inv X pins σ H { s with heap:=s.heap.push { cls:=.type "range", data:=.fields #[.int lo t,.int hi u,.int 1 v] },toks:=tk }:=I.kept fun b o e=>zW _ e
 refine⟨(s.heap.push { cls:=.type "range", data:=.fields #[.int lo t,.int hi u,.int 1 v] }).objs.size,[(s.heap.push { cls:=.type "range", data:=.fields #[.int lo t,.int hi u,.int 1 v] }).objs.size],_,_,H,rfl,
   I1.kept (t':=tk) fun b o e=>zW _ e,turn_range _ lo (hi - lo).toNat,?_,fun b hb=>?_,q⟩
 · have e1:lo+((0:Nat):Int)*1=lo:=by simp
   have e2:(((hi - lo).toNat:Nat):Int) - ((0:Nat):Int)=Builtin.Range.rangeSize lo hi 1:=by rw[rangeSize_one];split <;> omega
   show IsRangeIter _ _ (lo+((0:Nat):Int)*1) ((((hi - lo).toNat:Nat):Int) - ((0:Nat):Int)) 1
   rw[e1,e2]
   exact yZ _ rfl
 · have e:b=(s.heap.push { cls:=.type "range", data:=.fields #[.int lo t,.int hi u,.int 1 v] }).objs.size:=by simpa using hb
   subst e
   exact I1.fpOk (zR _) (I1.hok.fresh (zR _))
def iRng1 (ta:TA):TI:=fun σ H R=>ta σ H fun vs H1=>∃j:Int,vs=[.int j]∧-(2 ^ 62)≤j∧j < 2 ^ 62∧R (Itr 0 j.toNat) H1
def iRng2 (ta:TA):TI:=fun σ H R=>ta σ H fun vs H1=>∃i j:Int,vs=[.int i,.int j]∧(-(2 ^ 62)≤i∧i < 2 ^ 62∧-(2 ^ 62)≤j∧j < 2 ^ 62)∧R (Itr i (j - i).toNat) H1
theorem pi_range1 {a:Expr}{ta:TA}{p pos:Pos}(hg:Gl X "range") (hm:X.mg "range"=none) (ha:PA X [a] ta) (hs:starEach [a] X.env=[(false,eval a X.env)]:=by rfl):PI X tg (.Call (.Name "range" p) [a] [] pos) (iRng1 ta):=by
 intro pins s σ H R I h
 refine Call_ (ld_blt I hg hm boot_range (xH (thn (ha pos pins s σ H _ I h) fun us s1 ⟨vs,H1,I1,r1,q1⟩=>?_) hs rfl))
 obtain⟨j,e,q1,q2,q⟩:=q1
 subst e
 cases r1 with
 | cons r rr=>
   cases rr
   obtain⟨t,rfl⟩:=r
   exact call_range_1 (range_it I1 (by omega) (by omega) q1 q2 (by simpa using q))
theorem pi_range2 {a b:Expr}{ta:TA}{p pos:Pos}(hg:Gl X "range") (hm:X.mg "range"=none) (ha:PA X [a,b] ta) (hs:starEach [a,b] X.env=[(false,eval a X.env),(false,eval b X.env)]:=by rfl) (hs2:starEach [b] X.env=[(false,eval b X.env)]:=by rfl) :
   PI X tg (.Call (.Name "range" p) [a,b] [] pos) (iRng2 ta):=by
 intro pins s σ H R I h
 refine Call_ (ld_blt I hg hm boot_range (xH (thn (ha pos pins s σ H _ I h) fun us s1 ⟨vs,H1,I1,r1,q1⟩=>?_) (by rw[hs,hs2]) (by rw[hs2];rfl)))
 obtain⟨i,j,e,⟨q1,q2,q3,q4⟩,q⟩:=q1
 subst e
 cases r1 with
 | cons r rr=>
   cases rr with
   | cons r' rr=>
     cases rr
     obtain⟨t,rfl⟩:=r
     obtain⟨t',rfl⟩:=r'
     exact call_range_2 (range_it I1 q1 q2 q3 q4 q)
def tFor (wi:TI) (g:TG) (tb:TS):TS:=fun D σ H=>wi σ H fun J H1=>∃W:Nat→Nat→St→Hp→Prop,(∃m,W 0 m σ H1)∧∀i m σ H,W i m σ H →
 (J.stop i H∧D.nx σ H)∨(J.go i H∧∃N:St→Hp→Prop,(∀σ' H',N σ' H'→∃m',m' < m∧W (i+1) m' σ' H')∧∀x H',J.yld i H x H'→g x σ H' fun σ2 H2=>tb { D with nx:=N,ct:=N,bk:=D.nx } σ2 H2)
def pinsAt (fp:List Addr) (h:Heap):List (Addr×Obj):=fp.filterMap fun b=>(h.get? b).map fun o=>(b,o)
theorem mem_pinsAt {fp:List Addr}{h:Heap}{b:Addr}{o:Obj}(hb:b∈fp) (e:h.get? b=some o):(b,o)∈pinsAt fp h:=List.mem_filterMap.mpr ⟨b,hb,by rw[e];rfl⟩
theorem of_pinsAt {fp:List Addr}{h:Heap}{p:Addr×Obj}(hp:p∈pinsAt fp h):p.1∈fp∧h.get? p.1=some p.2:=by
 obtain⟨b,hb,e⟩:=List.mem_filterMap.mp hp
 cases q:h.get? b with
 | none=>rw[q] at e;cases e
 | some o=>
   rw[q] at e
   have e':(b,o)=p:=Option.some.inj e
   subst e'
   exact⟨hb,q⟩
theorem Inv.pinned {pins:List (Addr×Obj)}{σ:St}{H:Hp}{s:Shared}{fp:List Addr}(I:Inv X pins σ H s) (hf:∀b∈fp,FpOk X pins H b) (ho:∀b∈fp,∃o,s.heap.get? b=some o∧∀v,o.data≠.cell v):Inv X (pins++pinsAt fp s.heap) σ H s:=
 I.pins_of fun p hp=>(yW.mp hp).elim (fun z=>I.pin p (zB _ z)) fun z=>by
   obtain⟨hb,e⟩:=of_pinsAt z
   obtain⟨f0,f1,f2,_⟩:=hf p.1 hb
   obtain⟨o,e',d⟩:=ho p.1 hb
   rw[e] at e';cases e'
   exact⟨e,f0,f1,f2,d⟩
theorem Inv.unpinned {pins pl:List (Addr×Obj)}{σ:St}{H:Hp}{s:Shared}(I:Inv X (pins++pl) σ H s):Inv X pins σ H s:=I.pins_of fun p hp=>I.pin p (zB _ (zA _ hp))
theorem ps_for {iter:Expr}{body:List Stmt}{wi:TI}{g:TG}{tb:TS}{pos:Pos}(hp:PassesOwn (model X.prog X.w) X.A X.env X.xe) (hc:X.calm=true) (hi:PI X tg iter wi) (hg:PG X tg g) (hb:PSs X body tb)
   (hs:∀x,foldedSetIterable iter X.env x=pure x:=by intro _;rfl):PS X (.For tg iter body [] pos) (tFor wi g tb):=by
 intro pins s σ H D I h
 refine wpAny_For (thn (hi pins s σ H _ I h) fun v s1 h1=>thn h1 fun itv s2 h2=>?_) hs
 obtain⟨it,fp,tn,J,H2,e,I2,T,st2,f2,W,⟨m0,w0⟩,turn⟩:=h2
 subst e
 have stat:∀{H':Hp},(∀b∈fp,H' b=none)→∀b∈fp,FpOk X pins H' b:=fun hn b hb=>⟨hn b hb,(f2 b hb).2⟩
 refine codeAny_forLoop_any (fun n s'=>∃i σ' H',Inv X pins σ' H' s'∧tn i s'.heap∧(∀b∈fp,H' b=none)∧W i n σ' H') ?_ m0 ⟨0,σ,H2,I2,st2,fun b hb=>(f2 b hb).1,w0⟩
 rintro n s3 ⟨i,σ3,H3,I3,st3,fr3,w3⟩
 rcases turn i n σ3 H3 w3 with ⟨stop,qn⟩ | ⟨go,N,hN,step⟩
 · refine wpAny_passesOwn hp (thn (T.done X rfl rfl rfl hc i pins s3 σ3 H3 X.xe I3 (stat fr3) st3 stop) fun r s4 ⟨hr,I4⟩=>?_)
   subst hr
   exact wpAny_execs_nil ⟨σ3,H3,I4,qn⟩
 · refine wpAny_passesOwn hp (thn (T.item X rfl rfl rfl hc i pins s3 σ3 H3 X.xe I3 (stat fr3) st3 go) fun r s4 ⟨u,hr,h4⟩=>?_)
   subst hr
   refine wpAny_passesOwn hp (thn h4 fun _ s5 ⟨x,H5,I5,r5,y5,st5,fr5⟩=>?_)
   have I5':=I5.pinned (stat fr5) (T.obj _ _ st5)
   refine wpAny_passesOwn hp (thn (hg _ s5 σ3 H5 x u _ I5' r5 (step x H5 y5)) fun _ s6 ⟨σ6,H6,I6,q6⟩=>?_)
   refine wpAny_passesOwn hp (thn (hb _ s6 σ6 H6 _ I6 q6) fun f s7 q7=>?_)
   have again:∀{σ7:St}{H7:Hp},Inv X (pins++pinsAt fp s5.heap) σ7 H7 s7→N σ7 H7→∃m,m < n∧∃i σ' H',Inv X pins σ' H' s7∧tn i s7.heap∧(∀b∈fp,H' b=none)∧W i m σ' H':=fun {σ7 H7} I7 n7=>by
     obtain⟨m',hm,w7⟩:=hN σ7 H7 n7
     refine⟨m',hm,i+1,σ7,H7,I7.unpinned,T.keep _ _ _ st5 fun b hb o e=>(I7.pin (b,o) (zB _ (zB _ (mem_pinsAt hb e)))).1,fun b hb=>?_,w7⟩
     obtain⟨o,e,d⟩:=T.obj _ _ st5 b hb
     exact(I7.pin (b,o) (zB _ (zB _ (mem_pinsAt hb e)))).2.1
   cases f with
   | next=>obtain⟨σ7,H7,I7,n7⟩:=q7;exact again I7 n7
   | cont=>obtain⟨σ7,H7,I7,n7⟩:=q7;exact again I7 n7
   | brk=>obtain⟨σ7,H7,I7,q7⟩:=q7;exact⟨σ7,H7,I7.unpinned,q7⟩
   | ret v=>obtain⟨x7,σ7,H7,I7,r7,q7⟩:=q7;exact⟨x7,σ7,H7,I7.unpinned,r7,q7⟩
end
end L2
namespace L2
open PySem PySem.Spec PyProof.Rows
abbrev R2:=V→V→Hp→VK→Prop
def OpR (X:Cx) (f:Value→Value→Sem Value) (r:R2):Prop:=
 ∀(pins:List (Addr×Obj)) (s:Shared) (σ:St) (H:Hp) (x y:V) (v u:Value) (Q:VK),Inv X pins σ H s→RelV x v→RelV y u→r x y H Q →
   wpAny (model X.prog X.w) X.A (f v u) (EP X pins σ Q) X.xe s
def UnR (X:Cx) (f:Value→Sem Value) (r:V→Hp→VK→Prop):Prop:=
 ∀(pins:List (Addr×Obj)) (s:Shared) (σ:St) (H:Hp) (x:V) (v:Value) (Q:VK),Inv X pins σ H s→RelV x v→r x H Q →
   wpAny (model X.prog X.w) X.A (f v) (EP X pins σ Q) X.xe s
def CallR (X:Cx) (f:Value) (r:List V→Hp→VK→Prop):Prop:=
 ∀(pins:List (Addr×Obj)) (s:Shared) (σ:St) (H:Hp) (xs:List V) (us:List Value) (Q:VK),Inv X pins σ H s→Vals xs us→r xs H Q →
   wpAny (model X.prog X.w) X.A (call f us) (EP X pins σ Q) X.xe s
def tOp (r:R2) (ta tb:TE):TE:=fun σ H Q=>ta σ H fun x H1=>tb σ H1 fun y H2=>r x y H2 Q
def tUn (r:V→Hp→VK→Prop) (ta:TE):TE:=fun σ H Q=>ta σ H fun x H1=>r x H1 Q
def rI (C:Int→Int→Prop) (g:Int→Int→V):R2:=fun x y H Q=>∃i j,x = .int i∧y = .int j∧C i j∧Q (g i j) H
def rI0 (g:Int→Int→V):R2:=fun x y H Q=>∃i j,x = .int i∧y = .int j∧Q (g i j) H
def rU (g:Int→V):V→Hp→VK→Prop:=fun x H Q=>∃i,x = .int i∧Q (g i) H
section
variable {X:Cx}{a b c:Expr}{ta tb tc:TE}{pos:Pos}
theorem binT (ha:PE X a ta) (hb:PE X b tb) {pins:List (Addr×Obj)}{s:Shared}{σ:St}{H:Hp}{R:V→V→Hp→Prop}(I:Inv X pins σ H s)
   (h:ta σ H fun x H1=>tb σ H1 fun y H2=>R x y H2) {Q:Value→Shared→Prop}{f:Value→Value→Sem Value}
   (hf:∀v u s2 x y H2,Inv X pins σ H2 s2→RelV x v→RelV y u→R x y H2→wpAny (model X.prog X.w) X.A (f v u) Q X.xe s2) :
   wpAny (model X.prog X.w) X.A (eval a X.env) (fun v s₁=>wpAny (model X.prog X.w) X.A (eval b X.env) (fun u s₂=>wpAny (model X.prog X.w) X.A (f v u) Q X.xe s₂) X.xe s₁) X.xe s:=by
 refine thn (ha pins s σ H _ I h) fun v s1 ⟨x,H1,I1,r1,q1⟩=>?_
 refine thn (hb pins s1 σ H1 _ I1 q1) fun u s2 ⟨y,H2,I2,r2,q2⟩=>?_
 exact hf v u s2 x y H2 I2 r1 r2 q2
theorem pe_op {op:Operator}{r:R2}(ho:OpR X (binaryOp op) r) (ha:PE X a ta) (hb:PE X b tb):PE X (.BinOp a op b pos) (tOp r ta tb):=by
 intro pins s σ H Q I h
 exact wpAny_BinOp (binT ha hb I h fun v u s2 x y H2 I2 rx ry q=>ho pins s2 σ H2 x y v u Q I2 rx ry q)
theorem pe_un {op:UnaryOp}{r:V→Hp→VK→Prop}(ho:UnR X (unaryOp op) r) (ha:PE X a ta):PE X (.UnaryOp op a pos) (tUn r ta):=by
 intro pins s σ H Q I h
 exact UnaryOp_ (thn (ha pins s σ H _ I h) fun v s1 ⟨x,H1,I1,r1,q1⟩=>ho pins s1 σ H1 x v Q I1 r1 q1)
theorem opI {f:Value→Value→Sem Value}{C:Int→Int→Prop}{g:Int→Int→Int}
   (rule:∀(i j:Int) (t u:Tok) (s:Shared) (Q:Value→Shared→Prop) (E:Value→Shared→Prop),C i j→Q (.int (g i j) s.toks) { s with toks:=s.toks+1 }→wpAny (model X.prog X.w) X.A (f (.int i t) (.int j u)) Q E s) :
   OpR X f (rI C fun i j=>.int (g i j)):=by
 intro pins s σ H x y v u Q I rx ry h
 obtain⟨i,j,rfl,rfl,hc,q⟩:=h
 obtain⟨t,rfl⟩:=rx
 obtain⟨t',rfl⟩:=ry
 exact rule i j t t' s _ _ hc ⟨.int (g i j),H,I.tok _,⟨_,rfl⟩,q⟩
theorem opI0 {f:Value→Value→Sem Value}{g:Int→Int→Int}
   (rule:∀(i j:Int) (t u:Tok) (s:Shared) (Q:Value→Shared→Prop) (E:Value→Shared→Prop),Q (.int (g i j) s.toks) { s with toks:=s.toks+1 }→wpAny (model X.prog X.w) X.A (f (.int i t) (.int j u)) Q E s) :
   OpR X f (rI0 fun i j=>.int (g i j)):=by
 intro pins s σ H x y v u Q I rx ry h
 obtain⟨i,j,rfl,rfl,q⟩:=h
 obtain⟨t,rfl⟩:=rx
 obtain⟨t',rfl⟩:=ry
 exact rule i j t t' s _ _ ⟨.int (g i j),H,I.tok _,⟨_,rfl⟩,q⟩
theorem opB0 {f:Value→Value→Sem Value}{g:Int→Int→Bool}
   (rule:∀(i j:Int) (t u:Tok) (s:Shared) (Q:Value→Shared→Prop) (E:Value→Shared→Prop),Q (.bool (g i j)) s→wpAny (model X.prog X.w) X.A (f (.int i t) (.int j u)) Q E s) :
   OpR X f (rI0 fun i j=>.bl (g i j)):=by
 intro pins s σ H x y v u Q I rx ry h
 obtain⟨i,j,rfl,rfl,q⟩:=h
 obtain⟨t,rfl⟩:=rx
 obtain⟨t',rfl⟩:=ry
 exact rule i j t t' s _ _ ⟨.bl (g i j),H,I,rfl,q⟩
def CDiv (i j:Int):Prop:=0 < j∧j < 1073741824
def CPow (i j:Int):Prop:=0≤j∧j≤1000000∧i.natAbs < 2 ^ 64
theorem op_add:OpR X (binaryOp .Add) (rI0 fun i j=>.int (i+j)):=opI0 fun _ _ _ _ _ _ _ q=>add_int q
theorem op_sub:OpR X (binaryOp .Sub) (rI0 fun i j=>.int (i - j)):=opI0 fun _ _ _ _ _ _ _ q=>sub_int q
theorem op_mod:OpR X (binaryOp .Mod) (rI (fun _ j=>0 < j) fun i j=>.int (i % j)):=opI fun i j _ _ _ _ _ hc q=>by
 have h1:(0:Int) < j:=hc
 exact mod_int' (by omega) (by rw[Int.fmod_eq_emod_of_nonneg i (by omega)];exact q)
theorem op_pow:OpR X (binaryOp .Pow) (rI CPow fun i j=>.int (i ^ j.toNat)):=opI fun _ _ _ _ _ _ _ hc q=>pow_int_small hc.1 hc.2.1 hc.2.2 q
theorem unI {f:Value→Sem Value}{g:Int→Int}
   (rule:∀(i:Int) (t:Tok) (s:Shared) (Q:Value→Shared→Prop) (E:Value→Shared→Prop),Q (.int (g i) s.toks) { s with toks:=s.toks+1 }→wpAny (model X.prog X.w) X.A (f (.int i t)) Q E s) :
   UnR X f (rU fun i=>.int (g i)):=by
 intro pins s σ H x v Q I rx h
 obtain⟨i,rfl,q⟩:=h
 obtain⟨t,rfl⟩:=rx
 exact rule i t s _ _ ⟨.int (g i),H,I.tok _,⟨_,rfl⟩,q⟩
theorem un_neg:UnR X (unaryOp .USub) (rU fun i=>.int (-i)):=unI fun _ _ _ _ _ q=>neg_int q
end
section
variable {X:Cx}{a b c:Expr}{ta tb tc:TE}{pos:Pos}
theorem fin_bl {pins:List (Addr×Obj)}{σ:St}{H:Hp}{s:Shared}{Q:VK}{k k':Bool}(I:Inv X pins σ H s) (q:Q (.bl k) H) (e:k=k'):EP X pins σ Q (.bool k') s:=by
 subst e
 exact⟨.bl k,H,I,rfl,q⟩
theorem op_lt:OpR X (compareOp .Lt) (rI0 fun i j=>.bl (decide (i < j))):=opB0 fun _ _ _ _ _ _ _ q=>lt_int q
theorem op_le:OpR X (compareOp .LtE) (rI0 fun i j=>.bl (decide (i≤j))):=opB0 fun _ _ _ _ _ _ _ q=>le_int q
theorem op_gt:OpR X (compareOp .Gt) (rI0 fun i j=>.bl (decide (j < i))):=opB0 fun _ _ _ _ _ _ _ q=>gt_int q
theorem op_lt_str:OpR X (compareOp .Lt) (fun x y H Q=>∃i j,x = .str i∧y = .str j∧Q (.bl (decide (i.cps.toList < j.cps.toList))) H):=by
 intro pins s σ H x y v u Q I rx ry h
 obtain⟨i,j,rfl,rfl,q⟩:=h
 obtain⟨t,rfl⟩:=rx
 obtain⟨t',rfl⟩:=ry
 exact lt_str (fin_bl I q rfl)
theorem op_in_str:OpR X (compareOp .In) (fun x y H Q=>∃i j,x = .str i∧y = .str j∧Q (.bl (!(Builtin.Str.occurrences j i 0 j.length 1).isEmpty)) H):=by
 intro pins s σ H x y v u Q I rx ry h
 obtain⟨i,j,rfl,rfl,q⟩:=h
 obtain⟨t,rfl⟩:=rx
 obtain⟨t',rfl⟩:=ry
 exact in_str (fin_bl I q rfl)
theorem op_notN:OpR X (compareOp .IsNot) (fun x y H Q=>y = .non∧Q (.bl (!decide (x = .non))) H):=by
 intro pins s σ H x y v u Q I rx ry h
 obtain⟨rfl,q⟩:=h
 cases ry
 refine isnot_none_gen (fin_bl I q ?_)
 cases x <;> first
   | (cases rx;rfl)
   | (obtain⟨t,rfl⟩:=rx;rfl)
theorem OpR.or {f:Value→Value→Sem Value}{r r':R2}(h:OpR X f r) (h':OpR X f r'):OpR X f (fun x y H Q=>r x y H Q∨r' x y H Q):=by
 intro pins s σ H x y v u Q I rx ry q
 rcases q with q | q
 · exact h pins s σ H x y v u Q I rx ry q
 · exact h' pins s σ H x y v u Q I rx ry q
theorem nomark (b:Expr) {op:CmpOp}(h:op≠.In:=by decide) (h2:op≠.NotIn:=by decide):behindInMarks op b=false:=by
 have e1:(op==CmpOp.In)=false:=by cases op <;> first | rfl | exact absurd rfl h
 have e2:(op==CmpOp.NotIn)=false:=by cases op <;> first | rfl | exact absurd rfl h2
 cases b <;> simp[behindInMarks,e1,e2]
theorem pe_cmpR {op:CmpOp}{r:R2}(ho:OpR X (compareOp op) r) (ha:PE X a ta) (hb:PE X b tb) (hm:behindInMarks op b=false):PE X (.Compare a [op] [b] pos) (tOp r ta tb):=by
 intro pins s σ H Q I h
 exact wpAny_Compare1 (binT ha hb I h fun v u s2 x y H2 I2 rx ry q=>ho pins s2 σ H2 x y v u Q I2 rx ry q) hm
def tTest (t:TE):TT:=fun σ H Q=>t σ H fun x H'=>∃k,x = .bl k∧Q k H'
theorem pt_cmpR {op:CmpOp}{r:R2}(ho:OpR X (compareOp op) r) (ha:PE X a ta) (hb:PE X b tb) (hm:behindInMarks op b=false):PT X (.Compare a [op] [b] pos) (tTest (tOp r ta tb)):=by
 intro pins s σ H Q I h
 refine wpAny_isTrue_Compare1 (thn (ha pins s σ H _ I h) fun v s1 ⟨x,H1,I1,r1,q1⟩=>thn (hb pins s1 σ H1 _ I1 q1) fun u s2 ⟨y,H2,I2,r2,q2⟩=>
   thn (ho pins s2 σ H2 x y v u _ I2 r1 r2 q2) fun c s3 ⟨z,H3,I3,r3,k,e,q3⟩=>?_) hm
 subst e
 cases r3
 exact wpAny_truthy_bool ⟨H3,I3,q3⟩
def tChain (r r':R2) (ta tb tc:TE):TE:=fun σ H Q=>ta σ H fun x H1=>tb σ H1 fun y H2=>r x y H2 fun z H3=>∃k,z = .bl k ∧
 (if k=true then tc σ H3 fun w' H4=>r' y w' H4 Q else Q (.bl false) H3)
theorem pe_chain {op op':CmpOp}{r r':R2}(ho:OpR X (compareOp op) r) (ho':OpR X (compareOp op') r') (ha:PE X a ta) (hb:PE X b tb) (hc:PE X c tc)
   (hm:lastMarks [op,op'] [b,c]=false:=by with_unfolding_all rfl):PE X (.Compare a [op,op'] [b,c] pos) (tChain r r' ta tb tc):=by
 intro pins s σ H Q I h
 refine Compare_chain (thn (ha pins s σ H _ I h) fun v s1 ⟨x,H1,I1,r1,q1⟩=>chain_link (thn (hb pins s1 σ H1 _ I1 q1) fun u s2 ⟨y,H2,I2,r2,q2⟩=>
   thn (ho pins s2 σ H2 x y v u _ I2 r1 r2 q2) fun d s3 ⟨z,H3,I3,r3,k,e,q3⟩=>?_)) hm
 subst e
 cases r3
 refine wpAny_truthy_bool ?_
 cases k with
 | false=>exact ite_ff ⟨.bl false,H3,I3,rfl,q3⟩
 | true=>exact ite_tt (chain_last (thn (hc pins s3 σ H3 _ I3 q3) fun w' s4 ⟨z',H4,I4,r4,q4⟩=>ho' pins s4 σ H4 y z' u w' Q I4 r2 r4 q4))
theorem line63:(sizeLine:Nat) < 2 ^ 63:=by rw[sizeLine_eq];decide
theorem op_add_str:OpR X (binaryOp .Add) (fun x y H Q=>∃i j,x = .str i∧y = .str j∧i.length+j.length≤sizeLine∧Q (.str (i++j)) H):=by
 intro pins s σ H x y v u Q I rx ry h
 obtain⟨i,j,rfl,rfl,hz,q⟩:=h
 obtain⟨t,rfl⟩:=rx
 obtain⟨t',rfl⟩:=ry
 exact add_str (fun t' tk=>⟨.str (i++j),H,I.tok _,⟨_,rfl⟩,q⟩) hz
theorem vals1 {x:V}{us:List Value}(r:Vals [x] us):∃u,us=[u]∧RelV x u:=by
 cases r with
 | cons r1 r2=>cases r2;exact⟨_,rfl,r1⟩
theorem vals2 {x y:V}{us:List Value}(r:Vals [x,y] us):∃u w',us=[u,w']∧RelV x u∧RelV y w':=by
 cases r with
 | cons r1 r2=>
   cases r2 with
   | cons r3 r4=>cases r4;exact⟨_,_,rfl,r1,r3⟩
theorem call_min2 (hc:X.calm=true):CallR X (.builtin "min") (fun xs H Q=>∃i j,xs=[.int i,.int j]∧Q (.int (if j < i then j else i)) H):=by
 intro pins s σ H xs us Q I r h
 obtain⟨i,j,rfl,q⟩:=h
 obtain⟨u,w',rfl,⟨t,rfl⟩,⟨t',rfl⟩⟩:=vals2 r
 refine min_two_ints (I.ok.hd hc) fun h' tk k=>⟨_,H,I.kept k,?_,q⟩
 by_cases hj:j < i
 · rw[if_pos hj,if_pos hj];exact⟨_,rfl⟩
 · rw[if_neg hj,if_neg hj];exact⟨_,rfl⟩
theorem call_int1:CallR X (.type "int") (fun xs H Q=>(∃i,xs=[.int i]∧Q (.int i) H)∨∃k,xs=[.bl k]∧Q (.int (if k then 1 else 0)) H):=by
 intro pins s σ H xs us Q I r h
 rcases h with ⟨i,rfl,q⟩ | ⟨k,rfl,q⟩
 · obtain⟨u,rfl,t,rfl⟩:=vals1 r
   exact call_int_int ⟨.int i,H,I,⟨_,rfl⟩,q⟩
 · obtain⟨u,rfl,r1⟩:=vals1 r
   cases r1
   exact call_int_bool ⟨.int (if k then 1 else 0),H,I.tok _,⟨_,rfl⟩,q⟩
def LenV (K:Frg) (x:V) (H:Hp) (n:Nat):Prop:=
 match x with
 | .str y=>y.length≤sizeLine∧n=y.length
 | .byt y=>y.size≤sizeLine∧n=y.size
 | .ref p=>(∃xs,SqL K H p xs∧n=xs.length)∨∃xs,SqT K H p xs∧n=xs.length
 | _=>False
theorem call_len:CallR X (.builtin "len") (fun xs H Q=>∃x n,xs=[x]∧LenV X.K x H n∧Q (.int n) H):=by
 intro pins s σ H xs us Q I r h
 obtain⟨x,n,rfl,e,q⟩:=h
 obtain⟨u,rfl,rx⟩:=vals1 r
 have hl:=line63
 have hs:sizeLine=16777216:=sizeLine_eq
 cases x with
 | str y=>
   obtain⟨t,rfl⟩:=rx
   obtain⟨hy,e'⟩:y.length≤sizeLine∧n=y.length:=e
   subst e'
   exact len_str (by omega) ⟨.int _,H,I.tok _,⟨_,rfl⟩,q⟩
 | byt y=>
   obtain⟨t,rfl⟩:=rx
   obtain⟨hy,e'⟩:y.size≤sizeLine∧n=y.size:=e
   subst e'
   exact PySem.W.len_bytes (by omega) ⟨.int _,H,I.tok _,⟨_,rfl⟩,q⟩
 | ref p=>
   cases rx
   have e':(∃xs,SqL X.K H p xs∧n=xs.length)∨∃xs,SqT X.K H p xs∧n=xs.length:=e
   rcases e' with ⟨xs,hx,e'⟩ | ⟨xs,hx,e'⟩
   · subst e'
     obtain⟨its,r',pl,hz⟩:=I.list hx
     have hlen:=r'.length
     exact Calls.call_len_list pl.isList (by simp only[zJ];omega) ⟨.int xs.length,H,I.tok _,⟨_,by simp only[zJ];rw[hlen]⟩,q⟩
   · subst e'
     obtain⟨its,r',pl,hz⟩:=I.tuple hx
     have hlen:=r'.length
     exact len_tuple pl (by simp only[zJ];omega) ⟨.int xs.length,H,I.tok _,⟨_,by simp only[zJ];rw[hlen]⟩,q⟩
 | _=>exact(show False from e).elim
theorem call_divmod:CallR X (.builtin "divmod") (fun xs H Q=>∃i j,xs=[.int i,.int j]∧CDiv i j∧∀p,H p=none→Q (.ref p) (upd H p (.tup [.int (i/j),.int (i % j)]))):=by
 intro pins s σ H xs us Q I r h
 obtain⟨i,j,rfl,⟨h1,h2⟩,q⟩:=h
 obtain⟨u,w',rfl,⟨t,rfl⟩,⟨t',rfl⟩⟩:=vals2 r
 refine divmod_int (by omega) ?_ (.inl (PyProof.noPylong_small (by omega)))
 rw[Int.fdiv_eq_ediv_of_nonneg i (by omega),Int.fmod_eq_emod_of_nonneg i (by omega)]
 have hn:H s.heap.objs.size=none:=I.hok.fresh (zR _)
 refine⟨.ref s.heap.objs.size,_,?_,rfl,q _ hn⟩
 refine I.laid (fun b o e=>zW _ e) (zR _) ⟨by simp only[yR,List.length_nil];rw[sizeLine_eq];decide,[.int (i/j) s.toks,.int (i % j) (s.toks+1)],.cons ⟨_,rfl⟩ (.cons ⟨_,rfl⟩ .nil),?_⟩
 exact⟨_,yZ s.heap rfl,rfl,0,rfl⟩
end
end L2
namespace L2
open PySem PySem.Spec PyProof.Rows
structure ObjM (h:Heap) (x dx C:Addr) (mA:Str→Option Value):Prop where
 obj:h.get? x=some (PySem.W.instObj C dx)
 ns:h.Ns1 dx mA
 ne:dx≠x
theorem lookIn_ns {h:Heap}{dx:Addr}{mA:Str→Option Value}(n:h.Ns1 dx mA):∃od,h.get? dx=some od∧∀name,PySem.W.lookIn name od=some (mA name):=by
 obtain⟨o,es,ep,ho,hd,hk,_,hm⟩:=n
 refine⟨o,ho,fun name=>?_⟩
 have e:=hm name
 unfold nsFind findBy at e
 rw[← Array.find?_toList] at e
 unfold PySem.W.lookIn
 rw[hd]
 dsimp only
 split
 · rename_i y q
   rw[q] at e
   exact congrArg some e
 · rename_i q
   rw[q] at e
   have a:es.toList.any (·.refKey)=false:=by
     rw[List.any_eq_false]
     intro y hy
     obtain⟨z,t,hkey⟩:=hk y (Array.mem_toList_iff.mp hy)
     simp[DictEntry.refKey,hkey]
   have a':¬es.toList.any (·.refKey)=true:=by rw[a];exact nft
   rw[if_neg a']
   exact congrArg some e
theorem ObjM.look {h:Heap}{x dx C:Addr}{mA:Str→Option Value}(I:ObjM h x dx C mA):∃od,PySem.W.InstAt h x (PySem.W.instObj C dx) C (some od)∧∀name,PySem.W.lookIn name od=some (mA name):=
 let ⟨od,ho,hl⟩:=lookIn_ns I.ns
 ⟨od,⟨I.obj,rfl,rfl,ho⟩,hl⟩
theorem RelO.some_of {v:V}{o:Option Value}(r:RelO (some v) o):∃u,o=some u∧RelV v u:=by
 cases o with
 | none=>exact(show False from r).elim
 | some u=>exact⟨u,rfl,r⟩
theorem handed_of {v:V}{u:Value}(r:RelV v u):PySem.W.handedIn u=true:=by
 cases v with
 | non=>cases (show u=Value.none from r);rfl
 | bl b=>cases (show u=Value.bool b from r);rfl
 | int i=>obtain⟨t,e⟩:=(show ∃t,u=Value.int i t from r);cases e;rfl
 | str x=>obtain⟨t,e⟩:=(show ∃t,u=Value.str x t from r);cases e;rfl
 | byt b=>obtain⟨t,e⟩:=(show ∃t,u=Value.bytes b t from r);cases e;rfl
 | flt b=>obtain⟨t,e⟩:=(show ∃t,u=Value.float b t from r);cases e;rfl
 | ref a=>cases (show u=Value.ref a from r);rfl
 | ty n=>cases (show u=Value.type n from r);rfl
section
variable {P:Program}{w:World}{H H':Hp}{h h':Heap}{a C dx:Addr}{fs fs':List (Str×V)}
theorem ins_get (hok:HOk P w H h) (e:H a=some (.ins C dx fs)):∃mA,ObjM h a dx C mA∧(∀f,RelO (fs.lookup f) (mA f))∧PySem.Within mA (fs.map (·.1))∧fs.length≤1000∧H dx=some (.own a):=by
 obtain⟨d,z,ne,ob,mA,n,r,q⟩:=(show ObjOk P w H h a (.ins C dx fs) from hok a _ e)
 exact⟨mA,⟨ob,n,ne⟩,r,q,z,d⟩
end
structure Cls (K:Frg) (C:Addr):Prop where
 pg:PySem.W.plainGet K C Str.empty=true
 hd:PySem.W.hasDictIn K C=true
 po:PySem.W.plainOver K C=true
 sa:PySem.W.findIn K (.ref C) "__setattr__"=some (some (.builtin "object.__setattr__"))
theorem Cls.get {K:Frg}{C:Addr}(c:Cls K C) (f:Str):PySem.W.plainGet K C f=true:=c.pg
def NoAttr (K:Frg) (C:Addr) (f:Str):Prop:=PySem.W.findIn K (.ref C) f=some none
section
variable {X:Cx}{pins:List (Addr×Obj)}{σ:St}{H:Hp}{s:Shared}{a C dx:Addr}{fs:List (Str×V)}{f:Str}{v:V}{A:Around}{E:Value→Shared→Prop}
theorem attr_of {prog:Program}{w:World}{env:Env}{e:Expr}{f:Str}{pos:Pos}{s:Shared}{Q:Value→Shared→Prop}(hb:attributeBase e f env (eval e env)=eval e env)
   (h:wpAny (model prog w) A (eval e env) (fun o s₁=>wpAny (model prog w) A (getAttr o f true) Q E s₁) E s):wpAny (model prog w) A (eval (.Attribute e f pos) env) Q E s:=
 Attribute_any_ h (by rw[arm_eval_Attribute,hb])
end
section
variable {X:Cx}{pins:List (Addr×Obj)}{σ:St}{H:Hp}{s:Shared}{A:Around}{E:Value→Shared→Prop}{Q:Value→Shared→Prop}{c:Value}{b:Bool}
inductive TyOf (K:Frg) (H:Hp):V→Value→Prop where
 | non:TyOf K H .non (.type "NoneType")
 | bl (x:Bool):TyOf K H (.bl x) (.type "bool")
 | int (i:Int):TyOf K H (.int i) (.type "int")
 | str (x:Str):TyOf K H (.str x) (.type "str")
 | flt (x:UInt64):TyOf K H (.flt x) (.type "float")
 | lst {a:Addr}{xs:List V}(e:H a=some (.lst xs)):TyOf K H (.ref a) (.type "list")
 | frz {a:Addr}{o:Obj}{xs:List V}(e:H a=some (.frz o (.lst xs))):TyOf K H (.ref a) (.type "list")
 | tup {a:Addr}{xs:List V}(e:H a=some (.tup xs)):TyOf K H (.ref a) (.type "tuple")
 | dK {a:Addr}{kvs:List (Key×V)}(e:H a=some (.dK kvs)):TyOf K H (.ref a) (.type "dict")
 | dT {a:Addr}{kvs:List (List Key×V)}(e:H a=some (.dT kvs)):TyOf K H (.ref a) (.type "dict")
 | ins {a C dx:Addr}{fs:List (Str×V)}(e:H a=some (.ins C dx fs)) (cl:Cls K C) (ha:PySem.W.findIn K (.ref C) "__class__"=some (some (.builtin "object.__class__")))
     (hn:PySem.W.specialIn K (.builtin "object.__class__") "__get__"=some (some (.builtin "getset_descriptor.__get__"))) (htk:PySem.W.takesIn K (.builtin "object.__class__")=some true)
     (hm:PySem.W.mroIn K C (.type "object")=some true):TyOf K H (.ref a) (.ref C)
theorem isinst_ok {x:V}{u t:Value}(I:Inv X pins σ H s) (rx:RelV x u) (ty:TyOf X.K H x t) (e:PySem.W.kitOne X.K t c=some b) (h:∀tk,Q (.bool b) { s with toks:=tk }) :
   wpAny (model X.prog X.w) A (call (.builtin "isinstance") [u,c]) Q E s:=by
 cases ty with
 | non=>cases (show u=Value.none from rx);exact PySem.W.kia_one PySem.W.kitx_none I.kIn True.intro e (fun z=>nomatch z) h
 | bl y=>cases (show u=Value.bool y from rx);exact PySem.W.kia_one PySem.W.kitx_bool I.kIn True.intro e (fun z=>nomatch z) h
 | int i=>obtain⟨t,q⟩:=(show ∃t,u=Value.int i t from rx);cases q;exact PySem.W.kia_one PySem.W.kitx_int I.kIn True.intro e (fun z=>nomatch z) h
 | str y=>obtain⟨t,q⟩:=(show ∃t,u=Value.str y t from rx);cases q;exact PySem.W.kia_one PySem.W.kitx_str I.kIn True.intro e (fun z=>nomatch z) h
 | flt y=>obtain⟨t,q⟩:=(show ∃t,u=Value.float y t from rx);cases q;exact PySem.W.kia_one PySem.W.kitx_float I.kIn True.intro e (fun z=>nomatch z) h
 | @lst a xs ea=>
   cases (show u=Value.ref a from rx)
   obtain⟨_,_,n,_,h1⟩:=(show ObjOk X.prog X.w H s.heap a (.lst xs) from I.hok a _ ea)
   exact PySem.W.kia_one PySem.W.kitx_list I.kIn ⟨_,h1,rfl⟩ e (fun z=>nomatch z) h
 | @frz a ob xs ea=>
   cases (show u=Value.ref a from rx)
   obtain⟨_,_,_,n,_,h1⟩:=(show ObjOk X.prog X.w H s.heap a (.frz ob (.lst xs)) from I.hok a _ ea)
   exact PySem.W.kia_one PySem.W.kitx_list I.kIn ⟨_,h1,rfl⟩ e (fun z=>nomatch z) h
 | @tup a xs ea=>
   cases (show u=Value.ref a from rx)
   obtain⟨_,_,_,p⟩:=(show ObjOk X.prog X.w H s.heap a (.tup xs) from I.hok a _ ea)
   obtain⟨o,h1,h2,_⟩:=p
   exact PySem.W.kia_one PySem.W.kitx_tuple I.kIn ⟨o,h1,h2⟩ e (fun z=>nomatch z) h
 | @dK a kvs ea=>
   cases (show u=Value.ref a from rx)
   obtain⟨_,_,vs,_,p⟩:=(show ObjOk X.prog X.w H s.heap a (.dK kvs) from I.hok a _ ea)
   obtain⟨o,es,ep,h1,h2,_⟩:=p
   exact PySem.W.kia_one PySem.W.kitx_dict I.kIn ⟨o,h1,h2.1⟩ e (fun z=>nomatch z) h
 | @dT a kvs ea=>
   cases (show u=Value.ref a from rx)
   obtain⟨_,_,xs,_,o,es,ep,h1,h2,_⟩:=(show ObjOk X.prog X.w H s.heap a (.dT kvs) from I.hok a _ ea)
   exact PySem.W.kia_one PySem.W.kitx_dict I.kIn ⟨o,h1,h2.1⟩ e (fun z=>nomatch z) h
 | @ins a C dx fs ea cl ha hn htk hm=>
   cases (show u=Value.ref a from rx)
   obtain⟨mA,O,_⟩:=ins_get I.hok ea
   obtain⟨od,J,_⟩:=O.look
   exact PySem.W.kia_one (PySem.W.kitx_own (cl.get _) cl.hd ha hn htk hm) I.kIn J e (fun z=>nomatch z) h
end
end L2
namespace L2
open PySem PySem.Spec PyProof.Rows
structure Room (k:Nat) (A:Around):Prop where
 hd:A.handled=none
 dp:A.depth+3*k+5 < recursionLimit
 un:A.units+16*k+200 < cLine
theorem Room.mono {j k:Nat}{A:Around}(r:Room k A) (h:j≤k):Room j A:=⟨r.hd,by have:=r.dp;omega,by have:=r.un;omega⟩
theorem Room.deeper {k:Nat}{A:Around}(r:Room (k+1) A) (env:Env):Room k (A.deeper env):=
 ⟨r.hd,by have:=r.dp;show A.depth+1+3*k+5 < _;omega,by have:=r.un;show A.units+3+16*k+200 < _;omega⟩
theorem make_depth {A:Around}{C:Addr}{us:List Value}{kw:List (Str×Value)}:(A.under (.builtin "type.__call__" ⟨.ref C::us,kw⟩)).depth=A.depth+1:=by
 first | rfl | simp[Around.under,Code.weight,Code.isCreation,Code.isGuard,Code.isCaller,Code.frames,Code.isFrame,guardIds]
theorem make_units {A:Around}{C:Addr}{us:List Value}{kw:List (Str×Value)}:(A.under (.builtin "type.__call__" ⟨.ref C::us,kw⟩)).units=A.units+1:=by
 first | rfl | simp[Around.under,Code.cUnits,Code.frames,Code.isFrame]
theorem Room.make {k:Nat}{A:Around}(r:Room (k+1) A) (C:Addr) (us:List Value) (kw:List (Str×Value)):Room k (A.under (.builtin "type.__call__" ⟨.ref C::us,kw⟩)):=
 ⟨r.hd,by have:=r.dp;rw[make_depth];omega,by have:=r.un;rw[make_units];omega⟩
theorem Room.depth {k:Nat}{A:Around}(r:Room k A):A.depth < recursionLimit:=by have:=r.dp;omega
theorem Room.units {k:Nat}{A:Around}(r:Room k A):A.units+64 < cLine:=by have:=r.un;omega
def tNil:TA:=fun _ H Q=>Q [] H
def tCons (ta:TE) (tr:TA):TA:=fun σ H Q=>ta σ H fun x H1=>tr σ H1 fun xs H2=>Q (x::xs) H2
section
variable {X:Cx}{e:Expr}{es:List Expr}{te:TE}{t:TA}{pos:Pos}
theorem pa_nil:PA X [] tNil:=fun _ _ _ _ H Q I h=>Calls.spliced_nil ⟨[],H,I,.nil,h⟩
theorem pa_cons (ha:PE X e te) (hr:PA X es t) (hs:starEach (e::es) X.env=(false,eval e X.env)::starEach es X.env:=by rfl):PA X (e::es) (tCons te t):=by
 intro pos pins s σ H Q I h
 rw[hs]
 show wpAny _ _ (spliced ((false,eval e X.env)::backTo pos (starEach es X.env))) _ _ s
 refine xP (thn (ha pins s σ H _ I h) fun u s1 ⟨x,H1,I1,r1,q1⟩=>?_)
 exact thn (hr pos pins s1 σ H1 _ I1 q1) fun us s2 ⟨xs,H2,I2,r2,q2⟩=>⟨x::xs,H2,I2,.cons r1 r2,q2⟩
def tTup (t:TA):TE:=fun σ H Q=>t σ H fun xs H1=>xs.length≤sizeLine∧∀p,H1 p=none→Q (.ref p) (upd H1 p (.tup xs))
def tLst (t:TA):TE:=fun σ H Q=>t σ H fun xs H1=>xs.length≤sizeLine∧∀p,H1 p=none→Q (.ref p) (upd H1 p (.lst xs))
theorem pe_tup {x1} (h:PA X es t):PE X (.Tuple es x1 pos) (tTup t):=by
 intro pins s σ H Q I hq
 refine wpAny_Tuple_spliced (thn (h pos pins s σ H _ I hq) fun us s1 ⟨xs,H1,I1,r,z,q⟩=>⟨by rw[← r.length];exact z,?_⟩)
 have hf:H1 s1.heap.objs.size=none:=I1.hok.fresh (zR _)
 refine⟨.ref s1.heap.objs.size,upd H1 s1.heap.objs.size (.tup xs),I1.laid (t':=s1.toks) (fun b u e=>zW _ e) (zR _) ?_,rfl,q _ hf⟩
 exact⟨z,us,r,⟨_,yZ _ rfl,rfl,_,rfl⟩⟩
theorem pe_lst (h:PA X es t):PE X (.List es pos) (tLst t):=by
 intro pins s σ H Q I hq
 refine wpAny_List_spliced (thn (h pos pins s σ H _ I hq) fun us s1 ⟨xs,H1,I1,r,z,q⟩=>⟨by rw[← r.length];exact z,?_⟩)
 have hf:H1 s1.heap.objs.size=none:=I1.hok.fresh (zR _)
 refine⟨.ref s1.heap.objs.size,upd H1 s1.heap.objs.size (.lst xs),I1.laid (t':=s1.toks) (fun b u e=>zW _ e) (zR _) ?_,rfl,q _ hf⟩
 exact⟨z,us,0,r,yZ _ rfl⟩
end
abbrev Sp:=List V→Hp→VK→XK→Prop
abbrev CXT:=List Env→Hp→Shared→XK→Value→Shared→Prop
structure Env0 (P:Program) (w:World) (K:Frg) (mg:Str→Option Value) (base:Heap) (A:Around) (outer:List Env) (s:Shared) (H:Hp):Prop where
 frames:A.frames=some outer
 mod:Mod K mg base
 bs:∀b o,base.get? b=some o→s.heap.get? b=some o∧H b=none
 bsz:base.objs.size≤s.heap.objs.size
 funs:s.heap.FunFrames base outer
 frf:∀b∈frs outer,H b=none
 hok:HOk P w H s.heap
 bare:AllBare s.gens
def CE (outer:List Env) (P:Program) (w:World) (H:Hp) (s:Shared) (Q:VK) (u:Value) (s':Shared):Prop:=
 ∃v H',s'.os=s.os∧AllBare s'.gens∧Un (frs outer) [] H H' s.heap s'.heap∧HOk P w H' s'.heap∧RelV v u∧Q v H'
def CR (CX:CXT) (outer:List Env) (P:Program) (w:World) (H:Hp) (s:Shared) (Q:VK) (E:XK) (r:Result) (s':Shared):Prop:=
 match r with
 | .ok (.ret u)=>CE outer P w H s Q u s'
 | .ok _=>False
 | .error e=>CX outer H s E e s'
structure FnOk (P:Program) (w:World) (K:Frg) (mg:Str→Option Value) (base:Heap) (CX:CXT) (k:Nat) (f:Addr) (fd:FuncData) (ps:List Str) (sp:Sp):Prop where
 len:∀vs H Q E,sp vs H Q E→vs.length=ps.length
 run:∀(A:Around) (outer:List Env) (s:Shared) (H:Hp) (args:Args) (us:List Value) (vs:List V) (Q:VK) (E:XK),Room k A→Env0 P w K mg base A outer s H→BindsTo s fd args (ps.zip us)→Vals vs us→sp vs H Q E →
   codeAny (model P w) A (.call (.ref f) args) (CR CX outer P w H s Q E) s
theorem Env0.make {P:Program}{w:World}{K:Frg}{mg:Str→Option Value}{base:Heap}{A:Around}{outer:List Env}{s:Shared}{H:Hp}(e:Env0 P w K mg base A outer s H) (C:Addr) (us:List Value) (kw:List (Str×Value)) :
   Env0 P w K mg base (A.under (.builtin "type.__call__" ⟨.ref C::us,kw⟩)) outer s H:=⟨by first | exact e.frames | (simpa [Around.under,Code.envs,Code.isFrame,pushEnvs] using e.frames),e.mod,e.bs,e.bsz,e.funs,e.frf,e.hok,e.bare⟩
section
variable {X:Cx}{pins:List (Addr×Obj)}{σ:St}{H:Hp}{s s':Shared}
theorem Inv.env0 (I:Inv X pins σ H s):Env0 X.prog X.w X.K X.mg X.base X.A X.stack s H:=
 ⟨I.ok.frames,I.ok.mod,I.bs,zN I.ok.bsz I.sz,I.stack,I.stkFree,I.hok,I.bare⟩
theorem Inv.after {Q:VK}{u:Value}(I:Inv X pins σ H s) (h:CE X.stack X.prog X.w H s Q u s'):EP X pins σ Q u s':=by
 obtain⟨v,H',os,bare,un,hok,r,q⟩:=h
 obtain⟨hh,g,d,t,os'⟩:=s'
 obtain rfl:os'=s.os:=os
 exact⟨v,H',I.call (h':=hh) (g':=g) (d':=d) (t':=t) (ch:=[]) un hok bare (fun b z=>absurd z (by simp)),r,q⟩
end
def tCall (sp:Sp) (dvs:List V) (E:XK) (t:TA):TE:=fun σ H Q=>t σ H fun vs H1=>sp (vs++dvs) H1 Q E
def Binds (K:Frg) (fd:FuncData) (ps:List Str) (ds:List Value):Prop:=
 ∀(s:Shared) (us:List Value),K.In s.heap→(us++ds).length=ps.length→BindsTo s fd ⟨us,[]⟩ (ps.zip (us++ds))
theorem Binds.all {K:Frg}{fd:FuncData}{ps:List Str}(h:∀us:List Value,us.length=ps.length→bindArgs fd ⟨us,[]⟩=pure (ps.zip us)):Binds K fd ps []:=fun s us _ hl=>by
 rw[List.append_nil] at hl ⊢
 exact .of_eq (h us hl)
def Passes (CX:CXT) (X:Cx) (E:XK):Prop:=∀(pins:List (Addr×Obj)) (σ:St) (H:Hp) (s:Shared) (e:Value) (s':Shared),Inv X pins σ H s→CX X.stack H s E e s'→X.xe e s'
section
variable {X:Cx}{CX:CXT}{k:Nat}{f C:Addr}{fd:FuncData}{ps:List Str}{sp:Sp}{dvs:List V}{ds:List Value}{E:XK}{x m:Str}{p pos apos:Pos}{e o:Expr}{es:List Expr}{ta:TE}{t:TA}
theorem run_fn {pins:List (Addr×Obj)}{σ:St}{H:Hp}{s:Shared}{Q:VK}{us:List Value}{vs:List V}(F:FnOk X.prog X.w X.K X.mg X.base CX k f fd ps sp) (hr:Room k X.A) (hb:Binds X.K fd ps ds) (hd:Vals dvs ds) (hx:Passes CX X E)
   (I:Inv X pins σ H s) (r:Vals vs us) (h:sp (vs++dvs) H Q E):wpAny (model X.prog X.w) X.A (call (.ref f) us) (EP X pins σ Q) X.xe s:=by
 have r2:Vals (vs++dvs) (us++ds):=r.append hd
 have hl:(us++ds).length=ps.length:=by rw[← r2.length];exact F.len _ _ _ _ h
 refine wpAny_call (xN (F.run X.A X.stack s H ⟨us,[]⟩ (us++ds) (vs++dvs) Q E hr I.env0 (hb s us I.kIn hl) r2 h) fun r s' hq=>?_)
 cases r with
 | error e=>exact hx pins σ H s e s' I hq
 | ok fl=>
   cases fl with
   | ret u=>exact I.after hq
   | next=>exact False.elim hq
   | brk=>exact False.elim hq
   | cont=>exact False.elim hq
theorem pe_call (F:FnOk X.prog X.w X.K X.mg X.base CX k f fd ps sp) (hr:Room k X.A) (hg:Gl X x) (hm:X.mg x=some (.ref f)) (hk:PySem.W.keepIn X.K (.ref f)=true) (hb:Binds X.K fd ps ds) (hd:Vals dvs ds) (hx:Passes CX X E)
   (ha:PA X (e::es) t) (hdb:(x==("__debug__":Str))=false:=by decide) (he:starEach (e::es) X.env=(false,eval e X.env)::starEach es X.env:=by rfl) (hpl:(backTo pos (starEach es X.env)).any (·.1)=false:=by rfl) :
   PE X (.Call (.Name x p) (e::es) [] pos) (tCall sp dvs E t):=by
 intro pins s σ H Q I h
 refine wpAny_Call_Name_kw (ld_glob I hg hm ?_ hdb)
 refine PySem.W.callWith_K (h₀:=X.base) I.ok.mod.kin hk (thn (ha pos pins s σ H _ I h) fun us s1 ⟨vs,H1,I1,r,q⟩=>⟨I1.kIn,?_⟩) he hpl
 exact run_fn F hr hb hd hx I1 r q
end
structure FnScope (N P:List Str) (sc:Scope):Prop where
 kind:sc.kind = .function
 co:sc.isCoroutine=false
 gen:sc.isGenerator=false
 nd:N.Nodup
 pre:N.take P.length=P
 par:∀x∈P,sc.names.lookup x=some .local∨sc.names.lookup x=some .cell
 nofree:∀y∈sc.names,y.2≠.free
theorem bindL_out {kindOf:Str→Option NameKind}{x:Str}:∀{binds:List (Str×Value)}{m:Str→Option Value},(∀v,(x,v)∉binds)→bindL kindOf binds m x=m x
 | [],_,_=>rfl
 | (n,v)::r,m,h=>by
   unfold bindL
   rw[bindL_out fun w hw=>h w (yV _ hw)]
   split
   · have:x≠n:=by rintro rfl;exact h v List.mem_cons_self
     simp[this]
   · rfl
theorem bindC_out {kindOf:Str→Option NameKind}{x:Str}:∀{binds:List (Str×Value)}{m:Str→Option Value},(∀v,(x,v)∉binds)→bindC kindOf binds m x=m x
 | [],_,_=>rfl
 | (n,v)::r,m,h=>by
   unfold bindC
   rw[bindC_out fun w hw=>h w (yV _ hw)]
   split
   · rfl
   · have:x≠n:=by rintro rfl;exact h v List.mem_cons_self
     simp[this]
theorem bindL_get {kindOf:Str→Option NameKind}{x:Str}{v:Value}:∀{P:List Str}{vs:List Value}{i:Nat}{m:Str→Option Value},P.Nodup→P[i]?=some x→vs[i]?=some v→kindOf x=some .local →
   bindL kindOf (P.zip vs) m x=some v
 | [],_,_,_,_,h,_,_=>by simp at h
 | _::_,[],_,_,_,_,h,_=>by simp at h
 | p::P,w::vs,0,m,nd,h1,h2,hk=>by
   simp at h1 h2;subst h1;subst h2
   show bindL kindOf ((p,w)::P.zip vs) m p=_
   unfold bindL
   rw[bindL_out fun v hv=>(xV.mp nd).1 (List.of_mem_zip hv).1,if_pos hk]
   simp
 | p::P,w::vs,i+1,m,nd,h1,h2,hk=>by
   show bindL kindOf ((p,w)::P.zip vs) m x=_
   unfold bindL
   exact bindL_get (i:=i) (xV.mp nd).2 (by simpa using h1) (by simpa using h2) hk
theorem bindC_get {kindOf:Str→Option NameKind}{x:Str}{v:Value}:∀{P:List Str}{vs:List Value}{i:Nat}{m:Str→Option Value},P.Nodup→P[i]?=some x→vs[i]?=some v→kindOf x≠some .local →
   bindC kindOf (P.zip vs) m x=some v
 | [],_,_,_,_,h,_,_=>by simp at h
 | _::_,[],_,_,_,_,h,_=>by simp at h
 | p::P,w::vs,0,m,nd,h1,h2,hk=>by
   simp at h1 h2;subst h1;subst h2
   show bindC kindOf ((p,w)::P.zip vs) m p=_
   unfold bindC
   rw[bindC_out fun v hv=>(xV.mp nd).1 (List.of_mem_zip hv).1,if_neg hk]
   simp
 | p::P,w::vs,i+1,m,nd,h1,h2,hk=>by
   show bindC kindOf ((p,w)::P.zip vs) m x=_
   unfold bindC
   exact bindC_get (i:=i) (xV.mp nd).2 (by simpa using h1) (by simpa using h2) hk
def start (N:List Str) (vs:List V):St:=vs.map some++List.replicate (N.length - vs.length) none
def cxOf (CX:CXT) (P:Program) (w:World) (K:Frg) (mg:Str→Option Value) (base:Heap) (N:List Str) (qual:Str) (scope:Scope) (f:Addr) (cd:Value) (A:Around) (outer:List Env) (s:Shared) (H:Hp) (E:XK):Cx where
 prog:=P
 w:=w
 K:=K
 mg:=mg
 base:=base
 A:=A.deeper (envOfC qual scope s.heap.objs.size f cd)
 N:=N
 s₀:=s
 H₀:=H
 env:=envOfC qual scope s.heap.objs.size f cd
 outer:=outer
 stack:=envOfC qual scope s.heap.objs.size f cd::outer
 ex:=[]
 calm:=true
 fn:=fun _=>true
 pn:=[]
 xe:=fun e s'=>wpAny (model P w) (A.deeper (envOfC qual scope s.heap.objs.size f cd)) (leaving (envOfC qual scope s.heap.objs.size f cd) e) (fun _ s''=>CX outer H s E e s'') (fun e' s''=>CX outer H s E e' s'') s'
theorem cell_has {sc:Scope}{n:Nat}{x:Str}(h:sc.names.lookup x=some .cell):∃c,(cellsFrom n sc.names []).lookup x=some c:=by
 have q:=PySem.W.cellsFrom_some sc.names n [] (.inl h)
 exact xY.mp q
theorem inv_start {CX:CXT}{P:Program}{w:World}{K:Frg}{mg:Str→Option Value}{base:Heap}{N ps:List Str}{qual:Str}{scope:Scope}{f:Addr}{cd:Value}{A:Around}{outer:List Env}{s s1:Shared}{H:Hp}{E:XK}{us:List Value}{vs:List V}
   (S:FnScope N ps scope) (hd:A.handled=none) (e0:Env0 P w K mg base A outer s H) (hl:vs.length=ps.length) (r:Vals vs us)
   (x:InCallC s s.heap.objs.size (bindL (envOfC qual scope s.heap.objs.size f cd).kindOf (ps.zip us) fun _=>none) (cellsFrom (s.heap.objs.size+1) scope.names []) (bindC (envOfC qual scope s.heap.objs.size f cd).kindOf (ps.zip us) fun _=>none) s1) :
   Inv (cxOf CX P w K mg base N qual scope f cd A outer s H E) [] (start N vs) H s1:=by
 have hpl:ps.length≤N.length:=by have:=congrArg List.length S.pre;rw[List.length_take] at this;omega
 obtain⟨h1,tk,rfl,hk⟩:=x.done
 have noA:∀b:Addr,b∉(cxOf CX P w K mg base N qual scope f cd A outer s H E).ex:=fun b z=>absurd (show b∈([]:List Addr) from z) (by simp)
 refine⟨⟨e0.mod,S.kind,rfl,rfl,zR _,fun y z c h1 h2=>?_,fun y hy=>?_,fun y c _ h=>?_,fun _=>hd,Around.frames_deeper e0.frames,.inr ⟨rfl,rfl⟩,fun b z=>absurd z (noA b),e0.bs,e0.bsz,fun b _ _=>noA b,fun b z=>absurd z (noA b),e0.funs,e0.frf⟩,
   rfl,e0.bare,Un.kept hk,⟨_,x.toInCall.ns,fun i y v h1 h2 h3=>?_⟩,fun y c h=>⟨_,x.cell y c h⟩,e0.hok.fresh (zR _),fun y c h=>?_,fun p hp=>absurd (show p∈([]:List (Addr×Obj)) from hp) (by simp),e0.hok.kept hk,?_⟩
 · exact name_of_addr x.apart (PySem.mem_of_lookup h1) (PySem.mem_of_lookup h2)
 · have hy:scope.names.lookup y=some .cell∨scope.names.lookup y=some .free:=hy
   rcases hy with hy | hy
   · exact cell_has hy
   · exact absurd rfl (S.nofree _ (PySem.mem_of_lookup hy))
 · exact xR (x.above y c (PySem.mem_of_lookup h))
 · have hi:i < vs.length:=by
     unfold start at h2
     by_cases hi:i < vs.length
     · exact hi
     · rw[yP (by simpa using hi)] at h2
       rw[List.getElem?_replicate] at h2
       split at h2 <;> cases h2
   have ha:vs[i]?=some v:=by
     unfold start at h2
     rw[yQ (by simpa using hi),zF] at h2
     cases e:vs[i]? with
     | none=>rw[e] at h2;cases h2
     | some a=>rw[e] at h2;cases h2;rfl
   obtain⟨u,hu,rv⟩:=r.get ha
   have hp:ps[i]?=some y:=by
     rw[← S.pre,List.getElem?_take_of_lt (by omega)];exact h1
   have ndP:ps.Nodup:=by rw[← S.pre];exact S.nd.sublist (List.take_sublist _ _)
   refine⟨u,rv,?_⟩
   rcases S.par y (yN hp) with k | k
   · exact .inl ⟨k,bindL_get ndP hp hu k⟩
   · obtain⟨c,e⟩:=cell_has (n:=s.heap.objs.size+1) k
     refine .inr ⟨.inl k,c,e,?_⟩
     have q:=x.cell y c e
     rw[bindC_get ndP hp hu (by show scope.names.lookup y≠_;rw[k];decide)] at q
     exact q
 · exact e0.hok.fresh (xR (x.above y c (PySem.mem_of_lookup h)))
 · unfold start
   show _=N.length
   rw[yY,zX,List.length_replicate]
   omega
theorem fn_of {CX:CXT}{P:Program}{w:World}{K:Frg}{mg:Str→Option Value}{base:Heap}{k:Nat}{f:Addr}{name qual:Str}{params:Arguments}{body:List Stmt}{scope:Scope}{dV kV doc pm cdv ct oc:Value}{an od:Option Addr}
   {osl:Array (Option Value)}{N ps:List Str}{sp:Sp}(lk:K.lookup f=some ⟨oc,od,.func (PySem.W.fnOf name qual params body scope dV kV doc pm an cdv ct),osl⟩) (hcd:PySem.W.codeIn K cdv qual=true) (S:FnScope N ps scope)
   (len:∀vs H Q E,sp vs H Q E→vs.length=ps.length)
   (hbody:∀(A:Around) (outer:List Env) (s:Shared) (H:Hp) (vs:List V) (Q:VK) (E:XK),Room k (A.deeper (envOfC qual scope s.heap.objs.size f cdv))→sp vs H Q E →
     ∃t,PSs (cxOf CX P w K mg base N qual scope f cdv A outer s H E) body t∧t { nx:=fun _ H'=>Q .non H',rt:=Q } (start N vs) H) :
   FnOk P w K mg base CX (k+1) f (PySem.W.fnOf name qual params body scope dV kV doc pm an cdv ct) ps sp:=by
 refine⟨len,fun A outer s H args us vs Q E hr e0 hb r hsp=>?_⟩
 have hl:=len _ _ _ _ hsp
 have KX:K.In s.heap:=e0.mod.kin.keeps fun b o e=>(e0.bs b o e).1
 have lim:s.heap.NoLimit:=e0.mod.nolimit.keeps fun b o e=>(e0.bs b o e).1
 have hkind:∀y∈ps.zip us,scope.names.lookup y.1=some .local∨(scope.names.lookup y.1=some .cell∧((cellsFrom (s.heap.objs.size+1) scope.names []).lookup y.1).isSome=true):=fun⟨n,v⟩ hy=>by
   rcases S.par n (List.of_mem_zip hy).1 with q | q
   · exact .inl q
   · exact .inr ⟨q,PySem.W.cellsFrom_some _ _ _ (.inl q)⟩
 refine codeAny_call_function hr.depth (KX _ _ lk) rfl S.co S.gen rfl (PySem.W.codeRec_of KX hcd) (hb _ _ _ _ ?_)
 refine wpAny_newFunctionEnv_cells S.kind hkind fun env he s1 x=>?_
 subst he
 refine⟨lim.keeps x.toInCall.keep,codeAny_func ?_⟩
 obtain⟨t,ht,hq⟩:=hbody A outer s H vs Q E (hr.deeper _) hsp
 have I:Inv (cxOf CX P w K mg base N qual scope f cdv A outer s H E) [] (start N vs) H s1:=inv_start S hr.hd e0 hl r x
 refine wpAny_mono (ht [] s1 (start N vs) H _ I hq) (fun fl s' hs=>?_) fun e s' hs=>hs
 have fin:∀{σ':St}{H':Hp}{v:V}{u:Value},Inv (cxOf CX P w K mg base N qual scope f cdv A outer s H E) [] σ' H' s'→RelV v u→Q v H'→CE outer P w H s Q u s':=
   fun {σ' H' v u} J rv q=>⟨v,H',J.os,J.bare,J.base,J.hok,rv,q⟩
 cases fl with
 | ret u=>
   obtain⟨v,σ',H',J,rv,q⟩:=hs
   exact fin J rv q
 | next=>
   obtain⟨σ',H',J,q⟩:=hs
   exact fin (v:=V.non) (u:=Value.none) J rfl q
 | brk=>
   obtain⟨_,_,_,q⟩:=hs
   exact False.elim q
 | cont=>
   obtain⟨_,_,_,q⟩:=hs
   exact False.elim q
end L2
namespace L2
open PySem PySem.Spec PyProof.Rows
section
variable {X:Cx}{x:Str}{p pos:Pos}{e:Expr}{es:List Expr}{t:TA}{id T:String}{r:List V→Hp→VK→Prop}
def tCB (r:List V→Hp→VK→Prop) (t:TA):TE:=fun σ H Q=>t σ H fun vs H1=>r vs H1 Q
theorem pe_callB (hc:CallR X (.builtin id) r) (hg:Gl X x) (hm:X.mg x=none) (hv:bootBuiltins x=some (.builtin id)) (ha:PA X (e::es) t) (hn:x ≠ "__name__" := by decide) (hdb:(x==("__debug__":Str))=false:=by decide)
   (he:starEach (e::es) X.env=(false,eval e X.env)::starEach es X.env:=by rfl) (hpl:(backTo pos (starEach es X.env)).any (·.1)=false:=by rfl):PE X (.Call (.Name x p) (e::es) [] pos) (tCB r t):=by
 intro pins s σ H Q I h
 refine wpAny_Call_Name_kw (ld_blt I hg hm hv ?_ hn hdb)
 exact PyProof.Rows.callWith_builtin1 (thn (ha pos pins s σ H _ I h) fun us s1 ⟨vs,H1,I1,r1,q1⟩=>hc pins s1 σ H1 vs us Q I1 r1 q1) he hpl
theorem pe_callTy (hc:CallR X (.type T) r) (hg:Gl X x) (hm:X.mg x=none) (hv:bootBuiltins x=some (.type T)) (ha:PA X (e::es) t) (hn:x ≠ "__name__" := by decide) (hdb:(x==("__debug__":Str))=false:=by decide)
   (he:starEach (e::es) X.env=(false,eval e X.env)::starEach es X.env:=by rfl) (hpl:(backTo pos (starEach es X.env)).any (·.1)=false:=by rfl):PE X (.Call (.Name x p) (e::es) [] pos) (tCB r t):=by
 intro pins s σ H Q I h
 refine wpAny_Call_Name_kw (ld_blt I hg hm hv ?_ hn hdb)
 exact xH (thn (ha pos pins s σ H _ I h) fun us s1 ⟨vs,H1,I1,r1,q1⟩=>hc pins s1 σ H1 vs us Q I1 r1 q1) he hpl
end
end L2
namespace HT
open PySem PyProof.Rows
section
variable {prog:Program}{w:World}{A:Around}{E:Value→Shared→Prop}{s:Shared}
def sIx (n d:Nat):Option Int→Nat
 | none=>d
 | some v=>if v < 0 then (v+(n:Int)).toNat else min v.toNat n
theorem sIx_nat (n d k:Nat):sIx n d (some (k:Int))=min k n:=by
 show(if (k:Int) < 0 then ((k:Int)+(n:Int)).toNat else min (k:Int).toNat n)=min k n
 rw[if_neg (by omega),Int.toNat_natCast]
theorem sIx_le (n d:Nat) (hd:d≤n) (o:Option Int):sIx n d o≤n:=by
 cases o with
 | none=>exact hd
 | some v=>
   show(if v < 0 then (v+(n:Int)).toNat else min v.toNat n)≤n
   by_cases hv:v < 0
   · rw[if_pos hv];omega
   · rw[if_neg hv];exact Nat.min_le_right _ _
theorem clip_eq (v:Int) (n d:Nat):(if v < 0 then max (v+(n:Int)) 0 else min v (n:Int))=((sIx n d (some v):Nat):Int):=by
 show(if v < 0 then max (v+(n:Int)) 0 else min v (n:Int))=(((if v < 0 then (v+(n:Int)).toNat else min v.toNat n):Nat):Int)
 by_cases hv:v < 0
 · simp only[if_pos hv];omega
 · simp only[if_neg hv];omega
theorem adjust_gen (lo hi:Option Int) (n:Nat):Builtin.Slice.sliceAdjust lo hi 1 (n:Int)=(((sIx n 0 lo:Nat):Int),((sIx n n hi:Nat):Int)):=by
 have h1:¬((1:Int) < 0):=by omega
 unfold Builtin.Slice.sliceAdjust
 simp only[h1,if_false]
 refine Prod.ext ?_ ?_
 · cases lo with
   | none=>rfl
   | some v=>exact clip_eq v n 0
 · cases hi with
   | none=>rfl
   | some v=>exact clip_eq v n n
theorem places_gen (i j:Nat):Builtin.Slice.slicePlaces (i:Int) (j:Int) 1=j - i:=by
 unfold Builtin.Slice.slicePlaces
 have h1:(1:Int) > 0:=by omega
 simp only[h1,if_true,Int.ediv_one]
 split <;> omega
theorem slicePart_ {v:Value}{o:Option Int}{Q:Option Int→Shared→Prop}(p:IsPart v o) (h:Q o s):wpAny (model prog w) A (Builtin.Slice.slicePartIndex v) Q E s:=by
 cases p with
 | none=>exact slicePart_none h
 | int i t=>exact slicePart_int h
theorem sliceApplied_gen {sl:Addr}{vl vu:Value}{lo hi:Option Int}{n:Nat}{Q:Int×Int×Nat→Shared→Prop}(hs:s.heap.IsSliceOf sl vl vu .none) (pl:IsPart vl lo) (pu:IsPart vu hi)
   (h:Q (((sIx n 0 lo:Nat):Int),1,sIx n n hi - sIx n 0 lo) s):wpAny (model prog w) A (Builtin.Slice.sliceApplied (.ref sl) (pure (n:Int))) Q E s:=by
 obtain⟨os,hos,hcs,hds⟩:=id hs
 unfold Builtin.Slice.sliceApplied Builtin.Slice.sliceFields
 refine zZ (zZ (wpAny_field hos hds (x:=vl) rfl (zZ (wpAny_field hos hds (x:=vu) rfl (zZ (wpAny_field hos hds (x:=.none) rfl (zY ?_)))))))
 refine zZ (slicePart_none ?_)
 show wpAny _ _ (if ((1:Int)==0)=true then _ else _) _ _ s
 rw[if_neg (by decide)]
 refine zZ (slicePart_ pl (zZ (slicePart_ pu (zZ (zY ?_)))))
 show wpAny _ _ (match Builtin.Slice.sliceAdjust lo hi 1 (n:Int) with | (lo,hi)=>pure (lo,(1:Int),Builtin.Slice.slicePlaces lo hi 1)) _ _ s
 rw[adjust_gen lo hi n]
 show wpAny _ _ (pure (((sIx n 0 lo:Nat):Int),(1:Int),Builtin.Slice.slicePlaces ((sIx n 0 lo:Nat):Int) ((sIx n n hi:Nat):Int) 1)) _ _ s
 rw[places_gen]
 exact zY h
theorem pick_gen (xs:Array Value) (i k:Nat):((List.range k).filterMap fun(m:Nat)=>xs[((i:Int)+(m:Int)*1).toNat]?).toArray=((xs.toList.drop i).take k).toArray:=by
 have e:(fun(m:Nat)=>xs[((i:Int)+(m:Int)*1).toNat]?)=fun m=>xs[i+m]?:=by
   funext m
   have:((i:Int)+(m:Int)*1).toNat=i+m:=by omega
   rw[this]
 rw[e]
 have:=pick_run xs i k
 rw[List.filterMap_map] at this
 have e2:((fun x=>xs[x]?)∘fun x=>i+x)=fun m=>xs[i+m]?:=rfl
 rw[e2] at this
 rw[this]
theorem getItem_tuple_cut {t sl:Addr}{items:Array Value}{vl vu:Value}{lo hi:Option Int}{Q:Value→Shared→Prop}(ht:IsTup s.heap t items) (hs:s.heap.IsSliceOf sl vl vu .none) (pl:IsPart vl lo) (pu:IsPart vu hi)
   (hw:¬(sIx items.size 0 lo=0∧sIx items.size items.size hi=items.size))
   (h:Q (.ref s.heap.objs.size) { s with heap:=s.heap.push { cls:=.type "tuple", data:=.seq ((items.toList.drop (sIx items.size 0 lo)).take (sIx items.size items.size hi - sIx items.size 0 lo)).toArray } })
   (hsz:items.size≤sizeLine):wpAny (model prog w) A (getItem (.ref t) (.ref sl)) Q E s:=by
 have htake:sizeOk (.seq ((items.toList.drop (sIx items.size 0 lo)).take (sIx items.size items.size hi - sIx items.size 0 lo)).toArray):=by
   show((items.toList.drop (sIx items.size 0 lo)).take (sIx items.size items.size hi - sIx items.size 0 lo)).toArray.size≤sizeLine
   rw[zJ,List.length_take,List.length_drop,Array.length_toList]
   omega
 have hj:sIx items.size items.size hi≤items.size:=sIx_le _ _ (zR _) hi
 obtain⟨os,hos,hcs,hds⟩:=id hs
 have hTs:s.TypeIs (.ref sl) "slice" := ⟨os,hos,hcs⟩
 unfold getItem
 try with_reducible refine wpAny_holding ?_
 first | refine zZ (zY ?_) | skip
 refine zZ (wpAny_sequenceKey ht.typeIs (by decide) ?_)
 refine zZ (wpAny_callSpecial?_slot (name:=Str.ofString "__getitem__") ht.typeIs PyProof.Rows.slot_tuple_getitem
   (wpAny_call_entry PyProof.Rows.slot_tuple_getitem ht.typeIs entry_tuple_getitem ?_ (args_tuple_getitem _ _)))
 show wpAny _ _ (Builtin.Tuple.tupleItemsOf (.ref t) >>= _) _ _ s
 refine zZ (tupleItemsOf_ ht ?_)
 refine zZ (wpAny_typeOf hTs ?_)
 rw[if_pos (by decide)]
 refine zZ (sliceApplied_gen hs pl pu ?_)
 have hno:¬((((sIx items.size 0 lo:Nat):Int)==0&&(1:Int)==1&&(sIx items.size items.size hi - sIx items.size 0 lo)==items.size)=true):=by
   intro q
   rw[Bool.and_eq_true,Bool.and_eq_true] at q
   have q1:((sIx items.size 0 lo:Nat):Int)=0:=eq_of_beq q.1.1
   have q2:sIx items.size items.size hi - sIx items.size 0 lo=items.size:=eq_of_beq q.2
   exact hw ⟨by omega,by omega⟩
 show wpAny _ _ (if (((sIx items.size 0 lo:Nat):Int)==0&&(1:Int)==1&&(sIx items.size items.size hi - sIx items.size 0 lo)==items.size)=true then _ else _) _ _ s
 rw[if_neg hno,pick_gen]
 first
   | exact zZ (m:=Builtin.Tuple.tupleExact _) (xM (zY ⟨_,rfl,zY h⟩) htake)
   | exact zZ (m:=Builtin.Tuple.tupleExact _) (xM (zZ (zY (zY ⟨_,rfl,zY h⟩))) htake)
   | exact zZ (zZ (m:=Builtin.Tuple.tupleExact _) (xM (zY (zY ⟨_,rfl,zY h⟩)) htake))
   | exact zZ (zZ (m:=Builtin.Tuple.tupleExact _) (xM (zY ⟨_,rfl,zY h⟩) htake))
end
end HT
namespace L2
open PySem PySem.Spec PyProof.Rows
abbrev TO:=St→Hp→(Option Int→Hp→Prop)→Prop
def PO (X:Cx) (e:Option Expr) (t:TO):Prop:=
 ∀(pins:List (Addr×Obj)) (s:Shared) (σ:St) (H:Hp) (Q:Option Int→Hp→Prop),Inv X pins σ H s→t σ H Q →
   wpAny (model X.prog X.w) X.A (evalPart e X.env) (fun u s'=>∃o H',Inv X pins σ H' s'∧IsPart u o∧Q o H') X.xe s
def tNoPart:TO:=fun _ H Q=>Q none H
def tPart (t:TE):TO:=fun σ H Q=>t σ H fun x H1=>∃i,x = .int i∧Q (some i) H1
section
variable {X:Cx}{e:Expr}{te:TE}{lo hi:Option Expr}{tl th:TO}{pos p2:Pos}
theorem po_none:PO X none tNoPart:=by
 intro pins s σ H Q I h
 rw[evalPart_none]
 exact zY ⟨none,H,I,.none,h⟩
theorem po_some (h:PE X e te):PO X (some e) (tPart te):=by
 intro pins s σ H Q I hw
 rw[evalPart_some]
 refine thn (h pins s σ H _ I hw) fun u s1 ⟨x,H1,I1,r1,q1⟩=>?_
 obtain⟨i,rfl,q⟩:=q1
 obtain⟨t,rfl⟩:=r1
 exact⟨some i,H1,I1,.int i t,q⟩
def SlR (X:Cx) (r:V→Option Int→Option Int→Hp→VK→Prop):Prop:=
 ∀(pins:List (Addr×Obj)) (s:Shared) (σ:St) (H:Hp) (x:V) (v vl vu:Value) (lo hi:Option Int) (sl:Addr) (Q:VK),Inv X pins σ H s→RelV x v→s.heap.IsSliceOf sl vl vu .none→IsPart vl lo→IsPart vu hi→r x lo hi H Q →
   ∃T id,typeLookup (.type T) "__getitem__"=pure (some (.builtin id))∧s.TypeIs v T∧wpAny (model X.prog X.w) X.A (getItem v (.ref sl)) (EP X pins σ Q) X.xe s
theorem SlR.or {r r':V→Option Int→Option Int→Hp→VK→Prop}(h:SlR X r) (h':SlR X r'):SlR X (fun x lo hi H Q=>r x lo hi H Q∨r' x lo hi H Q):=by
 intro pins s σ H x v vl vu lo hi sl Q I rx hs pl pu q
 rcases q with q | q
 · exact h pins s σ H x v vl vu lo hi sl Q I rx hs pl pu q
 · exact h' pins s σ H x v vl vu lo hi sl Q I rx hs pl pu q
def tSl (r:V→Option Int→Option Int→Hp→VK→Prop) (te:TE) (tl th:TO):TE:=fun σ H Q=>te σ H fun x H1=>tl σ H1 fun l H2=>th σ H2 fun u H3=>r x l u H3 Q
theorem pe_slice {r:V→Option Int→Option Int→Hp→VK→Prop}(hr:SlR X r) (he:PE X e te) (hl:PO X lo tl) (hu:PO X hi th):PE X (.Subscript e (.Slice lo hi none p2) pos) (tSl r te tl th):=by
 intro pins s σ H Q I h
 refine Subscript_ (thn (he pins s σ H _ I h) fun v s1 ⟨x,H1,I1,r1,q1⟩=>?_)
 refine wpAny_Slice (thn (hl pins s1 σ H1 _ I1 q1) fun vl s2 ⟨l,H2,I2,pl,q2⟩=>thn (hu pins s2 σ H2 _ I2 q2) fun vu s3 ⟨u,H3,I3,pu,q3⟩=>?_)
 rw[evalPart_none]
 refine zY ?_
 have I4:Inv X pins σ H3 { s3 with heap:=s3.heap.push { cls:=.type "slice", data:=.fields #[vl,vu,.none] } }:=I3.kept (t':=s3.toks) fun b ob q=>zW _ q
 obtain⟨T,id,hT,ht,hg⟩:=hr pins { s3 with heap:=s3.heap.push { cls:=.type "slice", data:=.fields #[vl,vu,.none] } } σ H3 x v vl vu l u s3.heap.objs.size Q I4 r1 (Heap.IsSliceOf.new ..) pl pu q3
 show wpAny (model X.prog X.w) X.A (subscriptTail e (.Slice lo hi none p2) v (.ref s3.heap.objs.size)) (EP X pins σ Q) X.xe { s3 with heap:=s3.heap.push { cls:=.type "slice", data:=.fields #[vl,vu,.none] } }
 exact tail_any (ops:=[.ref s3.heap.objs.size,v]) ht hT hg (by with_unfolding_all rfl)
def cutV (xs:List V) (lo hi:Option Int):List V:=(xs.drop (HT.sIx xs.length 0 lo)).take (HT.sIx xs.length xs.length hi - HT.sIx xs.length 0 lo)
theorem cutV_length (xs:List V) (lo hi:Option Int):(cutV xs lo hi).length≤xs.length:=by
 unfold cutV
 rw[List.length_take,List.length_drop]
 omega
def rSlT (K:Frg):V→Option Int→Option Int→Hp→VK→Prop:=fun x lo hi H Q=>∃a xs,x = .ref a∧SqT K H a xs ∧
 ¬(HT.sIx xs.length 0 lo=0∧HT.sIx xs.length xs.length hi=xs.length)∧∀p,H p=none→Q (.ref p) (upd H p (.tup (cutV xs lo hi)))
theorem sl_tup:SlR X (rSlT X.K):=by
 intro pins s σ H x v vl vu lo hi sl Q I rx hs pl pu h
 obtain⟨a,xs,rfl,hx,hw,q⟩:=h
 cases rx
 obtain⟨its,r,ht,hz⟩:=I.tuple hx
 have hlen:its.toArray.size=xs.length:=by rw[zJ];exact r.length.symm
 refine⟨"tuple", _,PyProof.Rows.slot_tuple_getitem.lookup,ht.typeIs,?_⟩
 refine HT.getItem_tuple_cut ht hs pl pu (by rw[hlen];exact hw) ?_ (by rw[hlen];exact hz)
 rw[hlen]
 refine⟨.ref s.heap.objs.size,_,I.laid (t':=s.toks) (o:=.tup (cutV xs lo hi)) (fun b ob q=>zW _ q) (zR _) ?_,rfl,q _ (I.hok.fresh (zR _))⟩
 exact⟨zN (cutV_length xs lo hi) hz,_,(r.drop (HT.sIx xs.length 0 lo)).take (HT.sIx xs.length xs.length hi - HT.sIx xs.length 0 lo),IsTup.new _ _⟩
end
end L2
namespace L2
open PySem PySem.Spec PyProof.Rows
def ixN (n:Nat) (i:Int):Option Nat:=if 0≤i then (if i < n then some i.toNat else none) else if -(n:Int)≤i then some (i+n).toNat else none
def atI {α:Type}(xs:List α) (i:Int):Option α:=(ixN xs.length i).bind fun j=>xs[j]?
theorem ixN_seq {n:Nat}{i:Int}{j:Nat}(h:ixN n i=some j):seqIndex? i n=some j∧j < n∧-(n:Int)≤i∧i < n:=by
 unfold ixN at h
 by_cases h0:0≤i
 · rw[if_pos h0] at h
   by_cases h1:i < n
   · rw[if_pos h1] at h
     have e:i.toNat=j:=Option.some.inj h
     exact⟨by rw[seqIndex_of h0 h1,e],by omega,by omega,h1⟩
   · rw[if_neg h1] at h;cases h
 · rw[if_neg h0] at h
   by_cases h1 : -(n:Int)≤i
   · rw[if_pos h1] at h
     have e:(i+n).toNat=j:=Option.some.inj h
     exact⟨by rw[seqIndex_neg (by omega) h1,e],by omega,h1,by omega⟩
   · rw[if_neg h1] at h;cases h
theorem atI_get {α:Type}{xs:List α}{i:Int}{v:α}(h:atI xs i=some v):∃j,seqIndex? i xs.length=some j∧xs[j]?=some v∧j < xs.length∧-(xs.length:Int)≤i∧i < xs.length:=by
 unfold atI at h
 cases e:ixN xs.length i with
 | none=>rw[e] at h;cases h
 | some j=>
   rw[e] at h
   obtain⟨h1,h2,h3,h4⟩:=ixN_seq e
   exact⟨j,h1,h,h2,h3,h4⟩
theorem atI_nat {α:Type}{xs:List α}{j:Nat}{v:α}(h:xs[j]?=some v):atI xs (j:Int)=some v:=by
 have hj:j < xs.length:=(yT.mp h).1
 have e:ixN xs.length (j:Int)=some j:=by
   unfold ixN
   rw[if_pos (by omega),if_pos (by omega)];simp
 unfold atI;rw[e];exact h
def PlainIx (b:Expr):Prop:=∀o i,subscripted b false o i=operate [o,i] (getItem o i)
def IxR (X:Cx) (r:R2):Prop:=
 ∀(value slice:Expr) (pins:List (Addr×Obj)) (s:Shared) (σ:St) (H:Hp) (x y:V) (v u:Value) (Q:VK),Inv X pins σ H s→RelV x v→RelV y u→r x y H Q →
   subscripted slice false v u=operate [v,u] (getItem v u)→wpAny (model X.prog X.w) X.A (subscriptTail value slice v u) (EP X pins σ Q) X.xe s
def MtR (X:Cx) (id:String) (r:V→List V→Hp→VK→Prop):Prop:=
 ∀(pins:List (Addr×Obj)) (s:Shared) (σ:St) (H:Hp) (x:V) (xs:List V) (v:Value) (us:List Value) (Q:VK),Inv X pins σ H s→RelV x v→Vals xs us→r x xs H Q →
   wpAny (model X.prog X.w) X.A (call (.builtin id) (v::us)) (EP X pins σ Q) X.xe s
section
variable {X:Cx}{a b:Expr}{ta tb:TE}{pos:Pos}
theorem IxR.or {r r':R2}(h:IxR X r) (h':IxR X r'):IxR X (fun x y H Q=>r x y H Q∨r' x y H Q):=by
 intro value slice pins s σ H x y v u Q I rx ry q hs
 rcases q with q | q
 · exact h value slice pins s σ H x y v u Q I rx ry q hs
 · exact h' value slice pins s σ H x y v u Q I rx ry q hs
theorem pe_ix {r:R2}(hr:IxR X r) (ha:PE X a ta) (hb:PE X b tb) (hs:PlainIx b):PE X (.Subscript a b pos) (tOp r ta tb):=by
 intro pins s σ H Q I h
 exact Subscript_ (binT ha hb I h fun v u s2 x y H2 I2 rx ry q=>hr a b pins s2 σ H2 x y v u Q I2 rx ry q (hs _ _))
def rIxL (K:Frg):R2:=fun x y H Q=>∃p xs i v,x = .ref p∧y = .int i∧SqL K H p xs∧atI xs i=some v∧Q v H
def rIxT (K:Frg):R2:=fun x y H Q=>∃p xs i v,x = .ref p∧y = .int i∧SqT K H p xs∧atI xs i=some v∧Q v H
def rIxS:R2:=fun x y H Q=>∃z i c,x = .str z∧y = .int i∧z.length≤sizeLine∧atI z.cps.toList i=some c∧Q (.str ⟨#[c]⟩) H
theorem ix_list:IxR X (rIxL X.K):=by
 intro value slice pins s σ H x y v u Q I rx ry h hs
 obtain⟨p,xs,i,z,rfl,rfl,hq,he,q⟩:=h
 cases rx
 obtain⟨t,rfl⟩:=ry
 obtain⟨its,r,pl,hz⟩:=I.list hq
 obtain⟨j,h1,h2,h3,h4,h5⟩:=atI_get he
 obtain⟨w,ew,rw'⟩:=r.get h2
 have hl:=r.length
 have hn:=line63
 have fin:EP X pins σ Q w s:=⟨z,H,I,rw',q⟩
 by_cases h0:0≤i
 · have hj:i.toNat=j:=by
     rw[seqIndex_of h0 h5] at h1
     exact Option.some.inj h1
   exact item_listR pl.isList h0 (by omega) (by rw[hj];simpa using ew) fin hs
 · have hj:(i+(its.toArray.size:Int)).toNat=j:=by
     rw[seqIndex_neg (by omega) h4] at h1
     rw[zJ,← hl]
     exact Option.some.inj h1
   exact subscriptTail_builtinR (x:=w) pl.isList.typeIs slot_list_getitem.lookup
     (wpAny_getItem_list_neg (Q:=fun r s'=>r=w∧EP X pins σ Q r s') pl.isList (by omega) (by rw[zJ] <;> omega) (by omega) (by rw[hj];simpa using ew) ⟨rfl,fin⟩) hs
theorem ix_tup:IxR X (rIxT X.K):=by
 intro value slice pins s σ H x y v u Q I rx ry h hs
 obtain⟨p,xs,i,z,rfl,rfl,hq,he,q⟩:=h
 cases rx
 obtain⟨t,rfl⟩:=ry
 obtain⟨its,r,pl,hz⟩:=I.tuple hq
 obtain⟨j,h1,h2,h3,h4,h5⟩:=atI_get he
 obtain⟨w,ew,rw'⟩:=r.get h2
 have hl:=r.length
 have hn:=line63
 have fin:EP X pins σ Q w s:=⟨z,H,I,rw',q⟩
 exact subscriptTail_builtinR (x:=w) pl.typeIs slot_tuple_getitem.lookup
   (getItem_tuple (j:=j) (Q:=fun r s'=>r=w∧EP X pins σ Q r s') pl (by omega) (by omega) (by rw[zJ,← hl];exact h1) (by simpa using ew) ⟨rfl,fin⟩) hs
theorem ix_str:IxR X rIxS:=by
 intro value slice pins s σ H x y v u Q I rx ry h hs
 obtain⟨z,i,c,rfl,rfl,hz,he,q⟩:=h
 obtain⟨t,rfl⟩:=rx
 obtain⟨t',rfl⟩:=ry
 obtain⟨j,h1,h2,h3,h4,h5⟩:=atI_get he
 have hl:z.cps.toList.length=z.length:=by simp[Str.length]
 rw[hl] at h1 h4 h5
 have hn:=line63
 exact tail_any (typeIs_str s z t) slot_str_getitem.lookup (getItem_str (c:=c) (by
   have e1:decide (i < -(2 ^ 63:Int))=false:=decide_eq_false (by omega)
   have e2:decide (i≥2 ^ 63)=false:=decide_eq_false (by omega)
   rw[e1,e2,Bool.or_false]) (by rw[h1];simpa using h2) ⟨.str ⟨#[c]⟩,H,I.tok _,⟨_,rfl⟩,q⟩) hs
theorem mapSeq_set (its:List Value) (n j:Nat) (u:Value):Obj.mapSeq (·.setIfInBounds j u) { cls:=.type "list", data:=.seq its.toArray n }={ cls:=.type "list", data:=.seq (its.set j u).toArray n }:=by
 simp[Obj.mapSeq]
theorem Inv.lst {pins:List (Addr×Obj)}{σ:St}{H:Hp}{s:Shared}{p:Addr}{xs:List V}(I:Inv X pins σ H s) (h:H p=some (.lst xs)) :
   ∃(its:List Value) (n:Nat),Vals xs its∧s.heap.get? p=some { cls:=.type "list", data:=.seq its.toArray n }∧xs.length≤sizeLine:=by
 obtain⟨z,its,n,r,e⟩:=I.hok p _ h
 exact⟨its,n,r,e,z⟩
theorem Inv.lstUpd {pins:List (Addr×Obj)}{σ:St}{H:Hp}{s:Shared}{p:Addr}{xs ys:List V}{its its':List Value}{n n':Nat}{f:Obj→Obj}(I:Inv X pins σ H s) (h:H p=some (.lst xs))
   (ho:s.heap.get? p=some { cls:=.type "list", data:=.seq its.toArray n }) (hf:f { cls:=.type "list", data:=.seq its.toArray n }={ cls:=.type "list", data:=.seq its'.toArray n' }) (r:Vals ys its') (hz:ys.length≤sizeLine) (t:Nat) :
   Inv X pins σ (upd H p (.lst ys)) { s with heap:=s.heap.update p f,toks:=t }:=by
 have e:(s.heap.update p f).get? p=some { cls:=.type "list", data:=.seq its'.toArray n' }:=by
   rw[Heap.get?_update_self f ho (by rw[hf] <;> rfl),hf]
 refine I.write (x:=p) (e:=p) (by rw[h];trivial) (.inl rfl) (fun b u hb q=>(yC _ _ (Ne.symm hb)).trans q) ⟨_,e⟩ ?_
 exact⟨hz,its',n',r,e⟩
def rSetL:V→V→V→Hp→(Hp→Prop)→Prop:=fun o i v H Q=>∃p xs k j,o = .ref p∧i = .int k∧H p=some (.lst xs)∧ixN xs.length k=some j∧Q (upd H p (.lst (xs.set j v)))
theorem set_list:PSet X rSetL:=by
 intro pins s σ H o i v ov iv u Q I ro ri rv h
 obtain⟨p,xs,k,j,rfl,rfl,hp,hj,q⟩:=h
 cases ro
 obtain⟨t,rfl⟩:=ri
 obtain⟨its,n,r,ho,hz⟩:=I.lst hp
 obtain⟨h1,h2,h3,h4⟩:=ixN_seq hj
 have hl:=r.length
 have hn:=line63
 have I':Inv X pins σ (upd H p (.lst (xs.set j v))) { s with heap:=s.heap.update p (Obj.mapSeq (·.setIfInBounds j u)) }:=
   I.lstUpd hp ho (mapSeq_set its n j u) (r.set rv j) (by rw[List.length_set];exact hz) s.toks
 by_cases h0:0≤k
 · have hk:k.toNat=j:=by
     rw[seqIndex_of h0 h4] at h1
     exact Option.some.inj h1
   exact PySem.W.ki_setAt ho h0 (by omega) (by rw[zJ,← hl];exact h4) (by rw[hk];exact⟨_,I',q⟩)
 · have hk:(k+(its.toArray.size:Int)).toNat=j:=by
     rw[seqIndex_neg (by omega) h3] at h1
     rw[zJ,← hl]
     exact Option.some.inj h1
   exact PySem.W.ki_setBack ho (by omega) (by rw[zJ,← hl];exact h3) (by omega) (by rw[hk];exact⟨_,I',q⟩)
theorem slice_bounds (lo hi:Option Int) (n:Nat):(sliceBounds lo hi none n).1=((HT.sIx n 0 lo:Nat):Int)∧(sliceBounds lo hi none n).2.1=((HT.sIx n n hi:Nat):Int)∧(sliceBounds lo hi none n).2.2=1:=by
 refine⟨?_,?_,rfl⟩
 · cases lo with
   | none=>simp[sliceBounds,HT.sIx]
   | some i=>
     simp only[sliceBounds,HT.sIx,Option.getD_none,show(1:Int) > 0 by decide,if_true]
     by_cases h:i < 0
     · simp only[h,if_true] <;> omega
     · simp only[h,if_false] <;> omega
 · cases hi with
   | none=>simp[sliceBounds,HT.sIx]
   | some i=>
     simp only[sliceBounds,HT.sIx,Option.getD_none,show(1:Int) > 0 by decide,if_true]
     by_cases h:i < 0
     · simp only[h,if_true] <;> omega
     · simp only[h,if_false] <;> omega
theorem slicePick_cut (its:List Value) (lo hi:Option Int):slicePick its.toArray lo hi none=((its.drop (HT.sIx its.length 0 lo)).take (HT.sIx its.length its.length hi - HT.sIx its.length 0 lo)).toArray:=by
 obtain⟨h1,h2,h3⟩:=slice_bounds lo hi its.toArray.size
 unfold slicePick
 rw[h1,h2,h3]
 simp only[sliceRange_one,pick_run,zJ] <;> rfl
def rSlL (K:Frg):V→Option Int→Option Int→Hp→VK→Prop:=fun x lo hi H Q=>∃a xs,x = .ref a∧SqL K H a xs∧∀p,H p=none→Q (.ref p) (upd H p (.lst (cutV xs lo hi)))
theorem sl_list:SlR X (rSlL X.K):=by
 intro pins s σ H x v vl vu lo hi sl Q I rx hs pl pu h
 obtain⟨a,xs,rfl,hx,q⟩:=h
 cases rx
 obtain⟨its,r,ht,hz⟩:=I.list hx
 have hlen:=r.length
 refine⟨"list", _,slot_list_getitem.lookup,ht.isList.typeIs,?_⟩
 refine wpAny_getItem_list_slice ht.isList hs pl pu .none (by simp) ?_ (by rw[zJ] <;> omega)
 rw[slicePick_cut,← hlen]
 refine⟨.ref s.heap.objs.size,_,I.laid (t':=s.toks) (o:=.lst (cutV xs lo hi)) (fun b ob q=>zW _ q) (zR _) ?_,rfl,q _ (I.hok.fresh (zR _))⟩
 exact⟨zN (cutV_length xs lo hi) hz,_,0,(r.drop (HT.sIx xs.length 0 lo)).take (HT.sIx xs.length xs.length hi - HT.sIx xs.length 0 lo),yZ _ rfl⟩
def flatV:V→Bool
 | .non=>true
 | .bl _=>true
 | .int _=>true
 | .str _=>true
 | _=>false
def eqV:V→V→Bool
 | .non,.non=>true
 | .bl a,.bl b=>a==b
 | .bl a,.int b=>(if a then 1 else 0)==b
 | .int a,.bl b=>a==(if b then 1 else 0)
 | .int a,.int b=>a==b
 | .str a,.str b=>a==b
 | _,_=>false
theorem eqAt_V {A:Around}{s:Shared}{y x:V}{u v:Value}(ry:RelV y u) (rx:RelV x v) (fy:flatV y=true) (fx:flatV x=true):SeqAt.EqAt A s u v (eqV y x):=by
 cases y with
 | non=>
   cases ry
   cases x with
   | non=>cases rx;exact SeqAt.EqAt.same _
   | bl b=>cases rx;exact SeqAt.EqAt.none_bool b
   | int b=>obtain⟨t,rfl⟩:=rx;exact SeqAt.EqAt.none_int b t
   | str b=>obtain⟨t,rfl⟩:=rx;exact SeqAt.EqAt.none_str b t
   | _=>exact absurd (show false=true from fx) nft
 | bl a=>
   cases ry
   cases x with
   | non=>cases rx;exact SeqAt.EqAt.bool_none a
   | bl b=>cases rx;exact SeqAt.EqAt.bool_bool a b
   | int b=>obtain⟨t,rfl⟩:=rx;exact SeqAt.EqAt.bool_int a b t
   | str b=>obtain⟨t,rfl⟩:=rx;exact SeqAt.EqAt.bool_str a b t
   | _=>exact absurd (show false=true from fx) nft
 | int a=>
   obtain⟨t',rfl⟩:=ry
   cases x with
   | non=>cases rx;exact SeqAt.EqAt.int_none a t'
   | bl b=>cases rx;exact SeqAt.EqAt.int_bool a t' b
   | int b=>obtain⟨t,rfl⟩:=rx;exact SeqAt.EqAt.int_int a t' b t
   | str b=>obtain⟨t,rfl⟩:=rx;exact SeqAt.EqAt.int_str a t' b t
   | _=>exact absurd (show false=true from fx) nft
 | str a=>
   obtain⟨t',rfl⟩:=ry
   cases x with
   | non=>cases rx;exact SeqAt.EqAt.str_none a t'
   | bl b=>cases rx;exact SeqAt.EqAt.str_bool a t' b
   | int b=>obtain⟨t,rfl⟩:=rx;exact SeqAt.EqAt.str_int a t' b t
   | str b=>obtain⟨t,rfl⟩:=rx;exact SeqAt.EqAt.str_str a t' b t
   | _=>exact absurd (show false=true from fx) nft
 | _=>exact absurd (show false=true from fy) nft
def eqU (x:V) (u:Value):Bool:=match u with
 | .none=>eqV .non x
 | .bool b=>eqV (.bl b) x
 | .int i _=>eqV (.int i) x
 | .str z _=>eqV (.str z) x
 | _=>false
theorem eqU_of {x y:V}{u:Value}(r:RelV y u) (f:flatV y=true):eqU x u=eqV y x:=by
 cases y with
 | non=>cases r;rfl
 | bl b=>cases r;rfl
 | int i=>obtain⟨t,rfl⟩:=r;rfl
 | str z=>obtain⟨t,rfl⟩:=r;rfl
 | _=>exact absurd (show false=true from f) nft
theorem any_eqU {x:V}:∀{xs:List V}{us:List Value},Vals xs us→xs.all flatV=true→us.any (eqU x)=xs.any fun y=>eqV y x
 | _,_,.nil,_=>rfl
 | y::xs,u::us,.cons r t,f=>by
   rw[List.all_cons,Bool.and_eq_true] at f
   rw[List.any_cons,List.any_cons,eqU_of r f.1,any_eqU t f.2]
theorem mem_eqAt {A:Around}{s:Shared}{x:V}{v:Value}(rx:RelV x v) (fx:flatV x=true):∀{xs:List V}{us:List Value},Vals xs us→xs.all flatV=true→∀u∈us,SeqAt.EqAt A s u v (eqU x u)
 | _,_,.nil,_=>fun u hu=>by cases hu
 | y::xs,u::us,.cons r t,f=>fun u' hu=>by
   rw[List.all_cons,Bool.and_eq_true] at f
   rcases yX.mp hu with rfl | hu
   · rw[eqU_of r f.1];exact eqAt_V r rx f.1 fx
   · exact mem_eqAt rx fx t f.2 u' hu
def inV (x:V) (xs:List V):Bool:=xs.any fun y=>eqV y x
def rIn (K:Frg) (neg:Bool):R2:=fun x y H Q=>∃p xs,y = .ref p∧(SqL K H p xs∨SqT K H p xs)∧flatV x=true∧xs.all flatV=true∧Q (.bl (if neg then !inV x xs else inV x xs)) H
theorem op_in_seq:OpR X (compareOp .In) (rIn X.K false):=by
 intro pins s σ H x y v u Q I rx ry h
 obtain⟨p,xs,rfl,hq,fx,fs,q⟩:=h
 cases ry
 rcases hq with hq | hq
 · obtain⟨its,r,pl,hz⟩:=I.list hq
   refine SeqAt.in_listAt (eqU x) pl.isList (fun w hw=>mem_eqAt rx fx r fs w (by simpa using hw)) ⟨.bl _,H,I,rfl,?_⟩
   rw[show its.toArray.any (eqU x)=its.any (eqU x) by simp,any_eqU r fs]
   exact q
 · obtain⟨its,r,pl,hz⟩:=I.tuple hq
   refine SeqAt.in_tupleAt (eqU x) pl (fun w hw=>mem_eqAt rx fx r fs w (by simpa using hw)) ⟨.bl _,H,I,rfl,?_⟩
   rw[show its.toArray.any (eqU x)=its.any (eqU x) by simp,any_eqU r fs]
   exact q
theorem call_list_of:CallR X (.type "list") (fun xs H Q=>∃p ys,xs=[.ref p]∧(SqL X.K H p ys∨SqT X.K H p ys)∧∀l,H l=none→Q (.ref l) (upd H l (.lst ys))):=by
 intro pins s σ H xs us Q I r h
 obtain⟨p,ys,rfl,hq,q⟩:=h
 obtain⟨u,rfl,rx⟩:=vals1 r
 cases rx
 have fin:∀(its:List Value),Vals ys its→ys.length≤sizeLine→∀(h':Heap) (c':Nat),(∀b o',s.heap.get? b=some o'→h'.get? b=some o') →
     h'.get? s.heap.objs.size=some { cls:=.type "list", dict:=none,data:=.seq its.toArray c',slots:=#[] }→EP X pins σ Q (.ref s.heap.objs.size) { s with heap:=h' }:=fun its r' hz h' c' kp e=>
   ⟨.ref s.heap.objs.size,_,I.laid (t':=s.toks) kp (zR _) (show ObjOk X.prog X.w _ h' _ (.lst ys) from ⟨hz,its,c',r',e⟩),rfl,q _ (I.hok.fresh (zR _))⟩
 rcases hq with hq | hq
 · obtain⟨its,r',pl,hz⟩:=I.list hq
   have hlen:=r'.length
   obtain⟨o,ho,hc,n,hd⟩:=pl.isList
   exact call_list_seq p (.inl rfl) ho hc hd (fun h' c' kp e=>fin its r' hz h' c' kp e) (by simp only[zJ] <;> omega)
 · obtain⟨its,r',pl,hz⟩:=I.tuple hq
   have hlen:=r'.length
   obtain⟨o,ho,hc,n,hd⟩:=pl
   exact call_list_seq p (.inr rfl) ho hc hd (fun h' c' kp e=>fin its r' hz h' c' kp e) (by simp only[zJ] <;> omega)
theorem call_tuple_of:CallR X (.type "tuple") (fun xs H Q=>∃p ys,xs=[.ref p]∧((SqL X.K H p ys∧∀l,H l=none→Q (.ref l) (upd H l (.tup ys)))∨(SqT X.K H p ys∧Q (.ref p) H))):=by
 intro pins s σ H xs us Q I r h
 obtain⟨p,ys,rfl,h⟩:=h
 obtain⟨u,rfl,rx⟩:=vals1 r
 cases rx
 rcases h with ⟨hq,q⟩ | ⟨hq,q⟩
 · obtain⟨its,r',pl,hz⟩:=I.list hq
   have hlen:=r'.length
   refine call_tuple_list pl.isList (fun h' kp=>?_) (by simp only[zJ] <;> omega)
   have I1:Inv X pins σ H { s with heap:=h' }:=I.kept (t':=s.toks) kp
   have I2:Inv X pins σ (upd H h'.objs.size (.tup ys)) { s with heap:=h'.push { cls:=.type "tuple", data:=.seq its.toArray } }:=
     I1.laid (t':=s.toks) (fun b o e=>zW _ e) (zR _) (show ObjOk X.prog X.w _ _ _ (.tup ys) from ⟨hz,its,r',IsTup.new _ _⟩)
   exact⟨.ref h'.objs.size,_,I2,rfl,q _ (I1.hok.fresh (zR _))⟩
 · obtain⟨its,r',pl,hz⟩:=I.tuple hq
   exact call_tuple_same pl ⟨.ref p,H,I,rfl,q⟩
def tyV (K:Frg) (T:String) (x:V) (H:Hp):Prop:=match x with
 | .str _=>T = "str"
 | .int _=>T = "int"
 | .ref p=>(T = "list" ∧ ∃xs,SqL K H p xs)∨(T = "tuple" ∧ ∃o,K.lookup p=some o∧o.cls = .type "tuple" ∧ o.dict=none) ∨
     (T = "dict" ∧ ((∃kvs,H p=some (.dK kvs))∨∃kvs,H p=some (.dT kvs)))∨(T = "set" ∧ ∃S n,H p=some (.set S n))
 | _=>False
theorem tyV_is {pins:List (Addr×Obj)}{σ:St}{H:Hp}{s:Shared}{T:String}{x:V}{v:Value}(I:Inv X pins σ H s) (r:RelV x v) (ty:tyV X.K T x H) :
   s.TypeIs v T∧∀a,v = .ref a→∃ob,s.heap.get? a=some ob∧ob.dict=none:=by
 cases x with
 | str z=>
   obtain⟨t,rfl⟩:=r
   cases (show T = "str" from ty)
   exact⟨typeIs_str s z t,fun _ e=>nomatch e⟩
 | int i=>
   obtain⟨t,rfl⟩:=r
   cases (show T = "int" from ty)
   exact⟨typeIs_int s i t,fun _ e=>nomatch e⟩
 | ref p=>
   cases r
   rcases ty with ⟨rfl,xs,hq⟩ | ⟨rfl,o,hk,hc,hd⟩ | ⟨rfl,hk⟩ | ⟨rfl,S,n,hk⟩
   · obtain⟨its,_,pl,_⟩:=I.list hq
     refine⟨pl.isList.typeIs,fun a e=>?_⟩
     cases e
     obtain⟨o,n,e,c,hd,_⟩:=pl
     exact⟨o,e,hd⟩
   · refine⟨⟨o,I.kIn p o hk,hc⟩,fun a e=>?_⟩
     cases e
     exact⟨o,I.kIn _ o hk,hd⟩
   · have z:∃o,s.heap.get? p=some o∧o.ExactDict:=by
       rcases hk with ⟨kvs,hk⟩ | ⟨kvs,hk⟩
       · obtain⟨_,_,_,_,o,_,_,e,ex,_⟩:=I.hok p _ hk
         exact⟨o,e,ex⟩
       · obtain⟨_,_,_,_,o,_,_,e,ex,_⟩:=I.hok p _ hk
         exact⟨o,e,ex⟩
     obtain⟨o,e,ex⟩:=z
     refine⟨⟨o,e,ex.1⟩,fun a e2=>?_⟩
     cases e2
     exact⟨o,e,ex.2.1⟩
   · obtain⟨o,_,_,_,e,ex,_⟩:=I.hok p _ hk
     refine⟨⟨o,e,ex.1⟩,fun a e2=>?_⟩
     cases e2
     exact⟨o,e,ex.2.1⟩
 | _=>exact False.elim ty
def tBM (K:Frg) (T:String) (r:V→List V→Hp→VK→Prop) (to:TE) (t:TA):TE:=fun σ H Q=>to σ H fun x H1=>tyV K T x H1∧t σ H1 fun xs H2=>r x xs H2 Q
variable {o e:Expr}{es:List Expr}{to:TE}{t:TA}{name:Str}{apos cpos:Pos}{T id:String}{r:V→List V→Hp→VK→Prop}
theorem pe_bm (pa:PlainAttrs T) (slot:Slot T name id) (hty:typeOf (.builtin id)=pure (.type "method_descriptor")) (hm:MtR X id r) (ho:PE X o to) (ha:PA X (e::es) t)
   (hbase:attributeBase o name X.env (eval o X.env)=eval o X.env:=by rfl)
   (hfew:((backTo cpos (starEach (e::es) X.env)).all (fun x=>!x.1)&&(backToKw cpos (keywordEach [] X.env)).all (fun x=>x.1.isSome)
     && decide ((e::es).length+([]:List Keyword).length+(if ([]:List Keyword).isEmpty then 0 else 1) < 30))=true:=by rfl)
   (hline:(apos.endLine==cpos.line)=true:=by rfl) (hs:starEach (e::es) X.env=(false,eval e X.env)::starEach es X.env:=by rfl) (hplain:(backTo cpos (starEach es X.env)).any (·.1)=false:=by rfl) :
   PE X (.Call (.Attribute o name apos) (e::es) [] cpos) (tBM X.K T r to t):=by
 intro pins s σ H Q I h
 refine wpAny_Call_method_late hbase hfew hline rfl (thn (ho pins s σ H _ I h) fun v s1 ⟨x,H1,I1,r1,ty,q1⟩=>?_)
 obtain⟨h1,h2⟩:=tyV_is I1 r1 ty
 refine⟨T,id,pa,slot,hty,h1,h2,?_⟩
 have hA:=ha cpos pins s1 σ H1 _ I1 q1
 rw[hs] at hA ⊢
 refine Calls.callWith_builtin (by show(false||(backTo cpos (starEach es X.env)).any (·.1))=false;rw[hplain] <;> rfl) (Calls.evalArgs_plain ?_)
 exact thn hA fun us s2 ⟨vs,H2,I2,r2,q2⟩=>hm pins s2 σ H2 x vs v us Q I2 r1 r2 q2
end
end L2
namespace L2
open PySem PySem.Spec PyProof.Rows
def MtM (X:Cx) (id:String) (r:V→List V→Hp→VK→Prop):Prop:=
 ∀(pins:List (Addr×Obj)) (s:Shared) (σ:St) (H:Hp) (x:V) (xs:List V) (v:Value) (us:List Value) (Q:VK),Inv X pins σ H s→RelV x v→Vals xs us→r x xs H Q →
   wpAny (model X.prog X.w) X.A (call (.builtin id) (v::us)) (EP X pins σ Q) X.xe s
theorem Vals.one:∀{x:V}{us:List Value},Vals [x] us→∃u,us=[u]∧RelV x u
 | _,_,.cons r .nil=>⟨_,rfl,r⟩
theorem Vals.reverse {xs:List V}{us:List Value}(h:Vals xs us):Vals xs.reverse us.reverse:=by
 induction h with
 | nil=>exact .nil
 | cons r t ih=>rw[List.reverse_cons,List.reverse_cons];exact Vals.append ih (.cons r .nil)
section
variable {X:Cx}{pins:List (Addr×Obj)}{σ:St}{H:Hp}{s:Shared}{l b:Addr}{xs ys zs:List V}
theorem Inv.lset {its its':List Value}{n:Nat}{f:Array Value→Array Value}{t':Nat}(I:Inv X pins σ H s) (hH:H l=some (.lst xs))
   (e:s.heap.get? l=some { cls:=.type "list", data:=.seq its.toArray n }) (hf:f its.toArray=its'.toArray) (hv:Vals ys its') (hz:ys.length≤sizeLine) :
   Inv X pins σ (upd H l (.lst ys)) { s with heap:=s.heap.update l (Obj.mapSeq f),toks:=t' }:=by
 have q:=PySem.IsL.update e f
 rw[hf] at q
 refine I.write (x:=l) (e:=l) (by rw[hH];exact trivial) (.inl rfl) (fun b' u hb hu=>(yC s.heap (Obj.mapSeq f) (Ne.symm hb)).trans hu) ⟨_,q⟩ ?_
 exact⟨hz,its',_,hv,q⟩
theorem Inv.lnew {its:List Value}{t':Nat}(I:Inv X pins σ H s) (hv:Vals ys its) (hz:ys.length≤sizeLine) :
   Inv X pins σ (upd H s.heap.objs.size (.lst ys)) { s with heap:=s.heap.push { cls:=.type "list", data:=.seq its.toArray },toks:=t' }:=
 I.laid (fun _ _ q=>zW _ q) (zR _) ⟨hz,its,0,hv,yZ _ rfl⟩
theorem Inv.fresh (I:Inv X pins σ H s):H s.heap.objs.size=none:=I.hok.fresh (zR _)
theorem Inv.lstM (I:Inv X pins σ H s) (hH:H l=some (.lst xs)):xs.length≤sizeLine∧∃(its:List Value) (n:Nat),Vals xs its∧xs.length=its.length∧s.heap.get? l=some { cls:=.type "list", data:=.seq its.toArray n }:=by
 obtain⟨z,its,n,r,e⟩:=I.hok l _ hH
 exact⟨z,its,n,r,r.length,e⟩
end
section
variable {X:Cx}
def rAppend:V→List V→Hp→VK→Prop:=fun x vs H Q=>∃l xs y,x = .ref l∧vs=[y]∧H l=some (.lst xs)∧xs.length < sizeLine∧Q .non (upd H l (.lst (xs++[y])))
theorem mt_append:MtM X "list.append" rAppend:=by
 intro pins s σ H x vs v us Q I rx rv h
 obtain⟨l,xs,y,rfl,rfl,hH,hz,q⟩:=h
 cases rx
 obtain⟨u,rfl,ru⟩:=rv.one
 obtain⟨z,its,n,r,hl,e⟩:=I.lstM hH
 refine call_meets F.slot_list_append ⟨_,e,rfl⟩ F.entry_list_append (F.args_list_append_2 _ _) (PySem.list_append l its.toArray n u (by rw[zJ];omega)) ⟨e,?_⟩
 refine⟨.non,_,I.lset (its':=its++[u]) hH e (by simp) (r.append (.cons ru .nil)) ?_,rfl,q⟩
 rw[yY,List.length_singleton]
 omega
end
end L2
namespace L2
open PySem PySem.Spec PyProof.Rows
section
variable {κ:Type}[DecidableEq κ]
def valV (kvs:List (κ×V)) (k:κ):Option V:=(kvs.find? fun kv=>decide (kv.1=k)).map (·.2)
def putK (kvs:List (κ×V)) (k:κ) (v:V):List (κ×V):=
 if (kvs.any fun kv=>decide (kv.1=k))=true then kvs.map (fun kv=>if kv.1=k then (kv.1,v) else kv) else kvs++[(k,v)]
theorem valV_pos {p:κ×V}{r:List (κ×V)}{k:κ}(e:p.1=k):valV (p::r) k=some p.2:=by simp[valV,List.find?_cons,e]
theorem valV_neg {p:κ×V}{r:List (κ×V)}{k:κ}(e:¬p.1=k):valV (p::r) k=valV r k:=by simp[valV,List.find?_cons,e]
theorem valV_any (k:κ):∀kvs:List (κ×V),(kvs.any fun kv=>decide (kv.1=k))=(valV kvs k).isSome
 | []=>rfl
 | p::r=>by
   rw[List.any_cons]
   by_cases e:p.1=k
   · simp only[valV_pos e,decide_eq_true e,Bool.true_or,Option.isSome_some]
   · rw[valV_neg e,decide_eq_false e,Bool.false_or];exact valV_any k r
theorem length_putK (kvs:List (κ×V)) (k:κ) (v:V):(putK kvs k v).length≤kvs.length+1:=by
 unfold putK
 split
 · rw[zX];omega
 · rw[yY,yR,List.length_nil];omega
theorem RelO.isSome_eq {o:Option V}{u:Option Value}(r:RelO o u):o.isSome=u.isSome:=by
 cases o with
 | none=>cases u with
   | none=>rfl
   | some _=>exact(show False from r).elim
 | some _=>cases u with
   | none=>exact(show False from r).elim
   | some _=>rfl
theorem RelO.getD {o:Option V}{u:Option Value}{d:V}{d':Value}(r:RelO o u) (rd:RelV d d'):RelV (o.getD d) (u.getD d'):=by
 cases o with
 | none=>cases u with
   | none=>exact rd
   | some _=>exact(show False from r).elim
 | some _=>cases u with
   | none=>exact(show False from r).elim
   | some _=>exact r
theorem KV.val {kvs:List (κ×V)}{vs:List (κ×Value)}(r:KV kvs vs) (k:κ):RelO (valV kvs k) (valueAt vs k):=by
 unfold KV at r
 induction r with
 | nil=>exact True.intro
 | @cons p q ps qs h t ih=>
   obtain⟨h1,h2⟩:=h
   by_cases e:p.1=k
   · have e':q.1=k:=h1.symm.trans e
     have b:valueAt (q::qs) k=some q.2:=by simp[valueAt,List.find?_cons,e']
     rw[valV_pos e,b];exact h2
   · have e':¬q.1=k:=fun z=>e (h1.trans z)
     have b:valueAt (q::qs) k=valueAt qs k:=by simp[valueAt,List.find?_cons,e']
     rw[valV_neg e,b];exact ih
theorem KV.any {kvs:List (κ×V)}{vs:List (κ×Value)}(r:KV kvs vs) (k:κ):(kvs.any fun kv=>decide (kv.1=k))=vs.any fun kv=>decide (kv.1=k):=by
 unfold KV at r
 induction r with
 | nil=>rfl
 | cons h t ih=>rw[List.any_cons,List.any_cons,ih,h.1]
theorem KV.repl {kvs:List (κ×V)}{vs:List (κ×Value)}(r:KV kvs vs) (k:κ) {y:V}{u:Value}(ry:RelV y u) :
   KV (kvs.map fun kv=>if kv.1=k then (kv.1,y) else kv) (vs.map fun kv=>if kv.1=k then (kv.1,u) else kv):=by
 unfold KV at r ⊢
 induction r with
 | nil=>exact .nil
 | @cons p q ps qs h t ih=>
   rw[zI,zI]
   refine .cons ?_ ih
   obtain⟨h1,h2⟩:=h
   by_cases e:p.1=k
   · rw[if_pos e,if_pos (h1.symm.trans e)];exact⟨h1,ry⟩
   · rw[if_neg e,if_neg (fun z=>e (h1.trans z))];exact⟨h1,h2⟩
theorem KV.put {kvs:List (κ×V)}{vs:List (κ×Value)}(r:KV kvs vs) (k:κ) {y:V}{u:Value}(ry:RelV y u):KV (putK kvs k y) (stored vs k u):=by
 unfold putK stored
 rw[r.any k]
 by_cases e:(vs.any fun kv=>decide (kv.1=k))=true
 · rw[if_pos e,if_pos e];exact r.repl k ry
 · rw[if_neg e,if_neg e];exact Paired.snoc r ⟨rfl,ry⟩
theorem KV.length {kvs:List (κ×V)}{vs:List (κ×Value)}(r:KV kvs vs):kvs.length=vs.length:=Paired.length r
end
theorem kV_is {P:Program}{w:World}{k:Key}{u:Value}(r:RelV (kV k) u):(mixKind P w).is k u=true:=by
 cases k with
 | inl i=>obtain⟨t,e⟩:=(show ∃t,u=Value.int i t from r);subst e;exact mixKind_int P w i t
 | inr x=>obtain⟨t,e⟩:=(show ∃t,u=Value.str x t from r);subst e;exact mixKind_str P w x t
theorem items_are {P:Program}{w:World}:∀{ks:List Key}{us:List Value},Vals (ks.map kV) us→ItemsAre (mixKind P w) ks us
 | [],_,r=>by rw[List.map_nil] at r;cases r;exact .nil
 | k::ks,_,r=>by
   rw[zI] at r
   cases r with
   | cons h t=>exact .cons (kV_is h) (items_are t)
abbrev KT (H:Hp):List (List Key×V)→List (List Key×Addr×Value)→Prop:=Paired fun p q=>p.1=q.1∧H q.2.1=some (.tup (p.1.map kV))∧RelV p.2 q.2.2
theorem KT.val {H:Hp}{kvs:List (List Key×V)}{xs:List (List Key×Addr×Value)}(r:KT H kvs xs) (k:List Key):RelO (valV kvs k) ((atKey xs k).map (·.2)):=by
 induction r with
 | nil=>exact True.intro
 | @cons p q ps qs h t ih=>
   obtain⟨h1,_,h2⟩:=h
   by_cases e:p.1=k
   · have e':q.1=k:=h1.symm.trans e
     have b:atKey (q::qs) k=some q.2:=by simp[atKey,List.find?_cons,e']
     rw[valV_pos e,b];exact h2
   · have e':¬q.1=k:=fun z=>e (h1.trans z)
     have b:atKey (q::qs) k=atKey qs k:=by simp[atKey,List.find?_cons,e']
     rw[valV_neg e,b];exact ih
theorem KT.repl {H:Hp}{kvs:List (List Key×V)}{xs:List (List Key×Addr×Value)}(r:KT H kvs xs) (k:List Key) {y:V}{u:Value}(ry:RelV y u) :
   KT H (kvs.map fun kv=>if kv.1=k then (kv.1,y) else kv) (xs.map (putAt k u)):=by
 induction r with
 | nil=>exact .nil
 | @cons p q ps qs h t ih=>
   rw[zI,zI]
   refine .cons ?_ ih
   obtain⟨h1,h2,h3⟩:=h
   unfold putAt
   by_cases e:p.1=k
   · rw[if_pos e,if_pos (h1.symm.trans e)];exact⟨h1,h2,ry⟩
   · rw[if_neg e,if_neg (fun z=>e (h1.trans z))];exact⟨h1,h2,h3⟩
theorem KT.put {H:Hp}{kvs:List (List Key×V)}{xs:List (List Key×Addr×Value)}(r:KT H kvs xs) (k:List Key) {b:Addr}{y:V}{u:Value}(hb:H b=some (.tup (k.map kV))) (ry:RelV y u) :
   KT H (putK kvs k y) (storedH xs k b u):=by
 have e:(kvs.any fun kv=>decide (kv.1=k))=(atKey xs k).isSome:=by
   rw[valV_any,(r.val k).isSome_eq,Option.isSome_map]
 unfold putK storedH
 rw[e]
 by_cases q:(atKey xs k).isSome=true
 · rw[if_pos q,if_pos q];exact r.repl k ry
 · rw[if_neg q,if_neg q];exact Paired.snoc r ⟨rfl,hb,ry⟩
theorem KT.keeps {H H':Hp}{kvs:List (List Key×V)}{xs:List (List Key×Addr×Value)}(r:KT H kvs xs) (ht:∀b ys,H b=some (.tup ys)→H' b=some (.tup ys)):KT H' kvs xs:=
 Paired.mapP r fun _ _ z=>⟨z.1,ht _ _ z.2.1,z.2.2⟩
section
variable {P:Program}{w:World}{H:Hp}{h:Heap}{a:Addr}
theorem rd_of {u:HO}(ok:HOk P w H h) (e:Rd H a u):ObjOk P w H h a u:=e.ok ok
theorem dk_rd {kvs:List (Key×V)}(ok:HOk P w H h) (e:Rd H a (.dK kvs)):kvs.length≤sizeLine∧(a==sysModules)=false∧∃vs,KV kvs vs∧h.DictOf (mixKind P w) a vs:=
 show ObjOk P w H h a (.dK kvs) from rd_of ok e
theorem dk_of {kvs:List (Key×V)}(ok:HOk P w H h) (e:H a=some (.dK kvs)):kvs.length≤sizeLine∧(a==sysModules)=false∧∃vs,KV kvs vs∧h.DictOf (mixKind P w) a vs:=dk_rd ok (.inl e)
theorem key_of {ks:List Key}(ok:HOk P w H h) (e:H a=some (.tup (ks.map kV))):(tupleKind (mixKind P w)).is h ks a:=by
 obtain⟨_,its,r,o,h1,h2,n,h3⟩:=(show ObjOk P w H h a (.tup (ks.map kV)) from ok a _ e)
 exact⟨o,its.toArray,n,h1,h2,h3,by simpa using items_are r⟩
theorem dt_rd {kvs:List (List Key×V)}(ok:HOk P w H h) (e:Rd H a (.dT kvs)):kvs.length≤sizeLine∧(a==sysModules)=false ∧
   ∃xs,KT H kvs xs∧h.DictOfH (tupleKind (mixKind P w)) a xs:=by
 obtain⟨z,y,xs,r,o,es,ep,h1,h2,h3,h4,h5⟩:=(show ObjOk P w H h a (.dT kvs) from rd_of ok e)
 refine⟨z,y,xs,r,o,es,ep,h1,h2,h3,h4,fun x hx=>?_,h5⟩
 have all:∀{l:List (List Key×V)}{m:List (List Key×Addr×Value)},KT H l m→∀x∈m,(tupleKind (mixKind P w)).is h x.1 x.2.1:=by
   intro l m q
   induction q with
   | nil=>intro x hx;exact nomatch hx
   | @cons p q ps qs hq t ih=>
     intro x hx
     rcases yX.mp hx with e | hx
     · subst e
       exact key_of ok (by rw[← hq.1];exact hq.2.1)
     · exact ih x hx
 exact all r x hx
theorem dt_of {kvs:List (List Key×V)}(ok:HOk P w H h) (e:H a=some (.dT kvs)):kvs.length≤sizeLine∧(a==sysModules)=false ∧
   ∃xs,KT H kvs xs∧h.DictOfH (tupleKind (mixKind P w)) a xs:=dt_rd ok (.inl e)
end
def DGet (H:Hp) (a:Addr) (y:V) (r:Option V):Prop:=
 (∃kvs k,Rd H a (.dK kvs)∧y=kV k∧r=valV kvs k)∨∃kvs k b,Rd H a (.dT kvs)∧y = .ref b∧H b=some (.tup (k.map kV))∧r=valV kvs k
def DPut (H:Hp) (a:Addr) (y v:V) (H':Hp):Prop:=
 (∃kvs k,H a=some (.dK kvs)∧y=kV k∧kvs.length < sizeLine∧H'=upd H a (.dK (putK kvs k v))) ∨
 ∃kvs k b,H a=some (.dT kvs)∧y = .ref b∧H b=some (.tup (k.map kV))∧kvs.length < sizeLine∧H'=upd H a (.dT (putK kvs k v))
section
variable {X:Cx}{pins:List (Addr×Obj)}{σ:St}{H:Hp}{s:Shared}{a:Addr}{y v:V}{u r:Value}{o:Option V}{A:Around}{E:Value→Shared→Prop}
theorem Inv.big (I:Inv X pins σ H s):sysModules < s.heap.objs.size:=by
 have h:mainGlobals < s.heap.objs.size:=(I.mod.glob.keeps I.bk).lt
 exact Nat.lt_trans (by decide) h
theorem d_getItem {Q:Value→Shared→Prop}(hu:A.units+1 < cLine) (I:Inv X pins σ H s) (g:DGet H a y (some v)) (ry:RelV y u) (h:∀w' s',Inv X pins σ H s'→RelV v w'→Q w' s') :
   wpAny (model X.prog X.w) A (getItem (.ref a) u) Q E s:=by
 rcases g with ⟨kvs,k,e,ey,l⟩ | ⟨kvs,k,b,e,ey,eb,l⟩
 · subst ey
   obtain⟨z,hd,vs,rel,dd⟩:=dk_rd I.hok e
   obtain⟨w',hw,rw'⟩:=RelO.some_of (v:=v) (o:=valueAt vs k) (by rw[l];exact rel.val k)
   exact wpAny_getItem_of (kV_is ry) dd.mapOf hw (h w' _ (I.tok _) rw')
 · subst ey
   cases (show u=Value.ref b from ry)
   obtain⟨z,hd,xs,rel,dd⟩:=dt_rd I.hok e
   obtain⟨w',hw,rw'⟩:=RelO.some_of (v:=v) (o:=(atKey xs k).map (·.2)) (by rw[l];exact rel.val k)
   obtain⟨p,hp,hp2⟩:=Option.map_eq_some_iff.mp hw
   refine wpAny_getItem_heap (tupleKind_room_in1 hu) (key_of I.hok eb) dd hp ?_
   rw[hp2]
   exact h w' _ (I.tok _) rw'
theorem d_in {Q:Value→Shared→Prop}(hu:A.units+1 < cLine) (I:Inv X pins σ H s) (g:DGet H a y o) (ry:RelV y u) (h:∀s',Inv X pins σ H s'→Q (.bool o.isSome) s') :
   wpAny (model X.prog X.w) A (compareOp .In u (.ref a)) Q E s:=by
 rcases g with ⟨kvs,k,e,ey,l⟩ | ⟨kvs,k,b,e,ey,eb,l⟩
 · subst ey
   obtain⟨z,hd,vs,rel,dd⟩:=dk_rd I.hok e
   refine wpAny_in_of (kV_is ry) hd dd.mapOf ?_
   rw[← (rel.val k).isSome_eq,← l]
   exact h _ (I.tok _)
 · subst ey
   cases (show u=Value.ref b from ry)
   obtain⟨z,hd,xs,rel,dd⟩:=dt_rd I.hok e
   refine wpAny_in_heap (tupleKind_room_in1 hu) (key_of I.hok eb) hd dd ?_
   have q:=(rel.val k).isSome_eq
   rw[Option.isSome_map] at q
   rw[← q,← l]
   exact h _ (I.tok _)
theorem d_notIn {Q:Value→Shared→Prop}(hu:A.units+1 < cLine) (I:Inv X pins σ H s) (g:DGet H a y o) (ry:RelV y u) (h:∀s',Inv X pins σ H s'→Q (.bool (!o.isSome)) s') :
   wpAny (model X.prog X.w) A (compareOp .NotIn u (.ref a)) Q E s:=by
 rcases g with ⟨kvs,k,e,ey,l⟩ | ⟨kvs,k,b,e,ey,eb,l⟩
 · subst ey
   obtain⟨z,hd,vs,rel,dd⟩:=dk_rd I.hok e
   refine wpAny_notIn_of (kV_is ry) hd dd.mapOf ?_
   rw[← (rel.val k).isSome_eq,← l]
   exact h _ (I.tok _)
 · subst ey
   cases (show u=Value.ref b from ry)
   obtain⟨z,hd,xs,rel,dd⟩:=dt_rd I.hok e
   refine wpAny_notIn_heap (tupleKind_room_in1 hu) (key_of I.hok eb) hd dd ?_
   have q:=(rel.val k).isSome_eq
   rw[Option.isSome_map] at q
   rw[← q,← l]
   exact h _ (I.tok _)
theorem d_write {h':Heap}{t':Nat}{ob:HO}(I:Inv X pins σ H s) (mu:Mut (H a)) (hs:Heap.SameBut a s.heap h') (he:∃q,h'.get? a=some q) (new:ObjOk X.prog X.w (upd H a ob) h' a ob) :
   Inv X pins σ (upd H a ob) { s with heap:=h',toks:=t' }:=
 I.write (x:=a) (e:=a) mu (.inl rfl) (fun b q hb z=>(hs.2 b hb).trans z) he new
theorem dk_new {P:Program}{w:World}{H':Hp}{h':Heap}{kvs:List (Key×V)}{vs:List (Key×Value)}(z:kvs.length≤sizeLine) (hd:(a==sysModules)=false) (rel:KV kvs vs) (dd:h'.DictOf (mixKind P w) a vs) :
   ObjOk P w H' h' a (.dK kvs):=⟨z,hd,vs,rel,dd⟩
theorem d_setItem {H':Hp}{Q:Unit→Shared→Prop}(hu:A.units+1 < cLine) (I:Inv X pins σ H s) (g:DPut H a y v H') (ry:RelV y u) (rv:RelV v r) (h:∀s',Inv X pins σ H' s'→Q () s') :
   wpAny (model X.prog X.w) A (setItem (.ref a) u r) Q E s:=by
 rcases g with ⟨kvs,k,e,ey,l,eH⟩ | ⟨kvs,k,b,e,ey,eb,l,eH⟩
 · subst ey eH
   obtain⟨z,hd,vs,rel,dd⟩:=dk_of I.hok e
   have hz:vs.length≤sizeLine:=by rw[← rel.length];exact z
   have hl:(putK kvs k v).length≤sizeLine:=by have:=length_putK kvs k v;omega
   refine wpAny_setItem_pairs (hsz:=hz) (kV_is ry) dd fun h' dd' hs=>h _ ?_
   have he:∃q,h'.get? a=some q:=let ⟨q,_,_,hq,_⟩:=dd';⟨q,hq⟩
   exact d_write I (by rw[e];exact True.intro) hs he (dk_new hl hd (rel.put k rv) dd')
 · subst ey eH
   cases (show u=Value.ref b from ry)
   obtain⟨z,hd,xs,rel,dd⟩:=dt_of I.hok e
   have hz:xs.length≤sizeLine:=by rw[← Paired.length rel];exact z
   have hl:(putK kvs k v).length≤sizeLine:=by have:=length_putK kvs k v;omega
   refine wpAny_setItem_heap (hsz:=hz) (tupleKind_room_in1 hu) (key_of I.hok eb) dd fun h' dd' hs=>h _ ?_
   obtain⟨q,es,ep,hq,h2,h3,h4,_,h5⟩:=dd'
   refine d_write I (by rw[e];exact True.intro) hs ⟨q,hq⟩ ⟨hl,hd,_,(rel.put k eb rv).keeps fun c ys ec=>?_,q,es,ep,hq,h2,h3,h4,h5⟩
   rw[upd_ne (ne_of ec e (fun z=>nomatch z))]
   exact ec
end
def NoSl (i:Expr):Prop:=∀ov iv,subscripted i false ov iv=operate [ov,iv] (getItem ov iv)
theorem subD_of {prog:Program}{w:World}{A:Around}{E:Value→Shared→Prop}{s:Shared}{env:Env}{value slice:Expr}{pos:Pos}{T id:String}{Q:Value→Shared→Prop}
   (hl:typeLookup (.type T) "__getitem__"=pure (some (.builtin id))) (hs:NoSl slice)
   (h:wpAny (model prog w) A (eval value env) (fun o s₁=>wpAny (model prog w) A (eval slice env) (fun i s₂=>s₂.TypeIs o T∧wpAny (model prog w) A (getItem o i) Q E s₂) E s₁) E s) :
   wpAny (model prog w) A (eval (.Subscript value slice pos) env) Q E s:=by
 refine Subscript_ (wpAny_mono h (fun o s₁ h₁=>wpAny_mono h₁ (fun i s₂ h₂=>?_) fun _ _ x=>x) fun _ _ x=>x)
 obtain⟨hT,h₂⟩:=h₂
 unfold subscriptTail
 refine zZ ?_
 rw[getitemInPython_of_ne hT.not_modules]
 refine zZ (wpAny_specialOf hT hl ?_)
 have fin:wpAny (model prog w) A (subscripted slice false o i) (fun r s₃=>wpAny (model prog w) A (letTemporaryGo value o r >>= fun _=>pure r) Q E s₃) E s₂:=by
   rw[hs o i]
   exact wpAny_operating (wpAny_mono h₂ (fun r s₃ h₃=>zZ (wpAny_letTemporaryGo (zY h₃))) fun _ _ x=>x)
 first
   | exact zY (zZ fin)
   | exact zZ (zY (zZ fin))
   | exact zZ fin
theorem dict_typeIs {X:Cx}{pins:List (Addr×Obj)}{σ:St}{H:Hp}{s:Shared}{a:Addr}{y:V}{o:Option V}(I:Inv X pins σ H s) (g:DGet H a y o):s.TypeIs (.ref a) "dict" := by
 rcases g with ⟨kvs,k,e,_,_⟩ | ⟨kvs,k,b,e,_,_,_⟩
 · obtain⟨_,_,vs,_,dd⟩:=dk_rd I.hok e
   exact dd.typeIs
 · obtain⟨_,_,xs,_,dd⟩:=dt_rd I.hok e
   exact dd.typeIs
def tDGet (td ty:TE):TE:=fun σ H Q=>td σ H fun x H1=>ty σ H1 fun y H2=>∃a v,x = .ref a∧DGet H2 a y (some v)∧Q v H2
def tDIn (ty td:TE):TE:=fun σ H Q=>ty σ H fun y H1=>td σ H1 fun x H2=>∃a o,x = .ref a∧DGet H2 a y o∧Q (.bl o.isSome) H2
def tDNotIn (ty td:TE):TE:=fun σ H Q=>ty σ H fun y H1=>td σ H1 fun x H2=>∃a o,x = .ref a∧DGet H2 a y o∧Q (.bl (!o.isSome)) H2
def sDPut (td ty tv:TE):TS:=fun D σ H=>tv σ H fun v H1=>td σ H1 fun x H2=>ty σ H2 fun y H3=>∃a H4,x = .ref a∧DPut H3 a y v H4∧D.nx σ H4
section
variable {X:Cx}{o i e value:Expr}{pos pos' tpos:Pos}{td ty tv:TE}
theorem pe_dget (hu:X.A.units+1 < cLine) (ho:PE X o td) (hi:PE X i ty) (hs:NoSl i):PE X (.Subscript o i pos) (tDGet td ty):=by
 intro pins s σ H Q I h
 refine subD_of PySem.F.slot_dict_getitem.lookup hs (thn (ho pins s σ H _ I h) fun u s1 ⟨x,H1,I1,rx,q1⟩=>thn (hi pins s1 σ H1 _ I1 q1) fun iv s2 ⟨y,H2,I2,ry,a,v,ex,g,q2⟩=>?_)
 subst ex
 obtain rfl:u=Value.ref a:=rx
 exact⟨dict_typeIs I2 g,d_getItem hu I2 g ry fun w' s3 I3 rw'=>⟨v,H2,I3,rw',q2⟩⟩
theorem pc_din (hu:X.A.units+1 < cLine) (hi:PE X i ty) (ho:PE X o td):PC X .In i o (tDIn ty td):=by
 intro pins s σ H Q I h
 refine thn (hi pins s σ H _ I h) fun iv s1 ⟨y,H1,I1,ry,q1⟩=>thn (ho pins s1 σ H1 _ I1 q1) fun u s2 ⟨x,H2,I2,rx,a,ov,ex,g,q2⟩=>?_
 subst ex
 obtain rfl:u=Value.ref a:=rx
 exact d_in hu I2 g ry fun s3 I3=>⟨.bl ov.isSome,H2,I3,rfl,q2⟩
theorem pc_dnotin (hu:X.A.units+1 < cLine) (hi:PE X i ty) (ho:PE X o td):PC X .NotIn i o (tDNotIn ty td):=by
 intro pins s σ H Q I h
 refine thn (hi pins s σ H _ I h) fun iv s1 ⟨y,H1,I1,ry,q1⟩=>thn (ho pins s1 σ H1 _ I1 q1) fun u s2 ⟨x,H2,I2,rx,a,ov,ex,g,q2⟩=>?_
 subst ex
 obtain rfl:u=Value.ref a:=rx
 exact d_notIn hu I2 g ry fun s3 I3=>⟨.bl (!ov.isSome),H2,I3,rfl,q2⟩
theorem ps_dput (hu:X.A.units+1 < cLine) (ho:PE X o td) (hi:PE X i ty) (hv:PE X value tv) (hs:swapsWith value (some (.Subscript o i pos')) pos.line X.env=pure false) :
   PS X (.Assign [.Subscript o i pos'] value pos) (sDPut td ty tv):=by
 intro pins s σ H D I h
 refine wpAny_Assign_Subscript (thn (hv pins s σ H _ I h) fun r s1 ⟨v,H1,I1,rv,q1⟩=>thn (ho pins s1 σ H1 _ I1 q1) fun u s2 ⟨x,H2,I2,rx,q2⟩=>thn (hi pins s2 σ H2 _ I2 q2) fun iv s3 ⟨y,H3,I3,ry,a,H4,ex,g,q3⟩=>?_) hs
 subst ex
 obtain rfl:u=Value.ref a:=rx
 exact d_setItem hu I3 g ry rv fun s4 I4=>⟨σ,H4,I4,q3⟩
end
theorem dk_empty {P:Program}{w:World}{H:Hp}(h:Heap) (hb:sysModules < h.objs.size):ObjOk P w H (h.push { cls:=.type "dict", data:=.dict #[] }) h.objs.size (.dK []):=
 ⟨xT _,beq_eq_false_iff_ne.mpr (Ne.symm (zC hb)),[],.nil,Heap.DictOf.new h⟩
def tDNewK:TE:=fun _ H Q=>∀p,H p=none→Q (.ref p) (upd H p (.dK []))
section
variable {X:Cx}{pos:Pos}
theorem pe_dnewK:PE X (.Dict [] [] pos) tDNewK:=fun pins s σ H Q I h=>
 wpAny_Dict_empty ⟨.ref s.heap.objs.size,_,I.laid (a:=s.heap.objs.size) (o:=.dK []) (t':=s.toks) (fun _ _ q=>zW _ q) (zR _) (dk_empty s.heap I.big),rfl,h _ (I.hok.fresh (zR _))⟩
end
def tPairs:List (TE×TE)→St→Hp→(List (V×V)→Hp→Prop)→Prop
 | [],_,H,Q=>Q [] H
 | (tk,tv)::r,σ,H,Q=>tk σ H fun x H1=>tv σ H1 fun y H2=>tPairs r σ H2 fun ps H3=>Q ((x,y)::ps) H3
abbrev VV:List (V×V)→List (Value×Value)→Prop:=Paired fun p q=>RelV p.1 q.1∧RelV p.2 q.2
def PPs (X:Cx) (pos:Pos) (keys:List (Option Expr)) (values:List Expr) (trs:List (TE×TE)):Prop:=
 ∀(pins:List (Addr×Obj)) (s:Shared) (σ:St) (H:Hp) (Q:List (V×V)→Hp→Prop),Inv X pins σ H s→tPairs trs σ H Q →
   wpAny (model X.prog X.w) X.A (evalPairs (pairTrees keys values X.env pos)) (fun vs s'=>∃ps H',Inv X pins σ H' s'∧VV ps vs∧Q ps H') X.xe s
theorem pps_nil {X:Cx}{pos:Pos}:PPs X pos [] [] []:=fun pins s σ H Q I h=>pairTrees_nil_walk ⟨[],H,I,.nil,h⟩
theorem pps_cons {X:Cx}{pos:Pos}{k v:Expr}{ks:List (Option Expr)}{vs:List Expr}{tk tv:TE}{trs:List (TE×TE)}(hk:PE X k tk) (hv:PE X v tv) (hr:PPs X pos ks vs trs) :
   PPs X pos (some k::ks) (v::vs) ((tk,tv)::trs):=fun pins s σ H Q I h=>
 pairTrees_cons_walk (thn (hk pins s σ H _ I h) fun u s1 ⟨x,H1,I1,rx,q1⟩=>thn (hv pins s1 σ H1 _ I1 q1) fun w2 s2 ⟨y,H2,I2,ry,q2⟩=>
   thn (hr pins s2 σ H2 _ I2 q2) fun ws s3 ⟨ps,H3,I3,rel,q3⟩=>⟨(x,y)::ps,H3,I3,.cons ⟨rx,ry⟩ rel,q3⟩)
def mergeK (kvs more:List (Key×V)):List (Key×V):=more.foldl (fun acc kv=>putK acc kv.1 kv.2) kvs
theorem KV.merge:∀{more:List (Key×V)}{rs:List (Key×Value)}{kvs:List (Key×V)}{vs:List (Key×Value)},KV more rs→KV kvs vs→KV (mergeK kvs more) (merged vs rs):=by
 intro more rs kvs vs r
 unfold KV at r
 induction r generalizing kvs vs with
 | nil=>intro q;exact q
 | @cons p q ps qs h t ih=>
   intro r0
   have e:KV (putK kvs p.1 p.2) (stored vs q.1 q.2):=by
     have:=r0.put p.1 h.2
     rw[← h.1];exact this
   exact ih e
theorem length_mergeK:∀(more kvs:List (Key×V)),(mergeK kvs more).length≤kvs.length+more.length
 | [],kvs=>by show kvs.length≤kvs.length+0;omega
 | p::r,kvs=>by
   have h1:=length_mergeK r (putK kvs p.1 p.2)
   have h2:=length_putK kvs p.1 p.2
   show(mergeK (putK kvs p.1 p.2) r).length≤_
   rw[yR];omega
theorem carries_of {P:Program}{w:World}:∀{kvs:List (Key×V)}{ws:List (Value×Value)},VV (kvs.map fun kv=>(kV kv.1,kv.2)) ws→∃rs,Carries (mixKind P w) ws rs∧KV kvs rs
 | [],_,r=>by rw[List.map_nil] at r;cases r;exact⟨[],True.intro,.nil⟩
 | p::kvs,_,r=>by
   rw[zI] at r
   cases r with
   | @cons a b as bs h t=>
     obtain⟨rs,c,q⟩:=carries_of (P:=P) (w:=w) t
     obtain⟨b1,b2⟩:=b
     exact⟨(p.1,b2)::rs,⟨kV_is h.1,rfl,c⟩,.cons ⟨rfl,h.2⟩ q⟩
def tDisp (trs:List (TE×TE)):TE:=fun σ H Q=>∀p,H p=none→tPairs trs σ (upd H p (.dK [])) fun ps H2=>H2 p=some (.dK [])∧∃kvs:List (Key×V),ps=kvs.map (fun kv=>(kV kv.1,kv.2))∧kvs.length≤15∧Q (.ref p) (upd H2 p (.dK (mergeK [] kvs)))
theorem pe_disp {X:Cx}{pos:Pos}{keys:List (Option Expr)}{values:List Expr}{trs:List (TE×TE)}(h:PPs X pos keys values trs) (hall:keys.all (·.isSome)=true) (hl:keys.length=values.length) (h0:keys≠[])
   (h15:keys.length≤15):PE X (.Dict keys values pos) (tDisp trs):=by
 intro pins s σ H Q I q
 have hn:=I.hok.fresh (zR s.heap.objs.size)
 have I1:=I.laid (a:=s.heap.objs.size) (o:=.dK []) (h':=s.heap.push { cls:=.type "dict", data:=.dict #[] }) (t':=s.toks) (fun _ _ q=>zW _ q) (zR _) (dk_empty s.heap I.big)
 refine wpAny_Dict_walk (knd:=mixKind X.prog X.w) hall hl h0 h15 (thn (h pins _ σ _ _ I1 (q _ hn)) fun ws s2 ⟨ps,H2,I2,rel,e,kvs,ep,lk,q2⟩=>?_)
 subst ep
 obtain⟨rs,c,rk⟩:=carries_of (P:=X.prog) (w:=X.w) rel
 obtain⟨z,hd,vs0,r0,dd⟩:=dk_of I2.hok e
 cases r0
 refine⟨rs,c,dd,fun h' dd' hs=>⟨.ref s.heap.objs.size,_,?_,rfl,q2⟩⟩
 have hz:(mergeK [] kvs).length≤sizeLine:=by
   have h1:=length_mergeK kvs []
   rw[List.length_nil] at h1
   rw[sizeLine_eq];omega
 have he:∃q,h'.get? s.heap.objs.size=some q:=let ⟨q,_,_,hq,_⟩:=dd';⟨q,hq⟩
 exact d_write I2 (by rw[e];exact True.intro) hs he (dk_new hz hd (rk.merge .nil) dd')
structure M1 (X:Cx) (o:Expr) (m:Str) (apos:Pos) (e:Expr) (cpos:Pos):Prop where
 base:attributeBase o m X.env (eval o X.env)=eval o X.env
 few:((backTo cpos (starEach [e] X.env)).all (fun x=>!x.1)&&(backToKw cpos (keywordEach [] X.env)).all (fun x=>x.1.isSome)
   && decide (([e]:List Expr).length+([]:List Keyword).length+(if ([]:List Keyword).isEmpty then 0 else 1) < 30))=true
 line:(apos.endLine==cpos.line)=true
 trees:backTo cpos (starEach [e] X.env)=[(false,eval e X.env)]
structure M2 (X:Cx) (o:Expr) (m:Str) (apos:Pos) (e f:Expr) (cpos:Pos):Prop where
 base:attributeBase o m X.env (eval o X.env)=eval o X.env
 few:((backTo cpos (starEach [e,f] X.env)).all (fun x=>!x.1)&&(backToKw cpos (keywordEach [] X.env)).all (fun x=>x.1.isSome)
   && decide (([e,f]:List Expr).length+([]:List Keyword).length+(if ([]:List Keyword).isEmpty then 0 else 1) < 30))=true
 line:(apos.endLine==cpos.line)=true
 trees:backTo cpos (starEach [e,f] X.env)=[(false,eval e X.env),(false,eval f X.env)]
def IsD (H:Hp) (a:Addr):Prop:=(∃kvs,Rd H a (.dK kvs))∨∃kvs,Rd H a (.dT kvs)
theorem isD_at {X:Cx}{pins:List (Addr×Obj)}{σ:St}{H:Hp}{s:Shared}{a:Addr}(I:Inv X pins σ H s) (d:IsD H a) :
   s.TypeIs (.ref a) "dict" ∧ (∀b,Value.ref a = .ref b→∃ob,s.heap.get? b=some ob∧ob.dict=none)∧(a==sysModules)=false:=by
 rcases d with ⟨kvs,e⟩ | ⟨kvs,e⟩
 · obtain⟨_,hd,vs,_,dd⟩:=dk_rd I.hok e
   refine⟨dd.typeIs,fun b q=>?_,hd⟩
   cases q
   obtain⟨ob,_,_,h1,h2,_⟩:=dd
   exact⟨ob,h1,h2.2.1⟩
 · obtain⟨_,hd,xs,_,dd⟩:=dt_rd I.hok e
   refine⟨dd.typeIs,fun b q=>?_,hd⟩
   cases q
   obtain⟨ob,_,_,h1,h2,_⟩:=dd
   exact⟨ob,h1,h2.2.1⟩
section
variable {X:Cx}{pins:List (Addr×Obj)}{σ:St}{H:Hp}{s:Shared}{a:Addr}{y d:V}{u r:Value}{o:Option V}{A:Around}{E:Value→Shared→Prop}
theorem d_get2 {Q:Value→Shared→Prop}(hu:A.units+1 < cLine) (I:Inv X pins σ H s) (g:DGet H a y o) (ry:RelV y u) (rd:RelV d r) (h:∀w' s',Inv X pins σ H s'→RelV (o.getD d) w'→Q w' s') :
   wpAny (model X.prog X.w) A (call (.builtin "dict.get") [.ref a,u,r]) Q E s:=by
 rcases g with ⟨kvs,k,e,ey,l⟩ | ⟨kvs,k,b,e,ey,eb,l⟩
 · subst ey
   obtain⟨z,hd,vs,rel,dd⟩:=dk_rd I.hok e
   refine call_meetsIn PySem.F.slot_dict_get dd.typeIs PySem.F.entry_dict_get (PySem.F.args_dict_get_3 _ _ _) (meets_dict_get_default (mixKind X.prog X.w) a (kV_is ry) hd r) ⟨_,dd.mapOf,h _ _ (I.tok _) ?_⟩
   rw[l]
   exact(rel.val k).getD rd
 · subst ey
   cases (show u=Value.ref b from ry)
   obtain⟨z,hd,xs,rel,dd⟩:=dt_rd I.hok e
   refine call_meetsIn PySem.F.slot_dict_get dd.typeIs PySem.F.entry_dict_get (PySem.F.args_dict_get_3 _ _ _) (meetsH_dict_get_default (tupleKind (mixKind X.prog X.w)) a b hd r) ⟨tupleKind_room_in1 hu,k,xs,key_of I.hok eb,dd,h _ _ (I.tok _) ?_⟩
   rw[l]
   exact(rel.val k).getD rd
end
def tDGet2 (td ty tx:TE):TE:=fun σ H Q=>td σ H fun x H1=>∃a,x = .ref a∧IsD H1 a∧ty σ H1 fun y H2=>tx σ H2 fun z H3=>∃o,DGet H3 a y o∧Q (o.getD z) H3
section
variable {X:Cx}{o e f:Expr}{apos cpos:Pos}{td ty tx:TE}
theorem pe_dget2 (hu:X.A.units+1 < cLine) (ho:PE X o td) (he:PE X e ty) (hf:PE X f tx) (m:M2 X o "get" apos e f cpos):PE X (.Call (.Attribute o "get" apos) [e,f] [] cpos) (tDGet2 td ty tx):=by
 intro pins s σ H Q I h
 refine wpAny_Call_method m.base m.few m.line PySem.F.plainAttrs_dict PySem.F.slot_dict_get PySem.F.type_dict_get (thn (ho pins s σ H _ I h) fun u s1 ⟨x,H1,I1,rx,a,ex,d,q1⟩=>?_)
 subst ex
 obtain rfl:u=Value.ref a:=rx
 obtain⟨t1,t2,_⟩:=isD_at I1 d
 refine⟨t1,t2,?_⟩
 rw[m.trees]
 refine Calls.callWith_builtin rfl (Calls.evalArgs_plain (xP (thn (he pins s1 σ H1 _ I1 q1) fun iv s2 ⟨y,H2,I2,ry,q2⟩=>
   xP (thn (hf pins s2 σ H2 _ I2 q2) fun fv s3 ⟨z,H3,I3,rz,ov,g,q3⟩=>Calls.spliced_nil ?_))))
 exact d_get2 hu I3 g ry rz fun w' s4 I4 rw'=>⟨_,H3,I4,rw',q3⟩
end
end L2
namespace Att
open PySem PySem.W PySem.Calls PyProof.Rows
theorem ints_of_wellAll {P:Params}{h:Heap}:∀(ns:List Int) (vs:List Value),WellAll P h vs (ns.map WData.int)→IntsAre vs ns:=by
 intro ns
 induction ns with
 | nil=>
   intro vs w
   rw[List.map_nil] at w
   cases w
   exact .nil
 | cons n ns ih=>
   intro vs w
   rw[zI] at w
   cases w with
   | cons a b=>
     cases a
     exact .cons _ _ (ih _ b)
theorem script_of {l:OpenLaw}{n:Nat}(hn:l.most=some n) {P:Params}{h:Heap}{args:List WData}{vals:List Value}
   (hpre:l.row.toRowW.claim.pre args=true) (hwl:WellAll P h vals args) :
   ∃a vs ns,vals=[Value.ref a]∧args=[WData.list (ns.map WData.int)]∧h.get? a=some { cls:=.type "list", data:=.seq vs.toArray }∧IntsAre vs ns∧ns.length≤n:=by
 have hsh:WShape.hasAll [] args [.list .int]=true:=(pre_splitW hpre).1
 have hc:l.pre.holds [] { args:=args }=true:=(pre_splitW hpre).2
 obtain⟨d,r,rfl,h1,h2⟩:=hasAllW_cons hsh
 obtain rfl:=hasAllW_nil h2
 obtain⟨xs,rfl,h3⟩:=hasW_list h1
 obtain⟨ns,rfl⟩:=items_int h3
 have hlen:ns.length≤n:=by
   unfold OpenLaw.pre at hc
   have h4:(WTm.not (.lt (.lit (.int (n:Int))) (.len (.arg 0)))).holds [] { args:=[.list (ns.map .int)] }=true:=by
     have h4:=(holds_andW hc).1
     rw[hn] at h4
     exact h4
   have h5:=condW_of h4 (w_not (w_lt w_lit (w_len_list (w_arg rfl))))
   rw[zX] at h5
   refine Nat.le_of_not_lt fun q=>?_
   have q':(n:Int) < ((ns.length:Nat):Int):=by omega
   first
     | (rw[decide_eq_true q'] at h5;exact absurd h5 (by decide))
     | (simp at h5;omega)
 cases hwl with
 | cons w1 w2=>
   cases w2
   cases w1 with
   | list ho hall=>exact⟨_,_,ns,rfl,rfl,ho,ints_of_wellAll ns _ hall,hlen⟩
theorem post_true (l:OpenLaw) (args:List WData):l.row.toRowW.claim.post args (.bool true) args=true:=
 postW_of (r:=l.row.toRowW) (X:=(true==true))
   (show WShape.has [] (.bool true) .bool=true by first | rfl | decide | simp[WShape.has,WShape.arms,WShape.armsAll])
   (show(WTm.eq .res (.lit (.bool true))).value [] { args:=args,res:=some (.bool true),after:=args }=some (.bool (true==true)) from w_eq_bool (w_res rfl) w_lit) rfl
end Att
namespace L2
open PySem PySem.Spec PyProof.Rows
theorem vals_ints:∀{vs:List Value}{ns:List Int},IntsAre vs ns→Vals (ns.map V.int) vs
 | _,_,.nil=>.nil
 | _,_,.cons n t h=>.cons ⟨t,rfl⟩ (vals_ints h)
def Only (H:Hp):Prop:=∀b,H b=none∨∃o xs,H b=some (.frz o (.lst xs))
theorem law_call {P:Program}{w:World}{K:Frg}{mg mb:Str→Option Value}{CX:CXT}{k:Nat}{fa a:Addr}{fd:FuncData}{x:Str}{sp:Sp}{s₁:Shared}{vs:List Value}{ns:List Int}
   (KX:K.In s₁.heap) (hns:s₁.heap.Ns mainGlobals mg) (hb:s₁.heap.Ns builtinsNs mb) (hbb:∀x:Str,x ≠ "__name__" → mb x=bootBuiltins x) (hlim:s₁.heap.NoLimit) (hg:s₁.gens=#[])
   (ha:s₁.heap.get? a=some { cls:=.type "list", data:=.seq vs.toArray }) (hi:IntsAre vs ns) (hl:ns.length≤sizeLine) (hr:Room k callerA)
   (F:∀base:Heap,K.In base→base.Ns mainGlobals mg→FnOk P w K mg base CX k fa fd [x] sp) (hbind:∀(s:Shared) (u:Value),BindsTo s fd ⟨[u],[]⟩ [(x,u)])
   (hsp:∀H:Hp,Only H→SqL K H a (ns.map V.int)→sp [.ref a] H (fun v _=>v = .bl true) fun _ _ _=>False)
   (hCX:∀H e s',CX [] H s₁ (fun _ _ _=>False) e s'→False) :
   codeAny (model P w) callerA (.call (.ref fa) ⟨[.ref a],[]⟩) (fun r s'=>r = .ok (.ret (.bool true))∧OldK s₁.heap s'.heap∧s'.os=s₁.os∧AllBare s'.gens) s₁:=by
 have rv:=vals_ints hi
 have lenV:=hi.length
 have core:∀H:Hp,Only H→SqL K H a (ns.map V.int)→HOk P w H s₁.heap→(∀b,H b≠none→b=a)→(H a≠none→K.lookup a=none) →
     codeAny (model P w) callerA (.call (.ref fa) ⟨[.ref a],[]⟩) (fun r s'=>r = .ok (.ret (.bool true))∧OldK s₁.heap s'.heap∧s'.os=s₁.os∧AllBare s'.gens) s₁:=by
   intro H hO hS hok hA hK
   have base_of:∀{b:Addr}{o:Obj},s₁.heap.get? b=some o→H b=none→(hidT s₁.heap H).get? b=some o:=fun e n=>hidT_get e n
   have noA:∀{b:Addr}{o:Obj}{es:Array DictEntry}{ep:Nat},s₁.heap.get? b=some o→o.data = .dict es ep→H b=none:=fun {b o es ep} e d=>by
     cases q:H b with
     | none=>rfl
     | some u=>
       have e':b=a:=hA b (by rw[q];simp)
       subst e'
       rw[ha] at e;cases e
       have d':Data.seq vs.toArray _=Data.dict es ep:=d
       cases d'
   have nsK:∀{b:Addr}{m:Str→Option Value},s₁.heap.Ns b m→(hidT s₁.heap H).Ns b m:=fun {b m} ⟨o,es,ep,e,d,r⟩=>⟨o,es,ep,base_of e (noA e d),d,r⟩
   have hKb:K.In (hidT s₁.heap H):=fun b o e=>base_of (KX b o e) (by
     cases q:H b with
     | none=>rfl
     | some u=>
       have e':b=a:=hA b (by rw[q];simp)
       subst e'
       rw[hK (by rw[q];simp)] at e;cases e)
   have hM:Mod K mg (hidT s₁.heap H):=⟨hKb,nsK hns,⟨mb,nsK hb,hbb⟩,let ⟨mc,h1,h2⟩:=hlim;⟨mc,nsK h1,h2⟩⟩
   have e0:Env0 P w K mg (hidT s₁.heap H) callerA [] s₁ H:=⟨rfl,hM,fun b o e=>of_hidT e,Nat.le_of_eq (hidT_size _ _),trivial,fun b hb=>absurd (show b∈([]:List Addr) from hb) (by simp),hok,.of_eq hg⟩
   refine xN ((F _ hKb (nsK hns)).run callerA [] s₁ H ⟨[.ref a],[]⟩ [.ref a] [.ref a] _ _ hr e0 (hbind s₁ (.ref a)) (.cons rfl .nil) (hsp H hO hS)) fun r s' h=>?_
   cases r with
   | error e=>exact(hCX H e s' h).elim
   | ok fl=>
     cases fl with
     | next=>exact False.elim h
     | brk=>exact False.elim h
     | cont=>exact False.elim h
     | ret u=>
       obtain⟨v,H',os,bare,un,hok',r',q⟩:=h
       have q':v = .bl true:=q
       subst q'
       obtain rfl:u=Value.bool true:=r'
       refine⟨rfl,OldK.of_keep fun b o e=>?_,os,bare⟩
       cases q:H b with
       | none=>exact un.keep b o e q (by intro z;exact absurd (show b∈([]:List Addr) from z) (by simp)) (by simp)
       | some u=>
         rcases hO b with z | ⟨ob,xs,z⟩
         · rw[q] at z;cases z
         · have z2:=un.frzs b ob _ z
           obtain⟨e1,_⟩:=hok b _ z
           obtain⟨e2,_⟩:=hok' b _ z2
           rw[e] at e1;cases e1
           exact e2
 cases hk:K.lookup a with
 | some o=>
   have e:=KX a o hk
   rw[ha] at e
   cases e
   refine core (fun _=>none) (fun _=>.inl rfl) (.inr ⟨_,vs.toArray,_,hk,rfl,rfl,rfl,by rw[zJ,lenV];exact hl,by simpa using rv⟩) (fun b u z=>by have z':(none:Option HO)=some u:=z;cases z') (fun b z=>absurd rfl z) fun z=>absurd rfl z
 | none=>
   refine core (fun b=>if b=a then some (.frz { cls:=.type "list", data:=.seq vs.toArray } (.lst (ns.map V.int))) else none) (fun b=>?_) (.inl (.inr ⟨{ cls:=.type "list", data:=.seq vs.toArray },if_pos rfl⟩)) (fun b u z=>?_) (fun b z=>?_) fun _=>hk
   · by_cases hb:b=a
     · exact .inr ⟨_,_,if_pos hb⟩
     · exact .inl (if_neg hb)
   · by_cases hb:b=a
     · have z':=(if_pos hb).symm.trans z
       cases z'
       subst hb
       exact⟨ha,by rw[zX];exact hl,vs,_,rv,ha⟩
     · have z':=(if_neg hb).symm.trans z
       cases z'
   · by_cases hb:b=a
     · exact hb
     · exact absurd (if_neg hb) z
end L2
namespace L2
open PySem PySem.Spec PyProof.Rows
def defArgs (s:Stmt):Arguments:=match s with
 | .FunctionDef _ a _ _ _ _ _ _ _ _=>a
 | _=>{ posonlyargs:=[],args:=[],vararg:=none,kwonlyargs:=[],kw_defaults:=[],kwarg:=none,defaults:=[] }
def defBody (s:Stmt):List Stmt:=match s with
 | .FunctionDef _ _ b _ _ _ _ _ _ _=>b
 | _=>[]
def defScope (s:Stmt):Scope:=match s with
 | .FunctionDef _ _ _ _ _ _ sc _ _ _=>sc
 | _=>{ kind:=.function,names:=[],isGenerator:=false,isCoroutine:=false }
abbrev CX0:CXT:=fun _ _ _ _ _ _=>False
abbrev E0:XK:=fun _ _ _=>False
theorem pass0 {X:Cx}:Passes CX0 X E0:=fun _ _ _ _ _ _ _ h=>h.elim
structure Fun (K:Frg) (x qual:Str) (st:Stmt) (f:Addr) (fd:FuncData):Prop where
 ex:∃(oc:Value) (od:Option Addr) (kV doc pm:Value) (an:Option Addr) (cdv ct:Value) (osl:Array (Option Value)),
   fd=PySem.W.fnOf x qual (defArgs st) (defBody st) (defScope st) .none kV doc pm an cdv ct∧K.lookup f=some ⟨oc,od,.func fd,osl⟩∧PySem.W.codeIn K cdv qual=true
 kp:PySem.W.keepIn K (.ref f)=true
section
variable {P:Program}{w:World}{K:Frg}{mg:Str→Option Value}{base:Heap}
theorem Fun.ok {x qual:Str}{st:Stmt}{f:Addr}{fd:FuncData}{N ps:List Str}{k:Nat}{sp:Sp}(F:Fun K x qual st f fd) (S:FnScope N ps (defScope st)) (len:∀vs H Q E,sp vs H Q E→vs.length=ps.length)
   (hbody:∀(cdv:Value) (A:Around) (outer:List Env) (s:Shared) (H:Hp) (vs:List V) (Q:VK) (E:XK),Room k (A.deeper (envOfC qual (defScope st) s.heap.objs.size f cdv))→sp vs H Q E →
     ∃t,PSs (cxOf CX0 P w K mg base N qual (defScope st) f cdv A outer s H E).nox (defBody st) t∧t { nx:=fun _ H'=>Q .non H',rt:=Q } (start N vs) H):FnOk P w K mg base CX0 (k+1) f fd ps sp:=by
 obtain⟨oc,od,kV,doc,pm,an,cdv,ct,osl,rfl,lk,hcd⟩:=F.ex
 refine fn_of lk hcd S len fun A outer s H vs Q E hr hsp=>?_
 obtain⟨t,h,q⟩:=hbody cdv A outer s H vs Q E hr hsp
 exact⟨t,h.nox,q⟩
theorem Fun.binds {x qual:Str}{st:Stmt}{f:Addr}{fd:FuncData}{ps:List Str}(F:Fun K x qual st f fd)
   (h:∀(kV doc pm:Value) (an:Option Addr) (cdv ct:Value) (us:List Value),us.length=ps.length→bindArgs (PySem.W.fnOf x qual (defArgs st) (defBody st) (defScope st) .none kV doc pm an cdv ct) ⟨us,[]⟩=pure (ps.zip us)):Binds K fd ps []:=by
 obtain⟨oc,od,kV,doc,pm,an,cdv,ct,osl,rfl,lk,hcd⟩:=F.ex
 exact .all (h kV doc pm an cdv ct)
theorem fun_mk {x qual:Str}{st:Stmt}{f:Addr}{oc:Value}{od an:Option Addr}{osl:Array (Option Value)}{kV doc pm cdv ct:Value}(l:K.lookup f=some ⟨oc,od,.func (PySem.W.fnOf x qual (defArgs st) (defBody st) (defScope st) .none kV doc pm an cdv ct),osl⟩)
   (c:PySem.W.codeIn K cdv qual=true) (k:PySem.W.keepIn K (.ref f)=true):Fun K x qual st f (PySem.W.fnOf x qual (defArgs st) (defBody st) (defScope st) .none kV doc pm an cdv ct):=⟨⟨oc,od,kV,doc,pm,an,cdv,ct,osl,rfl,l,c⟩,k⟩
end
section
variable {X:Cx}
theorem pv (i:Nat) {x:Str}{pos:Pos}(hN:X.N[i]?=some x:=by rfl) (hv:Vis X.env.scope x:=by first | exact Or.inl rfl | exact Or.inr (Or.inl rfl) | exact Or.inr (Or.inr rfl)) (hd:(x==("__debug__":Str))=false:=by decide)
   (hcd:(x==("__classdict__":Str))=false:=by decide):PE X (.Name x pos) (tVar i):=pe_var hN hv hd hcd
end
theorem iteF {A B:Prop}(h:B):if false=true then A else B:=by
 rw[if_neg nft]
 exact h
theorem iteT {A B:Prop}(h:A):if true=true then A else B:=by
 rw[if_pos rfl]
 exact h
theorem ite2 {c A B:Prop}[Decidable c] (h1:c→A) (h2:¬c→B):if c then A else B:=by
 by_cases h:c
 · rw[if_pos h]
   exact h1 h
 · rw[if_neg h]
   exact h2 h
end L2
namespace L2
open PySem PySem.Spec PyProof.Rows
def clOf (cells:List (Str×Addr)):List (Str×NameKind)→List (Str×Addr)→List (Str×Addr)
 | [],cs=>cs
 | (n,k)::r,cs=>clOf cells r (if k==.free then (match cells.lookup n with | some c=>(n,c)::cs | none=>cs) else cs)
theorem clos_go (env:Env):∀(names:List (Str×NameKind)) (cs:List (Str×Addr)),(∀y∈names,y.2 = .free→∃c,env.cells.lookup y.1=some c) →
   (forIn (m:=Sem) names cs fun x r=>do
     let (name,kind):=x
     if (kind==.free)=true then do let c ← cellOf env name;pure (ForInStep.yield ((name,c)::r)) else pure (ForInStep.yield r))=pure (clOf env.cells names cs)
 | [],cs,_=>rfl
 | (n,k)::r,cs,h=>by
   have hr:∀y∈r,y.2 = .free→∃c,env.cells.lookup y.1=some c:=fun y hy=>h y (yV _ hy)
   rw[List.forIn_cons]
   by_cases hk:(k==NameKind.free)=true
   · obtain⟨c,hc⟩:=h (n,k) List.mem_cons_self (by simpa using hk)
     have hc':env.cells.lookup n=some c:=hc
     simp only[hk,if_true,cellOf,hc',clOf]
     exact clos_go env r _ hr
   · simp only[hk,if_false,clOf]
     exact clos_go env r _ hr
theorem clos_of {scope:Scope}{env:Env}(h:∀y∈scope.names,y.2 = .free→∃c,env.cells.lookup y.1=some c):closureFor scope env=pure (clOf env.cells scope.names []):=by
 have e:=clos_go env scope.names [] h
 have e2:closureFor scope env=((forIn (m:=Sem) scope.names ([]:List (Str×Addr)) fun x r=>do
     let (name,kind):=x
     if (kind==.free)=true then do let c ← cellOf env name;pure (ForInStep.yield ((name,c)::r)) else pure (ForInStep.yield r)) >>= fun r=>pure r):=rfl
 rw[e2,e]
 rfl
theorem clOf_sub {cells:List (Str×Addr)}:∀{names:List (Str×NameKind)}{cs:List (Str×Addr)},(∀p∈cs,cells.lookup p.1=some p.2)→∀p∈clOf cells names cs,cells.lookup p.1=some p.2
 | [],_,h=>h
 | (n,k)::r,cs,h=>by
   refine clOf_sub (names:=r) ?_
   split
   · cases e:cells.lookup n with
     | none=>exact h
     | some c=>
       intro p hp
       rcases yX.mp hp with rfl | hp
       · exact e
       · exact h p hp
   · exact h
theorem clOf_mono {cells:List (Str×Addr)}:∀{names:List (Str×NameKind)}{cs:List (Str×Addr)}{p:Str×Addr},p∈cs→p∈clOf cells names cs
 | [],_,_,h=>h
 | (n,k)::r,cs,p,h=>by
   refine clOf_mono (names:=r) ?_
   split
   · cases e:cells.lookup n with
     | none=>exact h
     | some c=>exact yV _ h
   · exact h
theorem clOf_has {cells:List (Str×Addr)}{x:Str}{c:Addr}(hc:cells.lookup x=some c):∀{names:List (Str×NameKind)}{cs:List (Str×Addr)},(x,NameKind.free)∈names→(x,c)∈clOf cells names cs
 | [],_,h=>absurd h (by simp)
 | (n,k)::r,cs,h=>by
   rcases yX.mp h with e | h
   · cases e
     refine clOf_mono (names:=r) ?_
     simp[hc]
   · exact clOf_has hc (names:=r) h
theorem mem_lookup {α:Type}:∀{l:List (Str×α)}{x:Str}{c:α},(x,c)∈l→∃c',l.lookup x=some c'
 | [],_,_,h=>absurd h (by simp)
 | (n,k)::r,x,c,h=>by
   rw[List.lookup_cons]
   cases e:x==n with
   | true=>exact⟨k,rfl⟩
   | false=>
     rcases yX.mp h with e' | h
     · cases e';simp at e
     · exact mem_lookup h
theorem lookup_clOf {cells:List (Str×Addr)}{names:List (Str×NameKind)}{x:Str}{c:Addr}(h:(clOf cells names []).lookup x=some c):cells.lookup x=some c:=
 clOf_sub (names:=names) (cs:=[]) (by simp) (x,c) (PySem.mem_of_lookup h)
structure CSc (X:Cx) (scope:Scope) (NC:List Str) (fr:List (Option Nat)):Prop where
 kind:scope.kind = .function
 nocell:∀y∈scope.names,y.2≠.cell
 names:∀y∈scope.names,y.2 = .local→scope.names.lookup y.1=some .local
 free:∀y∈scope.names,y.2 = .free→X.env.kindOf y.1=some .cell∨X.env.kindOf y.1=some .free
 len:fr.length=NC.length
 slot:∀(i j:Nat) (x:Str),NC[i]?=some x→fr[i]?=some (some j)→X.N[j]?=some x∧scope.names.lookup x=some .free∧Vis X.env.scope x∧X.env.kindOf x≠some .local
def capt (fr:List (Option Nat)) (σ:St):St:=fr.map fun o=>o.bind fun j=>(σ[j]?).join
def compCx (X:Cx) (scope:Scope) (NC:List Str) (C:Addr) (s:Shared) (H:Hp) (ex:List Addr) (pn:List (Addr×Obj)):Cx where
 prog:=X.prog
 w:=X.w
 K:=X.K
 mg:=X.mg
 base:=X.base
 A:=X.A
 N:=NC
 s₀:=s
 H₀:=H
 env:=compEnvC scope (clOf X.env.cells scope.names []) C X.env
 outer:=X.stack
 stack:=X.stack
 ex:=ex
 fn:=fun _=>false
 calm:=X.calm
 pn:=pn
 xe:=fun _ _=>False
theorem relabel_cases {scope:Scope}{env:Env}{x:Str}:∀{names:List (Str×NameKind)},
   ((names.map fun(n,k)=>if (k==NameKind.free&&env.scope.kind==.function&&env.kindOf n==some .cell) then (n,NameKind.cell) else (n,k)).lookup x=some .cell ∨
    (names.map fun(n,k)=>if (k==NameKind.free&&env.scope.kind==.function&&env.kindOf n==some .cell) then (n,NameKind.cell) else (n,k)).lookup x=some .free) →
   (∀y∈names,y.2≠.cell)→(x,NameKind.free)∈names
 | [],h,_=>by simp at h
 | (n,k)::r,h,hn=>by
   have ih:=@relabel_cases scope env x r
   have hn':∀y∈r,y.2≠.cell:=fun y hy=>hn y (yV _ hy)
   have hk:=hn (n,k) List.mem_cons_self
   simp only[zI] at h
   by_cases hc:(k==NameKind.free&&env.scope.kind==.function&&env.kindOf n==some .cell)=true
   · simp only[hc,if_true,List.lookup_cons] at h
     cases hx:x==n with
     | true=>
       have e:x=n:=by simpa using hx
       have e2:k = .free:=by simp at hc;exact hc.1.1
       subst e e2
       exact List.mem_cons_self
     | false=>
       simp only[hx] at h
       exact yV _ (ih h hn')
   · simp only[hc,List.lookup_cons] at h
     cases hx:x==n with
     | true=>
       have e:x=n:=by simpa using hx
       subst e
       simp[List.lookup_cons] at h
       rcases h with h | h
       · exact absurd h hk
       · subst h;exact List.mem_cons_self
     | false=>
       simp[List.lookup_cons,hx] at h
       exact yV _ (ih (by simpa using h) hn')
section
variable {X:Cx}{scope:Scope}{NC:List Str}{fr:List (Option Nat)}{pins:List (Addr×Obj)}{σ:St}{H:Hp}{s:Shared}
theorem CSc.has (S:CSc X scope NC fr) (ok:X.Ok):∀y∈scope.names,y.2 = .free→∃c,X.env.cells.lookup y.1=some c:=fun y hy hf=>ok.has y.1 (S.free y hy hf)
theorem CSc.cells (S:CSc X scope NC fr) (ok:X.Ok) {x:Str}(h:(x,NameKind.free)∈scope.names):∃c,(clOf X.env.cells scope.names []).lookup x=some c∧X.env.cells.lookup x=some c:=by
 obtain⟨c,hc⟩:=S.has ok _ h rfl
 have hc':X.env.cells.lookup x=some c:=hc
 obtain⟨c',h'⟩:=mem_lookup (clOf_has hc' h (cs:=[]))
 have:=lookup_clOf h'
 rw[hc'] at this;cases this
 exact⟨_,h',hc'⟩
theorem relabel_free {env:Env}{x:Str}{scope:Scope}(hn:∀y∈scope.names,y.2 = .local→scope.names.lookup y.1=some .local) (h:(x,NameKind.free)∈scope.names) (hl:scope.names.lookup x≠some .free→False):(relabel scope env).names.lookup x=some .cell∨(relabel scope env).names.lookup x=some .free:=by
 have hf:scope.names.lookup x=some .free:=by
   cases e:scope.names.lookup x with
   | none=>exact(hl (by rw[e];intro z;cases z)).elim
   | some k=>
     cases k <;> first
       | rfl
       | exact(hl (by rw[e];intro z;cases z)).elim
 have go:∀(names:List (Str×NameKind)),names.lookup x=some .free →
   ((names.map fun(n,k)=>if (k==NameKind.free&&env.scope.kind==.function&&env.kindOf n==some .cell) then (n,NameKind.cell) else (n,k)).lookup x=some .cell ∨
    (names.map fun(n,k)=>if (k==NameKind.free&&env.scope.kind==.function&&env.kindOf n==some .cell) then (n,NameKind.cell) else (n,k)).lookup x=some .free):=by
   intro names
   induction names with
   | nil=>intro h;simp at h
   | cons y r ih=>
     obtain⟨n,k⟩:=y
     intro h
     rw[List.lookup_cons] at h
     simp only[zI]
     cases hx:x==n with
     | true=>
       simp only[hx] at h
       cases h
       split
       · left;simp[List.lookup_cons,hx]
       · right;simp[List.lookup_cons,hx]
     | false=>
       simp only[hx] at h
       have:=ih h
       split
       · simpa [List.lookup_cons,hx] using this
       · simpa [List.lookup_cons,hx] using this
 exact go scope.names hf
end
end L2
namespace L2
open PySem PySem.Spec PyProof.Rows
theorem wpAny_noex {α:Type}{t:Sem α}{Q:α→Shared→Prop}{M:Model}{A:Around}{E:Value→Shared→Prop}{s:Shared}(h:wpAny M A t Q (fun _ _=>False) s):wpAny M A t Q E s:=
 wpAny_mono h (fun _ _ q=>q) fun _ _ f=>f.elim
def compTestsT (ifs:List Expr) (env:Env):Sem Bool:=forIn ifs true fun c r=>if r=true then do let ok ← isTrue c env (eval c env);pure (ForInStep.yield ok) else pure (ForInStep.yield r)
theorem codeAny_compLoop_go {prog:Program}{w:World}{A:Around}{R:Result→Shared→Prop}{s:Shared}{elt target iter:Expr}{ifs:List Expr}{scope:Scope}{pos:Pos}{it acc:Value}{env:Env}(I:Nat→Shared→Prop)
   (turn:∀n s,I n s→wpAny (model prog w) A (pyNext it) (fun r s₁=>match r with
     | none=>R (.ok .next) s₁
     | some v=>wpAny (model prog w) A (letOwnedTupleGo target it v) (fun _ s₀=>wpAny (model prog w) A (assign target env v) (fun _ s₂=>
         wpAny (model prog w) A (compTestsT ifs env) (fun ok s₃=>
           if ok=true then wpAny (model prog w) A (eval elt env) (fun x s₄=>
             wpAny (model prog w) A (call (.builtin "list.append") [acc,x]) (fun _ s₅=>∃m,m < n∧I m s₅) (fun _ _=>False) s₄) (fun _ _=>False) s₃
           else ∃m,m < n∧I m s₃) (fun _ _=>False) s₂) (fun _ _=>False) s₀) (fun _ _=>False) s₁) (fun _ _=>False) s)
   (n:Nat) (h:I n s) :
   codeAny (model prog w) A (.compLoop (.ListComp elt [⟨target,iter,ifs,0⟩] scope pos) 0 it acc env) R s:=by
 refine codeAny_loop rfl I (fun n s hI=>?_) n h
 show wpAny _ A ((compTurn (.ListComp elt [⟨target,iter,ifs,0⟩] scope pos) 0 it acc env).onRaise (fun x=>do noteFrame x env;theTreesLotGoes x)) _ _ s
 refine wpAny_noted ?_
 rw[compTurn_list]
 refine zZ (wpAny_standAt (zZ (wpAny_mono (wpAny_noex (turn n s hI)) (fun r s₁ h₁=>?_) fun _ _ h'=>h')))
 cases r with
 | none=>exact zY h₁
 | some v=>
   refine zZ (wpAny_mono (wpAny_noex h₁) (fun _ s₀ h₀=>?_) fun _ _ h'=>h')
   refine zZ (wpAny_mono (wpAny_noex h₀) (fun _ s₂ h₂=>zZ (wpAny_mono (wpAny_noex h₂) (fun ok s₃ h₃=>?_) fun _ _ h'=>h')) fun _ _ h'=>h')
   cases ok with
   | false=>exact zY ⟨rfl,h₃⟩
   | true=>
     exact zZ (zZ (wpAny_mono (wpAny_noex h₃) (fun x s₄ h₄=>zZ (wpAny_mono (wpAny_noex h₄) (fun _ s₅ h₅=>zY (zY ⟨rfl,h₅⟩)) fun _ _ h'=>h')) fun _ _ h'=>h'))
def PTs (X:Cx) (ifs:List Expr) (t:TT):Prop:=
 ∀(pins:List (Addr×Obj)) (s:Shared) (σ:St) (H:Hp) (Q:Bool→Hp→Prop),Inv X pins σ H s→t σ H Q→wpAny (model X.prog X.w) X.A (compTestsT ifs X.env) (TP X pins σ Q) X.xe s
def tYes:TT:=fun _ H Q=>Q true H
theorem pts_nil {X:Cx}:PTs X [] tYes:=fun _ _ _ H _ I h=>wpAny_tests_nil ⟨H,I,h⟩
theorem pts_one {X:Cx}{c:Expr}{t:TT}(h:PT X c t):PTs X [c] t:=fun pins s σ H Q I q=>wpAny_tests_one (h pins s σ H Q I q)
def tComp (fr:List (Option Nat)) (wi:TI) (g:TG) (tt:TT) (te:TE):TE:=fun σ H Q=>wi σ H fun J H1=>∀D,H1 D=none→∃W:Nat→Nat→List V→Hp→Prop,(∃m,W 0 m [] (upd H1 D (.lst []))) ∧
 ∀i m ys H2,W i m ys H2→H2 D=some (.lst ys)∧((J.stop i H2∧Q (.ref D) H2)∨(J.go i H2∧∀x H3,J.yld i H2 x H3→g x (capt fr σ) H3 fun σ2 H4=>
   (∀(i:Nat) v,(capt fr σ)[i]?=some (some v)→σ2[i]?=some (some v))∧tt σ2 H4 fun c H5=>if c=true then te σ2 H5 fun y H6=>∃ys',H6 D=some (.lst ys')∧ys'.length < sizeLine∧∃m',m' < m∧W (i+1) m' (ys'++[y]) (upd H6 D (.lst (ys'++[y])))
     else ∃ys' m',m' < m∧W (i+1) m' ys' H5))
section
variable {X:Cx}{scope:Scope}{NC:List Str}{fr:List (Option Nat)}{pins:List (Addr×Obj)}{σ:St}{H:Hp}{s:Shared}
theorem comp_start {fp:List Addr}{h1:Heap}{m:Str→Option Value}{tk:Nat}(S:CSc X scope NC fr) (I:Inv X pins σ H s) (hfp:∀b∈fp,FpOk X pins H b) (hlt:∀b∈fp,b < s.heap.objs.size)
   (hns:h1.Ns s.heap.objs.size m) (hk:∀b o,s.heap.get? b=some o→h1.get? b=some o) :
   Inv (compCx X scope NC s.heap.objs.size s H fp (X.pn++pins)) [] (capt fr σ) H { s with heap:=h1,toks:=tk }:=by
 have I4:Inv X pins σ H { s with heap:=h1,toks:=tk }:=I.kept hk
 have nstk:∀b,b≠X.env.locals→b∉X.fs→b∉frs X.stack:=fun b h1 h2 z=>(yX.mp (I.stkSub b z)).elim h1 h2
 refine⟨⟨I.ok.mod,S.kind,I.ok.glob,I.ok.blt,zR _,fun x y c h1 h2=>I.ok.inj x y c (lookup_clOf h1) (lookup_clOf h2),fun x hx=>?_,fun x c h=>absurd h (by intro z;cases z),I.ok.hd,I.ok.frames,.inl rfl,fun b hb=>?_,I.bs,zN I.ok.bsz I.sz,fun b o e hb=>?_,fun b hb=>?_,I.stack,I.stkFree⟩,
   rfl,I.bare,Un.kept hk,⟨m,hns,fun i x v e1 e2 e3=>?_⟩,fun x c e=>I4.cell x c (lookup_clOf e),I.hok.fresh (zR _),fun x c e=>I4.freeC x c (lookup_clOf e),fun p hp=>?_,I4.hok,?_⟩
 · have hx':=relabel_cases (scope:=scope) (env:=X.env) (x:=x) (names:=scope.names) hx S.nocell
   obtain⟨c,h,_⟩:=S.cells I.ok hx'
   exact⟨c,h⟩
 · exact⟨zC (hlt b hb),fun x c e=>(hfp b hb).2.2.2.2.1 x c (lookup_clOf e)⟩
 · rcases (hfp b hb).2.2.2.1 with z | z
   · exact I.ok.noex b o e z
   · exact absurd (zP (zM e) (zN I.ok.bsz z)) (yF _)
 · exact nstk b (hfp b hb).2.1 (hfp b hb).2.2.1
 · have e2':∃j,fr[i]?=some (some j)∧σ[j]?=some (some v):=by
     unfold capt at e2
     rw[zF] at e2
     cases hf:fr[i]? with
     | none=>rw[hf] at e2;cases e2
     | some o=>
       rw[hf] at e2
       cases o with
       | none=>cases e2
       | some j=>
         refine⟨j,rfl,?_⟩
         have e2:((σ[j]?).join)=some v:=Option.some.inj e2
         cases hs:σ[j]? with
         | none=>rw[hs] at e2;cases e2
         | some q=>rw[hs] at e2;cases q with
           | none=>cases e2
           | some v'=>cases e2;rfl
   obtain⟨j,f1,f2⟩:=e2'
   obtain⟨g1,g2,g3,g4⟩:=S.slot i j x e1 f1
   obtain⟨m',hn',hl'⟩:=I4.loc
   obtain⟨u,r,l⟩:=hl' j x v g1 f2 g3
   rcases l with ⟨k,_⟩ | ⟨k,c,hc,hcell⟩
   · exact absurd k g4
   · obtain⟨c',q1,q2⟩:=S.cells I.ok (PySem.mem_of_lookup g2)
     rw[hc] at q2;cases q2
     exact⟨u,r,.inr ⟨relabel_free S.names (PySem.mem_of_lookup g2) (fun z=>z g2),c,q1,hcell⟩⟩
 · have hp':p∈X.pn++pins:=by rw[List.append_nil] at hp;exact hp
   obtain⟨p1,p2,p3,p4,p5⟩:=I4.pin p hp'
   exact⟨p1,p2,zC (zM (I.pin p hp').1),nstk _ p3 p4,p5⟩
 · unfold capt
   rw[zX]
   exact S.len
theorem comp_run {elt iter tg:Expr}{ifs:List Expr}{pos cpos:Pos}{wi:TI}{g:TG}{tt:TT}{te:TE}{use:Option (Value→Sem Unit)}{Q:VK}{QQ:Value→Shared→Prop}
   (hc:X.calm=true) (S:CSc X scope NC fr) (hi:PI X tg iter wi)
   (hb:∀(C:Addr) (s:Shared) (H:Hp) (ex:List Addr) (pn:List (Addr×Obj)),PG (compCx X scope NC C s H ex pn) tg g∧PTs (compCx X scope NC C s H ex pn) ifs tt∧PE (compCx X scope NC C s H ex pn) elt te)
   (I:Inv X pins σ H s) (h:tComp fr wi g tt te σ H Q)
   (fin:∀(D C:Addr) (H':Hp) (s':Shared) (m:Str→Option Value) (oC:Obj),Inv X (pins++[(C,oC)]) σ H' s'→s'.heap.Ns C m→Q (.ref D) H' →
     (∀(pins':List (Addr×Obj)) (σ2:St) (H2:Hp) (s2:Shared) (h2:Heap),Inv X (pins++[(C,oC)]) σ2 H2 s2→Heap.SameBut C s2.heap h2→Inv X pins σ2 H2 { s2 with heap:=h2 }) →
     s'.heap.get? C=some oC →
     match use with
     | none=>∀h',Heap.SameBut C s'.heap h'→QQ (.ref D) { s' with heap:=h' }
     | some u=>wpAny (model X.prog X.w) X.A (u (.ref D)) (fun _ s''=>∃m,s''.heap.Ns C m∧∀h',Heap.SameBut C s''.heap h'→QQ .none { s'' with heap:=h' }) X.xe s')
   (hs:∀x,foldedSetIterable iter X.env x=pure x) :
   wpAny (model X.prog X.w) X.A (comprehension (.ListComp elt [⟨tg,iter,ifs,0⟩] scope pos) scope X.env cpos (newList []) false (eval iter X.env) use) QQ X.xe s:=by
 refine wpAny_comprehension_free (use:=use) rfl hs (clos_of (S.has I.ok)) S.kind S.names (thn (hi pins s σ H _ I h) fun v s1 h1=>thn h1 fun itv s2 h2=>?_)
 obtain⟨it,fp,tn,J,H2,e,I2,T,st2,f2,hq⟩:=h2
 subst e
 have hDn:H2 s2.heap.objs.size=none:=I2.hok.fresh (zR _)
 obtain⟨W,⟨m0,w0⟩,turn⟩:=hq s2.heap.objs.size hDn
 refine xM (wpAny_newFunctionEnv S.nocell (by intro y hy;simp at hy) (fun h₁ hns₁ hsb₁=>?_) S.kind)
 dsimp only at hns₁ hsb₁ ⊢
 generalize hs3:({ s2 with heap:=s2.heap.push { cls:=.type "list", dict:=none,data:=.seq ([]:List Value).toArray } }:Shared)=s3
 have hh3:s2.heap.push { cls:=.type "list", dict:=none,data:=.seq ([]:List Value).toArray }=s3.heap:=by rw[← hs3]
 have I3:Inv X pins σ (upd H2 s2.heap.objs.size (.lst [])) s3:=by
   rw[← hs3]
   refine I2.laid (t':=s2.toks) (fun b u e=>zW _ e) (zR _) ?_
   exact⟨xT _,[],0,.nil,yZ _ rfl⟩
 rw[hh3] at hns₁ hsb₁ ⊢
 have sz3:s3.heap.objs.size=s2.heap.objs.size+1:=by rw[← hh3,Heap.size_push]
 have lt2:∀b∈fp,b < s2.heap.objs.size:=fun b hb=>by
   obtain⟨o,e,_⟩:=T.obj _ _ st2 b hb
   exact zM e
 have lt3:∀b∈fp,b < s3.heap.objs.size:=fun b hb=>by rw[sz3];exact Nat.lt_succ_of_lt (lt2 b hb)
 have f3:∀b∈fp,FpOk X pins (upd H2 s2.heap.objs.size (.lst [])) b:=fun b hb=>⟨by rw[upd_ne (zC (lt2 b hb))];exact(f2 b hb).1,(f2 b hb).2⟩
 have keep1:∀b o,s3.heap.get? b=some o→h₁.get? b=some o:=fun b o e=>hsb₁.extBut b o (zC (zM e)) (zW _ e)
 generalize hC:s3.heap.objs.size=C at hns₁ hsb₁ ⊢
 have I0:Inv (compCx X scope NC C s3 (upd H2 s2.heap.objs.size (.lst [])) fp (X.pn++pins)) [] (capt fr σ) (upd H2 s2.heap.objs.size (.lst [])) { s2 with heap:=h₁,toks:=s2.toks+([]:List (Str×Value)).length }:=by
   have:=comp_start (tk:=s2.toks+([]:List (Str×Value)).length) (h1:=h₁) S I3 f3 lt3 (hC▸hns₁) keep1
   rw[hC] at this
   rw[← hs3] at this
   rw[← hs3]
   exact this
 obtain⟨hbg,hbt,hbe⟩:=hb C s3 (upd H2 s2.heap.objs.size (.lst [])) fp (X.pn++pins)
 generalize hX':compCx X scope NC C s3 (upd H2 s2.heap.objs.size (.lst [])) fp (X.pn++pins)=X' at I0 hbg hbt hbe
 have eP:X'.prog=X.prog:=by rw[← hX'];rfl
 have eW:X'.w=X.w:=by rw[← hX'];rfl
 have eK:X'.K=X.K:=by rw[← hX'];rfl
 have eA:X'.A=X.A:=by rw[← hX'];rfl
 have eE:X'.env=compEnvC scope (clOf X.env.cells scope.names []) C X.env:=by rw[← hX'];rfl
 have eX:X'.xe=fun _ _=>False:=by rw[← hX'];rfl
 have ec:X'.calm=true:=by rw[← hX'];exact hc
 have stat:∀{H':Hp},(∀b∈fp,H' b=none)→∀b∈fp,FpOk X' [] H' b:=fun {H'} hn b hb=>by
   obtain⟨q1,q2,q3,q4,q5,q6⟩:=f3 b hb
   rw[← hX']
   exact⟨hn b hb,by show b≠C;rw[← hC];exact zC (lt3 b hb),fun z=>(yX.mp (I3.stkSub b z)).elim q2 q3,.inl hb,fun x c e=>q5 x c (lookup_clOf e),fun p hp=>q6 p (by rw[List.append_nil] at hp;exact hp)⟩
 have ends:∀(i m:Nat) (ys:List V) (H':Hp) (s':Shared),Inv X' [] (capt fr σ) H' s'→Q (.ref s2.heap.objs.size) H' →
     compPost (model X.prog X.w) X.A X.xe use QQ (.ref s2.heap.objs.size) C (.ok .next) s':=by
   intro i m ys H' s' I' q'
   have eC:X'.env.locals=C:=by rw[eE];rfl
   obtain⟨mC,hnC,_⟩:=I'.loc
   rw[eC] at hnC
   have hCn:H' C=none:=by have:=I'.free;rw[eC] at this;exact this
   have un:Un (frs X.stack) fp (upd H2 s2.heap.objs.size (.lst [])) H' s3.heap s'.heap:=by
     have:=I'.base
     rw[← hX'] at this
     exact this
   have os':s'.os=s3.os:=by have:=I'.os;rw[← hX'] at this;exact this
   have hok':HOk X.prog X.w H' s'.heap:=by have:=I'.hok;rw[eP,eW] at this;exact this
   have Iout:Inv X pins σ H' s':=I3.call' (ch:=fp) os' un hok' I'.bare fun b hb=>⟨(f3 b hb).2.2.2.1,(f3 b hb).2.1,(f3 b hb).2.2.2.2.1,(f3 b hb).2.2.2.2.2⟩
   have C1:C≠X.env.locals:=by rw[← hC];exact Nat.ne_of_gt I3.lt
   have C2:C∉X.fs:=by rw[← hC];exact I3.nofs (zR _)
   have C3:X.s₀.heap.objs.size≤C:=by rw[← hC];exact I3.sz
   have C4:∀x c,X.env.cells.lookup x=some c→c≠C:=fun x c e z=>by
     obtain⟨v,q⟩:=I3.cell x c e
     rw[z,← hC] at q
     exact absurd q.lt (yF _)
   have C5:∀p∈X.pn++pins,p.1≠C:=fun p hp z=>by
     have:=zM (I3.pin p hp).1
     rw[z,← hC] at this
     exact absurd this (yF _)
   obtain⟨oC,esC,epC,hoC,hdC,hrC⟩:=id hnC
   have Ipin:Inv X (pins++[(C,oC)]) σ H' s':=Iout.pins_of fun p hp=>(yW.mp hp).elim (fun z=>Iout.pin p (zB _ z)) fun z=>by
     have e:p=(C,oC):=by simpa using z
     subst e
     exact⟨hoC,hCn,C1,C2,fun v z=>by rw[hdC] at z;cases z⟩
   have res:=fin s2.heap.objs.size C H' s' mC oC Ipin hnC q' (fun _ σ2 H3 s4 h4 I4 sb=>by
     have J4:Inv X pins σ2 H3 s4:=I4.unpinned
     have hn4:H3 C=none:=(I4.pin (C,oC) (zB _ (zB _ (by simp)))).2.1
     exact J4.turned (t':=s4.toks) (it:=C) (fun b o hb e=>sb.extBut b o hb e) hn4 C1 (.inr C3) C4 C5) hoC
   cases use with
   | none=>exact⟨mC,hnC,res⟩
   | some u=>exact res
 have loop:∀s':Shared,s'={ s2 with heap:=h₁,toks:=s2.toks+([]:List (Str×Value)).length } →
     codeAny (model X.prog X.w) X.A (.compLoop (.ListComp elt [⟨tg,iter,ifs,0⟩] scope pos) 0 (.ref it) (.ref s2.heap.objs.size) (compEnvC scope (clOf X.env.cells scope.names []) C X.env))
       (compPost (model X.prog X.w) X.A X.xe use QQ (.ref s2.heap.objs.size) C) s':=by
   rintro s' rfl
   refine codeAny_compLoop_go (fun n s'=>∃i ys H',Inv X' [] (capt fr σ) H' s'∧tn i s'.heap∧(∀b∈fp,H' b=none)∧W i n ys H') ?_ m0
     ⟨0,[],_,I0,T.keep _ _ _ st2 (fun b hb o e=>keep1 b o (by rw[← hh3];exact zW _ e)),fun b hb=>(f3 b hb).1,w0⟩
   rintro n s5 ⟨i,ys,H5,I5,st5,fr5,w5⟩
   obtain⟨hD5,hturn⟩:=turn i n ys H5 w5
   rcases hturn with ⟨stop,qn⟩ | ⟨go,step⟩
   · have:=T.done X' eP eW eK ec i [] s5 (capt fr σ) H5 (fun _ _=>False) I5 (stat fr5) st5 stop
     rw[eA] at this
     refine thn this fun r s6 ⟨hr,I6⟩=>?_
     subst hr
     exact ends i n ys H5 s6 I6 qn
   · have:=T.item X' eP eW eK ec i [] s5 (capt fr σ) H5 (fun _ _=>False) I5 (stat fr5) st5 go
     rw[eA] at this
     refine thn this fun r s6 ⟨u,hr,h6⟩=>?_
     subst hr
     refine thn h6 fun _ s7 ⟨x,H7,I7,r7,y7,st7,fr7⟩=>?_
     have I7':=I7.pinned (stat fr7) (T.obj _ _ st7)
     have hg1:=hbg _ s7 (capt fr σ) H7 x u _ I7' r7 (step x H7 y7)
     rw[eP,eW,eA,eE,eX] at hg1
     refine thn hg1 fun _ s8 ⟨σ8,H8,I8,ext8,q8⟩=>?_
     have ht1:=hbt _ s8 σ8 H8 _ I8 q8
     rw[eP,eW,eA,eE,eX] at ht1
     refine thn ht1 fun ok s9 ⟨H9,I9,q9⟩=>?_
     have weak:∀{H':Hp}{s':Shared},Inv X' ([]++pinsAt fp s7.heap) σ8 H' s'→Inv X' [] (capt fr σ) H' s'∧tn (i+1) s'.heap∧∀b∈fp,H' b=none:=fun {H' s'} I'=>by
       refine⟨I'.unpinned.weak (by rw[I'.len];rw[I0.len]) ext8,T.keep _ _ _ st7 fun b hb o e=>(I'.pin (b,o) (zB _ (zB _ (mem_pinsAt hb e)))).1,fun b hb=>?_⟩
       obtain⟨o,e,d⟩:=T.obj _ _ st7 b hb
       exact(I'.pin (b,o) (zB _ (zB _ (mem_pinsAt hb e)))).2.1
     cases ok with
     | false=>
       rw[if_neg nft] at q9
       obtain⟨ys',m',hm',w'⟩:=q9
       obtain⟨a1,a2,a3⟩:=weak I9
       exact⟨m',hm',i+1,ys',H9,a1,a2,a3,w'⟩
     | true=>
       rw[if_pos rfl] at q9
       have he1:=hbe _ s9 σ8 H9 _ I9 q9
       rw[eP,eW,eA,eE,eX] at he1
       refine thn he1 fun y s10 ⟨yv,H10,I10,r10,ys',hD10,hsz,m',hm',w'⟩=>?_
       have ha:=mt_append (X:=X') _ s10 σ8 H10 (.ref s2.heap.objs.size) [yv] (.ref s2.heap.objs.size) [y] (fun _ H'=>∃m',m' < n∧W (i+1) m' (ys'++[yv]) H') I10 rfl (.cons r10 .nil) ⟨_,ys',yv,rfl,rfl,hD10,hsz,m',hm',w'⟩
       rw[eP,eW,eA,eX] at ha
       refine thn ha fun _ s11 ⟨_,H11,I11,_,m'',hm'',w''⟩=>?_
       obtain⟨a1,a2,a3⟩:=weak I11
       exact⟨m'',hm'',i+1,_,H11,a1,a2,a3,w''⟩
 refine codeAny_compStart_list (loop _ rfl) (T.self _ 0 _ _ _ ?_ (loop _ rfl))
 exact T.keep _ _ _ st2 (fun b hb o e=>keep1 b o (by rw[← hh3];exact zW _ e))
end
end L2
namespace L2
open PySem PySem.Spec PyProof.Rows
section
variable {X:Cx}{scope:Scope}{NC:List Str}{fr:List (Option Nat)}{elt iter tg:Expr}{ifs:List Expr}{pos:Pos}{wi:TI}{g:TG}{tt:TT}{te:TE}
theorem pe_comp (hc:X.calm=true) (S:CSc X scope NC fr) (hi:PI X tg iter wi)
   (hb:∀(C:Addr) (s:Shared) (H:Hp) (ex:List Addr) (pn:List (Addr×Obj)),PG (compCx X scope NC C s H ex pn) tg g∧PTs (compCx X scope NC C s H ex pn) ifs tt∧PE (compCx X scope NC C s H ex pn) elt te)
   (hs:∀x,foldedSetIterable iter X.env x=pure x:=by intro _;rfl):PE X (.ListComp elt [⟨tg,iter,ifs,0⟩] scope pos) (tComp fr wi g tt te):=by
 intro pins s σ H Q I h
 rw[eval_ListComp]
 refine comp_run (use:=none) (Q:=Q) hc S hi hb I h (fun D C H' s' m oC I' hn q back _ h' sb=>?_) hs
 exact⟨.ref D,H',back pins σ H' s' h' I' sb,rfl,q⟩
theorem ps_setc {i:Nat}{x:Str}{py spos:Pos}(hc:X.calm=true) (hN:X.N.Nodup) (hix:X.N[i]?=some x) (hx:Loc X.env.scope x) (S:CSc X scope NC fr) (hi:PI X tg iter wi)
   (hb:∀(C:Addr) (s:Shared) (H:Hp) (ex:List Addr) (pn:List (Addr×Obj)),PG (compCx X scope NC C s H ex pn) tg g∧PTs (compCx X scope NC C s H ex pn) ifs tt∧PE (compCx X scope NC C s H ex pn) elt te)
   (hsw:swapsWith (.ListComp elt [⟨tg,iter,ifs,0⟩] scope pos) (some (.Name x py)) spos.line X.env=pure true)
   (hf:X.fn x=true∨X.env.scope.names.lookup x=some .local:=by first | exact .inl rfl | exact .inr rfl | assumption)
   (hs:∀x,foldedSetIterable iter X.env x=pure x:=by intro _;rfl) :
   PS X (.Assign [.Name x py] (.ListComp elt [⟨tg,iter,ifs,0⟩] scope pos) spos) (fun D σ H=>tComp fr wi g tt te σ H fun v H'=>D.nx (σ.set i (some v)) H'):=by
 intro pins s σ H D I h
 rw[exec_Assign_Name_used _ _ _ _ hsw]
 refine zZ (wpAny_standAt (zZ ?_))
 show wpAny _ X.A (do let _ ← comprehension (.ListComp elt [⟨tg,iter,ifs,0⟩] scope pos) scope X.env _ (newList []) false (eval iter X.env) (some (assign (.Name x py) X.env))) _ _ s
 refine zZ (thn (comp_run (use:=some (assign (.Name x py) X.env)) (Q:=fun v H'=>D.nx (σ.set i (some v)) H') (QQ:=fun _ s'=>∃σ' H',Inv X pins σ' H' s'∧D.nx σ' H') hc S hi hb I h (fun A C H' s' m oC I' hn q back hoC=>?_) hs) fun _ s' hq=>zY (zY hq))
 have hst:=pg_name (X:=X) (pos:=py) hN hix hx hf (pins++[(C,oC)]) s' σ H' (.ref A) (.ref A) (fun σ' H'=>D.nx σ' H') I' rfl q
 refine thn hst fun _ s2 ⟨σ2,H2,I2,q2⟩=>?_
 have hC2:s2.heap.get? C=some oC:=(I2.pin (C,oC) (zB _ (zB _ (by simp)))).1
 obtain⟨o',es,ep,ho',hd',hr'⟩:=hn
 rw[hoC] at ho';cases ho'
 exact⟨m,⟨_,es,ep,hC2,hd',hr'⟩,fun h' sb=>⟨σ2,H2,back pins σ2 H2 s2 h' I2 sb,q2⟩⟩
end
def Its (x:Str):It:=⟨fun i _=>i < x.cps.size,fun i H v H'=>H'=H∧∃c,x.cps[i]?=some c∧v = .str ⟨#[c]⟩,fun i _=>i=x.cps.size⟩
theorem turn_str {P:Program}{w:World}{K:Frg}{tg:Expr}(it:Addr) (ty:String) (x:Str) (t:Tok) (hty:["enumerate", "zip", "dict_itemiterator", "dict_reverseitemiterator", "odict_iterator", "itertools.zip_longest", "itertools.pairwise"].contains ty=false)
   (W:∀A:Around,A.handled=none→Walks P w A it [it] [it] x.cps.size (SignAt x) (fun i h=>h.IsStrIter it ty x t i))
   (hself:∀(A:Around) (i:Nat) (s:Shared) (Q:Value→Shared→Prop) (E:Value→Shared→Prop),s.heap.IsStrIter it ty x t i→Q (.ref it) s→wpAny (model P w) A (pyIter (.ref it)) Q E s) :
   Turn P w K tg (Its x) [it] it (fun i h=>h.IsStrIter it ty x t i) where
 mem:=by simp
 obj:=fun i h st b hb=>by
   have e:b=it:=by simpa using hb
   subst e
   obtain⟨o,e,c,d⟩:=st
   exact⟨o,e,fun v z=>by rw[d] at z;cases z⟩
 keep:=fun i h h' st k=>by
   obtain⟨o,e,r⟩:=st
   exact⟨o,k it (by simp) o e,r⟩
 item:=by
   intro X hP hw hK hc i pins s σ H E I hf st hg
   subst hP hw hK
   obtain⟨f0,f1,f2,f3,f4,f5⟩:=hf it (by simp)
   refine(W X.A (I.ok.hd hc)).item i s _ _ hg st fun v h' tk hv st' kk=>?_
   obtain⟨c,u,hcx,rfl⟩:=hv
   have I1:Inv X pins σ H { s with heap:=h',toks:=tk }:=I.turned (fun b o hb e=>kk b o (by simpa using hb) e) f0 f1 f3 f4 f5
   obtain⟨o,e,c',d⟩:=id st'
   exact⟨_,rfl,go_of (s:={ s with heap:=h',toks:=tk }) e c' d hty ⟨.str ⟨#[c]⟩,H,I1,⟨u,rfl⟩,⟨rfl,c,hcx,rfl⟩,st',fun b hb=>(hf b hb).1⟩⟩
 done:=by
   intro X hP hw hK hc i pins s σ H E I hf st hg
   subst hP hw hK
   obtain⟨f0,f1,f2,f3,f4,f5⟩:=hf it (by simp)
   have hi:i=x.cps.size:=hg
   subst hi
   refine(W X.A (I.ok.hd hc)).done s _ _ st fun h' tk kk=>⟨rfl,I.turned (fun b o hb e=>kk b o (by simpa using hb) e) f0 f1 f3 f4 f5⟩
 self:=hself
theorem range_all_bl (bs:List Bool):(List.range bs.length).all (fun i=>(bs[i]?).getD false)=bs.all id:=by
 rw[Bool.eq_iff_iff,List.all_eq_true,List.all_eq_true]
 constructor
 · intro h b hb
   obtain⟨i,hi,rfl⟩:=List.mem_iff_getElem.mp hb
   have:=h i (by simpa using hi)
   simpa [hi] using this
 · intro h i hi
   have hi:i < bs.length:=by simpa using hi
   have:=h bs[i] (List.getElem_mem hi)
   simpa [hi] using this
theorem range_any_bl (bs:List Bool):(List.range bs.length).any (fun i=>(bs[i]?).getD false)=bs.any id:=by
 rw[Bool.eq_iff_iff,List.any_eq_true,List.any_eq_true]
 constructor
 · rintro⟨i,hi,h⟩
   have hi:i < bs.length:=by simpa using hi
   exact⟨bs[i],List.getElem_mem hi,by simpa [hi] using h⟩
 · rintro⟨b,hb,h⟩
   obtain⟨i,hi,rfl⟩:=List.mem_iff_getElem.mp hb
   exact⟨i,by simpa using hi,by simpa [hi] using h⟩
section
variable {X:Cx}
theorem bls_get {bs:List Bool}{its:List Value}(r:Vals (bs.map V.bl) its) {i:Nat}{v:Value}(h:its.toArray[i]?=some v):v = .bool ((bs[i]?).getD false):=by
 have h':its[i]?=some v:=by simpa using h
 have hl:i < its.length:=(yT.mp h').1
 have e:=r.length
 rw[zX] at e
 have hb:(bs.map V.bl)[i]?=some (V.bl bs[i]):=by rw[zF];simp[show i < bs.length by omega]
 obtain⟨u,hu,ru⟩:=r.get hb
 rw[h'] at hu;cases hu
 simp[show i < bs.length by omega]
 exact ru
def rAll (X:Cx):List V→Hp→VK→Prop:=fun xs H Q=>∃(p:Addr) (bs:List Bool),xs=[.ref p]∧SqL X.K H p (bs.map V.bl)∧Q (.bl (bs.all id)) H
theorem call_all (hc:X.calm=true):CallR X (.builtin "all") (rAll X):=by
 intro pins s σ H xs us Q I r h
 obtain⟨p,bs,rfl,hp,q⟩:=h
 obtain⟨u,rfl,ru⟩:=vals1 r
 cases ru
 obtain⟨its,rv,pl,hz⟩:=I.list hp
 have hne:p≠s.heap.objs.size:=by obtain⟨o,n,e,_⟩:=pl;exact zC (zM e)
 have el:=rv.length
 rw[zX] at el
 refine call_all_walk (wpAny_pyIter_list pl.isList ?_)
 refine⟨s.heap.objs.size,_,_,_,_,_,fun i=>(bs[i]?).getD false,rfl,Walks.list (show X.A.in1.handled=none from I.ok.hd hc) s.heap.objs.size p hne its.toArray,⟨⟨_,yZ _ rfl,rfl,rfl⟩,?_⟩,fun i v s' Q' E' hv hq=>?_,fun h' tk hk=>?_⟩
 · obtain⟨o,n,e,c,d,dd⟩:=pl
   exact⟨o,zW _ e,c,n,dd⟩
 · rw[bls_get rv hv]
   exact wpAny_truthy_bool hq
 · refine⟨.bl (bs.all id),H,?_,?_,q⟩
   · exact I.kept (t':=tk) fun b o e=>hk b o (by simp;exact zC (zM e)) (zW _ e)
   · rw[zJ,← el,range_all_bl];rfl
def rAny (X:Cx):List V→Hp→VK→Prop:=fun xs H Q=>∃(p:Addr) (bs:List Bool),xs=[.ref p]∧SqL X.K H p (bs.map V.bl)∧Q (.bl (bs.any id)) H
theorem call_any (hc:X.calm=true):CallR X (.builtin "any") (rAny X):=by
 intro pins s σ H xs us Q I r h
 obtain⟨p,bs,rfl,hp,q⟩:=h
 obtain⟨u,rfl,ru⟩:=vals1 r
 cases ru
 obtain⟨its,rv,pl,hz⟩:=I.list hp
 have hne:p≠s.heap.objs.size:=by obtain⟨o,n,e,_⟩:=pl;exact zC (zM e)
 have el:=rv.length
 rw[zX] at el
 refine call_any_walk (wpAny_pyIter_list pl.isList ?_)
 refine⟨s.heap.objs.size,_,_,_,_,_,fun i=>(bs[i]?).getD false,rfl,Walks.list (show X.A.in1.handled=none from I.ok.hd hc) s.heap.objs.size p hne its.toArray,⟨⟨_,yZ _ rfl,rfl,rfl⟩,?_⟩,fun i v s' Q' E' hv hq=>?_,fun h' tk hk=>?_⟩
 · obtain⟨o,n,e,c,d,dd⟩:=pl
   exact⟨o,zW _ e,c,n,dd⟩
 · rw[bls_get rv hv]
   exact wpAny_truthy_bool hq
 · refine⟨.bl (bs.any id),H,?_,?_,q⟩
   · exact I.kept (t':=tk) fun b o e=>hk b o (by simp;exact zC (zM e)) (zW _ e)
   · rw[zJ,← el,range_any_bl];rfl
def rSlS:V→Option Int→Option Int→Hp→VK→Prop:=fun x lo hi H Q=>∃y,x = .str y∧y.length≤sizeLine∧Q (.str (Txt.slice y lo hi)) H
theorem sl_str:SlR X rSlS:=by
 intro pins s σ H x v vl vu lo hi sl Q I rx hs pl pu h
 obtain⟨y,rfl,hz,q⟩:=h
 obtain⟨t,rfl⟩:=rx
 refine⟨"str", _,F.slot_str_getitem.lookup,typeIs_str _ _ _,?_⟩
 cases pl with
 | none=>
   cases pu with
   | none=>exact wpAny_getItem_str_slice (l:=none) (u:=none) (st:=none) hs rfl (post_val_or_str ⟨zN (Txt.slice_le y _ _) hz,fun t' k=>⟨.str _,H,I.tok _,⟨_,rfl⟩,q⟩⟩)
   | int j tj=>exact wpAny_getItem_str_slice (l:=none) (u:=some (j,tj)) (st:=none) hs rfl (post_val_or_str ⟨zN (Txt.slice_le y _ _) hz,fun t' k=>⟨.str _,H,I.tok _,⟨_,rfl⟩,q⟩⟩)
 | int i ti=>
   cases pu with
   | none=>exact wpAny_getItem_str_slice (l:=some (i,ti)) (u:=none) (st:=none) hs rfl (post_val_or_str ⟨zN (Txt.slice_le y _ _) hz,fun t' k=>⟨.str _,H,I.tok _,⟨_,rfl⟩,q⟩⟩)
   | int j tj=>exact wpAny_getItem_str_slice (l:=some (i,ti)) (u:=some (j,tj)) (st:=none) hs rfl (post_val_or_str ⟨zN (Txt.slice_le y _ _) hz,fun t' k=>⟨.str _,H,I.tok _,⟨_,rfl⟩,q⟩⟩)
theorem strs_of:∀{ys:List Str}{its:List Value},Vals (ys.map V.str) its→StrsAre its ys
 | [],_,.nil=>.nil
 | y::r,_,.cons h t=>by
   obtain⟨tk,rfl⟩:=h
   exact .cons y tk (strs_of t)
def rCatL (K:Frg):R2:=fun x y H Q=>∃a b xs ys,x = .ref a∧y = .ref b∧SqL K H a xs∧SqL K H b ys∧xs.length+ys.length≤sizeLine∧∀p,H p=none→Q (.ref p) (upd H p (.lst (xs++ys)))
theorem op_catL:OpR X (binaryOp .Add) (rCatL X.K):=by
 intro pins s σ H x y v u Q I rx ry h
 obtain⟨l,b,xs,zs,rfl,rfl,hH,hB,hz,q⟩:=h
 cases rx
 cases ry
 obtain⟨its,r,pl,hl⟩:=I.list hH
 obtain⟨its2,r2,pl2,hl2⟩:=I.list hB
 have e1:=r.length
 have e2:=r2.length
 obtain⟨⟨cls,dd,data,sl⟩,n,ho,hc,_,hd⟩:=pl
 obtain⟨⟨cls2,dd2,data2,sl2⟩,n2,ho2,hc2,_,hd2⟩:=pl2
 dsimp only at hc hd hc2 hd2
 subst hc hd hc2 hd2
 have ea:its.toArray++its2.toArray=(its++its2).toArray:=by simp
 have fin:EP X pins σ Q (.ref s.heap.objs.size) { s with heap:=s.heap.push { cls:=.type "list", data:=.seq (its.toArray++its2.toArray) } }:=by
   rw[ea]
   exact⟨.ref _,_,I.lnew (t':=s.toks) (r.append r2) (by rw[yY];omega),rfl,q _ I.fresh⟩
 exact concat_meets ⟨_,ho,rfl⟩ ⟨_,ho2,rfl⟩ noFill_list_add seq_list_add PySem.F.slot_list_add PySem.F.entry_list_add (PySem.F.args_list_add_2 _ _) (list_addW l b its.toArray its2.toArray n n2 dd dd2 sl sl2 (by rw[zJ,zJ];omega)) ⟨ho,ho2,fin⟩
def CDivL (i j:Int):Prop:=0 < j∧j < 2 ^ 64
theorem op_fdivL:OpR X (binaryOp .FloorDiv) (rI CDivL fun i j=>.int (i/j)):=opI fun i j _ _ _ _ _ hc q=>by
 have h1:(0:Int) < j:=hc.1
 have h2:j.natAbs.log2 < 9000:=by
   have h0:j.natAbs≠0:=by omega
   have:j.natAbs < 2 ^ 64:=by have:=hc.2;omega
   exact zP ((Nat.log2_lt h0).mpr this) (by decide)
 exact floordiv_int (by omega) (by rw[Int.fdiv_eq_ediv_of_nonneg i (by omega)];exact q) (.inl (PyProof.noPylong_of_log2 h2))
end
end L2
namespace L2
open PySem PySem.Spec PyProof.Rows
def keyD:Key→PyData
 | .inl i=>.int i
 | .inr x=>.str x
def LW (K:Frg) (H:Hp) (W:Addr→Prop) (a:Addr) (xs:List V):Prop:=
 (¬W a∧Rd H a (.lst xs))∨∃(o:Obj) (its:Array Value) (n:Nat),K.lookup a=some o∧o.cls = .type "list" ∧ o.dict=none∧o.data = .seq its n∧its.size≤sizeLine∧Vals xs its.toList
def TW (K:Frg) (H:Hp) (W:Addr→Prop) (a:Addr) (xs:List V):Prop:=
 (¬W a∧Rd H a (.tup xs))∨∃(o:Obj) (its:Array Value) (n:Nat),K.lookup a=some o∧o.cls = .type "tuple" ∧ o.data = .seq its n∧its.size≤sizeLine∧Vals xs its.toList
theorem LW.sq {K:Frg}{H:Hp}{W:Addr→Prop}{a:Addr}{xs:List V}(h:LW K H W a xs):SqL K H a xs:=h.elim (fun z=>.inl z.2) .inr
theorem TW.sq {K:Frg}{H:Hp}{W:Addr→Prop}{a:Addr}{xs:List V}(h:TW K H W a xs):SqT K H a xs:=h.elim (fun z=>.inl z.2) .inr
mutual
def DV (K:Frg) (H:Hp) (W:Addr→Prop):PyData→V→Prop
 | .none,v=>v = .non
 | .bool b,v=>v = .bl b
 | .int i,v=>v = .int i
 | .str x,v=>v = .str x
 | .list ds,v=>∃a vs,v = .ref a∧LW K H W a vs∧DVs K H W ds vs
 | .tuple ds,v=>∃a vs,v = .ref a∧TW K H W a vs∧DVs K H W ds vs
 | .dict kvs,v=>∃a kvs',v = .ref a∧¬W a∧Rd H a (.dK kvs')∧DKV K H W kvs kvs'
def DVs (K:Frg) (H:Hp) (W:Addr→Prop):List PyData→List V→Prop
 | [],vs=>vs=[]
 | d::ds,vs=>∃v r,vs=v::r∧DV K H W d v∧DVs K H W ds r
def DKV (K:Frg) (H:Hp) (W:Addr→Prop):List (PyData×PyData)→List (Key×V)→Prop
 | [],vs=>vs=[]
 | (k,d)::ds,vs=>∃k' v r,vs=(k',v)::r∧k=keyD k'∧DV K H W d v∧DKV K H W ds r
end
structure Grow (K:Frg) (W W':Addr→Prop) (H H':Hp):Prop where
 keep:∀b o,H b=some o→¬W b→H' b=some o∨∃ks ob,o = .dK ks∧H' b=some (.frz ob o)
 new:∀b,W' b→W b∨H b=none
theorem Grow.refl {K:Frg}{W:Addr→Prop}{H:Hp}:Grow K W W H H:=⟨fun _ _ h _=>.inl h,fun _ h=>.inl h⟩
section
variable {K:Frg}{W W' W2:Addr→Prop}{H H' H2:Hp}
theorem Rd.grow (g:Grow K W W' H H') {a:Addr}{o:HO}(nw:¬W a) (h:Rd H a o):Rd H' a o:=by
 rcases h with h | ⟨o',h⟩
 · rcases g.keep _ _ h nw with e | ⟨ks,ob,_,e⟩
   · exact .inl e
   · exact .inr ⟨ob,e⟩
 · rcases g.keep _ _ h nw with e | ⟨ks,ob,e,_⟩
   · exact .inr ⟨o',e⟩
   · cases e
theorem Grow.kept (g:Grow K W W' H H') {a:Addr}{o:HO}(h:H a=some o) (nw:¬W a) (n:∀ks,o≠.dK ks):H' a=some o:=(g.keep a o h nw).elim id fun⟨ks,_,e,_⟩=>absurd e (n ks)
theorem Rd.ne_none {H:Hp}{a:Addr}{o:HO}(h:Rd H a o):H a≠none:=by
 rcases h with h | ⟨o',h⟩ <;> rw[h] <;> simp
theorem Rd.nw (g:Grow K W W' H H') {a:Addr}{o:HO}(nw:¬W a) (h:Rd H a o):¬W' a:=fun w=>by
 rcases g.new a w with z | z
 · exact nw z
 · exact Rd.ne_none h z
theorem LW.grow (g:Grow K W W' H H') {a:Addr}{xs:List V}(h:LW K H W a xs):LW K H' W' a xs:=h.elim (fun z=>.inl ⟨z.2.nw g z.1,z.2.grow g z.1⟩) .inr
theorem TW.grow (g:Grow K W W' H H') {a:Addr}{xs:List V}(h:TW K H W a xs):TW K H' W' a xs:=h.elim (fun z=>.inl ⟨z.2.nw g z.1,z.2.grow g z.1⟩) .inr
mutual
theorem DV.grow (g:Grow K W W' H H'):∀{d:PyData}{v:V},DV K H W d v→DV K H' W' d v
 | .none,v,h=>by unfold DV at h ⊢;exact h
 | .bool b,v,h=>by unfold DV at h ⊢;exact h
 | .int i,v,h=>by unfold DV at h ⊢;exact h
 | .str x,v,h=>by unfold DV at h ⊢;exact h
 | .list ds,v,h=>by
   unfold DV at h ⊢
   obtain⟨a,vs,e,hs,hd⟩:=h
   exact⟨a,vs,e,hs.grow g,DVs.grow g hd⟩
 | .tuple ds,v,h=>by
   unfold DV at h ⊢
   obtain⟨a,vs,e,hs,hd⟩:=h
   exact⟨a,vs,e,hs.grow g,DVs.grow g hd⟩
 | .dict kvs,v,h=>by
   unfold DV at h ⊢
   obtain⟨a,vs,e,nw,hs,hd⟩:=h
   exact⟨a,vs,e,hs.nw g nw,hs.grow g nw,DKV.grow g hd⟩
theorem DVs.grow (g:Grow K W W' H H'):∀{ds:List PyData}{vs:List V},DVs K H W ds vs→DVs K H' W' ds vs
 | [],vs,h=>by unfold DVs at h ⊢;exact h
 | d::ds,vs,h=>by
   unfold DVs at h ⊢
   obtain⟨v,r,e,h1,h2⟩:=h
   exact⟨v,r,e,DV.grow g h1,DVs.grow g h2⟩
theorem DKV.grow (g:Grow K W W' H H'):∀{ds:List (PyData×PyData)}{vs:List (Key×V)},DKV K H W ds vs→DKV K H' W' ds vs
 | [],vs,h=>by unfold DKV at h ⊢;exact h
 | (k,d)::ds,vs,h=>by
   unfold DKV at h ⊢
   obtain⟨k',v,r,e,e2,h1,h2⟩:=h
   exact⟨k',v,r,e,e2,DV.grow g h1,DKV.grow g h2⟩
end
theorem Grow.trans (a:Grow K W W' H H') (b:Grow K W' W2 H' H2):Grow K W W2 H H2:=by
 refine⟨fun x o h nw=>?_,fun x w=>?_⟩
 · have nw':¬W' x:=fun w=>by
     rcases a.new x w with z | z
     · exact nw z
     · rw[h] at z;cases z
   rcases a.keep x o h nw with e | ⟨ks,ob,e1,e2⟩
   · exact b.keep x o e nw'
   · exact .inr ⟨ks,ob,e1,b.kept e2 nw' fun _ z=>nomatch z⟩
 · rcases b.new x w with z | z1
   · exact a.new x z
   · by_cases hx:W x
     · exact .inl hx
     · refine .inr ?_
       cases e:H x with
       | none=>rfl
       | some o=>
         rcases a.keep x o e hx with q | ⟨_,_,_,q⟩ <;> (rw[q] at z1;cases z1)
theorem DVs.length:∀{ds:List PyData}{vs:List V},DVs K H W ds vs→vs.length=ds.length
 | [],vs,h=>by unfold DVs at h;subst h;rfl
 | d::ds,vs,h=>by
   unfold DVs at h
   obtain⟨v,r,e,h1,h2⟩:=h
   subst e
   simp[DVs.length h2]
theorem DVs.get:∀{ds:List PyData}{vs:List V}{i:Nat}{v:V},DVs K H W ds vs→vs[i]?=some v→∃d,ds[i]?=some d∧DV K H W d v
 | [],vs,i,v,h,e=>by unfold DVs at h;subst h;simp at e
 | d::ds,vs,i,v,h,e=>by
   unfold DVs at h
   obtain⟨u,r,e',h1,h2⟩:=h
   subst e'
   cases i with
   | zero=>simp at e;subst e;exact⟨d,rfl,h1⟩
   | succ i=>simpa using DVs.get h2 (by simpa using e)
theorem DVs.get':∀{ds:List PyData}{vs:List V}{i:Nat}{d:PyData},DVs K H W ds vs→ds[i]?=some d→∃v,vs[i]?=some v∧DV K H W d v
 | [],vs,i,v,h,e=>by simp at e
 | d::ds,vs,i,v,h,e=>by
   unfold DVs at h
   obtain⟨u,r,e',h1,h2⟩:=h
   subst e'
   cases i with
   | zero=>simp at e;subst e;exact⟨u,rfl,h1⟩
   | succ i=>simpa using DVs.get' h2 (by simpa using e)
theorem DVs.nil:DVs K H W [] []:=by unfold DVs;rfl
theorem DVs.cons {d:PyData}{v:V}{ds:List PyData}{vs:List V}(h:DV K H W d v) (t:DVs K H W ds vs):DVs K H W (d::ds) (v::vs):=by unfold DVs;exact⟨v,vs,rfl,h,t⟩
theorem DVs.append:∀{ds es:List PyData}{vs us:List V},DVs K H W ds vs→DVs K H W es us→DVs K H W (ds++es) (vs++us)
 | [],es,vs,us,h,t=>by unfold DVs at h;subst h;exact t
 | d::ds,es,vs,us,h,t=>by
   unfold DVs at h
   obtain⟨u,r,e',h1,h2⟩:=h
   subst e'
   exact DVs.cons h1 (DVs.append h2 t)
theorem DVs.set:∀{ds:List PyData}{vs:List V}{d:PyData}{v:V}(i:Nat),DVs K H W ds vs→DV K H W d v→DVs K H W (ds.set i d) (vs.set i v)
 | [],vs,d,v,i,h,t=>by unfold DVs at h;subst h;exact DVs.nil
 | e::ds,vs,d,v,i,h,t=>by
   unfold DVs at h
   obtain⟨u,r,e',h1,h2⟩:=h
   subst e'
   cases i with
   | zero=>exact DVs.cons t h2
   | succ i=>exact DVs.cons h1 (DVs.set i h2 t)
theorem DVs.drop:∀{ds:List PyData}{vs:List V}(i:Nat),DVs K H W ds vs→DVs K H W (ds.drop i) (vs.drop i)
 | ds,vs,0,h=>h
 | [],vs,i+1,h=>by unfold DVs at h;subst h;exact DVs.nil
 | e::ds,vs,i+1,h=>by
   unfold DVs at h
   obtain⟨u,r,e',h1,h2⟩:=h
   subst e'
   exact DVs.drop i h2
theorem DVs.take:∀{ds:List PyData}{vs:List V}(i:Nat),DVs K H W ds vs→DVs K H W (ds.take i) (vs.take i)
 | ds,vs,0,h=>DVs.nil
 | [],vs,i+1,h=>by unfold DVs at h;subst h;exact DVs.nil
 | e::ds,vs,i+1,h=>by
   unfold DVs at h
   obtain⟨u,r,e',h1,h2⟩:=h
   subst e'
   exact DVs.cons h1 (DVs.take i h2)
theorem dvs_bools:∀{bs:List Bool}{vs:List V},DVs K H W (bs.map PyData.bool) vs→vs=bs.map V.bl
 | [],vs,h=>by unfold DVs at h;exact h
 | b::bs,vs,h=>by
   simp only[zI] at h
   unfold DVs at h
   obtain⟨u,r,e',h1,h2⟩:=h
   unfold DV at h1
   subst e' h1
   rw[dvs_bools h2];rfl
theorem dvs_strs:∀{bs:List Str}{vs:List V},DVs K H W (bs.map PyData.str) vs→vs=bs.map V.str
 | [],vs,h=>by unfold DVs at h;exact h
 | b::bs,vs,h=>by
   simp only[zI] at h
   unfold DVs at h
   obtain⟨u,r,e',h1,h2⟩:=h
   unfold DV at h1
   subst e' h1
   rw[dvs_strs h2];rfl
end
section
variable {X:Cx}{pins:List (Addr×Obj)}{σ:St}{H:Hp}{s:Shared}{W:Addr→Prop}
mutual
theorem DV.reads (I:Inv X pins σ H s):∀{d:PyData}{v:V}{u:Value},d.canLay0=true→DV X.K H W d v→RelV v u→∃as,PySem.Reads s.heap u d as
 | .none,v,u,c,h,r=>by unfold DV at h;subst h;cases r;exact⟨_,.none⟩
 | .bool b,v,u,c,h,r=>by unfold DV at h;subst h;cases r;exact⟨_,.bool b⟩
 | .int i,v,u,c,h,r=>by unfold DV at h;subst h;obtain⟨t,rfl⟩:=r;exact⟨_,.int i t⟩
 | .str x,v,u,c,h,r=>by unfold DV at h;subst h;obtain⟨t,rfl⟩:=r;exact⟨_,.str x t⟩
 | .list ds,v,u,c,h,r=>by
   unfold DV at h
   obtain⟨a,vs,rfl,hs,hd⟩:=h
   cases r
   obtain⟨its,rv,⟨o,n,e,hc,_,dd⟩,_⟩:=I.list hs.sq
   obtain⟨as,q⟩:=DVs.reads I (by simpa [PyData.canLay0] using c) hd rv
   exact⟨_,.list e hc dd (by simpa using q)⟩
 | .tuple ds,v,u,c,h,r=>by
   unfold DV at h
   obtain⟨a,vs,rfl,hs,hd⟩:=h
   cases r
   obtain⟨its,rv,⟨o,e,hc,n,dd⟩,_⟩:=I.tuple hs.sq
   obtain⟨as,q⟩:=DVs.reads I (by simpa [PyData.canLay0] using c) hd rv
   exact⟨_,.tuple e hc dd (by simpa using q)⟩
 | .dict kvs,v,u,c,h,r=>by simp[PyData.canLay0] at c
theorem DVs.reads (I:Inv X pins σ H s):∀{ds:List PyData}{vs:List V}{us:List Value},PyData.canLayAll0 ds=true→DVs X.K H W ds vs→Vals vs us→∃as,PySem.ReadsAll s.heap us ds as
 | [],vs,us,c,h,r=>by unfold DVs at h;subst h;cases r;exact⟨_,.nil⟩
 | d::ds,vs,us,c,h,r=>by
   unfold DVs at h
   obtain⟨v,q,rfl,h1,h2⟩:=h
   cases r with
   | cons r1 r2=>
     simp[PyData.canLayAll0] at c
     obtain⟨as,q1⟩:=DV.reads I c.1 h1 r1
     obtain⟨bs,q2⟩:=DVs.reads I c.2 h2 r2
     exact⟨_,.cons q1 q2⟩
end
def rEqD (K:Frg) (neg:Bool):R2:=fun x y H Q=>∃(W:Addr→Prop) (da db:PyData),DV K H W da x∧DV K H W db y∧zH da=true∧zH db=true∧Q (.bl (if neg then !PyData.eqv da db else PyData.eqv da db)) H
theorem op_eqD (hu:X.A.units+64 < cLine):OpR X (compareOp .Eq) (rEqD X.K false):=by
 intro pins s σ H x y v u Q I rx ry h
 obtain⟨W,da,db,h1,h2,s1,s2,q⟩:=h
 obtain⟨as,r1⟩:=h1.reads I (zG s1) rx
 obtain⟨bs,r2⟩:=h2.reads I (zG s2) ry
 exact PySem.SeqAt.compareEq_shaped r1 r2 s1 s2 hu ⟨.bl _,H,I,rfl,q⟩
theorem op_neD (hu:X.A.units+64 < cLine):OpR X (compareOp .NotEq) (rEqD X.K true):=by
 intro pins s σ H x y v u Q I rx ry h
 obtain⟨W,da,db,h1,h2,s1,s2,q⟩:=h
 obtain⟨as,r1⟩:=h1.reads I (zG s1) rx
 obtain⟨bs,r2⟩:=h2.reads I (zG s2) ry
 exact PySem.SeqAt.compareNe_shaped r1 r2 s1 s2 hu ⟨.bl _,H,I,rfl,q⟩
end
end L2
namespace DL
open PySem PySem.Spec L2
abbrev St:=L2.St
inductive MO where
 | l (ds:List PyData)
 | d (kvs:List (PyData×PyData))
 | x (C:Addr) (fs:List (Str×PyData))
abbrev Own:=Addr→Option MO
def Own.W (M:Own):Addr→Prop:=fun a=>M a≠none
def Own.put (M:Own) (a:Addr) (o:MO):Own:=fun b=>if b=a then some o else M b
def Own.del (M:Own) (a:Addr):Own:=fun b=>if b=a then none else M b
def Own.Sub (M N:Own):Prop:=∀a o,M a=some o→N a=some o
theorem zU {M:Own}{a:Addr}{o:MO}:M.put a o a=some o:=by unfold Own.put;rw[if_pos rfl]
theorem yH {M:Own}{a b:Addr}{o:MO}(h:b≠a):M.put a o b=M b:=by unfold Own.put;rw[if_neg h]
theorem yI {M:Own}{a:Addr}{o o':MO}:(M.put a o).put a o'=M.put a o':=by
 funext b;unfold Own.put;by_cases h:b=a <;> simp[h]
theorem yG {M:Own}{a:Addr}{o:MO}(h:M a=none):(M.put a o).del a=M:=by
 funext b;unfold Own.put Own.del
 by_cases e:b=a
 · subst e;simp[h]
 · simp[e]
theorem Own.put_self {M:Own}{a:Addr}{o:MO}(h:M a=some o):M.put a o=M:=by
 funext b;unfold Own.put
 by_cases e:b=a
 · subst e;simp[h]
 · simp[e]
theorem zT (M:Own):M.Sub M:=fun _ _ h=>h
theorem Own.Sub.put {M N:Own}{a:Addr}{o:MO}(h:M.Sub N) (n:M a=none):M.Sub (N.put a o):=fun b x e=>by
 rw[yH (by rintro rfl;rw[n] at e;cases e)];exact h b x e
inductive DS where
 | d (x:PyData)
 | loc (a:Addr)
 | ty (n:String)
def SI (K:Frg) (H:Hp) (M:Own):DS→V→Prop
 | .d x,v=>DV K H M.W x v
 | .loc a,v=>v = .ref a
 | .ty n,v=>v = .ty n
def SIs (K:Frg) (H:Hp) (M:Own):List DS→List V→Prop
 | [],vs=>vs=[]
 | d::ds,vs=>∃v r,vs=v::r∧SI K H M d v∧SIs K H M ds r
def XI (K:Frg) (H:Hp) (W:Addr→Prop):Option Addr→List (Str×PyData)→Prop
 | none,[]=>True
 | some d,[(n,x)]=>∃v,¬W d∧H d=some (.xd [(n,v)])∧DV K H W x v
 | _,_=>False
theorem XI.grow {K:Frg}{W W':Addr→Prop}{H H':Hp}(g:Grow K W W' H H') {dd:Option Addr}{fs:List (Str×PyData)}(h:XI K H W dd fs):XI K H' W' dd fs:=by
 unfold XI at h ⊢
 split at h
 · trivial
 · obtain⟨v,nw,a,b⟩:=h
   exact⟨v,fun z=>(g.new _ z).elim nw fun q=>by(rw[a] at q;cases q),g.kept a nw (fun _ z=>nomatch z),b.grow g⟩
 · exact h.elim
def exK (a C:Addr) (dd:Option Addr):HO:=.ext fun h=>∃o vs,h.get? a=some o∧o.cls = .ref C∧o.dict=dd∧o.data = .fields vs
def OA1 (K:Frg) (H:Hp) (M:Own) (a:Addr):MO→Prop
 | .x C fs=>∃dd,H a=some (exK a C dd)∧XI K H M.W dd fs
 | .l ds=>∃vs,H a=some (.lst vs)∧DVs K H M.W ds vs
 | .d kvs=>∃ks,H a=some (.dK ks)∧DKV K H M.W kvs ks
def OA (K:Frg) (H:Hp) (M:Own):Prop:=∀a o,M a=some o→OA1 K H M a o
structure Step (K:Frg) (M M':Own) (H H':Hp):Prop where
 grow:Grow K M.W M'.W H H'
structure Rel (K:Frg) (M:Own) (ρ:List (Option DS)) (σ:St) (H:Hp):Prop where
 own:OA K H M
 len:ρ.length=σ.length
 slot:∀(i:Nat) x,ρ[i]?=some (some x)→∃v,σ[i]?=some (some v)∧SI K H M x v
section
variable {K:Frg}{M M' M2:Own}{H H' H2:Hp}{ρ:List (Option DS)}{σ:St}
theorem Step.refl:Step K M M H H:=⟨Grow.refl⟩
theorem Step.trans (a:Step K M M' H H') (b:Step K M' M2 H' H2):Step K M M2 H H2:=⟨a.grow.trans b.grow⟩
theorem SI.step (st:Step K M M' H H'):∀{x:DS}{v:V},SI K H M x v→SI K H' M' x v
 | .d _,_,h=>DV.grow st.grow h
 | .loc _,_,h=>h
 | .ty _,_,h=>h
theorem Rel.step (R:Rel K M ρ σ H) (oa:OA K H' M') (st:Step K M M' H H'):Rel K M' ρ σ H':=
 ⟨oa,R.len,fun i x e=>let ⟨v,h1,h2⟩:=R.slot i x e;⟨v,h1,h2.step st⟩⟩
theorem Rel.set (R:Rel K M ρ σ H) {x:DS}{v:V}(h:SI K H M x v) (i:Nat):Rel K M (ρ.set i (some x)) (σ.set i (some v)) H:=by
 refine⟨R.own,by rw[List.length_set,List.length_set];exact R.len,fun j y e=>?_⟩
 rw[List.getElem?_set] at e ⊢
 by_cases hij:i=j
 · rw[if_pos hij] at e ⊢
   subst hij
   by_cases hl:i < ρ.length
   · rw[if_pos hl] at e
     cases e
     rw[if_pos (by rw[← R.len];exact hl)]
     exact⟨v,rfl,h⟩
   · rw[if_neg hl] at e;cases e
 · rw[if_neg hij] at e ⊢
   exact R.slot j y e
theorem OA.none (oa:OA K H M) {p:Addr}(h:H p=Option.none):M p=Option.none:=by
 cases e:M p with
 | none=>rfl
 | some o=>
   have:=oa p o e
   cases o with
   | l ds=>obtain⟨vs,q,_⟩:=this;rw[h] at q;cases q
   | d kvs=>obtain⟨vs,q,_⟩:=this;rw[h] at q;cases q
   | x C fs=>obtain⟨vs,q,_⟩:=this;rw[h] at q;cases q
theorem grow_new {p:Addr}{o:HO}(W:Addr→Prop) (h:H p=Option.none):Grow K W W H (upd H p o):=
 ⟨fun b u e _=>.inl (by rw[upd_ne (ne_of_none e h)];exact e),fun _ w=>.inl w⟩
theorem OA.grow (oa:OA K H M) (g:Grow K M.W M.W H H') (hk:∀a o,M a=some o→H' a=H a):OA K H' M:=fun a o e=>by
 have q:=oa a o e
 cases o with
 | l ds=>obtain⟨vs,q1,q2⟩:=q;exact⟨vs,by rw[hk a _ e];exact q1,q2.grow g⟩
 | d kvs=>obtain⟨vs,q1,q2⟩:=q;exact⟨vs,by rw[hk a _ e];exact q1,q2.grow g⟩
 | x C fs=>obtain⟨vs,q1,q2⟩:=q;exact⟨vs,by rw[hk a _ e];exact q1,q2.grow g⟩
theorem OA.new {p:Addr}{o:HO}(oa:OA K H M) (h:H p=Option.none):OA K (upd H p o) M:=oa.grow (grow_new _ h) fun a x e=>by
 rw[upd_ne (by rintro rfl;rw[oa.none h] at e;cases e)]
theorem own_new {p:Addr}{vs:List V}{ds:List PyData}(oa:OA K H M) (h:H p=Option.none) (hd:DVs K H M.W ds vs) :
   OA K (upd H p (.lst vs)) (M.put p (.l ds))∧Step K M (M.put p (.l ds)) H (upd H p (.lst vs)):=by
 have hM:=oa.none h
 have g:Grow K M.W (M.put p (.l ds)).W H (upd H p (.lst vs)):=⟨fun b u e _=>.inl (by rw[upd_ne (ne_of_none e h)];exact e),fun b w=>by
   by_cases hb:b=p
   · subst hb;exact .inr h
   · left;unfold Own.W at w ⊢;rw[yH hb] at w;exact w⟩
 refine⟨fun a o e=>?_,⟨g⟩⟩
 · by_cases ha:a=p
   · subst ha;rw[zU] at e;cases e;exact⟨vs,upd_same,hd.grow g⟩
   · rw[yH ha] at e
     have q:=oa a o e
     cases o with
     | l ds=>obtain⟨vs,q1,q2⟩:=q;exact⟨vs,by rw[upd_ne ha];exact q1,q2.grow g⟩
     | d kvs=>obtain⟨vs,q1,q2⟩:=q;exact⟨vs,by rw[upd_ne ha];exact q1,q2.grow g⟩
     | x C fs=>obtain⟨vs,q1,q2⟩:=q;exact⟨vs,by rw[upd_ne ha];exact q1,q2.grow g⟩
theorem own_write {p:Addr}{vs':List V}{ds':List PyData}{o:MO}(oa:OA K H M) (h:M p=some o) (hd:DVs K H M.W ds' vs') :
   OA K (upd H p (.lst vs')) (M.put p (.l ds'))∧Step K M (M.put p (.l ds')) H (upd H p (.lst vs')):=by
 have hw:∀b,(M.put p (.l ds')).W b→M.W b:=fun b w=>by
   unfold Own.W at w ⊢
   by_cases hb:b=p
   · subst hb;rw[h];simp
   · rw[yH hb] at w;exact w
 have g:Grow K M.W (M.put p (.l ds')).W H (upd H p (.lst vs')):=⟨fun b u e nw=>.inl (by
   rw[upd_ne (by rintro rfl;exact nw (by unfold Own.W;rw[h];simp))];exact e),fun b w=>.inl (hw b w)⟩
 refine⟨fun a o e=>?_,⟨g⟩⟩
 · by_cases ha:a=p
   · subst ha;rw[zU] at e;cases e;exact⟨vs',upd_same,hd.grow g⟩
   · rw[yH ha] at e
     have q:=oa a o e
     cases o with
     | l ds=>obtain⟨vs,q1,q2⟩:=q;exact⟨vs,by rw[upd_ne ha];exact q1,q2.grow g⟩
     | d kvs=>obtain⟨vs,q1,q2⟩:=q;exact⟨vs,by rw[upd_ne ha];exact q1,q2.grow g⟩
     | x C fs=>obtain⟨vs,q1,q2⟩:=q;exact⟨vs,by rw[upd_ne ha];exact q1,q2.grow g⟩
theorem sub_grow (hs:M'.Sub M):Grow K M.W M'.W H H:=⟨fun _ _ e _=>.inl e,fun b w=>.inl (by
 unfold Own.W at w ⊢
 cases e:M' b with
 | none=>exact absurd e w
 | some o=>rw[hs b o e];simp)⟩
theorem OA.sub (oa:OA K H M) (hs:M'.Sub M):OA K H M':=fun a o e=>by
 have q:=oa a o (hs a o e)
 cases o with
 | l ds=>obtain⟨vs,q1,q2⟩:=q;exact⟨vs,q1,q2.grow (sub_grow hs)⟩
 | d kvs=>obtain⟨vs,q1,q2⟩:=q;exact⟨vs,q1,q2.grow (sub_grow hs)⟩
 | x C fs=>obtain⟨vs,q1,q2⟩:=q;exact⟨vs,q1,q2.grow (sub_grow hs)⟩
theorem SI.sub (hs:M'.Sub M):∀{x:DS}{v:V},SI K H M x v→SI K H M' x v
 | .d _,_,h=>DV.grow (sub_grow hs) h
 | .loc _,_,h=>h
 | .ty _,_,h=>h
end
def DE (K:Frg) (t:TE) (ρ:List (Option DS)) (M:Own) (Q:DS→Own→Prop):Prop:=
 ∀(σ:St) (H:Hp) (QQ:VK),Rel K M ρ σ H→(∀v H' x M',OA K H' M'→SI K H' M' x v→Step K M M' H H'→Q x M'→QQ v H')→t σ H QQ
def DT (K:Frg) (t:TT) (ρ:List (Option DS)) (M:Own) (Q:Bool→Own→Prop):Prop:=
 ∀(σ:St) (H:Hp) (QQ:Bool→Hp→Prop),Rel K M ρ σ H→(∀b H' M',OA K H' M'→Step K M M' H H'→Q b M'→QQ b H')→t σ H QQ
def DA (K:Frg) (t:TA) (ρ:List (Option DS)) (M:Own) (Q:List DS→Own→Prop):Prop:=
 ∀(σ:St) (H:Hp) (QQ:List V→Hp→Prop),Rel K M ρ σ H→(∀vs H' xs M',OA K H' M'→SIs K H' M' xs vs→Step K M M' H H'→Q xs M'→QQ vs H')→t σ H QQ
def DP (K:Frg) (t:TO) (ρ:List (Option DS)) (M:Own) (Q:Option Int→Own→Prop):Prop:=
 ∀(σ:St) (H:Hp) (QQ:Option Int→Hp→Prop),Rel K M ρ σ H→(∀b H' M',OA K H' M'→Step K M M' H H'→Q b M'→QQ b H')→t σ H QQ
structure EndsD where
 nx:List (Option DS)→Own→Prop
 rt:DS→Own→Prop
 bk:List (Option DS)→Own→Prop:=fun _ _=>False
 ct:List (Option DS)→Own→Prop:=fun _ _=>False
def DSt (K:Frg) (t:TS) (ρ:List (Option DS)) (M:Own) (D:EndsD):Prop:=
 ∀(σ:St) (H:Hp) (E:Ends),Rel K M ρ σ H→(∀ρ' M' σ' H',Rel K M' ρ' σ' H'→Step K M M' H H'→D.nx ρ' M'→E.nx σ' H')→(∀v H' x M',OA K H' M'→SI K H' M' x v→Step K M M' H H'→D.rt x M'→E.rt v H') →
   (∀ρ' M' σ' H',Rel K M' ρ' σ' H'→Step K M M' H H'→D.bk ρ' M'→E.bk σ' H')→(∀ρ' M' σ' H',Rel K M' ρ' σ' H'→Step K M M' H H'→D.ct ρ' M'→E.ct σ' H')→t E σ H
def D1 (K:Frg) (r:V→Hp→VK→Prop) (x:DS) (M:Own) (Q:DS→Own→Prop):Prop:=
 ∀(H:Hp) (v:V) (QQ:VK),OA K H M→SI K H M x v→(∀w H' z M',OA K H' M'→SI K H' M' z w→Step K M M' H H'→Q z M'→QQ w H')→r v H QQ
def D2 (K:Frg) (r:R2) (x y:DS) (M:Own) (Q:DS→Own→Prop):Prop:=
 ∀(H:Hp) (v u:V) (QQ:VK),OA K H M→SI K H M x v→SI K H M y u→(∀w H' z M',OA K H' M'→SI K H' M' z w→Step K M M' H H'→Q z M'→QQ w H')→r v u H QQ
def DR (K:Frg) (r:List V→Hp→VK→Prop) (xs:List DS) (M:Own) (Q:DS→Own→Prop):Prop:=
 ∀(H:Hp) (vs:List V) (QQ:VK),OA K H M→SIs K H M xs vs→(∀w H' z M',OA K H' M'→SI K H' M' z w→Step K M M' H H'→Q z M'→QQ w H')→r vs H QQ
def DM (K:Frg) (r:V→List V→Hp→VK→Prop) (x:DS) (xs:List DS) (M:Own) (Q:DS→Own→Prop):Prop:=
 ∀(H:Hp) (v:V) (vs:List V) (QQ:VK),OA K H M→SI K H M x v→SIs K H M xs vs→(∀w H' z M',OA K H' M'→SI K H' M' z w→Step K M M' H H'→Q z M'→QQ w H')→r v vs H QQ
def DSl (K:Frg) (r:V→Option Int→Option Int→Hp→VK→Prop) (x:DS) (lo hi:Option Int) (M:Own) (Q:DS→Own→Prop):Prop:=
 ∀(H:Hp) (v:V) (QQ:VK),OA K H M→SI K H M x v→(∀w H' z M',OA K H' M'→SI K H' M' z w→Step K M M' H H'→Q z M'→QQ w H')→r v lo hi H QQ
def DTy (K:Frg) (T:String) (x:DS) (M:Own):Prop:=∀(H:Hp) (v:V),OA K H M→SI K H M x v→tyV K T v H
section
variable {K:Frg}{ρ:List (Option DS)}{M:Own}{Q:DS→Own→Prop}{QB:Bool→Own→Prop}{ta tb tc:TE}{tA tB':TT}{r r':R2}
theorem de_mono {t:TE}{Q':DS→Own→Prop}(h:DE K t ρ M Q) (hq:∀x M',Q x M'→Q' x M'):DE K t ρ M Q':=fun σ H QQ R k=>h σ H QQ R fun v H' x M' a b c q=>k v H' x M' a b c (hq x M' q)
theorem de_var {i:Nat}{x:DS}(e:ρ[i]?=some (some x)) (h:Q x M):DE K (tVar i) ρ M Q:=fun σ H QQ R k=>by
 obtain⟨v,h1,h2⟩:=R.slot i x e
 exact⟨v,h1,k v H x M R.own h2 Step.refl h⟩
theorem de_int {i:Int}(h:Q (.d (.int i)) M):DE K (tC (.int i)) ρ M Q:=fun σ H QQ R k=>k _ H (.d (.int i)) M R.own (by unfold SI DV;rfl) Step.refl h
theorem de_bl {i:Bool}(h:Q (.d (.bool i)) M):DE K (tC (.bl i)) ρ M Q:=fun σ H QQ R k=>k _ H (.d (.bool i)) M R.own (by unfold SI DV;rfl) Step.refl h
theorem de_str {i:Str}(h:Q (.d (.str i)) M):DE K (tC (.str i)) ρ M Q:=fun σ H QQ R k=>k _ H (.d (.str i)) M R.own (by unfold SI DV;rfl) Step.refl h
theorem de_non (h:Q (.d .none) M):DE K (tC .non) ρ M Q:=fun σ H QQ R k=>k _ H (.d .none) M R.own (by unfold SI DV;rfl) Step.refl h
theorem de_ty {n:String}(h:Q (.ty n) M):DE K (tC (.ty n)) ρ M Q:=fun σ H QQ R k=>k _ H (.ty n) M R.own rfl Step.refl h
theorem de_op (h:DE K ta ρ M fun x M1=>DE K tb ρ M1 fun y M2=>D2 K r x y M2 Q):DE K (tOp r ta tb) ρ M Q:=fun σ H QQ R k=>
 h σ H _ R fun v H1 x M1 o1 s1 t1 h1=>h1 σ H1 _ (R.step o1 t1) fun u H2 y M2 o2 s2 t2 h2=>h2 H2 v u QQ o2 (s1.step t2) s2 fun w H3 z M3 o3 s3 t3 q=>k w H3 z M3 o3 s3 ((t1.trans t2).trans t3) q
theorem de_un {r:V→Hp→VK→Prop}(h:DE K ta ρ M fun x M1=>D1 K r x M1 Q):DE K (tUn r ta) ρ M Q:=fun σ H QQ R k=>
 h σ H _ R fun v H1 x M1 o1 s1 t1 h1=>h1 H1 v QQ o1 s1 fun w H3 z M3 o3 s3 t3 q=>k w H3 z M3 o3 s3 (t1.trans t3) q
theorem de_chain (h:DE K ta ρ M fun x M1=>DE K tb ρ M1 fun y M2=>D2 K r x y M2 fun z M3=>∃c,z = .d (.bool c)∧if c=true then DE K tc ρ M3 (fun w M4=>D2 K r' y w M4 Q) else Q (.d (.bool false)) M3) :
   DE K (tChain r r' ta tb tc) ρ M Q:=fun σ H QQ R k=>
 h σ H _ R fun v H1 x M1 o1 s1 t1 h1=>h1 σ H1 _ (R.step o1 t1) fun u H2 y M2 o2 s2 t2 h2=>h2 H2 v u _ o2 (s1.step t2) s2 fun w H3 z M3 o3 s3 t3 q=>by
   obtain⟨c,rfl,q⟩:=q
   unfold SI DV at s3
   refine⟨c,s3,?_⟩
   cases c with
   | false=>
     rw[if_neg nft] at q ⊢
     exact k _ H3 _ M3 o3 (by unfold SI DV;rfl) ((t1.trans t2).trans t3) q
   | true=>
     rw[if_pos rfl] at q ⊢
     exact q σ H3 _ (R.step o3 ((t1.trans t2).trans t3)) fun w4 H4 z4 M4 o4 s4 t4 h4=>h4 H4 u w4 QQ o4 (s2.step (t3.trans t4)) s4 fun w5 H5 z5 M5 o5 s5 t5 q5=>k w5 H5 z5 M5 o5 s5 ((((t1.trans t2).trans t3).trans t4).trans t5) q5
theorem dt_test (h:DE K ta ρ M fun x M1=>∃c,x = .d (.bool c)∧QB c M1):DT K (tTest ta) ρ M QB:=fun σ H QQ R k=>
 h σ H _ R fun v H1 x M1 o1 s1 t1 h1=>by
   obtain⟨c,rfl,q⟩:=h1
   unfold SI DV at s1
   exact⟨c,s1,k c H1 M1 o1 t1 q⟩
theorem dt_b (h:DE K ta ρ M fun x M1=>∃c,x = .d (.bool c)∧QB c M1):DT K (L2.tB ta) ρ M QB:=fun σ H QQ R k=>
 h σ H _ R fun v H1 x M1 o1 s1 t1 h1=>by
   obtain⟨c,rfl,q⟩:=h1
   unfold SI DV at s1
   exact⟨c,s1,k c H1 M1 o1 t1 q⟩
theorem dt_and (h:DT K tA ρ M fun c M1=>if c=true then DT K tB' ρ M1 QB else QB false M1):DT K (tAnd tA tB') ρ M QB:=fun σ H QQ R k=>
 h σ H _ R fun c H1 M1 o1 t1 h1=>by
   cases c with
   | false=>rw[if_neg nft] at h1 ⊢;exact k _ H1 M1 o1 t1 h1
   | true=>rw[if_pos rfl] at h1 ⊢;exact h1 σ H1 QQ (R.step o1 t1) fun b H2 M2 o2 t2 q=>k b H2 M2 o2 (t1.trans t2) q
theorem dt_or (h:DT K tA ρ M fun c M1=>if c=true then QB true M1 else DT K tB' ρ M1 QB):DT K (tOr tA tB') ρ M QB:=fun σ H QQ R k=>
 h σ H _ R fun c H1 M1 o1 t1 h1=>by
   cases c with
   | true=>rw[if_pos rfl] at h1 ⊢;exact k _ H1 M1 o1 t1 h1
   | false=>rw[if_neg nft] at h1 ⊢;exact h1 σ H1 QQ (R.step o1 t1) fun b H2 M2 o2 t2 q=>k b H2 M2 o2 (t1.trans t2) q
theorem dt_not (h:DT K tA ρ M fun c M1=>QB (!c) M1):DT K (tNot tA) ρ M QB:=fun σ H QQ R k=>h σ H _ R fun c H1 M1 o1 t1 h1=>k _ H1 M1 o1 t1 h1
theorem dt_yes (h:QB true M):DT K tYes ρ M QB:=fun σ H QQ R k=>k true H M R.own Step.refl h
theorem de_and (h:DE K ta ρ M fun x M1=>∃c,x = .d (.bool c)∧if c=true then DE K tb ρ M1 Q else Q (.d (.bool false)) M1):DE K (tAndV ta tb) ρ M Q:=fun σ H QQ R k=>
 h σ H _ R fun v H1 x M1 o1 s1 t1 h1=>by
   obtain⟨c,rfl,q⟩:=h1
   unfold SI DV at s1
   refine⟨c,s1,?_⟩
   cases c with
   | false=>rw[if_neg nft] at q ⊢;exact k _ H1 _ M1 o1 (by unfold SI DV;rfl) t1 q
   | true=>rw[if_pos rfl] at q ⊢;exact q σ H1 QQ (R.step o1 t1) fun w H2 z M2 o2 s2 t2 q=>k w H2 z M2 o2 s2 (t1.trans t2) q
theorem de_not (h:DE K ta ρ M fun x M1=>∃c,x = .d (.bool c)∧Q (.d (.bool (!c))) M1):DE K (tNotV ta) ρ M Q:=fun σ H QQ R k=>
 h σ H _ R fun v H1 x M1 o1 s1 t1 h1=>by
   obtain⟨c,rfl,q⟩:=h1
   unfold SI DV at s1
   exact⟨c,s1,k _ H1 _ M1 o1 (by unfold SI DV;rfl) t1 q⟩
theorem de_if (h:DT K tA ρ M fun c M1=>if c=true then DE K ta ρ M1 Q else DE K tb ρ M1 Q):DE K (tIf tA ta tb) ρ M Q:=fun σ H QQ R k=>
 h σ H _ R fun c H1 M1 o1 t1 h1=>by
   cases c with
   | true=>rw[if_pos rfl] at h1 ⊢;exact h1 σ H1 QQ (R.step o1 t1) fun w H2 z M2 o2 s2 t2 q=>k w H2 z M2 o2 s2 (t1.trans t2) q
   | false=>rw[if_neg nft] at h1 ⊢;exact h1 σ H1 QQ (R.step o1 t1) fun w H2 z M2 o2 s2 t2 q=>k w H2 z M2 o2 s2 (t1.trans t2) q
variable {QL:List DS→Own→Prop}{tl:TA}
theorem da_nil (h:QL [] M):DA K tNil ρ M QL:=fun σ H QQ R k=>k [] H [] M R.own rfl Step.refl h
theorem da_cons (h:DE K ta ρ M fun x M1=>DA K tl ρ M1 fun xs M2=>QL (x::xs) M2):DA K (tCons ta tl) ρ M QL:=fun σ H QQ R k=>
 h σ H _ R fun v H1 x M1 o1 s1 t1 h1=>h1 σ H1 _ (R.step o1 t1) fun vs H2 xs M2 o2 s2 t2 q=>k (v::vs) H2 (x::xs) M2 o2 ⟨v,vs,rfl,s1.step t2,s2⟩ (t1.trans t2) q
def allD:List DS→Option (List PyData)
 | []=>some []
 | .d x::r=>match allD r with
   | some l=>some (x::l)
   | none=>none
 | .loc _::_=>none
 | .ty _::_=>none
theorem SIs.data {H:Hp}:∀{xs:List DS}{ds:List PyData}{vs:List V},allD xs=some ds→SIs K H M xs vs→DVs K H M.W ds vs
 | [],ds,vs,e,h=>by cases e;cases h;exact DVs.nil
 | .d x::r,ds,vs,e,⟨v,q,e2,h1,h2⟩=>by
   cases e3:allD r with
   | none=>rw[allD,e3] at e;cases e
   | some es=>
     rw[allD,e3] at e;cases e
     subst e2
     exact DVs.cons h1 (SIs.data e3 h2)
 | .loc _::_,ds,vs,e,_=>by cases e
 | .ty _::_,ds,vs,e,_=>by cases e
theorem SIs.length {H:Hp}:∀{xs:List DS}{vs:List V},SIs K H M xs vs→vs.length=xs.length
 | [],vs,h=>by cases h;rfl
 | _::r,vs,⟨v,q,e2,h1,h2⟩=>by subst e2;simp[SIs.length h2]
theorem de_tup (h:DA K tl ρ M fun xs M1=>∃ds,allD xs=some ds∧ds.length≤sizeLine∧Q (.d (.tuple ds)) M1):DE K (tTup tl) ρ M Q:=fun σ H QQ R k=>
 h σ H _ R fun vs H1 xs M1 o1 s1 t1 h1=>by
   obtain⟨ds,e,hz,q⟩:=h1
   have hd:=s1.data e
   refine⟨by rw[hd.length];exact hz,fun p hp=>?_⟩
   have g:Grow K M1.W M1.W H1 (upd H1 p (.tup vs)):=grow_new _ hp
   refine k _ _ (.d (.tuple ds)) M1 (o1.new hp) ?_ (t1.trans ⟨g⟩) q
   unfold SI DV
   exact⟨p,vs,rfl,.inl ⟨fun w=>w (o1.none hp),.inl upd_same⟩,hd.grow g⟩
theorem de_lst (h:DA K tl ρ M fun xs M1=>∃ds,allD xs=some ds∧ds.length≤sizeLine∧Q (.d (.list ds)) M1):DE K (tLst tl) ρ M Q:=fun σ H QQ R k=>
 h σ H _ R fun vs H1 xs M1 o1 s1 t1 h1=>by
   obtain⟨ds,e,hz,q⟩:=h1
   have hd:=s1.data e
   refine⟨by rw[hd.length];exact hz,fun p hp=>?_⟩
   have g:Grow K M1.W M1.W H1 (upd H1 p (.lst vs)):=grow_new _ hp
   refine k _ _ (.d (.list ds)) M1 (o1.new hp) ?_ (t1.trans ⟨g⟩) q
   unfold SI DV
   exact⟨p,vs,rfl,.inl ⟨fun w=>w (o1.none hp),.inl upd_same⟩,hd.grow g⟩
theorem de_lstO (h:DA K tl ρ M fun xs M1=>∃ds,allD xs=some ds∧ds.length≤sizeLine∧∀p,M1 p=none→Q (.loc p) (M1.put p (.l ds))):DE K (tLst tl) ρ M Q:=fun σ H QQ R k=>
 h σ H _ R fun vs H1 xs M1 o1 s1 t1 h1=>by
   obtain⟨ds,e,hz,q⟩:=h1
   have hd:=s1.data e
   refine⟨by rw[hd.length];exact hz,fun p hp=>?_⟩
   obtain⟨a,b⟩:=own_new o1 hp hd
   exact k _ _ (.loc p) _ a rfl (t1.trans b) (q p (o1.none hp))
theorem de_cb {r:List V→Hp→VK→Prop}(h:DA K tl ρ M fun xs M1=>DR K r xs M1 Q):DE K (tCB r tl) ρ M Q:=fun σ H QQ R k=>
 h σ H _ R fun vs H1 xs M1 o1 s1 t1 h1=>h1 H1 vs QQ o1 s1 fun w H2 z M2 o2 s2 t2 q=>k w H2 z M2 o2 s2 (t1.trans t2) q
structure FSp where
 pre:List DS→Own→Prop
 post:List DS→Own→DS→Own→Prop
def spD (K:Frg) (n:Nat) (S:FSp):Sp:=fun vs H Q _=>∃xs M,xs.length=n∧OA K H M∧SIs K H M xs vs∧S.pre xs M∧∀x M' v H',S.post xs M x M'→Step K M M' H H'→OA K H' M'→SI K H' M' x v→Q v H'
theorem spD_len {n:Nat}{S:FSp}:∀vs H Q E,spD K n S vs H Q E→vs.length=n:=fun vs H Q E ⟨xs,M,hl,_,h,_⟩=>by rw[h.length,hl]
theorem de_call {n:Nat}{S:FSp}{E:XK}(h:DA K tl ρ M fun xs M1=>xs.length=n∧S.pre xs M1∧∀x M',S.post xs M1 x M'→Q x M'):DE K (tCall (spD K n S) [] E tl) ρ M Q:=fun σ H QQ R k=>
 h σ H _ R fun vs H1 xs M1 o1 s1 t1 ⟨h0,h1,h2⟩=>by
   show spD K n S (vs++[]) H1 QQ E
   rw[List.append_nil]
   exact⟨xs,M1,h0,o1,s1,h1,fun x M' v H' p st oa si=>k v H' x M' oa si (t1.trans st) (h2 x M' p)⟩
theorem de_bm {T:String}{r:V→List V→Hp→VK→Prop}(h:DE K ta ρ M fun x M1=>DTy K T x M1∧DA K tl ρ M1 fun xs M2=>DM K r x xs M2 Q):DE K (tBM K T r ta tl) ρ M Q:=fun σ H QQ R k=>
 h σ H _ R fun v H1 x M1 o1 s1 t1 ⟨h0,h1⟩=>⟨h0 H1 v o1 s1,h1 σ H1 _ (R.step o1 t1) fun vs H2 xs M2 o2 s2 t2 h2=>h2 H2 v vs QQ o2 (s1.step t2) s2 fun w H3 z M3 o3 s3 t3 q=>k w H3 z M3 o3 s3 ((t1.trans t2).trans t3) q⟩
theorem dp_none {QP:Option Int→Own→Prop}(h:QP none M):DP K tNoPart ρ M QP:=fun σ H QQ R k=>k _ H M R.own Step.refl h
theorem dp_some {QP:Option Int→Own→Prop}(h:DE K ta ρ M fun x M1=>∃i,x = .d (.int i)∧QP (some i) M1):DP K (tPart ta) ρ M QP:=fun σ H QQ R k=>
 h σ H _ R fun v H1 x M1 o1 s1 t1 h1=>by
   obtain⟨i,rfl,q⟩:=h1
   unfold SI DV at s1
   exact⟨i,s1,k _ H1 M1 o1 t1 q⟩
theorem de_sl {r:V→Option Int→Option Int→Hp→VK→Prop}{tl th:TO}(h:DE K ta ρ M fun x M1=>DP K tl ρ M1 fun lo M2=>DP K th ρ M2 fun hi M3=>DSl K r x lo hi M3 Q):DE K (tSl r ta tl th) ρ M Q:=fun σ H QQ R k=>
 h σ H _ R fun v H1 x M1 o1 s1 t1 h1=>h1 σ H1 _ (R.step o1 t1) fun lo H2 M2 o2 t2 h2=>h2 σ H2 _ (R.step o2 (t1.trans t2)) fun hi H3 M3 o3 t3 h3=>h3 H3 v QQ o3 (s1.step (t2.trans t3)) fun w H4 z M4 o4 s4 t4 q=>k w H4 z M4 o4 s4 (((t1.trans t2).trans t3).trans t4) q
variable {D:EndsD}{t u:TS}
theorem ds_next (h:D.nx ρ M):DSt K tNext ρ M D:=fun σ H E R k1 _ _ _=>k1 ρ M σ H R Step.refl h
theorem ds_ret (h:DE K ta ρ M D.rt):DSt K (tRet ta) ρ M D:=fun σ H E R _ k2 _ _=>h σ H E.rt R fun v H' x M' a b c q=>k2 v H' x M' a b c q
theorem ds_drop (h:DE K ta ρ M fun _ M1=>D.nx ρ M1):DSt K (tDrop ta) ρ M D:=fun σ H E R k1 _ _ _=>h σ H _ R fun v H' x M' a b c q=>k1 ρ M' σ H' (R.step a c) c q
theorem ds_set {i:Nat}(h:DE K ta ρ M fun x M1=>D.nx (ρ.set i (some x)) M1):DSt K (tAsg ta (gName i)) ρ M D:=fun σ H E R k1 _ _ _=>
 h σ H _ R fun v H' x M' a b c q=>k1 _ M' _ H' ((R.step a c).set b i) c q
theorem ds_setc {i:Nat}(h:DE K ta ρ M fun x M1=>D.nx (ρ.set i (some x)) M1):DSt K (fun D σ H=>ta σ H fun v H'=>D.nx (σ.set i (some v)) H') ρ M D:=fun σ H E R k1 _ _ _=>
 h σ H _ R fun v H' x M' a b c q=>k1 _ M' _ H' ((R.step a c).set b i) c q
theorem ds_seq (h:DSt K t ρ M { D with nx:=fun ρ1 M1=>DSt K u ρ1 M1 D }):DSt K (tSeq t u) ρ M D:=fun σ H E R k1 k2 k3 k4=>by
 refine h σ H { E with nx:=fun σ' H'=>u E σ' H' } R (fun ρ1 M1 σ1 H1 R1 t1 q=>?_) k2 k3 k4
 exact q σ1 H1 E R1 (fun a b c d e f g=>k1 a b c d e (t1.trans f) g) (fun a b c d e f g q=>k2 a b c d e f (t1.trans g) q) (fun a b c d e f g=>k3 a b c d e (t1.trans f) g) (fun a b c d e f g=>k4 a b c d e (t1.trans f) g)
theorem ds_if (h:DT K tA ρ M fun c M1=>if c=true then DSt K t ρ M1 D else DSt K u ρ M1 D):DSt K (tIfS tA t u) ρ M D:=fun σ H E R k1 k2 k3 k4=>
 h σ H _ R fun c H1 M1 o1 t1 h1=>by
   have go:∀{w:TS},DSt K w ρ M1 D→w E σ H1:=fun q=>q σ H1 E (R.step o1 t1) (fun a b c d e f g=>k1 a b c d e (t1.trans f) g) (fun a b c d e f g q=>k2 a b c d e f (t1.trans g) q) (fun a b c d e f g=>k3 a b c d e (t1.trans f) g) (fun a b c d e f g=>k4 a b c d e (t1.trans f) g)
   cases c with
   | true=>rw[if_pos rfl] at h1 ⊢;exact go h1
   | false=>rw[if_neg nft] at h1 ⊢;exact go h1
theorem ds_mono {D':EndsD}(h:DSt K t ρ M D) (h1:∀ρ' M',D.nx ρ' M'→D'.nx ρ' M') (h2:∀x M',D.rt x M'→D'.rt x M') (h3:∀ρ' M',D.bk ρ' M'→D'.bk ρ' M') (h4:∀ρ' M',D.ct ρ' M'→D'.ct ρ' M'):DSt K t ρ M D':=
 fun σ H E R k1 k2 k3 k4=>h σ H E R (fun a b c d e f g=>k1 a b c d e f (h1 _ _ g)) (fun a b c d e f g q=>k2 a b c d e f g (h2 _ _ q)) (fun a b c d e f g=>k3 a b c d e f (h3 _ _ g)) (fun a b c d e f g=>k4 a b c d e f (h4 _ _ g))
theorem ds_freeze {i:Nat}{a:Addr}{ds:List PyData}(e:ρ[i]?=some (some (.loc a))) (m:M a=some (.l ds)) (h:DSt K t (ρ.set i (some (.d (.list ds)))) (M.del a) D):DSt K t ρ M D:=fun σ H E R k1 k2 k3 k4=>by
 have hs:(M.del a).Sub M:=fun b o q=>by
   unfold Own.del at q
   by_cases hb:b=a
   · rw[if_pos hb] at q;cases q
   · rw[if_neg hb] at q;exact q
 have st:Step K M (M.del a) H H:=⟨sub_grow hs⟩
 obtain⟨v,e1,e2⟩:=R.slot i _ e
 obtain⟨vs,q1,q2⟩:=R.own a _ m
 have R1:Rel K (M.del a) ρ σ H:=R.step (R.own.sub hs) st
 have R2:=R1.set (x:=.d (.list ds)) (v:=v) (by
   unfold SI DV
   refine⟨a,vs,e2,.inl ⟨fun w=>w (by unfold Own.del;rw[if_pos rfl]),.inl q1⟩,q2.grow (sub_grow hs)⟩) i
 have e3:σ.set i (some v)=σ:=by
   apply List.ext_getElem?
   intro j
   rw[List.getElem?_set]
   by_cases hij:i=j
   · subst hij
     rw[if_pos rfl,e1]
     split
     · rfl
     · rename_i hl
       rw[List.getElem?_eq_none (by omega)] at e1;cases e1
   · rw[if_neg hij]
 rw[e3] at R2
 exact h σ H E R2 (fun a b c d e f g=>k1 a b c d e (st.trans f) g) (fun a b c d e f g q=>k2 a b c d e f (st.trans g) q) (fun a b c d e f g=>k3 a b c d e (st.trans f) g) (fun a b c d e f g=>k4 a b c d e (st.trans f) g)
end
end DL
namespace DL
open PySem PySem.Spec L2
section
variable {K:Frg}{ρ:List (Option DS)}{M:Own}{Q:DS→Own→Prop}{H:Hp}
theorem si_int {i:Int}{v:V}(h:SI K H M (.d (.int i)) v):v = .int i:=by unfold SI DV at h;exact h
theorem si_bl {i:Bool}{v:V}(h:SI K H M (.d (.bool i)) v):v = .bl i:=by unfold SI DV at h;exact h
theorem si_str {i:Str}{v:V}(h:SI K H M (.d (.str i)) v):v = .str i:=by unfold SI DV at h;exact h
theorem si_non {v:V}(h:SI K H M (.d .none) v):v = .non:=by unfold SI DV at h;exact h
theorem si_of_int {i:Int}:SI K H M (.d (.int i)) (.int i):=by unfold SI DV;rfl
theorem si_of_bl {i:Bool}:SI K H M (.d (.bool i)) (.bl i):=by unfold SI DV;rfl
theorem si_of_str {i:Str}:SI K H M (.d (.str i)) (.str i):=by unfold SI DV;rfl
theorem d2_i {g:Int→Int→Int}{i j:Int}(q:Q (.d (.int (g i j))) M):D2 K (rI0 fun i j=>.int (g i j)) (.d (.int i)) (.d (.int j)) M Q:=fun H v u QQ oa s1 s2 k=>by
 rw[si_int s1,si_int s2];exact⟨i,j,rfl,rfl,k _ H _ M oa si_of_int Step.refl q⟩
theorem d2_b {g:Int→Int→Bool}{i j:Int}(q:Q (.d (.bool (g i j))) M):D2 K (rI0 fun i j=>.bl (g i j)) (.d (.int i)) (.d (.int j)) M Q:=fun H v u QQ oa s1 s2 k=>by
 rw[si_int s1,si_int s2];exact⟨i,j,rfl,rfl,k _ H _ M oa si_of_bl Step.refl q⟩
theorem d2_iC {C:Int→Int→Prop}{g:Int→Int→Int}{i j:Int}(c:C i j) (q:Q (.d (.int (g i j))) M):D2 K (rI C fun i j=>.int (g i j)) (.d (.int i)) (.d (.int j)) M Q:=fun H v u QQ oa s1 s2 k=>by
 rw[si_int s1,si_int s2];exact⟨i,j,rfl,rfl,c,k _ H _ M oa si_of_int Step.refl q⟩
theorem d1_i {g:Int→Int}{i:Int}(q:Q (.d (.int (g i))) M):D1 K (rU fun i=>.int (g i)) (.d (.int i)) M Q:=fun H v QQ oa s1 k=>by
 rw[si_int s1];exact⟨i,rfl,k _ H _ M oa si_of_int Step.refl q⟩
theorem d2_cats {i j:Str}(hz:i.length+j.length≤sizeLine) (q:Q (.d (.str (i++j))) M) :
   D2 K (fun x y H Q=>∃i j,x = .str i∧y = .str j∧i.length+j.length≤sizeLine∧Q (.str (i++j)) H) (.d (.str i)) (.d (.str j)) M Q:=fun H v u QQ oa s1 s2 k=>by
 rw[si_str s1,si_str s2];exact⟨i,j,rfl,rfl,hz,k _ H _ M oa si_of_str Step.refl q⟩
theorem d2_eq {neg:Bool}{a b:PyData}(ha:zH a=true) (hb:zH b=true) (q:Q (.d (.bool (if neg then !PyData.eqv a b else PyData.eqv a b))) M):D2 K (rEqD K neg) (.d a) (.d b) M Q:=fun H v u QQ oa s1 s2 k=>
 ⟨M.W,a,b,s1,s2,ha,hb,k _ H _ M oa si_of_bl Step.refl q⟩
theorem inV_strs (x:Str) (ys:List Str):inV (.str x) (ys.map V.str)=decide (x∈ys):=by
 unfold inV
 rw[Bool.eq_iff_iff,List.any_eq_true,decide_eq_true_iff]
 constructor
 · rintro⟨y,hy,e⟩
   obtain⟨z,hz,rfl⟩:=zL.mp hy
   have:z=x:=by simpa [eqV] using e
   subst this;exact hz
 · intro h
   exact⟨.str x,zL.mpr ⟨x,h,rfl⟩,by simp[eqV]⟩
theorem d2_inl {neg:Bool}{x:Str}{ys:List Str}(q:Q (.d (.bool (if neg then !decide (x∈ys) else decide (x∈ys)))) M):D2 K (rIn K neg) (.d (.str x)) (.d (.list (ys.map .str))) M Q:=fun H v u QQ oa s1 s2 k=>by
 rw[si_str s1]
 unfold SI DV at s2
 obtain⟨a,vs,rfl,hl,hd⟩:=s2
 have e:=dvs_strs hd
 subst e
 exact⟨a,_,rfl,.inl hl.sq,rfl,by simp[flatV],k _ H (.d (.bool (if neg then !decide (x∈ys) else decide (x∈ys)))) M oa (by rw[inV_strs];exact si_of_bl) Step.refl q⟩
theorem dvs_at {W:Addr→Prop}{ds:List PyData}{vs:List V}{i:Int}{d:PyData}(h:DVs K H W ds vs) (e:atI ds i=some d):∃v,atI vs i=some v∧DV K H W d v:=by
 unfold atI at e ⊢
 rw[h.length]
 cases hx:ixN ds.length i with
 | none=>rw[hx] at e;cases e
 | some j=>rw[hx] at e;simpa using h.get' (by simpa using e)
theorem d2_ixl {ds:List PyData}{i:Int}{d:PyData}(e:atI ds i=some d) (q:Q (.d d) M):D2 K (rIxL K) (.d (.list ds)) (.d (.int i)) M Q:=fun H v u QQ oa s1 s2 k=>by
 rw[si_int s2]
 unfold SI DV at s1
 obtain⟨a,vs,rfl,hl,hd⟩:=s1
 obtain⟨w,h1,h2⟩:=dvs_at hd e
 exact⟨a,vs,i,w,rfl,rfl,hl.sq,h1,k _ H (.d d) M oa h2 Step.refl q⟩
theorem d2_ixt {ds:List PyData}{i:Int}{d:PyData}(e:atI ds i=some d) (q:Q (.d d) M):D2 K (rIxT K) (.d (.tuple ds)) (.d (.int i)) M Q:=fun H v u QQ oa s1 s2 k=>by
 rw[si_int s2]
 unfold SI DV at s1
 obtain⟨a,vs,rfl,hl,hd⟩:=s1
 obtain⟨w,h1,h2⟩:=dvs_at hd e
 exact⟨a,vs,i,w,rfl,rfl,hl.sq,h1,k _ H (.d d) M oa h2 Step.refl q⟩
theorem d2_ixo {a:Addr}{ds:List PyData}{i:Int}{d:PyData}(m:M a=some (.l ds)) (e:atI ds i=some d) (q:Q (.d d) M):D2 K (rIxL K) (.loc a) (.d (.int i)) M Q:=fun H v u QQ oa s1 s2 k=>by
 rw[si_int s2]
 unfold SI at s1
 subst s1
 obtain⟨vs,h0,hd⟩:=oa a _ m
 obtain⟨w,h1,h2⟩:=dvs_at hd e
 exact⟨a,vs,i,w,rfl,rfl,SqL.of h0,h1,k _ H (.d d) M oa h2 Step.refl q⟩
theorem d2_ixs {z:Str}{i:Int}{c:Nat}(hz:z.length≤sizeLine) (e:atI z.cps.toList i=some c) (q:Q (.d (.str ⟨#[c]⟩)) M):D2 K rIxS (.d (.str z)) (.d (.int i)) M Q:=fun H v u QQ oa s1 s2 k=>by
 rw[si_int s2,si_str s1]
 exact⟨z,i,c,rfl,rfl,hz,e,k _ H _ M oa si_of_str Step.refl q⟩
theorem d2_or1 {r r':R2}{x y:DS}(h:D2 K r x y M Q):D2 K (fun x y H Q=>r x y H Q∨r' x y H Q) x y M Q:=fun H v u QQ oa s1 s2 k=>.inl (h H v u QQ oa s1 s2 k)
theorem d2_or2 {r r':R2}{x y:DS}(h:D2 K r' x y M Q):D2 K (fun x y H Q=>r x y H Q∨r' x y H Q) x y M Q:=fun H v u QQ oa s1 s2 k=>.inr (h H v u QQ oa s1 s2 k)
theorem d2_cat {as bs:List PyData}(hz:as.length+bs.length≤sizeLine) (q:Q (.d (.list (as++bs))) M):D2 K (fun x y H Q=>∃a b xs ys,x = .ref a∧y = .ref b∧SqL K H a xs∧SqL K H b ys∧xs.length+ys.length≤sizeLine∧∀p,H p=none→Q (.ref p) (upd H p (.lst (xs++ys)))) (.d (.list as)) (.d (.list bs)) M Q:=fun H v u QQ oa s1 s2 k=>by
 unfold SI DV at s1 s2
 obtain⟨a,vs,rfl,hl,hd⟩:=s1
 obtain⟨b,us,rfl,hl2,hd2⟩:=s2
 refine⟨a,b,vs,us,rfl,rfl,hl.sq,hl2.sq,by rw[hd.length,hd2.length];exact hz,fun p hp=>?_⟩
 have g:Grow K M.W M.W H (upd H p (.lst (vs++us))):=grow_new _ hp
 refine k _ _ (.d (.list (as++bs))) M (oa.new hp) ?_ ⟨g⟩ q
 unfold SI DV
 exact⟨p,_,rfl,.inl ⟨fun w=>w (oa.none hp),.inl upd_same⟩,(hd.append hd2).grow g⟩
theorem dr_lenl {ds:List PyData}(q:Q (.d (.int ds.length)) M):DR K (fun xs H Q=>∃x n,xs=[x]∧LenV K x H n∧Q (.int (n:Nat)) H) [.d (.list ds)] M Q:=fun H vs QQ oa s k=>by
 obtain⟨v,r,rfl,h1,h2⟩:=s
 cases h2
 unfold SI DV at h1
 obtain⟨a,vs,rfl,hl,hd⟩:=h1
 exact⟨_,_,rfl,.inl ⟨vs,hl.sq,rfl⟩,k _ H (.d (.int ds.length)) M oa (by rw[hd.length];exact si_of_int) Step.refl q⟩
theorem dr_lent {ds:List PyData}(q:Q (.d (.int ds.length)) M):DR K (fun xs H Q=>∃x n,xs=[x]∧LenV K x H n∧Q (.int (n:Nat)) H) [.d (.tuple ds)] M Q:=fun H vs QQ oa s k=>by
 obtain⟨v,r,rfl,h1,h2⟩:=s
 cases h2
 unfold SI DV at h1
 obtain⟨a,vs,rfl,hl,hd⟩:=h1
 exact⟨_,_,rfl,.inr ⟨vs,hl.sq,rfl⟩,k _ H (.d (.int ds.length)) M oa (by rw[hd.length];exact si_of_int) Step.refl q⟩
theorem dr_all {bs:List Bool}(q:Q (.d (.bool (bs.all id))) M):DR K (fun xs H Q=>∃(p:Addr) (bs:List Bool),xs=[.ref p]∧SqL K H p (bs.map V.bl)∧Q (.bl (bs.all id)) H) [.d (.list (bs.map .bool))] M Q:=fun H vs QQ oa s k=>by
 obtain⟨v,r,rfl,h1,h2⟩:=s
 cases h2
 unfold SI DV at h1
 obtain⟨a,vs,rfl,hl,hd⟩:=h1
 rw[dvs_bools hd] at hl
 exact⟨a,bs,rfl,hl.sq,k _ H _ M oa si_of_bl Step.refl q⟩
theorem dr_any {bs:List Bool}(q:Q (.d (.bool (bs.any id))) M):DR K (fun xs H Q=>∃(p:Addr) (bs:List Bool),xs=[.ref p]∧SqL K H p (bs.map V.bl)∧Q (.bl (bs.any id)) H) [.d (.list (bs.map .bool))] M Q:=fun H vs QQ oa s k=>by
 obtain⟨v,r,rfl,h1,h2⟩:=s
 cases h2
 unfold SI DV at h1
 obtain⟨a,vs,rfl,hl,hd⟩:=h1
 rw[dvs_bools hd] at hl
 exact⟨a,bs,rfl,hl.sq,k _ H _ M oa si_of_bl Step.refl q⟩
theorem dty_str {z:Str}:DTy K "str" (.d (.str z)) M:=fun H v _ s=>by rw[si_str s];exact rfl
theorem dty_loc {a:Addr}{ds:List PyData}(m:M a=some (.l ds)):DTy K "list" (.loc a) M:=fun H v oa s=>by
 unfold SI at s
 subst s
 obtain⟨vs,h0,hd⟩:=oa a _ m
 exact .inl ⟨rfl,vs,SqL.of h0⟩
theorem dm_append {a:Addr}{ds:List PyData}{d:PyData}(m:M a=some (.l ds)) (hz:ds.length < sizeLine) (q:Q (.d .none) (M.put a (.l (ds++[d])))):DM K rAppend (.loc a) [.d d] M Q:=fun H v vs QQ oa s1 s2 k=>by
 obtain⟨u,r,rfl,h1,h2⟩:=s2
 cases h2
 unfold SI at s1
 subst s1
 obtain⟨us,h0,hd⟩:=oa a _ m
 obtain⟨x,y⟩:=own_write oa m (hd.append (DVs.cons h1 DVs.nil))
 exact⟨a,us,u,rfl,rfl,h0,by rw[hd.length];exact hz,k _ _ (.d .none) _ x (by unfold SI DV;rfl) y q⟩
theorem dsl_str {z:Str}{lo hi:Option Int}(hz:z.length≤sizeLine) (q:Q (.d (.str (Txt.slice z lo hi))) M):DSl K rSlS (.d (.str z)) lo hi M Q:=fun H v QQ oa s1 k=>by
 rw[si_str s1]
 exact⟨z,rfl,hz,k _ H _ M oa si_of_str Step.refl q⟩
def cutD (xs:List PyData) (lo hi:Option Int):List PyData:=(xs.drop (HT.sIx xs.length 0 lo)).take (HT.sIx xs.length xs.length hi - HT.sIx xs.length 0 lo)
theorem dsl_list {ds:List PyData}{lo hi:Option Int}(q:Q (.d (.list (cutD ds lo hi))) M):DSl K (rSlL K) (.d (.list ds)) lo hi M Q:=fun H v QQ oa s1 k=>by
 unfold SI DV at s1
 obtain⟨a,vs,rfl,hl,hd⟩:=s1
 refine⟨a,vs,rfl,hl.sq,fun p hp=>?_⟩
 have g:Grow K M.W M.W H (upd H p (.lst (cutV vs lo hi))):=grow_new _ hp
 have key:DVs K H M.W (cutD ds lo hi) (cutV vs lo hi):=by
   unfold cutD cutV
   rw[hd.length]
   exact(hd.drop _).take _
 refine k _ _ (.d (.list (cutD ds lo hi))) M (oa.new hp) ?_ ⟨g⟩ q
 unfold SI DV
 exact⟨p,_,rfl,.inl ⟨fun w=>w (oa.none hp),.inl upd_same⟩,key.grow g⟩
end
end DL
namespace DL
open PySem PySem.Spec L2
structure WD (K:Frg) (J:It) (ds:List PyData) (H1:Hp) (M1:Own):Prop where
 go:∀(i:Nat) H' M',i < ds.length→OA K H' M'→Step K M1 M' H1 H'→J.go i H'
 stop:∀H' M',OA K H' M'→Step K M1 M' H1 H'→J.stop ds.length H'
 yld:∀(i:Nat) H' M' x H2,OA K H' M'→Step K M1 M' H1 H'→i < ds.length→J.yld i H' x H2→OA K H2 M'∧Step K M' M' H' H2∧∃d,ds[i]?=some d∧DV K H2 M'.W d x
def DI (K:Frg) (wi:TI) (ρ:List (Option DS)) (M:Own) (Q:List PyData→Own→Prop):Prop:=
 ∀(σ:St) (H:Hp) (R:It→Hp→Prop),Rel K M ρ σ H→(∀J ds H1 M1,OA K H1 M1→Step K M M1 H H1→WD K J ds H1 M1→Q ds M1→R J H1)→wi σ H R
def DG (K:Frg) (g:TG) (d:PyData) (ρ:List (Option DS)) (M:Own) (P:List (Option DS)→Own→Prop):Prop:=
 ∀(σ:St) (H:Hp) (v:V) (QQ:St→Hp→Prop),Rel K M ρ σ H→DV K H M.W d v→(∀ρ' M' σ' H',Rel K M' ρ' σ' H'→Step K M M' H H'→P ρ' M'→QQ σ' H')→g v σ H QQ
def GOnly (g:TG) (T:List Nat):Prop:=∀(v:V) (σ:St) (H:Hp) (QQ:St→Hp→Prop),g v σ H (fun σ2 H2=>(∀i,i∉T→σ2[i]?=σ[i]?)→QQ σ2 H2)→g v σ H QQ
section
variable {K:Frg}{ρ:List (Option DS)}{M:Own}{D:EndsD}{tl:TE}{tb:TS}{i:Nat}{QI:List PyData→Own→Prop}{g:TG}{wi:TI}
def intsD (lo:Int) (n:Nat):List PyData:=(List.range n).map fun(i:Nat)=>.int (lo+i)
theorem di_rng1 {ta:TA}(h:DA K ta ρ M fun xs M1=>∃j:Int,xs=[.d (.int j)]∧-(2 ^ 62)≤j∧j < 2 ^ 62∧QI (intsD 0 j.toNat) M1):DI K (iRng1 ta) ρ M QI:=fun σ H R Rl k=>
 h σ H _ Rl fun vs H1 xs M1 o1 s1 t1 ⟨j,e,h1,h2,q⟩=>by
   subst e
   obtain⟨v,r,rfl,h3,h4⟩:=s1
   cases h4
   rw[show v = .int j by unfold SI DV at h3;exact h3]
   have hlen:(intsD 0 j.toNat).length=j.toNat:=by simp[intsD]
   refine⟨j,rfl,h1,h2,k _ (intsD 0 j.toNat) H1 M1 o1 t1 ⟨fun i H' M' hi oa st=>?_,fun H' M' oa st=>?_,fun i H' M' x H2 oa st hi y=>?_⟩ q⟩
   · show i < j.toNat;rw[← hlen];exact hi
   · show j.toNat≤(intsD 0 j.toNat).length;rw[hlen];exact zR _
   · obtain⟨rfl,rfl⟩:=y
     refine⟨oa,Step.refl,.int (0+i),?_,by unfold DV;rfl⟩
     unfold intsD
     rw[zF]
     rw[hlen] at hi
     simp[hi]
theorem dg_name {d:PyData}{P:List (Option DS)→Own→Prop}(h:P (ρ.set i (some (.d d))) M):DG K (gName i) d ρ M P:=fun σ H v QQ R dv k=>k _ M _ H (R.set (x:=.d d) dv i) Step.refl h
theorem go_name (i:Nat):GOnly (gName i) [i]:=fun v σ H QQ h=>h fun j hj=>by
 rw[List.getElem?_set_ne (by rintro rfl;exact hj (by simp))]
abbrev EndsD.turn (D:EndsD) (P:List (Option DS)→Own→Prop):EndsD:={ nx:=P,ct:=P,bk:=D.nx,rt:=D.rt }
theorem ds_for (h:DI K wi ρ M fun ds M1=>∃P:Nat→List (Option DS)→Own→Prop,P 0 ρ M1∧(∀k d ρ' M',ds[k]?=some d→P k ρ' M'→DG K g d ρ' M' fun ρ2 M2=>DSt K tb ρ2 M2 (D.turn (P (k+1))))∧∀ρ' M',P ds.length ρ' M'→D.nx ρ' M') :
   DSt K (tFor wi g tb) ρ M D:=fun σ H E R k1 k2 k3 k4=>
 h σ H _ R fun J ds H1 M1 o1 t1 wd ⟨P,p0,pt,pe⟩=>by
   refine⟨fun i m σ' H'=>m=ds.length - i∧i≤ds.length∧∃ρ' M',Rel K M' ρ' σ' H'∧Step K M1 M' H1 H'∧P i ρ' M',⟨_,rfl,xT _,ρ,M1,R.step o1 t1,Step.refl,p0⟩,?_⟩
   rintro i m σ' H' ⟨rfl,hi,ρ',M',R',st,p⟩
   by_cases hlt:i < ds.length
   · refine .inr ⟨wd.go i H' M' hlt R'.own st,fun σ2 H2=>∃ρ2 M2,Rel K M2 ρ2 σ2 H2∧Step K M1 M2 H1 H2∧P (i+1) ρ2 M2,fun σ2 H2 ⟨ρ2,M2,a,b,c⟩=>⟨ds.length - (i+1),by omega,rfl,hlt,ρ2,M2,a,b,c⟩,fun x H2 y=>?_⟩
     obtain⟨oa2,st2,d,e1,e2⟩:=wd.yld i H' M' x H2 R'.own st hlt y
     refine pt i d ρ' M' e1 p σ' H2 x _ (R'.step oa2 st2) e2 fun ρ3 M3 σ3 H3 R3 st3 b3=>?_
     have s3:=(st.trans st2).trans st3
     exact b3 σ3 H3 _ R3 (fun r m s hh R4 st4 q=>⟨r,m,R4,s3.trans st4,q⟩) (fun w hh x m a b c q=>k2 w hh x m a b (t1.trans (s3.trans c)) q)
       (fun r m s hh R4 st4 q=>k1 r m s hh R4 (t1.trans (s3.trans st4)) q) (fun r m s hh R4 st4 q=>⟨r,m,R4,s3.trans st4,q⟩)
   · have e:i=ds.length:=by omega
     subst e
     exact .inl ⟨wd.stop H' M' R'.own st,k1 ρ' M' σ' H' R' (t1.trans st) (pe ρ' M' p)⟩
def captD (fr:List (Option Nat)) (ρ:List (Option DS)):List (Option DS):=fr.map fun o=>o.bind fun j=>(ρ[j]?).join
theorem captD_get {fr:List (Option Nat)}{α:Type}{ρ:List (Option α)}{i:Nat}{x:α}(h:(fr.map fun o=>o.bind fun j=>(ρ[j]?).join)[i]?=some (some x)):∃j,fr[i]?=some (some j)∧ρ[j]?=some (some x):=by
 rw[zF] at h
 cases hf:fr[i]? with
 | none=>rw[hf] at h;cases h
 | some o=>
   rw[hf] at h
   cases o with
   | none=>cases h
   | some j=>
     refine⟨j,rfl,?_⟩
     have e2:((ρ[j]?).join)=some x:=Option.some.inj h
     cases hs:ρ[j]? with
     | none=>rw[hs] at e2;cases e2
     | some q=>rw[hs] at e2;cases q with
       | none=>cases e2
       | some v'=>cases e2;rfl
theorem Rel.capt {fr:List (Option Nat)}{σ:St}{H:Hp}(R:Rel K M ρ σ H):Rel K M (captD fr ρ) (L2.capt fr σ) H:=by
 refine⟨R.own,by unfold captD L2.capt;rw[zX,zX],fun i x e=>?_⟩
 obtain⟨j,e1,e2⟩:=captD_get e
 obtain⟨v,h1,h2⟩:=R.slot j x e2
 refine⟨v,?_,h2⟩
 unfold L2.capt
 rw[zF,e1]
 simp[h1]
theorem de_comp {fr:List (Option Nat)}{tt:TT}{te:TE}{T:List Nat}{Q:DS→Own→Prop}(ho:GOnly g T) (hT:∀i∈T,∀j,fr[i]?≠some (some j))
   (h:DI K wi ρ M fun ds M1=>ds.length < sizeLine∧∀D,M1 D=none→∃P:Nat→List PyData→Own→Prop,P 0 [] (M1.put D (.l []))∧(∀k acc M',P k acc M'→M' D=some (.l acc)∧acc.length≤k) ∧
     (∀k d acc M',ds[k]?=some d→P k acc M'→DG K g d (captD fr ρ) M' fun ρ2 M2=>DT K tt ρ2 M2 fun c M3=>if c=true then DE K te ρ2 M3 fun y M4=>∃r,y = .d r∧M4 D=some (.l acc)∧P (k+1) (acc++[r]) (M4.put D (.l (acc++[r]))) else P (k+1) acc M3) ∧
     ∀acc M',P ds.length acc M'→Q (.d (.list acc)) (M'.del D)) :
   DE K (tComp fr wi g tt te) ρ M Q:=fun σ H QQ R k=>
 h σ H _ R fun J ds H1 M1 o1 t1 wd ⟨hsz,hq⟩=>by
   intro A hA
   obtain⟨P,p0,pa,pt,pe⟩:=hq A (o1.none hA)
   obtain⟨oA,sA⟩:=own_new o1 hA (DVs.nil (K:=K) (H:=H1) (W:=M1.W))
   refine⟨fun i m ys H2=>m=ds.length - i∧i≤ds.length∧H2 A=some (.lst ys)∧∃acc M',OA K H2 M'∧Step K M1 M' H1 H2∧P i acc M',⟨_,rfl,xT _,upd_same,[],_,oA,sA,p0⟩,?_⟩
   rintro i m ys H2 ⟨rfl,hi,hys,acc,M',oa,st,p⟩
   refine⟨hys,?_⟩
   have hs0:∀{N:Own},(N.del A).Sub N:=fun {N} b o q=>by
     unfold Own.del at q
     by_cases hb:b=A
     · rw[if_pos hb] at q;cases q
     · rw[if_neg hb] at q;exact q
   by_cases hlt:i < ds.length
   · refine .inr ⟨wd.go i H2 M' hlt oa st,fun x H3 y=>?_⟩
     obtain⟨oa3,st3,d,e1,e2⟩:=wd.yld i H2 M' x H3 oa st hlt y
     have Rc:Rel K M' (captD fr ρ) (L2.capt fr σ) H3:=((R.step o1 t1).step oa3 (st.trans st3)).capt
     refine ho _ _ _ _ (pt i d acc M' e1 p (L2.capt fr σ) H3 x _ Rc e2 fun ρ3 M3 σ3 H4 R3 st4 b3 hext=>⟨fun i' v' hv'=>?_,?_⟩)
     · obtain⟨j,f1,f2⟩:=captD_get hv'
       rw[hext i' fun hm=>hT i' hm j f1]
       exact hv'
     · refine b3 σ3 H4 _ R3 fun c H5 M5 o5 st5 h5=>?_
       have sx:=((st.trans st3).trans st4).trans st5
       cases c with
       | false=>
         rw[if_neg nft] at h5 ⊢
         obtain⟨hm,_⟩:=pa _ _ _ h5
         obtain⟨vs,q1,q2⟩:=o5 A _ hm
         exact⟨vs,ds.length - (i+1),by omega,rfl,hlt,q1,acc,M5,o5,sx,h5⟩
       | true=>
         rw[if_pos rfl] at h5 ⊢
         refine h5 σ3 H5 _ (R3.step o5 st5) fun y H6 z M6 o6 s6 st6 h6=>?_
         obtain⟨r,rfl,hm,p'⟩:=h6
         obtain⟨vs,q1,q2⟩:=o6 A _ hm
         obtain⟨w1,w2⟩:=own_write o6 hm (q2.append (DVs.cons s6 DVs.nil))
         have hlen:acc.length≤i:=(pa _ _ _ p).2
         exact⟨vs,q1,by rw[q2.length];omega,ds.length - (i+1),by omega,rfl,hlt,upd_same,_,_,w1,(sx.trans st6).trans w2,p'⟩
   · have e:i=ds.length:=by omega
     subst e
     refine .inl ⟨wd.stop H2 M' oa st,?_⟩
     obtain⟨hm,_⟩:=pa _ _ _ p
     obtain⟨vs,q1,q2⟩:=oa A _ hm
     have hst:Step K M' (M'.del A) H2 H2:=⟨sub_grow hs0⟩
     refine k _ H2 (.d (.list acc)) (M'.del A) (oa.sub hs0) ?_ ((t1.trans st).trans hst) (pe acc M' p)
     unfold SI DV
     exact⟨A,vs,rfl,.inl ⟨fun w=>w (by unfold Own.del;rw[if_pos rfl]),.inl q1⟩,q2.grow (sub_grow hs0)⟩
theorem de_comp_pure {fr:List (Option Nat)}{tt:TT}{te:TE}{T:List Nat}{Q:DS→Own→Prop}(ho:GOnly g T) (hT:∀i∈T,∀j,fr[i]?≠some (some j))
   (h:DI K wi ρ M fun ds M1=>ds.length < sizeLine∧∃(c:PyData→Bool) (f:PyData→PyData),(∀d∈ds,∀M',DG K g d (captD fr ρ) M' fun ρ2 M2=>M2=M'∧DT K tt ρ2 M2 fun b M3=>M3=M'∧b=c d∧(c d=true→DE K te ρ2 M3 fun y M4=>y = .d (f d)∧M4=M'))∧Q (.d (.list ((ds.filter c).map f))) M1) :
   DE K (tComp fr wi g tt te) ρ M Q:=by
 refine de_comp ho hT fun σ H R Rl k=>h σ H R Rl fun J ds H1 M1 o1 t1 wd q=>k J ds H1 M1 o1 t1 wd ?_
 obtain⟨hsz,c,f,he,q⟩:=q
 refine⟨hsz,fun A hA=>⟨fun k acc M'=>acc=((ds.take k).filter c).map f∧M'=M1.put A (.l acc),⟨by simp,rfl⟩,fun k acc M' ⟨e1,e2⟩=>⟨by rw[e2];exact zU,?_⟩,fun k d acc M' hd ⟨e1,e2⟩=>?_,fun acc M' ⟨e1,e2⟩=>?_⟩⟩
 · rw[e1,zX]
   exact zN (yJ _ _) (by rw[List.length_take];omega)
 · have hm:d∈ds:=yN hd
   intro σ H v QQ R dv kk
   refine he d hm M' σ H v QQ R dv fun ρ' M2 σ' H' R' st ⟨eM,q2⟩=>kk ρ' M2 σ' H' R' st fun σ2 H2 QQ2 R2 k2=>?_
   refine q2 σ2 H2 QQ2 R2 fun b H3 M3 o3 st3 ⟨eM3,eb,q3⟩=>k2 b H3 M3 o3 st3 ?_
   have ts:(ds.take (k+1)).filter c=(ds.take k).filter c++(if c d then [d] else []):=take_succ_filter c ds k d hd
   cases hb:c d with
   | false=>
     rw[hb] at eb
     subst eb
     refine L2.iteF ⟨?_,by rw[eM3,e2]⟩
     rw[ts,hb,e1];simp
   | true=>
     rw[hb] at eb
     subst eb
     refine L2.iteT ?_
     refine de_mono (q3 hb) fun y M4 ⟨ey,e4⟩=>⟨f d,ey,by rw[e4,e2];exact zU,?_,by rw[e4,e2,yI]⟩
     rw[ts,hb,e1];simp
 · rw[e2,yG hA,e1,List.take_length]
   exact q
end
def startD (N:List Str) (xs:List DS):List (Option DS):=xs.map some++List.replicate (N.length - xs.length) none
section
variable {P:Program}{w:World}{K:Frg}{mg:Str→Option Value}{base:Heap}
theorem SIs.get {M:Own}{H:Hp}:∀{xs:List DS}{vs:List V}{i:Nat}{x:DS},SIs K H M xs vs→xs[i]?=some x→∃v,vs[i]?=some v∧SI K H M x v
 | [],_,_,_,_,e=>by simp at e
 | d::ds,vs,i,x,⟨v,r,e',h1,h2⟩,e=>by
   subst e'
   cases i with
   | zero=>simp at e;subst e;exact⟨v,rfl,h1⟩
   | succ i=>simpa using SIs.get h2 (by simpa using e)
theorem rel_start {M:Own}{H:Hp}{N:List Str}{xs:List DS}{vs:List V}(oa:OA K H M) (h:SIs K H M xs vs):Rel K M (startD N xs) (L2.start N vs) H:=by
 have hl:=h.length
 refine⟨oa,by unfold startD L2.start;simp[hl],fun i x e=>?_⟩
 unfold startD at e
 by_cases hi:i < xs.length
 · rw[yQ (by simpa using hi),zF] at e
   cases q:xs[i]? with
   | none=>rw[q] at e;cases e
   | some y=>
     rw[q] at e
     cases e
     obtain⟨v,h1,h2⟩:=h.get q
     refine⟨v,?_,h2⟩
     unfold L2.start
     rw[yQ (by rw[zX,hl];exact hi),zF,h1]
     rfl
 · rw[yP (by simpa using hi),List.getElem?_replicate] at e
   split at e <;> cases e
theorem fnD {x qual:Str}{st:Stmt}{f:Addr}{fd:FuncData}{N ps:List Str}{k:Nat}{S:FSp}(F:Fun K x qual st f fd) (Sc:FnScope N ps (defScope st))
   (hbody:∀(cdv:Value) (A:Around) (outer:List Env) (s:Shared) (H:Hp) (E:XK),Room k (A.deeper (PyProof.Rows.envOfC qual (defScope st) s.heap.objs.size f cdv)) →
     ∃t,PSs (cxOf CX0 P w K mg base N qual (defScope st) f cdv A outer s H E).nox (defBody st) t∧∀xs M,xs.length=ps.length→S.pre xs M→DSt K t (startD N xs) M { nx:=fun _ M1=>∃M2:Own,M2.Sub M1∧S.post xs M (.d .none) M2,rt:=fun y M1=>∃M2:Own,M2.Sub M1∧S.post xs M y M2 }) :
   FnOk P w K mg base CX0 (k+1) f fd ps (spD K ps.length S):=by
 refine F.ok Sc spD_len fun cdv A outer s H vs Q E hr h=>?_
 obtain⟨t,ht,hq⟩:=hbody cdv A outer s H E hr
 obtain⟨xs,M,hl,oa,si,pre,post⟩:=h
 refine⟨t,ht,hq xs M hl pre (L2.start N vs) H _ (rel_start oa si) ?_ ?_ (fun _ _ _ _ _ _ z=>z.elim) (fun _ _ _ _ _ _ z=>z.elim)⟩
 · rintro ρ' M1 σ' H' R st ⟨M2,hs,p⟩
   exact post (.d .none) M2 .non H' p (st.trans ⟨sub_grow hs⟩) (R.own.sub hs) (by unfold SI DV;rfl)
 · rintro v H' y M1 o s1 st ⟨M2,hs,p⟩
   exact post y M2 v H' p (st.trans ⟨sub_grow hs⟩) (o.sub hs) (s1.sub hs)
end
end DL
namespace L2
open PySem PySem.Spec PyProof.Rows
section
variable {X:Cx}{tg:Expr}
def rAddA (K:Frg):R2:=fun x y H Q=>(rI0 fun i j=>.int (i+j)) x y H Q∨((∃i j,x = .str i∧y = .str j∧i.length+j.length≤sizeLine∧Q (.str (i++j)) H)∨rCatL K x y H Q)
theorem op_addA:OpR X (binaryOp .Add) (rAddA X.K):=op_add.or (op_add_str.or op_catL)
def rIxA (K:Frg):R2:=fun x y H Q=>rIxL K x y H Q∨(rIxT K x y H Q∨rIxS x y H Q)
theorem ix_any:IxR X (rIxA X.K):=ix_list.or (ix_tup.or ix_str)
def rSlA (K:Frg):V→Option Int→Option Int→Hp→VK→Prop:=fun x lo hi H Q=>rSlL K x lo hi H Q∨rSlS x lo hi H Q
theorem sl_any:SlR X (rSlA X.K):=sl_list.or sl_str
def rLtA:R2:=fun x y H Q=>(rI0 fun i j=>.bl (decide (i < j))) x y H Q∨∃i j,x = .str i∧y = .str j∧Q (.bl (decide (i.cps.toList < j.cps.toList))) H
theorem op_ltA:OpR X (compareOp .Lt) rLtA:=op_lt.or op_lt_str
def rInA (K:Frg):R2:=fun x y H Q=>(∃i j,x = .str i∧y = .str j∧Q (.bl (!(Builtin.Str.occurrences j i 0 j.length 1).isEmpty)) H)∨rIn K false x y H Q
theorem op_inA:OpR X (compareOp .In) (rInA X.K):=op_in_str.or op_in_seq
def iAny (K:Frg) (tl:TE):TI:=fun σ H R=>tl σ H fun x H1=>(∃a,x = .ref a∧(∃xs,SqL K H1 a xs)∧R (Itl K a) H1)∨(∃a,x = .ref a∧(∃xs,SqT K H1 a xs)∧R (Itt K a) H1)∨∃y,x = .str y∧R (Its y) H1
theorem pi_any {l:Expr}{tl:TE}(hl:PE X l tl):PI X tg l (iAny X.K tl):=by
 intro pins s σ H R I h
 refine thn (hl pins s σ H _ I h) fun v s1 ⟨x,H1,I1,r1,q1⟩=>?_
 have fp:∀b∈[s1.heap.objs.size],FpOk X pins H1 b:=fun b hb=>by
   have e:b=s1.heap.objs.size:=by simpa using hb
   subst e
   exact I1.fpOk (zR _) (I1.hok.fresh (zR _))
 rcases q1 with ⟨a,e,⟨xs,hq⟩,q⟩ | ⟨a,e,⟨xs,hq⟩,q⟩ | ⟨y,e,q⟩
 · subst e
   cases r1
   obtain⟨its,rv,p,hz⟩:=I1.list hq
   refine wpAny_pyIter_list p.isList ?_
   exact⟨s1.heap.objs.size,[s1.heap.objs.size],_,_,H1,rfl,I1.kept (t':=s1.toks) fun b o e=>zW _ e,turn_list a _,⟨_,yZ _ rfl,rfl,rfl⟩,fp,q⟩
 · subst e
   cases r1
   obtain⟨its,rv,p,hz⟩:=I1.tuple hq
   refine wpAny_pyIter_tuple (show s1.heap.IsTuple a its.toArray from p) ?_
   exact⟨s1.heap.objs.size,[s1.heap.objs.size],_,_,H1,rfl,I1.kept (t':=s1.toks) fun b o e=>zW _ e,turn_tuple a _,⟨_,yZ _ rfl,rfl,rfl⟩,fp,q⟩
 · subst e
   obtain⟨t,rfl⟩:=r1
   cases ha:y.cps.all (· < 128)
   · exact wpAny_pyIter_wide ha ⟨s1.heap.objs.size,[s1.heap.objs.size],_,_,H1,rfl,I1.kept (t':=s1.toks) fun b o e=>zW _ e,
       turn_str s1.heap.objs.size "str_iterator" y t (by decide) (fun A hA=>Walks.strWide hA _ y t) (fun _ _ _ _ _ st h=>wpAny_pyIter_striter_wide st h),⟨_,yZ _ rfl,rfl,rfl⟩,fp,q⟩
   · exact wpAny_pyIter_ascii ha ⟨s1.heap.objs.size,[s1.heap.objs.size],_,_,H1,rfl,I1.kept (t':=s1.toks) fun b o e=>zW _ e,
       turn_str s1.heap.objs.size "str_ascii_iterator" y t (by decide) (fun A hA=>Walks.strAscii hA _ y t) (fun _ _ _ _ _ st h=>wpAny_pyIter_striter_ascii st h),⟨_,yZ _ rfl,rfl,rfl⟩,fp,q⟩
end
def isFree:NameKind→Bool | .free=>true | _=>false
def isCell:NameKind→Bool | .cell=>true | _=>false
def isLocal:NameKind→Bool | .local=>true | _=>false
def cscOk (osc:Scope) (ON:List Str) (scope:Scope) (NC:List Str) (fr:List (Option Nat)):Bool:=
 (match scope.kind with | .function=>true | _=>false)&&scope.names.all (fun y=>!isCell y.2) &&
 scope.names.all (fun y=>!isLocal y.2||(match scope.names.lookup y.1 with | some .local=>true | _=>false)) &&
 scope.names.all (fun y=>!isFree y.2||(match osc.names.lookup y.1 with | some .cell=>true | some .free=>true | _=>false)) &&
 fr.length==NC.length &&
 (List.range NC.length).all fun i=>match fr[i]?,NC[i]? with
   | some (some j),some x=>ON[j]?==some x&&(match scope.names.lookup x with | some .free=>true | _=>false)&&(match osc.names.lookup x with | some .cell=>true | some .free=>true | _=>false)
   | _,_=>true
theorem CSc.of {X:Cx}{scope:Scope}{NC:List Str}{fr:List (Option Nat)}{osc:Scope}{ON:List Str}(h:cscOk osc ON scope NC fr=true) (e:X.env.scope=osc) (eN:X.N=ON):CSc X scope NC fr:=by
 subst e eN
 unfold cscOk at h
 simp only[Bool.and_eq_true,List.all_eq_true,List.mem_range,beq_iff_eq] at h
 obtain⟨⟨⟨⟨⟨h1,h2⟩,h3⟩,h4⟩,h5⟩,h6⟩:=h
 refine⟨?_,fun y hy e=>?_,fun y hy e=>?_,fun y hy e=>?_,h5,fun i j x e1 e2=>?_⟩
 · cases hk:scope.kind <;> rw[hk] at h1 <;> simp at h1 ⊢
 · have:=h2 y hy;rw[e] at this;simp[isCell] at this
 · have:=h3 y hy
   rw[e] at this
   simp only[isLocal,Bool.not_true,Bool.false_or] at this
   cases hl:scope.names.lookup y.1 with
   | none=>rw[hl] at this;cases this
   | some k=>rw[hl] at this;cases k <;> first | rfl | cases this
 · have:=h4 y hy
   rw[e] at this
   simp only[isFree,Bool.not_true,Bool.false_or] at this
   cases hl:X.env.scope.names.lookup y.1 with
   | none=>rw[hl] at this;cases this
   | some k=>
     rw[hl] at this
     cases k <;> first
       | exact .inl hl
       | exact .inr hl
       | cases this
 · have hi:i < NC.length:=(yT.mp e1).1
   have:=h6 i hi
   rw[e1,e2] at this
   simp only[Bool.and_eq_true,beq_iff_eq] at this
   obtain⟨⟨q1,q2⟩,q3⟩:=this
   refine⟨q1,?_,?_⟩
   · cases hl:scope.names.lookup x with
     | none=>rw[hl] at q2;cases q2
     | some k=>rw[hl] at q2;cases k <;> first | rfl | cases q2
   · cases hl:X.env.scope.names.lookup x with
     | none=>rw[hl] at q3;cases q3
     | some k=>
       rw[hl] at q3
       cases k <;> first
         | exact⟨.inr (.inl hl),fun z=>by have z':X.env.scope.names.lookup x=some .local:=z;rw[hl] at z';cases z'⟩
         | exact⟨.inr (.inr hl),fun z=>by have z':X.env.scope.names.lookup x=some .local:=z;rw[hl] at z';cases z'⟩
         | cases q3
end L2
namespace DL
open PySem PySem.Spec L2
section
variable {K:Frg}{ρ:List (Option DS)}{M:Own}{Q:DS→Own→Prop}{H:Hp}{QI:List PyData→Own→Prop}{tl ta tb:TE}
theorem d2A_addi {i j:Int}(q:Q (.d (.int (i+j))) M):D2 K (rAddA K) (.d (.int i)) (.d (.int j)) M Q:=d2_or1 (d2_i q)
theorem d2A_adds {i j:Str}(hz:i.length+j.length≤sizeLine) (q:Q (.d (.str (i++j))) M):D2 K (rAddA K) (.d (.str i)) (.d (.str j)) M Q:=d2_or2 (d2_or1 (d2_cats hz q))
theorem d2A_addl {a b:List PyData}(hz:a.length+b.length≤sizeLine) (q:Q (.d (.list (a++b))) M):D2 K (rAddA K) (.d (.list a)) (.d (.list b)) M Q:=d2_or2 (d2_or2 (d2_cat hz q))
theorem d2A_ixl {ds:List PyData}{i:Int}{d:PyData}(e:atI ds i=some d) (q:Q (.d d) M):D2 K (rIxA K) (.d (.list ds)) (.d (.int i)) M Q:=d2_or1 (d2_ixl e q)
theorem d2A_ixo {a:Addr}{ds:List PyData}{i:Int}{d:PyData}(m:M a=some (.l ds)) (e:atI ds i=some d) (q:Q (.d d) M):D2 K (rIxA K) (.loc a) (.d (.int i)) M Q:=d2_or1 (d2_ixo m e q)
theorem d2A_ixt {ds:List PyData}{i:Int}{d:PyData}(e:atI ds i=some d) (q:Q (.d d) M):D2 K (rIxA K) (.d (.tuple ds)) (.d (.int i)) M Q:=d2_or2 (d2_or1 (d2_ixt e q))
theorem d2A_ixs {z:Str}{i:Int}{c:Nat}(hz:z.length≤sizeLine) (e:atI z.cps.toList i=some c) (q:Q (.d (.str ⟨#[c]⟩)) M):D2 K (rIxA K) (.d (.str z)) (.d (.int i)) M Q:=d2_or2 (d2_or2 (d2_ixs hz e q))
theorem dslA_str {z:Str}{lo hi:Option Int}(hz:z.length≤sizeLine) (q:Q (.d (.str (Txt.slice z lo hi))) M):DSl K (rSlA K) (.d (.str z)) lo hi M Q:=fun H v QQ oa s1 k=>.inr (dsl_str hz q H v QQ oa s1 k)
theorem dslA_list {ds:List PyData}{lo hi:Option Int}(q:Q (.d (.list (cutD ds lo hi))) M):DSl K (rSlA K) (.d (.list ds)) lo hi M Q:=fun H v QQ oa s1 k=>.inl (dsl_list q H v QQ oa s1 k)
theorem d2A_lti {i j:Int}(q:Q (.d (.bool (decide (i < j)))) M):D2 K rLtA (.d (.int i)) (.d (.int j)) M Q:=d2_or1 (d2_b q)
theorem d2A_inl {x:Str}{ys:List Str}(q:Q (.d (.bool (decide (x∈ys)))) M):D2 K (rInA K) (.d (.str x)) (.d (.list (ys.map .str))) M Q:=d2_or2 (d2_inl (neg:=false) q)
theorem diA_list (h:DE K tl ρ M fun x M1=>∃ds,x = .d (.list ds)∧QI ds M1):DI K (iAny K tl) ρ M QI:=fun σ H R Rl k=>
 h σ H _ Rl fun v H1 x M1 o1 s1 t1 ⟨ds,e,q⟩=>by
   subst e
   unfold SI DV at s1
   obtain⟨a,vs,rfl,hl,hd⟩:=s1
   refine .inl ⟨a,rfl,⟨vs,hl.sq⟩,k _ ds H1 M1 o1 t1 ⟨fun i H' M' hi oa st=>?_,fun H' M' oa st=>?_,fun i H' M' x H2 oa st hi y=>?_⟩ q⟩
   · exact⟨vs,vs[i]'(by rw[hd.length];exact hi),(hl.grow st.grow).sq,by simp[hd.length,hi]⟩
   · exact⟨vs,(hl.grow st.grow).sq,by rw[hd.length];exact zR _⟩
   · obtain⟨rfl,y⟩:=y
     obtain⟨d,e1,e2⟩:=hd.get (y vs (hl.grow st.grow).sq)
     exact⟨oa,Step.refl,d,e1,e2.grow st.grow⟩
theorem diA_tup (h:DE K tl ρ M fun x M1=>∃ds,x = .d (.tuple ds)∧QI ds M1):DI K (iAny K tl) ρ M QI:=fun σ H R Rl k=>
 h σ H _ Rl fun v H1 x M1 o1 s1 t1 ⟨ds,e,q⟩=>by
   subst e
   unfold SI DV at s1
   obtain⟨a,vs,rfl,hl,hd⟩:=s1
   refine .inr (.inl ⟨a,rfl,⟨vs,hl.sq⟩,k _ ds H1 M1 o1 t1 ⟨fun i H' M' hi oa st=>?_,fun H' M' oa st=>?_,fun i H' M' x H2 oa st hi y=>?_⟩ q⟩)
   · exact⟨vs,vs[i]'(by rw[hd.length];exact hi),(hl.grow st.grow).sq,by simp[hd.length,hi]⟩
   · exact⟨vs,(hl.grow st.grow).sq,by rw[hd.length];exact zR _⟩
   · obtain⟨rfl,y⟩:=y
     obtain⟨d,e1,e2⟩:=hd.get (y vs (hl.grow st.grow).sq)
     exact⟨oa,Step.refl,d,e1,e2.grow st.grow⟩
def tyD:PyData→String
 | .none => "NoneType"
 | .bool _ => "bool"
 | .int _ => "int"
 | .str _ => "str"
 | .list _ => "list"
 | .tuple _ => "tuple"
 | .dict _ => "dict"
end
end DL
namespace L2
open PySem PySem.Spec PyProof.Rows
section
variable {X:Cx}
def rIsiD (K:Frg):List V→Hp→VK→Prop:=fun xs H Q=>∃(x:V) (T:String) (d:PyData) (W:Addr→Prop) (b:Bool),xs=[x,.ty T]∧DV K H W d x∧PySem.W.kitOne K (.type (DL.tyD d)) (.type T)=some b∧Q (.bl b) H
theorem call_isiD:CallR X (.builtin "isinstance") (rIsiD X.K):=by
 intro pins s σ H xs us Q I r h
 obtain⟨x,T,d,W,b,rfl,dv,e,q⟩:=h
 obtain⟨u,u',rfl,ru,ru'⟩:=vals2 r
 cases ru'
 have fin:∀tk,EP X pins σ Q (.bool b) { s with toks:=tk }:=fun tk=>⟨.bl b,H,I.tok _,rfl,q⟩
 cases d with
 | none=>unfold DV at dv;subst dv;exact isinst_ok I ru (TyOf.non) e fin
 | bool y=>unfold DV at dv;subst dv;exact isinst_ok I ru (TyOf.bl _) e fin
 | int i=>unfold DV at dv;subst dv;exact isinst_ok I ru (TyOf.int _) e fin
 | str y=>unfold DV at dv;subst dv;exact isinst_ok I ru (TyOf.str _) e fin
 | list ds=>
   unfold DV at dv
   obtain⟨a,vs,rfl,hl,_⟩:=dv
   cases ru
   obtain⟨its,rv,⟨o,n,h1,h2,_,_⟩,_⟩:=I.list hl.sq
   exact PySem.W.kia_one PySem.W.kitx_list I.kIn ⟨o,h1,h2⟩ e (fun z=>nomatch z) fin
 | tuple ds=>
   unfold DV at dv
   obtain⟨a,vs,rfl,hl,_⟩:=dv
   cases ru
   obtain⟨its,rv,⟨o,h1,h2,_⟩,_⟩:=I.tuple hl.sq
   exact PySem.W.kia_one PySem.W.kitx_tuple I.kIn ⟨o,h1,h2⟩ e (fun z=>nomatch z) fin
 | dict kvs=>
   unfold DV at dv
   obtain⟨a,vs,rfl,_,hl,_⟩:=dv
   rcases hl with hl | ⟨o',hl⟩
   · exact isinst_ok I ru (TyOf.dK hl) e fin
   · cases ru
     obtain⟨_,_,vs',_,dd⟩:=dk_rd I.hok (.inr ⟨o',hl⟩)
     exact PySem.W.kia_one PySem.W.kitx_dict I.kIn dd.typeIs e (fun z=>nomatch z) fin
end
end L2
namespace DL
open PySem PySem.Spec L2
section
variable {K:Frg}{ρ:List (Option DS)}{M:Own}{Q:DS→Own→Prop}{H:Hp}{ta tb:TE}
theorem dr_isi {d:PyData}{T:String}{b:Bool}(e:PySem.W.kitOne K (.type (tyD d)) (.type T)=some b) (q:Q (.d (.bool b)) M):DR K (rIsiD K) [.d d,.ty T] M Q:=fun H vs QQ oa s k=>by
 obtain⟨v,r,rfl,h1,v2,r2,rfl,h2,h3⟩:=s
 cases h3
 rw[show v2 = .ty T from h2]
 exact⟨v,T,d,M.W,b,rfl,h1,e,k _ H _ M oa si_of_bl Step.refl q⟩
theorem de_dnew (q:Q (.d (.dict [])) M):DE K tDNewK ρ M Q:=fun σ H QQ R k p hp=>by
 have g:Grow K M.W M.W H (upd H p (.dK [])):=grow_new _ hp
 refine k _ _ (.d (.dict [])) M (R.own.new hp) ?_ ⟨g⟩ q
 unfold SI DV
 exact⟨p,[],rfl,fun w=>w (R.own.none hp),.inl upd_same,by unfold DKV;rfl⟩
theorem own_newD {p:Addr}{ks:List (Key×V)}{kvs:List (PyData×PyData)}(oa:OA K H M) (h:H p=Option.none) (hd:DKV K H M.W kvs ks) :
   OA K (upd H p (.dK ks)) (M.put p (.d kvs))∧Step K M (M.put p (.d kvs)) H (upd H p (.dK ks)):=by
 have hM:=oa.none h
 have g:Grow K M.W (M.put p (.d kvs)).W H (upd H p (.dK ks)):=⟨fun b u e _=>.inl (by rw[upd_ne (ne_of_none e h)];exact e),fun b w=>by
   by_cases hb:b=p
   · subst hb;exact .inr h
   · left;unfold Own.W at w ⊢;rw[yH hb] at w;exact w⟩
 refine⟨fun a o e=>?_,⟨g⟩⟩
 by_cases ha:a=p
 · subst ha;rw[zU] at e;cases e;exact⟨ks,upd_same,hd.grow g⟩
 · rw[yH ha] at e
   have q:=oa a o e
   cases o with
   | l ds=>obtain⟨vs,q1,q2⟩:=q;exact⟨vs,by rw[upd_ne ha];exact q1,q2.grow g⟩
   | d kvs=>obtain⟨vs,q1,q2⟩:=q;exact⟨vs,by rw[upd_ne ha];exact q1,q2.grow g⟩
   | x C fs=>obtain⟨vs,q1,q2⟩:=q;exact⟨vs,by rw[upd_ne ha];exact q1,q2.grow g⟩
theorem own_writeD {p:Addr}{ks:List (Key×V)}{kvs:List (PyData×PyData)}{o:MO}(oa:OA K H M) (h:M p=some o) (hd:DKV K H M.W kvs ks) :
   OA K (upd H p (.dK ks)) (M.put p (.d kvs))∧Step K M (M.put p (.d kvs)) H (upd H p (.dK ks)):=by
 have hw:∀b,(M.put p (.d kvs)).W b→M.W b:=fun b w=>by
   unfold Own.W at w ⊢
   by_cases hb:b=p
   · subst hb;rw[h];simp
   · rw[yH hb] at w;exact w
 have g:Grow K M.W (M.put p (.d kvs)).W H (upd H p (.dK ks)):=⟨fun b u e nw=>.inl (by
   rw[upd_ne (by rintro rfl;exact nw (by unfold Own.W;rw[h];simp))];exact e),fun b w=>.inl (hw b w)⟩
 refine⟨fun a o e=>?_,⟨g⟩⟩
 by_cases ha:a=p
 · subst ha;rw[zU] at e;cases e;exact⟨ks,upd_same,hd.grow g⟩
 · rw[yH ha] at e
   have q:=oa a o e
   cases o with
   | l ds=>obtain⟨vs,q1,q2⟩:=q;exact⟨vs,by rw[upd_ne ha];exact q1,q2.grow g⟩
   | d kvs=>obtain⟨vs,q1,q2⟩:=q;exact⟨vs,by rw[upd_ne ha];exact q1,q2.grow g⟩
   | x C fs=>obtain⟨vs,q1,q2⟩:=q;exact⟨vs,by rw[upd_ne ha];exact q1,q2.grow g⟩
end
end DL
namespace DL
open PySem PySem.Spec L2
structure Has (P:Program) (w:World) (K:Frg) (mg:Str→Option Value) (base:Heap) (x:Str) (k:Nat) (ps:List Str) (S:FSp):Prop where
 ex:∃f fd,FnOk P w K mg base CX0 k f fd ps (spD K ps.length S)∧mg x=some (.ref f)∧PySem.W.keepIn K (.ref f)=true∧Binds K fd ps []
theorem pe_callH {X:Cx}{x:Str}{k:Nat}{ps:List Str}{S:FSp}{e:Expr}{es:List Expr}{t:TA}{p pos:Pos}(h:Has X.prog X.w X.K X.mg X.base x k ps S) (hr:Room k X.A) (hg:Gl X x) (ha:PA X (e::es) t)
   (hdb:(x==("__debug__":Str))=false:=by decide) (he:starEach (e::es) X.env=(false,eval e X.env)::starEach es X.env:=by rfl) (hpl:(backTo pos (starEach es X.env)).any (·.1)=false:=by rfl) :
   PE X (.Call (.Name x p) (e::es) [] pos) (tCall (spD X.K ps.length S) [] E0 t):=by
 obtain⟨f,fd,F,hm,hk,hb⟩:=h.ex
 exact pe_call F hr hg hm hk hb .nil pass0 ha hdb he hpl
end DL
namespace DL
open PySem PySem.Spec L2
section
variable {X:Cx}{K:Frg}
theorem kIx (h:X.K=K):IxR X (rIxA K):=h▸ix_any
theorem kIn (h:X.K=K):OpR X (compareOp .In) (rInA K):=h▸op_inA
theorem kEq (h:X.K=K) (hu:X.A.units+64 < cLine):OpR X (compareOp .Eq) (rEqD K false):=h▸op_eqD hu
theorem kNe (h:X.K=K) (hu:X.A.units+64 < cLine):OpR X (compareOp .NotEq) (rEqD K true):=h▸op_neD hu
def rLen (K:Frg):List V→Hp→VK→Prop:=fun xs H Q=>∃x n,xs=[x]∧LenV K x H n∧Q (.int (n:Nat)) H
def rAllK (K:Frg):List V→Hp→VK→Prop:=fun xs H Q=>∃(p:Addr) (bs:List Bool),xs=[.ref p]∧SqL K H p (bs.map V.bl)∧Q (.bl (bs.all id)) H
def rAnyK (K:Frg):List V→Hp→VK→Prop:=fun xs H Q=>∃(p:Addr) (bs:List Bool),xs=[.ref p]∧SqL K H p (bs.map V.bl)∧Q (.bl (bs.any id)) H
theorem kLen (h:X.K=K):CallR X (.builtin "len") (rLen K):=h▸call_len
theorem kAll (h:X.K=K) (hc:X.calm=true):CallR X (.builtin "all") (rAllK K):=h▸call_all hc
theorem kAny (h:X.K=K) (hc:X.calm=true):CallR X (.builtin "any") (rAnyK K):=h▸call_any hc
theorem kIsi (h:X.K=K):CallR X (.builtin "isinstance") (rIsiD K):=h▸call_isiD
theorem kIter {tg l:Expr}{tl:TE}(h:X.K=K) (hl:PE X l tl):PI X tg l (iAny K tl):=h▸pi_any hl
theorem kCall {P:Program}{w:World}{mg:Str→Option Value}{base:Heap}{x:Str}{k:Nat}{ps:List Str}{S:FSp}{e:Expr}{es:List Expr}{t:TA}{p pos:Pos}(hK:X.K=K) (hP:X.prog=P) (hw:X.w=w) (hmg:X.mg=mg) (hbs:X.base=base)
   (h:Has P w K mg base x k ps S) (hr:Room k X.A) (hg:Gl X x) (ha:PA X (e::es) t)
   (hdb:(x==("__debug__":Str))=false:=by decide) (he:starEach (e::es) X.env=(false,eval e X.env)::starEach es X.env:=by rfl) (hpl:(backTo pos (starEach es X.env)).any (·.1)=false:=by rfl) :
   PE X (.Call (.Name x p) (e::es) [] pos) (tCall (spD K ps.length S) [] E0 t):=by
 subst hK hP hw hmg hbs
 exact pe_callH h hr hg ha hdb he hpl
variable {o e:Expr}{es:List Expr}{to:TE}{t:TA}{name:Str}{apos cpos:Pos}{T id:String}{r:V→List V→Hp→VK→Prop}
theorem kBm (h:X.K=K) (pa:PlainAttrs T) (slot:Slot T name id) (hty:typeOf (.builtin id)=pure (.type "method_descriptor")) (hm:MtR X id r) (ho:PE X o to) (ha:PA X (e::es) t)
   (hbase:attributeBase o name X.env (eval o X.env)=eval o X.env:=by rfl)
   (hfew:((backTo cpos (starEach (e::es) X.env)).all (fun x=>!x.1)&&(backToKw cpos (keywordEach [] X.env)).all (fun x=>x.1.isSome)
     && decide ((e::es).length+([]:List Keyword).length+(if ([]:List Keyword).isEmpty then 0 else 1) < 30))=true:=by rfl)
   (hline:(apos.endLine==cpos.line)=true:=by rfl) (hs:starEach (e::es) X.env=(false,eval e X.env)::starEach es X.env:=by rfl) (hplain:(backTo cpos (starEach es X.env)).any (·.1)=false:=by rfl) :
   PE X (.Call (.Attribute o name apos) (e::es) [] cpos) (tBM K T r to t):=h▸pe_bm pa slot hty hm ho ha hbase hfew hline hs hplain
end
section
variable {K:Frg}{M:Own}{Q:DS→Own→Prop}
theorem rd_lenl {ds:List PyData}(q:Q (.d (.int ds.length)) M):DR K (rLen K) [.d (.list ds)] M Q:=dr_lenl q
theorem rd_lent {ds:List PyData}(q:Q (.d (.int ds.length)) M):DR K (rLen K) [.d (.tuple ds)] M Q:=dr_lent q
theorem rd_all {bs:List Bool}(q:Q (.d (.bool (bs.all id))) M):DR K (rAllK K) [.d (.list (bs.map .bool))] M Q:=dr_all q
theorem rd_any {bs:List Bool}(q:Q (.d (.bool (bs.any id))) M):DR K (rAnyK K) [.d (.list (bs.map .bool))] M Q:=dr_any q
end
end DL
namespace L2
open PySem PySem.Spec PyProof.Rows
section
variable {X:Cx}
theorem strsV:∀{its:List Value}{ss:List Str},StrsAre its ss→Vals (ss.map V.str) its
 | _,_,.nil=>.nil
 | _,_,.cons y t r=>.cons ⟨t,rfl⟩ (strsV r)
def rSortS (K:Frg):List V→Hp→VK→Prop:=fun xs H Q=>∃(p:Addr) (ss:List Str),xs=[.ref p]∧SqL K H p (ss.map V.str)∧ss.length < 64∧∀(ss':List Str) (q:Addr),ss'.Perm ss→sortedS ss'=true→H q=none→Q (.ref q) (upd H q (.lst (ss'.map V.str)))
theorem call_sortS:CallR X (.builtin "sorted") (rSortS X.K):=by
 intro pins s σ H xs us Q I r h
 obtain⟨p,ss,rfl,hp,h64,q⟩:=h
 obtain⟨u,rfl,ru⟩:=vals1 r
 cases ru
 obtain⟨its,rv,pl,hz⟩:=I.list hp
 have hS:=strs_of rv
 have el:=rv.length
 rw[zX] at el
 refine sorted_strs pl.isList hS (by omega) fun out ss' h1 h2 h3=>?_
 obtain⟨e,he⟩:=sortedAll_at s.heap its out
 have hn:H (s.heap.objs.size+1)=none:=I.hok.fresh (Nat.le_succ _)
 have hlen:=h2.length_eq
 refine⟨.ref (s.heap.objs.size+1),_,I.laid (t':=s.toks) (o:=.lst (ss'.map V.str)) (fun b o eb=>sortedAll_old eb) (Nat.le_succ _) ?_,rfl,q ss' _ h2 h3 hn⟩
 refine⟨by rw[zX,hlen];exact zN (xR h64) (by decide),out.toList,e,strsV h1,?_⟩
 have he':=he
 simpa [seqObj] using he'
end
end L2
namespace DL
open PySem PySem.Spec L2
section
variable {X:Cx}{K:Frg}
def rTupleOf (K:Frg):List V→Hp→VK→Prop:=fun xs H Q=>∃p ys,xs=[.ref p]∧((SqL K H p ys∧∀l,H l=none→Q (.ref l) (upd H l (.tup ys)))∨(SqT K H p ys∧Q (.ref p) H))
theorem kTuple (h:X.K=K):CallR X (.type "tuple") (rTupleOf K):=h▸call_tuple_of
def rListOf (K:Frg):List V→Hp→VK→Prop:=fun xs H Q=>∃p ys,xs=[.ref p]∧(SqL K H p ys∨SqT K H p ys)∧∀l,H l=none→Q (.ref l) (upd H l (.lst ys))
theorem kList (h:X.K=K):CallR X (.type "list") (rListOf K):=h▸call_list_of
end
section
variable {K:Frg}{M:Own}{Q:DS→Own→Prop}{ρ:List (Option DS)}{H:Hp}
theorem rd_tupl {ds:List PyData}(q:Q (.d (.tuple ds)) M):DR K (rTupleOf K) [.d (.list ds)] M Q:=fun H vs QQ oa s k=>by
 obtain⟨v,r,rfl,h1,h2⟩:=s
 cases h2
 unfold SI DV at h1
 obtain⟨a,vs,rfl,hl,hd⟩:=h1
 refine⟨a,vs,rfl,.inl ⟨hl.sq,fun p hp=>?_⟩⟩
 have g:Grow K M.W M.W H (upd H p (.tup vs)):=grow_new _ hp
 refine k _ _ (.d (.tuple ds)) M (oa.new hp) ?_ ⟨g⟩ q
 unfold SI DV
 exact⟨p,vs,rfl,.inl ⟨fun w=>w (oa.none hp),.inl upd_same⟩,hd.grow g⟩
theorem rd_listt {ds:List PyData}(q:Q (.d (.list ds)) M):DR K (rListOf K) [.d (.tuple ds)] M Q:=fun H vs QQ oa s k=>by
 obtain⟨v,r,rfl,h1,h2⟩:=s
 cases h2
 unfold SI DV at h1
 obtain⟨a,vs,rfl,hl,hd⟩:=h1
 refine⟨a,vs,rfl,.inr hl.sq,fun p hp=>?_⟩
 have g:Grow K M.W M.W H (upd H p (.lst vs)):=grow_new _ hp
 refine k _ _ (.d (.list ds)) M (oa.new hp) ?_ ⟨g⟩ q
 unfold SI DV
 exact⟨p,vs,rfl,.inl ⟨fun w=>w (oa.none hp),.inl upd_same⟩,hd.grow g⟩
def isNoneD:PyData→Bool | .none=>true | _=>false
theorem d2_notN {d:PyData}(q:Q (.d (.bool (!isNoneD d))) M):D2 K (fun x y H Q=>y = .non∧Q (.bl (!decide (x = .non))) H) (.d d) (.d .none) M Q:=fun H v u QQ oa s1 s2 k=>by
 refine⟨si_non s2,k _ H (.d (.bool (!isNoneD d))) M oa ?_ Step.refl q⟩
 cases d <;> unfold SI DV at s1
 · rw[s1];exact si_of_bl
 · rw[s1];exact si_of_bl
 · rw[s1];exact si_of_bl
 · rw[s1];exact si_of_bl
 · obtain⟨a,_,rfl,_⟩:=s1;exact si_of_bl
 · obtain⟨a,_,rfl,_⟩:=s1;exact si_of_bl
 · obtain⟨a,_,rfl,_⟩:=s1;exact si_of_bl
end
def DGs (K:Frg) (g:TGs) (ds:List PyData) (ρ:List (Option DS)) (M:Own) (P:List (Option DS)→Own→Prop):Prop:=
 ∀(σ:St) (H:Hp) (vs:List V) (QQ:St→Hp→Prop),Rel K M ρ σ H→DVs K H M.W ds vs→(∀ρ' M' σ' H',Rel K M' ρ' σ' H'→Step K M M' H H'→P ρ' M'→QQ σ' H')→g vs σ H QQ
section
variable {K:Frg}{M:Own}{ρ:List (Option DS)}{P:List (Option DS)→Own→Prop}
theorem dgs_nil (h:P ρ M):DGs K gNil [] ρ M P:=fun σ H vs QQ R hd k=>by
 unfold DVs at hd
 subst hd
 exact⟨rfl,k ρ M σ H R Step.refl h⟩
theorem dgs_cons {i:Nat}{g:TGs}{d:PyData}{ds:List PyData}(h:DGs K g ds (ρ.set i (some (.d d))) M P):DGs K (gCons (gName i) g) (d::ds) ρ M P:=fun σ H vs QQ R hd k=>by
 unfold DVs at hd
 obtain⟨v,r,rfl,h1,h2⟩:=hd
 exact⟨v,r,rfl,h (σ.set i (some v)) H r QQ (R.set (x:=.d d) h1 i) h2 k⟩
theorem dg_tup {n:Nat}{g:TGs}{ds:List PyData}(hn:ds.length=n) (h:DGs K g ds ρ M P):DG K (gTup K n g) (.tuple ds) ρ M P:=fun σ H v QQ R dv k=>by
 unfold DV at dv
 obtain⟨a,vs,rfl,hl,hd⟩:=dv
 exact⟨a,vs,rfl,hl.sq,by rw[hd.length];exact hn,h σ H vs QQ R hd k⟩
def GsOk (g:TGs) (T:List Nat):Prop:=(∀(vs:List V) (σ:St) (H:Hp) (Q Q':St→Hp→Prop),(∀a b,Q a b→Q' a b)→g vs σ H Q→g vs σ H Q') ∧
 (∀(vs:List V) (σ:St) (H:Hp) (QQ:St→Hp→Prop),g vs σ H QQ→g vs σ H fun σ2 H2=>(∀i,i∉T→σ2[i]?=σ[i]?)∧QQ σ2 H2)
theorem gs_nil:GsOk gNil []:=⟨fun vs σ H Q Q' m ⟨e,h⟩=>⟨e,m _ _ h⟩,fun vs σ H QQ ⟨e,h⟩=>⟨e,fun _ _=>rfl,h⟩⟩
theorem gs_cons {i:Nat}{g:TGs}{T:List Nat}(hg:GsOk g T):GsOk (gCons (gName i) g) (i::T):=by
 refine⟨fun vs σ H Q Q' m ⟨v,r,e,h⟩=>⟨v,r,e,hg.1 r _ H Q Q' m h⟩,fun vs σ H QQ ⟨v,r,e,h⟩=>⟨v,r,e,?_⟩⟩
 refine hg.1 r _ H _ _ (fun σ2 H2 ⟨h1,h2⟩=>⟨fun j hj=>?_,h2⟩) (hg.2 r (σ.set i (some v)) H QQ h)
 rw[h1 j fun z=>hj (yV _ z),List.getElem?_set_ne (by rintro rfl;exact hj List.mem_cons_self)]
theorem go_tup {n:Nat}{g:TGs}{T:List Nat}(hg:GsOk g T):GOnly (gTup K n g) T:=fun v σ H QQ ⟨a,xs,e,hs,hl,h⟩=>
 ⟨a,xs,e,hs,hl,hg.1 xs σ H _ _ (fun σ2 H2 ⟨h1,h2⟩=>h2 h1) (hg.2 xs σ H _ h)⟩
end
end DL
namespace L2
open PySem PySem.Spec PyProof.Rows
section
variable {X:Cx}{pins:List (Addr×Obj)}{σ:St}{H:Hp}{s:Shared}{h':Heap}
theorem Inv.turnedT {ch:List Addr}{T:Addr}{ys:List V}{t':Nat}(I:Inv X pins σ H s) (k:∀b o,b∉ch→s.heap.get? b=some o→h'.get? b=some o) (hn:∀b∈ch,H b=none)
   (hch:∀b∈ch,(b∈X.ex∨X.s₀.heap.objs.size≤b)∧b≠X.env.locals∧(∀x c,X.env.cells.lookup x=some c→c≠b)∧∀p∈X.pn++pins,p.1≠b)
   (hT:s.heap.objs.size≤T) (new:ObjOk X.prog X.w (upd H T (.tup ys)) h' T (.tup ys)):Inv X pins σ (upd H T (.tup ys)) { s with heap:=h',toks:=t' }:=by
 have hTn:H T=none:=I.hok.fresh hT
 have nch:∀b u,H b=some u→b∉ch:=fun b u e z=>by rw[hn b z] at e;cases e
 refine I.step (g':=s.gens) (d':=s.drawn) (ch:=ch) hch (fun b o _ _ hc e _=>k b o hc e) (fun b o _ _ hc e _=>⟨o.slots,k b o hc e⟩) (fun b o hc e n=>?_)
   (fun b o hc e=>⟨o,k b o hc e⟩) (fun b xs e=>?_) (fun b o u e=>?_) (fun b ps e=>⟨#[],?_⟩) (fun m hm=>?_) (fun b u e=>?_) I.bare
 · rw[upd_ne (zC (zP (zM e) hT))];exact n
 · rw[upd_ne (ne_of_none e hTn)];exact e
 · rw[upd_ne (ne_of_none e hTn)];exact e
 · rw[upd_ne (ne_of_none e hTn),e];simp
 · obtain⟨o,es,ep,ho,r⟩:=hm
   exact⟨o,es,ep,k _ o (fun z=>(hch _ z).2.1 rfl) ho,r⟩
 · by_cases hb:b=T
   · subst hb;rw[upd_same] at e;cases e;exact new
   · rw[upd_ne hb] at e
     refine(I.hok b u e).stay (fun c v hc q=>k c v ?_ q) (fun c q=>by rw[upd_ne (ne_of_none q hTn)];exact q) fun c xs q=>by rw[upd_ne (ne_of_none q hTn)];exact q
     rcases hc with z | z
     · rw[z];exact nch b u e
     · exact nch c _ z
theorem Inv.turnedL {ch:List Addr}{t':Nat}(I:Inv X pins σ H s) (k:∀b o,b∉ch→s.heap.get? b=some o→h'.get? b=some o) (hn:∀b∈ch,H b=none)
   (hch:∀b∈ch,(b∈X.ex∨X.s₀.heap.objs.size≤b)∧b≠X.env.locals∧(∀x c,X.env.cells.lookup x=some c→c≠b)∧∀p∈X.pn++pins,p.1≠b):Inv X pins σ H { s with heap:=h',toks:=t' }:=by
 have nch:∀b u,H b=some u→b∉ch:=fun b u e z=>by rw[hn b z] at e;cases e
 refine I.step (g':=s.gens) (d':=s.drawn) (ch:=ch) hch (fun b o _ _ hc e _=>k b o hc e) (fun b o _ _ hc e _=>⟨o.slots,k b o hc e⟩) (fun b o hc e n=>n)
   (fun b o hc e=>⟨o,k b o hc e⟩) (fun b xs e=>e) (fun b o u e=>e) (fun b ps e=>⟨#[],by rw[e];simp⟩) (fun m hm=>?_) (fun b u e=>?_) I.bare
 · obtain⟨o,es,ep,ho,r⟩:=hm
   exact⟨o,es,ep,k _ o (fun z=>(hch _ z).2.1 rfl) ho,r⟩
 · refine(I.hok b u e).stay (fun c v hc q=>k c v ?_ q) (fun c q=>q) fun c xs q=>q
   rcases hc with z | z
   · rw[z];exact nch b u e
   · exact nch c _ z
theorem sq_ne {a z:Addr}{xs:List V}(I:Inv X pins σ H s) (hf:FpOk X pins H z) (h:SqL X.K H a xs):a≠z:=by
 rintro rfl
 rcases h with h | ⟨o,its,n,hk,_⟩
 · rcases h with h | ⟨o',h⟩ <;> rw[hf.1] at h <;> cases h
 · have e:=I.ok.mod.kin a o hk
   rcases hf.2.2.2.1 with z | z
   · exact I.ok.noex a o e z
   · exact absurd (zP (zM e) (zN I.ok.bsz z)) (yF _)
end
end L2
namespace HT
open PySem PySem.Spec PyProof.Rows
section
variable {prog:Program}{w:World}{A:Around}{E:Value→Shared→Prop}{s:Shared}
theorem getItem_tuple_whole {t sl:Addr}{items:Array Value}{vl vu:Value}{lo hi:Option Int}{Q:Value→Shared→Prop}(ht:IsTup s.heap t items) (hs:s.heap.IsSliceOf sl vl vu .none) (pl:IsPart vl lo) (pu:IsPart vu hi)
   (hw:sIx items.size 0 lo=0∧sIx items.size items.size hi=items.size) (h:Q (.ref t) s):wpAny (model prog w) A (getItem (.ref t) (.ref sl)) Q E s:=by
 obtain⟨os,hos,hcs,hds⟩:=id hs
 have hTs:s.TypeIs (.ref sl) "slice" := ⟨os,hos,hcs⟩
 unfold getItem
 try with_reducible refine wpAny_holding ?_
 first | refine zZ (zY ?_) | skip
 refine zZ (wpAny_sequenceKey ht.typeIs (by decide) ?_)
 refine zZ (wpAny_callSpecial?_slot (name:=Str.ofString "__getitem__") ht.typeIs PyProof.Rows.slot_tuple_getitem
   (wpAny_call_entry PyProof.Rows.slot_tuple_getitem ht.typeIs entry_tuple_getitem ?_ (args_tuple_getitem _ _)))
 show wpAny _ _ (Builtin.Tuple.tupleItemsOf (.ref t) >>= _) _ _ s
 refine zZ (tupleItemsOf_ ht ?_)
 refine zZ (wpAny_typeOf hTs ?_)
 rw[if_pos (by decide)]
 refine zZ (sliceApplied_gen hs pl pu ?_)
 have hno:((((sIx items.size 0 lo:Nat):Int)==0&&(1:Int)==1&&(sIx items.size items.size hi - sIx items.size 0 lo)==items.size)=true):=by
   rw[hw.1,hw.2];simp
 show wpAny _ _ (if (((sIx items.size 0 lo:Nat):Int)==0&&(1:Int)==1&&(sIx items.size items.size hi - sIx items.size 0 lo)==items.size)=true then _ else _) _ _ s
 rw[if_pos hno]
 refine zZ (m:=Builtin.Tuple.tupleIsExact _) (zZ (wpAny_typeOf ht.typeIs (zY ?_)))
 show wpAny _ _ (if true=true then _ else _) _ _ s
 rw[if_pos rfl]
 first
   | exact zZ (wpAny_rule (zZ (zY ⟨_,rfl,zY h⟩)))
   | exact zZ (wpAny_rule (zY ⟨_,rfl,zY h⟩))
   | exact zZ (wpAny_rule (zZ (zY (zY ⟨_,rfl,zY h⟩))))
end
end HT
namespace L2
open PySem PySem.Spec PyProof.Rows
section
variable {X:Cx}
def rSlTA (K:Frg):V→Option Int→Option Int→Hp→VK→Prop:=fun x lo hi H Q=>∃a xs,x = .ref a∧SqT K H a xs∧(cutV xs lo hi=xs→Q (.ref a) H)∧∀p,H p=none→Q (.ref p) (upd H p (.tup (cutV xs lo hi)))
theorem sl_tupA:SlR X (rSlTA X.K):=by
 intro pins s σ H x v vl vu lo hi sl Q I rx hs pl pu h
 obtain⟨a,xs,rfl,hx,q1,q2⟩:=h
 cases rx
 obtain⟨its,r,ht,hz⟩:=I.tuple hx
 have hlen:its.toArray.size=xs.length:=by rw[zJ];exact r.length.symm
 by_cases hw:HT.sIx xs.length 0 lo=0∧HT.sIx xs.length xs.length hi=xs.length
 · refine⟨"tuple", _,PyProof.Rows.slot_tuple_getitem.lookup,ht.typeIs,?_⟩
   refine HT.getItem_tuple_whole ht hs pl pu (by rw[hlen];exact hw) ⟨.ref a,H,I,rfl,q1 ?_⟩
   unfold cutV
   rw[hw.1,hw.2];simp
 · exact sl_tup pins s σ H (.ref a) (.ref a) vl vu lo hi sl Q I rfl hs pl pu ⟨a,xs,rfl,hx,hw,q2⟩
def rCatTA (K:Frg):R2:=fun x y H Q=>∃a b xs ys,x = .ref a∧y = .ref b∧SqT K H a xs∧SqT K H b ys∧xs.length+ys.length≤sizeLine ∧
 (xs=[]→Q (.ref b) H)∧(ys=[]→Q (.ref a) H)∧(∀p,H p=none→Q (.ref p) (upd H p (.tup (xs++ys))))
theorem op_catTA:OpR X (binaryOp .Add) (rCatTA X.K):=by
 intro pins s σ H x y v u Q I rx ry h
 obtain⟨t,b,xs,ys,rfl,rfl,hx,hy,hz,q0,q1,q2⟩:=h
 cases rx
 cases ry
 obtain⟨its,r,ht,_⟩:=I.tuple hx
 obtain⟨its2,r2,hb,_⟩:=I.tuple hy
 have e1:=r.length
 have e2:=r2.length
 obtain⟨⟨cls,dd,data,sl⟩,ho,hc,n,hd⟩:=id ht
 obtain⟨⟨cls2,dd2,data2,sl2⟩,ho2,hc2,n2,hd2⟩:=id hb
 dsimp only at hc hd hc2 hd2
 subst hc hd hc2 hd2
 have e:its.toArray++its2.toArray=(its++its2).toArray:=by simp
 by_cases hv:its=[]
 · have hx0:xs=[]:=by cases r with | nil=>rfl | cons _ _=>cases hv
   exact concat_meets ⟨_,ho,rfl⟩ ⟨_,ho2,rfl⟩ noFill_tuple_add seq_tuple_add PySem.F.slot_tuple_add PySem.F.entry_tuple_add (PySem.F.args_tuple_add_2 _ _)
     (tuple_addW0 t b its.toArray its2.toArray n n2 dd dd2 sl sl2 (by simp[hv])) ⟨ho,ho2,⟨.ref b,H,I,rfl,q0 hx0⟩⟩
 · by_cases hw:its2=[]
   · have hy0:ys=[]:=by cases r2 with | nil=>rfl | cons _ _=>cases hw
     exact concat_meets ⟨_,ho,rfl⟩ ⟨_,ho2,rfl⟩ noFill_tuple_add seq_tuple_add PySem.F.slot_tuple_add PySem.F.entry_tuple_add (PySem.F.args_tuple_add_2 _ _)
       (tuple_addW1 t b its.toArray its2.toArray n n2 dd dd2 sl sl2 (by simpa using hv) (by simp[hw])) ⟨ho,ho2,⟨.ref t,H,I,rfl,q1 hy0⟩⟩
   · refine concat_meets ⟨_,ho,rfl⟩ ⟨_,ho2,rfl⟩ noFill_tuple_add seq_tuple_add PySem.F.slot_tuple_add PySem.F.entry_tuple_add (PySem.F.args_tuple_add_2 _ _)
       (tuple_addW2 t b its.toArray its2.toArray n n2 dd dd2 sl sl2 (by simpa using hv) (by simpa using hw) (by rw[zJ,zJ];omega)) ⟨ho,ho2,?_⟩
     rw[e]
     refine⟨.ref s.heap.objs.size,_,I.laid (t':=s.toks) (o:=.tup (xs++ys)) (fun b ob q=>zW _ q) (zR _) ?_,rfl,q2 _ I.fresh⟩
     exact⟨by rw[yY];exact hz,its++its2,r.append r2,IsTup.new _ _⟩
end
end L2
namespace DL
open PySem PySem.Spec L2
section
variable {X:Cx}{K:Frg}
def rAddB (K:Frg):R2:=fun x y H Q=>rAddA K x y H Q∨rCatTA K x y H Q
theorem kAddB (h:X.K=K):OpR X (binaryOp .Add) (rAddB K):=h▸op_addA.or op_catTA
def rSlB (K:Frg):V→Option Int→Option Int→Hp→VK→Prop:=fun x lo hi H Q=>rSlA K x lo hi H Q∨rSlTA K x lo hi H Q
theorem kSlB (h:X.K=K):SlR X (rSlB K):=h▸sl_any.or sl_tupA
end
section
variable {K:Frg}{M:Own}{Q:DS→Own→Prop}
theorem d2B_addi {i j:Int}(q:Q (.d (.int (i+j))) M):D2 K (rAddB K) (.d (.int i)) (.d (.int j)) M Q:=d2_or1 (d2A_addi q)
theorem d2B_adds {i j:Str}(hz:i.length+j.length≤sizeLine) (q:Q (.d (.str (i++j))) M):D2 K (rAddB K) (.d (.str i)) (.d (.str j)) M Q:=d2_or1 (d2A_adds hz q)
theorem d2B_addl {a b:List PyData}(hz:a.length+b.length≤sizeLine) (q:Q (.d (.list (a++b))) M):D2 K (rAddB K) (.d (.list a)) (.d (.list b)) M Q:=d2_or1 (d2A_addl hz q)
theorem d2B_addt {as bs:List PyData}(hz:as.length+bs.length≤sizeLine) (q:Q (.d (.tuple (as++bs))) M):D2 K (rAddB K) (.d (.tuple as)) (.d (.tuple bs)) M Q:=d2_or2 fun H v u QQ oa s1 s2 k=>by
 have s1':=s1
 have s2':=s2
 unfold SI DV at s1 s2
 obtain⟨a,vs,rfl,hl,hd⟩:=s1
 obtain⟨b,us,rfl,hl2,hd2⟩:=s2
 refine⟨a,b,vs,us,rfl,rfl,hl.sq,hl2.sq,by rw[hd.length,hd2.length];exact hz,fun e=>?_,fun e=>?_,fun p hp=>?_⟩
 · have:as=[]:=by have:=hd.length;rw[e] at this;exact List.length_eq_zero_iff.mp this.symm
   subst this
   exact k _ H (.d (.tuple ([]++bs))) M oa s2' Step.refl q
 · have:bs=[]:=by have:=hd2.length;rw[e] at this;exact List.length_eq_zero_iff.mp this.symm
   subst this
   rw[List.append_nil] at q
   exact k _ H (.d (.tuple as)) M oa s1' Step.refl q
 · have g:Grow K M.W M.W H (upd H p (.tup (vs++us))):=grow_new _ hp
   refine k _ _ (.d (.tuple (as++bs))) M (oa.new hp) ?_ ⟨g⟩ q
   unfold SI DV
   exact⟨p,_,rfl,.inl ⟨fun w=>w (oa.none hp),.inl upd_same⟩,(hd.append hd2).grow g⟩
theorem dslB_str {z:Str}{lo hi:Option Int}(hz:z.length≤sizeLine) (q:Q (.d (.str (Txt.slice z lo hi))) M):DSl K (rSlB K) (.d (.str z)) lo hi M Q:=fun H v QQ oa s1 k=>.inl (dslA_str hz q H v QQ oa s1 k)
theorem dslB_list {ds:List PyData}{lo hi:Option Int}(q:Q (.d (.list (cutD ds lo hi))) M):DSl K (rSlB K) (.d (.list ds)) lo hi M Q:=fun H v QQ oa s1 k=>.inl (dslA_list q H v QQ oa s1 k)
theorem dslB_tup {ds:List PyData}{lo hi:Option Int}(q:Q (.d (.tuple (cutD ds lo hi))) M):DSl K (rSlB K) (.d (.tuple ds)) lo hi M Q:=fun H v QQ oa s1 k=>.inr (by
 have s1':=s1
 unfold SI DV at s1
 obtain⟨a,vs,rfl,hl,hd⟩:=s1
 have key:DVs K H M.W (cutD ds lo hi) (cutV vs lo hi):=by
   unfold cutD cutV
   rw[hd.length]
   exact(hd.drop _).take _
 refine⟨a,vs,rfl,hl.sq,fun e=>?_,fun p hp=>?_⟩
 · refine k _ H (.d (.tuple (cutD ds lo hi))) M oa ?_ Step.refl q
   unfold SI DV
   exact⟨a,vs,rfl,hl,by rw[← e];rw[e] at key;rw[e];exact key⟩
 · have g:Grow K M.W M.W H (upd H p (.tup (cutV vs lo hi))):=grow_new _ hp
   refine k _ _ (.d (.tuple (cutD ds lo hi))) M (oa.new hp) ?_ ⟨g⟩ q
   unfold SI DV
   exact⟨p,_,rfl,.inl ⟨fun w=>w (oa.none hp),.inl upd_same⟩,key.grow g⟩)
end
end DL
namespace DL
open PySem PySem.Spec L2
theorem kTup {X:Cx}{K:Frg}{pos:Pos}{es:List Expr}{k:Nat}{t:TGs}{n:Nat}(hK:X.K=K) (hc:X.calm=true) (h:PGs X es t)
   (hn:(assignEach es X.env).length=n:=by rfl) (hst:(assignEach es X.env).findIdx? (·.1)=none:=by rfl):PG X (.Tuple es k pos) (gTup K n t):=hK▸pg_tup hc h hn hst
end DL
namespace HT
open PySem PySem.Spec PyProof.Rows
section
variable {prog:Program}{w:World}{A:Around}{E:Value→Shared→Prop}{s:Shared}
theorem adjust_rev (n:Nat):Builtin.Slice.sliceAdjust none none (-1) (n:Int)=((n:Int) - 1,-1):=rfl
theorem places_rev (n:Nat):Builtin.Slice.slicePlaces ((n:Int) - 1) (-1) (-1)=n:=by
 unfold Builtin.Slice.slicePlaces
 have h1:¬((-1:Int) > 0):=by omega
 simp only[h1,if_false]
 have h2 : -(-1:Int)=1:=rfl
 rw[h2,Int.ediv_one]
 split <;> omega
theorem sliceApplied_rev {sl:Addr}{t:Tok}{n:Nat}{Q:Int×Int×Nat→Shared→Prop}(hs:s.heap.IsSliceOf sl .none .none (.int (-1) t))
   (h:Q ((n:Int) - 1,-1,n) s):wpAny (model prog w) A (Builtin.Slice.sliceApplied (.ref sl) (pure (n:Int))) Q E s:=by
 obtain⟨os,hos,hcs,hds⟩:=id hs
 unfold Builtin.Slice.sliceApplied Builtin.Slice.sliceFields
 refine zZ (zZ (wpAny_field hos hds (x:=.none) rfl (zZ (wpAny_field hos hds (x:=.none) rfl (zZ (wpAny_field hos hds (x:=.int (-1) t) rfl (zY ?_)))))))
 refine zZ (slicePart_int ?_)
 show wpAny _ _ (if ((-1:Int)==0)=true then _ else _) _ _ s
 rw[if_neg (by decide)]
 refine zZ (slicePart_none (zZ (slicePart_none (zZ (zY ?_)))))
 show wpAny _ _ (match Builtin.Slice.sliceAdjust none none (-1) (n:Int) with | (lo,hi)=>pure (lo,(-1:Int),Builtin.Slice.slicePlaces lo hi (-1))) _ _ s
 rw[adjust_rev n]
 show wpAny _ _ (pure ((n:Int) - 1,(-1:Int),Builtin.Slice.slicePlaces ((n:Int) - 1) (-1) (-1))) _ _ s
 rw[places_rev]
 exact zY h
theorem pick_rev (xs:Array Value):((List.range xs.size).filterMap fun(m:Nat)=>xs[((xs.size:Int) - 1+(m:Int)*(-1)).toNat]?).toArray=xs.toList.reverse.toArray:=by
 congr 1
 apply List.ext_getElem?
 intro i
 have key:∀k,k≤xs.size→((List.range k).filterMap fun(m:Nat)=>xs[((xs.size:Int) - 1+(m:Int)*(-1)).toNat]?)=xs.toList.reverse.take k:=by
   intro k
   induction k with
   | zero=>intro _;simp
   | succ k ih=>
     intro hk
     rw[List.range_succ,List.filterMap_append,ih (by omega),List.take_add_one]
     have e1:((xs.size:Int) - 1+(k:Int)*(-1)).toNat=xs.size - 1 - k:=by omega
     have e2:xs.toList.reverse[k]?=xs[xs.size - 1 - k]?:=by
       rw[List.getElem?_reverse (by simp;omega)]
       simp
     simp only[List.filterMap_cons,List.filterMap_nil,e1,e2]
     cases xs[xs.size - 1 - k]? <;> simp
 rw[key xs.size (zR _),List.take_of_length_le (by simp)]
theorem getItem_tuple_rev {t sl:Addr}{items:Array Value}{u:Tok}{Q:Value→Shared→Prop}(ht:IsTup s.heap t items) (hs:s.heap.IsSliceOf sl .none .none (.int (-1) u))
   (h:Q (.ref s.heap.objs.size) { s with heap:=s.heap.push { cls:=.type "tuple", data:=.seq items.toList.reverse.toArray } })
   (hsz:items.size≤sizeLine):wpAny (model prog w) A (getItem (.ref t) (.ref sl)) Q E s:=by
 have htake:sizeOk (.seq items.toList.reverse.toArray):=by
   show items.toList.reverse.toArray.size≤sizeLine
   rw[zJ,List.length_reverse,Array.length_toList]
   exact hsz
 obtain⟨os,hos,hcs,hds⟩:=id hs
 have hTs:s.TypeIs (.ref sl) "slice" := ⟨os,hos,hcs⟩
 unfold getItem
 try with_reducible refine wpAny_holding ?_
 first | refine zZ (zY ?_) | skip
 refine zZ (wpAny_sequenceKey ht.typeIs (by decide) ?_)
 refine zZ (wpAny_callSpecial?_slot (name:=Str.ofString "__getitem__") ht.typeIs PyProof.Rows.slot_tuple_getitem
   (wpAny_call_entry PyProof.Rows.slot_tuple_getitem ht.typeIs entry_tuple_getitem ?_ (args_tuple_getitem _ _)))
 show wpAny _ _ (Builtin.Tuple.tupleItemsOf (.ref t) >>= _) _ _ s
 refine zZ (tupleItemsOf_ ht ?_)
 refine zZ (wpAny_typeOf hTs ?_)
 rw[if_pos (by decide)]
 refine zZ (sliceApplied_rev hs ?_)
 have hno:¬((((items.size:Int) - 1)==0&&(-1:Int)==1&&items.size==items.size)=true):=by
   intro q
   rw[Bool.and_eq_true,Bool.and_eq_true] at q
   exact absurd q.1.2 (by decide)
 show wpAny _ _ (if ((((items.size:Int) - 1)==0&&(-1:Int)==1&&items.size==items.size)=true) then _ else _) _ _ s
 rw[if_neg hno,pick_rev]
 first
   | exact zZ (m:=Builtin.Tuple.tupleExact _) (xM (zY ⟨_,rfl,zY h⟩) htake)
   | exact zZ (m:=Builtin.Tuple.tupleExact _) (xM (zZ (zY (zY ⟨_,rfl,zY h⟩))) htake)
   | exact zZ (zZ (m:=Builtin.Tuple.tupleExact _) (xM (zY (zY ⟨_,rfl,zY h⟩)) htake))
   | exact zZ (zZ (m:=Builtin.Tuple.tupleExact _) (xM (zY ⟨_,rfl,zY h⟩) htake))
end
end HT
namespace L2
open PySem PySem.Spec PyProof.Rows
section
variable {X:Cx}{e st:Expr}{te ts:TE}{pos p2:Pos}
def rRevT (K:Frg):V→Hp→VK→Prop:=fun x H Q=>∃a xs,x = .ref a∧SqT K H a xs∧∀p,H p=none→Q (.ref p) (upd H p (.tup xs.reverse))
def tRev (K:Frg) (te ts:TE):TE:=fun σ H Q=>te σ H fun x H1=>ts σ H1 fun k H2=>k = .int (-1)∧rRevT K x H2 Q
theorem pe_rev (he:PE X e te) (hst:PE X st ts):PE X (.Subscript e (.Slice none none (some st) p2) pos) (tRev X.K te ts):=by
 intro pins s σ H Q I h
 refine Subscript_ (thn (he pins s σ H _ I h) fun v s1 ⟨x,H1,I1,r1,q1⟩=>?_)
 refine wpAny_Slice ?_
 rw[evalPart_none]
 refine zY (zY ?_)
 rw[evalPart_some]
 refine thn (hst pins s1 σ H1 _ I1 q1) fun u s2 ⟨k,H2,I2,r2,q2⟩=>?_
 obtain⟨rfl,a,xs,rfl,hx,q⟩:=q2
 obtain⟨tk,rfl⟩:=r2
 cases r1
 have I3:Inv X pins σ H2 { s2 with heap:=s2.heap.push { cls:=.type "slice", data:=.fields #[.none,.none,.int (-1) tk] } }:=I2.kept (t':=s2.toks) fun b ob q=>zW _ q
 obtain⟨its,r,ht,hz⟩:=I3.tuple hx
 have hlen:its.toArray.size=xs.length:=by rw[zJ];exact r.length.symm
 show wpAny (model X.prog X.w) X.A (subscriptTail e (.Slice none none (some st) p2) (.ref a) (.ref s2.heap.objs.size)) (EP X pins σ Q) X.xe { s2 with heap:=s2.heap.push { cls:=.type "slice", data:=.fields #[.none,.none,.int (-1) tk] } }
 refine tail_any (ops:=[.ref a,.ref s2.heap.objs.size]) ht.typeIs PyProof.Rows.slot_tuple_getitem.lookup ?_ (by with_unfolding_all rfl)
 refine HT.getItem_tuple_rev ht (Heap.IsSliceOf.new ..) ?_ (by rw[hlen];exact hz)
 refine⟨.ref _,_,I3.laid (t':=s2.toks) (o:=.tup xs.reverse) (fun b ob q=>zW _ q) (zR _) ?_,rfl,q _ (I3.hok.fresh (zR _))⟩
 refine⟨by rw[List.length_reverse];exact hz,its.reverse,r.reverse,?_⟩
 have:=IsTup.new { s2 with heap:=s2.heap.push { cls:=.type "slice", data:=.fields #[.none,.none,.int (-1) tk] } }.heap its.reverse.toArray
 exact this
end
end L2
namespace DL
open PySem PySem.Spec L2
theorem kRev {X:Cx}{K:Frg}{e st:Expr}{te ts:TE}{pos p2:Pos}(h:X.K=K) (he:PE X e te) (hst:PE X st ts):PE X (.Subscript e (.Slice none none (some st) p2) pos) (tRev K te ts):=h▸pe_rev he hst
section
variable {K:Frg}{ρ:List (Option DS)}{M:Own}{Q:DS→Own→Prop}{te ts:TE}
theorem DVs.reverse {H:Hp}{W:Addr→Prop}:∀{ds:List PyData}{vs:List V},DVs K H W ds vs→DVs K H W ds.reverse vs.reverse
 | [],vs,h=>by unfold DVs at h;subst h;exact DVs.nil
 | d::ds,vs,h=>by
   unfold DVs at h
   obtain⟨v,r,rfl,h1,h2⟩:=h
   rw[List.reverse_cons,List.reverse_cons]
   exact(DVs.reverse h2).append (DVs.cons h1 DVs.nil)
theorem de_rev (h:DE K te ρ M fun x M1=>∃ds,x = .d (.tuple ds)∧DE K ts ρ M1 fun k M2=>k = .d (.int (-1))∧Q (.d (.tuple ds.reverse)) M2):DE K (tRev K te ts) ρ M Q:=fun σ H QQ R k=>
 h σ H _ R fun v H1 x M1 o1 s1 t1 h1=>by
   obtain⟨ds,rfl,h1⟩:=h1
   refine h1 σ H1 _ (R.step o1 t1) fun u H2 y M2 o2 s2 t2 h2=>?_
   obtain⟨rfl,q⟩:=h2
   have s1':=s1.step t2
   unfold SI DV at s1'
   obtain⟨a,vs,rfl,hl,hd⟩:=s1'
   refine⟨si_int s2,a,vs,rfl,hl.sq,fun p hp=>?_⟩
   have g:Grow K M2.W M2.W H2 (upd H2 p (.tup vs.reverse)):=grow_new _ hp
   refine k _ _ (.d (.tuple ds.reverse)) M2 (o2.new hp) ?_ ((t1.trans t2).trans ⟨g⟩) q
   unfold SI DV
   exact⟨p,_,rfl,.inl ⟨fun w=>w (o2.none hp),.inl upd_same⟩,(DVs.reverse hd).grow g⟩
end
end DL
namespace DL
open PySem PySem.Spec L2
def fn1 (pre:PyData→Prop) (f:PyData→PyData):FSp:=⟨fun xs _=>∃d,xs=[.d d]∧pre d,fun xs M y M'=>∀d,xs=[.d d]→y = .d (f d)∧M'=M⟩
theorem fn1_call {pre:PyData→Prop}{f:PyData→PyData}{d:PyData}{M:Own}{Q:DS→Own→Prop}(p:pre d) (q:Q (.d (f d)) M):[DS.d d].length=1∧(fn1 pre f).pre [.d d] M∧∀x M',(fn1 pre f).post [.d d] M x M'→Q x M':=
 ⟨rfl,⟨d,rfl,p⟩,fun x M' h=>by obtain⟨rfl,rfl⟩:=h d rfl;exact q⟩
def isLet (c:Nat):Bool:=decide (97≤c)&&decide (c≤122)
def wholeD:PyData→Bool | .int _=>true | _=>false
def S_is_whole:FSp:=fn1 (fun _=>True) fun d=>.bool (wholeD d)
def withinD (d:PyData) (lo hi:Int):Bool:=match d with | .int i=>decide (lo≤i)&&decide (i≤hi) | _=>false
def S_is_within:FSp:=⟨fun xs _=>∃(d:PyData) (lo hi:Int),xs=[.d d,.d (.int lo),.d (.int hi)],fun xs M y M'=>∀(d:PyData) (lo hi:Int),xs=[.d d,.d (.int lo),.d (.int hi)]→y = .d (.bool (withinD d lo hi))∧M'=M⟩
theorem within_call {d:PyData}{lo hi:Int}{M:Own}{Q:DS→Own→Prop}(q:Q (.d (.bool (withinD d lo hi))) M):[DS.d d,.d (.int lo),.d (.int hi)].length=3∧S_is_within.pre [.d d,.d (.int lo),.d (.int hi)] M∧∀x M',S_is_within.post [.d d,.d (.int lo),.d (.int hi)] M x M'→Q x M':=
 ⟨rfl,⟨d,lo,hi,rfl⟩,fun x M' h=>by obtain⟨rfl,rfl⟩:=h d lo hi rfl;exact q⟩
end DL
namespace DL
open PySem PySem.Spec L2
section
variable {K:Frg}{ρ:List (Option DS)}{M:Own}{D:EndsD}{t u:TS}
theorem ds_cut (P:List (Option DS)→Own→Prop) (h:DSt K t ρ M { D with nx:=P }) (h2:∀ρ1 M1,P ρ1 M1→DSt K u ρ1 M1 D):DSt K (tSeq t u) ρ M D:=
 ds_seq (ds_mono h (fun ρ' M' p=>h2 ρ' M' p) (fun _ _ q=>q) (fun _ _ q=>q) (fun _ _ q=>q))
end
def nameZ (z:Str):Prop:=1≤z.cps.size∧z.cps.size≤8∧∀c∈z.cps.toList,isLet c=true
end DL
namespace DL
open PySem PySem.Spec L2
theorem setq {M:Own}{a:Addr}{ds:List PyData}{k:Int}{j:Nat}{F:Addr→List PyData→Nat→Prop}(m:M a=some (.l ds)) (e:ixN ds.length k=some j) (q:F a ds j) :
   ∃a' ds' k' j',DS.loc a = .loc a'∧DS.d (.int k) = .d (.int k')∧M a'=some (.l ds')∧ixN ds'.length k'=some j'∧F a' ds' j':=⟨a,ds,k,j,rfl,rfl,m,e,q⟩
end DL
namespace DL
open PySem PySem.Spec L2
theorem lstq {xs:List DS}{ds:List PyData}{Q:List PyData→Prop}(e:allD xs=some ds) (h:ds.length≤sizeLine) (q:Q ds):∃ds,allD xs=some ds∧ds.length≤sizeLine∧Q ds:=⟨ds,e,h,q⟩
end DL
namespace DL
open PySem PySem.Spec L2
theorem idx_take (n len:Nat):Builtin.Str.strSliceIndices none (some (n:Int)) 1 len=List.range (min n len):=by
 unfold Builtin.Str.strSliceIndices sliceRange
 have h1:¬((n:Int) < 0):=by omega
 have h2:max 0 (min (n:Int) (len:Int))=((min n len:Nat):Int):=by omega
 simp only[show(1:Int) > 0 by decide,if_true,h1,if_false,h2]
 have h3:(if (0:Int) < ((min n len:Nat):Int) then (((min n len:Nat):Int) - 0+1 - 1)/1 else 0).toNat=min n len:=by
   split
   · rw[Int.ediv_one];omega
   · omega
 rw[h3]
 apply List.ext_getElem?
 intro i
 rw[zF]
 by_cases h:i < min n len
 · simp[yA h]
 · simp[List.getElem?_eq_none (show(List.range (min n len)).length≤i by simp;omega)]
theorem pick_take (l:List Nat) (a:Array Nat) (m:Nat) (h:a.toList=l):(List.range m).filterMap (fun i=>a[i]?)=l.take m:=by
 induction m with
 | zero=>simp
 | succ m ih=>
   rw[List.range_succ,List.filterMap_append,ih,List.take_add_one]
   have e:a[m]?=l[m]?:=by rw[← h];simp
   simp only[List.filterMap_cons,List.filterMap_nil,e]
   cases l[m]? <;> simp
theorem slice_take (z:Str) (n:Nat):(Txt.slice z none (some (n:Int))).cps.toList=z.cps.toList.take n:=by
 unfold Txt.slice
 rw[idx_take]
 have hl:z.length=z.cps.toList.length:=by simp[Str.length]
 split
 · rename_i h
   simp only[xZ,beq_self_eq_true,Bool.true_and,beq_iff_eq] at h
   rw[List.take_of_length_le (by rw[← hl];omega)]
 · show(List.filterMap _ _).toArray.toList=_
   rw[pick_take z.cps.toList z.cps _ rfl,List.toList_toArray,hl,List.take_eq_take_iff]
   omega
theorem slice_let {z:Str}{n:Nat}{c:Nat}(h:c∈(Txt.slice z none (some (n:Int))).cps.toList):c∈z.cps.toList:=by
 rw[slice_take] at h;exact List.mem_of_mem_take h
theorem append_toList (x y:Str):(x++y).cps.toList=x.cps.toList++y.cps.toList:=by
 show(x.cps++y.cps).toList=_
 simp
theorem letters_len:(Str.ofString "abcdefghijklmnopqrstuvwxyz").length=26:=by decide +kernel
theorem put_swap {M:Own}{p A:Addr}{o o' x y:MO}(h:p≠A):(((M.put p o).put A x).put p o').put A y=(M.put p o').put A y:=by
 funext b
 unfold Own.put
 by_cases h1:b=A
 · simp[h1]
 · by_cases h2:b=p
   · simp[h2,h1,h]
   · simp[h1,h2]
end DL
namespace DL
open PySem PySem.Spec L2
theorem flt (l:List PyData):l.filter (fun _=>true)=l:=List.filter_eq_self.mpr (by simp)
theorem let_size:(Str.ofString "abcdefghijklmnopqrstuvwxyz").cps.size=26:=by decide +kernel
theorem slice_len (z:Str) (l u:Option Int) {n:Nat}(h:z.length≤n):(Txt.slice z l u).length≤n:=zN (Txt.slice_le z l u) h
end DL
namespace DL
open PySem PySem.Spec L2
theorem let_lt {c:Nat}(h:isLet c=true):c < 128:=by
 unfold isLet at h;simp at h;omega
theorem size_list (s:Str):s.cps.size=s.cps.toList.length:=by simp
end DL
namespace DL
open PySem PySem.Spec L2
theorem shaped_of {d:PyData}(h1:d.canLay0=true) (h2:d.depth≤64):zH d=true:=by
 unfold zH;rw[h1,decide_eq_true h2];rfl
theorem canAll {ds:List PyData}(h:∀d∈ds,d.canLay0=true):PyData.canLayAll0 ds=true:=by
 induction ds with
 | nil=>rfl
 | cons d r ih=>rw[PyData.canLayAll0,h d List.mem_cons_self,ih fun x hx=>h x (yV _ hx)];rfl
theorem depAll {ds:List PyData}{n:Nat}(h:∀d∈ds,d.depth≤n):PyData.depthAll ds≤n:=by
 induction ds with
 | nil=>simp[PyData.depthAll]
 | cons d r ih=>
   have h1:=h d List.mem_cons_self
   have h2:=ih fun x hx=>h x (yV _ hx)
   simp only[PyData.depthAll];omega
theorem strOk_name {z:Str}(h:nameZ z):PyData.strOk z=true:=by
 unfold PyData.strOk
 rw[Array.all_eq_true']
 intro c hc
 have:=let_lt (h.2.2 c (by simpa using hc))
 simp;omega
theorem eqvAll_strs_nil (ys:List Str):PyData.eqv (.list (ys.map .str)) (.list [])=ys.isEmpty:=by
 cases ys with
 | nil=>rfl
 | cons y r=>simp[PyData.eqv,PyData.eqvAll]
theorem lets_isLet:∀c∈(Str.ofString "abcdefghijklmnopqrstuvwxyz").cps.toList,isLet c=true:=by decide +kernel
theorem lets_nodup:(Str.ofString "abcdefghijklmnopqrstuvwxyz").cps.toList.Nodup:=by decide +kernel
end DL
namespace DL
open PySem PySem.Spec L2
theorem sIx_nat (n d k:Nat):HT.sIx n d (some (k:Int))=min k n:=HT.sIx_nat n d k
theorem cut_from (xs:List PyData) (k:Nat):cutD xs (some (k:Int)) none=xs.drop k:=by
 unfold cutD
 rw[sIx_nat]
 show(xs.drop (min k xs.length)).take (xs.length - min k xs.length)=_
 rw[List.take_of_length_le (by rw[List.length_drop];omega)]
 by_cases h:k≤xs.length
 · rw[Nat.min_eq_left h]
 · rw[Nat.min_eq_right (by omega),List.drop_eq_nil_of_le (zR _),List.drop_eq_nil_of_le (by omega)]
theorem cut_to (xs:List PyData) (k:Nat):cutD xs none (some (k:Int))=xs.take k:=by
 unfold cutD
 rw[sIx_nat]
 show(xs.drop 0).take (min k xs.length - 0)=_
 rw[List.drop_zero,Nat.sub_zero,List.take_eq_take_iff];omega
theorem cut_mid (xs:List PyData) (a b:Nat):cutD xs (some (a:Int)) (some (b:Int))=(xs.take b).drop a:=by
 unfold cutD
 rw[sIx_nat,sIx_nat,List.drop_take]
 by_cases h:a≤xs.length
 · rw[Nat.min_eq_left h,List.take_eq_take_iff,List.length_drop];omega
 · rw[List.drop_eq_nil_of_le (show xs.length≤min a xs.length by omega),List.drop_eq_nil_of_le (show xs.length≤a by omega)];simp
def strOf:PyData→Str | .str z=>z | _=>⟨#[]⟩
abbrev Th:=Str×Int×Int
def thD (t:Th):PyData:=.tuple [.str t.1,.int t.2.1,.int t.2.2]
def wD (w:List Th):PyData:=.tuple (w.map thD)
end DL
namespace DL
open PySem PySem.Spec L2
section
variable {K:Frg}{ρ:List (Option DS)}{M:Own}{g:TG}{wi:TI}
theorem de_comp_read {fr:List (Option Nat)}{tt:TT}{te:TE}{T:List Nat}{Q:DS→Own→Prop}(ho:GOnly g T) (hT:∀i∈T,∀j,fr[i]?≠some (some j))
   (h:DI K wi ρ M fun ds M1=>ds.length < sizeLine∧∃(c:PyData→Bool) (f:PyData→PyData),(∀d∈ds,∀A acc M',M1 A=none→M'=M1.put A (.l acc)→DG K g d (captD fr ρ) M' fun ρ2 M2=>M2=M'∧DT K tt ρ2 M2 fun b M3=>M3=M'∧b=c d∧(c d=true→DE K te ρ2 M3 fun y M4=>y = .d (f d)∧M4=M'))∧Q (.d (.list ((ds.filter c).map f))) M1) :
   DE K (tComp fr wi g tt te) ρ M Q:=by
 refine de_comp ho hT fun σ H R Rl k=>h σ H R Rl fun J ds H1 M1 o1 t1 wd q=>k J ds H1 M1 o1 t1 wd ?_
 obtain⟨hsz,c,f,he,q⟩:=q
 refine⟨hsz,fun A hA=>⟨fun k acc M'=>acc=((ds.take k).filter c).map f∧M'=M1.put A (.l acc),⟨by simp,rfl⟩,fun k acc M' ⟨e1,e2⟩=>⟨by rw[e2];exact zU,?_⟩,fun k d acc M' hd ⟨e1,e2⟩=>?_,fun acc M' ⟨e1,e2⟩=>?_⟩⟩
 · rw[e1,zX]
   exact zN (yJ _ _) (by rw[List.length_take];omega)
 · have hm:d∈ds:=yN hd
   intro σ H v QQ R dv kk
   refine he d hm A acc M' hA e2 σ H v QQ R dv fun ρ' M2 σ' H' R' st ⟨eM,q2⟩=>kk ρ' M2 σ' H' R' st fun σ2 H2 QQ2 R2 k2=>?_
   refine q2 σ2 H2 QQ2 R2 fun b H3 M3 o3 st3 ⟨eM3,eb,q3⟩=>k2 b H3 M3 o3 st3 ?_
   have ts:(ds.take (k+1)).filter c=(ds.take k).filter c++(if c d then [d] else []):=take_succ_filter c ds k d hd
   cases hb:c d with
   | false=>
     rw[hb] at eb
     subst eb
     refine L2.iteF ⟨?_,by rw[eM3,e2]⟩
     rw[ts,hb,e1];simp
   | true=>
     rw[hb] at eb
     subst eb
     refine L2.iteT ?_
     refine de_mono (q3 hb) fun y M4 ⟨ey,e4⟩=>⟨f d,ey,by rw[e4,e2];exact zU,?_,by rw[e4,e2,yI]⟩
     rw[ts,hb,e1];simp
 · rw[e2,yG hA,e1,List.take_length]
   exact q
end
theorem map_str_inj {as bs:List Str}(h:as.map PyData.str=bs.map PyData.str):as=bs:=by
 have:=congrArg (List.map strOf) h
 rw[zD,zD] at this
 simpa [show(strOf∘PyData.str)=id from rfl] using this
theorem atI_some {α:Type}{xs:List α}{v:Int}(h0:0≤v) (h1:v < xs.length):∃x,atI xs v=some x∧x∈xs:=by
 obtain⟨n,rfl⟩:∃n:Nat,v=(n:Int):=⟨v.toNat,by omega⟩
 have hn:n < xs.length:=by omega
 exact⟨xs[n],atI_nat (zV hn),List.getElem_mem hn⟩
end DL
namespace DL
open PySem PySem.Spec L2
theorem ds_asg {K:Frg}{ρ:List (Option DS)}{M:Own}{D:EndsD}{te:TE}{g:TG}(h:DE K te ρ M fun x M1=>∃d,x = .d d∧DG K g d ρ M1 D.nx):DSt K (tAsg te g) ρ M D:=fun σ H E R k1 _ _ _=>
 h σ H _ R fun v H' x M' a b c q=>by
   obtain⟨d,rfl,q⟩:=q
   exact q σ H' v _ (R.step a c) b fun ρ2 M2 σ2 H2 R2 st2 p=>k1 ρ2 M2 σ2 H2 R2 (c.trans st2) p
end DL
namespace DL
open PySem PySem.Spec L2
theorem kAppendM {X:Cx}:MtR X "list.append" rAppend:=mt_append
end DL
namespace L2
open PySem PySem.Spec PyProof.Rows
def EntS (w:World):List DictEntry→List (Str×Str)→Prop
 | [],[]=>True
 | e::es,kv::r=>e.hash=hashStr w kv.1∧(∃t,e.key = .str kv.1 t)∧(∃t,e.val = .str kv.2 t)∧EntS w es r
 | _,_=>False
def GDict (w:World) (K:Frg) (a:Addr) (kvs:List (Str×Str)):Prop:=
 (a==sysModules)=false∧(kvs.map (·.1)).Nodup∧∃es ep,K.lookup a=some { cls:=.type "dict", data:=.dict es ep }∧EntS w es.toList kvs
theorem EntS.pairs {P:Program}{w:World}:∀{es:List DictEntry}{kvs:List (Str×Str)},EntS w es kvs→∃vs:List (Key×Value),Pairs (mixKind P w) es vs∧KV (kvs.map fun kv=>((Sum.inr kv.1:Key),V.str kv.2)) vs∧vs.map (·.1)=kvs.map (fun kv=>(Sum.inr kv.1:Key))∧∀e∈es,∃k,(mixKind P w).is k e.key=true∧e.hash=(mixKind P w).hash k
 | [],[],_=>⟨[],.nil,.nil,rfl,by simp⟩
 | e::es,kv::r,⟨h1,⟨t,h2⟩,⟨t',h3⟩,h4⟩=>by
   obtain⟨vs,a,b,c,d⟩:=EntS.pairs (P:=P) h4
   have hk:(mixKind P w).is (Sum.inr kv.1) e.key=true:=by rw[h2];exact mixKind_str P w kv.1 t
   refine⟨(Sum.inr kv.1,e.val)::vs,.cons hk rfl a,.cons ⟨rfl,⟨t',h3⟩⟩ b,by rw[zI,zI,c],fun x hx=>?_⟩
   rcases yX.mp hx with rfl | hx
   · exact⟨_,hk,h1⟩
   · exact d x hx
section
variable {X:Cx}{pins:List (Addr×Obj)}{σ:St}{H:Hp}{s:Shared}
theorem GDict.at {a:Addr}{kvs:List (Str×Str)}(g:GDict X.w X.K a kvs) (I:Inv X pins σ H s):∃vs,KV (kvs.map fun kv=>((Sum.inr kv.1:Key),V.str kv.2)) vs∧s.heap.DictOf (mixKind X.prog X.w) a vs:=by
 obtain⟨_,nd,es,ep,hk,he⟩:=g
 obtain⟨vs,p1,p2,p3,p4⟩:=he.pairs (P:=X.prog)
 refine⟨vs,p2,_,es,ep,I.kIn a _ hk,⟨rfl,rfl,rfl⟩,rfl,fun e he=>p4 e (by simpa using he),p1,?_⟩
 rw[p3]
 have:kvs.map (fun kv=>(Sum.inr kv.1:Key))=(kvs.map (·.1)).map Sum.inr:=by rw[zD];rfl
 rw[this]
 unfold List.Nodup
 rw[List.pairwise_map]
 exact nd.imp fun {a b} q e=>q (by injection e)
def tGGet (kvs:List (Str×Str)) (ty:TE):TE:=fun σ H Q=>ty σ H fun y H1=>∃k:Str,y = .str k∧Q (((kvs.lookup k).map V.str).getD .non) H1
theorem valV_lookup (kvs:List (Str×Str)) (k:Str):valV (kvs.map fun kv=>((Sum.inr kv.1:Key),V.str kv.2)) (Sum.inr k)=(kvs.lookup k).map V.str:=by
 induction kvs with
 | nil=>rfl
 | cons kv r ih=>
   obtain⟨a,b⟩:=kv
   unfold valV at ih ⊢
   rw[zI,List.find?_cons,List.lookup_cons]
   by_cases h:a=k
   · subst h;simp
   · have h1:decide ((Sum.inr a:Key)=Sum.inr k)=false:=decide_eq_false fun e=>h (by injection e)
     have h2:(k==a)=false:=by simpa using fun e=>h e.symm
     simp only[h1,h2]
     exact ih
theorem pe_gget {x:Str}{p apos cpos:Pos}{e:Expr}{ty:TE}{kvs:List (Str×Str)}(hg:Gl X x) (hm:∃a,X.mg x=some (.ref a)∧GDict X.w X.K a kvs) (he:PE X e ty) (m:M1 X (.Name x p) "get" apos e cpos) (hd:(x==("__debug__":Str))=false:=by decide) :
   PE X (.Call (.Attribute (.Name x p) "get" apos) [e] [] cpos) (tGGet kvs ty):=by
 obtain⟨a,hm,g⟩:=hm
 intro pins s σ H Q I h
 refine wpAny_Call_method m.base m.few m.line PySem.F.plainAttrs_dict PySem.F.slot_dict_get PySem.F.type_dict_get (ld_glob I hg hm ?_ hd)
 obtain⟨vs,rel,dd⟩:=g.at I
 refine⟨dd.typeIs,fun b q=>?_,?_⟩
 · cases q
   obtain⟨ob,_,_,h1,h2,_⟩:=dd
   exact⟨ob,h1,h2.2.1⟩
 rw[m.trees]
 refine Calls.callWith_builtin rfl (Calls.evalArgs_plain (xP (thn (he pins s σ H _ I h) fun iv s2 ⟨y,H2,I2,ry,k,ey,q2⟩=>Calls.spliced_nil ?_)))
 subst ey
 obtain⟨vs',rel',dd'⟩:=g.at I2
 refine call_meetsIn PySem.F.slot_dict_get dd'.typeIs PySem.F.entry_dict_get (PySem.F.args_dict_get_2 _ _) (meets_dict_get (mixKind X.prog X.w) a (kV_is (k:=Sum.inr k) ry) g.1) ⟨_,dd'.mapOf,?_⟩
 refine⟨_,H2,I2.tok _,?_,q2⟩
 have:=(rel'.val (Sum.inr k)).getD (show RelV .non .none from rfl)
 rw[valV_lookup] at this
 exact this
end
end L2
namespace DL
open PySem PySem.Spec L2
section
variable {K:Frg}{ρ:List (Option DS)}{M:Own}{Q:DS→Own→Prop}{ty:TE}
def optD:Option Str→PyData | some z=>.str z | none=>.none
theorem de_gget {kvs:List (Str×Str)}(h:DE K ty ρ M fun y M1=>∃k,y = .d (.str k)∧Q (.d (optD (kvs.lookup k))) M1):DE K (tGGet kvs ty) ρ M Q:=fun σ H QQ R k=>
 h σ H _ R fun v H1 x M1 o1 s1 t1 h1=>by
   obtain⟨z,rfl,q⟩:=h1
   refine⟨z,si_str s1,?_⟩
   cases e:kvs.lookup z with
   | none=>rw[e] at q;exact k _ H1 (.d .none) M1 o1 (by unfold SI DV;rfl) t1 q
   | some y=>rw[e] at q;exact k _ H1 (.d (.str y)) M1 o1 si_of_str t1 q
theorem pe_gref {X:Cx}{x:Str}{a:Addr}{pos:Pos}(hg:Gl X x) (hm:X.mg x=some (.ref a)) (hd:(x==("__debug__":Str))=false:=by decide):PE X (.Name x pos) (tC (.ref a)):=pe_glob hg hm rfl hd
theorem d2_int {neg:Bool}{x:Str}{ys:List Str}(q:Q (.d (.bool (if neg then !decide (x∈ys) else decide (x∈ys)))) M):D2 K (rIn K neg) (.d (.str x)) (.d (.tuple (ys.map .str))) M Q:=fun H v u QQ oa s1 s2 k=>by
 rw[si_str s1]
 unfold SI DV at s2
 obtain⟨a,vs,rfl,hl,hd⟩:=s2
 have e:=dvs_strs hd
 subst e
 exact⟨a,_,rfl,.inr hl.sq,rfl,by simp[flatV],k _ H (.d (.bool (if neg then !decide (x∈ys) else decide (x∈ys)))) M oa (by rw[inV_strs];exact si_of_bl) Step.refl q⟩
theorem d2A_int {x:Str}{ys:List Str}(q:Q (.d (.bool (decide (x∈ys)))) M):D2 K (rInA K) (.d (.str x)) (.d (.tuple (ys.map .str))) M Q:=d2_or2 (d2_int (neg:=false) q)
end
end DL
namespace L2
open PySem PySem.Spec PyProof.Rows
section
variable {X:Cx}
def rStarts:V→List V→Hp→VK→Prop:=fun v vs H Q=>∃x y,v = .str x∧vs=[.str y]∧Q (.bl (Txt.startswith x y)) H
theorem mt_starts:MtR X "str.startswith" rStarts:=by
 intro pins s σ H x xs v us Q I rx rv h
 obtain⟨y,z,rfl,rfl,q⟩:=h
 obtain⟨t,rfl⟩:=rx
 obtain⟨u,rfl,t',rfl⟩:=vals1 rv
 exact SC.startswith ⟨.bl _,H,I,rfl,q⟩
def repS (z:Str) (n:Int):Str:=if (n==1||z.length==0)=true then z else ⟨(List.replicate n.toNat z.cps).foldl (·++·) #[]⟩
def rMulB:R2:=fun x y H Q=>(rI (fun i j=>IntMulOk i j) fun i j=>.int (i*j)) x y H Q∨∃z n,x = .str z∧y = .int n∧1≤n∧n≤8∧z.length≤1000∧Q (.str (repS z n)) H
theorem rep_size (a:Array Nat):∀(n:Nat) (b:Array Nat),(List.foldl (fun x1 x2=>x1++x2) b (List.replicate n a)).size=b.size+n*a.size
 | 0,b=>by simp
 | n+1,b=>by
   rw[List.replicate_succ,List.foldl_cons,rep_size a n,Array.size_append,Nat.succ_mul];omega
theorem rep_toList (a:Array Nat):∀(n:Nat) (b:Array Nat),(List.foldl (fun x1 x2=>x1++x2) b (List.replicate n a)).toList=b.toList++(List.replicate n a.toList).flatten
 | 0,b=>by simp
 | n+1,b=>by
   rw[List.replicate_succ,List.foldl_cons,rep_toList a n,List.replicate_succ];simp
theorem op_mulB:OpR X (binaryOp .Mult) rMulB:=by
 intro pins s σ H x y v u Q I rx ry h
 rcases h with h | ⟨z,n,rfl,rfl,h1,h2,h3,q⟩
 · exact(opI (C:=fun i j=>IntMulOk i j) fun _ _ _ _ _ _ _ hc q=>mul_int q hc) pins s σ H x y v u Q I rx ry h
 · obtain⟨t,rfl⟩:=rx
   obtain⟨t',rfl⟩:=ry
   have hp:(2:Int) ^ 63=9223372036854775808:=by decide
   refine P.mul_str ?_ (fun _ _=>?_) (fun _ _=>?_) ?_
   · rw[decide_eq_false (Int.not_lt.mpr (Int.le_trans (by decide) h1)),decide_eq_false (Int.not_le.mpr (Int.lt_of_le_of_lt h2 (by decide)))];rfl
   · rw[hp]
     have h5:(1000:Int)≤(9223372036854775808 - 1)/n:=Int.le_ediv_of_mul_le (Int.lt_of_lt_of_le (by decide) h1) (Int.le_trans (Int.mul_le_mul_of_nonneg_left h2 (by decide)) (by decide))
     exact fun hc=>absurd (Int.lt_of_le_of_lt h5 hc) (Int.not_lt.mpr (Int.ofNat_le.mpr h3))
   · have hm:z.length*n.toNat≤1000*1000:=Nat.mul_le_mul h3 (by omega)
     unfold Builtin.Str.tooLong
     rw[decide_eq_false]
     exact fun hc=>absurd (zP hc hm) (by decide)
   · rw[if_neg (by omega)]
     have q':=q
     unfold repS at q'
     split
     · rename_i e
       rw[if_pos e] at q'
       exact⟨.str z,H,I,⟨_,rfl⟩,q'⟩
     · rename_i e
       rw[if_neg e] at q'
       refine⟨?_,⟨.str _,H,I.tok _,⟨_,rfl⟩,q'⟩⟩
       show(List.foldl (fun x1 x2=>x1++x2) #[] (List.replicate n.toNat z.cps)).size≤sizeLine
       rw[rep_size]
       have hm:(#[]:Array Nat).size+n.toNat*z.cps.size≤8*1000:=by
         rw[show(#[]:Array Nat).size=0 from rfl,Nat.zero_add]
         exact Nat.mul_le_mul (by omega) h3
       exact zN hm (by decide)
end
end L2
namespace DL
open PySem PySem.Spec L2
section
variable {X:Cx}{K:Frg}
theorem kStartswith (_:X.K=K):MtR X "str.startswith" rStarts:=mt_starts
theorem kMul (_:X.K=K):OpR X (binaryOp .Mult) rMulB:=op_mulB
def rMin:List V→Hp→VK→Prop:=fun xs H Q=>∃i j,xs=[.int i,.int j]∧Q (.int (if j < i then j else i)) H
def rInt1:List V→Hp→VK→Prop:=fun xs H Q=>(∃i,xs=[.int i]∧Q (.int i) H)∨∃k,xs=[.bl k]∧Q (.int (if k then 1 else 0)) H
def rDivmod:List V→Hp→VK→Prop:=fun xs H Q=>∃i j,xs=[.int i,.int j]∧CDiv i j∧∀p,H p=none→Q (.ref p) (upd H p (.tup [.int (i/j),.int (i % j)]))
theorem kMin (_:X.K=K) (hc:X.calm=true):CallR X (.builtin "min") rMin:=call_min2 hc
theorem kInt (_:X.K=K):CallR X (.type "int") rInt1:=call_int1
theorem kDivmod (_:X.K=K):CallR X (.builtin "divmod") rDivmod:=call_divmod
end
section
variable {K:Frg}{ρ:List (Option DS)}{M:Own}{Q:DS→Own→Prop}
theorem dm_starts {x y:Str}(q:Q (.d (.bool (Txt.startswith x y))) M):DM K rStarts (.d (.str x)) [.d (.str y)] M Q:=fun H v vs QQ oa s1 s2 k=>by
 obtain⟨u,r,rfl,h1,h2⟩:=s2
 cases h2
 rw[si_str s1,si_str h1]
 exact⟨x,y,rfl,rfl,k _ H _ M oa si_of_bl Step.refl q⟩
theorem d2_mul {i j:Int}(c:IntMulOk i j) (q:Q (.d (.int (i*j))) M):D2 K rMulB (.d (.int i)) (.d (.int j)) M Q:=fun H v u QQ oa s1 s2 k=>by
 rw[si_int s1,si_int s2]
 exact .inl ⟨i,j,rfl,rfl,c,k _ H _ M oa si_of_int Step.refl q⟩
theorem d2_rep {z:Str}{n:Int}(h1:1≤n) (h2:n≤8) (h3:z.length≤1000) (q:Q (.d (.str (repS z n))) M):D2 K rMulB (.d (.str z)) (.d (.int n)) M Q:=fun H v u QQ oa s1 s2 k=>by
 rw[si_str s1,si_int s2]
 exact .inr ⟨z,n,rfl,rfl,h1,h2,h3,k _ H _ M oa si_of_str Step.refl q⟩
theorem rd_min {i j:Int}(q:Q (.d (.int (if j < i then j else i))) M):DR K rMin [.d (.int i),.d (.int j)] M Q:=fun H vs QQ oa s k=>by
 obtain⟨v,r,rfl,h1,v2,r2,rfl,h2,h3⟩:=s
 cases h3
 rw[si_int h1,si_int h2]
 exact⟨i,j,rfl,k _ H _ M oa si_of_int Step.refl q⟩
theorem rd_intb {b:Bool}(q:Q (.d (.int (if b then 1 else 0))) M):DR K rInt1 [.d (.bool b)] M Q:=fun H vs QQ oa s k=>by
 obtain⟨v,r,rfl,h1,h2⟩:=s
 cases h2
 rw[si_bl h1]
 exact .inr ⟨b,rfl,k _ H _ M oa si_of_int Step.refl q⟩
theorem rd_divmod {i j:Int}(h0:0 < j) (hj:j < 1073741824) (q:Q (.d (.tuple [.int (i/j),.int (i % j)])) M):DR K rDivmod [.d (.int i),.d (.int j)] M Q:=fun H vs QQ oa s k=>by
 obtain⟨v,r,rfl,h1,v2,r2,rfl,h2,h3⟩:=s
 cases h3
 rw[si_int h1,si_int h2]
 refine⟨i,j,rfl,⟨h0,hj⟩,fun p hp=>?_⟩
 have g:Grow K M.W M.W H (upd H p (.tup [.int (i/j),.int (i % j)])):=grow_new _ hp
 refine k _ _ (.d (.tuple [.int (i/j),.int (i % j)])) M (oa.new hp) ?_ ⟨g⟩ q
 unfold SI DV
 exact⟨p,_,rfl,.inl ⟨fun w=>w (oa.none hp),.inl upd_same⟩,DVs.cons (by unfold DV;rfl) (DVs.cons (by unfold DV;rfl) DVs.nil)⟩
theorem dgs_item {g:TGs}{to ti:TE}{d:PyData}{ds:List PyData}{P:List (Option DS)→Own→Prop}
   (h:DE K to ρ M fun o M1=>DE K ti ρ M1 fun i M2=>∃a xs k j,o = .loc a∧i = .d (.int k)∧M2 a=some (.l xs)∧ixN xs.length k=some j∧DGs K g ds ρ (M2.put a (.l (xs.set j d))) P) :
   DGs K (gCons (gSub to ti rSetL) g) (d::ds) ρ M P:=fun σ H vs QQ R hd kk=>by
 unfold DVs at hd
 obtain⟨v,r,rfl,h1,h2⟩:=hd
 refine⟨v,r,rfl,h σ H _ R fun w H2 y M2 o2 s2 t2 h3=>h3 σ H2 _ (R.step o2 t2) fun u H3 z M3 o3 s3 t3 h4=>?_⟩
 obtain⟨a,xs,k,j,rfl,rfl,m,hj,q⟩:=h4
 rw[si_int s3]
 have e:=s2.step t3
 unfold SI at e
 subst e
 obtain⟨vs,h0,hd'⟩:=o3 a _ m
 have t23:=t2.trans t3
 obtain⟨p1,p2⟩:=own_write o3 m (hd'.set j (DV.grow t23.grow h1))
 have st:=t23.trans p2
 exact⟨a,vs,k,j,rfl,rfl,h0,by rw[hd'.length];exact hj,q σ _ r _ (R.step p1 st) (DVs.grow st.grow h2) fun ρ' M' σ' H' R' st' p=>kk ρ' M' σ' H' R' (st.trans st') p⟩
end
end DL
namespace L2
open PySem PySem.Spec PyProof.Rows PySem.W
theorem layable_bits {ns:List Int}(h:WData.layableAll [WData.list (ns.map WData.int)]=true):∀i∈ns,xJ i≤2 ^ 20:=by
 have h1:WData.weightAll (ns.map WData.int)≤2 ^ 20:=by
   have h0:WData.layable (WData.list (ns.map WData.int))=true:=by
     unfold WData.layableAll at h
     simpa using h
   unfold WData.layable at h0
   rw[Bool.and_eq_true] at h0
   exact of_decide_eq_true h0.2
 intro i hi
 refine zN ?_ h1
 clear h h1
 induction ns with
 | nil=>cases hi
 | cons n r ih=>
   rw[zI]
   show _≤WData.weight (.int n)+1+WData.weightAll (r.map WData.int)
   rcases yX.mp hi with rfl | hi
   · have:WData.weight (.int i)=xJ i:=rfl
     omega
   · have:=ih hi
     omega
theorem walk_ofB {l:PySem.W.OpenLaw}{n k:Nat}{q:Program}{loose:List Str}{XP:(Str→Option Value)→Heap→Prop}{YP:World→Heap→Prop}{d:DefRec}{K:Params→Frg}{CX:World→CXT}{sp:World→Sp}{x:Str}
   (hn:l.most=some n) (hn2:n≤sizeLine) (hdf:d.params.defaults=[]) (hr:Room k callerA)
   (hY:∀(w:World) (h:Heap),YP w h→(K w.params).In h)
   (F:∀(w:World) (mg:Str→Option Value) (fa:Addr) (h:Heap),(K w.params).In h→h.Ns mainGlobals mg→mg d.name=some (.ref fa) →
     ∃fd:FuncData,(∀(s:Shared) (u:Value),BindsTo s fd ⟨[u],[]⟩ [(x,u)]) ∧
       ∀base:Heap,(K w.params).In base→base.Ns mainGlobals mg→FnOk l.prog w (K w.params) mg base (CX w) k fa fd [x] (sp w))
   (hsp:∀(w:World) (H:Hp) (a:Addr) (ns:List Int),ns.length≤n→(∀i∈ns,xJ i≤2 ^ 20)→Only H→SqL (K w.params) H a (ns.map V.int)→sp w [.ref a] H (fun v _=>v = .bl true) fun _ _ _=>False)
   (hCX:∀(w:World) (H:Hp) (s:Shared) (e:Value) (s':Shared),CX w [] H s (fun _ _ _=>False) e s'→False) :
   PySem.W.WalkO q loose XP YP l.row.toRowW d [] (fun f vs=>PySem.call f vs):=by
 intro w s₀ s₁ mg mb G Y fa o pm cd doc dV kV ho hd hcd hD hmg hg args vals as hpre hlay hrd hwl hlo
 have e1:dV = .none:=Dflts.none hD hdf
 subst e1
 have e2:kV = .none:=Dflts.noKw hD
 subst e2
 obtain⟨a,vs,ns,rfl,rfl,hobj,hints,hlen⟩:=Att.script_of hn hpre hwl
 have hbits:=layable_bits hlay
 refine enter_call (xN (R:=fun r s'=>r = .ok (.ret (.bool true))∧OldK s₁.heap s'.heap∧s'.os=s₁.os∧AllBare s'.gens) ?_ fun r s' hq=>?_)
 · have KX:=hY w _ Y
   obtain⟨fd,hb,hF⟩:=F w mg fa _ KX G.T.g hmg
   exact law_call KX G.T.g G.T.b G.T.builtins G.T.nolimit hg hobj hints (zN hlen hn2) hr hF hb (fun H hO hS=>hsp w H a ns hlen hbits hO hS) fun H e s'=>hCX w H s₁ e s'
 · have h1:=hq.1
   subst h1
   exact⟨.inl ⟨.bool true,.bool true,[],rfl,fun _=>rfl,.bool true,Att.post_true l _,fun _=>⟨List.Pairwise.nil,fun _ hm=>(nomatch hm)⟩⟩,hq.2.1,hq.2.2.1,hq.2.2.2⟩
end L2
namespace DL
open PySem PySem.Spec L2
theorem range_from (i m:Nat) (a:Array Nat):((List.range m).map (i+·)).filterMap (fun j=>a[j]?)=(a.toList.drop i).take m:=by
 induction m with
 | zero=>simp
 | succ m ih=>
   rw[List.range_succ,xI,List.filterMap_append,ih,List.take_add_one]
   have e:a[i+m]?=(a.toList.drop i)[m]?:=by rw[List.getElem?_drop];simp
   simp only[zI,List.map_nil,List.filterMap_cons,List.filterMap_nil,e]
   cases (a.toList.drop i)[m]? <;> simp
theorem clampN (n len:Nat):max 0 (min (n:Int) (len:Int))=((min n len:Nat):Int):=by
 rcases Nat.le_total n len with h | h
 · rw[Nat.min_eq_left h,Int.min_eq_left (Int.ofNat_le.mpr h),Int.max_eq_right (Int.natCast_nonneg _)]
 · rw[Nat.min_eq_right h,Int.min_eq_right (Int.ofNat_le.mpr h),Int.max_eq_right (Int.natCast_nonneg _)]
theorem countN (a b:Nat):(if (a:Int) < (b:Int) then ((b:Int) - (a:Int)+1 - 1)/1 else 0).toNat=b - a:=by
 split
 · rw[Int.ediv_one];omega
 · omega
theorem idx_from (n len:Nat):Builtin.Str.strSliceIndices (some (n:Int)) none 1 len=(List.range (len - min n len)).map (min n len+·):=by
 unfold Builtin.Str.strSliceIndices sliceRange
 have h1:¬((n:Int) < 0):=Int.not_lt.mpr (Int.natCast_nonneg n)
 have h2:=clampN n len
 simp only[show(1:Int) > 0 by decide,if_true,h1,if_false,h2]
 have h3:(if ((min n len:Nat):Int) < (len:Int) then ((len:Int) - ((min n len:Nat):Int)+1 - 1)/1 else 0).toNat=len - min n len:=countN _ _
 rw[h3]
 apply yM
 intro i hi
 omega
theorem idx_mid (n k len:Nat):Builtin.Str.strSliceIndices (some (n:Int)) (some (k:Int)) 1 len=(List.range (min k len - min n len)).map (min n len+·):=by
 unfold Builtin.Str.strSliceIndices sliceRange
 have h1:¬((n:Int) < 0):=Int.not_lt.mpr (Int.natCast_nonneg n)
 have h1':¬((k:Int) < 0):=Int.not_lt.mpr (Int.natCast_nonneg k)
 have h2:=clampN n len
 have h2':=clampN k len
 simp only[show(1:Int) > 0 by decide,if_true,h1,h1',if_false,h2,h2']
 have h3:(if ((min n len:Nat):Int) < ((min k len:Nat):Int) then (((min k len:Nat):Int) - ((min n len:Nat):Int)+1 - 1)/1 else 0).toNat=min k len - min n len:=countN _ _
 rw[h3]
 apply yM
 intro i hi
 omega
theorem slice_from (z:Str) (n:Nat):(Txt.slice z (some (n:Int)) none).cps.toList=z.cps.toList.drop n:=by
 unfold Txt.slice
 rw[idx_from]
 have hl:z.length=z.cps.toList.length:=by simp[Str.length]
 split
 · rename_i h
   rw[Bool.and_eq_true] at h
   have h:=eq_of_beq h.2
   rw[zX,xZ] at h
   have h0:n=0∨z.cps.toList.length=0:=by rw[hl] at h;omega
   rcases h0 with rfl | h0
   · simp
   · rw[List.length_eq_zero_iff.mp h0];simp
 · show(List.filterMap _ _).toArray.toList=_
   rw[range_from,List.toList_toArray,hl]
   by_cases h:n≤z.cps.toList.length
   · rw[Nat.min_eq_left h,List.take_of_length_le (by rw[List.length_drop];exact zR _)]
   · rw[Nat.min_eq_right (by omega),List.drop_eq_nil_of_le (zR _),List.drop_eq_nil_of_le (by omega)];simp
theorem slice_mid (z:Str) (n k:Nat):(Txt.slice z (some (n:Int)) (some (k:Int))).cps.toList=(z.cps.toList.take k).drop n:=by
 unfold Txt.slice
 rw[idx_mid]
 have hl:z.length=z.cps.toList.length:=by simp[Str.length]
 have key:(z.cps.toList.drop (min n z.length)).take (min k z.length - min n z.length)=(z.cps.toList.take k).drop n:=by
   rw[hl,List.drop_take]
   by_cases h:n≤z.cps.toList.length
   · rw[Nat.min_eq_left h,List.take_eq_take_iff,List.length_drop]
     rcases Nat.le_total k z.cps.toList.length with h' | h'
     · rw[Nat.min_eq_left h']
     · rw[Nat.min_eq_right h',Nat.min_self,Nat.min_eq_right (Nat.sub_le_sub_right h' n)]
   · rw[List.drop_eq_nil_of_le (show z.cps.toList.length≤min n z.cps.toList.length by omega),List.drop_eq_nil_of_le (show z.cps.toList.length≤n by omega)];simp
 split
 · rename_i h
   rw[Bool.and_eq_true] at h
   have h:=eq_of_beq h.2
   rw[zX,xZ] at h
   rw[← key]
   have h5:=Nat.min_le_right k z.length
   have h0:min n z.length=0∨z.cps.toList.length=0:=by
     rw[← hl]
     revert h h5
     generalize min k z.length=a
     generalize min n z.length=b
     omega
   rcases h0 with h0 | h0
   · have h6:z.cps.toList.length≤min k z.length - 0:=by rw[← hl];rw[h0] at h;exact Nat.le_of_eq h.symm
     rw[h0,List.drop_zero,List.take_of_length_le h6]
   · rw[List.length_eq_zero_iff.mp h0];simp
 · show(List.filterMap _ _).toArray.toList=_
   rw[range_from,List.toList_toArray,key]
theorem om_div {i N:Nat}(h:i < N) (hN:N≤26):i/8 < 26:=zQ (Nat.div_le_self i 8) (zP h hN)
theorem om_rep (k:Nat):(1:Int)≤1+(k:Int) % 8∧1+(k:Int) % 8≤8∧1≤(1+(k:Int) % 8).toNat∧(1+(k:Int) % 8).toNat≤8:=by
 have e:(k:Int) % 8=((k % 8:Nat):Int):=rfl
 rw[e]
 have:=Nat.mod_lt k (show 8 > 0 by decide)
 clear e
 generalize k % 8=r at *
 omega
theorem om_eq {i j:Nat}(h1:(1:Int)+(i:Int) % 8=1+(j:Int) % 8) (h2:i/8=j/8):i=j:=by
 have a:=Nat.div_add_mod i 8
 have b:=Nat.div_add_mod j 8
 have c:i % 8=j % 8:=by
   have:=Int.add_left_cancel h1
   exact Int.ofNat.inj this
 rw[← a,← b,h2,c]
theorem om_rot {t:Nat}(h:t≤26):26 - t+min t 26=26:=by rw[Nat.min_eq_left h,Nat.sub_add_cancel h]
theorem om_mid {s L:Nat}(h:s≤7):min (3+s) L - 3≤7:=zN (Nat.sub_le_sub_right (Nat.min_le_left _ _) 3) (by rw[Nat.add_sub_cancel_left];exact h)
def letZ (z:Str):Prop:=∀c∈z.cps.toList,isLet c=true
theorem nameZ_of {z:Str}(h:letZ z) (h1:1≤z.cps.toList.length) (h2:z.cps.toList.length≤8):nameZ z:=⟨by rw[size_list];exact h1,by rw[size_list];exact h2,h⟩
theorem letZ_app {a b:Str}(h1:letZ a) (h2:letZ b):letZ (a++b):=fun c hc=>by
 rw[append_toList] at hc
 exact(yW.mp hc).elim (h1 c) (h2 c)
theorem letZ_one {c:Nat}(h:isLet c=true):letZ ⟨#[c]⟩:=fun d hd=>by
 have:d=c:=by simpa using hd
 subst this;exact h
theorem rep_one {c:Nat}{n:Int}(h1:1≤n):(repS ⟨#[c]⟩ n).cps.toList=List.replicate n.toNat c:=by
 unfold repS
 split
 · rename_i h
   have:n=1:=by
     rw[Bool.or_eq_true,beq_iff_eq,beq_iff_eq] at h
     rcases h with h | h
     · exact h
     · exact absurd h (show ¬(1=0) by decide)
   subst this;rfl
 · show(List.foldl _ _ _:Array Nat).toList=_
   rw[rep_toList]
   show []++(List.replicate n.toNat [c]).flatten=_
   rw[List.nil_append]
   induction n.toNat with
   | zero=>rfl
   | succ m ih=>rw[List.replicate_succ,List.flatten_cons,ih,List.replicate_succ];rfl
end DL
namespace L2
open PySem PySem.Spec PyProof.Rows
section
variable {X:Cx}
def rNotA:R2:=fun x y H Q=>(y = .non∧Q (.bl (!decide (x = .non))) H)∨∃a b:Bool,x = .bl a∧y = .bl b∧Q (.bl (!(a==b))) H
theorem op_notA:OpR X (compareOp .IsNot) rNotA:=by
 intro pins s σ H x y v u Q I rx ry h
 rcases h with h | ⟨a,b,rfl,rfl,q⟩
 · exact op_notN pins s σ H x y v u Q I rx ry h
 · cases rx;cases ry
   refine wpAny_isNot_plain rfl ⟨.bl (!(a==b)),H,I,?_,q⟩
   cases a <;> cases b <;> rfl
end
end L2
namespace DL
open PySem PySem.Spec L2
section
variable {K:Frg}{ρ:List (Option DS)}{M:Own}{Q:DS→Own→Prop}{QI:List PyData→Own→Prop}
theorem d2_notNA {d:PyData}(q:Q (.d (.bool (!isNoneD d))) M):D2 K rNotA (.d d) (.d .none) M Q:=d2_or1 (d2_notN q)
def DPs (K:Frg) (trs:List (TE×TE)) (ρ:List (Option DS)) (M:Own) (Q:List (Str×PyData)→Own→Prop):Prop:=
 ∀(σ:St) (H:Hp) (QQ:List (V×V)→Hp→Prop),Rel K M ρ σ H→(∀ps H' kds M',OA K H' M'→(∃vs,DVs K H' M'.W (kds.map (·.2)) vs∧ps=(kds.map fun k=>V.str k.1).zip vs)→Step K M M' H H'→Q kds M'→QQ ps H')→tPairs trs σ H QQ
theorem dps_nil {Q:List (Str×PyData)→Own→Prop}(h:Q [] M):DPs K [] ρ M Q:=fun σ H QQ R k=>k [] H [] M R.own ⟨[],DVs.nil,rfl⟩ Step.refl h
theorem dps_cons {tk tv:TE}{trs:List (TE×TE)}{Q:List (Str×PyData)→Own→Prop}(h:DE K tk ρ M fun x M1=>∃k,x = .d (.str k)∧DE K tv ρ M1 fun y M2=>∃d,y = .d d∧DPs K trs ρ M2 fun kds M3=>Q ((k,d)::kds) M3):DPs K ((tk,tv)::trs) ρ M Q:=fun σ H QQ R kk=>
 h σ H _ R fun v H1 x M1 o1 s1 t1 h1=>by
   obtain⟨k,rfl,h1⟩:=h1
   refine h1 σ H1 _ (R.step o1 t1) fun u H2 y M2 o2 s2 t2 h2=>?_
   obtain⟨d,rfl,h2⟩:=h2
   refine h2 σ H2 _ (R.step o2 (t1.trans t2)) fun ps H3 kds M3 o3 ⟨vs,s3,e3⟩ t3 q=>?_
   refine kk _ H3 ((k,d)::kds) M3 o3 ⟨u::vs,DVs.cons (DV.grow t3.grow s2) s3,?_⟩ ((t1.trans t2).trans t3) q
   rw[si_str s1,e3];rfl
theorem merge_nodup:∀(kvs acc:List (Key×V)),((acc++kvs).map (·.1)).Nodup→mergeK acc kvs=acc++kvs
 | [],acc,_=>by simp[mergeK]
 | kv::r,acc,h=>by
   have h1:(acc.any fun x=>decide (x.1=kv.1))=false:=by
     rw[List.any_eq_false]
     intro x hx
     rw[xI,List.nodup_append] at h
     have:=h.2.2 x.1 (zL.mpr ⟨x,hx,rfl⟩) kv.1 (by simp)
     simpa using this
   show mergeK (putK acc kv.1 kv.2) r=_
   have e:putK acc kv.1 kv.2=acc++[kv]:=by
     unfold putK
     rw[h1];rfl
   rw[e,merge_nodup r (acc++[kv]) (by rw[List.append_assoc];exact h)]
   simp
theorem dkv_of {H:Hp}{W:Addr→Prop}:∀{kds:List (Str×PyData)}{vs:List V},DVs K H W (kds.map (·.2)) vs→DKV K H W (kds.map fun k=>(.str k.1,k.2)) ((kds.map fun k=>(Sum.inr k.1:Key)).zip vs)
 | [],vs,h=>by unfold DKV;rfl
 | (k,d)::r,vs,h=>by
   rw[zI] at h
   unfold DVs at h
   obtain⟨v,r',rfl,h1,h2⟩:=h
   rw[zI]
   unfold DKV
   exact⟨Sum.inr k,v,_,rfl,rfl,h1,dkv_of h2⟩
theorem zip_keys:∀(kds:List (Str×PyData)) (vs:List V),vs.length=kds.length→(kds.map fun k=>V.str k.1).zip vs=((kds.map fun k=>(Sum.inr k.1:Key)).zip vs).map fun kv=>(kV kv.1,kv.2)
 | [],vs,_=>by simp
 | a::r,[],h=>by cases h
 | a::r,v::vs,h=>by
   rw[zI,zI,List.zip_cons_cons,List.zip_cons_cons,zI,zip_keys r vs (by simpa using h)];rfl
theorem de_dispN {trs:List (TE×TE)}(h:∀p,M p=none→DPs K trs ρ (M.put p (.d [])) fun kds M1=>M1 p=some (.d [])∧kds.length≤15∧(kds.map (·.1)).Nodup∧Q (.d (.dict (kds.map fun k=>(.str k.1,k.2)))) (M1.del p)):DE K (tDisp trs) ρ M Q:=fun σ H QQ R k p hp=>by
 have hMp:=R.own.none hp
 obtain⟨oa0,st0⟩:=own_newD (kvs:=[]) (ks:=[]) R.own hp (by unfold DKV;rfl)
 refine h p hMp σ _ _ (R.step oa0 st0) fun ps H2 kds M2 o2 ⟨vs,hd,e⟩ t2 h2=>?_
 obtain⟨hm,hl,nd,q⟩:=h2
 obtain⟨ks,q1,q2⟩:=o2 p _ hm
 unfold DKV at q2
 subst q2
 have hlen:vs.length=kds.length:=by rw[hd.length,zX]
 refine⟨q1,(kds.map fun k=>(Sum.inr k.1:Key)).zip vs,?_,by rw[List.length_zip,zX];omega,?_⟩
 · rw[e];exact zip_keys kds vs hlen
 · have hk:(((kds.map fun k=>(Sum.inr k.1:Key)).zip vs).map (·.1)).Nodup:=by
     rw[List.map_fst_zip (by rw[zX,hlen];exact zR _)]
     have:kds.map (fun k=>(Sum.inr k.1:Key))=(kds.map (·.1)).map Sum.inr:=by rw[zD];rfl
     rw[this]
     unfold List.Nodup
     rw[List.pairwise_map]
     exact nd.imp fun {a b} q e=>q (by injection e)
   rw[merge_nodup _ [] (by simpa using hk),List.nil_append]
   obtain⟨o3,t3⟩:=own_writeD (kvs:=kds.map fun k=>(.str k.1,k.2)) (ks:=(kds.map fun k=>(Sum.inr k.1:Key)).zip vs) o2 hm (dkv_of hd)
   have hs:(M2.del p).Sub (M2.put p (.d (kds.map fun k=>(.str k.1,k.2)))):=fun b o e=>by
     unfold Own.del at e
     by_cases hb:b=p
     · rw[if_pos hb] at e;cases e
     · rw[if_neg hb] at e;rw[yH hb];exact e
   refine k _ _ (.d (.dict (kds.map fun k=>(.str k.1,k.2)))) (M2.del p) (o3.sub hs) ?_ (((st0.trans t2).trans t3).trans ⟨sub_grow hs⟩) q
   obtain⟨ks',q1',q2'⟩:=o3 p _ zU
   unfold SI DV
   exact⟨p,ks',rfl,fun w=>w (by unfold Own.del;rw[if_pos rfl]),.inl q1',q2'.grow (sub_grow hs)⟩
def lookK (k:Str):List (PyData×PyData)→Option PyData
 | (.str a,d)::r=>if a=k then some d else lookK k r
 | _::r=>lookK k r
 | []=>none
theorem dkv_val {H:Hp}{W:Addr→Prop}{k:Str}:∀{kvs:List (PyData×PyData)}{ks:List (Key×V)},DKV K H W kvs ks→(∃d v,lookK k kvs=some d∧valV ks (Sum.inr k)=some v∧DV K H W d v)∨(lookK k kvs=none∧valV ks (Sum.inr k)=none)
 | [],ks,h=>by unfold DKV at h;subst h;exact .inr ⟨rfl,rfl⟩
 | (kd,d)::r,ks,h=>by
   unfold DKV at h
   obtain⟨k',v,r',rfl,rfl,h1,h2⟩:=h
   have ih:=dkv_val (k:=k) h2
   unfold valV at ih ⊢
   rw[List.find?_cons]
   cases k' with
   | inl i=>
     have e1:decide ((Sum.inl i:Key)=Sum.inr k)=false:=rfl
     rw[e1]
     exact ih
   | inr a=>
     by_cases e:a=k
     · subst e
       left
       exact⟨d,v,by simp[keyD,lookK],by simp,h1⟩
     · have e1:decide ((Sum.inr a:Key)=Sum.inr k)=false:=decide_eq_false fun q=>e (by injection q)
       rw[e1]
       rcases ih with ⟨d',v',a1,a2,a3⟩ | ⟨a1,a2⟩
       · exact .inl ⟨d',v',by simp only[keyD,lookK,if_neg e];exact a1,a2,a3⟩
       · exact .inr ⟨by simp only[keyD,lookK,if_neg e];exact a1,a2⟩
theorem de_dget2 {td ty tx:TE}(h:DE K td ρ M fun x M1=>∃kvs,x = .d (.dict kvs)∧DE K ty ρ M1 fun y M2=>∃k,y = .d (.str k)∧DE K tx ρ M2 fun z M3=>∃dz,z = .d dz∧Q (.d ((lookK k kvs).getD dz)) M3):DE K (tDGet2 td ty tx) ρ M Q:=fun σ H QQ R kk=>
 h σ H _ R fun v H1 x M1 o1 s1 t1 h1=>by
   obtain⟨kvs,rfl,h1⟩:=h1
   have s1':=s1
   unfold SI DV at s1'
   obtain⟨a,ks,rfl,nw,ha,hk⟩:=s1'
   refine⟨a,rfl,.inl ⟨ks,ha⟩,h1 σ H1 _ (R.step o1 t1) fun u H2 y M2 o2 s2 t2 h2=>?_⟩
   obtain⟨k,rfl,h2⟩:=h2
   refine h2 σ H2 _ (R.step o2 (t1.trans t2)) fun z H3 zz M3 o3 s3 t3 h3=>?_
   obtain⟨dz,rfl,q⟩:=h3
   have s1'':=s1.step (t2.trans t3)
   unfold SI DV at s1''
   obtain⟨a',ks',e,nw',ha',hk'⟩:=s1''
   cases e
   rw[si_str s2]
   rcases dkv_val (k:=k) hk' with ⟨d,v,e1,e2,e3⟩ | ⟨e1,e2⟩
   · rw[e1] at q
     exact⟨some v,.inl ⟨ks',Sum.inr k,ha',rfl,e2.symm⟩,kk _ H3 (.d d) M3 o3 e3 ((t1.trans t2).trans t3) q⟩
   · rw[e1] at q
     exact⟨none,.inl ⟨ks',Sum.inr k,ha',rfl,e2.symm⟩,kk _ H3 (.d dz) M3 o3 s3 ((t1.trans t2).trans t3) q⟩
end
end DL
namespace L2
open PySem PySem.Spec PyProof.Rows
section
variable {prog:Program}{w:World}{A:Around}{E:Value→Shared→Prop}{s:Shared}
theorem draw_lst {it l:Addr}{its:Array Value}(hne:l≠it):∀(n i:Nat) (s:Shared) (Q:List Value→Shared→Prop),s.heap.IsListIter it l i→s.heap.IsList l its→i+n≤its.size →
   (∀h',h'.IsListIter it l (i+n)→Heap.SameBut it s.heap h'→Q ((its.toList.drop i).take n) { s with heap:=h' })→wpAny (model prog w) A (draw (.ref it) n) Q E s
 | 0,i,s,Q,hit,_,_,hQ=>by
   show wpAny _ _ (pure []) Q E s;exact zY (by simpa using hQ s.heap hit (Heap.SameBut.refl ..))
 | n+1,i,s,Q,hit,hl,hle,hQ=>by
   have hlt:i < its.size:=by omega
   show wpAny _ _ (pyNext (.ref it) >>= _) Q E s;refine zZ (wpAny_pyNext_list_item hit hl (x:=its[i]) (by simp[hlt]) fun g1 t1 q1=>?_)
   refine zZ (wpAny_holding (draw_lst hne n (i+1) _ _ t1 (hl.extBut q1.extBut hne) (by omega) fun g2 t2 q2=>zY ?_))
   have hd:its.toList.drop i=its[i]::its.toList.drop (i+1):=by simp[List.drop_eq_getElem_cons,hlt]
   have h3:=hQ g2 (by rw[show i+(n+1)=i+1+n by omega];exact t2) (q1.trans q2)
   rw[hd,List.take_succ_cons] at h3
   exact h3
theorem unpack_lst {l:Addr}{its:Array Value}{Q:List Value→Shared→Prop}(hh:A.handled=none) (hl:s.heap.IsList l its)
   (hQ:∀h',Heap.ExtBut s.heap.objs.size s.heap h'→Q its.toList { s with heap:=h' }):wpAny (model prog w) A (unpackItems (.ref l) its.size none) Q E s:=by
 have hne:l≠s.heap.objs.size:=by obtain⟨o,ho,_⟩:=hl;exact zC (zM ho)
 unfold unpackItems;refine zZ ?_;unfold notIterableAtAll
 refine zZ (wpAny_specialOf hl.typeIs F.slot_list_iter.lookup ?_);refine zY ?_;simp only[Bool.false_eq_true,if_false]
 refine zZ (wpAny_holding (wpAny_pyIter_list hl ?_))
 refine zZ (wpAny_holding (draw_lst hne its.size 0 _ _ ⟨_,yZ _ rfl,rfl,rfl⟩ (hl.push _) (by omega) fun g1 t1 q1=>?_))
 rw[show List.take its.size (List.drop 0 its.toList)=its.toList by rw[List.drop_zero];exact List.take_of_length_le (by simp),if_neg (by simp)]
 refine zZ (wpAny_holding (wpAny_pyNext_list_end hh t1 ((hl.push _).extBut q1.extBut hne) (by simp) fun g2 e2=>?_));simp only[Option.isSome_none,Bool.false_eq_true,if_false]
 exact zY (hQ g2 fun b o hb e=>e2 b o hb (q1.extBut b o hb (zW _ e)))
end
section
variable {X:Cx}{pos:Pos}
def gTupA (K:Frg) (n:Nat) (t:TGs):TG:=fun v σ H Q=>∃a xs,v = .ref a∧(SqT K H a xs∨SqL K H a xs)∧xs.length=n∧t xs σ H Q
theorem pg_tupA {es:List Expr}{k:Nat}{t:TGs}{n:Nat}(hc:X.calm=true) (h:PGs X es t)
   (hn:(assignEach es X.env).length=n:=by rfl) (hst:(assignEach es X.env).findIdx? (·.1)=none:=by rfl):PG X (.Tuple es k pos) (gTupA X.K n t):=by
 intro pins s σ H v u Q I r hw
 obtain⟨a,xs,e1,hq,hl,hw⟩:=hw
 rcases hq with hq | hq
 · exact pg_tup hc h hn hst pins s σ H v u Q I r ⟨a,xs,e1,hq,hl,hw⟩
 · subst e1
   cases r
   obtain⟨its,rv,pl,hz⟩:=I.list hq
   rw[arm_assign_Tuple]
   refine zZ (wpAny_standAt ?_)
   unfold unpack
   rw[show(assignEach es X.env).length=its.toArray.size by simp[hn,← hl,rv.length],hst]
   refine zZ (wpAny_holding (unpack_lst (I.ok.hd hc) pl.isList fun h' hx=>?_))
   have I1:Inv X pins σ H { s with heap:=h' }:=I.kept (t':=s.toks) fun b o e=>hx b o (zC (zM e)) e
   exact h pins _ σ H xs _ Q I1 (by simpa using rv) hw
end
end L2
namespace DL
open PySem PySem.Spec L2
theorem kTupA {X:Cx}{K:Frg}{pos:Pos}{es:List Expr}{k:Nat}{t:TGs}{n:Nat}(hK:X.K=K) (hc:X.calm=true) (h:PGs X es t)
   (hn:(assignEach es X.env).length=n:=by rfl) (hst:(assignEach es X.env).findIdx? (·.1)=none:=by rfl):PG X (.Tuple es k pos) (gTupA K n t):=hK▸pg_tupA hc h hn hst
section
variable {K:Frg}{M:Own}{ρ:List (Option DS)}{P:List (Option DS)→Own→Prop}
theorem dg_tupA {n:Nat}{g:TGs}{ds:List PyData}(hn:ds.length=n) (h:DGs K g ds ρ M P):DG K (gTupA K n g) (.tuple ds) ρ M P:=fun σ H v QQ R dv k=>by
 unfold DV at dv
 obtain⟨a,vs,rfl,hl,hd⟩:=dv
 exact⟨a,vs,rfl,.inl hl.sq,by rw[hd.length];exact hn,h σ H vs QQ R hd k⟩
end
end DL
namespace L2
open PySem PySem.Spec PyProof.Rows PySem.W
section
variable {n:Nat}{lt:Nat→Nat→Bool}
def Good (n:Nat) (lt:Nat→Nat→Bool) {α:Type}(P:α→Prop):KasT α→Prop
 | .ret a=>P a
 | .ask i j k=>i < n∧j < n∧i≠j∧Good n lt P (k (lt i j))
theorem Good.mono {α:Type}{P Q:α→Prop}(h:∀a,P a→Q a):∀{t:KasT α},Good n lt P t→Good n lt Q t
 | .ret _,g=>h _ g
 | .ask _ _ _,⟨a,b,c,g⟩=>⟨a,b,c,Good.mono h g⟩
theorem Good.bind {α β:Type}{P:β→Prop}{f:α→KasT β}:∀{t:KasT α},Good n lt (fun a=>Good n lt P (f a)) t→Good n lt P (t.bind f)
 | .ret _,g=>g
 | .ask _ _ _,⟨a,b,c,g⟩=>⟨a,b,c,Good.bind g⟩
theorem Good.wp {α:Type}{cmp:Nat→Nat→(Bool→Shared→Prop)→Shared→Prop}{s:Shared}{P:α→Prop}{Q:α→Shared→Prop}
   (hc:∀i j (C:Bool→Shared→Prop),i < n→j < n→i≠j→C (lt i j) s→cmp i j C s) (hq:∀a,P a→Q a s):∀{t:KasT α},Good n lt P t→t.kasWp cmp Q s
 | .ret a,g=>hq a g
 | .ask i j k,⟨a,b,c,g⟩=>hc i j _ a b c (Good.wp hc hq g)
structure Strict (n:Nat) (lt:Nat→Nat→Bool):Prop where
 irr:∀i,lt i i=false
 tr:∀i j k,lt i j=true→lt j k=true→lt i k=true
 tot:∀i j,i < n→j < n→i≠j→lt i j=true∨lt j i=true
def Pm (n:Nat) (p:Array Nat):Prop:=p.toList.Perm (List.range n)
theorem Pm.size {p:Array Nat}(h:Pm n p):p.size=n:=by have:=h.length_eq;simpa using this
theorem Pm.bel {p:Array Nat}(h:Pm n p) {i:Nat}(hi:i < n):p.getD i 0 < n:=by
 have hs:i < p.size:=by rw[h.size];exact hi
 have:p[i]∈List.range n:=h.mem_iff.mp (by simp)
 simp only[Array.getD,hs,dite_true]
 exact List.mem_range.mp this
theorem nd_inj {l:List Nat}(nd:l.Nodup) {i j:Nat}{hi:i < l.length}{hj:j < l.length}(e:l[i]=l[j]):i=j:=by
 rcases Nat.lt_trichotomy i j with h | h | h
 · exact absurd e (List.pairwise_iff_getElem.mp nd i j hi hj h)
 · exact h
 · exact absurd e.symm (List.pairwise_iff_getElem.mp nd j i hj hi h)
theorem Pm.inj {p:Array Nat}(h:Pm n p) {i j:Nat}(hi:i < n) (hj:j < n) (hij:i≠j):p.getD i 0≠p.getD j 0:=by
 have hsi:i < p.size:=by rw[h.size];exact hi
 have hsj:j < p.size:=by rw[h.size];exact hj
 simp only[Array.getD,hsi,hsj,dite_true]
 have nd:p.toList.Nodup:=h.nodup_iff.mpr List.nodup_range
 intro e
 have e':p.toList[i]'(by simpa using hsi)=p.toList[j]'(by simpa using hsj):=by simpa using e
 exact hij (nd_inj nd e')
def Up (lt:Nat→Nat→Bool) (p:Array Nat) (k:Nat):Prop:=∀i j,i < j→j < k→lt (p.getD i 0) (p.getD j 0)=true
def Dn (lt:Nat→Nat→Bool) (p:Array Nat) (k:Nat):Prop:=∀i j,i < j→j < k→lt (p.getD j 0) (p.getD i 0)=true
theorem good_asc (S:Strict n lt) {p:Array Nat}(hp:Pm n p):∀(f m:Nat),1≤m→m+f≤n→Up lt p m →
   Good n lt (fun r=>m≤r∧r≤m+f∧Up lt p r∧(r=m+f∨lt (p.getD r 0) (p.getD (r - 1) 0)=true)) (kas_asc p f m)
 | 0,m,h1,h2,h3=>⟨zR _,zR _,h3,.inl rfl⟩
 | f+1,m,h1,h2,h3=>by
   unfold kas_asc
   refine⟨hp.bel (by omega),hp.bel (by omega),hp.inj (by omega) (by omega) (by omega),?_⟩
   cases hc:lt (p.getD m 0) (p.getD (m - 1) 0) with
   | true=>exact⟨zR _,by omega,h3,.inr hc⟩
   | false=>
     have hup:lt (p.getD (m - 1) 0) (p.getD m 0)=true:=(S.tot _ _ (hp.bel (by omega)) (hp.bel (by omega)) (hp.inj (i:=m - 1) (j:=m) (by omega) (by omega) (by omega))).elim id fun z=>by rw[hc] at z;cases z
     dsimp only
     rw[if_neg nft]
     refine(good_asc S hp f (m+1) (by omega) (by omega) fun i j hij hj=>?_).mono fun r ⟨a,b,c,d⟩=>⟨by omega,by omega,c,d.elim (fun z=>.inl (by omega)) .inr⟩
     by_cases hjm:j < m
     · exact h3 i j hij hjm
     · have e:j=m:=by omega
       subst e
       by_cases hi:i=j - 1
       · subst hi;exact hup
       · exact S.tr _ _ _ (h3 i (j - 1) (by omega) (by omega)) hup
theorem good_desc (S:Strict n lt) {p:Array Nat}(hp:Pm n p):∀(f m:Nat),1≤m→m+f≤n→Dn lt p m →
   Good n lt (fun r=>r.1=p∧r.2.2=0∧m≤r.2.1∧r.2.1≤m+f∧Dn lt p r.2.1) (kas_desc f p m 0)
 | 0,m,h1,h2,h3=>⟨rfl,rfl,zR _,zR _,h3⟩
 | f+1,m,h1,h2,h3=>by
   unfold kas_desc
   refine⟨hp.bel (by omega),hp.bel (by omega),hp.inj (by omega) (by omega) (by omega),?_⟩
   cases hc:lt (p.getD m 0) (p.getD (m - 1) 0) with
   | true=>
     dsimp only
     rw[if_pos rfl,if_neg (yF 0)]
     refine(good_desc S hp f (m+1) (by omega) (by omega) fun i j hij hj=>?_).mono fun r ⟨a,b,c,d,e⟩=>⟨a,b,by omega,by omega,e⟩
     by_cases hjm:j < m
     · exact h3 i j hij hjm
     · have e:j=m:=by omega
       subst e
       by_cases hi:i=j - 1
       · subst hi;exact hc
       · exact S.tr _ _ _ hc (h3 i (j - 1) (by omega) (by omega))
   | false=>
     have hup:lt (p.getD (m - 1) 0) (p.getD m 0)=true:=(S.tot _ _ (hp.bel (by omega)) (hp.bel (by omega)) (hp.inj (i:=m - 1) (j:=m) (by omega) (by omega) (by omega))).elim id fun z=>by rw[hc] at z;cases z
     dsimp only
     rw[if_neg nft]
     refine⟨hp.bel (by omega),hp.bel (by omega),hp.inj (by omega) (by omega) (by omega),?_⟩
     dsimp only
     rw[hup,if_pos rfl]
     exact⟨rfl,rfl,zR _,(show m≤_ by omega),h3⟩
theorem getD_of {α:Type}{xs ys:Array α}{i j:Nat}{d:α}(h:xs[i]?=ys[j]?):xs.getD i d=ys.getD j d:=by
 rw[Array.getD_eq_getD_getElem?,Array.getD_eq_getD_getElem?,h]
theorem pm_rev {p:Array Nat}(hp:Pm n p) (i j:Nat):Pm n (kas_rev p i j):=(Array.perm_iff_toList_perm.mp (mirror_perm _ _ _ _)).trans hp
theorem good_tail3 (S:Strict n lt) {p:Array Nat}(hp:Pm n p) {m:Nat}(h1:1≤m) (h2:m≤n) (h3:Dn lt p m) :
   Good n lt (fun r=>1≤r.1∧r.1≤n∧Pm n r.2∧Up lt r.2 r.1) (kas_tail3 m n p):=by
 unfold kas_tail3
 refine Good.bind ((good_asc S (pm_rev hp 0 m) (n - m) m h1 (by omega) fun i j hij hj=>?_).mono fun r ⟨a,b,c,_⟩=>⟨by omega,by omega,pm_rev hp 0 m,c⟩)
 have hz:m≤p.size:=by rw[hp.size];exact h2
 have e:∀k,k < m→(kas_rev p 0 m).getD k 0=p.getD (m - 1 - k) 0:=fun k hk=>by
   refine getD_of ?_
   unfold kas_rev
   rw[getElem?_mirror_all (i:=0) hz k,if_pos ⟨xT _,hk⟩,Nat.zero_add]
 rw[e i (by omega),e j (by omega)]
 exact h3 _ _ (by omega) (by omega)
theorem good_descPart (S:Strict n lt) {p:Array Nat}(hp:Pm n p) {m:Nat}(h2:m+1≤n) (h3:Dn lt p (m+1)) :
   Good n lt (fun r=>1≤r.1∧r.1≤n∧Pm n r.2∧Up lt r.2 r.1) (kas_descPart m n p):=by
 unfold kas_descPart
 refine Good.bind ((good_desc S hp (n - (m+1)) (m+1) (by omega) (by omega) h3).mono fun r ⟨a,b,c,d,e⟩=>?_)
 rw[b,if_neg (yF 0),a]
 exact good_tail3 S hp (by omega) (by omega) e
theorem good_count (S:Strict n lt) {p:Array Nat}(hp:Pm n p) (h2:1≤n) :
   Good n lt (fun r=>1≤r.1∧r.1≤n∧Pm n r.2∧Up lt r.2 r.1) (kas_count n p):=by
 unfold kas_count
 refine Good.bind ((good_asc S hp (n - 1) 1 (zR _) (by omega) fun i j hij hj=>by omega).mono fun r ⟨a,b,c,d⟩=>?_)
 by_cases hr:r=n
 · subst hr
   rw[if_pos (by simp)]
   exact⟨a,zR _,hp,c⟩
 · rw[if_neg (by simpa using hr)]
   have hlt:lt (p.getD r 0) (p.getD (r - 1) 0)=true:=d.resolve_left (by omega)
   by_cases h1:r > 1
   · rw[if_pos h1]
     refine⟨hp.bel (by omega),hp.bel (by omega),hp.inj (by omega) (by omega) (by omega),?_⟩
     dsimp only
     rw[c 0 (r - 1) (by omega) (by omega),if_pos rfl]
     exact⟨a,by omega,hp,c⟩
   · rw[if_neg h1]
     have e:r=1:=by omega
     subst e
     refine good_descPart S hp (by omega) fun i j hij hj=>?_
     have e1:i=0:=by omega
     have e2:j=1:=by omega
     subst e1 e2
     exact hlt
theorem good_place (S:Strict n lt) {p:Array Nat}(hp:Pm n p) {k:Nat}(hk:k < n) (hu:Up lt p k):∀(f l r:Nat),l≤r→r≤k→r - l≤f →
   (∀i,i < l→lt (p.getD i 0) (p.getD k 0)=true)→(∀i,r≤i→i < k→lt (p.getD k 0) (p.getD i 0)=true) →
   Good n lt (fun x=>x≤k∧(∀i,i < x→lt (p.getD i 0) (p.getD k 0)=true)∧∀i,x≤i→i < k→lt (p.getD k 0) (p.getD i 0)=true) (kas_place p k f l r)
 | 0,l,r,h1,h2,h3,h4,h5=>by
   unfold kas_place
   exact⟨by omega,h4,fun i hi hik=>h5 i (by omega) hik⟩
 | f+1,l,r,h1,h2,h3,h4,h5=>by
   unfold kas_place
   by_cases hge:l≥r
   · rw[if_pos hge]
     exact⟨by omega,h4,fun i hi hik=>h5 i (by omega) hik⟩
   · rw[if_neg hge]
     have hm:l≤(l+r)/2∧(l+r)/2 < r:=by omega
     generalize (l+r)/2=m at hm ⊢
     obtain⟨hm1,hm2⟩:=hm
     have hmk:m < k:=zP hm2 h2
     have hmn:m < n:=Nat.lt_trans hmk hk
     refine⟨hp.bel hk,hp.bel hmn,hp.inj hk hmn (Nat.ne_of_gt hmk),?_⟩
     cases hc:lt (p.getD k 0) (p.getD m 0) with
     | true=>
       dsimp only
       rw[if_pos rfl]
       refine good_place S hp hk hu f l m hm1 (xR hmk) (by omega) h4 fun i hi hik=>?_
       by_cases e:i=m
       · subst e;exact hc
       · exact S.tr _ _ _ hc (hu _ _ (Nat.lt_of_le_of_ne hi (Ne.symm e)) hik)
     | false=>
       dsimp only
       rw[if_neg nft]
       have hup:lt (p.getD m 0) (p.getD k 0)=true:=(S.tot _ _ (hp.bel hmn) (hp.bel hk) (hp.inj (i:=m) (j:=k) hmn hk (zC hmk))).elim id fun z=>by rw[hc] at z;cases z
       refine good_place S hp hk hu f (m+1) r hm2 h2 (by omega) (fun i hi=>?_) h5
       by_cases e:i=m
       · subst e;exact hup
       · exact S.tr _ _ _ (hu _ _ (by omega) (by omega)) hup
theorem good_bin (S:Strict n lt):∀(f:Nat) {p:Array Nat}{k:Nat},Pm n p→k+f=n→Up lt p k→Good n lt (fun q=>Pm n q∧Up lt q n) (kas_bin f p k)
 | 0,p,k,hp,h1,h2=>by
   have e:k=n:=by omega
   subst e
   exact⟨hp,h2⟩
 | f+1,p,k,hp,h1,h2=>by
   unfold kas_bin
   refine Good.bind ((good_place S hp (by omega) h2 k 0 k (xT _) (zR _) (by omega) (fun i hi=>by omega) fun i hi hk=>by omega).mono fun x ⟨hx,a,b⟩=>?_)
   have hks:k < p.size:=by rw[hp.size];omega
   refine good_bin S f ((Array.perm_iff_toList_perm.mp (bubble_perm _ _ _)).trans hp) (by omega) fun i j hij hj=>?_
   have e:∀q,(bubble p k (k - x)).getD q 0=if q=x then p.getD k 0 else if x < q∧q≤k then p.getD (q - 1) 0 else p.getD q 0:=fun q=>by
     have:=getElem?_bubble hks (k - x) (by omega) q
     rw[show k - (k - x)=x by omega] at this
     by_cases c1:q=x
     · rw[if_pos c1] at this ⊢;exact getD_of this
     · rw[if_neg c1] at this ⊢
       by_cases c2:x < q∧q≤k
       · rw[if_pos c2] at this ⊢;exact getD_of this
       · rw[if_neg c2] at this ⊢;exact getD_of this
   obtain⟨g,hg⟩:∃g:Nat→Nat,∀i,p.getD i 0=g i:=⟨_,fun _=>rfl⟩
   have h2':∀i j,i < j→j < k→lt (g i) (g j)=true:=fun i j x y=>by rw[← hg,← hg];exact h2 i j x y
   rw[e,e]
   simp only[hg] at a b ⊢
   clear e
   rcases Nat.lt_trichotomy j x with hj' | hj' | hj'
   · have hi':i < x:=Nat.lt_trans hij hj'
     rw[if_neg (zC hi'),if_neg (fun z=>Nat.lt_asymm z.1 hi'),if_neg (zC hj'),if_neg (fun z=>Nat.lt_asymm z.1 hj')]
     exact h2' _ _ hij (zP hj' hx)
   · subst hj'
     rw[if_neg (zC hij),if_neg (fun z=>Nat.lt_asymm z.1 hij),if_pos rfl]
     exact a _ hij
   · obtain⟨j',rfl⟩:∃j',j=j'+1:=⟨j - 1,by omega⟩
     have hjk:j' < k:=Nat.lt_of_succ_le (Nat.le_of_lt_succ hj)
     have hxj:x≤j':=Nat.le_of_lt_succ hj'
     rw[if_neg (Nat.ne_of_gt hj') (c:=j'+1=x),if_pos (c:=x < j'+1∧j'+1≤k) ⟨hj',hjk⟩,Nat.add_sub_cancel]
     rcases Nat.lt_trichotomy i x with hi' | hi' | hi'
     · rw[if_neg (zC hi'),if_neg (fun z=>Nat.lt_asymm z.1 hi')]
       exact h2' _ _ (zP hi' hxj) hjk
     · rw[if_pos hi']
       exact b _ hxj hjk
     · obtain⟨i',rfl⟩:∃i',i=i'+1:=⟨i - 1,by omega⟩
       have hij':i' < j':=Nat.lt_of_succ_lt_succ hij
       rw[if_neg (Nat.ne_of_gt hi'),if_pos (c:=x < i'+1∧i'+1≤k) ⟨hi',Nat.lt_trans hij' hjk⟩,Nat.add_sub_cancel]
       exact h2' _ _ hij' hjk
theorem good_sort (S:Strict n lt) (h1:1≤n):Good n lt (fun q=>Pm n q∧Up lt q n) (kas_sort n):=by
 unfold kas_sort
 refine Good.bind ((good_count S (show Pm n _ from .refl _) h1).mono fun r ⟨a,b,c,d⟩=>?_)
 have e:max r.1 1=r.1:=by omega
 rw[e]
 by_cases hr:r.1 < n
 · rw[if_pos hr]
   exact good_bin S _ c (by omega) d
 · rw[if_neg hr]
   have e:r.1=n:=by omega
   rw[e] at d
   exact⟨c,d⟩
end
end L2
namespace L2
open PySem PySem.Spec PyProof.Rows PySem.W
def TupsN (h:Heap) (vs:List Value) (ns:List Str):Prop:=
 vs.length=ns.length∧∀(i:Nat) (v:Value) (nm:Str),vs[i]?=some v→ns[i]?=some nm→∃(a:Addr) (o:Obj) (xs:Array Value) (k:Nat) (t:Tok),v=Value.ref a∧h.get? a=some o∧o.cls = .type "tuple" ∧ o.data = .seq xs k∧xs[0]?=some (.str nm t)
theorem TupsN.keep {h h':Heap}{vs:List Value}{ns:List Str}(t:TupsN h vs ns) (hk:∀b o,o.cls = .type "tuple" → h.get? b=some o→h'.get? b=some o):TupsN h' vs ns:=
 ⟨t.1,fun i v nm e1 e2=>let ⟨a,o,xs,k,t',h1,h2,h3,h4,h5⟩:=t.2 i v nm e1 e2;⟨a,o,xs,k,t',h1,hk a o h3 h2,h3,h4,h5⟩⟩
theorem TupsN.kat {h:Heap}:∀{vs:List Value}{ns:List Str},TupsN h vs ns→∃fs,KatTups h vs fs∧fs.length=ns.length∧∀v∈fs,∃x t,v=Value.str x t
 | [],[],_=>⟨[],trivial,rfl,fun v hv=>nomatch hv⟩
 | [],_::_,t=>by have:=t.1;simp at this
 | _::_,[],t=>by have:=t.1;simp at this
 | v::vs,nm::ns,t=>by
   obtain⟨a,o,xs,k,t',rfl,h2,h3,h4,h5⟩:=t.2 0 v nm rfl rfl
   obtain⟨fs,q1,q2,q3⟩:=TupsN.kat (vs:=vs) (ns:=ns) ⟨by have:=t.1;simpa using this,fun i v nm e1 e2=>t.2 (i+1) v nm (by simpa using e1) (by simpa using e2)⟩
   exact⟨_,KatTups.cons h2 h3 h4 h5 q1,by simp[q2],fun v hv=>(yX.mp hv).elim (fun e=>⟨_,_,e⟩) (q3 v)⟩
section
variable {prog:Program}{w:World}{A:Around}{E:Value→Shared→Prop}{s:Shared}
theorem ask_tups {vs:List Value}{ns:List Str}(t:TupsN s.heap vs ns) (nd:ns.Nodup) {i j:Nat}(hi:i < ns.length) (hj:j < ns.length) (hij:i≠j) {C:Bool→Shared→Prop}(h:C (decide ((ns.getD i "").cps.toList < (ns.getD j "").cps.toList)) s) :
   kas_ask prog w A (tuples' true) vs i j C s:=by
 unfold kas_ask
 have hl:=t.1
 have e1:vs[i]?=some (vs.getD i Value.none):=by rw[yU,zV (by omega)];rfl
 have e2:vs[j]?=some (vs.getD j Value.none):=by rw[yU,zV (by omega)];rfl
 have f1:ns[i]?=some (ns.getD i ""):=by rw[yU,zV hi];rfl
 have f2:ns[j]?=some (ns.getD j ""):=by rw[yU,zV hj];rfl
 have hne:ns.getD i "" ≠ ns.getD j "" := fun e=>by
   rw[yU,yU,zV hi,zV hj] at e
   rcases Nat.lt_or_gt_of_ne hij with q | q
   · exact List.pairwise_iff_getElem.mp nd i j hi hj q e
   · exact List.pairwise_iff_getElem.mp nd j i hj hi q e.symm
 generalize vs.getD i Value.none=v at e1 ⊢
 generalize vs.getD j Value.none=u at e2 ⊢
 obtain⟨a,o,xs,k,t1,rfl,a2,a3,a4,a5⟩:=t.2 i v _ e1 f1
 obtain⟨b,o',ys,k',t2,rfl,b2,b3,b4,b5⟩:=t.2 j u _ e2 f2
 refine kat_lt a2 a4 b2 b4 ?_
 have x1:xs.toList[0]?=some (.str (ns.getD i "") t1):=by rw[Array.getElem?_toList];exact a5
 have y1:ys.toList[0]?=some (.str (ns.getD j "") t2):=by rw[Array.getElem?_toList];exact b5
 obtain⟨xr,hx⟩:∃r,xs.toList = .str (ns.getD i "") t1::r:=by
   cases hh:xs.toList with
   | nil=>rw[hh] at x1;cases x1
   | cons q r=>rw[hh] at x1;cases x1;exact⟨r,rfl⟩
 obtain⟨yr,hy⟩:∃r,ys.toList = .str (ns.getD j "") t2::r:=by
   cases hh:ys.toList with
   | nil=>rw[hh] at y1;cases y1
   | cons q r=>rw[hh] at y1;cases y1;exact⟨r,rfl⟩
 rw[hx,hy,List.zip_cons_cons]
 refine kat_cons (wpAny_eqBool_str ?_)
 rw[decide_eq_false hne]
 refine kat_no ?_
 show wpAny (model prog w) A (oneLt' true _ _) C (fun _ _=>False) s
 exact oneLt_str h
theorem list_sort_tups {a:Addr}{vs:List Value}{ns:List Str}{n:Nat}{P:PySem.Fin→Shared→Prop}(ho:s.heap.get? a=some (seqObj "list" vs.toArray n)) (t:TupsN s.heap vs ns) (nd:ns.Nodup) (h64:vs.length < 64)
   (h:∀p:List Nat,p.Perm (List.range vs.length)→(∀i j,i < j→j < vs.length→(ns.getD (p.getD i 0) "").cps.toList < (ns.getD (p.getD j 0) "").cps.toList) →
     P (.done (.ret .none)) { s with heap:=sortedHeap s.heap a vs (p.map fun i=>vs.getD i Value.none).toArray }) :
   wpAny (model prog w) A (Builtin.«list.sort» ⟨[.ref a],[]⟩) P E s:=by
 have ha:a < s.heap.objs.size:=zM ho
 rw[list_sort_plain];refine zZ (listItems_at ho rfl ?_)
 refine zZ (listUpdate_at ho rfl ?_ (by rw[zJ,sizeLine_eq];omega) (xT _));obtain⟨e1,ho1⟩:∃e1,(s.heap.update a (Obj.mapSeq fun _=>(#[]:Array Value))).get? a=some (seqObj "list" #[] e1):=⟨_,get?_update_seq ho (fun _=>#[])⟩
 refine zZ (seqEpoch_at ho1 rfl (zZ (wpAny_newTuple ?_ (by show vs.length≤_;rw[sizeLine_eq];omega))))
 refine zZ (wpAny_newList (wpAny_holding ?_) (xT _))
 have hsz:vs.toArray.size=vs.length:=zJ ..
 have keepT:∀b o,o.cls = .type "tuple" → s.heap.get? b=some o→(((s.heap.update a (Obj.mapSeq fun _=>(#[]:Array Value))).push (seqObj "tuple" vs.toArray 0)).push (seqObj "list" #[] 0)).get? b=some o:=fun b o hc q=>by
   have hb:b≠a:=fun e=>by
     subst e
     rw[ho] at q
     cases q
     exact absurd hc (show ¬(Value.type "list"=Value.type "tuple") by decide)
   refine zW _ (zW _ ?_)
   rw[yB _ _ _ _ hb]
   exact q
 have ho6:(((s.heap.update a (Obj.mapSeq fun _=>(#[]:Array Value))).push (seqObj "tuple" vs.toArray 0)).push (seqObj "list" #[] 0)).get? a=some (seqObj "list" #[] e1):=zW _ (zW _ ho1)
 show wpAny (model prog w) A _ P E { s with heap:=((s.heap.update a (Obj.mapSeq fun _=>(#[]:Array Value))).push (seqObj "tuple" vs.toArray 0)).push (seqObj "list" #[] 0) }
 dsimp only
 by_cases h2:vs.toArray.size < 2
 · rw[if_pos h2,if_pos h2]
   refine zZ (zY ?_)
   rw[StateT.run_pure]
   refine zZ (zY (zZ (seqEpoch_at ho6 rfl ?_)))
   have e3:(arrOf (SortSt.mk' general' (vs.toArray.zip vs.toArray) #[] 7 none)).map (·.2)=vs.toArray:=by
     show(vs.toArray.zip vs.toArray).map (·.2)=vs.toArray
     apply Array.toList_inj.mp
     rw[Array.toList_map,Array.toList_zip]
     exact List.map_snd_zip (zR _)
   rw[e3]
   refine zZ (listUpdate_at ho6 rfl ?_ (xT _) (by rw[zJ,sizeLine_eq];omega))
   simp only[bne_self_eq_false,Bool.false_eq_true,if_false]
   have:=h (List.range vs.length) (.refl _) (fun i j hij hj=>by omega)
   have e4:(List.range vs.length).map (fun i=>vs.getD i Value.none)=vs:=by
     apply List.ext_getElem?
     intro i
     rw[zF]
     by_cases hi:i < vs.length
     · rw[yA hi]
       simp[hi]
     · rw[List.getElem?_eq_none (by simp;omega),List.getElem?_eq_none (by omega)]
       rfl
   rw[e4] at this
   exact zY this
 · rw[if_neg h2,if_neg h2]
   have h2':2≤vs.length:=by omega
   have t6:=t.keep keepT
   obtain⟨fs,q1,q2,q3⟩:=t6.kat
   refine zZ (kat_kind (T:=.type "str") q1 (by have:=t.1;omega) (fun v hv=>?_) rfl ?_)
   · obtain⟨x,tt,rfl⟩:=q3 v hv
     exact Looks.of_pure rfl
   have hn:vs.length=ns.length:=t.1
   have S:Strict vs.length (fun i j=>decide (i < vs.length)&&(decide (j < vs.length)&&decide ((ns.getD i "").cps.toList < (ns.getD j "").cps.toList))):=by
     refine⟨fun i=>?_,fun i j k a b=>?_,fun i j hi hj hij=>?_⟩
     · simp[List.lt_irrefl]
     · simp only[Bool.and_eq_true,decide_eq_true_eq] at a b ⊢
       exact⟨a.1,b.2.1,List.lt_trans a.2.2 b.2.2⟩
     · simp only[Bool.and_eq_true,decide_eq_true_eq,hi,hj,true_and]
       have hne:(ns.getD i "").cps.toList≠(ns.getD j "").cps.toList:=fun e=>by
         have e':ns.getD i ""=ns.getD j "" := by
           generalize ns.getD i ""=x at e
           generalize ns.getD j ""=y at e
           obtain⟨⟨x⟩⟩:=x
           obtain⟨⟨y⟩⟩:=y
           simp at e
           rw[e]
         rw[yU,yU,zV (by omega),zV (by omega)] at e'
         rcases Nat.lt_or_gt_of_ne hij with q | q
         · exact List.pairwise_iff_getElem.mp nd i j (by omega) (by omega) q e'
         · exact List.pairwise_iff_getElem.mp nd j i (by omega) (by omega) q e'.symm
       by_cases c:(ns.getD i "").cps.toList < (ns.getD j "").cps.toList
       · exact .inl c
       · refine .inr ?_
         rcases List.le_iff_lt_or_eq.mp (List.not_lt.mp c) with z | z
         · exact z
         · exact absurd z.symm hne
   refine zZ (wpAny_mono (kat_run (ks:=vs) (G:=fun p s'=>s'={ s with heap:=((s.heap.update a (Obj.mapSeq fun _=>(#[]:Array Value))).push (seqObj "tuple" vs.toArray 0)).push (seqObj "list" #[] 0) }∧Pm vs.length p∧Up _ p vs.length)
     (Q:=fun st' s'=>s'={ s with heap:=((s.heap.update a (Obj.mapSeq fun _=>(#[]:Array Value))).push (seqObj "tuple" vs.toArray 0)).push (seqObj "list" #[] 0) }∧failedOf st'=none∧∃p:Array Nat,Pm vs.length p∧Up _ p vs.length∧(arrOf st').map (·.2)=List.toArray (p.toList.map fun i=>vs.getD i Value.none))
     rfl h2' h64 (fun p st' s' a1 a2 a3 a4=>⟨a4.1,a3,p,a4.2.1,a4.2.2,kat_snds rfl a2⟩) ((good_sort S (by omega)).wp (fun i j C hi hj hij hC=>?_) fun p hp=>⟨rfl,hp.1,hp.2⟩)) ?_ fun _ _ e=>e)
   · refine ask_tups t6 nd (by omega) (by omega) hij ?_
     simp only[hi,hj,decide_true,Bool.true_and] at hC
     exact hC
   · rintro⟨⟨⟩,st'⟩ s' ⟨rfl,hf,p,hp,hu,hm⟩
     dsimp only
     refine zZ (seqEpoch_at ho6 rfl ?_)
     rw[hm]
     refine zZ (listUpdate_at ho6 rfl ?_ (xT _) (by
       have z:=hp.length_eq
       simp only[xZ,Array.length_toList] at z
       simp only[zJ,zX,Array.length_toList]
       rw[sizeLine_eq];omega))
     rw[hf]
     simp only[bne_self_eq_false,Bool.false_eq_true,if_false]
     refine zY (h p.toList hp fun i j hij hj=>?_)
     have:=hu i j hij hj
     simp only[Bool.and_eq_true,decide_eq_true_eq] at this
     have ed:∀k,p.toList.getD k 0=p.getD k 0:=fun k=>by rw[yU,Array.getD_eq_getD_getElem?,Array.getElem?_toList]
     rw[ed,ed]
     exact this.2.2
theorem collect_seq {l:Addr}{vs:List Value}{Q:List Value→Shared→Prop}(hl:s.heap.IsList l vs.toArray∨s.heap.IsTuple l vs.toArray)
   (h:Q vs { s with heap:=(s.heap.push (seqObj "list" #[] 0)).update s.heap.objs.size (Obj.mapSeq (·++vs.toArray)) }) (hsz:vs.length≤sizeLine) :
   wpAny (model prog w) A (collect (.ref l)) Q E s:=by
 rcases hl with hl | ⟨o,ho,hc,n,hd⟩
 · exact collect_list hl h hsz
 unfold collect
 refine zZ (wpAny_runValue (codeAny_builtin entry_proto_collect' ?_))
 show wpAny _ _ (do again (.builtin "list.__iadd__" ⟨[← newList [],.ref l],[]⟩)) _ _ s
 refine zZ (wpAny_newList (zY ⟨Code.quiet_builtin _ (by decide +kernel),codeAny_builtin entry_list_iadd' ?_⟩))
 show wpAny _ _ (Builtin.List.listExtendWith (.ref s.heap.objs.size) (.ref l) (.ref s.heap.objs.size)) _ _ { s with heap:=s.heap.push (seqObj "list" #[] 0) }
 unfold Builtin.List.listExtendWith
 have ho':(s.heap.push (seqObj "list" #[] 0)).get? l=some o:=zW _ ho
 refine zZ (wpAny_typeOf (T:= "tuple") ⟨o,ho',hc⟩ ?_)
 have ht:(Value.type "tuple" == Value.type "tuple")=true:=by rfl
 rw[if_pos (by rw[ht];simp)]
 refine zZ (listItems_at ho' hd ?_)
 refine zZ (listItems_at (xs:=#[]) (n:=0) (yZ _ rfl) rfl ?_)
 rw[if_neg (by simp)]
 refine zZ (listUpdate_at (xs:=#[]) (n:=0) (yZ _ rfl) rfl ?_ (xT _) (by show(#[]++vs.toArray).size≤sizeLine+1;simp only[Array.size_append,zJ,List.length_nil];omega))
 refine zY ?_
 show wpAny (model prog w) A (do
     let o ← load s.heap.objs.size
     match o.data with
     | .seq xs _=>pure xs.toList
     | _=>unsupported "internal:collect") Q E { s with heap:=(s.heap.push (seqObj "list" #[] 0)).update s.heap.objs.size (Obj.mapSeq (·++vs.toArray)) }
 refine zZ (wpAny_load (get?_update_seq (yZ _ rfl) _) ?_)
 show wpAny _ _ (pure ((#[]:Array Value)++vs.toArray).toList) Q E _
 rw[show((#[]:Array Value)++vs.toArray).toList=vs by simp]
 exact zY h
theorem sorted_tups {l:Addr}{vs:List Value}{ns:List Str}{Q:Value→Shared→Prop}(hl:s.heap.IsList l vs.toArray∨s.heap.IsTuple l vs.toArray) (t:TupsN s.heap vs ns) (nd:ns.Nodup) (h64:vs.length < 64)
   (h:∀p:List Nat,p.Perm (List.range vs.length)→(∀i j,i < j→j < vs.length→(ns.getD (p.getD i 0) "").cps.toList < (ns.getD (p.getD j 0) "").cps.toList) →
     Q (.ref (s.heap.objs.size+1)) { s with heap:=sortedAll s.heap vs (p.map fun i=>vs.getD i Value.none).toArray }) :
   wpAny (model prog w) A (call (.builtin "sorted") [.ref l]) Q E s:=by
 refine Calls.call_function_entry kind_sorted plain_sorted entry_sorted (args_sorted1 _) ?_
 unfold Builtin.«sorted»;refine zZ (m:=checkCount "sorted" 1 1 _) (zY (zZ (collect_seq hl (zZ (wpAny_newList ?_ (by rw[sizeLine_eq];omega))) (by rw[sizeLine_eq];omega))))
 generalize hH:(s.heap.push (seqObj "list" #[] 0)).update s.heap.objs.size (Obj.mapSeq (·++vs.toArray))=H1
 have hsz:H1.objs.size=s.heap.objs.size+1:=by rw[← hH,Heap.size_update,size_push']
 have old:∀b o,s.heap.get? b=some o→(H1.push (seqObj "list" vs.toArray 0)).get? b=some o:=fun b o q=>by
   refine zW _ ?_
   rw[← hH,yB _ _ _ _ (zC (zM q))]
   exact zW _ q
 have hoL:(H1.push (seqObj "list" vs.toArray 0)).get? (s.heap.objs.size+1)=some (seqObj "list" vs.toArray 0):=by
   rw[← hsz];exact yZ _ rfl
 show wpAny _ _ _ _ _ { s with heap:=H1.push (seqObj "list" vs.toArray 0) }
 rw[hsz]
 refine zZ (wpAny_holding (wpAny_call_entry slot_list_sort ⟨_,hoL,rfl⟩ entry_list_sort (list_sort_tups hoL (t.keep fun b o _ q=>old b o q) nd h64 fun p a1 a2=>⟨_,rfl,?_⟩) (args_list_sort _)))
 have:=h p a1 a2
 unfold sortedAll at this
 rw[hH] at this
 exact zY ⟨_,rfl,this⟩
theorem sorted_dict {d:Addr}{kvs:List (Key×Value)}{ss:List Str}{Q:Value→Shared→Prop}(hh:A.handled=none) (hd:(d==sysModules)=false) (dd:s.heap.DictOf (mixKind prog w) d kvs) (hk:kvs.map (·.1)=ss.map Sum.inr) (h64:ss.length < 64)
   (h:∀(h1 h':Heap) (tk:Nat) (out:List Value) (e:Nat) (ss':List Str),(∀b o,s.heap.get? b=some o→h1.get? b=some o)→(∀b o,h1.get? b=some o→h'.get? b=some o)→h'.get? h1.objs.size=some (seqObj "list" out.toArray e)→StrsAre out ss'→ss'.Perm ss→sortedS ss'=true→Q (.ref h1.objs.size) { s with heap:=h',toks:=tk }) :
   wpAny (model prog w) A (call (.builtin "sorted") [.ref d]) Q E s:=by
 refine Calls.call_function_entry kind_sorted plain_sorted entry_sorted (args_sorted1 _) ?_
 obtain⟨ep,hat⟩:=dd.dictAt
 have hlen:kvs.length=ss.length:=by have:=congrArg List.length hk;simpa using this
 unfold Builtin.«sorted»;refine zZ (m:=checkCount "sorted" 1 1 _) (zY (zZ (kdu_collect (A:=A.in1) (kdl_dict (kvs:=kvs) (ep:=ep) hd) hh hat (by rw[hlen,sizeLine_eq];omega) fun h' tk acc hold hacc=>?_)))
 have hl:acc.toList.length=ss.length:=by rw[Array.length_toList,hacc.1,hlen]
 have hS:StrsAre acc.toList ss:=by
   have go:∀(vs:List Value) (zs:List Str),vs.length=zs.length→(∀(i:Nat) v x,vs[i]?=some v→zs[i]?=some x→∃t,v=Value.str x t)→StrsAre vs zs:=by
     intro vs
     induction vs with
     | nil=>intro zs hz _;cases zs with
       | nil=>exact .nil
       | cons _ _=>simp at hz
     | cons v vs ih=>intro zs hz hv;cases zs with
       | nil=>simp at hz
       | cons x zs=>
         obtain⟨t,rfl⟩:=hv 0 v x rfl rfl
         exact .cons x t (ih zs (by simpa using hz) fun i v x e1 e2=>hv (i+1) v x (by simpa using e1) (by simpa using e2))
   refine go _ _ hl fun i v x e1 e2=>?_
   obtain⟨k,y,g1,g2⟩:=hacc.2 i v (by rw[← Array.getElem?_toList];exact e1)
   have e3:(kvs.map (·.1))[i]?=some k:=by rw[zF,g1];rfl
   rw[hk,zF,e2] at e3
   cases e3
   have g2':keyIs (.inr x) v=true:=g2
   rcases keyIs_shape g2' with ⟨i,t,e,_⟩ | ⟨z,t,e,e'⟩
   · cases e
   · cases e;exact⟨t,e'⟩
 refine zZ (wpAny_newList ?_ (by rw[hl,sizeLine_eq];omega))
 have hoL:(h'.push (seqObj "list" acc.toList.toArray 0)).get? h'.objs.size=some (seqObj "list" acc.toList.toArray 0):=yZ _ rfl
 show wpAny _ _ _ _ _ { s with heap:=h'.push (seqObj "list" acc.toList.toArray 0),toks:=tk }
 refine zZ (wpAny_holding (wpAny_call_entry (s:={ s with heap:=h'.push (seqObj "list" acc.toList.toArray 0),toks:=tk }) slot_list_sort ⟨_,hoL,rfl⟩ entry_list_sort (list_sort_treeK strKind_oneLt hoL hS.keysOf (fun v₁ v₂ rest e=>keyKind_strs (by rw[← e];exact hS)) (by rw[hl];exact h64) fun st' hp hs=>⟨_,rfl,?_⟩) (args_list_sort _)))
 obtain⟨ss',h1,h2,h3⟩:=sorted_out_str hS hp hs
 obtain⟨e,he⟩:=sortedHeap_at (out:=(arrOf st').map (·.2)) hoL
 refine zY ⟨_,rfl,h h' _ tk ((arrOf st').map (·.2)).toList e ss' hold (fun b o q=>?_) (by rw[Array.toArray_toList];exact he) h1 h2 h3⟩
 have lt:b < h'.objs.size:=zM q
 rw[sortedHeap_old (zC lt) (by rw[size_push'];exact Nat.lt_succ_of_lt lt)]
 exact zW _ q
end
end L2
namespace L2
open PySem PySem.Spec PyProof.Rows
theorem codeAny_compLoop_goD {prog:Program}{w:World}{A:Around}{R:Result→Shared→Prop}{s:Shared}{kx vx target iter:Expr}{ifs:List Expr}{scope:Scope}{pos:Pos}{it:Value}{D:Addr}{env:Env}(I:Nat→Shared→Prop)
   (turn:∀n s,I n s→wpAny (model prog w) A (pyNext it) (fun r s₁=>match r with
     | none=>R (.ok .next) s₁
     | some v=>wpAny (model prog w) A (letOwnedTupleGo target it v) (fun _ s₀=>wpAny (model prog w) A (assign target env v) (fun _ s₂=>
         wpAny (model prog w) A (compTestsT ifs env) (fun ok s₃=>
           if ok=true then wpAny (model prog w) A (eval kx env) (fun kv s₄=>wpAny (model prog w) A (eval vx env) (fun vv s₅=>
             wpAny (model prog w) A (dictSet D kv vv) (fun _ s₆=>∃m,m < n∧I m s₆) (fun _ _=>False) s₅) (fun _ _=>False) s₄) (fun _ _=>False) s₃
           else ∃m,m < n∧I m s₃) (fun _ _=>False) s₂) (fun _ _=>False) s₀) (fun _ _=>False) s₁) (fun _ _=>False) s)
   (n:Nat) (h:I n s) :
   codeAny (model prog w) A (.compLoop (.DictComp kx vx [⟨target,iter,ifs,0⟩] scope pos) 0 it (.ref D) env) R s:=by
 refine codeAny_loop rfl I (fun n s hI=>?_) n h
 show wpAny _ A ((compTurn (.DictComp kx vx [⟨target,iter,ifs,0⟩] scope pos) 0 it (.ref D) env).onRaise (fun x=>do noteFrame x env;theTreesLotGoes x)) _ _ s
 refine wpAny_noted ?_
 rw[compTurn_dict]
 refine zZ (wpAny_standAt (zZ (wpAny_mono (wpAny_noex (turn n s hI)) (fun r s₁ h₁=>?_) fun _ _ h'=>h')))
 cases r with
 | none=>exact zY h₁
 | some v=>
   refine zZ (wpAny_mono (wpAny_noex h₁) (fun _ s₀ h₀=>?_) fun _ _ h'=>h')
   refine zZ (wpAny_mono (wpAny_noex h₀) (fun _ s₂ h₂=>zZ (wpAny_mono (wpAny_noex h₂) (fun ok s₃ h₃=>?_) fun _ _ h'=>h')) fun _ _ h'=>h')
   cases ok with
   | false=>exact zY ⟨rfl,h₃⟩
   | true=>
     exact zZ (zZ (wpAny_mono (wpAny_noex h₃) (fun kv s₄ h₄=>zZ (wpAny_holding (wpAny_mono (wpAny_noex h₄) (fun vv s₅ h₅=>zZ (wpAny_standAt (wpAny_holding (wpAny_mono (wpAny_noex h₅) (fun _ s₆ h₆=>zY ⟨rfl,h₆⟩) fun _ _ h'=>h')))) fun _ _ h'=>h'))) fun _ _ h'=>h'))
theorem dk_set {X:Cx}{pins:List (Addr×Obj)}{σ:St}{H:Hp}{s:Shared}{a:Addr}{kvs:List (Key×V)}{k:Key}{v:V}{u r:Value}{A:Around}{E:Value→Shared→Prop}{Q:Unit→Shared→Prop}
   (I:Inv X pins σ H s) (e:H a=some (.dK kvs)) (l:kvs.length < sizeLine) (ry:RelV (kV k) u) (rv:RelV v r) (h:∀s',Inv X pins σ (upd H a (.dK (putK kvs k v))) s'→Q () s'):wpAny (model X.prog X.w) A (dictSet a u r) Q E s:=by
 obtain⟨z,hd,vs,rel,dd⟩:=dk_of I.hok e
 have hz:vs.length≤sizeLine:=by rw[← rel.length];exact z
 have hl:(putK kvs k v).length≤sizeLine:=by have:=length_putK kvs k v;omega
 refine wpAny_dictSet_pairs (hsz:=hz) (kV_is ry) dd fun h' dd' hs=>h _ ?_
 have he:∃q,h'.get? a=some q:=let ⟨q,_,_,hq,_⟩:=dd';⟨q,hq⟩
 exact d_write I (by rw[e];exact True.intro) hs he (dk_new hl hd (rel.put k rv) dd')
def tDComp (fr:List (Option Nat)) (wi:TI) (g:TG) (tt:TT) (tk tv:TE):TE:=fun σ H Q=>wi σ H fun J H1=>∀D,H1 D=none→∃W:Nat→Nat→List (Key×V)→Hp→Prop,(∃m,W 0 m [] (upd H1 D (.dK []))) ∧
 ∀i m ys H2,W i m ys H2→H2 D=some (.dK ys)∧((J.stop i H2∧Q (.ref D) H2)∨(J.go i H2∧∀x H3,J.yld i H2 x H3→g x (capt fr σ) H3 fun σ2 H4=>
   (∀(i:Nat) v,(capt fr σ)[i]?=some (some v)→σ2[i]?=some (some v))∧tt σ2 H4 fun c H5=>if c=true then tk σ2 H5 fun x H6=>tv σ2 H6 fun y H7=>∃ys' k,x=kV k∧H7 D=some (.dK ys')∧ys'.length < sizeLine∧∃m',m' < m∧W (i+1) m' (putK ys' k y) (upd H7 D (.dK (putK ys' k y)))
     else ∃ys' m',m' < m∧W (i+1) m' ys' H5))
section
variable {X:Cx}{scope:Scope}{NC:List Str}{fr:List (Option Nat)}{pins:List (Addr×Obj)}{σ:St}{H:Hp}{s:Shared}
theorem comp_runD {kx vx iter tg:Expr}{ifs:List Expr}{pos cpos:Pos}{wi:TI}{g:TG}{tt:TT}{tk tv:TE}{use:Option (Value→Sem Unit)}{Q:VK}{QQ:Value→Shared→Prop}
   (hc:X.calm=true) (S:CSc X scope NC fr) (hi:PI X tg iter wi)
   (hb:∀(C:Addr) (s:Shared) (H:Hp) (ex:List Addr) (pn:List (Addr×Obj)),PG (compCx X scope NC C s H ex pn) tg g∧PTs (compCx X scope NC C s H ex pn) ifs tt∧PE (compCx X scope NC C s H ex pn) kx tk∧PE (compCx X scope NC C s H ex pn) vx tv)
   (I:Inv X pins σ H s) (hu:X.A.units+1 < cLine) (h:tDComp fr wi g tt tk tv σ H Q)
   (fin:∀(D C:Addr) (H':Hp) (s':Shared) (m:Str→Option Value) (oC:Obj),Inv X (pins++[(C,oC)]) σ H' s'→s'.heap.Ns C m→Q (.ref D) H' →
     (∀(pins':List (Addr×Obj)) (σ2:St) (H2:Hp) (s2:Shared) (h2:Heap),Inv X (pins++[(C,oC)]) σ2 H2 s2→Heap.SameBut C s2.heap h2→Inv X pins σ2 H2 { s2 with heap:=h2 }) →
     s'.heap.get? C=some oC →
     match use with
     | none=>∀h',Heap.SameBut C s'.heap h'→QQ (.ref D) { s' with heap:=h' }
     | some u=>wpAny (model X.prog X.w) X.A (u (.ref D)) (fun _ s''=>∃m,s''.heap.Ns C m∧∀h',Heap.SameBut C s''.heap h'→QQ .none { s'' with heap:=h' }) X.xe s')
   (hs:∀x,foldedSetIterable iter X.env x=pure x) :
   wpAny (model X.prog X.w) X.A (comprehension (.DictComp kx vx [⟨tg,iter,ifs,0⟩] scope pos) scope X.env cpos newDict false (eval iter X.env) use) QQ X.xe s:=by
 refine wpAny_comprehension_free (use:=use) rfl hs (clos_of (S.has I.ok)) S.kind S.names (thn (hi pins s σ H _ I h) fun v s1 h1=>thn h1 fun itv s2 h2=>?_)
 obtain⟨it,fp,tn,J,H2,e,I2,T,st2,f2,hq⟩:=h2
 subst e
 have hDn:H2 s2.heap.objs.size=none:=I2.hok.fresh (zR _)
 obtain⟨W,⟨m0,w0⟩,turn⟩:=hq s2.heap.objs.size hDn
 refine xM (wpAny_newFunctionEnv S.nocell (by intro y hy;simp at hy) (fun h₁ hns₁ hsb₁=>?_) S.kind)
 dsimp only at hns₁ hsb₁ ⊢
 generalize hs3:({ s2 with heap:=s2.heap.push { cls:=.type "dict", dict:=none,data:=.dict #[] } }:Shared)=s3
 have hh3:s2.heap.push { cls:=.type "dict", dict:=none,data:=.dict #[] }=s3.heap:=by rw[← hs3]
 have I3:Inv X pins σ (upd H2 s2.heap.objs.size (.dK [])) s3:=by
   rw[← hs3]
   refine I2.laid (t':=s2.toks) (fun b u e=>zW _ e) (zR _) ?_
   exact dk_empty s2.heap I2.big
 rw[hh3] at hns₁ hsb₁ ⊢
 have sz3:s3.heap.objs.size=s2.heap.objs.size+1:=by rw[← hh3,Heap.size_push]
 have lt2:∀b∈fp,b < s2.heap.objs.size:=fun b hb=>by
   obtain⟨o,e,_⟩:=T.obj _ _ st2 b hb
   exact zM e
 have lt3:∀b∈fp,b < s3.heap.objs.size:=fun b hb=>by rw[sz3];exact Nat.lt_succ_of_lt (lt2 b hb)
 have f3:∀b∈fp,FpOk X pins (upd H2 s2.heap.objs.size (.dK [])) b:=fun b hb=>⟨by rw[upd_ne (zC (lt2 b hb))];exact(f2 b hb).1,(f2 b hb).2⟩
 have keep1:∀b o,s3.heap.get? b=some o→h₁.get? b=some o:=fun b o e=>hsb₁.extBut b o (zC (zM e)) (zW _ e)
 generalize hC:s3.heap.objs.size=C at hns₁ hsb₁ ⊢
 have I0:Inv (compCx X scope NC C s3 (upd H2 s2.heap.objs.size (.dK [])) fp (X.pn++pins)) [] (capt fr σ) (upd H2 s2.heap.objs.size (.dK [])) { s2 with heap:=h₁,toks:=s2.toks+([]:List (Str×Value)).length }:=by
   have:=comp_start (tk:=s2.toks+([]:List (Str×Value)).length) (h1:=h₁) S I3 f3 lt3 (hC▸hns₁) keep1
   rw[hC] at this
   rw[← hs3] at this
   rw[← hs3]
   exact this
 obtain⟨hbg,hbt,hbk,hbv⟩:=hb C s3 (upd H2 s2.heap.objs.size (.dK [])) fp (X.pn++pins)
 generalize hX':compCx X scope NC C s3 (upd H2 s2.heap.objs.size (.dK [])) fp (X.pn++pins)=X' at I0 hbg hbt hbk hbv
 have eP:X'.prog=X.prog:=by rw[← hX'];rfl
 have eW:X'.w=X.w:=by rw[← hX'];rfl
 have eK:X'.K=X.K:=by rw[← hX'];rfl
 have eA:X'.A=X.A:=by rw[← hX'];rfl
 have eE:X'.env=compEnvC scope (clOf X.env.cells scope.names []) C X.env:=by rw[← hX'];rfl
 have eX:X'.xe=fun _ _=>False:=by rw[← hX'];rfl
 have ec:X'.calm=true:=by rw[← hX'];exact hc
 have stat:∀{H':Hp},(∀b∈fp,H' b=none)→∀b∈fp,FpOk X' [] H' b:=fun {H'} hn b hb=>by
   obtain⟨q1,q2,q3,q4,q5,q6⟩:=f3 b hb
   rw[← hX']
   exact⟨hn b hb,by show b≠C;rw[← hC];exact zC (lt3 b hb),fun z=>(yX.mp (I3.stkSub b z)).elim q2 q3,.inl hb,fun x c e=>q5 x c (lookup_clOf e),fun p hp=>q6 p (by rw[List.append_nil] at hp;exact hp)⟩
 have ends:∀(i m:Nat) (ys:List (Key×V)) (H':Hp) (s':Shared),Inv X' [] (capt fr σ) H' s'→Q (.ref s2.heap.objs.size) H' →
     compPost (model X.prog X.w) X.A X.xe use QQ (.ref s2.heap.objs.size) C (.ok .next) s':=by
   intro i m ys H' s' I' q'
   have eC:X'.env.locals=C:=by rw[eE];rfl
   obtain⟨mC,hnC,_⟩:=I'.loc
   rw[eC] at hnC
   have hCn:H' C=none:=by have:=I'.free;rw[eC] at this;exact this
   have un:Un (frs X.stack) fp (upd H2 s2.heap.objs.size (.dK [])) H' s3.heap s'.heap:=by
     have:=I'.base
     rw[← hX'] at this
     exact this
   have os':s'.os=s3.os:=by have:=I'.os;rw[← hX'] at this;exact this
   have hok':HOk X.prog X.w H' s'.heap:=by have:=I'.hok;rw[eP,eW] at this;exact this
   have Iout:Inv X pins σ H' s':=I3.call' (ch:=fp) os' un hok' I'.bare fun b hb=>⟨(f3 b hb).2.2.2.1,(f3 b hb).2.1,(f3 b hb).2.2.2.2.1,(f3 b hb).2.2.2.2.2⟩
   have C1:C≠X.env.locals:=by rw[← hC];exact Nat.ne_of_gt I3.lt
   have C2:C∉X.fs:=by rw[← hC];exact I3.nofs (zR _)
   have C3:X.s₀.heap.objs.size≤C:=by rw[← hC];exact I3.sz
   have C4:∀x c,X.env.cells.lookup x=some c→c≠C:=fun x c e z=>by
     obtain⟨v,q⟩:=I3.cell x c e
     rw[z,← hC] at q
     exact absurd q.lt (yF _)
   have C5:∀p∈X.pn++pins,p.1≠C:=fun p hp z=>by
     have:=zM (I3.pin p hp).1
     rw[z,← hC] at this
     exact absurd this (yF _)
   obtain⟨oC,esC,epC,hoC,hdC,hrC⟩:=id hnC
   have Ipin:Inv X (pins++[(C,oC)]) σ H' s':=Iout.pins_of fun p hp=>(yW.mp hp).elim (fun z=>Iout.pin p (zB _ z)) fun z=>by
     have e:p=(C,oC):=by simpa using z
     subst e
     exact⟨hoC,hCn,C1,C2,fun v z=>by rw[hdC] at z;cases z⟩
   have res:=fin s2.heap.objs.size C H' s' mC oC Ipin hnC q' (fun _ σ2 H3 s4 h4 I4 sb=>by
     have J4:Inv X pins σ2 H3 s4:=I4.unpinned
     have hn4:H3 C=none:=(I4.pin (C,oC) (zB _ (zB _ (by simp)))).2.1
     exact J4.turned (t':=s4.toks) (it:=C) (fun b o hb e=>sb.extBut b o hb e) hn4 C1 (.inr C3) C4 C5) hoC
   cases use with
   | none=>exact⟨mC,hnC,res⟩
   | some u=>exact res
 have loop:∀s':Shared,s'={ s2 with heap:=h₁,toks:=s2.toks+([]:List (Str×Value)).length } →
     codeAny (model X.prog X.w) X.A (.compLoop (.DictComp kx vx [⟨tg,iter,ifs,0⟩] scope pos) 0 (.ref it) (.ref s2.heap.objs.size) (compEnvC scope (clOf X.env.cells scope.names []) C X.env))
       (compPost (model X.prog X.w) X.A X.xe use QQ (.ref s2.heap.objs.size) C) s':=by
   rintro s' rfl
   refine codeAny_compLoop_goD (fun n s'=>∃i ys H',Inv X' [] (capt fr σ) H' s'∧tn i s'.heap∧(∀b∈fp,H' b=none)∧W i n ys H') ?_ m0
     ⟨0,[],_,I0,T.keep _ _ _ st2 (fun b hb o e=>keep1 b o (by rw[← hh3];exact zW _ e)),fun b hb=>(f3 b hb).1,w0⟩
   rintro n s5 ⟨i,ys,H5,I5,st5,fr5,w5⟩
   obtain⟨hD5,hturn⟩:=turn i n ys H5 w5
   rcases hturn with ⟨stop,qn⟩ | ⟨go,step⟩
   · have:=T.done X' eP eW eK ec i [] s5 (capt fr σ) H5 (fun _ _=>False) I5 (stat fr5) st5 stop
     rw[eA] at this
     refine thn this fun r s6 ⟨hr,I6⟩=>?_
     subst hr
     exact ends i n ys H5 s6 I6 qn
   · have:=T.item X' eP eW eK ec i [] s5 (capt fr σ) H5 (fun _ _=>False) I5 (stat fr5) st5 go
     rw[eA] at this
     refine thn this fun r s6 ⟨u,hr,h6⟩=>?_
     subst hr
     refine thn h6 fun _ s7 ⟨x,H7,I7,r7,y7,st7,fr7⟩=>?_
     have I7':=I7.pinned (stat fr7) (T.obj _ _ st7)
     have hg1:=hbg _ s7 (capt fr σ) H7 x u _ I7' r7 (step x H7 y7)
     rw[eP,eW,eA,eE,eX] at hg1
     refine thn hg1 fun _ s8 ⟨σ8,H8,I8,ext8,q8⟩=>?_
     have ht1:=hbt _ s8 σ8 H8 _ I8 q8
     rw[eP,eW,eA,eE,eX] at ht1
     refine thn ht1 fun ok s9 ⟨H9,I9,q9⟩=>?_
     have weak:∀{H':Hp}{s':Shared},Inv X' ([]++pinsAt fp s7.heap) σ8 H' s'→Inv X' [] (capt fr σ) H' s'∧tn (i+1) s'.heap∧∀b∈fp,H' b=none:=fun {H' s'} I'=>by
       refine⟨I'.unpinned.weak (by rw[I'.len];rw[I0.len]) ext8,T.keep _ _ _ st7 fun b hb o e=>(I'.pin (b,o) (zB _ (zB _ (mem_pinsAt hb e)))).1,fun b hb=>?_⟩
       obtain⟨o,e,d⟩:=T.obj _ _ st7 b hb
       exact(I'.pin (b,o) (zB _ (zB _ (mem_pinsAt hb e)))).2.1
     cases ok with
     | false=>
       rw[if_neg nft] at q9
       obtain⟨ys',m',hm',w'⟩:=q9
       obtain⟨a1,a2,a3⟩:=weak I9
       exact⟨m',hm',i+1,ys',H9,a1,a2,a3,w'⟩
     | true=>
       rw[if_pos rfl] at q9
       have he1:=hbk _ s9 σ8 H9 _ I9 q9
       rw[eP,eW,eA,eE,eX] at he1
       refine thn he1 fun yk s10 ⟨kv,H10,I10,r10,q10⟩=>?_
       have he2:=hbv _ s10 σ8 H10 _ I10 q10
       rw[eP,eW,eA,eE,eX] at he2
       refine thn he2 fun yv s11 ⟨vv,H11,I11,r11,ys',k,ek,hD11,hsz,m',hm',w'⟩=>?_
       subst ek
       have hset:=dk_set (A:=X'.A) (E:=X'.xe) (Q:=fun _ s'=>∃m'',m'' < n∧∃i ys H',Inv X' [] (capt fr σ) H' s'∧tn i s'.heap∧(∀b∈fp,H' b=none)∧W i m'' ys H') I11 hD11 hsz r10 r11 fun s' I'=>by
         obtain⟨a1,a2,a3⟩:=weak I'
         exact⟨m',hm',i+1,_,_,a1,a2,a3,w'⟩
       rw[eP,eW,eA,eX] at hset
       exact hset
 refine codeAny_compStart_dict (loop _ rfl) (T.self _ 0 _ _ _ ?_ (loop _ rfl))
 exact T.keep _ _ _ st2 (fun b hb o e=>keep1 b o (by rw[← hh3];exact zW _ e))
theorem pe_dcomp {kx vx iter tg:Expr}{ifs:List Expr}{pos:Pos}{wi:TI}{g:TG}{tt:TT}{tk tv:TE}(hc:X.calm=true) (hu:X.A.units+1 < cLine) (S:CSc X scope NC fr) (hi:PI X tg iter wi)
   (hb:∀(C:Addr) (s:Shared) (H:Hp) (ex:List Addr) (pn:List (Addr×Obj)),PG (compCx X scope NC C s H ex pn) tg g∧PTs (compCx X scope NC C s H ex pn) ifs tt∧PE (compCx X scope NC C s H ex pn) kx tk∧PE (compCx X scope NC C s H ex pn) vx tv)
   (hs:∀x,foldedSetIterable iter X.env x=pure x:=by intro _;rfl):PE X (.DictComp kx vx [⟨tg,iter,ifs,0⟩] scope pos) (tDComp fr wi g tt tk tv):=by
 intro pins s σ H Q I h
 rw[arm_eval_DictComp]
 refine comp_runD (use:=none) (Q:=Q) hc S hi hb I hu h (fun D C H' s' m oC I' hn q back _ h' sb=>?_) hs
 exact⟨.ref D,H',back pins σ H' s' h' I' sb,rfl,q⟩
end
end L2
namespace L2
open PySem PySem.Spec PyProof.Rows PySem.W
def rSortT (K:Frg):List V→Hp→VK→Prop:=fun xs H Q=>∃(p:Addr) (es:List (Addr×Str×List V)),xs=[.ref p]∧(SqL K H p (es.map fun e=>V.ref e.1)∨SqT K H p (es.map fun e=>V.ref e.1))∧(∀e∈es,SqT K H e.1 (.str e.2.1::e.2.2))∧(es.map fun e=>e.2.1).Nodup∧es.length < 64 ∧
 ∀(es':List (Addr×Str×List V)) (q:Addr),es'.Perm es→es'.Pairwise (fun x y=>x.2.1.cps.toList < y.2.1.cps.toList)→H q=none→Q (.ref q) (upd H q (.lst (es'.map fun e=>V.ref e.1)))
def rSortD:List V→Hp→VK→Prop:=fun xs H Q=>∃(p:Addr) (kvs:List (Key×V)) (ss:List Str),xs=[.ref p]∧Rd H p (.dK kvs)∧kvs.map (·.1)=ss.map Sum.inr∧ss.length < 64 ∧
 ∀(ss':List Str) (q:Addr),ss'.Perm ss→sortedS ss'=true→H q=none→Q (.ref q) (upd H q (.lst (ss'.map V.str)))
def rSortA (K:Frg):List V→Hp→VK→Prop:=fun xs H Q=>rSortS K xs H Q∨rSortT K xs H Q∨rSortD xs H Q
section
variable {X:Cx}
theorem vals_refs:∀{es:List (Addr×Str×List V)}{its:List Value},Vals (es.map fun e=>V.ref e.1) its→its=es.map fun e=>Value.ref e.1
 | [],_,.nil=>rfl
 | _::_,_,.cons r t=>by rw[vals_refs t];cases r;rfl
theorem refs_vals:∀{es:List (Addr×Str×List V)},Vals (es.map fun e=>V.ref e.1) (es.map fun e=>Value.ref e.1)
 | []=>.nil
 | _::_=>.cons rfl refs_vals
theorem call_sortT:CallR X (.builtin "sorted") (rSortT X.K):=by
 intro pins s σ H xs us Q I r h
 obtain⟨p,es,rfl,hp,ht,nd,h64,q⟩:=h
 obtain⟨u,rfl,ru⟩:=vals1 r
 cases ru
 obtain⟨its,rv,pl⟩:∃its:List Value,Vals (es.map fun e=>V.ref e.1) its∧(s.heap.IsList p its.toArray∨s.heap.IsTuple p its.toArray):=by
   rcases hp with hp | hp
   · obtain⟨its,rv,pl,_⟩:=I.list hp
     exact⟨its,rv,.inl pl.isList⟩
   · obtain⟨its,rv,pl,_⟩:=I.tuple hp
     exact⟨its,rv,.inr pl⟩
 have ei:=vals_refs rv
 subst ei
 have tn:TupsN s.heap (es.map fun e=>Value.ref e.1) (es.map fun e=>e.2.1):=by
   refine⟨by simp,fun i v nm e1 e2=>?_⟩
   rw[zF] at e1 e2
   cases he:es[i]? with
   | none=>rw[he] at e1;cases e1
   | some e=>
     rw[he] at e1 e2
     cases e1
     cases e2
     obtain⟨js,rj,⟨o,ho,hc,n,hd⟩,_⟩:=I.tuple (ht e (yN he))
     cases rj with
     | cons r0 _=>
       obtain⟨t,rfl⟩:=r0
       exact⟨e.1,o,_,n,t,rfl,ho,hc,hd,by simp⟩
 refine sorted_tups pl tn nd (by simpa using h64) fun pm h1 h2=>?_
 simp only[zX] at h1 h2
 obtain⟨e,he⟩:=sortedAll_at s.heap (es.map fun e=>Value.ref e.1) (pm.map fun i=>(es.map fun e=>Value.ref e.1).getD i Value.none).toArray
 have hn:H (s.heap.objs.size+1)=none:=I.hok.fresh (Nat.le_succ _)
 obtain⟨es',he'⟩:∃es':List (Addr×Str×List V),es'=pm.filterMap fun i=>es[i]?:=⟨_,rfl⟩
 have hin:∀i∈pm,i < es.length:=fun i hi=>List.mem_range.mp (h1.mem_iff.mp hi)
 have emap:∀(l:List Nat),(∀i∈l,i < es.length)→(l.filterMap fun i=>es[i]?)=l.attach.map fun i=>es.getD i.1 (0, "", []):=fun l=>by
   intro hl
   induction l with
   | nil=>rfl
   | cons a l ih=>
     have ha:=hl a (by simp)
     rw[List.filterMap_cons,zV ha]
     simp only[List.attach_cons,zI,zD]
     rw[ih fun i hi=>hl i (yV _ hi)]
     simp[yU,zV ha]
 have emap':es'=pm.map fun i=>es.getD i (0, "", []):=by
   rw[he',emap pm hin]
   simp
 have perm:es'.Perm es:=by
   rw[he']
   refine(h1.filterMap _).trans ?_
   rw[show((List.range es.length).filterMap fun i=>es[i]?)=es from ?_]
   apply List.ext_getElem?
   intro i
   have:((List.range es.length).filterMap fun i=>es[i]?)=(List.range es.length).map fun i=>es.getD i (0, "", []):=by
     rw[emap _ fun i hi=>List.mem_range.mp hi]
     simp
   rw[this,zF]
   by_cases hi:i < es.length
   · rw[yA hi]
     simp[hi]
   · rw[List.getElem?_eq_none (by simp;omega),List.getElem?_eq_none (by omega)]
     rfl
 have outs:(pm.map fun i=>(es.map fun e=>Value.ref e.1).getD i Value.none)=es'.map fun e=>Value.ref e.1:=by
   rw[emap',zD]
   apply yM
   intro i hi
   have hi:=hin i hi
   simp[yU,zF,zV hi]
 have lenp:pm.length=es.length:=by have:=h1.length_eq;simpa using this
 have srt:es'.Pairwise (fun x y=>x.2.1.cps.toList < y.2.1.cps.toList):=by
   rw[emap',List.pairwise_map,List.pairwise_iff_getElem]
   intro i j hi hj hij
   have:=h2 i j hij (by omega)
   have g:∀k (hk:k < pm.length),(es.map fun e=>e.2.1).getD (pm.getD k 0) (Str.ofString "")=(es.getD pm[k] (0, "", [])).2.1:=fun k hk=>by
     have hk':=hin pm[k] (List.getElem_mem hk)
     rw[yU (l:=pm),zV hk]
     simp[yU,zF,zV hk']
   rw[g i hi,g j hj] at this
   exact this
 rw[outs] at he ⊢
 refine⟨.ref (s.heap.objs.size+1),_,I.laid (t':=s.toks) (o:=.lst (es'.map fun e=>V.ref e.1)) (fun b o eb=>sortedAll_old eb) (Nat.le_succ _) ?_,rfl,q es' _ perm srt hn⟩
 refine⟨by rw[zX,perm.length_eq];exact zN (xR h64) (by decide),es'.map fun e=>Value.ref e.1,e,refs_vals,?_⟩
 have he':=he
 simpa [seqObj] using he'
theorem call_sortD (hc:X.calm=true):CallR X (.builtin "sorted") rSortD:=by
 intro pins s σ H xs us Q I r h
 obtain⟨p,kvs,ss,rfl,hp,hk,h64,q⟩:=h
 obtain⟨u,rfl,ru⟩:=vals1 r
 cases ru
 obtain⟨z,hd,vs,rel,dd⟩:=dk_rd I.hok hp
 have hk':vs.map (·.1)=ss.map Sum.inr:=by
   rw[← hk]
   clear hk dd z hp q
   unfold KV at rel
   induction rel with
   | nil=>rfl
   | cons h t ih=>simp[h.1,ih]
 refine sorted_dict (I.ok.hd hc) hd dd hk' h64 fun h1 h' tk out e ss' k1 k2 ho hS hperm hsort=>?_
 have I1:Inv X pins σ H { s with heap:=h1,toks:=tk }:=I.kept k1
 have hn:H h1.objs.size=none:=I1.hok.fresh (zR _)
 refine⟨.ref h1.objs.size,_,I1.laid (t':=tk) (o:=.lst (ss'.map V.str)) (h':=h') k2 (zR _) ?_,rfl,q ss' _ hperm hsort hn⟩
 refine⟨by rw[zX,hperm.length_eq];exact zN (xR h64) (by decide),out,e,strsV hS,?_⟩
 simpa [seqObj] using ho
theorem call_sortA (hc:X.calm=true):CallR X (.builtin "sorted") (rSortA X.K):=by
 intro pins s σ H xs us Q I r h
 rcases h with h | h | h
 · exact call_sortS pins s σ H xs us Q I r h
 · exact call_sortT pins s σ H xs us Q I r h
 · exact call_sortD hc pins s σ H xs us Q I r h
end
end L2
namespace DL
open PySem PySem.Spec L2
def tdict (ts:List (Str×PyData)):List (PyData×PyData):=ts.map fun t=>(PyData.str t.1,t.2)
def putS (ts:List (Str×PyData)) (k:Str) (d:PyData):List (Str×PyData):=
 if (ts.any fun t=>decide (t.1=k))=true then ts.map (fun t=>if t.1=k then (t.1,d) else t) else ts++[(k,d)]
def lookS:List (Str×PyData)→Str→Option PyData
 | [],_=>none
 | t::r,k=>if t.1=k then some t.2 else lookS r k
section
variable {K:Frg}{H:Hp}{W:Addr→Prop}
theorem dkv_cons {t:Str×PyData}{ts:List (Str×PyData)}{ks:List (Key×V)}:DKV K H W (tdict (t::ts)) ks↔∃v r,ks=(Sum.inr t.1,v)::r∧DV K H W t.2 v∧DKV K H W (tdict ts) r:=by
 unfold tdict
 rw[zI]
 constructor
 · intro h
   unfold DKV at h
   obtain⟨k',v,r,e,e2,h1,h2⟩:=h
   cases k' with
   | inl i=>cases e2
   | inr x=>
     have e3:t.1=x:=by simpa [keyD] using e2
     subst e3
     exact⟨v,r,e,h1,h2⟩
 · rintro⟨v,r,e,h1,h2⟩
   unfold DKV
   exact⟨Sum.inr t.1,v,r,e,rfl,h1,h2⟩
theorem dkv_nil {ks:List (Key×V)}:DKV K H W (tdict []) ks↔ks=[]:=by unfold tdict;simp only[List.map_nil];unfold DKV;exact Iff.rfl
theorem dkv_any {k:Str}:∀{ts:List (Str×PyData)}{ks:List (Key×V)},DKV K H W (tdict ts) ks→(ks.any fun kv=>decide (kv.1=Sum.inr k))=ts.any fun t=>decide (t.1=k)
 | [],ks,h=>by rw[dkv_nil.mp h];rfl
 | t::ts,ks,h=>by
   obtain⟨v,r,rfl,_,h2⟩:=dkv_cons.mp h
   rw[List.any_cons,List.any_cons,dkv_any h2]
   congr 1
   by_cases e:t.1=k
   · rw[decide_eq_true e,decide_eq_true (by rw[e])]
   · rw[decide_eq_false e,decide_eq_false fun q=>e (by injection q)]
theorem dkv_repl {k:Str}{d:PyData}{v:V}(hd:DV K H W d v):∀{ts:List (Str×PyData)}{ks:List (Key×V)},DKV K H W (tdict ts) ks →
   DKV K H W (tdict (ts.map fun t=>if t.1=k then (t.1,d) else t)) (ks.map fun kv=>if kv.1=Sum.inr k then (kv.1,v) else kv)
 | [],ks,h=>by rw[dkv_nil.mp h];exact dkv_nil.mpr rfl
 | t::ts,ks,h=>by
   obtain⟨u,r,rfl,h1,h2⟩:=dkv_cons.mp h
   rw[zI,zI]
   by_cases e:t.1=k
   · rw[if_pos e,if_pos (by rw[e])]
     exact dkv_cons.mpr ⟨v,_,rfl,hd,dkv_repl hd h2⟩
   · rw[if_neg e,if_neg fun q=>e (by injection q)]
     exact dkv_cons.mpr ⟨u,_,rfl,h1,dkv_repl hd h2⟩
theorem dkv_snoc {k:Str}{d:PyData}{v:V}(hd:DV K H W d v):∀{ts:List (Str×PyData)}{ks:List (Key×V)},DKV K H W (tdict ts) ks→DKV K H W (tdict (ts++[(k,d)])) (ks++[(Sum.inr k,v)])
 | [],ks,h=>by rw[dkv_nil.mp h];exact dkv_cons.mpr ⟨v,[],rfl,hd,dkv_nil.mpr rfl⟩
 | t::ts,ks,h=>by
   obtain⟨u,r,rfl,h1,h2⟩:=dkv_cons.mp h
   exact dkv_cons.mpr ⟨u,_,rfl,h1,dkv_snoc hd h2⟩
theorem dkv_put {k:Str}{d:PyData}{v:V}{ts:List (Str×PyData)}{ks:List (Key×V)}(h:DKV K H W (tdict ts) ks) (hd:DV K H W d v):DKV K H W (tdict (putS ts k d)) (putK ks (Sum.inr k) v):=by
 unfold putS putK
 rw[dkv_any h]
 by_cases c:(ts.any fun t=>decide (t.1=k))=true
 · rw[if_pos c,if_pos c];exact dkv_repl hd h
 · rw[if_neg c,if_neg c];exact dkv_snoc hd h
theorem dkv_look {k:Str}:∀{ts:List (Str×PyData)}{ks:List (Key×V)},DKV K H W (tdict ts) ks→(∃d v,lookS ts k=some d∧valV ks (Sum.inr k)=some v∧DV K H W d v)∨(lookS ts k=none∧valV ks (Sum.inr k)=none)
 | [],ks,h=>by rw[dkv_nil.mp h];exact .inr ⟨rfl,rfl⟩
 | t::ts,ks,h=>by
   obtain⟨u,r,rfl,h1,h2⟩:=dkv_cons.mp h
   by_cases e:t.1=k
   · exact .inl ⟨t.2,u,by simp[lookS,e],valV_pos (by rw[e]),h1⟩
   · have e':¬(Sum.inr t.1:Key)=Sum.inr k:=fun q=>e (by injection q)
     rcases dkv_look (k:=k) h2 with ⟨d,v,a1,a2,a3⟩ | ⟨a1,a2⟩
     · exact .inl ⟨d,v,by simp[lookS,e,a1],by rw[valV_neg (p:=(Sum.inr t.1,u)) e'];exact a2,a3⟩
     · exact .inr ⟨by simp[lookS,e,a1],by rw[valV_neg (p:=(Sum.inr t.1,u)) e'];exact a2⟩
theorem dkv_len:∀{kvs:List (PyData×PyData)}{ks:List (Key×V)},DKV K H W kvs ks→ks.length=kvs.length
 | [],ks,h=>by unfold DKV at h;subst h;rfl
 | (k,d)::r,ks,h=>by unfold DKV at h;obtain⟨_,_,_,rfl,_,_,h2⟩:=h;simp[dkv_len h2]
end
section
variable {K:Frg}{M:Own}{Q:DS→Own→Prop}{ρ:List (Option DS)}{H:Hp}{td ty tv:TE}{D:EndsD}
theorem de_dgetO (h:DE K td ρ M fun x M1=>DE K ty ρ M1 fun y M2=>∃(a:Addr) (ts:List (Str×PyData)) (k:Str) (d:PyData),x = .loc a∧y = .d (.str k)∧M2 a=some (.d (tdict ts))∧lookS ts k=some d∧Q (.d d) M2):DE K (tDGet td ty) ρ M Q:=fun σ H QQ R kk=>
 h σ H _ R fun v H1 x M1 o1 s1 t1 h1=>h1 σ H1 _ (R.step o1 t1) fun u H2 y M2 o2 s2 t2 h2=>by
   obtain⟨a,ts,k,d,rfl,rfl,m,l,q⟩:=h2
   unfold SI at s1
   subst s1
   rw[si_str s2]
   obtain⟨ks,e1,e2⟩:=o2 a _ m
   rcases dkv_look (k:=k) e2 with ⟨d',w',a1,a2,a3⟩ | ⟨a1,a2⟩
   · rw[l] at a1
     cases a1
     exact⟨a,w',rfl,.inl ⟨ks,Sum.inr k,.inl e1,rfl,a2.symm⟩,kk _ H2 (.d d) M2 o2 a3 (t1.trans t2) q⟩
   · rw[l] at a1;cases a1
theorem de_dinO (h:DE K ty ρ M fun y M1=>DE K td ρ M1 fun x M2=>∃(a:Addr) (ts:List (Str×PyData)) (k:Str),x = .loc a∧y = .d (.str k)∧M2 a=some (.d (tdict ts))∧Q (.d (.bool (lookS ts k).isSome)) M2):DE K (tDIn ty td) ρ M Q:=fun σ H QQ R kk=>
 h σ H _ R fun v H1 x M1 o1 s1 t1 h1=>h1 σ H1 _ (R.step o1 t1) fun u H2 y M2 o2 s2 t2 h2=>by
   obtain⟨a,ts,k,rfl,rfl,m,q⟩:=h2
   unfold SI at s2
   subst s2
   rw[si_str s1]
   obtain⟨ks,e1,e2⟩:=o2 a _ m
   refine⟨a,valV ks (Sum.inr k),rfl,.inl ⟨ks,Sum.inr k,.inl e1,rfl,rfl⟩,kk _ H2 _ M2 o2 ?_ (t1.trans t2) q⟩
   rcases dkv_look (k:=k) e2 with ⟨d',w',a1,a2,a3⟩ | ⟨a1,a2⟩
   · rw[a1,a2];exact si_of_bl
   · rw[a1,a2];exact si_of_bl
def tupD (t:Str×List PyData):PyData:=.tuple (.str t.1::t.2)
theorem dvs_tups {W:Addr→Prop}:∀{ts:List (Str×List PyData)}{vs:List V},DVs K H W (ts.map tupD) vs→∃es:List (Addr×Str×List V),vs=es.map (fun e=>V.ref e.1)∧es.map (fun e=>e.2.1)=ts.map (·.1)∧(∀e∈es,SqT K H e.1 (.str e.2.1::e.2.2)) ∧
   es.length=ts.length∧∀(i:Nat) e t,es[i]?=some e→ts[i]?=some t→DV K H W (tupD t) (.ref e.1)∧e.2.1=t.1
 | [],vs,h=>by unfold DVs at h;subst h;exact⟨[],rfl,rfl,(fun e he=>by simp at he),rfl,fun i e t h1 h2=>by simp at h1⟩
 | t::ts,vs,h=>by
   rw[zI] at h
   unfold DVs at h
   obtain⟨v,r,rfl,h1,h2⟩:=h
   obtain⟨es,rfl,e2,e3,e4,e5⟩:=dvs_tups h2
   have h1':=h1
   unfold tupD DV at h1'
   obtain⟨a,us,rfl,hw,hd⟩:=h1'
   unfold DVs at hd
   obtain⟨u,us',rfl,hu,hus⟩:=hd
   unfold DV at hu
   subst hu
   refine⟨(a,t.1,us')::es,rfl,by simp[e2],fun e he=>?_,by simp[e4],fun i e t' h3 h4=>?_⟩
   · rcases yX.mp he with rfl | he
     · exact hw.sq
     · exact e3 e he
   · cases i with
     | zero=>simp at h3 h4;subst h3 h4;exact⟨h1,rfl⟩
     | succ i=>exact e5 i e t' (by simpa using h3) (by simpa using h4)
theorem tups_dvs {W:Addr→Prop}:∀{es:List (Addr×Str×List V)}{ts:List (Str×List PyData)},es.length=ts.length→(∀(i:Nat) e t,es[i]?=some e→ts[i]?=some t→DV K H W (tupD t) (.ref e.1))→DVs K H W (ts.map tupD) (es.map fun e=>V.ref e.1)
 | [],[],_,_=>by simp only[List.map_nil];exact DVs.nil
 | [],_::_,h,_=>by simp at h
 | _::_,[],h,_=>by simp at h
 | e::es,t::ts,h,k=>by
   rw[zI,zI]
   exact DVs.cons (k 0 e t rfl rfl) (tups_dvs (by simpa using h) fun i e t h1 h2=>k (i+1) e t (by simpa using h1) (by simpa using h2))
theorem perm_along {α β:Type}:∀{as as':List α},as'.Perm as→∀{bs:List β},as.length=bs.length→∃bs':List β,bs'.Perm bs∧(as'.zip bs').Perm (as.zip bs)∧as'.length=bs'.length:=by
 intro as as' h
 induction h with
 | nil=>intro bs hl;exact⟨bs,.refl _,.refl _,hl⟩
 | cons x _ ih=>
   intro bs hl
   cases bs with
   | nil=>simp at hl
   | cons b bs=>
     obtain⟨bs',h1,h2,h3⟩:=ih (bs:=bs) (by simpa using hl)
     exact⟨b::bs',h1.cons b,by rw[List.zip_cons_cons,List.zip_cons_cons];exact h2.cons _,by simp[h3]⟩
 | swap x y l=>
   intro bs hl
   match bs,hl with
   | b1::b2::bs,hl=>exact⟨b2::b1::bs,.swap _ _ _,by simp only[List.zip_cons_cons];exact .swap _ _ _,by simpa using hl⟩
 | trans p1 p2 ih1 ih2=>
   intro bs hl
   obtain⟨b2,h1,h2,h3⟩:=ih2 hl
   obtain⟨b3,g1,g2,g3⟩:=ih1 h3
   exact⟨b3,g1.trans h1,g2.trans h2,g3⟩
theorem sort_tups_core {a:Addr}{ts:List (Str×List PyData)}{vs:List V}{QQ:VK}(oa:OA K H M) (hl:SqL K H a vs∨SqT K H a vs) (hd:DVs K H M.W (ts.map tupD) vs) (nd:(ts.map (·.1)).Nodup) (h64:ts.length < 64)
   (k:∀(w:V) (H':Hp) (z:DS) (M':Own),OA K H' M'→SI K H' M' z w→Step K M M' H H'→(∃ts':List (Str×List PyData),ts'.Perm ts∧ts'.Pairwise (fun x y=>x.1.cps.toList < y.1.cps.toList)∧z = .d (.list (ts'.map tupD))∧M'=M)→QQ w H'):rSortA K [.ref a] H QQ:=by
 obtain⟨es,rfl,e2,e3,e4,e5⟩:=dvs_tups hd
 refine .inr (.inl ⟨a,es,rfl,hl,e3,by rw[e2];exact nd,by rw[e4];exact h64,fun es' p hp hs hn=>?_⟩)
 obtain⟨ts',p1,p2,p3⟩:=perm_along hp e4
 have each:∀(i:Nat) e t,es'[i]?=some e→ts'[i]?=some t→DV K H M.W (tupD t) (.ref e.1)∧e.2.1=t.1:=fun i e t h1 h2=>by
   have hz:(e,t)∈es.zip ts:=p2.mem_iff.mp (yN (i:=i) (by rw[List.getElem?_zip_eq_some];exact⟨h1,h2⟩))
   obtain⟨j,hj⟩:=List.getElem?_of_mem hz
   rw[List.getElem?_zip_eq_some] at hj
   exact e5 j e t hj.1 hj.2
 have g:Grow K M.W M.W H (upd H p (.lst (es'.map fun e=>V.ref e.1))):=grow_new _ hn
 refine k _ _ (.d (.list (ts'.map tupD))) M (oa.new hn) ?_ ⟨g⟩ ⟨ts',p1,?_,rfl,rfl⟩
 · unfold SI DV
   exact⟨p,_,rfl,.inl ⟨fun w=>w (oa.none hn),.inl upd_same⟩,(tups_dvs p3 fun i e t h1 h2=>(each i e t h1 h2).1).grow g⟩
 · rw[List.pairwise_iff_getElem] at hs ⊢
   intro i j hi hj hij
   have hi':i < es'.length:=by omega
   have hj':j < es'.length:=by omega
   have:=hs i j hi' hj' hij
   rw[(each i es'[i] ts'[i] (zV hi') (zV hi)).2,(each j es'[j] ts'[j] (zV hj') (zV hj)).2] at this
   exact this
theorem rd_sortT {ts:List (Str×List PyData)}(nd:(ts.map (·.1)).Nodup) (h64:ts.length < 64) (q:∀ts':List (Str×List PyData),ts'.Perm ts→ts'.Pairwise (fun x y=>x.1.cps.toList < y.1.cps.toList)→Q (.d (.list (ts'.map tupD))) M):DR K (rSortA K) [.d (.list (ts.map tupD))] M Q:=fun H vs QQ oa s k=>by
 obtain⟨v,r,rfl,h1,h2⟩:=s
 cases h2
 unfold SI DV at h1
 obtain⟨a,vs,rfl,hl,hd⟩:=h1
 exact sort_tups_core oa (.inl hl.sq) hd nd h64 fun w H' z M' o si st ⟨ts',p1,p2,e1,e2⟩=>by subst e1 e2;exact k w H' _ _ o si st (q ts' p1 p2)
end
end DL
namespace DL
open PySem PySem.Spec L2
section
variable {X:Cx}{K:Frg}
theorem kSortA (h:X.K=K) (hc:X.calm=true):CallR X (.builtin "sorted") (rSortA K):=h▸call_sortA hc
end
section
variable {K:Frg}{M:Own}{ρ:List (Option DS)}{wi:TI}{g:TG}{H:Hp}
theorem putS_new {ts:List (Str×PyData)}{k:Str}{d:PyData}(h:k∉ts.map (·.1)):putS ts k d=ts++[(k,d)]:=by
 unfold putS
 rw[if_neg]
 intro e
 obtain⟨t,ht,e⟩:=List.any_eq_true.mp e
 exact h (zL.mpr ⟨t,ht,by simpa using e⟩)
theorem de_dcomp {fr:List (Option Nat)}{tt:TT}{tk tv:TE}{T:List Nat}{Q:DS→Own→Prop}(ho:GOnly g T) (hT:∀i∈T,∀j,fr[i]?≠some (some j))
   (h:DI K wi ρ M fun ds M1=>ds.length < sizeLine∧∃(c:PyData→Bool) (f:PyData→Str) (w:PyData→PyData),((ds.filter c).map f).Nodup ∧
     (∀d∈ds,∀M',DG K g d (captD fr ρ) M' fun ρ2 M2=>M2=M'∧DT K tt ρ2 M2 fun b M3=>M3=M'∧b=c d∧(c d=true→DE K tk ρ2 M3 fun y M4=>y = .d (.str (f d))∧M4=M'∧DE K tv ρ2 M4 fun z M5=>z = .d (w d)∧M5=M')) ∧
     ∀p,M1 p=none→Q (.loc p) (M1.put p (.d (tdict ((ds.filter c).map fun d=>(f d,w d)))))) :
   DE K (tDComp fr wi g tt tk tv) ρ M Q:=fun σ H QQ R k=>
 h σ H _ R fun J ds H1 M1 o1 t1 wd ⟨hsz,c,f,w,nd,he,hq⟩=>by
   intro A hA
   obtain⟨oA,sA⟩:=own_newD (kvs:=[]) (ks:=[]) o1 hA (by unfold DKV;rfl)
   have hM:=o1.none hA
   let acc:Nat→List (Str×PyData):=fun i=>((ds.take i).filter c).map fun d=>(f d,w d)
   refine⟨fun i m ys H2=>m=ds.length - i∧i≤ds.length∧H2 A=some (.dK ys)∧OA K H2 (M1.put A (.d (tdict (acc i))))∧Step K M1 (M1.put A (.d (tdict (acc i)))) H1 H2,⟨_,rfl,xT _,upd_same,oA,sA⟩,?_⟩
   rintro i m ys H2 ⟨rfl,hi,hys,oa,st⟩
   refine⟨hys,?_⟩
   by_cases hlt:i < ds.length
   · refine .inr ⟨wd.go i H2 _ hlt oa st,fun x H3 y=>?_⟩
     obtain⟨oa3,st3,d,e1,e2⟩:=wd.yld i H2 _ x H3 oa st hlt y
     have Rc:Rel K (M1.put A (.d (tdict (acc i)))) (captD fr ρ) (L2.capt fr σ) H3:=((R.step o1 t1).step oa3 (st.trans st3)).capt
     have ts:(ds.take (i+1)).filter c=(ds.take i).filter c++(if c d then [d] else []):=take_succ_filter c ds i d e1
     refine ho _ _ _ _ (he d (yN e1) _ (L2.capt fr σ) H3 x _ Rc e2 fun ρ3 M3 σ3 H4 R3 st4 ⟨eM,b3⟩ hext=>⟨fun i' v' hv'=>?_,?_⟩)
     · obtain⟨j,f1,f2⟩:=captD_get hv'
       rw[hext i' fun hm=>hT i' hm j f1]
       exact hv'
     · subst eM
       refine b3 σ3 H4 _ R3 fun b H5 M5 o5 st5 ⟨eM5,eb,h5⟩=>?_
       subst eM5
       have sx:=((st.trans st3).trans st4).trans st5
       cases hb:c d with
       | false=>
         rw[hb] at eb
         subst eb
         rw[if_neg nft]
         obtain⟨ks,q1,q2⟩:=o5 A _ zU
         have ea:acc (i+1)=acc i:=by show(((ds.take (i+1)).filter c).map _)=_;rw[ts,hb];simp[acc]
         refine⟨ks,ds.length - (i+1),by omega,rfl,hlt,q1,?_,?_⟩
         · rw[ea];exact o5
         · rw[ea];exact sx
       | true=>
         rw[hb] at eb
         subst eb
         rw[if_pos rfl]
         refine h5 hb σ3 H5 _ (R3.step o5 st5) fun y H6 z M6 o6 s6 st6 ⟨ez,eM6,h6⟩=>?_
         subst ez eM6
         refine h6 σ3 H6 _ ((R3.step o5 st5).step o6 st6) fun y2 H7 z2 M7 o7 s7 st7 ⟨ez2,eM7⟩=>?_
         subst ez2 eM7
         obtain⟨ks,q1,q2⟩:=o7 A _ zU
         obtain⟨w1,w2⟩:=own_writeD o7 zU (dkv_put (k:=f d) q2 s7)
         have hnew:f d∉(acc i).map (·.1):=by
           intro hm
           have:((ds.take (i+1)).filter c).map f=(acc i).map (·.1)++[f d]:=by rw[ts,hb];simp[acc]
           have nd2:(((ds.take (i+1)).filter c).map f).Nodup:=by
             refine nd.sublist ?_
             exact((List.take_sublist _ _).filter _).map _
           rw[this,List.nodup_append] at nd2
           exact nd2.2.2 _ hm _ (by simp) rfl
         have ea:acc (i+1)=putS (acc i) (f d) (w d):=by
           rw[putS_new hnew]
           show(((ds.take (i+1)).filter c).map _)=_
           rw[ts,hb]
           simp[acc]
         have hlen:ks.length < sizeLine:=by
           rw[dkv_len q2]
           unfold tdict
           rw[zX]
           refine zQ ?_ hsz
           show(((ds.take i).filter c).map _).length≤_
           rw[zX]
           exact zN (yJ _ _) (by rw[List.length_take];omega)
         rw[yI] at w1 w2
         refine⟨ks,Sum.inr (f d),si_str s6,q1,hlen,ds.length - (i+1),by omega,rfl,hlt,upd_same,?_,?_⟩
         · rw[ea];exact w1
         · rw[ea];exact((sx.trans st6).trans st7).trans w2
   · have e:i=ds.length:=by omega
     subst e
     refine .inl ⟨wd.stop H2 _ oa st,k _ H2 (.loc A) _ oa rfl (t1.trans st) ?_⟩
     have:=hq A hM
     have ea:acc ds.length=(ds.filter c).map fun d=>(f d,w d):=by show(((ds.take ds.length).filter c).map _)=_;rw[List.take_length]
     rw[ea]
     exact this
end
end DL
namespace DL
open PySem PySem.Spec L2
inductive Deed where
 | put (x:Str) (p k:Int) | take (x:Str) | move (x:Str) (p:Int) | count (x:Str) (k:Int) | name (x y:Str) | split (x y:Str) (p k:Int) | join (x y:Str)
def Deed.d:Deed→PyData
 | .put x p k=>.tuple [.str (Str.ofString "put"),.str x,.int p,.int k]
 | .take x=>.tuple [.str (Str.ofString "take"),.str x]
 | .move x p=>.tuple [.str (Str.ofString "move"),.str x,.int p]
 | .count x k=>.tuple [.str (Str.ofString "count"),.str x,.int k]
 | .name x y=>.tuple [.str (Str.ofString "name"),.str x,.str y]
 | .split x y p k=>.tuple [.str (Str.ofString "split"),.str x,.str y,.int p,.int k]
 | .join x y=>.tuple [.str (Str.ofString "join"),.str x,.str y]
def Deed.names:Deed→List Str
 | .put x _ _=>[x] | .take x=>[x] | .move x _=>[x] | .count x _=>[x] | .name x y=>[x,y] | .split x y _ _=>[x,y] | .join x y=>[x,y]
def Deed.ok (D:Deed):Prop:=∀x∈D.names,nameZ x
def FORMS:List (Str×Str):=[("put", "npk"),("take", "n"),("move", "np"),("count", "nk"),("name", "nn"),("split", "nnpk"),("join", "nn")]
def formD:PyData→PyData | .str z=>optD (FORMS.lookup z) | _=>.none
def twoW (z:Str):Bool:=z == "name" || z == "split" || z == "join"
def namesD:PyData→PyData | .tuple (.str w::r)=>.tuple (r.take (if twoW w then 2 else 1)) | d=>d
theorem forms_at {w f:Str}(h:FORMS.lookup w=some f):(w = "put" ∧ f = "npk")∨(w = "take" ∧ f = "n")∨(w = "move" ∧ f = "np")∨(w = "count" ∧ f = "nk")∨(w = "name" ∧ f = "nn")∨(w = "split" ∧ f = "nnpk")∨(w = "join" ∧ f = "nn"):=by
 unfold FORMS at h
 simp only[List.lookup_cons,List.lookup_nil] at h
 split at h
 · rename_i e;exact .inl ⟨eq_of_beq e,by injection h with h;exact h.symm⟩
 split at h
 · rename_i e;exact .inr (.inl ⟨eq_of_beq e,by injection h with h;exact h.symm⟩)
 split at h
 · rename_i e;exact .inr (.inr (.inl ⟨eq_of_beq e,by injection h with h;exact h.symm⟩))
 split at h
 · rename_i e;exact .inr (.inr (.inr (.inl ⟨eq_of_beq e,by injection h with h;exact h.symm⟩)))
 split at h
 · rename_i e;exact .inr (.inr (.inr (.inr (.inl ⟨eq_of_beq e,by injection h with h;exact h.symm⟩))))
 split at h
 · rename_i e;exact .inr (.inr (.inr (.inr (.inr (.inl ⟨eq_of_beq e,by injection h with h;exact h.symm⟩)))))
 split at h
 · rename_i e;exact .inr (.inr (.inr (.inr (.inr (.inr ⟨eq_of_beq e,by injection h with h;exact h.symm⟩)))))
 cases h
theorem form_facts {w f:Str}(h:FORMS.lookup w=some f):f.cps.all (· < 128)=true∧f.cps.size≤4∧Txt.startswith f (Str.ofString "nn")=twoW w∧(twoW w=true→2≤f.cps.size∧f.cps[0]?=some 110∧f.cps[1]?=some 110)∧1≤f.cps.size:=by
 rcases forms_at h with ⟨rfl,rfl⟩ | ⟨rfl,rfl⟩ | ⟨rfl,rfl⟩ | ⟨rfl,rfl⟩ | ⟨rfl,rfl⟩ | ⟨rfl,rfl⟩ | ⟨rfl,rfl⟩ <;> decide +kernel
def wordOk (d:PyData):Prop:=∃w f r,d = .tuple (.str w::r)∧FORMS.lookup w=some f
theorem wordOk_d (D:Deed):wordOk D.d:=by cases D <;> exact⟨_,_,_,rfl,rfl⟩
theorem namesD_d (D:Deed):namesD D.d = .tuple (D.names.map .str):=by cases D <;> rfl
def nmS:PyData→List Str | .tuple ds=>ds.map strOf | _=>[]
def namesS (d:PyData):List Str:=nmS (namesD d)
theorem namesS_d (D:Deed):namesS D.d=D.names:=by
 unfold namesS
 rw[namesD_d]
 show(D.names.map PyData.str).map strOf=_
 rw[zD]
 exact List.map_id _
def isDeed (d:PyData):Prop:=∃D:Deed,d=D.d∧D.ok
def S_form_of:FSp:=fn1 (fun _=>True) formD
def S_names_in:FSp:=fn1 wordOk namesD
def pack1 (o:MO):Prop:=∃v:Int,o = .l [.int v]
def S__law_mixed:FSp:=⟨fun xs M=>∃c:Int,xs=[.d (.int c)]∧xJ c≤2 ^ 21,fun xs M y M'=>M'=M∧∃v:Int,y = .d (.int v)⟩
def S__law_take:FSp:=⟨fun xs M=>∃p size o,xs=[.loc p,.d (.int size)]∧M p=some o∧pack1 o∧0 < size∧size < 1073741824,
 fun xs M y M'=>∀p size,xs=[.loc p,.d (.int size)]→∃v o,y = .d (.int v)∧0≤v∧v < size∧pack1 o∧M'=M.put p o⟩
theorem take_call {p:Addr}{size:Int}{o:MO}{M:Own}{Q:DS→Own→Prop}(m:M p=some o) (ho:pack1 o) (h0:0 < size) (h1:size < 1073741824) (q:∀v o',0≤v→v < size→pack1 o'→Q (.d (.int v)) (M.put p o')) :
   [DS.loc p,.d (.int size)].length=2∧S__law_take.pre [.loc p,.d (.int size)] M∧∀x M',S__law_take.post [.loc p,.d (.int size)] M x M'→Q x M':=
 ⟨rfl,⟨p,size,o,rfl,m,ho,h0,h1⟩,fun x M' h=>by obtain⟨v,o',rfl,h2,h3,h4,rfl⟩:=h p size rfl;exact q v o' h2 h3 h4⟩
def badW:List Str:=["take", "name", "join"]
theorem bad_lists {z:Str}(h:z∈badW):z.cps.toList=[116,97,107,101]∨z.cps.toList=[110,97,109,101]∨z.cps.toList=[106,111,105,110]:=by
 simp only[badW,yX,xX,or_false] at h
 rcases h with rfl | rfl | rfl
 · exact .inl (by decide +kernel)
 · exact .inr (.inl (by decide +kernel))
 · exact .inr (.inr (by decide +kernel))
def nxL (a:Nat):Nat:=if a=122 then 97 else a+1
def Run (l:List Nat):Prop:=∀i a b,l[i]?=some a→l[i+1]?=some b→b=nxL a
theorem Run.drop {l:List Nat}(h:Run l) (n:Nat):Run (l.drop n):=fun i a b h1 h2=>by
 rw[List.getElem?_drop] at h1 h2
 exact h (n+i) a b h1 (by rw[← Nat.add_assoc] at h2;exact h2)
theorem Run.take {l:List Nat}(h:Run l) (n:Nat):Run (l.take n):=fun i a b h1 h2=>by
 rw[List.getElem?_take] at h1 h2
 split at h1
 · split at h2
   · exact h i a b h1 h2
   · cases h2
 · cases h1
theorem rep_bad {z:Str}{n c:Nat}(h:z.cps.toList=List.replicate n c):z∉badW:=fun hb=>by
 have key:∀a∈z.cps.toList,a=c:=fun a ha=>by rw[h] at ha;exact List.eq_of_mem_replicate ha
 rcases bad_lists hb with e | e | e
 · rw[e] at key
   have h1:=key 116 (by simp);have h2:=key 97 (by simp);omega
 · rw[e] at key
   have h1:=key 110 (by simp);have h2:=key 97 (by simp);omega
 · rw[e] at key
   have h1:=key 106 (by simp);have h2:=key 111 (by simp);omega
theorem pre_bad {z:Str}{c:Nat}{m:List Nat}(h:z.cps.toList=c::m) (hr:Run m):z∉badW:=fun hb=>by
 rcases bad_lists hb with e | e | e
 · rw[e] at h;injection h with _ h;subst h
   exact absurd (hr 0 97 107 rfl rfl) (by decide)
 · rw[e] at h;injection h with _ h;subst h
   exact absurd (hr 0 97 109 rfl rfl) (by decide)
 · rw[e] at h;injection h with _ h;subst h
   exact absurd (hr 0 111 105 rfl rfl) (by decide)
theorem suf_bad {z:Str}{c:Nat}{m:List Nat}(h:z.cps.toList=m++[c]) (hr:Run m):z∉badW:=fun hb=>by
 have hm:m=z.cps.toList.dropLast:=by rw[h];simp
 rcases bad_lists hb with e | e | e
 · rw[e] at hm;subst hm
   exact absurd (hr 0 116 97 rfl rfl) (by decide)
 · rw[e] at hm;subst hm
   exact absurd (hr 0 110 97 rfl rfl) (by decide)
 · rw[e] at hm;subst hm
   exact absurd (hr 0 106 111 rfl rfl) (by decide)
def runB (l:List Nat):Bool:=(List.range l.length).all fun i=>match l[i]?,l[i+1]? with | some a,some b=>b==nxL a | _,_=>true
theorem run_of {l:List Nat}(h:runB l=true):Run l:=fun i a b h1 h2=>by
 have hi:i < l.length:=(yT.mp h1).1
 have:=List.all_eq_true.mp h i (List.mem_range.mpr hi)
 rw[h1,h2] at this
 exact eq_of_beq this
theorem rot_runB:∀t,t < 26→runB ((Str.ofString "abcdefghijklmnopqrstuvwxyz").cps.toList.drop t++(Str.ofString "abcdefghijklmnopqrstuvwxyz").cps.toList.take t)=true:=by decide +kernel
def S__law_names:FSp:=⟨fun xs M=>∃p n o,xs=[.loc p,.d (.int n)]∧M p=some o∧pack1 o∧0≤n∧n≤26,
 fun xs M y M'=>∀p n,xs=[.loc p,.d (.int n)]→∃(ys:List Str) (o:MO),y = .d (.list (ys.map .str))∧(ys.length:Int)=n∧(∀z∈ys,nameZ z)∧(∀z∈ys,z∉badW)∧ys.Nodup∧pack1 o∧M'=M.put p o⟩
theorem names_call {p:Addr}{n:Int}{o:MO}{M:Own}{Q:DS→Own→Prop}(m:M p=some o) (ho:pack1 o) (h0:0≤n) (h1:n≤26) (q:∀(ys:List Str) o',(ys.length:Int)=n→(∀z∈ys,nameZ z)→(∀z∈ys,z∉badW)→ys.Nodup→pack1 o'→Q (.d (.list (ys.map .str))) (M.put p o')) :
   [DS.loc p,.d (.int n)].length=2∧S__law_names.pre [.loc p,.d (.int n)] M∧∀x M',S__law_names.post [.loc p,.d (.int n)] M x M'→Q x M':=
 ⟨rfl,⟨p,n,o,rfl,m,ho,h0,h1⟩,fun x M' h=>by obtain⟨v,o',rfl,h2,h3,h4,h5,h6,rfl⟩:=h p n rfl;exact q v o' h2 h3 h4 h5 h6⟩
theorem mixed_call {c:Int}{M:Own}{Q:DS→Own→Prop}(h:xJ c≤2 ^ 21) (q:∀v:Int,Q (.d (.int v)) M):[DS.d (.int c)].length=1∧S__law_mixed.pre [.d (.int c)] M∧∀x M',S__law_mixed.post [.d (.int c)] M x M'→Q x M':=
 ⟨rfl,⟨c,rfl,h⟩,fun x M' h=>by obtain⟨rfl,v,rfl⟩:=h;exact q v⟩
theorem shaped_str {z:Str}(h:nameZ z):zH (.str z)=true:=shaped_of (strOk_name h) (by simp[PyData.depth])
end DL
namespace DL
open PySem PySem.Spec L2
def Deed.word:Deed→Str
 | .put .. => "put" | .take .. => "take" | .move .. => "move" | .count .. => "count" | .name .. => "name" | .split .. => "split" | .join .. => "join"
def Deed.fst:Deed→Str
 | .put x _ _=>x | .take x=>x | .move x _=>x | .count x _=>x | .name x _=>x | .split x _ _ _=>x | .join x _=>x
def Deed.rest:Deed→List PyData
 | .put _ p k=>[.int p,.int k] | .take _=>[] | .move _ p=>[.int p] | .count _ k=>[.int k] | .name _ y=>[.str y] | .split _ y p k=>[.str y,.int p,.int k] | .join _ y=>[.str y]
theorem Deed.d_eq (D:Deed):D.d = .tuple (.str D.word::.str D.fst::D.rest):=by cases D <;> rfl
theorem Deed.word_ok (D:Deed):zH (.str D.word)=true:=by cases D <;> (simp only[Deed.word];decide +kernel)
theorem eqv_str (a b:Str):PyData.eqv (.str a) (.str b)=(a==b):=by simp[PyData.eqv]
theorem shaped_strs {ss:List Str}(h:∀s∈ss,PyData.strOk s=true):zH (.list (ss.map .str))=true:=by
 refine shaped_of (canAll fun d hd=>?_) ?_
 · obtain⟨y,h1,rfl⟩:=zL.mp hd
   exact h y h1
 · have:PyData.depthAll (ss.map PyData.str)≤0:=depAll fun d hd=>by
     obtain⟨y,h1,rfl⟩:=zL.mp hd
     exact zR 0
   simp only[PyData.depth];omega
theorem atI_str {ys:List Str}{v:Int}(h0:0≤v) (h1:v < ys.length):∃y,atI (ys.map PyData.str) v=some (.str y)∧y∈ys:=by
 obtain⟨n,rfl⟩:∃n:Nat,v=(n:Int):=⟨v.toNat,by omega⟩
 have hn:n < ys.length:=by omega
 exact⟨ys[n],atI_nat (by rw[zF,zV hn];rfl),List.getElem_mem hn⟩
end DL
namespace DL
open PySem PySem.Spec L2
def nmA (R:Str):PyData→PyData
 | .int i=>match atI R.cps.toList (i/8) with | some c=>.str (repS ⟨#[c]⟩ (1+i % 8)) | none=>.none
 | d=>d
def nmB (R t:Str):PyData→PyData
 | .int i=>match atI R.cps.toList i with | some c=>.str (⟨#[c]⟩++t) | none=>.none
 | d=>d
def nmC (R t:Str):PyData→PyData
 | .int i=>match atI R.cps.toList i with | some c=>.str (t++⟨#[c]⟩) | none=>.none
 | d=>d
theorem nmA_at {R:Str}{i:Int}{c:Nat}(h:atI R.cps.toList (i/8)=some c):nmA R (.int i) = .str (repS ⟨#[c]⟩ (1+i % 8)):=by simp only[nmA,h]
theorem nmB_at {R t:Str}{i:Int}{c:Nat}(h:atI R.cps.toList i=some c):nmB R t (.int i) = .str (⟨#[c]⟩++t):=by simp only[nmB,h]
theorem nmC_at {R t:Str}{i:Int}{c:Nat}(h:atI R.cps.toList i=some c):nmC R t (.int i) = .str (t++⟨#[c]⟩):=by simp only[nmC,h]
end DL
namespace DL
open PySem PySem.Spec L2
def S_law:FSp:=⟨fun xs M=>∃ns:List Int,xs=[.d (.list (ns.map .int))]∧ns.length≤63∧∀i∈ns,xJ i≤2 ^ 20,fun xs M y M'=>y = .d (.bool true)⟩
end DL
namespace DL
open PySem PySem.Spec L2
theorem nodup_at {R:List Nat}(h:R.Nodup) {i j:Nat}{c:Nat}(h1:atI R (i:Int)=some c) (h2:atI R (j:Int)=some c) (hi:i < R.length) (hj:j < R.length):i=j:=by
 have e1:atI R (i:Int)=some R[i]:=atI_nat (zV hi)
 have e2:atI R (j:Int)=some R[j]:=atI_nat (zV hj)
 rw[e1] at h1
 rw[e2] at h2
 have:R[i]=R[j]:=by rw[Option.some.inj h1,Option.some.inj h2]
 exact(List.getElem_inj h).mp this
theorem nodup_range {N:Nat}{f:Nat→Str}(h:∀i j,i < N→j < N→f i=f j→i=j):((List.range N).map f).Nodup:=by
 unfold List.Nodup
 rw[List.pairwise_map]
 exact(List.nodup_range (n:=N)).imp_of_mem fun {a b} ha hb hab e=>hab (h a b (List.mem_range.mp ha) (List.mem_range.mp hb) e)
theorem rot_nodup (t:Nat):((Str.ofString "abcdefghijklmnopqrstuvwxyz").cps.toList.drop t++(Str.ofString "abcdefghijklmnopqrstuvwxyz").cps.toList.take t).Nodup:=by
 have h:((Str.ofString "abcdefghijklmnopqrstuvwxyz").cps.toList.drop t++(Str.ofString "abcdefghijklmnopqrstuvwxyz").cps.toList.take t).Perm (Str.ofString "abcdefghijklmnopqrstuvwxyz").cps.toList:=by
   refine List.perm_append_comm.trans ?_
   rw[List.take_append_drop]
 exact h.nodup_iff.mpr lets_nodup
theorem app1_inj {c d:Nat}{t:Str}(h:(⟨#[c]⟩:Str)++t=⟨#[d]⟩++t):c=d:=by
 have:=congrArg (fun s:Str=>s.cps.toList) h
 simp only[append_toList] at this
 have:=List.append_cancel_right this
 simpa using this
theorem app2_inj {c d:Nat}{t:Str}(h:t++(⟨#[c]⟩:Str)=t++⟨#[d]⟩):c=d:=by
 have:=congrArg (fun s:Str=>s.cps.toList) h
 simp only[append_toList] at this
 have:=List.append_cancel_left this
 simpa using this
theorem rep_inj {c d:Nat}{m n:Int}(hm:1≤m) (hn:1≤n) (h:repS ⟨#[c]⟩ m=repS ⟨#[d]⟩ n):c=d∧m=n:=by
 have:=congrArg (fun s:Str=>s.cps.toList) h
 simp only[rep_one hm,rep_one hn] at this
 have hl:=congrArg List.length this
 rw[List.length_replicate,List.length_replicate] at hl
 have hmn:m=n:=by omega
 refine⟨?_,hmn⟩
 subst hmn
 have hc:c∈List.replicate m.toNat d:=by rw[← this];exact List.mem_replicate.mpr ⟨by omega,rfl⟩
 exact List.eq_of_mem_replicate hc
end DL
namespace DL
open PySem PySem.Spec L2
def madeP:PyData→PyData
 | .tuple (.str w::r)=>if w == "put" then r.getD 0 .none else if w == "name" || w == "split" then r.getD 1 .none else .none
 | _=>.none
def S_made_by:FSp:=fn1 isDeed madeP
def mustS (d:PyData):List Str:=(namesS d).filter fun n=>!PyData.eqv (.str n) (madeP d)
def S_must_stand:FSp:=fn1 isDeed fun d=>.tuple ((mustS d).map .str)
def Deed.isPut:Deed→Bool | .put ..=>true | _=>false
def Deed.isNS:Deed→Bool | .name ..=>true | .split ..=>true | _=>false
theorem word_put (D:Deed):(D.word==Str.ofString "put")=D.isPut:=by cases D <;> (simp only[Deed.word,Deed.isPut];decide +kernel)
theorem mem2 (w a b:Str):decide (w∈[a,b])=(w==a||w==b):=by rw[Bool.eq_iff_iff];simp
theorem word_ns (D:Deed):(D.word==Str.ofString "name" || D.word==Str.ofString "split")=D.isNS:=by cases D <;> (simp only[Deed.word,Deed.isNS];decide +kernel)
theorem made_sh {D:Deed}(h:D.ok):zH (madeP D.d)=true:=by
 cases D with
 | put x p k=>exact shaped_str (h x (by simp[Deed.names]))
 | name x y=>exact shaped_str (h y (by simp[Deed.names]))
 | split x y p k=>exact shaped_str (h y (by simp[Deed.names]))
 | _=>rfl
end DL
namespace DL
open PySem PySem.Spec L2
def Deed.made:Deed→Option Str | .put x _ _=>some x | .name _ y=>some y | .split _ y _ _=>some y | _=>none
def Deed.apart:Deed→Prop | .name x y=>x≠y | .split x y _ _=>x≠y | .join x y=>x≠y | _=>True
def Deed.placed:Deed→Prop | .put _ p _=>0≤p∧p≤999 | .move _ p=>0≤p∧p≤999 | .split _ _ p _=>0≤p∧p≤999 | _=>True
def Deed.real (D:Deed):Prop:=D.ok∧D.apart∧D.placed
theorem real_isDeed {D:Deed}(h:D.real):isDeed D.d:=⟨D,rfl,h.1⟩
def amissD (ns:List Str) (D:Deed):Option Str:=D.names.find? fun n=>decide (n∈ns)==decide (D.made=some n)
theorem amiss_names {ns:List Str}{D:Deed}(h:amissD ns D=none):∀n∈D.names,(n∈ns)↔¬D.made=some n:=fun n hn=>by
 have:=List.find?_eq_none.mp h n hn
 by_cases h1:n∈ns <;> by_cases h2:D.made=some n <;> simp_all
theorem madeP_d (D:Deed):madeP D.d=match D.made with | some x=>.str x | none=>.none:=by cases D <;> rfl
theorem deed_inj {D E:Deed}(h:D.d=E.d):D=E:=by
 cases D <;> cases E <;> simp only[Deed.d,PyData.tuple.injEq,List.cons.injEq,PyData.str.injEq,PyData.int.injEq,and_true,true_and,reduceCtorEq,and_false,false_and,List.nil_eq] at h <;>
   first
   | (obtain⟨_,h⟩:=h;first | (obtain⟨rfl,rfl,rfl,rfl⟩:=h;rfl) | (obtain⟨rfl,rfl,rfl⟩:=h;rfl) | (obtain⟨rfl,rfl⟩:=h;rfl) | (subst h;rfl))
   | (obtain⟨rfl,rfl,rfl,rfl⟩:=h;rfl) | (obtain⟨rfl,rfl,rfl⟩:=h;rfl) | (obtain⟨rfl,rfl⟩:=h;rfl) | (subst h;rfl)
   | exact absurd h.1 (by decide +kernel)
end DL
namespace DL
open PySem PySem.Spec L2
theorem flt0 (ds:List PyData):(ds.filter fun _=>true)=ds:=List.filter_eq_self.mpr (by simp)
def namesT (ns:List Str):Deed→List Str
 | .put x _ _=>ns++[x]
 | .take x=>ns.filter fun n=>decide (n≠x)
 | .move _ _=>ns
 | .count _ _=>ns
 | .name x y=>(ns.filter fun n=>decide (n≠x))++[y]
 | .split _ y _ _=>ns++[y]
 | .join _ y=>ns.filter fun n=>decide (n≠y)
theorem st_in {ns:List Str}{D:Deed}(ha:amissD ns D=none) {n:Str}(hn:n∈D.names) (hm:D.made≠some n):n∈ns:=(amiss_names ha n hn).mpr hm
end DL
namespace DL
open PySem PySem.Spec L2
theorem amiss_of {ns:List Str}{D:Deed}(h:∀n∈D.names,(n∈ns)↔¬D.made=some n):amissD ns D=none:=by
 unfold amissD
 rw[List.find?_eq_none]
 intro n hn
 have:=h n hn
 by_cases h1:n∈ns <;> by_cases h2:D.made=some n <;> simp_all
end DL
namespace L2
open PySem PySem.Spec PyProof.Rows
theorem preSum_take (ns:List Int):∀k,k≤ns.length→preSum (fun i=>ns.getD i 0) k=(ns.take k).sum
 | 0,_=>by simp[preSum]
 | k+1,h=>by
   show preSum _ k+ns.getD k 0=_
   have e:ns.take (k+1)=ns.take k++[ns.getD k 0]:=by
     rw[List.take_add_one,yU,zV (by omega)];rfl
   rw[preSum_take ns k (by omega),e,List.sum_append]
   simp
def rSum (K:Frg):List V→Hp→VK→Prop:=fun xs H Q=>∃(p:Addr) (ns:List Int),xs=[.ref p]∧SqL K H p (ns.map V.int)∧Q (.int ns.sum) H
theorem vals_intsX:∀{ns:List Int}{its:List Value},Vals (ns.map V.int) its→its.length=ns.length∧∀(i:Nat) v,its[i]?=some v→∃t,v=Value.int (ns.getD i 0) t
 | [],_,.nil=>⟨rfl,fun i v h=>by simp at h⟩
 | n::ns,_,.cons r t=>by
   obtain⟨h1,h2⟩:=vals_intsX t
   refine⟨by simp[h1],fun i v h=>?_⟩
   cases i with
   | zero=>simp at h;subst h;exact r
   | succ i=>exact h2 i v (by simpa using h)
theorem call_sum {X:Cx}(hc:X.calm=true):CallR X (.builtin "sum") (rSum X.K):=by
 intro pins s σ H xs us Q I r h
 obtain⟨p,ns,rfl,hp,q⟩:=h
 obtain⟨u,rfl,ru⟩:=vals1 r
 cases ru
 obtain⟨its,rv,pl,_⟩:=I.list hp
 obtain⟨hl,hv⟩:=vals_intsX rv
 have hlist:=pl.isList
 have hlt:p < s.heap.objs.size:=by obtain⟨_,e,_⟩:=hlist;exact zM e
 refine call_sum_walkAnyS ?_
 refine wpAny_pyIter_list hlist ⟨s.heap.objs.size,_,_,_,its.toArray.size,fun i v=>its.toArray[i]?=some v,_,fun i=>ns.getD i 0,rfl,(Walks.list (A:=X.A.in1) (I.ok.hd hc) _ _ (zC hlt) its.toArray).toS,⟨⟨_,yZ _ rfl,rfl,rfl⟩,hlist.push _⟩,fun b hb=>?_,fun i v e=>hv i v (by simpa using e),fun s' t' hm=>?_⟩
 · show b < (s.heap.push _).objs.size
   rw[Heap.size_push]
   rcases yX.mp hb with e | hb
   · rw[e];exact Nat.lt_succ_self _
   · rw[List.mem_singleton.mp hb];exact Nat.lt_succ_of_lt hlt
 · have hk:∀b o,s.heap.get? b=some o→s'.heap.get? b=some o:=fun b o e=>
     hm.heap b o (fun hI=>absurd (zM e) (by rw[List.mem_singleton.mp hI];exact yF _)) (zW _ e)
   rw[Moved.eq_with hm]
   have es:preSum (fun i=>ns.getD i 0) its.toArray.size=ns.sum:=by
     rw[zJ,hl,preSum_take ns _ (zR _),List.take_length]
   rw[es]
   exact⟨.int ns.sum,H,I.kept (h':=s'.heap) (t':=s'.toks) hk,⟨t',rfl⟩,q⟩
end L2
namespace DL
open PySem PySem.Spec L2
theorem kSum {X:Cx}{K:Frg}(h:X.K=K) (hc:X.calm=true):CallR X (.builtin "sum") (rSum K):=h▸call_sum hc
section
variable {K:Frg}{M:Own}{Q:DS→Own→Prop}{H:Hp}
theorem dvs_ints {W:Addr→Prop}:∀{ns:List Int}{vs:List V},DVs K H W (ns.map PyData.int) vs→vs=ns.map V.int
 | [],vs,h=>by unfold DVs at h;subst h;rfl
 | n::ns,vs,h=>by
   rw[zI] at h
   unfold DVs at h
   obtain⟨v,r,rfl,h1,h2⟩:=h
   unfold DV at h1
   rw[h1,dvs_ints h2];rfl
theorem rd_sum {ns:List Int}(q:Q (.d (.int ns.sum)) M):DR K (rSum K) [.d (.list (ns.map .int))] M Q:=fun H vs QQ oa s k=>by
 obtain⟨v,r,rfl,h1,h2⟩:=s
 cases h2
 unfold SI DV at h1
 obtain⟨a,vs,rfl,hl,hd⟩:=h1
 have e:=dvs_ints hd
 subst e
 exact⟨a,ns,rfl,hl.sq,k _ H (.d (.int ns.sum)) M oa si_of_int Step.refl q⟩
end
end DL
namespace DL
open PySem PySem.Spec L2
def spareT (sp:List Str) (D:Deed):List Str:=match D.made with | some _=>sp.drop 1 | none=>sp
theorem after_sub {so sp:List Str}{D:Deed}(h:∀n,D.made=some n→sp.head?=some n):(namesT so D++spareT sp D).Sublist (so++sp):=by
 have hd:∀n,D.made=some n→sp=n::sp.drop 1:=fun n e=>by
   have:=h n e
   cases sp with
   | nil=>simp at this
   | cons a r=>simp at this;subst this;rfl
 cases D with
 | put x p k=>
   show((so++[x])++sp.drop 1).Sublist _
   conv=>rhs;rw[hd x rfl]
   rw[List.append_assoc]
   exact List.Sublist.refl _
 | take x=>exact(List.filter_sublist).append (List.Sublist.refl _)
 | move x p=>exact List.Sublist.refl _
 | count x k=>exact List.Sublist.refl _
 | name x y=>
   show(((so.filter fun n=>decide (n≠x))++[y])++sp.drop 1).Sublist _
   conv=>rhs;rw[hd y rfl]
   rw[List.append_assoc]
   exact List.filter_sublist.append (List.Sublist.refl _)
 | split x y p k=>
   show((so++[y])++sp.drop 1).Sublist _
   conv=>rhs;rw[hd y rfl]
   rw[List.append_assoc]
   exact List.Sublist.refl _
 | join x y=>exact(List.filter_sublist).append (List.Sublist.refl _)
def namesOK (ys:List Str):Prop:=(∀z∈ys,nameZ z)∧ys.Nodup∧ys.length≤26
theorem namesOK.sub {as bs:List Str}(h:namesOK bs) (s:as.Sublist bs):namesOK as:=⟨fun z hz=>h.1 z (s.subset hz),h.2.1.sublist s,zN s.length_le h.2.2⟩
def strL (ys:List Str):PyData:=.list (ys.map .str)
def S__law_deed:FSp:=⟨fun xs M=>∃(p:Addr) (o:MO) (so sp:List Str),xs=[.loc p,.d (strL so),.d (strL sp)]∧M p=some o∧pack1 o∧namesOK (so++sp)∧(so≠[]∨sp≠[]),
 fun xs M y M'=>∀(p:Addr) (so sp:List Str),xs=[.loc p,.d (strL so),.d (strL sp)]→∃(D:Deed) (o:MO),y = .d D.d∧D.real∧amissD so D=none∧(∀n,D.made=some n→sp.head?=some n)∧pack1 o∧M'=M.put p o⟩
theorem deedB_call {p:Addr}{o:MO}{so sp:List Str}{M:Own}{Q:DS→Own→Prop}(m:M p=some o) (ho:pack1 o) (hn:namesOK (so++sp)) (he:so≠[]∨sp≠[]) (q:∀(D:Deed) (o':MO),D.real→amissD so D=none→(∀n,D.made=some n→sp.head?=some n)→pack1 o'→Q (.d D.d) (M.put p o')) :
   [DS.loc p,.d (strL so),.d (strL sp)].length=3∧S__law_deed.pre [.loc p,.d (strL so),.d (strL sp)] M∧∀x M',S__law_deed.post [.loc p,.d (strL so),.d (strL sp)] M x M'→Q x M':=
 ⟨rfl,⟨p,o,so,sp,rfl,m,ho,hn,he⟩,fun x M' h=>by obtain⟨D,o',rfl,h1,h2,h3,h4,rfl⟩:=h p so sp rfl;exact q D o' h1 h2 h3 h4⟩
def S__law_after:FSp:=⟨fun xs M=>∃(D:Deed) (so sp:List Str),xs=[.d D.d,.d (strL so),.d (strL sp)]∧D.real∧namesOK (so++sp)∧amissD so D=none,
 fun xs M y M'=>∀(D:Deed) (so sp:List Str),xs=[.d D.d,.d (strL so),.d (strL sp)]→y = .d (.tuple [strL (namesT so D),strL (spareT sp D)])∧M'=M⟩
theorem after_call {D:Deed}{so sp:List Str}{M:Own}{Q:DS→Own→Prop}(hr:D.real) (hn:namesOK (so++sp)) (ha:amissD so D=none) (q:Q (.d (.tuple [strL (namesT so D),strL (spareT sp D)])) M) :
   [DS.d D.d,.d (strL so),.d (strL sp)].length=3∧S__law_after.pre [.d D.d,.d (strL so),.d (strL sp)] M∧∀x M',S__law_after.post [.d D.d,.d (strL so),.d (strL sp)] M x M'→Q x M':=
 ⟨rfl,⟨D,so,sp,rfl,hr,hn,ha⟩,fun x M' h=>by obtain⟨rfl,rfl⟩:=h D so sp rfl;exact q⟩
def lineD (l:Str×Deed):PyData:=.tuple [.str l.1,l.2.d]
def bookD (w:List Th) (ls:List (Str×Deed)):PyData:=.tuple [wD w,.tuple (ls.map lineD)]
def kinds9:List Str:=["put", "move", "count", "name", "split", "join", "take", "count", "split"]
theorem kinds9_ok:∀k∈kinds9,PyData.strOk k=true:=by decide +kernel
theorem kind9_sh {k:Str}(h:k∈kinds9):zH (.str k)=true:=shaped_of (kinds9_ok k h) (by simp[PyData.depth])
theorem shaped_names {ys:List Str}(h:∀z∈ys,nameZ z):zH (strL ys)=true:=shaped_strs fun z hz=>strOk_name (h z hz)
theorem list_nil_eq (ys:List Str):PyData.eqv (strL ys) (.list [])=ys.isEmpty:=eqvAll_strs_nil ys
theorem others_eqB {ys:List Str}{y:Str}:((ys.map PyData.str).filter fun d=>!PyData.eqv d (.str y)).map id=(ys.filter fun z=>decide (z≠y)).map .str:=by
 rw[List.map_id,xU]
 congr 1
 apply List.filter_congr
 intro z _
 show(!PyData.eqv (.str z) (.str y))=_
 rw[eqv_str]
 by_cases e:z=y <;> simp[e]
end DL
namespace DL
open PySem PySem.Spec L2
theorem strL_inj {as bs:List Str}(h:strL as=strL bs):as=bs:=map_str_inj (by unfold strL at h;exact PyData.list.inj h)
theorem pss_inj {p p':Addr}{so so' sp sp':List Str}(e:[DS.loc p,.d (strL so),.d (strL sp)]=[.loc p',.d (strL so'),.d (strL sp')]):p=p'∧so=so'∧sp=sp':=by
 simp only[List.cons.injEq,DS.loc.injEq,DS.d.injEq,and_true] at e
 exact⟨e.1,strL_inj e.2.1,strL_inj e.2.2⟩
theorem dss_inj {D D':Deed}{so so' sp sp':List Str}(e:[DS.d D.d,.d (strL so),.d (strL sp)]=[.d D'.d,.d (strL so'),.d (strL sp')]):D=D'∧so=so'∧sp=sp':=by
 simp only[List.cons.injEq,DS.d.injEq,and_true] at e
 exact⟨deed_inj e.1,strL_inj e.2.1,strL_inj e.2.2⟩
end DL
namespace DL
open PySem PySem.Spec L2
theorem noempty {ys:List Str}(h:∀z∈ys,nameZ z):(ys.filter fun z=>decide (z≠Str.ofString ""))=ys:=List.filter_eq_self.mpr fun z hz=>by
 have:=(h z hz).1
 simp
 intro e
 rw[e] at this
 exact absurd this (by decide +kernel)
def wB2 (t:Th):Str×List PyData:=(t.1,[.int t.2.1,.int t.2.2])
def unB (u:Str×List PyData):Th:=match u with | (a,[.int p,.int c])=>(a,p,c) | (a,_)=>(a,0,0)
theorem tupB_wT2 (w:List Th):(w.map wB2).map tupD=w.map thD:=by rw[zD];rfl
theorem unB_perm {ts:List (Str×List PyData)}{w:List Th}(h:ts.Perm (w.map wB2)):(ts.map unB).Perm w∧ts.map tupD=(ts.map unB).map thD∧(ts.map unB).map (·.1)=ts.map (·.1):=by
 have e:(w.map wB2).map unB=w:=by rw[zD];exact List.map_id _
 refine⟨by have:=h.map unB;rw[e] at this;exact this,?_,?_⟩
 · rw[zD]
   apply yM
   intro u hu
   obtain⟨t,_,rfl⟩:=zL.mp (h.mem_iff.mp hu)
   rfl
 · rw[zD]
   apply yM
   intro u hu
   obtain⟨t,_,rfl⟩:=zL.mp (h.mem_iff.mp hu)
   rfl
end DL
namespace DL
open PySem PySem.Spec L2
theorem atI_last {α:Type}{xs:List α}{x:α}{n:Nat}(hn:xs.length=n+1) (h:xs[n]?=some x):atI xs (-1)=some x:=by
 have e:ixN xs.length (-1)=some n:=by
   unfold ixN
   rw[hn,if_neg (by omega),if_pos (by omega)]
   congr 1
   omega
 unfold atI
 rw[e]
 exact h
theorem rd_tuplO {K:Frg}{M:Own}{Q:DS→Own→Prop}{a:Addr}{ds:List PyData}(m:M a=some (.l ds)) (q:Q (.d (.tuple ds)) M):DR K (rTupleOf K) [.loc a] M Q:=fun H vs QQ oa s k=>by
 obtain⟨v,r,rfl,h1,h2⟩:=s
 cases h2
 unfold SI at h1
 subst h1
 obtain⟨vs,h0,hd⟩:=oa a _ m
 refine⟨a,vs,rfl,.inl ⟨SqL.of h0,fun p hp=>?_⟩⟩
 have g:Grow K M.W M.W H (upd H p (.tup vs)):=grow_new _ hp
 refine k _ _ (.d (.tuple ds)) M (oa.new hp) ?_ ⟨g⟩ q
 unfold SI DV
 exact⟨p,vs,rfl,.inl ⟨fun w=>w (oa.none hp),.inl upd_same⟩,hd.grow g⟩
theorem hands_ok:∀z∈[Str.ofString "me", "you", "abcdefgh"],nameZ z:=by
 intro z hz
 simp only[yX,xX,or_false] at hz
 rcases hz with rfl | rfl | rfl <;> (refine⟨by decide +kernel,by decide +kernel,?_⟩;decide +kernel)
end DL
namespace DL
open PySem PySem.Spec L2
theorem mixB_bits:xJ 915965594177219015054603514932384110774149374281672134266497≤256:=by decide +kernel
theorem mixB_ok {c:Int}(h:xJ c≤2 ^ 21):IntMulOk c 915965594177219015054603514932384110774149374281672134266497:=PySem.IntMulOk.of_le h mixB_bits (by decide)
end DL
namespace DL
open PySem PySem.Spec L2
def idict (ts:List (Int×PyData)):List (PyData×PyData):=ts.map fun t=>(PyData.int t.1,t.2)
def putI (ts:List (Int×PyData)) (k:Int) (d:PyData):List (Int×PyData):=
 if (ts.any fun t=>decide (t.1=k))=true then ts.map (fun t=>if t.1=k then (t.1,d) else t) else ts++[(k,d)]
def lookI:List (Int×PyData)→Int→Option PyData
 | [],_=>none
 | t::r,k=>if t.1=k then some t.2 else lookI r k
section
variable {K:Frg}{H:Hp}{W:Addr→Prop}
theorem dkvi_cons {t:Int×PyData}{ts:List (Int×PyData)}{ks:List (Key×V)}:DKV K H W (idict (t::ts)) ks↔∃v r,ks=(Sum.inl t.1,v)::r∧DV K H W t.2 v∧DKV K H W (idict ts) r:=by
 unfold idict
 rw[zI]
 constructor
 · intro h
   unfold DKV at h
   obtain⟨k',v,r,e,e2,h1,h2⟩:=h
   cases k' with
   | inr i=>cases e2
   | inl x=>
     have e3:t.1=x:=by simpa [keyD] using e2
     subst e3
     exact⟨v,r,e,h1,h2⟩
 · rintro⟨v,r,e,h1,h2⟩
   unfold DKV
   exact⟨Sum.inl t.1,v,r,e,rfl,h1,h2⟩
theorem dkvi_nil {ks:List (Key×V)}:DKV K H W (idict []) ks↔ks=[]:=by unfold idict;simp only[List.map_nil];unfold DKV;exact Iff.rfl
theorem dkvi_keys:∀{ts:List (Int×PyData)}{ks:List (Key×V)},DKV K H W (idict ts) ks→ks.map (·.1)=(ts.map (·.1)).map Sum.inl
 | [],ks,h=>by rw[dkvi_nil.mp h];rfl
 | t::ts,ks,h=>by obtain⟨v,r,rfl,_,h2⟩:=dkvi_cons.mp h;simp[dkvi_keys h2]
theorem dkvi_any {k:Int}:∀{ts:List (Int×PyData)}{ks:List (Key×V)},DKV K H W (idict ts) ks→(ks.any fun kv=>decide (kv.1=Sum.inl k))=ts.any fun t=>decide (t.1=k)
 | [],ks,h=>by rw[dkvi_nil.mp h];rfl
 | t::ts,ks,h=>by
   obtain⟨v,r,rfl,_,h2⟩:=dkvi_cons.mp h
   rw[List.any_cons,List.any_cons,dkvi_any h2]
   congr 1
   by_cases e:t.1=k
   · rw[decide_eq_true e,decide_eq_true (by rw[e])]
   · rw[decide_eq_false e,decide_eq_false fun q=>e (by injection q)]
theorem dkvi_repl {k:Int}{d:PyData}{v:V}(hd:DV K H W d v):∀{ts:List (Int×PyData)}{ks:List (Key×V)},DKV K H W (idict ts) ks →
   DKV K H W (idict (ts.map fun t=>if t.1=k then (t.1,d) else t)) (ks.map fun kv=>if kv.1=Sum.inl k then (kv.1,v) else kv)
 | [],ks,h=>by rw[dkvi_nil.mp h];exact dkvi_nil.mpr rfl
 | t::ts,ks,h=>by
   obtain⟨u,r,rfl,h1,h2⟩:=dkvi_cons.mp h
   rw[zI,zI]
   by_cases e:t.1=k
   · rw[if_pos e,if_pos (by rw[e])]
     exact dkvi_cons.mpr ⟨v,_,rfl,hd,dkvi_repl hd h2⟩
   · rw[if_neg e,if_neg fun q=>e (by injection q)]
     exact dkvi_cons.mpr ⟨u,_,rfl,h1,dkvi_repl hd h2⟩
theorem dkvi_snoc {k:Int}{d:PyData}{v:V}(hd:DV K H W d v):∀{ts:List (Int×PyData)}{ks:List (Key×V)},DKV K H W (idict ts) ks→DKV K H W (idict (ts++[(k,d)])) (ks++[(Sum.inl k,v)])
 | [],ks,h=>by rw[dkvi_nil.mp h];exact dkvi_cons.mpr ⟨v,[],rfl,hd,dkvi_nil.mpr rfl⟩
 | t::ts,ks,h=>by
   obtain⟨u,r,rfl,h1,h2⟩:=dkvi_cons.mp h
   exact dkvi_cons.mpr ⟨u,_,rfl,h1,dkvi_snoc hd h2⟩
theorem dkvi_put {k:Int}{d:PyData}{v:V}{ts:List (Int×PyData)}{ks:List (Key×V)}(h:DKV K H W (idict ts) ks) (hd:DV K H W d v):DKV K H W (idict (putI ts k d)) (putK ks (Sum.inl k) v):=by
 unfold putI putK
 rw[dkvi_any h]
 by_cases c:(ts.any fun t=>decide (t.1=k))=true
 · rw[if_pos c,if_pos c];exact dkvi_repl hd h
 · rw[if_neg c,if_neg c];exact dkvi_snoc hd h
theorem dkvi_look {k:Int}:∀{ts:List (Int×PyData)}{ks:List (Key×V)},DKV K H W (idict ts) ks→(∃d v,lookI ts k=some d∧valV ks (Sum.inl k)=some v∧DV K H W d v)∨(lookI ts k=none∧valV ks (Sum.inl k)=none)
 | [],ks,h=>by rw[dkvi_nil.mp h];exact .inr ⟨rfl,rfl⟩
 | t::ts,ks,h=>by
   obtain⟨u,r,rfl,h1,h2⟩:=dkvi_cons.mp h
   by_cases e:t.1=k
   · exact .inl ⟨t.2,u,by simp[lookI,e],valV_pos (by rw[e]),h1⟩
   · have e':¬(Sum.inl t.1:Key)=Sum.inl k:=fun q=>e (by injection q)
     rcases dkvi_look (k:=k) h2 with ⟨d,v,a1,a2,a3⟩ | ⟨a1,a2⟩
     · exact .inl ⟨d,v,by simp[lookI,e,a1],by rw[valV_neg (p:=(Sum.inl t.1,u)) e'];exact a2,a3⟩
     · exact .inr ⟨by simp[lookI,e,a1],by rw[valV_neg (p:=(Sum.inl t.1,u)) e'];exact a2⟩
end
section
variable {K:Frg}{M:Own}{Q:DS→Own→Prop}{ρ:List (Option DS)}{H:Hp}{td ty tv:TE}{D:EndsD}
theorem de_dgetOI (h:DE K td ρ M fun x M1=>DE K ty ρ M1 fun y M2=>∃(a:Addr) (ts:List (Int×PyData)) (k:Int) (d:PyData),x = .loc a∧y = .d (.int k)∧M2 a=some (.d (idict ts))∧lookI ts k=some d∧Q (.d d) M2):DE K (tDGet td ty) ρ M Q:=fun σ H QQ R kk=>
 h σ H _ R fun v H1 x M1 o1 s1 t1 h1=>h1 σ H1 _ (R.step o1 t1) fun u H2 y M2 o2 s2 t2 h2=>by
   obtain⟨a,ts,k,d,rfl,rfl,m,l,q⟩:=h2
   unfold SI at s1
   subst s1
   rw[si_int s2]
   obtain⟨ks,e1,e2⟩:=o2 a _ m
   rcases dkvi_look (k:=k) e2 with ⟨d',w',a1,a2,a3⟩ | ⟨a1,a2⟩
   · rw[l] at a1
     cases a1
     exact⟨a,w',rfl,.inl ⟨ks,Sum.inl k,.inl e1,rfl,a2.symm⟩,kk _ H2 (.d d) M2 o2 a3 (t1.trans t2) q⟩
   · rw[l] at a1;cases a1
theorem de_dinOI (h:DE K ty ρ M fun y M1=>DE K td ρ M1 fun x M2=>∃(a:Addr) (ts:List (Int×PyData)) (k:Int),x = .loc a∧y = .d (.int k)∧M2 a=some (.d (idict ts))∧Q (.d (.bool (lookI ts k).isSome)) M2):DE K (tDIn ty td) ρ M Q:=fun σ H QQ R kk=>
 h σ H _ R fun v H1 x M1 o1 s1 t1 h1=>h1 σ H1 _ (R.step o1 t1) fun u H2 y M2 o2 s2 t2 h2=>by
   obtain⟨a,ts,k,rfl,rfl,m,q⟩:=h2
   unfold SI at s2
   subst s2
   rw[si_int s1]
   obtain⟨ks,e1,e2⟩:=o2 a _ m
   refine⟨a,valV ks (Sum.inl k),rfl,.inl ⟨ks,Sum.inl k,.inl e1,rfl,rfl⟩,kk _ H2 _ M2 o2 ?_ (t1.trans t2) q⟩
   rcases dkvi_look (k:=k) e2 with ⟨d',w',a1,a2,a3⟩ | ⟨a1,a2⟩
   · rw[a1,a2];exact si_of_bl
   · rw[a1,a2];exact si_of_bl
theorem ds_dputI (h:DE K tv ρ M fun z M1=>DE K td ρ M1 fun x M2=>DE K ty ρ M2 fun y M3=>∃(a:Addr) (ts:List (Int×PyData)) (k:Int) (d:PyData),z = .d d∧x = .loc a∧y = .d (.int k)∧M3 a=some (.d (idict ts))∧ts.length < sizeLine∧D.nx ρ (M3.put a (.d (idict (putI ts k d))))):DSt K (sDPut td ty tv) ρ M D:=fun σ H E R k1 k2 k3 k4=>
 h σ H _ R fun v H1 z M1 o1 s1 t1 h1=>h1 σ H1 _ (R.step o1 t1) fun u H2 x M2 o2 s2 t2 h2=>h2 σ H2 _ (R.step o2 (t1.trans t2)) fun yv H3 y M3 o3 s3 t3 h3=>by
   obtain⟨a,ts,k,d,rfl,rfl,rfl,m,hl,q⟩:=h3
   unfold SI at s2
   subst s2
   rw[si_int s3]
   obtain⟨ks,e1,e2⟩:=o3 a _ m
   have hd:DV K H3 M3.W d v:=DV.grow (t2.trans t3).grow s1
   obtain⟨o4,t4⟩:=own_writeD o3 m (dkvi_put (k:=k) e2 hd)
   have hlen:ks.length < sizeLine:=by rw[dkv_len e2];unfold idict;rw[zX];exact hl
   have ta:=((t1.trans t2).trans t3).trans t4
   exact⟨a,_,rfl,.inl ⟨ks,Sum.inl k,e1,rfl,hlen,rfl⟩,k1 ρ _ σ _ (R.step o4 ta) ta q⟩
theorem de_dninOI (h:DE K ty ρ M fun y M1=>DE K td ρ M1 fun x M2=>∃(a:Addr) (ts:List (Int×PyData)) (k:Int),x = .loc a∧y = .d (.int k)∧M2 a=some (.d (idict ts))∧Q (.d (.bool (!(lookI ts k).isSome))) M2):DE K (tDNotIn ty td) ρ M Q:=fun σ H QQ R kk=>
 h σ H _ R fun v H1 x M1 o1 s1 t1 h1=>h1 σ H1 _ (R.step o1 t1) fun u H2 y M2 o2 s2 t2 h2=>by
   obtain⟨a,ts,k,rfl,rfl,m,q⟩:=h2
   unfold SI at s2
   subst s2
   rw[si_int s1]
   obtain⟨ks,e1,e2⟩:=o2 a _ m
   refine⟨a,valV ks (Sum.inl k),rfl,.inl ⟨ks,Sum.inl k,.inl e1,rfl,rfl⟩,kk _ H2 _ M2 o2 ?_ (t1.trans t2) q⟩
   rcases dkvi_look (k:=k) e2 with ⟨d',w',a1,a2,a3⟩ | ⟨a1,a2⟩
   · rw[a1,a2];exact si_of_bl
   · rw[a1,a2];exact si_of_bl
end
section
variable {K:Frg}{M:Own}{ρ:List (Option DS)}{wi:TI}{g:TG}{H:Hp}
theorem putI_len (ts:List (Int×PyData)) (k:Int) (d:PyData):(putI ts k d).length≤ts.length+1:=by
 unfold putI
 split
 · rw[zX];exact Nat.le_succ _
 · rw[yY];exact zR _
theorem puts_len (f:PyData→Int) (w:PyData→PyData):∀(ds:List PyData) (ts:List (Int×PyData)),(ds.foldl (fun ts d=>putI ts (f d) (w d)) ts).length≤ts.length+ds.length
 | [],ts=>zR _
 | d::r,ts=>by
   have h1:=puts_len f w r (putI ts (f d) (w d))
   have h2:=putI_len ts (f d) (w d)
   rw[yR]
   show(r.foldl _ (putI ts (f d) (w d))).length≤_
   omega
theorem de_dcompI {fr:List (Option Nat)}{tt:TT}{tk tv:TE}{T:List Nat}{Q:DS→Own→Prop}(ho:GOnly g T) (hT:∀i∈T,∀j,fr[i]?≠some (some j))
   (h:DI K wi ρ M fun ds M1=>ds.length < sizeLine∧∃(c:PyData→Bool) (f:PyData→Int) (w:PyData→PyData),True ∧
     (∀d∈ds,∀M',DG K g d (captD fr ρ) M' fun ρ2 M2=>M2=M'∧DT K tt ρ2 M2 fun b M3=>M3=M'∧b=c d∧(c d=true→DE K tk ρ2 M3 fun y M4=>y = .d (.int (f d))∧M4=M'∧DE K tv ρ2 M4 fun z M5=>z = .d (w d)∧M5=M')) ∧
     ∀p,M1 p=none→Q (.loc p) (M1.put p (.d (idict ((ds.filter c).foldl (fun ts d=>putI ts (f d) (w d)) []))))) :
   DE K (tDComp fr wi g tt tk tv) ρ M Q:=fun σ H QQ R k=>
 h σ H _ R fun J ds H1 M1 o1 t1 wd ⟨hsz,c,f,w,nd,he,hq⟩=>by
   intro A hA
   obtain⟨oA,sA⟩:=own_newD (kvs:=[]) (ks:=[]) o1 hA (by unfold DKV;rfl)
   have hM:=o1.none hA
   let acc:Nat→List (Int×PyData):=fun i=>((ds.take i).filter c).foldl (fun ts d=>putI ts (f d) (w d)) []
   refine⟨fun i m ys H2=>m=ds.length - i∧i≤ds.length∧H2 A=some (.dK ys)∧OA K H2 (M1.put A (.d (idict (acc i))))∧Step K M1 (M1.put A (.d (idict (acc i)))) H1 H2,⟨_,rfl,xT _,upd_same,oA,sA⟩,?_⟩
   rintro i m ys H2 ⟨rfl,hi,hys,oa,st⟩
   refine⟨hys,?_⟩
   by_cases hlt:i < ds.length
   · refine .inr ⟨wd.go i H2 _ hlt oa st,fun x H3 y=>?_⟩
     obtain⟨oa3,st3,d,e1,e2⟩:=wd.yld i H2 _ x H3 oa st hlt y
     have Rc:Rel K (M1.put A (.d (idict (acc i)))) (captD fr ρ) (L2.capt fr σ) H3:=((R.step o1 t1).step oa3 (st.trans st3)).capt
     have ts:(ds.take (i+1)).filter c=(ds.take i).filter c++(if c d then [d] else []):=take_succ_filter c ds i d e1
     refine ho _ _ _ _ (he d (yN e1) _ (L2.capt fr σ) H3 x _ Rc e2 fun ρ3 M3 σ3 H4 R3 st4 ⟨eM,b3⟩ hext=>⟨fun i' v' hv'=>?_,?_⟩)
     · obtain⟨j,f1,f2⟩:=captD_get hv'
       rw[hext i' fun hm=>hT i' hm j f1]
       exact hv'
     · subst eM
       refine b3 σ3 H4 _ R3 fun b H5 M5 o5 st5 ⟨eM5,eb,h5⟩=>?_
       subst eM5
       have sx:=((st.trans st3).trans st4).trans st5
       cases hb:c d with
       | false=>
         rw[hb] at eb
         subst eb
         rw[if_neg nft]
         obtain⟨ks,q1,q2⟩:=o5 A _ zU
         have ea:acc (i+1)=acc i:=by show(((ds.take (i+1)).filter c).foldl _ _)=_;rw[ts,hb];simp[acc]
         refine⟨ks,ds.length - (i+1),by omega,rfl,hlt,q1,?_,?_⟩
         · rw[ea];exact o5
         · rw[ea];exact sx
       | true=>
         rw[hb] at eb
         subst eb
         rw[if_pos rfl]
         refine h5 hb σ3 H5 _ (R3.step o5 st5) fun y H6 z M6 o6 s6 st6 ⟨ez,eM6,h6⟩=>?_
         subst ez eM6
         refine h6 σ3 H6 _ ((R3.step o5 st5).step o6 st6) fun y2 H7 z2 M7 o7 s7 st7 ⟨ez2,eM7⟩=>?_
         subst ez2 eM7
         obtain⟨ks,q1,q2⟩:=o7 A _ zU
         obtain⟨w1,w2⟩:=own_writeD o7 zU (dkvi_put (k:=f d) q2 s7)
         have ea:acc (i+1)=putI (acc i) (f d) (w d):=by
           show(((ds.take (i+1)).filter c).foldl _ _)=_
           rw[ts,hb,if_pos rfl,List.foldl_append];rfl
         have hlen:ks.length < sizeLine:=by
           rw[dkv_len q2]
           unfold idict
           rw[zX]
           refine zQ (puts_len _ _ _ _) ?_
           rw[List.length_nil,Nat.zero_add]
           exact zQ (zN (yJ _ _) (by rw[List.length_take];omega)) hsz
         rw[yI] at w1 w2
         refine⟨ks,Sum.inl (f d),si_int s6,q1,hlen,ds.length - (i+1),by omega,rfl,hlt,upd_same,?_,?_⟩
         · rw[ea];exact w1
         · rw[ea];exact((sx.trans st6).trans st7).trans w2
   · have e:i=ds.length:=by omega
     subst e
     refine .inl ⟨wd.stop H2 _ oa st,k _ H2 (.loc A) _ oa rfl (t1.trans st) ?_⟩
     have:=hq A hM
     have ea:acc ds.length=(ds.filter c).foldl (fun ts d=>putI ts (f d) (w d)) []:=by show(((ds.take ds.length).filter c).foldl _ _)=_;rw[List.take_length]
     rw[ea]
     exact this
end
end DL
namespace L2
open PySem PySem.Spec PyProof.Rows PySem.W
section
variable {prog:Program}{w:World}{A:Around}{E:Value→Shared→Prop}{s:Shared}
theorem sorted_dictI {d:Addr}{kvs:List (Key×Value)}{ss:List Int}{Q:Value→Shared→Prop}(hh:A.handled=none) (hd:(d==sysModules)=false) (dd:s.heap.DictOf (mixKind prog w) d kvs) (hk:kvs.map (·.1)=ss.map Sum.inl) (h64:ss.length < 64)
   (h:∀(h1 h':Heap) (tk:Nat) (out:List Value) (e:Nat) (ss':List Int),(∀b o,s.heap.get? b=some o→h1.get? b=some o)→(∀b o,h1.get? b=some o→h'.get? b=some o)→h'.get? h1.objs.size=some (seqObj "list" out.toArray e)→IntsAre out ss'→ss'.Perm ss→ss'.Pairwise (·≤·)→Q (.ref h1.objs.size) { s with heap:=h',toks:=tk }) :
   wpAny (model prog w) A (call (.builtin "sorted") [.ref d]) Q E s:=by
 refine Calls.call_function_entry kind_sorted plain_sorted entry_sorted (args_sorted1 _) ?_
 obtain⟨ep,hat⟩:=dd.dictAt
 have hlen:kvs.length=ss.length:=by have:=congrArg List.length hk;simpa using this
 unfold Builtin.«sorted»;refine zZ (m:=checkCount "sorted" 1 1 _) (zY (zZ (kdu_collect (A:=A.in1) (kdl_dict (kvs:=kvs) (ep:=ep) hd) hh hat (by rw[hlen,sizeLine_eq];omega) fun h' tk acc hold hacc=>?_)))
 have hl:acc.toList.length=ss.length:=by rw[Array.length_toList,hacc.1,hlen]
 have hS:IntsAre acc.toList ss:=by
   have go:∀(vs:List Value) (zs:List Int),vs.length=zs.length→(∀(i:Nat) v x,vs[i]?=some v→zs[i]?=some x→∃t,v=Value.int x t)→IntsAre vs zs:=by
     intro vs
     induction vs with
     | nil=>intro zs hz _;cases zs with
       | nil=>exact .nil
       | cons _ _=>simp at hz
     | cons v vs ih=>intro zs hz hv;cases zs with
       | nil=>simp at hz
       | cons x zs=>
         obtain⟨t,rfl⟩:=hv 0 v x rfl rfl
         exact .cons x t (ih zs (by simpa using hz) fun i v x e1 e2=>hv (i+1) v x (by simpa using e1) (by simpa using e2))
   refine go _ _ hl fun i v x e1 e2=>?_
   obtain⟨k,y,g1,g2⟩:=hacc.2 i v (by rw[← Array.getElem?_toList];exact e1)
   have e3:(kvs.map (·.1))[i]?=some k:=by rw[zF,g1];rfl
   rw[hk,zF,e2] at e3
   cases e3
   have g2':keyIs (.inl x) v=true:=g2
   rcases keyIs_shape g2' with ⟨i,t,e,e'⟩ | ⟨z,t,e,e'⟩
   · cases e;exact⟨t,e'⟩
   · cases e
 refine zZ (wpAny_newList ?_ (by rw[hl,sizeLine_eq];omega))
 have hoL:(h'.push (seqObj "list" acc.toList.toArray 0)).get? h'.objs.size=some (seqObj "list" acc.toList.toArray 0):=yZ _ rfl
 show wpAny _ _ _ _ _ { s with heap:=h'.push (seqObj "list" acc.toList.toArray 0),toks:=tk }
 refine zZ (wpAny_holding (wpAny_call_entry (s:={ s with heap:=h'.push (seqObj "list" acc.toList.toArray 0),toks:=tk }) slot_list_sort ⟨_,hoL,rfl⟩ entry_list_sort (list_sort_tree hoL hS (by rw[hl];exact h64) fun out ns' a1 a2 a3=>⟨_,rfl,?_⟩) (args_list_sort _)))
 obtain⟨e,he⟩:=sortedHeap_at (out:=out) hoL
 refine zY ⟨_,rfl,h h' _ tk out.toList e ns' hold (fun b o q=>?_) (by rw[Array.toArray_toList];exact he) a1 a2 a3⟩
 have lt:b < h'.objs.size:=zM q
 rw[sortedHeap_old (zC lt) (by rw[size_push'];exact Nat.lt_succ_of_lt lt)]
 exact zW _ q
end
section
variable {X:Cx}
theorem intsV:∀{vs:List Value}{ns:List Int},IntsAre vs ns→Vals (ns.map V.int) vs
 | _,_,.nil=>.nil
 | _,_,.cons n t r=>.cons ⟨t,rfl⟩ (intsV r)
theorem ints_of:∀{ns:List Int}{vs:List Value},Vals (ns.map V.int) vs→IntsAre vs ns
 | [],_,.nil=>.nil
 | n::ns,_,.cons r t=>by obtain⟨u,rfl⟩:=r;exact .cons n u (ints_of t)
def rSortI (K:Frg):List V→Hp→VK→Prop:=fun xs H Q=>∃(p:Addr) (ss:List Int),xs=[.ref p]∧SqL K H p (ss.map V.int)∧ss.length < 64∧∀(ss':List Int) (q:Addr),ss'.Perm ss→ss'.Pairwise (·≤·)→H q=none→Q (.ref q) (upd H q (.lst (ss'.map V.int)))
def rSortDI:List V→Hp→VK→Prop:=fun xs H Q=>∃(p:Addr) (kvs:List (Key×V)) (ss:List Int),xs=[.ref p]∧Rd H p (.dK kvs)∧kvs.map (·.1)=ss.map Sum.inl∧ss.length < 64∧∀(ss':List Int) (q:Addr),ss'.Perm ss→ss'.Pairwise (·≤·)→H q=none→Q (.ref q) (upd H q (.lst (ss'.map V.int)))
theorem call_sortI:CallR X (.builtin "sorted") (rSortI X.K):=by
 intro pins s σ H xs us Q I r h
 obtain⟨p,ss,rfl,hp,h64,q⟩:=h
 obtain⟨u,rfl,ru⟩:=vals1 r
 cases ru
 obtain⟨its,rv,pl,hz⟩:=I.list hp
 have hS:=ints_of rv
 have el:=rv.length
 rw[zX] at el
 refine sorted_ints pl.isList hS (by omega) fun out ss' h1 h2 h3=>?_
 obtain⟨e,he⟩:=sortedAll_at s.heap its out
 have hn:H (s.heap.objs.size+1)=none:=I.hok.fresh (Nat.le_succ _)
 have hlen:=h2.length_eq
 refine⟨.ref (s.heap.objs.size+1),_,I.laid (t':=s.toks) (o:=.lst (ss'.map V.int)) (fun b o eb=>sortedAll_old eb) (Nat.le_succ _) ?_,rfl,q ss' _ h2 h3 hn⟩
 refine⟨by rw[zX,hlen];exact zN (xR h64) (by decide),out.toList,e,intsV h1,?_⟩
 have he':=he
 simpa [seqObj] using he'
theorem call_sortDI (hc:X.calm=true):CallR X (.builtin "sorted") rSortDI:=by
 intro pins s σ H xs us Q I r h
 obtain⟨p,kvs,ss,rfl,hp,hk,h64,q⟩:=h
 obtain⟨u,rfl,ru⟩:=vals1 r
 cases ru
 obtain⟨z,hd,vs,rel,dd⟩:=dk_rd I.hok hp
 have hk':vs.map (·.1)=ss.map Sum.inl:=by
   rw[← hk]
   clear hk dd z hp q
   unfold KV at rel
   induction rel with
   | nil=>rfl
   | cons h t ih=>simp[h.1,ih]
 refine sorted_dictI (I.ok.hd hc) hd dd hk' h64 fun h1 h' tk out e ss' k1 k2 ho hS hperm hsort=>?_
 have I1:Inv X pins σ H { s with heap:=h1,toks:=tk }:=I.kept k1
 have hn:H h1.objs.size=none:=I1.hok.fresh (zR _)
 refine⟨.ref h1.objs.size,_,I1.laid (t':=tk) (o:=.lst (ss'.map V.int)) (h':=h') k2 (zR _) ?_,rfl,q ss' _ hperm hsort hn⟩
 refine⟨by rw[zX,hperm.length_eq];exact zN (xR h64) (by decide),out,e,intsV hS,?_⟩
 simpa [seqObj] using ho
def rSortB (K:Frg):List V→Hp→VK→Prop:=fun xs H Q=>rSortA K xs H Q∨rSortI K xs H Q∨rSortDI xs H Q
theorem call_sortB (hc:X.calm=true):CallR X (.builtin "sorted") (rSortB X.K):=by
 intro pins s σ H xs us Q I r h
 rcases h with h | h | h
 · exact call_sortA hc pins s σ H xs us Q I r h
 · exact call_sortI pins s σ H xs us Q I r h
 · exact call_sortDI hc pins s σ H xs us Q I r h
end
end L2
namespace DL
open PySem PySem.Spec L2
theorem kSortB {X:Cx}{K:Frg}(h:X.K=K) (hc:X.calm=true):CallR X (.builtin "sorted") (rSortB K):=h▸call_sortB hc
section
variable {K:Frg}{M:Own}{Q:DS→Own→Prop}{H:Hp}
theorem dvs_of_ints {W:Addr→Prop}:∀{bs:List Int},DVs K H W (bs.map PyData.int) (bs.map V.int)
 | []=>DVs.nil
 | b::bs=>DVs.cons (by unfold DV;rfl) dvs_of_ints
theorem dvs_intsI {W:Addr→Prop}:∀{ns:List Int}{vs:List V},DVs K H W (ns.map PyData.int) vs→vs=ns.map V.int
 | [],vs,h=>by unfold DVs at h;subst h;rfl
 | n::ns,vs,h=>by
   rw[zI] at h
   unfold DVs at h
   obtain⟨v,r,rfl,h1,h2⟩:=h
   unfold DV at h1
   rw[h1,dvs_intsI h2];rfl
theorem rd_sortI {ss:List Int}(h64:ss.length < 64) (q:∀ss':List Int,ss'.Perm ss→ss'.Pairwise (·≤·)→Q (.d (.list (ss'.map .int))) M):DR K (rSortB K) [.d (.list (ss.map .int))] M Q:=fun H vs QQ oa s k=>by
 obtain⟨v,r,rfl,h1,h2⟩:=s
 cases h2
 unfold SI DV at h1
 obtain⟨a,vs,rfl,hl,hd⟩:=h1
 have e:=dvs_intsI hd
 subst e
 refine .inr (.inl ⟨a,ss,rfl,hl.sq,h64,fun ss' p hp hs hn=>?_⟩)
 have g:Grow K M.W M.W H (upd H p (.lst (ss'.map V.int))):=grow_new _ hn
 refine k _ _ (.d (.list (ss'.map .int))) M (oa.new hn) ?_ ⟨g⟩ (q ss' hp hs)
 unfold SI DV
 exact⟨p,_,rfl,.inl ⟨fun w=>w (oa.none hn),.inl upd_same⟩,dvs_of_ints⟩
theorem rd_sortDI {a:Addr}{ts:List (Int×PyData)}(m:M a=some (.d (idict ts))) (h64:ts.length < 64) (q:∀ss:List Int,ss.Perm (ts.map (·.1))→ss.Pairwise (·≤·)→Q (.d (.list (ss.map .int))) M):DR K (rSortB K) [.loc a] M Q:=fun H vs QQ oa s k=>by
 obtain⟨v,r,rfl,h1,h2⟩:=s
 cases h2
 unfold SI at h1
 subst h1
 obtain⟨ks,e1,e2⟩:=oa a _ m
 refine .inr (.inr ⟨a,ks,ts.map (·.1),rfl,.inl e1,dkvi_keys e2,by rw[zX];exact h64,fun ss' p hp hs hn=>?_⟩)
 have g:Grow K M.W M.W H (upd H p (.lst (ss'.map V.int))):=grow_new _ hn
 refine k _ _ (.d (.list (ss'.map .int))) M (oa.new hn) ?_ ⟨g⟩ (q ss' hp hs)
 unfold SI DV
 exact⟨p,_,rfl,.inl ⟨fun w=>w (oa.none hn),.inl upd_same⟩,dvs_of_ints⟩
end
end DL
namespace XC
open PySem PySem.Spec
def ExAt (h:Heap) (e:Addr) (cls:Value) (dd:Option Addr) (ar:Value) (T:Option Addr) (fl:Value):Prop:=
 ∃oe vs,h.get? e=some oe∧oe.cls=cls∧oe.dict=dd∧oe.data = .fields vs∧vs[0]?=some ar ∧
   match T with
   | none=>vs[1]?=some .none
   | some T=>vs[1]?=some (.ref T)∧T≠e∧∃oT ts,h.get? T=some oT∧oT.data = .fields ts∧ts[3]?=some fl
structure Moved (fs ch:List Addr) (h h':Heap):Prop where
 keep:∀b o,h.get? b=some o→b∉fs→b∉ch→h'.get? b=some o
 slot:∀b o,h.get? b=some o→b∉ch→∃sl,h'.get? b=some { o with slots:=sl }
 there:∀b o,h.get? b=some o→∃o',h'.get? b=some o'
theorem Moved.refl (fs ch:List Addr) (h:Heap):Moved fs ch h h:=⟨fun _ _ e _ _=>e,fun _ o e _=>⟨o.slots,e⟩,fun _ o e=>⟨o,e⟩⟩
theorem Moved.trans {fs ch:List Addr}{h h1 h2:Heap}(a:Moved fs ch h h1) (b:Moved fs ch h1 h2):Moved fs ch h h2 where
 keep:=fun c o e n m=>b.keep c o (a.keep c o e n m) n m
 slot:=fun c o e m=>by
   obtain⟨sl,e1⟩:=a.slot c o e m
   obtain⟨sl',e2⟩:=b.slot c _ e1 m
   exact⟨sl',e2⟩
 there:=fun c o e=>by
   obtain⟨o',e1⟩:=a.there c o e
   exact b.there c o' e1
theorem Moved.mono {fs fs' ch ch':List Addr}{h h':Heap}(a:Moved fs ch h h') (f:∀b∈fs,b∈fs') (g:∀b∈ch,b∈ch'):Moved fs' ch' h h':=
 ⟨fun b o e n m=>a.keep b o e (fun z=>n (f b z)) fun z=>m (g b z),fun b o e m=>a.slot b o e fun z=>m (g b z),a.there⟩
theorem Moved.drop {fs ch ch':List Addr}{h h':Heap}(a:Moved fs ch h h') (g:∀b∈ch,b∈ch'∨h.get? b=none):Moved fs ch' h h':=
 ⟨fun b o e n m=>a.keep b o e n fun z=>(g b z).elim m fun q=>by(rw[q] at e;cases e),fun b o e m=>a.slot b o e fun z=>(g b z).elim m fun q=>by(rw[q] at e;cases e),a.there⟩
theorem Moved.frames {fs ch:List Addr}{h h' base:Heap}(a:Moved fs ch h h') {l:List Env}(hl:h.FunFrames base l) (hc:∀b∈ch,b∉l.filterMap (·.frame)):h'.FunFrames base l:=by
 induction l with
 | nil=>trivial
 | cons env rest ih=>
   obtain⟨hk,⟨L,o,hf,hn,ho,hd⟩,hr⟩:=hl
   obtain⟨sl,e⟩:=a.slot L o ho fun z=>hc L z (by rw[List.filterMap_cons,hf];exact .head _)
   exact⟨hk,⟨L,_,hf,hn,e,hd⟩,ih hr fun b z q=>hc b z (by rw[List.filterMap_cons,hf];exact .tail _ q)⟩
theorem isFreed_map {o:Obj}{vs:Array Value}(f:Array Value→Array Value) (hd:o.data = .fields vs):(o.mapFields f).isFreed=false:=Obj.isFreed_of_fields (Obj.data_mapFields hd f)
theorem map_eq {o:Obj}{vs:Array Value}(f:Array Value→Array Value) (hd:o.data = .fields vs):o.mapFields f={ o with data:=.fields (f vs) }:=by
 obtain⟨c,d,dt,sl⟩:=o
 cases hd
 rfl
theorem upd_moved {h:Heap}{a:Addr}{o:Obj}{vs:Array Value}(f:Array Value→Array Value) (ho:h.get? a=some o) (hd:o.data = .fields vs) (fs:List Addr):Moved fs [a] h (h.update a (Obj.mapFields f)):=by
 have k:∀b u,h.get? b=some u→b∉[a]→(h.update a (Obj.mapFields f)).get? b=some u:=fun b u e m=>by
   rw[yC _ _ (fun z=>m (by simp[z]))];exact e
 refine⟨fun b u e _ m=>k b u e m,fun b u e m=>⟨u.slots,k b u e m⟩,fun b u e=>?_⟩
 by_cases q:b=a
 · subst q;exact⟨_,Heap.get?_update_self _ ho (isFreed_map f hd)⟩
 · exact⟨u,k b u e (by simp[q])⟩
section
variable {M:Model}{A:Around}{E:Value→Shared→Prop}{s:Shared}{base:Heap}{env:Env}{outer:List Env}{L e:Addr}{cls ar:Value}{dd:Option Addr}{T:Option Addr}
theorem flight_ok {T:Addr}{fl:Value}{Q:Unit→Shared→Prop}(x:ExAt s.heap e cls dd ar (some T) fl)
   (h:∀h',ExAt h' e cls dd ar (some T) .none→Moved [] [T] s.heap h'→Q () { s with heap:=h' }):wpAny M A (setFlight (.ref e) none) Q E s:=by
 obtain⟨oe,vs,he,hc,hdd,hd,h0,h1,hT,oT,ts,hoT,hdT,h3⟩:=x
 unfold setFlight
 refine zZ (wpAny_field he hd h1 ?_)
 rw[if_pos (show(Value.ref T != Value.none)=true from by simp)]
 have hsz:3 < ts.size:=(Array.getElem?_eq_some_iff.mp h3).1
 refine wpAny_setField hoT hdT hsz (h _ ⟨oe,vs,?_,hc,hdd,hd,h0,h1,hT,_,_,Heap.get?_update_self _ hoT (isFreed_map _ hdT),Obj.data_mapFields hdT _,by simp[hsz]⟩ (upd_moved _ hoT hdT []))
 rw[yC _ _ hT];exact he
theorem entry_ok {oe:Obj}{vs:Array Value}{head:Value}{hadNext:Bool}{Q:Unit→Shared→Prop}(hfr:A.frames=some (env::outer)) (hl:s.heap.FunFrames base (env::outer)) (hf:env.frame=some L)
   (he:s.heap.get? e=some oe) (hd:oe.data = .fields vs) (hsz:1 < vs.size) (h0:vs[0]?=some ar)
   (h:∀h' T',ExAt h' e oe.cls oe.dict ar (some T') (rawInt L)→s.heap.get? T'=none→s.heap.objs.size≤T'→Moved ((env::outer).filterMap (·.frame)) [e] s.heap h'→Q () { s with heap:=h' }) :
   wpAny M A (do let a ← frameOf env;let pl ← entryPlaceOf L hadNext;let b ← EntryCells.newEntry head a .none (rawInt L) .none pl;setField (.ref e) 1 b) Q E s:=by
 have hene:e∉(env::outer).filterMap (·.frame):=fun hm=>by
   obtain⟨_,o,ho,hnf⟩:=hl.mem hm
   rw[he] at ho;injection ho with ho;subst ho;exact hnf vs hd
 refine zZ (wpAny_frameOf_fun hfr hl hf fun h₁ hs₁=>?_)
 refine zZ (wpAny_entryPlaceOf fun pl hpl=>?_)
 unfold EntryCells.newEntry newFields
 refine zZ (xM ?_ (hpl.sizeOk5 _ _ _ _ _))
 have he₁:h₁.get? e=some oe:=(hs₁.2.1 e hene).trans he
 generalize hob:({ cls:=.type "traceback", dict:=none,data:=.fields ([head,.ref L,.none,rawInt L,.none]++(if pl.isEmpty then List.replicate 6 Value.none else pl)).toArray }:Obj)=ob
 have he₂:=zW (h:=h₁) ob he₁
 have hTe:h₁.objs.size≠e:=Nat.ne_of_gt (zM he₁)
 refine wpAny_setField he₂ hd hsz (h _ h₁.objs.size ⟨_,_,Heap.get?_update_self _ he₂ (isFreed_map _ hd),?_,?_,Obj.data_mapFields hd _,?_,?_,hTe,ob,([head,.ref L,.none,rawInt L,.none]++(if pl.isEmpty then List.replicate 6 Value.none else pl)).toArray,?_,?_,?_⟩ ?_ ?_ ?_)
 · rw[map_eq _ hd]
 · rw[map_eq _ hd]
 · rw[Array.getElem?_setIfInBounds_ne (by decide)];exact h0
 · simp[hsz]
 · rw[yC _ _ (Ne.symm hTe)]
   exact yZ h₁ (by rw[← hob];rfl)
 · rw[← hob]
 · simp
 · rw[hs₁.1];exact Heap.get?_none_of_le (zR _)
 · rw[hs₁.1];exact zR _
 · have k1:Moved ((env::outer).filterMap (·.frame)) [e] s.heap h₁:=⟨fun b o q n _=>(hs₁.2.1 b n).trans q,fun b o q _=>hs₁.2.2 b o q,fun b o q=>let ⟨sl,z⟩:=hs₁.2.2 b o q;⟨_,z⟩⟩
   have k2:Moved ((env::outer).filterMap (·.frame)) [e] h₁ (h₁.push ob):=⟨fun b o q _ _=>zW _ q,fun b o q _=>⟨o.slots,zW _ q⟩,fun b o q=>⟨o,zW _ q⟩⟩
   exact(k1.trans k2).trans (upd_moved _ he₂ hd _)
theorem note_ok {Q:Unit→Shared→Prop}(hfr:A.frames=some (env::outer)) (hl:s.heap.FunFrames base (env::outer)) (hf:env.frame=some L) (x:ExAt s.heap e cls dd ar T .none)
   (h:∀h' T',ExAt h' e cls dd ar (some T') (rawInt L)→s.heap.get? T'=none→s.heap.objs.size≤T'→Moved ((env::outer).filterMap (·.frame)) (e::T.toList) s.heap h'→Q () { s with heap:=h' }) :
   wpAny M A (noteFrame (.ref e) env) Q E s:=by
 obtain⟨oe,vs,he,hc,hdd,hd,h0,hT⟩:=x
 subst hc hdd
 unfold noteFrame
 simp only[hf]
 cases T with
 | none=>
   refine zZ (wpAny_field he hd hT ?_)
   rw[if_neg (by decide)]
   exact entry_ok hfr hl hf he hd (Array.getElem?_eq_some_iff.mp hT).1 h0 fun h' T' a b c d=>h h' T' a b c d
 | some T=>
   obtain⟨h1,hTe,oT,ts,hoT,hdT,h3⟩:=hT
   refine zZ (wpAny_field he hd h1 ?_)
   rw[if_pos (show(Value.ref T != Value.none)=true from by simp)]
   refine zZ (wpAny_field hoT hdT h3 ?_)
   rw[if_neg (show ¬((Value.none==rawInt L)=true) from by simp[rawInt])]
   refine zZ (wpAny_setField hoT hdT (Array.getElem?_eq_some_iff.mp h3).1 ?_)
   have mv:=upd_moved (h:=s.heap) (·.setIfInBounds 3 Value.none) hoT hdT ((env::outer).filterMap (·.frame))
   have hnT:T∉(env::outer).filterMap (·.frame):=fun hm=>by
     obtain⟨_,o,ho,hnf⟩:=hl.mem hm
     rw[hoT] at ho;injection ho with ho;subst ho;exact hnf ts hdT
   refine entry_ok hfr (mv.frames hl fun b hb=>by(rw[List.mem_singleton] at hb;subst hb;exact hnT)) hf (by rw[yC _ _ hTe];exact he) hd (Array.getElem?_eq_some_iff.mp h1).1 h0 fun h' T' a b c d=>?_
   have hsz:(s.heap.update T (Obj.mapFields (·.setIfInBounds 3 Value.none))).objs.size=s.heap.objs.size:=Heap.size_after_update ..
   rw[hsz] at c
   refine h h' T' a (Heap.get?_none_of_le c) c ((mv.mono (fun _ z=>z) fun b z=>by simp at z;simp[z]).trans (d.mono (fun _ z=>z) fun b z=>by simp at z;simp[z]))
theorem note_any {fl:Value}{Q:Unit→Shared→Prop}(hfr:A.frames=some (env::outer)) (hl:s.heap.FunFrames base (env::outer)) (hf:env.frame=some L) (x:ExAt s.heap e cls dd ar T fl) (hfl:fl = .none∨(T≠none∧fl=rawInt L))
   (h:∀h' T',ExAt h' e cls dd ar (some T') (rawInt L)→(T=some T'∨s.heap.get? T'=none∧s.heap.objs.size≤T')→Moved ((env::outer).filterMap (·.frame)) (e::T.toList) s.heap h'→Q () { s with heap:=h' }) :
   wpAny M A (noteFrame (.ref e) env) Q E s:=by
 rcases hfl with rfl | ⟨hT,rfl⟩
 · exact note_ok hfr hl hf x fun h' T' a b c d=>h h' T' a (.inr ⟨b,c⟩) d
 · cases T with
   | none=>exact absurd rfl hT
   | some T=>
     obtain⟨oe,vs,he,hc,hdd,hd,h0,h1,hTe,oT,ts,hoT,hdT,h3⟩:=id x
     unfold noteFrame
     simp only[hf]
     refine zZ (wpAny_field he hd h1 ?_)
     rw[if_pos (show(Value.ref T != Value.none)=true from by simp)]
     refine zZ (wpAny_field hoT hdT h3 ?_)
     rw[if_pos (show(rawInt L==rawInt L)=true from by simp)]
     exact zY (h s.heap T x (.inl rfl) (Moved.refl ..))
theorem leave_any {fl:Value}{Q:Unit→Shared→Prop}(hfr:A.frames=some (env::outer)) (hl:s.heap.FunFrames base (env::outer)) (hf:env.frame=some L) (x:ExAt s.heap e cls dd ar T fl) (hfl:fl = .none∨(T≠none∧fl=rawInt L))
   (h:∀h' T',ExAt h' e cls dd ar (some T') .none→(T=some T'∨s.heap.objs.size≤T')→Moved ((env::outer).filterMap (·.frame)) (e::T.toList) s.heap h'→Q () { s with heap:=h' }) :
   wpAny M A (leaving env (.ref e)) Q E s:=by
 unfold leaving
 refine zZ (note_any hfr hl hf x hfl fun h1 T' x1 n1 m1=>?_)
 refine flight_ok (s:={ s with heap:=h1 }) x1 fun h2 x2 m2=>h h2 T' x2 (n1.imp id fun z=>z.2) ?_
 have m1':Moved ((env::outer).filterMap (·.frame)) (T'::e::T.toList) s.heap h1:=m1.mono (fun _ z=>z) fun b z=>.tail _ z
 have m2':Moved ((env::outer).filterMap (·.frame)) (T'::e::T.toList) h1 h2:=m2.mono (fun _ z=>absurd z (by simp)) fun b z=>by simp at z;simp[z]
 refine(m1'.trans m2').drop fun b z=>(yX.mp z).elim (fun q=>?_) fun q=>.inl q
 rcases n1 with n1 | n1
 · left;rw[q,n1];simp
 · right;rw[q];exact n1.1
theorem flight_set {T f:Addr}{fl:Value}{Q:Unit→Shared→Prop}(x:ExAt s.heap e cls dd ar (some T) fl)
   (h:∀h',ExAt h' e cls dd ar (some T) (rawInt f)→Moved [] [T] s.heap h'→Q () { s with heap:=h' }):wpAny M A (setFlight (.ref e) (some f)) Q E s:=by
 obtain⟨oe,vs,he,hc,hdd,hd,h0,h1,hT,oT,ts,hoT,hdT,h3⟩:=x
 unfold setFlight
 refine zZ (wpAny_field he hd h1 ?_)
 rw[if_pos (show(Value.ref T != Value.none)=true from by simp)]
 have hsz:3 < ts.size:=(Array.getElem?_eq_some_iff.mp h3).1
 refine wpAny_setField hoT hdT hsz (h _ ⟨oe,vs,?_,hc,hdd,hd,h0,h1,hT,_,_,Heap.get?_update_self _ hoT (isFreed_map _ hdT),Obj.data_mapFields hdT _,by simp[hsz]⟩ (upd_moved _ hoT hdT []))
 rw[yC _ _ hT];exact he
end
end XC
namespace XC
open PySem PySem.Spec
abbrev exNew (C t:Addr):Obj:={ cls:=.ref C,data:=.fields #[.ref t,.none,.none,.none,.bool false,.none] }
abbrev hNew (h:Heap) (C:Addr) (rest:List Value):Heap:=(h.push { cls:=.type "tuple", data:=.seq rest.toArray }).push (exNew C h.objs.size)
theorem hNew_keeps {h:Heap}{C:Addr}{rest:List Value}:∀b o,h.get? b=some o→(hNew h C rest).get? b=some o:=fun b o e=>zW _ (zW _ e)
theorem hNew_at {h:Heap}{C:Addr}{rest:List Value}:(hNew h C rest).get? (h.objs.size+1)=some (exNew C h.objs.size):=by heap_get
section
variable {prog:Program}{w:World}{A:Around}{E:Value→Shared→Prop}{h:Heap}{g:Array GenState}{d:Drawn}{t:Nat}{os:OsState}
variable {nm q:Str}{C N:Addr}{bs bm bmN:List Value}{hdct:Bool}{sn:List Str}{sub:List Value}{ab:Bool}{col:Option Bool}{dd:Option Addr}{k0 k1 k2 k3 k5:Option Value}{B newId initId:String}{init:Value}
theorem check_new_c {M:Model}(F:ExcBaseFacts B newId initId bmN) (hB:bm.contains (.type B)=true) {rest:List Value}{Q:Unit→Shared→Prop}(hC:h.get? C=some (excClassObj nm q C N bs bm hdct sn sub ab col dd k0 k1 k2 k3 k5 newId))
   (hq:Q () ⟨h,g,d,t,os⟩):wpAny M A (checkBuiltinCall newId ⟨.ref C::rest,[]⟩) Q E ⟨h,g,d,t,os⟩:=by
 have hcont:(Value.ref C::bm).contains (.type B)=true:=by rw[List.contains_cons,hB,Bool.or_true]
 have hstar:=F.noStar
 simp only[checkBuiltinCall,F.newKind,F.newSplit,F.newRow]
 repeat (first | refine wpAny_loadPart_at hC ?_ | (refine wpAny_isSubtype_exc hC ?_;rw[hcont]) | refine wpAny_staticBase_exc hC ?_ | refine wpAny_madeBy_exc hC ?_ | simp only[bne_self_eq_false,Bool.false_eq_true,if_false] | wp_step)
 exact hq
theorem new_c {R:Result→Shared→Prop}(F:ExcBaseFacts B newId initId bmN) (hB:bm.contains (.type B)=true) (hA:bm.contains (.type "AttributeError")=false) (hN:bm.contains (.type "NameError")=false) {rest:List Value}
   (hC:h.get? C=some (excClassObj nm q C N bs bm hdct sn sub ab col dd k0 k1 k2 k3 k5 newId))
   (hq:R (.ok (.ret (.ref (h.objs.size+1)))) ⟨hNew h C rest,g,d,t,os⟩) (hrest:rest.length≤sizeLine) :
   codeAny (model prog w) A (.builtin newId ⟨.ref C::rest,[]⟩) R ⟨h,g,d,t,os⟩:=by
 have hends:=F.ends
 have hcB:(Value.ref C::bm).contains (.type B)=true:=by rw[List.contains_cons,hB,Bool.or_true]
 have hcA:(Value.ref C::bm).contains (.type "AttributeError")=false:=by rw[List.contains_cons,hA];rfl
 have hcN:(Value.ref C::bm).contains (.type "NameError")=false:=by rw[List.contains_cons,hN];rfl
 refine codeAny_builtinAt F.entry ?_
 unfold Builtin.«BaseException.__new__»
 refine wpAt_bind ?_
 show wpAt _ _ _ (stack >>= _) _ _ _
 refine wpAt_bind (wpAt_stack fun p below=>wpAt_of_wpAny ?_)
 wp_walk
 refine wpAt_of_wpAny ?_
 rw[F.owner]
 repeat (first | with_reducible refine wpAny_madeHere_exc F.canon hC ?_ | with_reducible refine wpAny_loadPart_at hC ?_ | (with_reducible refine wpAny_isSubtype_exc hC ?_;first | rw[hcB] | rw[hcA] | rw[hcN]) | wp_step)
 show R _ _
 rw[Heap.size_push]
 exact hq
theorem type_call_c (F:ExcBaseFacts B newId initId bmN) (hB:bm.contains (.type B)=true) (hA:bm.contains (.type "AttributeError")=false) (hN:bm.contains (.type "NameError")=false) {rest:List Value}{Q:Fin→Shared→Prop}
   (hC:h.get? C=some (excClassObj nm q C N bs bm hdct sn sub ab col dd k0 k1 k2 k3 k5 newId)) (hi:PySem.W.Looks (model prog w) h (typeLookup (.ref C) "__init__") (some init))
   (hb:∀self:Value,PySem.W.Looks (model prog w) h (bindSpecial init self) (init,[self]))
   (hq:codeAny (model prog w) A (.call init ⟨.ref (h.objs.size+1)::rest,[]⟩)
     (fun r s'=>match r with | .ok (.ret v)=>v = .none∧Q (.done (.ret (.ref (h.objs.size+1)))) s' | .ok _=>False | .error e=>E e s') ⟨hNew h C rest,g,d,t,os⟩) (hrest:rest.length≤sizeLine) :
   wpAny (model prog w) A (Builtin.«type.__call__» ⟨.ref C::rest,[]⟩) Q E ⟨h,g,d,t,os⟩:=by
 repeat (first | with_reducible refine wpAny_loadPart_at hC ?_ | with_reducible refine wpAny_madeBy_exc hC ?_ | wp_step)
 refine codeAny_call_builtin_code (Code.quiet_builtin _ F.quiet) (check_new_c F hB hC ?_)
 refine new_c F hB hA hN hC ?_ hrest
 show wpAny _ _ _ _ _ _
 have hC₁:(hNew h C rest).get? C=_:=hNew_keeps _ _ hC
 have hget:(hNew h C rest).get? (h.objs.size+1)=some (exNew C h.objs.size):=hNew_at
 have hcC:(Value.ref C::bm).contains (.ref C)=true:=by simp
 unfold isInstance
 repeat (first | with_reducible refine wpAny_loadPart_at hget ?_ | (with_reducible refine wpAny_isSubtype_exc hC₁ ?_;rw[hcC]) | wp_step)
 show wpAny _ _ (typeLookup (.ref C) _) _ _ _
 refine(hi.keeps hNew_keeps).here (s:=⟨hNew h C rest,g,d,t,os⟩) ?_
 refine wpAny_holding (zZ (((hb _).keeps hNew_keeps).here (s:=⟨hNew h C rest,g,d,t,os⟩) ?_))
 refine zZ (wpAny_call (xN hq fun r s' z=>?_))
 rcases r with e | (v | _ | _ | _) <;> first | exact z | exact z.elim | skip
 obtain⟨rfl,z⟩:=z
 wp_walk
 exact z
theorem call_c (F:ExcBaseFacts B newId initId bmN) (hB:bm.contains (.type B)=true) (hA:bm.contains (.type "AttributeError")=false) (hN:bm.contains (.type "NameError")=false) {rest:List Value}{Q:Value→Shared→Prop}
   (hC:h.get? C=some (excClassObj nm q C N bs bm hdct sn sub ab col dd k0 k1 k2 k3 k5 newId)) (hi:PySem.W.Looks (model prog w) h (typeLookup (.ref C) "__init__") (some init))
   (hb:∀self:Value,PySem.W.Looks (model prog w) h (bindSpecial init self) (init,[self]))
   (hq:codeAny (model prog w) (A.under (.builtin "type.__call__" ⟨.ref C::rest,[]⟩)) (.call init ⟨.ref (h.objs.size+1)::rest,[]⟩)
     (fun r s'=>match r with | .ok (.ret v)=>v = .none∧Q (.ref (h.objs.size+1)) s' | .ok _=>False | .error e=>E e s') ⟨hNew h C rest,g,d,t,os⟩) (hrest:rest.length≤sizeLine) :
   wpAny (model prog w) A (call (.ref C) rest) Q E ⟨h,g,d,t,os⟩:=by
 have f1:=tc_lookup
 have f2:=tc_bind (.ref C)
 have hT:(⟨h,g,d,t,os⟩:Shared).TypeIs (.ref C) "type" := ⟨_,hC,rfl⟩
 refine wpAny_call (codeAny_of_tree ?_)
 show wpAny _ _ (callAny (.ref C) _) _ _ _
 repeat (any_goals (first | assumption | with_reducible refine wpAny_loadPart_at hC ?_ | wp_step))
 refine⟨rfl,?_⟩
 refine codeAny_call_builtin_at (Code.quiet_builtin _ (by decide +kernel)) entry_typeCall (wpAny_check_type_call_sub hC (type_call_c F hB hA hN hC hi hb (xN hq fun r s' z=>?_) hrest))
 rcases r with e | (v | _ | _ | _) <;> first | exact z | exact z.elim
theorem raise_any {s:Shared}{env:Env}{x:Sem Value}{Q:Flow→Shared→Prop}(hbase:bm.contains (.type "BaseException")=true) (hh:A.handled=none)
   (hx:wpAny (model prog w) A x (fun v s₁=>∃e t dx,v = .ref e∧s₁.heap.get? C=some (excClassObj nm q C N bs bm hdct sn sub ab col dd k0 k1 k2 k3 k5 newId) ∧
     s₁.heap.get? e=some { cls:=.ref C,dict:=dx,data:=.fields #[.ref t,.none,.none,.none,.bool false,.none] }∧E (.ref e) s₁) E s) :
   wpAny (model prog w) A (raiseStmt env (some x) none) Q E s:=by
 have hcB:(Value.ref C::bm).contains (.type "BaseException")=true:=by rw[List.contains_cons,hbase,Bool.or_true]
 unfold raiseStmt
 refine zZ (wpAny_mono hx (fun v s₁ h₁=>?_) fun _ _ x=>x)
 obtain⟨e,t,dx,rfl,hC,he,hE⟩:=h₁
 obtain⟨hp,g,d,tk,os⟩:=s₁
 repeat (first | with_reducible refine wpAny_loadPart_at he ?_ | with_reducible refine wpAny_loadPart_at hC ?_ | (with_reducible refine wpAny_isSubtype_exc hC ?_;rw[hcB]) | wp_step)
 exact wpAny_raiseNew_none hh hE
end
end XC
namespace XC
open PySem PySem.Spec PySem.W Builtin Builtin.ObjectAttr
section
variable {prog:Program}{w:World}{A:Around}{E:Value→Shared→Prop}{K:Frag}{C x:Addr}{s:Shared}{o:Obj}{vs:Array Value}{name:Str}{v:Value}{cd:ClassData}
theorem osa_exc {R:Result→Shared→Prop}{tk:Tok}(X:K.In s.heap) (hx:s.heap.get? x=some o) (hc:o.cls = .ref C) (hdn:o.dict=none) (hdt:o.data = .fields vs)
   (hcd:clsIn K C=some cd) (hm:cd.mro.contains (.type "object")=true) (hp:∀self,refuseLoop self "__setattr__" cd.mro=pure ()) (ht:takerIn K C name=some none) (hh:cd.hasDict=true)
   (hq:∀h' tk' dx,s.heap.objs.size≤dx→h'.get? x=some { o with dict:=some dx }→h'.Ns1 dx (fun y=>if y=name then some v else none)→(∀b u,b≠x→s.heap.get? b=some u→h'.get? b=some u) →
     R (.ok (.ret .none)) { s with heap:=h',toks:=tk' }) :
   codeAny (model prog w) A (.call (.builtin "object.__setattr__") ⟨[.ref x,.str name tk,v],[]⟩) R s:=by
 have SF:=PySem.F.store_object
 have ne:cd.mro.isEmpty=false:=by cases q:cd.mro with | nil=>rw[q] at hm;cases hm | cons _ _=>rfl
 have ty:Looks (model prog w) s.heap (typeOf (.ref x)) (.ref C):=(Looks.ld hx).andThen (by rw[hc];exact .now)
 have sub:Looks (model prog w) s.heap (isInstance (.ref x) (.type "object")) true:=ty.andThen (looks_mroIn X (by unfold mroIn;rw[hcd,Option.bind_some,if_neg (by rw[ne];decide),hm]))
 refine codeAny_call_builtin SF.slot.plain SF.entry (@check_slot (model prog w) _ _ s "object.__setattr__" "object" "__setattr__" (.ref x) [.str name tk,v] [] _ SF.kind SF.split sub (SF.args (.ref x) (.str name tk) v) ?_)
 obtain⟨attr,ha,hr⟩:=Option.bind_eq_some_iff.mp ht
 have hmr:Looks (model prog w) s.heap (mroOf (.ref C)) cd.mro:=(looks_clsIn X hcd).andThen .now
 have L3:Looks (model prog w) s.heap (storeTaker? attr) none:=by
   cases attr with
   | none=>cases hr;exact .now
   | some a=>
     obtain⟨b,hb,e⟩:=Option.map_eq_some_iff.mp hr
     refine(looks_takesIn X hb).andThen ?_
     cases b <;> first | exact .now | cases e
 rw[osa_eq,refuse_eq]
 refine zZ (zZ (ty.here (zZ (hmr.here ?_))))
 rw[hp]
 refine zY (zZ (ty.here (zZ ((looks_findIn X ha).here (zZ (L3.here ?_))))))
 obtain⟨hp0,g,d,t,os⟩:=s
 obtain⟨oc,od,oda,osl⟩:=o
 dsimp only at hc hdn hdt hq
 subst hc hdn hdt
 have hx':hp0.get? x=some ⟨.ref C,none,.fields vs,osl⟩:=hx
 refine zZ (zY (zZ (zZ (wpAny_loadPart hx' (zZ ((looks_clsIn X hcd).here ?_))))))
 rw[hh]
 have hx₁:(hp0.push { cls:=.type "dict", data:=.dict #[] }).get? x=some ⟨.ref C,none,.fields vs,osl⟩:=zW _ hx'
 have hxs:x≠hp0.objs.size:=zC (zM hx')
 refine zZ (wpAny_alloc' ?_)
 refine zZ (wpAny_update' hx₁ ?_)
 refine zY (a:=some hp0.objs.size) ?_
 have hgd:((hp0.push { cls:=.type "dict", data:=.dict #[] }).update x fun o=>{ cls:=o.cls,dict:=some hp0.objs.size,data:=o.data,slots:=o.slots }).get? hp0.objs.size
     = some { cls:=.type "dict", data:=.dict #[] }:=
   (yB _ _ _ _ hxs.symm).trans (Heap.get?_push_at rfl rfl)
 have hnd:((hp0.push { cls:=.type "dict", data:=.dict #[] }).update x fun o=>{ cls:=o.cls,dict:=some hp0.objs.size,data:=o.data,slots:=o.slots }).Ns hp0.objs.size (fun _=>none):=
   ⟨_,#[],_,hgd,rfl,fun e he=>absurd he (by simp),fun _=>rfl⟩
 show wpAny _ _ (storeInDict hp0.objs.size (.str name tk) name v) _ _ _
 unfold storeInDict newKeyGuard
 refine zZ (zY (zZ (wpAny_nsSet1 (Heap.Ns1.of_empty hnd) fun h' hn' hs=>?_)))
 obtain⟨oD,esD,epD,hoD,hdD,hcD⟩:=hn'.count (Within.cons name v Within.nil)
 refine zZ (wpAny_lookBehind hoD (by rw[hdD];exact pastItsLine_dict (zN hcD (by rw[yR,List.length_nil,sizeLine_eq];omega))) ?_)
 refine zY (hq h' _ hp0.objs.size (zR _) ?_ hn' fun b u hbx hb=>?_)
 · exact(hs.2 x hxs).trans (Heap.get?_update_self _ hx₁ rfl)
 · exact(hs.2 b (zC (zM hb))).trans ((yB _ _ _ _ hbx).trans (zW _ hb))
theorem set_exc {Q:Unit→Shared→Prop}(X:K.In s.heap) (hx:s.heap.get? x=some o) (hc:o.cls = .ref C) (hdn:o.dict=none) (hdt:o.data = .fields vs)
   (hs:findIn K (.ref C) "__setattr__"=some (some (.builtin "object.__setattr__"))) (hcd:clsIn K C=some cd) (hm:cd.mro.contains (.type "object")=true) (hp:∀self,refuseLoop self "__setattr__" cd.mro=pure ())
   (ht:takerIn K C name=some none) (hh:cd.hasDict=true)
   (hq:∀h' tk' dx,s.heap.objs.size≤dx→h'.get? x=some { o with dict:=some dx }→h'.Ns1 dx (fun y=>if y=name then some v else none)→(∀b u,b≠x→s.heap.get? b=some u→h'.get? b=some u) →
     Q () { s with heap:=h',toks:=tk' }) :
   wpAny (model prog w) A (setAttr (.ref x) name v) Q E s:=by
 have J:InstAt s.heap x o C none:=⟨hx,hc,by obtain⟨_,_,_,_⟩:=o;cases hdt;rfl,by rw[hdn];trivial⟩
 exact set_plain X J hs (osa_exc (s:={ s with toks:=s.toks+1 }) X hx hc hdn hdt hcd hm hp ht hh fun h' tk' dx a b c d=>hq h' tk' dx a b c d)
end
end XC
namespace XC
open PySem PySem.Spec L2
open PyProof.Rows (envOfC AllBare)
abbrev St:=L2.St
theorem hok_moved {P:Program}{w:World}{H:Hp}{h h':Heap}{fs ch:List Addr}(ok:HOk P w H h) (m:Moved fs ch h h') (f1:∀b∈fs,H b=none) (f2:∀b∈ch,H b=none):HOk P w H h':=fun a o e=>by
 have ne:∀b u,H b=some u→b∉fs∧b∉ch:=fun b u q=>⟨fun z=>(by rw[f1 b z] at q;cases q),fun z=>(by rw[f2 b z] at q;cases q)⟩
 refine(ok a o e).stay (fun b u hb q=>?_) (fun _ q=>q) fun _ _ q=>q
 rcases hb with rfl | hb
 · exact m.keep b u q (ne b o e).1 (ne b o e).2
 · exact m.keep b u q (ne b _ hb).1 (ne b _ hb).2
def CXE (P:Program) (w:World):CXT:=fun outer H s E e s'=>∃(a T:Addr) (cls:Value) (dd:Option Addr) (ar:Value) (H':Hp),e = .ref a∧s'.os=s.os∧AllBare s'.gens∧Un (frs outer) [] H H' s.heap s'.heap∧HOk P w H' s'.heap ∧
 ExAt s'.heap a cls dd ar (some T) .none∧s.heap.objs.size≤a∧s.heap.objs.size≤T∧H' a=none∧H' T=none∧E cls dd H'
structure Loose (X:Cx) (H:Hp) (b:Addr):Prop where
 above:X.s₀.heap.objs.size≤b
 loc:b≠X.env.locals
 cel:∀x c,X.env.cells.lookup x=some c→c≠b
 fre:H b=none
 pn:∀p∈X.pn,p.1≠b
theorem Loose.of {X:Cx}{pins:List (Addr×Obj)}{σ:St}{H H':Hp}{s:Shared}{b:Addr}(I:Inv X pins σ H s) (h:s.heap.objs.size≤b) (f:H' b=none):Loose X H' b:=by
 refine⟨zN I.sz h,fun z=>?_,fun x c e z=>?_,f,fun p hp z=>?_⟩
 · have:=I.lt;rw[← z] at this;exact absurd (zP this h) (yF _)
 · obtain⟨v,o,ho,_⟩:=I.cell x c e
   have:=zM ho
   rw[z] at this
   exact absurd (zP this h) (yF _)
 · have:=zM (I.pin p (zA _ hp)).1
   rw[z] at this
   exact absurd (zP this h) (yF _)
def Fly (X:Cx) (R:St→XK) (e:Value) (s':Shared):Prop:=
 ∃(a:Addr) (T:Option Addr) (cls:Value) (dd:Option Addr) (ar:Value) (σ:St) (H:Hp) (fl:Value),e = .ref a∧Inv X [] σ H s'∧(ExAt s'.heap a cls dd ar T fl∧(fl = .none∨(T≠none∧fl=rawInt X.env.locals)))∧Loose X H a∧(∀t,T=some t→Loose X H t)∧R σ cls dd H
theorem nopins {X:Cx}{pins:List (Addr×Obj)}{σ:St}{H:Hp}{s:Shared}(I:Inv X pins σ H s):Inv X [] σ H s:=I.pins_of fun p hp=>nomatch hp
theorem pass_fly {X:Cx}{R:St→XK}{pins:List (Addr×Obj)}{σ:St}{H:Hp}{s:Shared}{e:Value}{s':Shared}(I:Inv (X.wish (Fly X R)) pins σ H s) (h:CXE X.prog X.w X.stack H s (R σ) e s'):Fly X R e s':=by
 obtain⟨a,T,cls,dd,ar,H',rfl,os,bare,un,hok,x,h1,h2,f1,f2,r⟩:=h
 have I':=I.unwish
 have J:Inv X pins σ H' s':=I'.call' (ch:=[]) os un hok bare fun b z=>absurd z (by simp)
 exact⟨a,some T,cls,dd,ar,σ,H',.none,rfl,nopins J,⟨x,.inl rfl⟩,Loose.of I' h1 f1,fun t e=>(by cases e;exact Loose.of I' h2 f2),r⟩
def tCallX (sp:Sp) (R:St→XK) (t:TA):TE:=fun σ H Q=>t σ H fun vs H1=>sp vs H1 Q (R σ)
theorem pe_callX {X:Cx}{R:St→XK}{k:Nat}{f:Addr}{fd:FuncData}{ps:List Str}{sp:Sp}{x:Str}{p pos:Pos}{e:Expr}{es:List Expr}{t:TA}(F:FnOk X.prog X.w X.K X.mg X.base (CXE X.prog X.w) k f fd ps sp) (hr:Room k X.A) (hg:Gl X x) (hm:X.mg x=some (.ref f)) (hk:PySem.W.keepIn X.K (.ref f)=true) (hb:Binds X.K fd ps [])
   (ha:PA (X.wish (Fly X R)) (e::es) t) (hdb:(x==("__debug__":Str))=false:=by decide) (he:starEach (e::es) X.env=(false,eval e X.env)::starEach es X.env:=by rfl) (hpl:(backTo pos (starEach es X.env)).any (·.1)=false:=by rfl) :
   PE (X.wish (Fly X R)) (.Call (.Name x p) (e::es) [] pos) (tCallX sp R t):=by
 intro pins s σ H Q I h
 refine wpAny_Call_Name_kw (ld_glob (X:=X.wish (Fly X R)) I hg hm ?_ hdb)
 refine PySem.W.callWith_K (h₀:=X.base) I.ok.mod.kin hk (thn (ha pos pins s σ H _ I h) fun us s1 ⟨vs,H1,I1,r,q⟩=>⟨I1.kIn,?_⟩) he hpl
 have hl:(us++[]).length=ps.length:=by rw[List.append_nil,← r.length];exact F.len _ _ _ _ q
 have r2:Vals vs (us++[]):=by rw[List.append_nil];exact r
 refine wpAny_call (xN (F.run X.A X.stack s1 H1 ⟨us,[]⟩ (us++[]) vs Q (R σ) hr I1.env0 (hb s1 us I1.kIn hl) r2 q) fun r' s' hq=>?_)
 cases r' with
 | error e=>exact pass_fly I1 hq
 | ok fl=>
   cases fl with
   | ret u=>exact I1.after hq
   | next=>exact False.elim hq
   | brk=>exact False.elim hq
   | cont=>exact False.elim hq
theorem inv_moved {X:Cx}{pins:List (Addr×Obj)}{σ:St}{H:Hp}{s:Shared}{ch:List Addr}{h':Heap}(I:Inv X pins σ H s) (m:Moved (frs X.stack) ch s.heap h') (hch:∀b∈ch,H b=none∧X.s₀.heap.objs.size≤b∧b≠X.env.locals∧(∀x c,X.env.cells.lookup x=some c→c≠b)∧∀p∈X.pn++pins,p.1≠b) :
   Inv X pins σ H { s with heap:=h' }:=by
 refine I.call' (s':={ s with heap:=h' }) (ch:=ch) rfl ⟨fun b o q n f c=>m.keep b o q f c,fun b o q n f c=>m.slot b o q c,fun _ _ _ n _=>n,fun b o q _=>m.there b o q,fun _ _ q=>q,fun _ _ _ q=>q,fun b ps q=>⟨#[],by rw[q];simp⟩⟩
   (hok_moved I.hok m I.stkFree fun b hb=>(hch b hb).1) I.bare fun b hb=>⟨.inr (hch b hb).2.1,(hch b hb).2.2⟩
theorem Loose.ch {X:Cx}{H:Hp}{b:Addr}(l:Loose X H b):H b=none∧X.s₀.heap.objs.size≤b∧b≠X.env.locals∧(∀x c,X.env.cells.lookup x=some c→c≠b)∧∀p∈X.pn++[],p.1≠b:=⟨l.fre,l.above,l.loc,l.cel,fun p hp=>l.pn p (by simpa using hp)⟩
theorem passes_fly {X:Cx}{R:St→XK}(hstk:X.stack=X.env::X.outer) (hfr:X.env.frame=some X.env.locals):PassesOwn (model X.prog X.w) X.A X.env (Fly X R):=fun e s' h=>by
 obtain⟨a,T,cls,dd,ar,σ,H,fl,rfl,I,⟨x,hfl⟩,la,lT,r⟩:=h
 have fr:X.A.frames=some (X.env::X.outer):=by rw[← hstk];exact I.ok.frames
 have hl:s'.heap.FunFrames X.base (X.env::X.outer):=by rw[← hstk];exact I.stack
 refine note_any fr hl hfr x hfl fun h2 T' x2 n2 m2=>?_
 have hfs:(X.env::X.outer).filterMap (·.frame)=frs X.stack:=by rw[hstk];rfl
 rw[hfs] at m2
 have I2:Inv X [] σ H { s' with heap:=h2 }:=inv_moved I m2 fun b hb=>by
   rcases yX.mp hb with q | q
   · rw[q];exact la.ch
   · exact(lT b (by cases T with | none=>simp at q | some t=>simp at q;rw[q])).ch
 have lT':Loose X H T':=n2.elim (fun z=>lT T' z) fun z=>Loose.of I z.2 (I.hok.fresh z.2)
 obtain⟨oe,vs,he,hc,hdd,hd,h0,h1,hTe,_⟩:=id x2
 unfold cameBackBy
 refine zZ (wpAny_field (s:={ s' with heap:=h2 }) he hd h1 ?_)
 rw[if_neg (by simp)]
 rw[hfr]
 refine flight_set (s:={ s' with heap:=h2 }) x2 fun h3 x3 m3=>?_
 have I3:Inv X [] σ H { s' with heap:=h3 }:=inv_moved (s:={ s' with heap:=h2 }) (ch:=[T']) I2 (m3.mono (fun b z=>absurd z (by simp)) fun b z=>z) fun b hb=>by
   have:b=T':=by simpa using hb
   rw[this];exact lT'.ch
 exact⟨a,some T',cls,dd,ar,σ,H,_,rfl,I3,⟨x3,.inr ⟨by simp,rfl⟩⟩,la,fun t e=>(by cases e;exact lT'),r⟩
section
variable {P:Program}{w:World}{K:Frg}{mg:Str→Option Value}{base:Heap}
theorem leaves {N:List Str}{qual:Str}{scope:Scope}{f:Addr}{cd:Value}{A:Around}{outer:List Env}{s:Shared}{H:Hp}{E:XK}{e:Value}{s':Shared}
   (h:Fly (cxOf (CXE P w) P w K mg base N qual scope f cd A outer s H E) (fun _=>E) e s'):(cxOf (CXE P w) P w K mg base N qual scope f cd A outer s H E).xe e s':=by
 obtain⟨a,T,cls,dd,ar,σ,H',fl,rfl,I,⟨x,hfl⟩,la,lT,r⟩:=h
 have hst:=I.stack
 have hfre:=I.stkFree
 refine leave_any (base:=base) (env:=envOfC qual scope s.heap.objs.size f cd) (outer:=outer) (L:=s.heap.objs.size) I.ok.frames hst rfl x hfl fun h' T' x' z m=>?_
 have hfr:∀b∈(envOfC qual scope s.heap.objs.size f cd::outer).filterMap (·.frame),H' b=none:=hfre
 have hch:∀b∈a::T.toList,Loose (cxOf (CXE P w) P w K mg base N qual scope f cd A outer s H E) H' b:=fun b hb=>by
   rcases yX.mp hb with q | q
   · rw[q];exact la
   · exact lT b (by cases T with | none=>simp at q | some t=>simp at q;rw[q])
 have nch:∀b o,s.heap.get? b=some o→b∉a::T.toList:=fun b o q hb=>absurd (zP (zM q) (hch b hb).above) (yF _)
 have nfr:∀b o,s.heap.get? b=some o→b∉frs outer→b∉(envOfC qual scope s.heap.objs.size f cd::outer).filterMap (·.frame):=fun b o q n hb=>by
   rcases yX.mp (show b∈s.heap.objs.size::frs outer from hb) with z | z
   · rw[z] at q;exact absurd (zM q) (yF _)
   · exact n z
 have B:=I.base
 have hok:=hok_moved I.hok m hfr fun b hb=>(hch b hb).fre
 have sz:=I.sz
 have hT2:s.heap.objs.size≤T'∧H' T'=none:=by
   rcases z with z | z
   · exact⟨(lT T' z).above,(lT T' z).fre⟩
   · exact⟨zN sz z,I.hok.fresh z⟩
 refine⟨a,T',cls,dd,ar,H',rfl,I.os,I.bare,⟨fun b o q n hb hx=>?_,fun b o q n hb hx=>?_,B.free,fun b o q hx=>?_,B.tups,B.frzs,B.tbls⟩,hok,x',la.above,hT2.1,la.fre,hT2.2,r⟩
 · exact m.keep b o (B.keep b o q n hb hx) (nfr b o q hb) (nch b o q)
 · obtain⟨sl,q1⟩:=B.slot b o q n hb hx
   obtain⟨sl',q2⟩:=m.slot b _ q1 (nch b o q)
   exact⟨sl',q2⟩
 · obtain⟨o',q1⟩:=B.there b o q hx
   exact m.there b o' q1
theorem pss_wish {X:Cx}{E:Value→Shared→Prop}{st:List Stmt}{t:TS}(h:PSs (X.wish E) st t) (hE:∀e s,E e s→X.xe e s):PSs X st t:=fun pins s σ H D I hw=>
 wpAny_mono (h pins s σ H D (I.wish _) hw) (fun _ _ q=>q.unwish) hE
theorem funX {x qual:Str}{st:Stmt}{f:Addr}{fd:FuncData}{N ps:List Str}{k:Nat}{sp:Sp}(F:Fun K x qual st f fd) (S:FnScope N ps (defScope st)) (len:∀vs H Q E,sp vs H Q E→vs.length=ps.length)
   (hbody:∀(cdv:Value) (A:Around) (outer:List Env) (s:Shared) (H:Hp) (vs:List V) (Q:VK) (E:XK),Room k (A.deeper (envOfC qual (defScope st) s.heap.objs.size f cdv))→sp vs H Q E →
     ∃t,PSs ((cxOf (CXE P w) P w K mg base N qual (defScope st) f cdv A outer s H E).wish (Fly (cxOf (CXE P w) P w K mg base N qual (defScope st) f cdv A outer s H E) fun _=>E)) (defBody st) t∧t { nx:=fun _ H'=>Q .non H',rt:=Q } (start N vs) H):FnOk P w K mg base (CXE P w) (k+1) f fd ps sp:=by
 obtain⟨oc,od,kV,doc,pm,an,cdv,ct,osl,rfl,lk,hcd⟩:=F.ex
 refine fn_of lk hcd S len fun A outer s H vs Q E hr hsp=>?_
 obtain⟨t,h,q⟩:=hbody cdv A outer s H vs Q E hr hsp
 exact⟨t,pss_wish h fun e s' z=>leaves z,q⟩
end
end XC
namespace XC
open PySem PySem.Spec L2
open PyProof.Rows (envOfC AllBare)
abbrev bmV:List Value:=[.type "ValueError", .type "Exception", .type "BaseException", .type "object"]
structure XCls (K:Frg) (C S:Addr) (init:Value):Prop where
 lk:∃(nm q:Str) (N:Addr) (bs:List Value) (sn:List Str) (sub:List Value) (ab:Bool) (col:Option Bool) (dd:Option Addr) (k0 k1 k2 k3 k5:Option Value),K.lookup C=some (excClassObj nm q C N bs (.ref S::bmV) true sn sub ab col dd k0 k1 k2 k3 k5 "ValueError.__new__")
 init:PySem.W.findIn K (.ref C) "__init__"=some (some init)
 kp:PySem.W.keepIn K (.ref C)=true
theorem bmV_has {S:Addr}:(Value.ref S::bmV).contains (.type "ValueError")=true:=by rw[List.contains_cons];rfl
theorem bmV_noA {S:Addr}:(Value.ref S::bmV).contains (.type "AttributeError")=false:=by rw[List.contains_cons];rfl
theorem bmV_noN {S:Addr}:(Value.ref S::bmV).contains (.type "NameError")=false:=by rw[List.contains_cons];rfl
theorem bmV_base {S:Addr}:(Value.ref S::bmV).contains (.type "BaseException")=true:=by rw[List.contains_cons];rfl
end XC
namespace XC
open PySem PySem.Spec L2
open PyProof.Rows (envOfC AllBare)
def xo (e C t:Addr) (dx:Option Addr):HO:=.ext fun h=>h.get? e=some { cls:=.ref C,dict:=dx,data:=.fields #[.ref t,.none,.none,.none,.bool false,.none] }
theorem xo_ok {P:Program}{w:World}{H:Hp}{h:Heap}{e C t:Addr}{dx:Option Addr}(q:h.get? e=some { cls:=.ref C,dict:=dx,data:=.fields #[.ref t,.none,.none,.none,.bool false,.none] }):ObjOk P w H h e (xo e C t dx):=
 ⟨q,⟨_,q⟩,fun _ _ a b=>b _ a⟩
structure XSet (K:Frg) (C:Addr) (fn:Str):Prop where
 sa:PySem.W.findIn K (.ref C) "__setattr__"=some (some (.builtin "object.__setattr__"))
 ta:PySem.W.takerIn K C fn=some none
def sX (C:Addr) (fn:Str) (ta tv:TE):TS:=fun D σ H=>tv σ H fun y H1=>ta σ H1 fun x H2=>∃e t,x = .ref e∧H2 e=some (xo e C t none) ∧
 ∀d,H2 d=none→d≠e→D.nx σ (upd (upd H2 d (.xd [(fn,y)])) e (xo e C t (some d)))
section
variable {X:Cx}{pins:List (Addr×Obj)}{σ:St}{H:Hp}{s:Shared}
theorem inv_xset {e C t dx:Addr}{fn:Str}{y:V}{u:Value}{h':Heap}{t':Nat}(I:Inv X pins σ H s) (he:H e=some (xo e C t none)) (ry:RelV y u) (hd:s.heap.objs.size≤dx)
   (q1:h'.get? e=some { cls:=.ref C,dict:=some dx,data:=.fields #[.ref t,.none,.none,.none,.bool false,.none] }) (q2:h'.Ns1 dx (fun z=>if z=fn then some u else none))
   (k:∀b o,b≠e→s.heap.get? b=some o→h'.get? b=some o):Inv X pins σ (upd (upd H dx (.xd [(fn,y)])) e (xo e C t (some dx))) { s with heap:=h',toks:=t' }:=by
 have hdn:H dx=none:=I.hok.fresh hd
 have hne:dx≠e:=fun z=>by rw[z,he] at hdn;cases hdn
 have lo:∀b o,s.heap.get? b=some o→b≠dx:=fun b o q z=>by rw[z] at q;exact absurd (zP (zM q) hd) (yF _)
 have same:∀b,b≠e→b≠dx→upd (upd H dx (.xd [(fn,y)])) e (xo e C t (some dx)) b=H b:=fun b h1 h2=>by rw[upd_ne h1,upd_ne h2]
 have tr:∀b o,H b=some o→b≠dx:=fun b o q z=>by rw[z,hdn] at q;cases q
 refine I.un ⟨fun b o q n _ _=>k b o (fun z=>by rw[z,he] at n;cases n) q,fun b o q n _ _=>⟨o.slots,k b o (fun z=>by rw[z,he] at n;cases n) q⟩,fun b o q n _=>?_,fun b o q _=>?_,fun b xs q=>?_,fun b o xs q=>?_,fun b ps q=>⟨#[],?_⟩⟩ fun b o q=>?_
 · rw[same b (fun z=>by rw[z,he] at n;cases n) (lo b o q)];exact n
 · by_cases z:b=e
   · rw[z];exact⟨_,q1⟩
   · exact⟨o,k b o z q⟩
 · rw[same b (fun z=>by rw[z,he] at q;cases q) (tr b _ q)];exact q
 · rw[same b (fun z=>by rw[z,he] at q;cases q) (tr b _ q)];exact q
 · rw[same b (fun z=>by rw[z,he] at q;cases q) (tr b _ q)];rw[q];simp
 · by_cases z:b=e
   · subst z;rw[upd_same] at q;cases q;exact xo_ok q1
   · by_cases z2:b=dx
     · subst z2
       rw[upd_ne z,upd_same] at q
       cases q
       refine⟨_,q2,fun f=>?_⟩
       by_cases hf:f=fn
       · subst hf;simp[List.lookup];exact ry
       · have:(f==fn)=false:=by simp[hf]
         simp[List.lookup,this,hf,RelO]
     · rw[same b z z2] at q
       refine(I.hok b o q).stay (fun c v hc qq=>k c v ?_ qq) (fun c qq=>?_) fun c xs qq=>?_
       · rcases hc with rfl | hc
         · exact z
         · rintro rfl;rw[he] at hc;cases hc
       · rw[same c (fun z=>by rw[z,he] at qq;cases qq) (tr c _ qq)];exact qq
       · rw[same c (fun z=>by rw[z,he] at qq;cases qq) (tr c _ qq)];exact qq
theorem ps_xset {C S:Addr}{init:Value}{fn:Str}{o value:Expr}{pos pos':Pos}{ta tv:TE}(c:XCls X.K C S init) (cs:XSet X.K C fn) (ha:PE X o ta) (hv:PE X value tv) (hs:swapsWith value (some (.Attribute o fn pos')) pos.line X.env=pure false) :
   PS X (.Assign [.Attribute o fn pos'] value pos) (sX C fn ta tv):=by
 intro pins s σ H D I h
 refine plainObj_wpAny_Assign_Attribute (thn (hv pins s σ H _ I h) fun u s1 ⟨y,H1,I1,ry,q⟩=>thn (ha pins s1 σ H1 _ I1 q) fun ov s2 ⟨x,H2,I2,rx,e,t,ex,ea,q2⟩=>?_) hs
 subst ex
 obtain rfl:ov=Value.ref e:=rx
 obtain⟨nm,q,N,bs,sn,sub,ab,col,dd,k0,k1,k2,k3,k5,lk⟩:=c.lk
 have hx:=(I2.hok e _ ea).1
 refine set_exc (cd:={ name:=nm,bases:=bs,mro:=.ref C::.ref S::bmV,ns:=N,qualname:=q,hasDict:=true,slotNames:=sn,subclasses:=sub,abstract:=ab,collection:=col,hasDel:=false }) I2.kIn hx rfl rfl rfl cs.sa (by unfold PySem.W.clsIn;rw[lk]) (by rw[List.contains_cons,List.contains_cons];rfl)
   (fun self=>by show refuseLoop self "__setattr__" (.ref C::.ref S::bmV)=pure ();rw[refuseLoop_ref,refuseLoop_ref];exact PySem.F.store_ValueError.passes self) cs.ta rfl fun h' tk' dx z1 z2 z3 z4=>?_
 have hdn:H2 dx=none:=I2.hok.fresh z1
 have hne:dx≠e:=fun z=>by rw[z,ea] at hdn;cases hdn
 exact⟨σ,_,inv_xset (t':=tk') I2 ea ry z1 z2 z3 z4,q2 dx hdn hne⟩
end
def spInit (C:Addr) (fn:Str):Sp:=fun vs H Q _=>∃e v t,vs=[.ref e,v]∧H e=some (xo e C t none)∧∀d,H d=none→d≠e→Q .non (upd (upd H d (.xd [(fn,v)])) e (xo e C t (some d)))
theorem inv_forget {X:Cx}{pins:List (Addr×Obj)}{σ:St}{H:Hp}{s:Shared}{e C t:Addr}{dx:Option Addr}(I:Inv X pins σ (upd H e (xo e C t dx)) s) (hn:H e=none) (ha:X.s₀.heap.objs.size≤e):Inv X pins σ H s:=by
 have B:=I.base
 have sm:∀b,b≠e→upd H e (xo e C t dx) b=H b:=fun b z=>upd_ne z
 have ne:∀b o,X.s₀.heap.get? b=some o→b≠e:=fun b o q z=>by rw[z] at q;exact absurd (zP (zM q) ha) (yF _)
 have nn:∀b,upd H e (xo e C t dx) b=none→H b=none:=fun b q=>by
   by_cases z:b=e
   · rw[z];exact hn
   · rw[sm b z] at q;exact q
 have nt:∀{b o},upd H e (xo e C t dx) b=some o→o≠xo e C t dx→H b=some o:=fun {b o} q no=>by
   by_cases z:b=e
   · rw[z,upd_same] at q;cases q;exact absurd rfl no
   · rw[sm b z] at q;exact q
 refine⟨I.ok,I.os,I.bare,⟨B.keep,B.slot,fun b o q n hx=>nn b (B.free b o q n hx),B.there,fun b xs q=>nt (B.tups b xs q) (by unfold xo;simp),fun b o xs q=>nt (B.frzs b o xs q) (by unfold xo;simp),fun b ps q=>?_⟩,I.loc,I.cell,nn _ I.free,fun x c q=>nn _ (I.freeC x c q),fun p hp=>?_,fun b o q=>?_,I.len⟩
 · obtain⟨m,q'⟩:=B.tbls b ps q
   exact⟨m,nt q' (by unfold xo;simp)⟩
 · obtain⟨a1,a2,a3⟩:=I.pin p hp
   exact⟨a1,nn _ a2,a3⟩
 · have z:b≠e:=fun z=>by rw[z,hn] at q;cases q
   have q':upd H e (xo e C t dx) b=some o:=by rw[sm b z];exact q
   exact(I.hok b o q').stay (fun _ _ _ a=>a) (fun c a=>nt a (by unfold xo;simp)) fun c xs a=>nt a (by unfold xo;simp)
section
variable {X:Cx}{R:St→XK}{C S f:Addr}{x fn:Str}{np cpos pos:Pos}{arg:Expr}{t:TA}{k:Nat}{fd:FuncData}{ps:List Str}
def tRaise1 (C:Addr) (fn:Str) (R:St→XK) (t:TA):TS:=fun _ σ H=>t σ H fun vs H1=>∃v,vs=[v]∧∀d,H1 d=none→R σ (.ref C) (some d) (upd H1 d (.xd [(fn,v)]))
theorem ps_raise1 (c:XCls X.K C S (.ref f)) (hfn:PySem.W.isFn X.K (.ref f)=true) (F:FnOk X.prog X.w X.K X.mg X.base CX0 k f fd ps (spInit C fn)) (hb:Binds X.K fd ps []) (hr:Room (k+1) X.A) (hg:Gl X x) (hm:X.mg x=some (.ref C))
   (ha:PA (X.wish (Fly X R)) [arg] t) (hdb:(x==("__debug__":Str))=false:=by decide) (he:starEach [arg] X.env=[(false,eval arg X.env)]:=by rfl) :
   PS (X.wish (Fly X R)) (.Raise (some (.Call (.Name x np) [arg] [] cpos)) none pos) (tRaise1 C fn R t):=by
 intro pins s σ H D I h
 have FB:=PySem.F.excBase_ValueError
 obtain⟨nm,q,N,bs,sn,sub,ab,col,dd,k0,k1,k2,k3,k5,lk⟩:=c.lk
 rw[arm_exec_Raise]
 refine zZ (wpAny_standAt (raise_any (C:=C) (hbase:=bmV_base (S:=S)) (hh:=hr.hd) (nm:=nm) (q:=q) (N:=N) (bs:=bs) (hdct:=true) (sn:=sn) (sub:=sub) (ab:=ab) (col:=col) (dd:=dd) (k0:=k0) (k1:=k1) (k2:=k2) (k3:=k3) (k5:=k5) (newId:= "ValueError.__new__") ?_))
 refine zZ (thn (wpAny_Call_Name_kw (ld_glob I (X:=X.wish (Fly X R)) hg hm (PySem.W.callWith_K (h₀:=X.base) I.ok.mod.kin c.kp (Q:=fun v s₁=>∃e t dx,v = .ref e∧s₁.heap.get? C=some (excClassObj nm q C N bs (.ref S::bmV) true sn sub ab col dd k0 k1 k2 k3 k5 "ValueError.__new__") ∧
     s₁.heap.get? e=some { cls:=.ref C,dict:=dx,data:=.fields #[.ref t,.none,.none,.none,.bool false,.none] }∧Fly X R (.ref e) s₁) (thn (ha cpos pins s σ H _ I h) fun us s1 ⟨vs,H1,I1,r,v,ev,q1⟩=>⟨I1.kIn,?_⟩) he rfl) hdb)) fun v s3 h3=>zZ (wpAny_standAt (zY h3)))
 subst ev
 obtain⟨u,rfl,ru⟩:∃u,us=[u]∧RelV v u:=by cases r with | cons a b=>cases b;exact⟨_,rfl,a⟩
 have I0:=I1.unwish
 have hC:=I0.kIn _ _ lk
 obtain⟨hp,g,d,tk,os⟩:=s1
 have kk:=hNew_keeps (h:=hp) (C:=C) (rest:=[u])
 have hat:=hNew_at (h:=hp) (C:=C) (rest:=[u])
 have I2:Inv X pins σ (upd H1 (hp.objs.size+1) (xo (hp.objs.size+1) C hp.objs.size none)) ⟨hNew hp C [u],g,d,tk,os⟩:=I0.laid (a:=hp.objs.size+1) (t':=tk) kk (Nat.le_succ _) (xo_ok hat)
 have hen:H1 (hp.objs.size+1)=none:=I0.hok.fresh (Nat.le_succ _)
 have r2:Vals [V.ref (hp.objs.size+1),v] [Value.ref (hp.objs.size+1),u]:=.cons rfl (.cons ru .nil)
 have hsp:spInit C fn [V.ref (hp.objs.size+1),v] (upd H1 (hp.objs.size+1) (xo (hp.objs.size+1) C hp.objs.size none))
     (fun w H2=>w = .non∧∃d',H1 d'=none∧d'≠hp.objs.size+1∧H2=upd (upd H1 d' (.xd [(fn,v)])) (hp.objs.size+1) (xo (hp.objs.size+1) C hp.objs.size (some d'))) (fun _ _ _=>False):=by
   refine⟨_,v,hp.objs.size,rfl,upd_same,fun d' hd' hne=>⟨rfl,d',by rw[upd_ne hne] at hd';exact hd',hne,?_⟩⟩
   funext b
   unfold upd
   by_cases z:b=hp.objs.size+1 <;> simp[z]
 have hl:([Value.ref (hp.objs.size+1),u]++[]).length=ps.length:=by
   have:=F.len _ _ _ _ hsp
   simpa using this
 refine call_c FB bmV_has bmV_noA bmV_noN hC (PySem.W.looks_findIn I0.kIn c.init) (fun self=>PySem.W.bind_fn I0.kIn self (beq_iff_eq.mp hfn)) (xN (F.run _ X.stack _ _ ⟨[Value.ref (hp.objs.size+1),u],[]⟩ ([Value.ref (hp.objs.size+1),u]++[]) _ _ _ (hr.make C [u] []) (I2.env0.make C [u] []) (hb _ [Value.ref (hp.objs.size+1),u] I2.kIn hl) r2 hsp) fun r' s' hq'=>?_) (by show 1≤sizeLine;decide)
 rcases r' with e | (w | _ | _ | _) <;> first | exact hq'.elim | skip
 obtain⟨w',H2,I3,rw',rfl,d',hd1,hd2,rfl⟩:=I2.after hq'
 have hx:=(I3.hok _ _ upd_same).1
 have hen':(upd H1 d' (.xd [(fn,v)])) (hp.objs.size+1)=none:=by rw[upd_ne (Ne.symm hd2)];exact hen
 have ab':X.s₀.heap.objs.size≤hp.objs.size+1:=zN I0.sz (Nat.le_succ _)
 have I4:=inv_forget I3 hen' ab'
 refine⟨rw',hp.objs.size+1,hp.objs.size,some d',rfl,I3.kIn _ _ lk,hx,hp.objs.size+1,none,.ref C,some d',.ref hp.objs.size,σ,_,.none,rfl,nopins I4,⟨⟨_,_,hx,rfl,rfl,rfl,rfl,rfl⟩,.inl rfl⟩,Loose.of I0 (Nat.le_succ _) hen',fun t e=>(by cases e),q1 d' hd1⟩
end
end XC
namespace XC
open PySem PySem.Spec L2
open PyProof.Rows (envOfC AllBare)
def XM (K:Frg) (C D:Addr):Prop:=∀(prog:Program) (w:World) (A:Around) (E:Value→Shared→Prop) (s:Shared) (e:Addr) (oe:Obj) (Q:Bool→Shared→Prop),K.In s.heap→s.heap.get? e=some oe→oe.cls = .ref C→Q true s →
 wpAny (model prog w) A (excMatches (.ref e) (.ref D)) Q E s
structure XTop (K:Frg) (S:Addr):Prop where
 lk:∃(nm q:Str) (N:Addr) (bs:List Value) (sn:List Str) (sub:List Value) (ab:Bool) (col:Option Bool) (dd:Option Addr) (k0 k1 k2 k3 k5:Option Value),K.lookup S=some (excClassObj nm q S N bs bmV true sn sub ab col dd k0 k1 k2 k3 k5 "ValueError.__new__")
theorem xm_top {K:Frg}{C S:Addr}{init:Value}(c:XCls K C S init) (u:XTop K S):XM K C S:=fun prog w A E s e oe Q X he hc q=>by
 obtain⟨nm,q',N,bs,sn,sub,ab,col,dd,k0,k1,k2,k3,k5,lk⟩:=c.lk
 obtain⟨nm',q'',N',bs',sn',sub',ab',col',dd',j0,j1,j2,j3,j5,lk'⟩:=u.lk
 obtain⟨hp,g,d,t,os⟩:=s
 have hC:=X _ _ lk
 have hS:=X _ _ lk'
 have hcB:(Value.ref S::bmV).contains (.type "BaseException")=true:=by rw[List.contains_cons];rfl
 have hcC:(Value.ref C::Value.ref S::bmV).contains (.ref S)=true:=by rw[List.contains_cons,List.contains_cons];simp
 have f:=tc_notTuple
 have he':hp.get? e=some oe:=he
 unfold excMatches
 repeat (first | (with_reducible refine wpAny_loadPart_at he' ?_;rw[hc]) | with_reducible refine wpAny_loadPart_at hS ?_ | (with_reducible refine wpAny_isSubtype_exc hS ?_;rw[hcB]) | (with_reducible refine wpAny_isSubtype_exc hC ?_;rw[hcC]) | wp_step)
 exact q
abbrev hand (X:Cx) (a:Addr):Cx:={ X with A:=X.A.mark (some (.ref a)),calm:=false,xe:=fun _ _=>False }
abbrev pinned (X:Cx) (pn:List (Addr×Obj)):Cx:={ X with pn:=pn }
section
variable {X:Cx}{pins:List (Addr×Obj)}{σ:St}{H:Hp}{s:Shared}{a:Addr}
theorem inv_hand (I:Inv X pins σ H s) (a:Addr):Inv (hand X a) pins σ H s:=
 ⟨⟨I.ok.mod,I.ok.kind,I.ok.glob,I.ok.blt,I.ok.above,I.ok.inj,I.ok.has,I.ok.cab,(fun z=>nomatch z),I.ok.frames,I.ok.stk,I.ok.exf,I.ok.bs,I.ok.bsz,I.ok.noex,I.ok.exfs,I.ok.funs,I.ok.frf⟩,I.os,I.bare,I.base,I.loc,I.cell,I.free,I.freeC,I.pin,I.hok,I.len⟩
theorem inv_unhand {X:Cx}(ok:X.Ok) (I:Inv (hand X a) pins σ H s):Inv X pins σ H s:=
 ⟨ok,I.os,I.bare,I.base,I.loc,I.cell,I.free,I.freeC,I.pin,I.hok,I.len⟩
theorem inv_pin (I:Inv X pins σ H s):Inv (pinned X (X.pn++pins)) [] σ H s:=
 ⟨⟨I.ok.mod,I.ok.kind,I.ok.glob,I.ok.blt,I.ok.above,I.ok.inj,I.ok.has,I.ok.cab,I.ok.hd,I.ok.frames,I.ok.stk,I.ok.exf,I.ok.bs,I.ok.bsz,I.ok.noex,I.ok.exfs,I.ok.funs,I.ok.frf⟩,I.os,I.bare,I.base,I.loc,I.cell,I.free,I.freeC,fun p hp=>I.pin p (by simpa using hp),I.hok,I.len⟩
theorem inv_unpin {X:Cx}(ok:X.Ok) (I:Inv (pinned X (X.pn++pins)) [] σ H s):Inv X pins σ H s:=
 ⟨ok,I.os,I.bare,I.base,I.loc,I.cell,I.free,I.freeC,fun p hp=>I.pin p (by simpa using hp),I.hok,I.len⟩
theorem sp_unpin {X:Cx}(ok:X.Ok) {D:Ends}{f:Flow}{s':Shared}(h:SP (pinned X (X.pn++pins)) [] D f s'):SP X pins D f s':=by
 cases f with
 | next=>obtain⟨σ',H',I,q⟩:=h;exact⟨σ',H',inv_unpin ok I,q⟩
 | brk=>obtain⟨σ',H',I,q⟩:=h;exact⟨σ',H',inv_unpin ok I,q⟩
 | cont=>obtain⟨σ',H',I,q⟩:=h;exact⟨σ',H',inv_unpin ok I,q⟩
 | ret u=>obtain⟨v,σ',H',I,r,q⟩:=h;exact⟨v,σ',H',inv_unpin ok I,r,q⟩
theorem sp_unhand {X:Cx}(ok:X.Ok) {D:Ends}{f:Flow}{s':Shared}(h:SP (hand X a) pins D f s'):SP X pins D f s':=by
 cases f with
 | next=>obtain⟨σ',H',I,q⟩:=h;exact⟨σ',H',inv_unhand ok I,q⟩
 | brk=>obtain⟨σ',H',I,q⟩:=h;exact⟨σ',H',inv_unhand ok I,q⟩
 | cont=>obtain⟨σ',H',I,q⟩:=h;exact⟨σ',H',inv_unhand ok I,q⟩
 | ret u=>obtain⟨v,σ',H',I,r,q⟩:=h;exact⟨v,σ',H',inv_unhand ok I,r,q⟩
end
end XC
namespace DL
open PySem PySem.Spec L2 XC
open PyProof.Rows (envOfC AllBare)
abbrev Rx:=L2.St→XK
theorem XI.sub {K:Frg}{H:Hp}{M M':Own}(hs:M'.Sub M) {dd:Option Addr}{fs:List (Str×PyData)}(h:XI K H M.W dd fs):XI K H M'.W dd fs:=h.grow (sub_grow hs)
abbrev DXK:=List (Option DS)→Value→List (Str×PyData)→Own→Prop
def KX (K:Frg) (R:Rx) (M:Own) (H:Hp) (DX:DXK):Prop:=∀(ρ':List (Option DS)) (cls:Value) (fs:List (Str×PyData)) (M':Own) (σ':St) (dd:Option Addr) (H':Hp),Rel K M' ρ' σ' H'→Step K M M' H H'→XI K H' M'.W dd fs→DX ρ' cls fs M'→R σ' cls dd H'
theorem KX.step {K:Frg}{R:Rx}{M M1:Own}{H H1:Hp}{DX:DXK}(k:KX K R M H DX) (t:Step K M M1 H H1):KX K R M1 H1 DX:=fun a b c d e f g h i j l=>k a b c d e f g h (t.trans i) j l
def DXt (K:Frg) (R:Rx) (t:TS) (ρ:List (Option DS)) (M:Own) (D:EndsD) (DX:DXK):Prop:=
 ∀(σ:St) (H:Hp) (E:Ends),Rel K M ρ σ H→(∀ρ' M' σ' H',Rel K M' ρ' σ' H'→Step K M M' H H'→D.nx ρ' M'→E.nx σ' H')→(∀v H' x M',OA K H' M'→SI K H' M' x v→Step K M M' H H'→D.rt x M'→E.rt v H') →
   (∀ρ' M' σ' H',Rel K M' ρ' σ' H'→Step K M M' H H'→D.bk ρ' M'→E.bk σ' H')→(∀ρ' M' σ' H',Rel K M' ρ' σ' H'→Step K M M' H H'→D.ct ρ' M'→E.ct σ' H')→KX K R M H DX→t E σ H
def DEx (K:Frg) (R:Rx) (t:TE) (ρ:List (Option DS)) (M:Own) (Q:DS→Own→Prop) (DX:DXK):Prop:=
 ∀(σ:St) (H:Hp) (QQ:VK),Rel K M ρ σ H→(∀v H' x M',OA K H' M'→SI K H' M' x v→Step K M M' H H'→Q x M'→QQ v H')→KX K R M H DX→t σ H QQ
structure FSpX where
 pre:List DS→Own→Prop
 post:List DS→Own→DS→Own→Prop
 xpost:List DS→Own→Value→List (Str×PyData)→Own→Prop
def spX (K:Frg) (n:Nat) (S:FSpX):Sp:=fun vs H Q E=>∃xs M,xs.length=n∧OA K H M∧SIs K H M xs vs∧S.pre xs M∧(∀x M' v H',S.post xs M x M'→Step K M M' H H'→OA K H' M'→SI K H' M' x v→Q v H') ∧
 ∀cls fs M' dd H',S.xpost xs M cls fs M'→Step K M M' H H'→OA K H' M'→XI K H' M'.W dd fs→E cls dd H'
section
variable {K:Frg}{R:Rx}{ρ:List (Option DS)}{M:Own}{D:EndsD}{DX:DXK}{t u:TS}{ta:TE}{tl:TA}{tA:TT}{Q:DS→Own→Prop}
theorem dx_lift (h:DSt K t ρ M D):DXt K R t ρ M D DX:=fun σ H E Rl k1 k2 k3 k4 _=>h σ H E Rl k1 k2 k3 k4
theorem dx_seq (h:DXt K R t ρ M { D with nx:=fun ρ1 M1=>DXt K R u ρ1 M1 D DX } DX):DXt K R (tSeq t u) ρ M D DX:=fun σ H E Rl k1 k2 k3 k4 k5=>by
 refine h σ H { E with nx:=fun σ' H'=>u E σ' H' } Rl (fun ρ1 M1 σ1 H1 R1 t1 q=>?_) k2 k3 k4 k5
 exact q σ1 H1 E R1 (fun a b c d e f g=>k1 a b c d e (t1.trans f) g) (fun a b c d e f g q=>k2 a b c d e f (t1.trans g) q) (fun a b c d e f g=>k3 a b c d e (t1.trans f) g) (fun a b c d e f g=>k4 a b c d e (t1.trans f) g) (k5.step t1)
theorem dx_mono {D':EndsD}{DX':DXK}(h:DXt K R t ρ M D DX) (h1:∀ρ' M',D.nx ρ' M'→D'.nx ρ' M') (h2:∀x M',D.rt x M'→D'.rt x M') (h3:∀ρ' M',D.bk ρ' M'→D'.bk ρ' M') (h4:∀ρ' M',D.ct ρ' M'→D'.ct ρ' M') (h5:∀a b c d,DX a b c d→DX' a b c d):DXt K R t ρ M D' DX':=
 fun σ H E Rl k1 k2 k3 k4 k5=>h σ H E Rl (fun a b c d e f g=>k1 a b c d e f (h1 _ _ g)) (fun a b c d e f g q=>k2 a b c d e f g (h2 _ _ q)) (fun a b c d e f g=>k3 a b c d e f (h3 _ _ g)) (fun a b c d e f g=>k4 a b c d e f (h4 _ _ g)) fun a b c d e f g h i j l=>k5 a b c d e f g h i j (h5 _ _ _ _ l)
theorem dx_cut (P:List (Option DS)→Own→Prop) (h:DXt K R t ρ M { D with nx:=P } DX) (h2:∀ρ1 M1,P ρ1 M1→DXt K R u ρ1 M1 D DX):DXt K R (tSeq t u) ρ M D DX:=
 dx_seq (dx_mono h (fun ρ' M' p=>h2 ρ' M' p) (fun _ _ q=>q) (fun _ _ q=>q) (fun _ _ q=>q) fun _ _ _ _ q=>q)
theorem dx_if (h:DT K tA ρ M fun c M1=>if c=true then DXt K R t ρ M1 D DX else DXt K R u ρ M1 D DX):DXt K R (tIfS tA t u) ρ M D DX:=fun σ H E Rl k1 k2 k3 k4 k5=>
 h σ H _ Rl fun c H1 M1 o1 t1 h1=>by
   have go:∀{w:TS},DXt K R w ρ M1 D DX→w E σ H1:=fun q=>q σ H1 E (Rl.step o1 t1) (fun a b c d e f g=>k1 a b c d e (t1.trans f) g) (fun a b c d e f g q=>k2 a b c d e f (t1.trans g) q) (fun a b c d e f g=>k3 a b c d e (t1.trans f) g) (fun a b c d e f g=>k4 a b c d e (t1.trans f) g) (k5.step t1)
   cases c with
   | true=>rw[if_pos rfl] at h1 ⊢;exact go h1
   | false=>rw[if_neg nft] at h1 ⊢;exact go h1
theorem dx_for {wi:TI}{g:TG}{tb:TS}(h:DI K wi ρ M fun ds M1=>∃P:Nat→List (Option DS)→Own→Prop,P 0 ρ M1∧(∀k d ρ' M',ds[k]?=some d→P k ρ' M'→DG K g d ρ' M' fun ρ2 M2=>DXt K R tb ρ2 M2 (D.turn (P (k+1))) DX)∧∀ρ' M',P ds.length ρ' M'→D.nx ρ' M') :
   DXt K R (tFor wi g tb) ρ M D DX:=fun σ H E Rl k1 k2 k3 k4 k5=>
 h σ H _ Rl fun J ds H1 M1 o1 t1 wd ⟨P,p0,pt,pe⟩=>by
   refine⟨fun i m σ' H'=>m=ds.length - i∧i≤ds.length∧∃ρ' M',Rel K M' ρ' σ' H'∧Step K M1 M' H1 H'∧P i ρ' M',⟨_,rfl,xT _,ρ,M1,Rl.step o1 t1,Step.refl,p0⟩,?_⟩
   rintro i m σ' H' ⟨rfl,hi,ρ',M',R',st,p⟩
   by_cases hlt:i < ds.length
   · refine .inr ⟨wd.go i H' M' hlt R'.own st,fun σ2 H2=>∃ρ2 M2,Rel K M2 ρ2 σ2 H2∧Step K M1 M2 H1 H2∧P (i+1) ρ2 M2,fun σ2 H2 ⟨ρ2,M2,a,b,c⟩=>⟨ds.length - (i+1),by omega,rfl,hlt,ρ2,M2,a,b,c⟩,fun x H2 y=>?_⟩
     obtain⟨oa2,st2,d,e1,e2⟩:=wd.yld i H' M' x H2 R'.own st hlt y
     refine pt i d ρ' M' e1 p σ' H2 x _ (R'.step oa2 st2) e2 fun ρ3 M3 σ3 H3 R3 st3 b3=>?_
     have s3:=(st.trans st2).trans st3
     exact b3 σ3 H3 _ R3 (fun r m s hh R4 st4 q=>⟨r,m,R4,s3.trans st4,q⟩) (fun w hh x m a b c q=>k2 w hh x m a b (t1.trans (s3.trans c)) q)
       (fun r m s hh R4 st4 q=>k1 r m s hh R4 (t1.trans (s3.trans st4)) q) (fun r m s hh R4 st4 q=>⟨r,m,R4,s3.trans st4,q⟩) (k5.step (t1.trans s3))
   · have e:i=ds.length:=by omega
     subst e
     exact .inl ⟨wd.stop H' M' R'.own st,k1 ρ' M' σ' H' R' (t1.trans st) (pe ρ' M' p)⟩
theorem dx_raise1 {C:Addr}{fn:Str}(h:DA K tl ρ M fun xs M1=>∃d,xs=[.d d]∧DX ρ (.ref C) [(fn,d)] M1):DXt K R (tRaise1 C fn R tl) ρ M D DX:=fun σ H E Rl _ _ _ _ k5=>
 h σ H _ Rl fun vs H1 xs M1 o1 s1 t1 ⟨d,ex,q⟩=>by
   subst ex
   obtain⟨v,r,rfl,sv,rfl⟩:=s1
   refine⟨v,rfl,fun p hp=>?_⟩
   have g:Step K M1 M1 H1 (upd H1 p (.xd [(fn,v)])):=⟨grow_new _ hp⟩
   exact k5 ρ _ [(fn,d)] M1 σ (some p) _ ((Rl.step o1 t1).step (o1.new hp) g) (t1.trans g) ⟨v,fun z=>z (o1.none hp),upd_same,DV.grow g.grow sv⟩ q
theorem dex_call {n:Nat}{S:FSpX}(h:DA K tl ρ M fun xs M1=>xs.length=n∧S.pre xs M1∧(∀x M',S.post xs M1 x M'→Q x M')∧∀cls fs M',S.xpost xs M1 cls fs M'→DX ρ cls fs M'):DEx K R (tCallX (spX K n S) R tl) ρ M Q DX:=fun σ H QQ Rl k k5=>
 h σ H _ Rl fun vs H1 xs M1 o1 s1 t1 ⟨h0,h1,h2,h3⟩=>
   ⟨xs,M1,h0,o1,s1,h1,fun x M' v H' p st oa si=>k v H' x M' oa si (t1.trans st) (h2 x M' p),fun cls fs M' dd H' p st oa xi=>k5 ρ cls fs M' σ dd H' ((Rl.step o1 t1).step oa st) (t1.trans st) xi (h3 cls fs M' p)⟩
theorem dx_ret (h:DEx K R ta ρ M D.rt DX):DXt K R (tRet ta) ρ M D DX:=fun σ H E Rl _ k2 _ _ k5=>h σ H E.rt Rl (fun v H' x M' a b c q=>k2 v H' x M' a b c q) k5
theorem dx_drop (h:DEx K R ta ρ M (fun _ M1=>D.nx ρ M1) DX):DXt K R (tDrop ta) ρ M D DX:=fun σ H E Rl k1 _ _ _ k5=>h σ H _ Rl (fun v H' x M' a b c q=>k1 ρ M' σ H' (Rl.step a c) c q) k5
theorem dx_set {i:Nat}(h:DEx K R ta ρ M (fun x M1=>D.nx (ρ.set i (some x)) M1) DX):DXt K R (tAsg ta (gName i)) ρ M D DX:=fun σ H E Rl k1 _ _ _ k5=>
 h σ H _ Rl (fun v H' x M' a b c q=>k1 _ M' _ H' ((Rl.step a c).set b i) c q) k5
end
section
variable {P:Program}{w:World}{K:Frg}{mg:Str→Option Value}{base:Heap}
theorem spX_len {n:Nat}{S:FSpX}:∀vs H Q E,spX K n S vs H Q E→vs.length=n:=fun vs H Q E ⟨xs,M,hl,_,h,_⟩=>by rw[h.length,hl]
theorem fnDX {x qual:Str}{st:Stmt}{f:Addr}{fd:FuncData}{N ps:List Str}{k:Nat}{S:FSpX}(F:Fun K x qual st f fd) (Sc:FnScope N ps (defScope st))
   (hbody:∀(cdv:Value) (A:Around) (outer:List Env) (s:Shared) (H:Hp) (E:XK),Room k (A.deeper (envOfC qual (defScope st) s.heap.objs.size f cdv)) →
     ∃t,PSs ((cxOf (CXE P w) P w K mg base N qual (defScope st) f cdv A outer s H E).wish (Fly (cxOf (CXE P w) P w K mg base N qual (defScope st) f cdv A outer s H E) fun _=>E)) (defBody st) t ∧
       ∀xs M,xs.length=ps.length→S.pre xs M→DXt K (fun _=>E) t (startD N xs) M { nx:=fun _ M1=>∃M2:Own,M2.Sub M1∧S.post xs M (.d .none) M2,rt:=fun y M1=>∃M2:Own,M2.Sub M1∧S.post xs M y M2 } fun _ cls fs M1=>∃M2:Own,M2.Sub M1∧S.xpost xs M cls fs M2) :
   FnOk P w K mg base (CXE P w) (k+1) f fd ps (spX K ps.length S):=by
 refine funX F Sc spX_len fun cdv A outer s H vs Q E hr h=>?_
 obtain⟨t,ht,hq⟩:=hbody cdv A outer s H E hr
 obtain⟨xs,M,hl,oa,si,pre,post,xpost⟩:=h
 refine⟨t,ht,hq xs M hl pre (L2.start N vs) H _ (rel_start oa si) ?_ ?_ (fun _ _ _ _ _ _ z=>z.elim) (fun _ _ _ _ _ _ z=>z.elim) ?_⟩
 · rintro ρ' M1 σ' H' R st ⟨M2,hs,p⟩
   exact post (.d .none) M2 .non H' p (st.trans ⟨sub_grow hs⟩) (R.own.sub hs) (by unfold SI DV;rfl)
 · rintro v H' y M1 o s1 st ⟨M2,hs,p⟩
   exact post y M2 v H' p (st.trans ⟨sub_grow hs⟩) (o.sub hs) (s1.sub hs)
 · rintro ρ' cls fs M1 σ' dd H' R st xi ⟨M2,hs,p⟩
   exact xpost cls fs M2 dd H' p (st.trans ⟨sub_grow hs⟩) (R.own.sub hs) (xi.sub hs)
structure HasX (P:Program) (w:World) (K:Frg) (mg:Str→Option Value) (base:Heap) (x:Str) (k:Nat) (ps:List Str) (S:FSpX):Prop where
 ex:∃f fd,FnOk P w K mg base (CXE P w) k f fd ps (spX K ps.length S)∧mg x=some (.ref f)∧PySem.W.keepIn K (.ref f)=true∧Binds K fd ps []
theorem pe_callHX {X:Cx}{R:Rx}{x:Str}{k:Nat}{ps:List Str}{S:FSpX}{e:Expr}{es:List Expr}{t:TA}{p pos:Pos}(h:HasX X.prog X.w X.K X.mg X.base x k ps S) (hr:Room k X.A) (hg:Gl X x) (ha:PA (X.wish (Fly X R)) (e::es) t)
   (hdb:(x==("__debug__":Str))=false:=by decide) (he:starEach (e::es) X.env=(false,eval e X.env)::starEach es X.env:=by rfl) (hpl:(backTo pos (starEach es X.env)).any (·.1)=false:=by rfl) :
   PE (X.wish (Fly X R)) (.Call (.Name x p) (e::es) [] pos) (tCallX (spX X.K ps.length S) R t):=by
 obtain⟨f,fd,F,hm,hk,hb⟩:=h.ex
 exact pe_callX F hr hg hm hk hb ha hdb he hpl
end
end DL
namespace DL
open PySem PySem.Spec L2 XC
open PyProof.Rows (envOfC AllBare)
def inCls (k:Nat):Stmt→Stmt
 | .ClassDef _ _ _ b _ _ _ _ _ _ _=>b.getD k (.Pass ⟨0,0,0,0⟩)
 | _=>.Pass ⟨0,0,0,0⟩
section
variable {P:Program}{w:World}{K:Frg}{mg:Str→Option Value}{base:Heap}
theorem kCallX (X:Cx) (R:Rx) {x:Str}{k:Nat}{ps:List Str}{S:FSpX}{e:Expr}{es:List Expr}{t:TA}{p pos:Pos}(hK:X.K=K) (hP:X.prog=P) (hw:X.w=w) (hmg:X.mg=mg) (hbs:X.base=base)
   (h:HasX P w K mg base x k ps S) (hr:Room k X.A) (hg:Gl X x) (ha:PA (X.wish (Fly X R)) (e::es) t)
   (hdb:(x==("__debug__":Str))=false:=by decide) (he:starEach (e::es) X.env=(false,eval e X.env)::starEach es X.env:=by rfl) (hpl:(backTo pos (starEach es X.env)).any (·.1)=false:=by rfl) :
   PE (X.wish (Fly X R)) (.Call (.Name x p) (e::es) [] pos) (tCallX (spX K ps.length S) R t):=by
 subst hK hP hw hmg hbs
 exact pe_callHX h hr hg ha hdb he hpl
structure HasR (P:Program) (w:World) (K:Frg) (mg:Str→Option Value) (base:Heap) (x fn:Str) (C S:Addr):Prop where
 ex:∃(f:Addr) (fd:FuncData) (ps:List Str),XCls K C S (.ref f)∧PySem.W.isFn K (.ref f)=true∧FnOk P w K mg base CX0 1 f fd ps (spInit C fn)∧Binds K fd ps []∧mg x=some (.ref C)
theorem kRaise1 (X:Cx) (R:Rx) {x fn:Str}{C S:Addr}{arg:Expr}{t:TA}{np cpos pos:Pos}(hK:X.K=K) (hP:X.prog=P) (hw:X.w=w) (hmg:X.mg=mg) (hbs:X.base=base)
   (h:HasR P w K mg base x fn C S) (hr:Room 2 X.A) (hg:Gl X x) (ha:PA (X.wish (Fly X R)) [arg] t) (hdb:(x==("__debug__":Str))=false:=by decide) (he:starEach [arg] X.env=[(false,eval arg X.env)]:=by rfl) :
   PS (X.wish (Fly X R)) (.Raise (some (.Call (.Name x np) [arg] [] cpos)) none pos) (tRaise1 C fn R t):=by
 subst hK hP hw hmg hbs
 obtain⟨f,fd,ps,c,hf,F,hb,hm⟩:=h.ex
 exact ps_raise1 c hf F hb hr hg hm ha hdb he
theorem init_ok {qual fn pn:Str}{st:Stmt}{f C S:Addr}{fd:FuncData}{p1 p2 p3 p4:Pos}(F:Fun K "__init__" qual st f fd) (Sc:FnScope ["self", pn] ["self", pn] (defScope st)) (hb:defBody st=[.Assign [.Attribute (.Name "self" p1) fn p2] (.Name pn p3) p4])
   (c:XCls K C S (.ref f)) (cs:XSet K C fn) (nd:(["self", pn]:List Str).Nodup) (hs:∀env:Env,swapsWith (.Name pn p3) (some (.Attribute (.Name "self" p1) fn p2)) p4.line env=pure false)
   (h0:∀X:Cx,X.N=(["self", pn]:List Str)→X.env.scope=defScope st→PE X (.Name "self" p1) (tVar 0)) (h1:∀X:Cx,X.N=(["self", pn]:List Str)→X.env.scope=defScope st→PE X (.Name pn p3) (tVar 1)):FnOk P w K mg base CX0 1 f fd ["self", pn] (spInit C fn):=by
 refine F.ok Sc (fun vs H Q E ⟨e,v,t,h,_⟩=>by rw[h];rfl) fun cdv A outer s H vs Q E hr ⟨e,v,t,ev,he,hq⟩=>?_
 subst ev
 rw[hb]
 refine⟨_,pss_one (ps_xset (C:=C) (S:=S) (fn:=fn) c cs (h0 _ rfl rfl) (h1 _ rfl rfl) (hs _)),?_⟩
 exact⟨v,rfl,.ref e,rfl,e,t,rfl,he,fun d hd hne=>hq d hd hne⟩
end
end DL
namespace XC
open PySem PySem.Spec L2
open PyProof.Rows (envOfC AllBare)
theorem inv_track {X:Cx}{pins:List (Addr×Obj)}{σ:St}{H:Hp}{s:Shared}{a:Addr}{o:HO}(I:Inv X pins σ H s) (hn:H a=none) (ha:X.s₀.heap.objs.size≤a) (hl:a≠X.env.locals) (hc:∀x c,X.env.cells.lookup x=some c→c≠a) (hp:∀p∈X.pn++pins,p.1≠a)
   (new:ObjOk X.prog X.w (upd H a o) s.heap a o):Inv X pins σ (upd H a o) s:=by
 have B:=I.base
 have sm:∀b u,H b=some u→upd H a o b=some u:=fun b u q=>by rw[upd_ne (fun z=>by rw[z,hn] at q;cases q)];exact q
 have ne:∀b u,X.s₀.heap.get? b=some u→b≠a:=fun b u q z=>by rw[z] at q;exact absurd (zP (zM q) ha) (yF _)
 refine⟨I.ok,I.os,I.bare,⟨B.keep,B.slot,fun b u q n hx=>by rw[upd_ne (ne b u q)];exact B.free b u q n hx,B.there,fun b xs q=>sm _ _ (B.tups b xs q),fun b u xs q=>sm _ _ (B.frzs b u xs q),fun b ps q=>?_⟩,I.loc,I.cell,by rw[upd_ne hl.symm];exact I.free,fun x c q=>by rw[upd_ne (hc x c q)];exact I.freeC x c q,fun p hq=>?_,fun b u q=>?_,I.len⟩
 · obtain⟨m,q'⟩:=B.tbls b ps q
   exact⟨m,sm _ _ q'⟩
 · obtain⟨a1,a2,a3⟩:=I.pin p hq
   exact⟨a1,by rw[upd_ne (hp p hq)];exact a2,a3⟩
 · by_cases z:b=a
   · subst z;rw[upd_same] at q;cases q;exact new
   · rw[upd_ne z] at q
     exact(I.hok b u q).stay (fun _ _ _ q=>q) (fun c q=>sm _ _ q) fun c xs q=>sm _ _ q
theorem goes_ok {X:Cx}{pins:List (Addr×Obj)}{σ:St}{H:Hp}{s:Shared}{M:Model}{A:Around}{E:Value→Shared→Prop}{i:Nat}{x:Str}{pos:Pos}{Q:Unit→Shared→Prop}(I:Inv X pins σ H s) (hN:X.N.Nodup) (hi:X.N[i]?=some x) (hk:X.env.kindOf x=some .local)
   (h:∀s',Inv X pins (σ.set i none) H s'→Q () s'):wpAny M A (do bindName X.env x .none;unbindBehindTheSuite X.env x pos) Q E s:=by
 obtain⟨m,hn,hl⟩:=id I.loc
 have hcls:(X.env.scope.kind==.class||(X.env.scope.kind==.module&&X.env.locals != X.env.globals))=false:=by rw[I.ok.kind];rfl
 have cne:=I.cne
 refine wpAny_nameGoes_keeps hk hn hcls fun h' v hn' hs=>?_
 obtain⟨oL,_,_,hoL,_⟩:=id hn
 refine h _ ⟨I.ok,I.os,I.bare,⟨fun b o e n hb hx=>?_,fun b o e n hb hx=>?_,I.base.free,fun b o e hx=>?_,I.base.tups,I.base.frzs,I.base.tbls⟩,⟨_,hn',fun j y v' e1 e2 e3=>?_⟩,fun y c e=>?_,I.free,I.freeC,fun p hp=>?_,fun b ob e=>?_,by rw[List.length_set];exact I.len⟩
 · exact(hs.2 b (zC (zP (zM e) I.ok.above))).trans (I.base.keep b o e n hb hx)
 · obtain⟨sl,e1⟩:=I.base.slot b o e n hb hx
   exact⟨sl,(hs.2 b (zC (zP (zM e) I.ok.above))).trans e1⟩
 · obtain⟨o',e1⟩:=I.base.there b o e hx
   exact⟨o',(hs.2 b (zC (zP (zM e) I.ok.above))).trans e1⟩
 · by_cases hj:j=i
   · subst hj
     rw[List.getElem?_set] at e2
     simp at e2
   · rw[List.getElem?_set_ne (Ne.symm hj)] at e2
     obtain⟨u',r',q⟩:=hl j y v' e1 e2 e3
     refine⟨u',r',?_⟩
     rcases q with ⟨k,e⟩ | ⟨k,c,e,z⟩
     · refine .inl ⟨k,?_⟩
       have:y≠x:=fun e=>hj (nodup_ix hN e1 (e▸hi))
       simp[this,e]
     · exact .inr ⟨k,c,e,z.sameBut hs (cne y c e)⟩
 · obtain⟨w',z⟩:=I.cell y c e
   exact⟨w',z.sameBut hs (cne y c e)⟩
 · obtain⟨e,n,ne,nf,d⟩:=I.pin p hp
   exact⟨(hs.2 p.1 ne).trans e,n,ne,nf,d⟩
 · refine(I.hok b ob e).stay (fun c w' hc q=>(hs.2 c ?_).trans q) (fun _ q=>q) fun _ _ q=>q
   rintro rfl
   rcases hc with rfl | hc
   · rw[I.free] at e;cases e
   · rw[I.free] at hc;cases hc
theorem exK_ok {P:Program}{w:World}{H:Hp}{h:Heap}{a C:Addr}{dd:Option Addr}{ar:Value}{T:Option Addr}{fl:Value}(x:ExAt h a (.ref C) dd ar T fl):ObjOk P w H h a (DL.exK a C dd):=by
 obtain⟨oe,vs,he,hc,hd,hdt,_⟩:=x
 exact⟨⟨oe,vs,he,hc,hd,hdt⟩,⟨_,he⟩,fun _ _ ⟨o,v,a1,a2⟩ b=>⟨o,v,b _ a1,a2⟩⟩
def tTryAs (K:Frg) (D:Addr) (i:Nat) (tb:(St→XK)→TS) (ts:TS):TS:=fun D' σ H=>tb (fun σ' cls dd H'=>∃C,cls = .ref C∧XM K C D ∧
 ∀a,H' a=none→ts { nx:=fun σ2 H2=>D'.nx (σ2.set i none) H2,rt:=D'.rt,bk:=fun σ2 H2=>D'.bk (σ2.set i none) H2,ct:=fun σ2 H2=>D'.ct (σ2.set i none) H2 } (σ'.set i (some (.ref a))) (upd H' a (DL.exK a C dd))) D' σ H
theorem ps_tryAs {X:Cx}{D:Addr}{i:Nat}{body:List Stmt}{b₀:Stmt}{suite:List Stmt}{x n:Str}{np hpos pos:Pos}{tb:(St→XK)→TS}{ts:TS}(hstk:X.stack=X.env::X.outer) (hfr:X.env.frame=some X.env.locals)
   (hN:X.N.Nodup) (hi:X.N[i]?=some n) (hk:X.env.kindOf n=some .local)
   (hg:Gl X x) (hm:X.mg x=some (.ref D)) (hb:∀(pn:List (Addr×Obj)) (R:St→XK),PSs ((pinned X pn).wish (Fly (pinned X pn) R)) body (tb R)) (hs:∀a,PSs (hand X a) (b₀::suite) ts) (hdb:(x==("__debug__":Str))=false:=by decide) :
   PS X (.Try body [.ExceptHandler (some (.Name x np)) (some n) (b₀::suite) hpos] [] [] pos) (tTryAs X.K D i tb ts):=by
 intro pins s σ H D' I h
 have ok:=I.ok
 refine wpAny_Try_except ?_
 have hbody:=hb (X.pn++pins) _ [] s σ H D' ((inv_pin I).wish _) h
 refine wpAny_mono hbody (fun f s1 q=>?_) fun e s1 q=>?_
 · have q':=sp_unpin ok q.unwish
   cases f with
   | next=>exact wpAny_execs_nil q'
   | ret v=>exact q'
   | brk=>exact q'
   | cont=>exact q'
 · obtain⟨a,T,cls,dd,ar,σ',H',fl,rfl,J,⟨x1,hfl⟩,la,lT,⟨C,rfl,xm,r⟩⟩:=q
   have I1:=inv_unpin ok J
   have fr:X.A.frames=some (X.env::X.outer):=by rw[← hstk];exact ok.frames
   have hl:s1.heap.FunFrames X.base (X.env::X.outer):=by rw[← hstk];exact I1.stack
   refine note_any fr hl hfr x1 hfl fun h2 T' x2 n2 m2=>?_
   have hfs:(X.env::X.outer).filterMap (·.frame)=frs X.stack:=by rw[hstk];rfl
   rw[hfs] at m2
   have lo:∀b,Loose (pinned X (X.pn++pins)) H' b→H' b=none∧X.s₀.heap.objs.size≤b∧b≠X.env.locals∧(∀x c,X.env.cells.lookup x=some c→c≠b)∧∀p∈X.pn++pins,p.1≠b:=fun b l=>⟨l.fre,l.above,l.loc,l.cel,l.pn⟩
   have I2:Inv X pins σ' H' { s1 with heap:=h2 }:=inv_moved I1 m2 fun b hb=>by
     rcases yX.mp hb with q | q
     · rw[q];exact lo _ la
     · exact lo _ (lT b (by cases T with | none=>simp at q | some t=>simp at q;rw[q]))
   have lT':=lo _ (n2.elim (fun z=>lT T' z) fun z=>Loose.of (b:=T') J z.2 (J.hok.fresh z.2))
   refine flight_ok (s:={ s1 with heap:=h2 }) x2 fun h3 x3 m3=>?_
   have I3:Inv X pins σ' H' { s1 with heap:=h3 }:=inv_moved (s:={ s1 with heap:=h2 }) (ch:=[T']) I2 (m3.mono (fun b z=>absurd z (by simp)) fun b z=>z) fun b hb=>by
     have:b=T':=by simpa using hb
     rw[this];exact lT'
   have I4:=inv_hand I3 a
   refine wpAny_handleBy_cons (codeAny_handlers_test (ld_glob (X:=hand X a) I4 hg hm ?_ hdb)) (by intro q;cases q)
   obtain⟨oe,vs,he,hc,_⟩:=id x3
   refine xm _ _ _ _ { s1 with heap:=h3 } a oe _ I3.kIn he hc (codeAny_handlers_suite_as ?_)
   refine flight_ok (s:={ s1 with heap:=h3 }) x3 fun h4 x4 m4=>?_
   have I5:Inv X pins σ' H' { s1 with heap:=h4 }:=inv_moved (s:={ s1 with heap:=h3 }) (ch:=[T']) I3 (m4.mono (fun b z=>absurd z (by simp)) fun b z=>z) fun b hb=>by
     have:b=T':=by simpa using hb
     rw[this];exact lT'
   obtain⟨q1,q2,q3,q4,q5⟩:=lo _ la
   have I6:Inv X pins σ' (upd H' a (DL.exK a C dd)) { s1 with heap:=h4 }:=inv_track I5 q1 q2 q3 q4 q5 (exK_ok x4)
   have hkl:Loc X.env.scope n:=.inl hk
   refine store_ok (X:=X) I6 hN hi hkl (v:=.ref a) (u:=.ref a) rfl (fun s5 I7=>?_) (.inr hk)
   refine wpAny_mono (hs a pins s5 _ _ _ (inv_hand I7 a) (r a q1)) (fun f s' q=>?_) fun _ _ z=>False.elim z
   have q':=sp_unhand ok q
   cases f with
   | next=>obtain⟨σ2,H2,I8,z⟩:=q';exact goes_ok I8 hN hi hk fun s9 I9=>⟨_,_,I9,z⟩
   | brk=>obtain⟨σ2,H2,I8,z⟩:=q';exact goes_ok I8 hN hi hk fun s9 I9=>⟨_,_,I9,z⟩
   | cont=>obtain⟨σ2,H2,I8,z⟩:=q';exact goes_ok I8 hN hi hk fun s9 I9=>⟨_,_,I9,z⟩
   | ret u=>obtain⟨v,σ2,H2,I8,rv,z⟩:=q';exact goes_ok I8 hN hi hk fun s9 I9=>⟨v,_,_,I9,rv,z⟩
end XC
namespace DL
open PySem PySem.Spec L2 XC
section
variable {K:Frg}{ρ:List (Option DS)}{M:Own}{H:Hp}{σ:St}{D:EndsD}
theorem own_newX {a C:Addr}{dd:Option Addr}{fs:List (Str×PyData)}(oa:OA K H M) (h:H a=Option.none) (hd:XI K H M.W dd fs) :
   OA K (upd H a (exK a C dd)) (M.put a (.x C fs))∧Step K M (M.put a (.x C fs)) H (upd H a (exK a C dd)):=by
 have g:Grow K M.W (M.put a (.x C fs)).W H (upd H a (exK a C dd)):=⟨fun b u e _=>.inl (by rw[upd_ne (ne_of_none e h)];exact e),fun b w=>by
   by_cases hb:b=a
   · subst hb;exact .inr h
   · left;unfold Own.W at w ⊢;rw[yH hb] at w;exact w⟩
 refine⟨fun b o e=>?_,⟨g⟩⟩
 by_cases ha:b=a
 · subst ha;rw[zU] at e;cases e;exact⟨dd,upd_same,hd.grow g⟩
 · rw[yH ha] at e
   have q:=oa b o e
   cases o with
   | l ds=>obtain⟨vs,q1,q2⟩:=q;exact⟨vs,by rw[upd_ne ha];exact q1,q2.grow g⟩
   | d kvs=>obtain⟨vs,q1,q2⟩:=q;exact⟨vs,by rw[upd_ne ha];exact q1,q2.grow g⟩
   | x C fs=>obtain⟨vs,q1,q2⟩:=q;exact⟨vs,by rw[upd_ne ha];exact q1,q2.grow g⟩
theorem Rel.unset (R:Rel K M ρ σ H) (i:Nat):Rel K M (ρ.set i none) (σ.set i none) H:=by
 refine⟨R.own,by rw[List.length_set,List.length_set];exact R.len,fun j y e=>?_⟩
 rw[List.getElem?_set] at e ⊢
 by_cases hij:i=j
 · rw[if_pos hij] at e
   split at e <;> cases e
 · rw[if_neg hij] at e ⊢
   exact R.slot j y e
abbrev EndsD.gone (D:EndsD) (i:Nat):EndsD:={ nx:=fun ρ2 M2=>D.nx (ρ2.set i none) M2,rt:=D.rt,bk:=fun ρ2 M2=>D.bk (ρ2.set i none) M2,ct:=fun ρ2 M2=>D.ct (ρ2.set i none) M2 }
theorem ds_tryAs {Da:Addr}{i:Nat}{tb:Rx→TS}{ts:TS}(h:∀R,DXt K R (tb R) ρ M D fun ρ' cls fs M'=>∃C,cls = .ref C∧XM K C Da∧∀a,M' a=none→DSt K ts (ρ'.set i (some (.loc a))) (M'.put a (.x C fs)) (D.gone i)):DSt K (tTryAs K Da i tb ts) ρ M D:=fun σ H E Rl k1 k2 k3 k4=>by
 refine h _ σ H E Rl k1 k2 k3 k4 fun ρ' cls fs M' σ' dd H' R' st xi ⟨C,e,xm,q⟩=>⟨C,e,xm,fun a ha=>?_⟩
 obtain⟨o2,t2⟩:=own_newX (C:=C) R'.own ha xi
 have R2:=(R'.step o2 t2).set (x:=.loc a) (v:=.ref a) rfl i
 have s2:=st.trans t2
 exact q a (R'.own.none ha) _ _ _ R2 (fun a b c d e f g=>k1 _ b _ d (e.unset i) (s2.trans f) g) (fun a b c d e f g q=>k2 a b c d e f (s2.trans g) q) (fun a b c d e f g=>k3 _ b _ d (e.unset i) (s2.trans f) g) (fun a b c d e f g=>k4 _ b _ d (e.unset i) (s2.trans f) g)
end
section
variable {P:Program}{w:World}{K:Frg}{mg:Str→Option Value}{base:Heap}
theorem kTryAs (X:Cx) {D:Addr}{i:Nat}{body:List Stmt}{b₀:Stmt}{suite:List Stmt}{x n:Str}{np hpos pos:Pos}{tb:Rx→TS}{ts:TS}(hK:X.K=K) (hstk:X.stack=X.env::X.outer) (hfr:X.env.frame=some X.env.locals)
   (hN:X.N.Nodup) (hi:X.N[i]?=some n) (hk:X.env.kindOf n=some .local)
   (hg:Gl X x) (hm:X.mg x=some (.ref D)) (hb:∀(pn:List (Addr×Obj)) (R:Rx),PSs ((pinned X pn).wish (Fly (pinned X pn) R)) body (tb R)) (hs:∀a,PSs (hand X a) (b₀::suite) ts) (hdb:(x==("__debug__":Str))=false:=by decide) :
   PS X (.Try body [.ExceptHandler (some (.Name x np)) (some n) (b₀::suite) hpos] [] [] pos) (tTryAs K D i tb ts):=by
 subst hK
 exact ps_tryAs hstk hfr hN hi hk hg hm hb hs hdb
end
end DL
namespace XC
open PySem PySem.Spec L2
section
open PySem.W
variable {K:Frag}{prog:Program}{w:World}{A:Around}{E:Value→Shared→Prop}{s:Shared}{x D C:Addr}{ox:Obj}{odo:Option Obj}{name:Str}
structure XKit (K:Frag) (D:Addr):Prop where
 ga:findIn K (.ref D) "__getattribute__"=some (some (.builtin "BaseException.__getattribute__"))
 gg:findIn K (.ref D) "__getattr__"=some none
 hd:hasDictIn K D=true
 ca:findIn K (.ref D) "__class__"=some (some (.builtin "object.__class__"))
 gt:specialIn K (.builtin "object.__class__") "__get__"=some (some (.builtin "getset_descriptor.__get__"))
 tk:takesIn K (.builtin "object.__class__")=some true
 ob:mroIn K D (.type "object")=some true
 bx:mroIn K D (.type "BaseException")=some true
theorem check_ga {nameV:Value}{Q:Unit→Shared→Prop}(X:K.In s.heap) (I:InstAt s.heap x ox D odo) (c:XKit K D) (hq:Q () s):wpAny (model prog w) A (checkBuiltinCall "BaseException.__getattribute__" ⟨[.ref x,nameV],[]⟩) Q E s:=by
 have hk:builtinKind "BaseException.__getattribute__"=some .slot:=by decide +kernel
 have hsplit:splitId "BaseException.__getattribute__"=some ("BaseException", "__getattribute__"):=by decide +kernel
 have ha:=F.args_bexc_ga (.ref x) nameV
 have L0:=I.type (M:=model prog w)
 have L1:=looks_mroIn (M:=model prog w) X c.bx
 simp only[checkBuiltinCall,hk,hsplit]
 refine zZ ?_
 unfold isInstance
 refine zZ (L0.at (L1.at ?_))
 repeat (first | assumption | wp_step)
theorem ga_call {tk:Tok}{R:Result→Shared→Prop}(X:K.In s.heap) (I:InstAt s.heap x ox D odo) (c:XKit K D)
   (h:wpAny (model prog w) A.in1 (Builtin.«object.__getattribute__» ⟨[.ref x,.str name tk],[]⟩) (fun fin s'=>match fin with | .done f=>R (.ok f) s' | .again _=>False) (fun e s'=>R (.error e) s') s) :
   codeAny (model prog w) A (.call (.builtin "BaseException.__getattribute__") ⟨[.ref x,.str name tk],[]⟩) R s:=by
 refine codeAny_call_builtin F.attr_ValueError.ga.plain F.entry_bexc_ga (check_ga X I c (wpAny_mono h (fun fin s' z=>?_) fun _ _ z=>z))
 cases fin with
 | done f=>exact z
 | again c=>exact z.elim
theorem exc_by {tk:Tok}{fill expr:Bool}{Q:Value→Shared→Prop}(X:K.In s.heap) (I:InstAt s.heap x ox D odo) (c:XKit K D)
   (h:wpAny (model prog w) A.in1 (Builtin.«object.__getattribute__» ⟨[.ref x,.str name tk],[]⟩) (fun fin s'=>match fin with | .done (.ret v)=>wpAny (model prog w) A (handedOut v) Q E s' | _=>False) (fun _ _=>False) s) :
   wpAny (model prog w) A (getAttrBy (.ref x) (.str name tk) fill expr) Q E s:=by
 have L0:=I.type (M:=model prog w)
 have L1:=looks_findIn (M:=model prog w) X c.ga
 have L2:=looks_findIn (M:=model prog w) X c.gg
 have hx0:(expr&&onTheHeap (Value.builtin "BaseException.__getattribute__"))=false:=by cases expr <;> rfl
 have hx2:(Value.builtin "BaseException.__getattribute__" == Value.builtin "object.__getattribute__")=false:=by decide +kernel
 have hx1:(onTheHeap (Value.ref D)&&Value.builtin "BaseException.__getattribute__" == Value.builtin "object.__getattribute__")=false:=by rw[hx2];rfl
 obtain⟨hh,g,d,t,os⟩:=s
 unfold getAttrBy
 refine wpAny_holding (zZ (L0.at (zZ (L1.at ?_))))
 simp only[hx1]
 unfold getAttrByItsOwn hookBefore
 refine zZ ?_
 rw[if_pos (show onTheHeap (Value.ref D)=true from rfl)]
 refine L2.at ?_
 refine zZ (wpAny_attempt (wpAny_holding ?_))
 unfold callGetattribute
 rw[if_neg (by rw[hx0];decide)]
 unfold boundAndCalled
 rw[F.attr_ValueError.ga.bind]
 refine zZ (zY ?_)
 refine wpAny_call (ga_call X I c (wpAny_mono h (fun fin s' z=>?_) fun _ _ z=>z.elim))
 rcases fin with (_ | _ | _ | _) | _ <;> first | exact z | exact z.elim
theorem exc_value {tk:Tok}{v:Value}{P:Value→Shared→Prop}{E':Value→Shared→Prop}(X:K.In s.heap) (I:InstAt s.heap x ox D odo) (hf:findObj K D odo name=some (.value v)) (h:P v s) :
   wpAny (model prog w) A (Builtin.«object.__getattribute__» ⟨[.ref x,.str name tk],[]⟩) (fun fin s'=>match fin with | .done (.ret v)=>P v s' | _=>False) E' s:=by
 obtain⟨hh',g,d,t,os⟩:=s
 have L0:=I.type (M:=model prog w)
 have L1:=looks_find (M:=model prog w) X I hf
 refine zZ (zY (zZ (zY (zZ (L0.at (zZ (L1.at ?_)))))))
 exact zY h
theorem exc_bind {tk:Tok}{g a:Value}{P:Value→Shared→Prop}{E':Value→Shared→Prop}(X:K.In s.heap) (I:InstAt s.heap x ox D odo) (hf:findObj K D odo name=some (.bind g a)) (h:wpAny (model prog w) A (call g [a,.ref x,.ref D]) P E' s) :
   wpAny (model prog w) A (Builtin.«object.__getattribute__» ⟨[.ref x,.str name tk],[]⟩) (fun fin s'=>match fin with | .done (.ret v)=>P v s' | _=>False) E' s:=by
 obtain⟨hh',gg,d,t,os⟩:=s
 have L0:=I.type (M:=model prog w)
 have L1:=looks_find (M:=model prog w) X I hf
 refine zZ (zY (zZ (zY (zZ (L0.at (zZ (L1.at ?_)))))))
 show wpAny _ _ (holding [a] (call g [a,.ref x,.ref D]) >>= ret) _ _ _
 exact zZ (wpAny_holding (wpAny_mono h (fun v s' z=>zY z) fun _ _ z=>z))
theorem get_excv {expr:Bool}{v:Value}{Q:Value→Shared→Prop}(X:K.In s.heap) (I:InstAt s.heap x ox D odo) (c:XKit K D) (hf:findObj K D odo name=some (.value v)) (hh:handedIn v=true) (h:Q v { s with toks:=s.toks+1 }) :
   wpAny (model prog w) A (getAttr (.ref x) name expr) Q E s:=by
 obtain⟨hp,g,d,t,os⟩:=s
 unfold getAttr
 refine zZ (wpAny_mkText (exc_by (s:=⟨hp,g,d,t+1,os⟩) X I c (exc_value (s:=⟨hp,g,d,t+1,os⟩) X I hf ?_)))
 rw[handedOut_of hh];exact zY h
theorem findObj_dataO {a g:Value}(hc:(clsIn K C).isSome=true) (ha:findIn K (.ref C) name=some (some a)) (hg:specialIn K a "__get__"=some (some g)) (ht:takesIn K a=some true):findObj K C odo name=some (.bind g a):=by
 obtain⟨cd,hc⟩:=xY.mp hc
 unfold findObj
 rw[hc,Option.bind_some,ha,Option.bind_some]
 simp[hg,ht]
theorem kitx_exc (c:XKit K D):KitX K (.ref x) (.ref D) (fun h=>∃ox od,InstAt h x ox D od) where
 ty:=fun _ _ _ ⟨_,_,I⟩=>I.type
 it:=fun _ _ X _=>by
   obtain⟨cdD,hcD,_⟩:=any_some c.hd
   unfold clsIn at hcD
   split at hcD
   · rename_i c' d' cd' sl' ho
     intro A' Q' E' s' k q
     unfold isType loadHead
     exact zZ (wpAny_loadPart (k _ _ (X _ _ ho)) (zY q))
   · cases hcD
 ne:=fun h tp dd its n sl X htp=>by
   obtain⟨cdD,hcD,_⟩:=any_some c.hd
   refine Bool.eq_false_iff.mpr fun q=>?_
   have e:D=tp:=Value.ref.inj (beq_iff_eq.mp q)
   subst e
   unfold clsIn at hcD
   split at hcD
   · rename_i c' d' cd' sl' ho
     have z:=(X _ _ ho).symm.trans htp
     cases z
   · cases hcD
 ca:=fun {prog w A E Q s} X ⟨ox,od,I⟩ k=>by
   have hf:findObj K D od "__class__"=some (.bind (.builtin "getset_descriptor.__get__") (.builtin "object.__class__")):=findObj_dataO (by obtain⟨cd,hc,_⟩:=any_some c.hd;rw[hc];rfl) c.ca c.gt c.tk
   obtain⟨hp,g,dr,t,os⟩:=s
   unfold getAttr? getAttrBy?
   refine zZ (wpAny_mkText (zZ (wpAny_attempt ?_)))
   refine exc_by (s:=⟨hp,g,dr,t+1,os⟩) X I c (exc_bind (s:=⟨hp,g,dr,t+1,os⟩) X I hf ?_)
   exact wpAny_call (class_get (s:=⟨hp,g,dr,t+1,os⟩) (ox:=ox) (od:=od) X I c.ob (handed_on rfl (zY k)))
end
section
variable {X:Cx}{pins:List (Addr×Obj)}{σ:St}{H:Hp}{s:Shared}{a C:Addr}{dd:Option Addr}
def DdOk (H:Hp):Option Addr→Prop
 | none=>True
 | some d=>∃fs,H d=some (.xd fs)
theorem exc_inst (I:Inv X pins σ H s) (e:H a=some (DL.exK a C dd)) (hd:DdOk H dd):∃ox od,PySem.W.InstAt s.heap a ox C od∧ox.dict=dd:=by
 obtain⟨o,vs,ho,hc,hdd,hdt⟩:=(I.hok a _ e).1
 have no:PySem.W.notCls o=true:=by unfold PySem.W.notCls;rw[hdt]
 cases dd with
 | none=>exact⟨o,none,⟨ho,hc,no,by rw[hdd];trivial⟩,hdd⟩
 | some d=>
   obtain⟨fs,q⟩:=hd
   obtain⟨mA,⟨od,_,_,hod,_⟩,_⟩:=I.hok d _ q
   exact⟨o,some od,⟨ho,hc,no,by rw[hdd];exact hod⟩,hdd⟩
def rIsiX (K:Frg):List V→Hp→VK→Prop:=fun xs H Q=>∃(a C:Addr) (dd:Option Addr) (c:V) (u:Value) (b:Bool),xs=[.ref a,c]∧H a=some (DL.exK a C dd)∧DdOk H dd∧XKit K C∧(∀u',RelV c u'→u'=u)∧PySem.W.kitOne K (.ref C) u=some b∧Q (.bl b) H
theorem call_isiX:CallR X (.builtin "isinstance") (rIsiX X.K):=by
 intro pins s σ H vs us Q I r h
 obtain⟨a,C,dd,c,u,b,rfl,e,hd,k,hu,hb,q⟩:=h
 obtain⟨ua,uc,rfl,ra,rc⟩:∃ua uc,us=[ua,uc]∧RelV (.ref a) ua∧RelV c uc:=by
   cases r with | cons r1 r2=>cases r2 with | cons r3 r4=>cases r4;exact⟨_,_,rfl,r1,r3⟩
 cases (show ua=Value.ref a from ra)
 cases hu _ rc
 obtain⟨ox,od,J,_⟩:=exc_inst I e hd
 exact PySem.W.kia_one (kitx_exc k) I.kIn ⟨ox,od,J⟩ hb (fun z=>nomatch z) fun tk=>⟨.bl b,H,I.tok _,rfl,q⟩
end
end XC
namespace XC
open PySem PySem.Spec L2
section
variable {X:Cx}{pins:List (Addr×Obj)}{σ:St}{H:Hp}{s:Shared}{a C d:Addr}
theorem exc_get {fs:List (Str×V)}{f:Str}{v:V}{A:Around}{E:Value→Shared→Prop}{b:Bool}{Q:Value→Shared→Prop}(I:Inv X pins σ H s) (e:H a=some (DL.exK a C (some d))) (hd:H d=some (.xd fs)) (k:XKit X.K C) (n:NoAttr X.K C f) (l:fs.lookup f=some v)
   (h:∀u s',Inv X pins σ H s'→RelV v u→Q u s'):wpAny (model X.prog X.w) A (getAttr (.ref a) f b) Q E s:=by
 obtain⟨o,vs,ho,hc,hdd,hdt⟩:=(I.hok a _ e).1
 have no:PySem.W.notCls o=true:=by unfold PySem.W.notCls;rw[hdt]
 obtain⟨mA,ns,hr⟩:=I.hok d _ hd
 obtain⟨od,hod,hl⟩:=lookIn_ns ns
 have J:PySem.W.InstAt s.heap a o C (some od):=⟨ho,hc,no,by rw[hdd];exact hod⟩
 obtain⟨u,hu,ru⟩:=RelO.some_of (v:=v) (o:=mA f) (by rw[← l];exact hr f)
 exact get_excv I.kIn J k (PySem.W.findObj_own k.hd n rfl (by rw[hl,hu])) (handed_of ru) (h u _ (I.tok _) ru)
def tFldX (K:Frg) (ta:TE) (f:Str):TE:=fun σ H Q=>ta σ H fun x H1=>∃a C d fs v,x = .ref a∧H1 a=some (DL.exK a C (some d))∧H1 d=some (.xd fs)∧XKit K C∧NoAttr K C f∧fs.lookup f=some v∧Q v H1
theorem pe_fldX {e:Expr}{f:Str}{pos:Pos}{ta:TE}(he:PE X e ta) (hb:attributeBase e f X.env (eval e X.env)=eval e X.env):PE X (.Attribute e f pos) (tFldX X.K ta f):=by
 intro pins s σ H Q I h
 refine attr_of hb (thn (he pins s σ H _ I h) fun u s1 ⟨x,H1,I1,rx,a,C,d,fs,v,ex,ea,ed,k,n,l,q⟩=>?_)
 subst ex
 obtain rfl:u=Value.ref a:=rx
 exact exc_get I1 ea ed k n l fun u' s2 I2 ru=>⟨v,H1,I2,ru,q⟩
end
end XC
namespace DL
open PySem PySem.Spec L2 XC
section
variable {K:Frg}{ρ:List (Option DS)}{M:Own}{H:Hp}{Q:DS→Own→Prop}{ta:TE}
theorem XI.dd {W:Addr→Prop}{dd:Option Addr}{fs:List (Str×PyData)}(h:XI K H W dd fs):DdOk H dd:=by
 unfold XI at h
 split at h
 · trivial
 · obtain⟨v,_,q,_⟩:=h;exact⟨_,q⟩
 · exact h.elim
theorem rd_isiX {a C C':Addr}{fs:List (Str×PyData)}{b:Bool}(m:M a=some (.x C fs)) (k:XKit K C) (hb:PySem.W.kitOne K (.ref C) (.ref C')=some b) (q:Q (.d (.bool b)) M):DR K (rIsiX K) [.loc a,.loc C'] M Q:=fun H vs QQ oa s kk=>by
 obtain⟨v,r,rfl,h1,v2,r2,rfl,h2,h3⟩:=s
 cases h3
 unfold SI at h1 h2
 subst h1 h2
 obtain⟨dd,e,xi⟩:=oa a _ m
 exact⟨a,C,dd,.ref C',.ref C',b,rfl,e,xi.dd,k,(fun u' z=>z),hb,kk _ _ (.d (.bool b)) M oa (by unfold SI DV;rfl) Step.refl q⟩
theorem de_fldX {f:Str}(h:DE K ta ρ M fun x M1=>∃(a C:Addr) (d:PyData),x = .loc a∧M1 a=some (.x C [(f,d)])∧XKit K C∧NoAttr K C f∧Q (.d d) M1):DE K (tFldX K ta f) ρ M Q:=fun σ H QQ R kk=>
 h σ H _ R fun v H1 x M1 o1 s1 t1 h1=>by
   obtain⟨a,C,d,rfl,m,k,n,q⟩:=h1
   unfold SI at s1
   subst s1
   obtain⟨dd,e,xi⟩:=o1 a _ m
   cases dd with
   | none=>exact xi.elim
   | some p=>
     obtain⟨u,nw,e2,dv⟩:=xi
     exact⟨a,C,p,_,u,rfl,e,e2,k,n,by simp[List.lookup],kk _ _ (.d d) M1 o1 dv t1 q⟩
theorem kIsiX {X:Cx}{K:Frg}(h:X.K=K):CallR X (.builtin "isinstance") (rIsiX K):=h▸call_isiX
theorem kFldX {X:Cx}{K:Frg}{e:Expr}{f:Str}{pos:Pos}{ta:TE}(h:X.K=K) (he:PE X e ta) (hb:attributeBase e f X.env (eval e X.env)=eval e X.env):PE X (.Attribute e f pos) (tFldX K ta f):=h▸pe_fldX he hb
end
end DL
namespace L2
open PySem PySem.Spec PyProof.Rows
def Ite (K:Frg) (l:Addr):It:=
 ⟨fun i H=>∃xs,SqL K H l xs∧i < xs.length,
  fun i H x H'=>∃p a,H p=none∧x = .ref p∧H'=upd H p (.tup [.int (i:Nat),a])∧∀xs,SqL K H l xs→xs[i]?=some a,
  fun i H=>∃xs,SqL K H l xs∧xs.length≤i⟩
theorem turn_enum {P:Program}{w:World}{K:Frg}{elts:List Expr}{kk:Nat}{tpos:Pos}(e it l:Addr) (d1:e≠it) :
   Turn P w K (.Tuple elts kk tpos) (Ite K l) [e,it] e (fun i h=>(∃old,IsEnum h e it (i:Nat) old)∧h.IsListIter it l i) where
 mem:=by simp
 obj:=fun i h ⟨⟨old,a1⟩,a2⟩ b hb=>by
   simp only[yX,xX,or_false] at hb
   rcases hb with rfl | rfl
   · exact⟨_,a1,fun v q=>by cases q⟩
   · obtain⟨o,q,c,d⟩:=a2;exact⟨o,q,fun v z=>by rw[d] at z;cases z⟩
 keep:=fun i h h' ⟨⟨old,a1⟩,a2⟩ k=>⟨⟨old,k e (by simp) _ a1⟩,a2.at fun o q=>k it (by simp) o q⟩
 item:=by
   intro X hP hw hK hc i pins s σ H E I hf ⟨⟨old,a1⟩,a2⟩ hg
   subst hP hw hK
   obtain⟨xs,hx,lx⟩:=hg
   obtain⟨its,rx,px,_⟩:=I.list hx
   obtain⟨u,hu,ru⟩:=rx.get (zV lx)
   have hle:l≠e:=sq_ne I (hf e (by simp)) hx
   have hli:l≠it:=sq_ne I (hf it (by simp)) hx
   refine wpAny_pyNext_enum_item a1 a2 px.isList (x:=u) (by simpa using hu) d1 fun h' b1 b2 b3 b4 hk=>?_
   refine⟨_,rfl,wpAny_letOwnedTupleGo_enum (s:={ s with heap:=h',toks:=s.toks+1 }) b1 fun h2 c1 sb=>?_⟩
   have lt:∀{c o},s.heap.get? c=some o→s.heap.objs.size≠c:=fun q=>Nat.ne_of_gt (zM q)
   have keep:∀b o,b∉[e,it]→s.heap.get? b=some o→h2.get? b=some o:=fun b o hb q=>by
     simp only[yX,xX,or_false,not_or] at hb
     exact sb.extBut b o hb.1 (hk b o hb.1 hb.2 q)
   have hTe:s.heap.objs.size≠e:=lt a1
   have I1:Inv X pins σ (upd H s.heap.objs.size (.tup [.int (i:Nat),xs[i]])) { s with heap:=h2,toks:=s.toks+1 }:=I.turnedT (t':=s.toks+1) (ch:=[e,it]) keep (fun b hb=>(hf b hb).1)
     (fun b hb=>let q:=hf b hb;⟨q.2.2.2.1,q.2.1,q.2.2.2.2.1,q.2.2.2.2.2⟩) (zR _)
     ⟨by show 2≤sizeLine;decide,[.int (i:Nat) s.toks,u],.cons ⟨_,rfl⟩ (.cons ru .nil),⟨_,sb.extBut _ _ hTe b3,rfl,_,rfl⟩⟩
   refine⟨.ref s.heap.objs.size,_,I1,rfl,⟨s.heap.objs.size,xs[i],I.hok.fresh (zR _),rfl,rfl,fun xs' hx'=>?_⟩,⟨⟨_,c1⟩,b2.extBut sb.extBut (Ne.symm d1)⟩,fun b hb=>?_⟩
   · rw[I.list_inj hx' hx]
     exact zV lx
   · have hlt:s.heap.objs.size≠b:=by
       simp only[yX,xX,or_false] at hb
       rcases hb with rfl | rfl
       · exact lt a1
       · obtain⟨o,q,_⟩:=a2;exact lt q
     rw[upd_ne (Ne.symm hlt)]
     exact(hf b hb).1
 done:=by
   intro X hP hw hK hc i pins s σ H E I hf ⟨⟨old,a1⟩,a2⟩ hg
   subst hP hw hK
   obtain⟨xs,hx,hend⟩:=hg
   obtain⟨its,rx,px,_⟩:=I.list hx
   have e1:=rx.length
   refine wpAny_pyNext_enum_end (I.ok.hd hc) a1 a2 px.isList (by rw[Array.getElem?_eq_none];simp;omega) fun h' hk=>⟨rfl,I.turnedL (t':=s.toks) (ch:=[e,it]) (fun b o hb q=>?_) (fun b hb=>(hf b hb).1) fun b hb=>let q:=hf b hb;⟨q.2.2.2.1,q.2.1,q.2.2.2.2.1,q.2.2.2.2.2⟩⟩
   simp only[yX,xX,or_false,not_or] at hb
   exact hk b o hb.2 q
 self:=fun _ _ _ _ _ st h=>let ⟨_,q⟩:=st.1;wpAny_pyIter_enum q h
section
variable {X:Cx}{K:Frg}
def iEnum (K:Frg) (ta:TA):TI:=fun σ H R=>ta σ H fun vs H1=>∃a,vs=[.ref a]∧(∃xs,SqL K H1 a xs)∧R (Ite K a) H1
theorem pi_enum {a:Expr}{ta:TA}{p pos:Pos}{elts:List Expr}{kk:Nat}{tpos:Pos}(hg:Gl X "enumerate") (hm:X.mg "enumerate"=none) (ha:PA X [a] ta) (hs:starEach [a] X.env=[(false,eval a X.env)]:=by rfl) :
   PI X (.Tuple elts kk tpos) (.Call (.Name "enumerate" p) [a] [] pos) (iEnum X.K ta):=by
 intro pins s σ H R I h
 refine Call_ (ld_blt I hg hm boot_enumerate (xH (thn (ha pos pins s σ H _ I h) fun us s1 ⟨vs,H1,I1,r1,q1⟩=>?_) hs rfl))
 obtain⟨l,e,⟨xs,hx⟩,q⟩:=q1
 subst e
 obtain⟨u,rfl,ru⟩:=vals1 r1
 cases ru
 obtain⟨its,rx,px,_⟩:=I1.list hx
 refine call_enumerate_list px.isList fun h' b1 b2 b3 hk=>?_
 refine wpAny_pyIter_enum (s:={ s1 with heap:=h' }) b1 ?_
 refine⟨s1.heap.objs.size+1,[s1.heap.objs.size+1,s1.heap.objs.size],_,_,H1,rfl,I1.kept (t':=s1.toks) hk,turn_enum (s1.heap.objs.size+1) s1.heap.objs.size l (Nat.succ_ne_self _),⟨⟨_,b1⟩,b2⟩,fun b hb=>?_,q⟩
 have hle:s1.heap.objs.size≤b:=by
   simp only[yX,xX,or_false] at hb
   rcases hb with rfl | rfl
   · exact Nat.le_add_right _ _
   · exact zR _
 exact I1.fpOk hle (I1.hok.fresh hle)
theorem kEnum {a:Expr}{ta:TA}{p pos:Pos}{elts:List Expr}{kk:Nat}{tpos:Pos}(h:X.K=K) (hg:Gl X "enumerate") (hm:X.mg "enumerate"=none) (ha:PA X [a] ta) (hs:starEach [a] X.env=[(false,eval a X.env)]:=by rfl) :
   PI X (.Tuple elts kk tpos) (.Call (.Name "enumerate" p) [a] [] pos) (iEnum K ta):=h▸pi_enum hg hm ha hs
end
end L2
namespace DL
open PySem PySem.Spec L2
section
variable {K:Frg}{M:Own}{ρ:List (Option DS)}{QI:List PyData→Own→Prop}
def enumD (as:List PyData):List PyData:=as.zipIdx.map fun p=>.tuple [.int (p.2:Nat),p.1]
theorem di_enum {ta:TA}(h:DA K ta ρ M fun xs M1=>∃as,xs=[.d (.list as)]∧QI (enumD as) M1):DI K (iEnum K ta) ρ M QI:=fun σ H R Rl k=>
 h σ H _ Rl fun vs H1 xs M1 o1 s1 t1 ⟨as,e,q⟩=>by
   subst e
   obtain⟨v,r,rfl,h1,h3⟩:=s1
   cases h3
   unfold SI DV at h1
   obtain⟨a,va,rfl,hl,hd⟩:=h1
   have hlen:(enumD as).length=as.length:=by unfold enumD;rw[zX,List.length_zipIdx]
   refine⟨a,rfl,⟨va,hl.sq⟩,k _ (enumD as) H1 M1 o1 t1 ⟨fun i H' M' hi oa st=>?_,fun H' M' oa st=>?_,fun i H' M' x H2 oa st hi y=>?_⟩ q⟩
   · rw[hlen] at hi
     exact⟨va,(hl.grow st.grow).sq,by rw[hd.length];omega⟩
   · refine⟨va,(hl.grow st.grow).sq,?_⟩
     rw[hlen,hd.length];omega
   · obtain⟨p,xa,hp,rfl,rfl,hy⟩:=y
     have e1:=hy va (hl.grow st.grow).sq
     obtain⟨da,f1,f2⟩:=hd.get e1
     have gg:Grow K M'.W M'.W H' (upd H' p (.tup [.int (i:Nat),xa])):=grow_new _ hp
     refine⟨oa.new hp,⟨gg⟩,.tuple [.int (i:Nat),da],?_,?_⟩
     · unfold enumD
       rw[zF,List.getElem?_zipIdx,f1]
       simp
     · unfold DV
       exact⟨p,_,rfl,.inl ⟨fun w=>w (oa.none hp),.inl upd_same⟩,DVs.cons (by unfold DV;rfl) (DVs.cons ((f2.grow st.grow).grow gg) DVs.nil)⟩
end
end DL
namespace L2
open PySem PySem.Spec PyProof.Rows
section
variable {X:Cx}
def rInD (K:Frg) (neg:Bool):R2:=fun x y H Q=>∃(W:Addr→Prop) (d:PyData) (ds:List PyData),DV K H W d x∧zH d=true∧((DV K H W (.list ds) y∧zH (.list ds)=true)∨(DV K H W (.tuple ds) y∧zH (.tuple ds)=true)) ∧
 Q (.bl (if neg then !(ds.any fun e=>PyData.eqv e d) else ds.any fun e=>PyData.eqv e d)) H
theorem dep_in {A:Around}{d:PyData}{ds:List PyData}(hu:A.units+64 < cLine) (h:PyData.depthAll ds+1≤64):A.units+1+min (PyData.depthAll ds) d.depth < cLine:=by
 have:=Nat.min_le_left (PyData.depthAll ds) d.depth
 omega
theorem op_inD (hu:X.A.units+64 < cLine):OpR X (compareOp .In) (rInD X.K false):=by
 intro pins s σ H x y v u Q I rx ry h
 obtain⟨W,d,ds,h1,s1,⟨h2,s2⟩ | ⟨h2,s2⟩,q⟩:=h
 all_goals
   obtain⟨as,r1⟩:=h1.reads I (zG s1) rx
   obtain⟨bs,r2⟩:=h2.reads I (zG s2) ry
   have dep:=PySem.SeqAt.depth_of_shaped s2
 · exact PySem.SeqAt.in_list_reads r2 r1 (zG s2) (zG s1) (dep_in hu dep) ⟨.bl _,H,I,rfl,q⟩
 · exact PySem.SeqAt.in_tuple_reads r2 r1 (zG s2) (zG s1) (dep_in hu dep) ⟨.bl _,H,I,rfl,q⟩
theorem op_notInD (hu:X.A.units+64 < cLine):OpR X (compareOp .NotIn) (rInD X.K true):=by
 intro pins s σ H x y v u Q I rx ry h
 obtain⟨W,d,ds,h1,s1,⟨h2,s2⟩ | ⟨h2,s2⟩,q⟩:=h
 all_goals
   obtain⟨as,r1⟩:=h1.reads I (zG s1) rx
   obtain⟨bs,r2⟩:=h2.reads I (zG s2) ry
   have dep:=PySem.SeqAt.depth_of_shaped s2
 · exact PySem.SeqAt.notIn_list_reads r2 r1 (zG s2) (zG s1) (dep_in hu dep) ⟨.bl _,H,I,rfl,q⟩
 · exact PySem.SeqAt.notIn_tuple_reads r2 r1 (zG s2) (zG s1) (dep_in hu dep) ⟨.bl _,H,I,rfl,q⟩
end
end L2
namespace DL
open PySem PySem.Spec L2
section
variable {X:Cx}{K:Frg}
theorem kInD (h:X.K=K) (hu:X.A.units+64 < cLine):OpR X (compareOp .In) (rInD K false):=h▸op_inD hu
theorem kNotInD (h:X.K=K) (hu:X.A.units+64 < cLine):OpR X (compareOp .NotIn) (rInD K true):=h▸op_notInD hu
end
section
variable {K:Frg}{M:Own}{ρ:List (Option DS)}{g:TG}{wi:TI}{Q:DS→Own→Prop}
theorem d2_inD {neg:Bool}{d:PyData}{ds:List PyData}(s1:zH d=true) (s2:zH (.list ds)=true) (q:Q (.d (.bool (if neg then !(ds.any fun e=>PyData.eqv e d) else ds.any fun e=>PyData.eqv e d))) M):D2 K (rInD K neg) (.d d) (.d (.list ds)) M Q:=fun H v u QQ oa h1 h2 k=>
 ⟨M.W,d,ds,h1,s1,.inl ⟨h2,s2⟩,k _ H _ M oa si_of_bl Step.refl q⟩
end
end DL
namespace DL
open PySem PySem.Spec L2 XC
theorem de_cref {K:Frg}{ρ:List (Option DS)}{M:Own}{Q:DS→Own→Prop}{a:Addr}(h:Q (.loc a) M):DE K (tC (.ref a)) ρ M Q:=fun σ H QQ R k=>k _ H (.loc a) M R.own rfl Step.refl h
theorem HasX.calm {P:Program}{w:World}{K:Frg}{mg:Str→Option Value}{base:Heap}{x:Str}{k:Nat}{ps:List Str}{S:FSpX}{S':FSp}(h:HasX P w K mg base x k ps S)
   (hp:∀xs M,S'.pre xs M→S.pre xs M∧(∀y M',S.post xs M y M'→S'.post xs M y M')∧∀cls fs M',¬S.xpost xs M cls fs M'):Has P w K mg base x k ps S':=by
 obtain⟨f,fd,F,hm,hk,hb⟩:=h.ex
 refine⟨f,fd,⟨spD_len,fun A outer s H args us vs Q E hr he hbt hv hs=>?_⟩,hm,hk,hb⟩
 obtain⟨xs,M,h0,oa,si,pre,q⟩:=hs
 obtain⟨g1,g2,g3⟩:=hp xs M pre
 refine xN (F.run A outer s H args us vs Q (fun _ _ _=>False) hr he hbt hv ⟨xs,M,h0,oa,si,g1,fun y M' v H' p1=>q y M' v H' (g2 y M' p1),fun cls fs M' dd H' p1=>absurd p1 (g3 cls fs M')⟩) fun r s' hr'=>?_
 cases r with
 | ok z=>cases z <;> first | exact hr' | exact hr'.elim
 | error e=>
   obtain⟨_,_,_,_,_,_,_,_,_,_,_,_,_,_,_,_,hf⟩:=hr'
   exact hf.elim
end DL
namespace DL
open PySem PySem.Spec L2
def freshP:List Str→List Str→List Deed→Prop
 | _,_,[]=>True
 | so,sp,D::r=>amissD so D=none∧(∀n,D.made=some n→sp.head?=some n)∧D.real∧freshP (namesT so D) (spareT sp D) r
def endSS:List Str→List Str→List Deed→List Str×List Str
 | so,sp,[]=>(so,sp)
 | so,sp,D::r=>endSS (namesT so D) (spareT sp D) r
theorem fresh_snoc:∀{Ds:List Deed}{so sp so' sp':List Str}{D:Deed},freshP so sp Ds→endSS so sp Ds=(so',sp')→amissD so' D=none→(∀n,D.made=some n→sp'.head?=some n)→D.real→freshP so sp (Ds++[D])∧endSS so sp (Ds++[D])=(namesT so' D,spareT sp' D)
 | [],so,sp,so',sp',D,_,e,h1,h2,h3=>by
   cases e
   exact⟨⟨h1,h2,h3,trivial⟩,rfl⟩
 | F::r,so,sp,so',sp',D,h,e,h1,h2,h3=>by
   obtain⟨g1,g2⟩:=fresh_snoc (Ds:=r) h.2.2.2 e h1 h2 h3
   exact⟨⟨h.1,h.2.1,h.2.2.1,g1⟩,g2⟩
def Deed.must (D:Deed):List Str:=D.names.filter fun n=>decide (¬D.made=some n)
theorem mustS_d (D:Deed):mustS D.d=D.must:=by
 unfold mustS Deed.must
 rw[namesS_d]
 apply List.filter_congr
 intro n _
 rw[madeP_d]
 cases h:D.made with
 | none=>rfl
 | some x=>
   show(!PyData.eqv (.str n) (.str x))=decide (¬some x=some n)
   rw[eqv_str]
   by_cases e:n=x
   · subst e;simp
   · have:¬x=n:=fun q=>e q.symm
     simp[e,this]
def mkN (Ds:List Deed) (j:Nat):Option Str:=(Ds[j]?).bind Deed.made
def mustN (Ds:List Deed) (k:Nat):List Str:=match Ds[k]? with | some D=>D.must | none=>[]
structure FreshD (Ds:List Deed):Prop where
 one:∀i j x,mkN Ds i=some x→mkN Ds j=some x→i=j
 bef:∀j k x,mkN Ds j=some x→x∈mustN Ds k→j < k
theorem spare_sub (sp:List Str) (D:Deed):(spareT sp D).Sublist sp:=by
 unfold spareT
 split
 · exact List.drop_sublist _ _
 · exact List.Sublist.refl _
theorem fresh_all:∀(Ds:List Deed) (so sp:List Str),freshP so sp Ds→(so++sp).Nodup→(∀j x,mkN Ds j=some x→x∈sp)∧FreshD Ds
 | [],so,sp,_,_=>⟨fun j x h=>by simp[mkN] at h,fun i j x h=>by simp[mkN] at h,fun j k x h=>by simp[mkN] at h⟩
 | D::r,so,sp,h,nd=>by
   obtain⟨h1,h2,_,h3⟩:=h
   have nd2:(namesT so D++spareT sp D).Nodup:=nd.sublist (after_sub h2)
   obtain⟨i1,i2⟩:=fresh_all r _ _ h3 nd2
   have sub:=(spare_sub sp D).subset
   have m0:∀x,mkN (D::r) 0=some x→D.made=some x:=fun x h=>h
   have in0:∀x,D.made=some x→x∈sp:=fun x e=>List.mem_of_mem_head? (h2 x e)
   have all:∀j x,mkN (D::r) j=some x→x∈sp:=fun j x e=>by
     cases j with
     | zero=>exact in0 x e
     | succ j=>exact sub (i1 j x e)
   have dis:∀x,x∈so→x∈sp→False:=fun x a b=>(List.nodup_append.mp nd).2.2 x a x b rfl
   refine⟨all,fun i j x e1 e2=>?_,fun j k x e1 e2=>?_⟩
   · have two:∀j,D.made=some x→mkN r j=some x→False:=fun j a b=>by
       have q1:=i1 j x b
       have q2:=h2 x a
       unfold spareT at q1
       rw[a] at q1
       dsimp only at q1
       have nsp:sp.Nodup:=(List.nodup_append.mp nd).2.1
       cases sp with
       | nil=>simp at q2
       | cons y ys=>
         have:y=x:=by simpa using q2
         subst this
         exact(xV.mp nsp).1 (by simpa using q1)
     cases i with
     | zero=>
       cases j with
       | zero=>rfl
       | succ j=>exact(two j e1 e2).elim
     | succ i=>
       cases j with
       | zero=>exact(two i e2 e1).elim
       | succ j=>rw[i2.one i j x e1 e2]
   · cases k with
     | zero=>
       have hm:x∈D.must:=e2
       obtain⟨a,b⟩:=yL.mp hm
       have b':¬D.made=some x:=of_decide_eq_true b
       exact(dis x (st_in h1 a b') (all j x e1)).elim
     | succ k=>
       cases j with
       | zero=>exact Nat.succ_pos _
       | succ j=>exact Nat.succ_lt_succ (i2.bef j k x e1 e2)
theorem inc_ext:∀{l1 l2:List Int},l1.Pairwise (· < ·)→l2.Pairwise (· < ·)→(∀a,a∈l1↔a∈l2)→l1=l2
 | [],[],_,_,_=>rfl
 | [],b::r,_,_,h=>absurd ((h b).mpr (by simp)) (by simp)
 | a::r,[],_,_,h=>absurd ((h a).mp (by simp)) (by simp)
 | a::r,b::s,h1,h2,h=>by
   rw[List.pairwise_cons] at h1 h2
   have e:a=b:=by
     rcases yX.mp ((h a).mp (by simp)) with q | q
     · exact q
     · rcases yX.mp ((h b).mpr (by simp)) with q2 | q2
       · exact q2.symm
       · have:=h1.1 b q2;have:=h2.1 a q;omega
   subst e
   rw[inc_ext h1.2 h2.2 fun x=>?_]
   constructor
   · intro hx
     rcases yX.mp ((h x).mp (yV _ hx)) with q | q
     · have:=h1.1 x hx;omega
     · exact q
   · intro hx
     rcases yX.mp ((h x).mpr (yV _ hx)) with q | q
     · have:=h2.1 x hx;omega
     · exact q
theorem inc_of {l:List Int}(h:l.Pairwise (·≤·)) (nd:l.Nodup):l.Pairwise (· < ·):=by
 have:=h.and nd
 exact this.imp fun {a b} q=>by obtain⟨q1,q2⟩:=q;omega
def intL (l:List Nat):List Int:=l.map fun j:Nat=>(j:Int)
theorem intL_inc {l:List Nat}(h:l.Pairwise (· < ·)):(intL l).Pairwise (· < ·):=by
 unfold intL;rw[List.pairwise_map];exact h.imp fun {a b} q=>by omega
theorem mem_intL {l:List Nat}{x:Int}:x∈intL l↔∃j,j∈l∧x=(j:Int):=by
 unfold intL
 rw[zL]
 constructor
 · rintro⟨j,a,b⟩;exact⟨j,a,b.symm⟩
 · rintro⟨j,a,b⟩;exact⟨j,a,b.symm⟩
theorem range_inc (n:Nat):(List.range n).Pairwise (· < ·):=List.pairwise_lt_range
def isNeed (Ds:List Deed) (k j:Nat):Bool:=match mkN Ds j with | some x=>decide (x∈mustN Ds k) | none=>false
def needN (Ds:List Deed) (k:Nat):List Nat:=(List.range k).filter fun j=>isNeed Ds k j
theorem need_inc (Ds:List Deed) (k:Nat):(needN Ds k).Pairwise (· < ·):=(range_inc k).filter _
theorem need_lt {Ds:List Deed}{k j:Nat}(h:j∈needN Ds k):j < k:=List.mem_range.mp (yL.mp h).1
def mkL (Ds:List Deed) (o:Nat):List (Str×PyData):=match Ds with
 | []=>[]
 | D::r=>(match D.made with | some x=>[(x,PyData.int (o:Nat))] | none=>[])++mkL r (o+1)
theorem look_mk:∀(Ds:List Deed) (o:Nat),(∀i j x,mkN Ds i=some x→mkN Ds j=some x→i=j)→∀x,lookS (mkL Ds o) x=none∧(∀j,¬mkN Ds j=some x)∨∃j,mkN Ds j=some x∧lookS (mkL Ds o) x=some (.int ((o+j:Nat):Int))
 | [],o,_,x=>.inl ⟨rfl,fun j=>by simp[mkN]⟩
 | D::r,o,h,x=>by
   have ih:=look_mk r (o+1) (fun i j y a b=>Nat.succ.inj (h (i+1) (j+1) y a b)) x
   cases hm:D.made with
   | none=>
     have e:mkL (D::r) o=mkL r (o+1):=by rw[mkL,hm];rfl
     rw[e]
     rcases ih with ⟨a,b⟩ | ⟨j,a,b⟩
     · refine .inl ⟨a,fun j q=>?_⟩
       cases j with
       | zero=>have:D.made=some x:=q;rw[hm] at this;cases this
       | succ j=>exact b j q
     · exact .inr ⟨j+1,a,by rw[b];congr 2;omega⟩
   | some y=>
     have e:mkL (D::r) o=(y,PyData.int (o:Nat))::mkL r (o+1):=by rw[mkL,hm];rfl
     rw[e]
     by_cases q:y=x
     · subst q
       exact .inr ⟨0,hm,by simp[lookS]⟩
     · rcases ih with ⟨a,b⟩ | ⟨j,a,b⟩
       · refine .inl ⟨by simp[lookS,q,a],fun j p=>?_⟩
         cases j with
         | zero=>have:D.made=some x:=p;rw[hm] at this;exact q (Option.some.inj this)
         | succ j=>exact b j p
       · exact .inr ⟨j+1,a,by simp only[lookS];rw[if_neg q,b];congr 2;omega⟩
theorem mkL_keys:∀(Ds:List Deed) (o:Nat) (x:Str),x∈(mkL Ds o).map (·.1)→∃j,mkN Ds j=some x
 | [],o,x,h=>by simp[mkL] at h
 | D::r,o,x,h=>by
   rw[mkL,xI] at h
   rcases yW.mp h with h | h
   · cases hm:D.made with
     | none=>rw[hm] at h;simp at h
     | some y=>
       rw[hm] at h
       have:x=y:=by simpa using h
       subst this;exact⟨0,hm⟩
   · obtain⟨j,e⟩:=mkL_keys r (o+1) x h
     exact⟨j+1,e⟩
theorem mkL_nodup:∀(Ds:List Deed) (o:Nat),(∀i j x,mkN Ds i=some x→mkN Ds j=some x→i=j)→((mkL Ds o).map (·.1)).Nodup
 | [],o,_=>by simp[mkL]
 | D::r,o,h=>by
   have ih:=mkL_nodup r (o+1) fun i j y a b=>Nat.succ.inj (h (i+1) (j+1) y a b)
   cases hm:D.made with
   | none=>rw[mkL,hm];exact ih
   | some y=>
     rw[mkL,hm]
     show(y::(mkL r (o+1)).map (·.1)).Nodup
     rw[xV]
     refine⟨fun hy=>?_,ih⟩
     obtain⟨j,e⟩:=mkL_keys r (o+1) y hy
     have:=h 0 (j+1) y hm e
     omega
theorem needs_eq {Ds:List Deed}(hf:FreshD Ds) {k:Nat}{D:Deed}(hD:Ds[k]?=some D) (nd:D.must.Nodup) {L ss:List Int}(hL:L=(D.must.filter fun n=>(lookS (mkL Ds 0) n).isSome).map fun n=>match lookS (mkL Ds 0) n with | some (.int i)=>i | _=>0) (hp:ss.Perm L) (hs:ss.Pairwise (·≤·)):ss=intL (needN Ds k):=by
 have val:∀n j,mkN Ds j=some n→lookS (mkL Ds 0) n=some (.int (j:Int)):=fun n j e=>by
   rcases look_mk Ds 0 hf.one n with ⟨_,b⟩ | ⟨i,a,b⟩
   · exact absurd e (b j)
   · rw[hf.one j i n e a,b,Nat.zero_add]
 have ex:∀n,(lookS (mkL Ds 0) n).isSome=true→∃j,mkN Ds j=some n:=fun n e=>by
   rcases look_mk Ds 0 hf.one n with ⟨a,_⟩ | ⟨i,a,_⟩
   · rw[a] at e;cases e
   · exact⟨i,a⟩
 have hm:mustN Ds k=D.must:=by unfold mustN;rw[hD]
 have memL:∀x,x∈L↔∃j,j∈needN Ds k∧x=(j:Int):=fun x=>by
   rw[hL,zL]
   constructor
   · rintro⟨n,hn,rfl⟩
     obtain⟨h1,h2⟩:=yL.mp hn
     obtain⟨j,e⟩:=ex n h2
     refine⟨j,?_,by rw[val n j e]⟩
     unfold needN
     refine yL.mpr ⟨List.mem_range.mpr (hf.bef j k n e (by rw[hm];exact h1)),?_⟩
     unfold isNeed
     rw[e,hm];exact decide_eq_true h1
   · rintro⟨j,hj,rfl⟩
     obtain⟨_,h2⟩:=yL.mp hj
     unfold isNeed at h2
     cases e:mkN Ds j with
     | none=>rw[e] at h2;cases h2
     | some n=>
       rw[e,hm] at h2
       refine⟨n,yL.mpr ⟨of_decide_eq_true h2,by rw[val n j e];rfl⟩,by rw[val n j e]⟩
 have ndL:L.Nodup:=by
   rw[hL]
   have inj:∀a∈D.must.filter (fun n=>(lookS (mkL Ds 0) n).isSome),∀b∈D.must.filter (fun n=>(lookS (mkL Ds 0) n).isSome),(match lookS (mkL Ds 0) a with | some (.int i)=>i | _=>0)=(match lookS (mkL Ds 0) b with | some (.int i)=>i | _=>0)→a=b:=fun a ha b hb e=>by
     obtain⟨i,ei⟩:=ex a (yL.mp ha).2
     obtain⟨j,ej⟩:=ex b (yL.mp hb).2
     rw[val a i ei,val b j ej] at e
     have:(i:Int)=(j:Int):=e
     have:i=j:=by omega
     subst this
     rw[ei] at ej
     exact Option.some.inj ej
   unfold List.Nodup
   rw[List.pairwise_map]
   exact((nd.sublist List.filter_sublist).imp_of_mem fun {a b} ha hb q e=>q (inj a ha b hb e))
 refine inc_ext (inc_of hs (hp.nodup_iff.mpr ndL)) (intL_inc (need_inc Ds k)) fun x=>?_
 rw[hp.mem_iff,memL,mem_intL]
end DL
namespace DL
open PySem PySem.Spec L2
abbrev EL:=List (Nat×List Nat)
def putE (E:EL) (m:Nat) (c:List Nat):EL:=if (E.any fun t=>decide (t.1=m))=true then E.map (fun t=>if t.1=m then (t.1,c) else t) else E++[(m,c)]
def lookE:EL→Nat→Option (List Nat)
 | [],_=>none
 | t::r,k=>if t.1=k then some t.2 else lookE r k
def chD (c:List Nat):PyData:=.tuple ((intL c).map .int)
def cvE (E:EL):List (Int×PyData):=E.map fun t=>((t.1:Int),chD t.2)
theorem cv_any (m:Nat):∀E:EL,((cvE E).any fun t=>decide (t.1=(m:Int)))=E.any fun t=>decide (t.1=m)
 | []=>rfl
 | t::r=>by
   show(decide ((t.1:Int)=(m:Int))||_)=(decide (t.1=m)||_)
   rw[show decide ((t.1:Int)=(m:Int))=decide (t.1=m) by rw[Bool.eq_iff_iff,decide_eq_true_iff,decide_eq_true_iff];omega]
   congr 1
   exact cv_any m r
theorem cv_put (E:EL) (m:Nat) (c:List Nat):putI (cvE E) (m:Int) (chD c)=cvE (putE E m c):=by
 unfold putI putE
 rw[cv_any]
 by_cases h:(E.any fun t=>decide (t.1=m))=true
 · rw[if_pos h,if_pos h]
   unfold cvE
   rw[zD,zD]
   apply yM
   intro t _
   show(if (t.1:Int)=(m:Int) then ((t.1:Int),chD c) else ((t.1:Int),chD t.2))=_
   by_cases e:t.1=m
   · rw[if_pos (by omega)]
     show _=(((if t.1=m then (t.1,c) else t).1:Int),chD (if t.1=m then (t.1,c) else t).2)
     rw[if_pos e]
   · rw[if_neg (by omega)]
     show _=(((if t.1=m then (t.1,c) else t).1:Int),chD (if t.1=m then (t.1,c) else t).2)
     rw[if_neg e]
 · rw[if_neg h,if_neg h]
   unfold cvE
   rw[xI];rfl
theorem cv_look (m:Nat):∀E:EL,lookI (cvE E) (m:Int)=(lookE E m).map chD
 | []=>rfl
 | t::r=>by
   show(if (t.1:Int)=(m:Int) then some (chD t.2) else lookI (cvE r) (m:Int))=(if t.1=m then some t.2 else lookE r m).map chD
   by_cases e:t.1=m
   · rw[if_pos (by omega),if_pos e];rfl
   · rw[if_neg (by omega),if_neg e];exact cv_look m r
theorem look_some:∀{E:EL}{m:Nat},(lookE E m).isSome=true↔m∈E.map (·.1)
 | [],m=>by simp[lookE]
 | t::r,m=>by
   unfold lookE
   by_cases e:t.1=m
   · rw[if_pos e];simp[e]
   · rw[if_neg e,look_some (E:=r)]
     simp only[zI,yX]
     constructor
     · exact .inr
     · rintro (q | q)
       · exact absurd q.symm e
       · exact q
theorem look_mem:∀{E:EL}{m:Nat}{c:List Nat},lookE E m=some c→(m,c)∈E
 | t::r,m,c,h=>by
   unfold lookE at h
   by_cases e:t.1=m
   · rw[if_pos e] at h
     have:t.2=c:=Option.some.inj h
     rw[← this,← e];simp
   · rw[if_neg e] at h;exact yV _ (look_mem h)
theorem any_mem {E:EL}{m:Nat}:(E.any fun t=>decide (t.1=m))=true↔m∈E.map (·.1):=by
 rw[List.any_eq_true,zL]
 constructor
 · rintro⟨t,a,b⟩;exact⟨t,a,of_decide_eq_true b⟩
 · rintro⟨t,a,b⟩;exact⟨t,a,decide_eq_true b⟩
theorem put_keys (E:EL) (m:Nat) (c:List Nat):(putE E m c).map (·.1)=if m∈E.map (·.1) then E.map (·.1) else E.map (·.1)++[m]:=by
 unfold putE
 by_cases h:m∈E.map (·.1)
 · rw[if_pos (any_mem.mpr h),if_pos h,zD]
   apply yM
   intro t _
   show(if t.1=m then (t.1,c) else t).1=t.1
   split <;> rfl
 · rw[if_neg fun q=>h (any_mem.mp q),if_neg h,xI];rfl
structure ChainN (Ds:List Deed) (ns c:List Nat) (m:Nat):Prop where
 last:c.getLast?=some m
 head:∃h,c.head?=some h∧h∈ns
 step:∀i a b,c[i]?=some a→c[i+1]?=some b→a∈needN Ds b
 lt:∀x∈c,x < Ds.length
 two:m∈ns∨2≤c.length
structure GoodE (Ds:List Deed) (ns:List Nat) (E:EL):Prop where
 nd:(E.map (·.1)).Nodup
 ch:∀t∈E,ChainN Ds ns t.2 t.1
theorem good_put {Ds:List Deed}{ns:List Nat}{E:EL}{m:Nat}{c:List Nat}(h:GoodE Ds ns E) (hc:ChainN Ds ns c m):GoodE Ds ns (putE E m c):=by
 refine⟨?_,fun t ht=>?_⟩
 · rw[put_keys]
   split
   · exact h.nd
   · rename_i hn
     rw[List.nodup_append]
     refine⟨h.nd,by simp,fun a ha b hb e=>?_⟩
     rw[List.mem_singleton.mp hb] at e
     exact hn (e▸ha)
 · unfold putE at ht
   split at ht
   · obtain⟨u,hu,rfl⟩:=zL.mp ht
     split
     · rename_i e
       show ChainN Ds ns c u.1
       rw[e];exact hc
     · exact h.ch u hu
   · rcases yW.mp ht with q | q
     · exact h.ch t q
     · rw[List.mem_singleton.mp q];exact hc
theorem one_chain {Ds:List Deed}{ns:List Nat}{m:Nat}(hm:m∈ns) (hl:m < Ds.length):ChainN Ds ns [m] m:=
 ⟨rfl,⟨m,rfl,hm⟩,fun i a b h1 h2=>by simp at h2,fun x hx=>by rw[List.mem_singleton.mp hx];exact hl,.inl hm⟩
theorem more_chain {Ds:List Deed}{ns c:List Nat}{g m:Nat}(h:ChainN Ds ns c g) (hg:g∈needN Ds m) (hl:m < Ds.length):ChainN Ds ns (c++[m]) m:=by
 have hne:c≠[]:=by intro e;have:=h.last;rw[e] at this;cases this
 refine⟨List.getLast?_concat,?_,fun i a b h1 h2=>?_,fun x hx=>?_,.inr ?_⟩
 · obtain⟨q,e1,e2⟩:=h.head
   refine⟨q,?_,e2⟩
   cases c with
   | nil=>exact absurd rfl hne
   | cons y ys=>exact e1
 · by_cases hi:i+1 < c.length
   · rw[yQ (by omega)] at h1
     rw[yQ hi] at h2
     exact h.step i a b h1 h2
   · by_cases hj:i+1=c.length
     · rw[yP (by omega),show i+1 - c.length=0 by omega] at h2
       rw[yQ (by omega)] at h1
       have hb:b=m:=by simpa using h2.symm
       subst hb
       have ha:c.getLast?=some a:=by rw[List.getLast?_eq_getElem?,show c.length - 1=i by omega];exact h1
       rw[h.last] at ha
       cases ha
       exact hg
     · rw[List.getElem?_eq_none (by rw[yY,List.length_singleton];omega)] at h2;cases h2
 · rcases yW.mp hx with q | q
   · exact h.lt x q
   · rw[List.mem_singleton.mp q];exact hl
 · have:=List.length_pos_iff.mpr hne
   rw[yY,List.length_singleton];omega
def e0 (ns:List Nat):EL:=ns.foldl (fun E m=>putE E m [m]) []
def goingE (Ds:List Deed) (E:EL) (m:Nat):List Nat:=(needN Ds m).filter fun j=>(lookE E j).isSome
def stepE (Ds:List Deed) (E:EL) (m:Nat):EL:=match goingE Ds E m with
 | g::_=>if (lookE E m).isNone then putE E m ((lookE E g).getD []++[m]) else E
 | []=>E
def endE (Ds:List Deed) (ns:List Nat) (k:Nat):EL:=(List.range k).foldl (stepE Ds) (e0 ns)
theorem end_succ (Ds:List Deed) (ns:List Nat) (k:Nat):endE Ds ns (k+1)=stepE Ds (endE Ds ns k) k:=by
 unfold endE;rw[List.range_succ,List.foldl_append];rfl
theorem e0_all {Ds:List Deed}{ns:List Nat}(hn:∀m∈ns,m < Ds.length):∀(l:List Nat) (E:EL),(∀m∈l,m∈ns)→GoodE Ds ns E→GoodE Ds ns (l.foldl (fun E m=>putE E m [m]) E)∧∀x,x∈(l.foldl (fun E m=>putE E m [m]) E).map (·.1)↔x∈E.map (·.1)∨x∈l
 | [],E,_,h=>⟨h,fun x=>by simp⟩
 | m::r,E,hl,h=>by
   have hm:=hl m (by simp)
   obtain⟨g1,g2⟩:=e0_all hn r (putE E m [m]) (fun x hx=>hl x (yV _ hx)) (good_put h (one_chain hm (hn m hm)))
   refine⟨g1,fun x=>?_⟩
   show x∈(r.foldl (fun E m=>putE E m [m]) (putE E m [m])).map (·.1)↔_
   rw[g2,put_keys]
   by_cases q:m∈E.map (·.1)
   · rw[if_pos q]
     constructor
     · rintro (a | a)
       · exact .inl a
       · exact .inr (yV _ a)
     · rintro (a | a)
       · exact .inl a
       · rcases yX.mp a with rfl | a
         · exact .inl q
         · exact .inr a
   · rw[if_neg q,yW,List.mem_singleton,yX,or_assoc]
def foundN (Ds:List Deed) (ns:List Nat):Nat→List Nat
 | 0=>[]
 | k+1=>if decide (k∈ns)||(needN Ds k).any (fun j=>decide (j∈foundN Ds ns k)) then foundN Ds ns k++[k] else foundN Ds ns k
theorem found_lt (Ds:List Deed) (ns:List Nat):∀k,∀x∈foundN Ds ns k,x < k
 | 0,x,h=>by simp[foundN] at h
 | k+1,x,h=>by
   unfold foundN at h
   split at h
   · rcases yW.mp h with q | q
     · have:=found_lt Ds ns k x q;omega
     · rw[List.mem_singleton.mp q];exact Nat.lt_succ_self _
   · have:=found_lt Ds ns k x h;omega
theorem found_inc (Ds:List Deed) (ns:List Nat):∀k,(foundN Ds ns k).Pairwise (· < ·)
 | 0=>by simp[foundN]
 | k+1=>by
   unfold foundN
   split
   · rw[List.pairwise_append]
     exact⟨found_inc Ds ns k,by simp,fun a ha b hb=>by rw[List.mem_singleton.mp hb];exact found_lt Ds ns k a ha⟩
   · exact found_inc Ds ns k
theorem found_struck {Ds:List Deed}{ns:List Nat}:∀{k x:Nat},x < k→x∈ns→x∈foundN Ds ns k
 | k+1,x,h,hx=>by
   unfold foundN
   by_cases e:x=k
   · subst e
     rw[decide_eq_true hx,Bool.true_or,if_pos rfl];simp
   · have:=found_struck (Ds:=Ds) (k:=k) (by omega) hx
     split
     · exact zA _ this
     · exact this
theorem end_good {Ds:List Deed}{ns:List Nat}(hn:∀m∈ns,m < Ds.length):∀k,k≤Ds.length→GoodE Ds ns (endE Ds ns k)∧∀x,x∈(endE Ds ns k).map (·.1)↔x∈ns∨x∈foundN Ds ns k
 | 0,_=>by
   obtain⟨g1,g2⟩:=e0_all hn ns [] (fun _ h=>h) ⟨by simp,by simp⟩
   refine⟨g1,fun x=>?_⟩
   show x∈(ns.foldl (fun E m=>putE E m [m]) []).map (·.1)↔_
   rw[g2];simp[foundN]
 | k+1,hk=>by
   obtain⟨g1,g2⟩:=end_good hn k (by omega)
   rw[end_succ]
   have hany:(goingE Ds (endE Ds ns k) k≠[])↔(needN Ds k).any (fun j=>decide (j∈foundN Ds ns k))=true:=by
     rw[List.any_eq_true]
     constructor
     · intro h
       cases hg:goingE Ds (endE Ds ns k) k with
       | nil=>exact absurd hg h
       | cons g r=>
         have hm:g∈goingE Ds (endE Ds ns k) k:=by rw[hg];simp
         obtain⟨a,b⟩:=yL.mp hm
         refine⟨g,a,decide_eq_true ?_⟩
         rcases (g2 g).mp (look_some.mp b) with q | q
         · exact found_struck (need_lt a) q
         · exact q
     · rintro⟨j,a,b⟩ e
       have:j∈goingE Ds (endE Ds ns k) k:=yL.mpr ⟨a,look_some.mpr ((g2 j).mpr (.inr (of_decide_eq_true b)))⟩
       rw[e] at this;cases this
   cases hg:goingE Ds (endE Ds ns k) k with
   | nil=>
     have hna:(needN Ds k).any (fun j=>decide (j∈foundN Ds ns k))=false:=by
       cases q:(needN Ds k).any (fun j=>decide (j∈foundN Ds ns k)) with
       | false=>rfl
       | true=>exact absurd hg (hany.mpr q)
     have e1:stepE Ds (endE Ds ns k) k=endE Ds ns k:=by unfold stepE;rw[hg]
     rw[e1]
     refine⟨g1,fun x=>?_⟩
     rw[g2,foundN,hna,Bool.or_false]
     by_cases q:k∈ns
     · rw[decide_eq_true q,if_pos rfl,yW,List.mem_singleton]
       constructor
       · rintro (a | a)
         · exact .inl a
         · exact .inr (.inl a)
       · rintro (a | a | a)
         · exact .inl a
         · exact .inr a
         · rw[a];exact .inl q
     · rw[decide_eq_false q,if_neg nft]
   | cons g r=>
     have hya:(needN Ds k).any (fun j=>decide (j∈foundN Ds ns k))=true:=hany.mp (by rw[hg];simp)
     have hgm:g∈goingE Ds (endE Ds ns k) k:=by rw[hg];simp
     obtain⟨ga,gb⟩:=yL.mp hgm
     have e2:foundN Ds ns (k+1)=foundN Ds ns k++[k]:=by rw[foundN,hya,Bool.or_true,if_pos rfl]
     by_cases hk2:(lookE (endE Ds ns k) k).isNone=true
     · have e1:stepE Ds (endE Ds ns k) k=putE (endE Ds ns k) k ((lookE (endE Ds ns k) g).getD []++[k]):=by unfold stepE;rw[hg];dsimp only;rw[if_pos hk2]
       rw[e1]
       obtain⟨c,hc⟩:=xY.mp gb
       have hch:=g1.ch _ (look_mem hc)
       rw[hc]
       refine⟨good_put g1 (more_chain hch ga (by omega)),fun x=>?_⟩
       rw[put_keys,e2]
       have nk:¬k∈(endE Ds ns k).map (·.1):=fun q=>by
         have:=look_some.mpr q
         rw[Option.isSome_iff_ne_none] at this
         exact this (Option.isNone_iff_eq_none.mp hk2)
       rw[if_neg nk,yW,g2,yW,or_assoc]
     · have e1:stepE Ds (endE Ds ns k) k=endE Ds ns k:=by unfold stepE;rw[hg];dsimp only;rw[if_neg hk2]
       rw[e1,e2]
       refine⟨g1,fun x=>?_⟩
       rw[g2,yW,List.mem_singleton]
       have hkk:k∈(endE Ds ns k).map (·.1):=look_some.mp (by
         cases q:lookE (endE Ds ns k) k with
         | none=>rw[q] at hk2;exact absurd rfl hk2
         | some _=>rfl)
       constructor
       · rintro (a | a)
         · exact .inl a
         · exact .inr (.inl a)
       · rintro (a | a | a)
         · exact .inl a
         · exact .inr a
         · rw[a];exact(g2 k).mp hkk
theorem ends_sorted {Ds:List Deed}{ns:List Nat}(hn:∀m∈ns,m < Ds.length) {ss:List Int}(hp:ss.Perm ((cvE (endE Ds ns Ds.length)).map (·.1))) (hs:ss.Pairwise (·≤·)):ss=intL (foundN Ds ns Ds.length):=by
 obtain⟨g1,g2⟩:=end_good hn Ds.length (zR _)
 have ek:(cvE (endE Ds ns Ds.length)).map (·.1)=intL ((endE Ds ns Ds.length).map (·.1)):=by unfold cvE intL;rw[zD,zD];rfl
 rw[ek] at hp
 have nd:(intL ((endE Ds ns Ds.length).map (·.1))).Nodup:=by
   unfold intL List.Nodup
   rw[List.pairwise_map]
   exact g1.nd.imp fun {a b} q e=>q (by omega)
 refine inc_ext (inc_of hs (hp.nodup_iff.mpr nd)) (intL_inc (found_inc Ds ns _)) fun x=>?_
 rw[hp.mem_iff,mem_intL,mem_intL]
 constructor
 · rintro⟨j,a,rfl⟩
   refine⟨j,?_,rfl⟩
   rcases (g2 j).mp a with q | q
   · exact found_struck (hn j q) q
   · exact q
 · rintro⟨j,a,rfl⟩
   exact⟨j,(g2 j).mpr (.inr a),rfl⟩
end DL
namespace L2
open PySem PySem.Spec PyProof.Rows PySem.SeqAt
theorem kv_nil {vs:List (Key×Value)}(h:KV [] vs):vs=[]:=by unfold KV at h;cases h;rfl
theorem dictOf_nil {P P':Program}{w w':World}{h:Heap}{a:Addr}(d:h.DictOf (mixKind P w) a []):h.DictOf (mixKind P' w') a []:=by
 obtain⟨o,es,ep,ho,ex,hd,_,hp,nd⟩:=d
 have he:es=#[]:=by
   have:=hp.length
   apply Array.eq_empty_of_size_eq_zero
   simpa using this
 subst he
 exact⟨o,#[],ep,ho,ex,hd,(by intro e hi;simp at hi),.nil,by simp⟩
theorem eqAt_nil {P:Program}{w:World}{A:Around}{s:Shared}{a b:Addr}(ha:(a==sysModules)=false) (hb:(b==sysModules)=false) (da:s.heap.DictOf (mixKind P w) a []) (db:s.heap.DictOf (mixKind P w) b []) (hu:A.units < cLine):EqAt A s (.ref a) (.ref b) true:=by
 by_cases hab:a=b
 · subst hab
   exact EqAt.same _
 · refine EqAt.of_refs hab fun prog w' E Q hq=>?_
   exact PySem.W.keq_eq (knd:=mixKind prog w') ha hb (dictOf_nil da) (dictOf_nil db) hu (fun _=>.nil) hq
def rNeN (K:Frg):R2:=fun x y H Q=>∃(l m a b:Addr),x = .ref l∧y = .ref m∧SqL K H l [.bl true,.ref a]∧SqL K H m [.bl true,.ref b]∧Rd H a (.dK [])∧Rd H b (.dK [])∧Q (.bl false) H
theorem op_neN {X:Cx}(hu:X.A.units+64 < cLine):OpR X (compareOp .NotEq) (rNeN X.K):=by
 intro pins s σ H x y v u Q I rx ry h
 obtain⟨l,m,a,b,rfl,rfl,hl,hm,ha,hb,q⟩:=h
 cases rx
 cases ry
 obtain⟨its,rv,pl,_⟩:=I.list hl
 obtain⟨its2,rv2,pl2,_⟩:=I.list hm
 obtain⟨_,za,va,ka,da⟩:=dk_rd I.hok ha
 obtain⟨_,zb,vb,kb,db⟩:=dk_rd I.hok hb
 rw[kv_nil ka] at da
 rw[kv_nil kb] at db
 cases rv with
 | cons r1 r2=>
   cases r2 with
   | cons r2 r3=>
     cases r3
     cases r2
     cases rv2 with
     | cons p1 p2=>
       cases p2 with
       | cons p2 p3=>
         cases p3
         cases p2
         have e1:=r1
         have e2:=p1
         subst e1 e2
         refine RcNeAt.lists (e:=fun _=>true) pl.isList pl2.isList rfl (by omega) (fun j h1 h2=>?_) _ _ _ _ ⟨.bl false,H,I,rfl,q⟩
         match j,h1,h2 with
         | 0,_,_=>exact EqAt.same _
         | 1,_,_=>exact eqAt_nil za zb da db (by show X.A.units+1 < cLine;omega)
end L2
namespace DL
open PySem PySem.Spec L2
def rNeX (K:Frg):R2:=fun x y H Q=>rEqD K true x y H Q∨rNeN K x y H Q
theorem kNeX {X:Cx}{K:Frg}(h:X.K=K) (hu:X.A.units+64 < cLine):OpR X (compareOp .NotEq) (rNeX K):=by
 subst h
 intro pins s σ H x y v u Q I rx ry h
 rcases h with h | h
 · exact op_neD hu pins s σ H x y v u Q I rx ry h
 · exact op_neN hu pins s σ H x y v u Q I rx ry h
section
variable {K:Frg}{M:Own}{Q:DS→Own→Prop}
theorem d2_neX {x y:DS}(h:D2 K (rEqD K true) x y M Q):D2 K (rNeX K) x y M Q:=fun H v u QQ oa s1 s2 k=>.inl (h H v u QQ oa s1 s2 k)
theorem d2_neN (q:Q (.d (.bool false)) M):D2 K (rNeX K) (.d (.list [.bool true,.dict []])) (.d (.list [.bool true,.dict []])) M Q:=fun H v u QQ oa s1 s2 k=>by
 have go:∀{v:V},SI K H M (.d (.list [.bool true,.dict []])) v→∃(l a:Addr),v = .ref l∧SqL K H l [.bl true,.ref a]∧Rd H a (.dK []):=fun {v} s=>by
   unfold SI DV at s
   obtain⟨l,vs,rfl,hl,hd⟩:=s
   unfold DVs at hd
   obtain⟨v1,r,rfl,h1,h2⟩:=hd
   unfold DVs at h2
   obtain⟨v2,r2,rfl,h3,h4⟩:=h2
   unfold DVs at h4
   subst h4
   unfold DV at h1 h3
   subst h1
   obtain⟨a,ks,rfl,nw,hr,hk⟩:=h3
   unfold DKV at hk
   subst hk
   exact⟨l,a,rfl,hl.sq,hr⟩
 obtain⟨l,a,rfl,a1,a2⟩:=go s1
 obtain⟨m,b,rfl,b1,b2⟩:=go s2
 exact .inr ⟨l,m,a,b,rfl,rfl,a1,b1,a2,b2,k _ H (.d (.bool false)) M oa si_of_bl Step.refl q⟩
end
end DL
namespace DL
open PySem PySem.Spec L2 XC
def DAx (K:Frg) (R:Rx) (t:TA) (ρ:List (Option DS)) (M:Own) (Q:List DS→Own→Prop) (DX:DXK):Prop:=
 ∀(σ:St) (H:Hp) (QQ:List V→Hp→Prop),Rel K M ρ σ H→(∀vs H' xs M',OA K H' M'→SIs K H' M' xs vs→Step K M M' H H'→Q xs M'→QQ vs H')→KX K R M H DX→t σ H QQ
section
variable {K:Frg}{R:Rx}{ρ:List (Option DS)}{M:Own}{DX:DXK}{ta:TE}{tl:TA}{Q:DS→Own→Prop}{QL:List DS→Own→Prop}
theorem dax_lift (h:DA K tl ρ M QL):DAx K R tl ρ M QL DX:=fun σ H QQ Rl k _=>h σ H QQ Rl k
theorem dax_cons (h:DEx K R ta ρ M (fun x M1=>DAx K R tl ρ M1 (fun xs M2=>QL (x::xs) M2) DX) DX):DAx K R (tCons ta tl) ρ M QL DX:=fun σ H QQ Rl k k5=>
 h σ H _ Rl (fun v H1 x M1 o1 s1 t1 h1=>h1 σ H1 _ (Rl.step o1 t1) (fun vs H2 xs M2 o2 s2 t2 q=>k (v::vs) H2 (x::xs) M2 o2 ⟨v,vs,rfl,s1.step t2,s2⟩ (t1.trans t2) q) (k5.step t1)) k5
end
end DL
namespace PySem
open Sem (wp)
open AutoSeq1 (wpAny_loadPart')
section
variable {prog:Program}{w:World}{A:Around}{E:Value→Shared→Prop}{s:Shared}
theorem collect_range {Q:List Value→Shared→Prop}{r:Addr}{a b c:Int}{t u v:Tok}{n:Nat}(hh:A.handled=none) (hr:IsRange s.heap r a b c t u v) (hsmall:Builtin.Range.small a b c=true) (hn:Builtin.Range.rangeSize a b c=n) (hlen:n≤2 ^ 24)
   (hQ:∀h' tk acc,(∀b o',s.heap.get? b=some o'→h'.get? b=some o')→ItemsOf (fun i v=>∃t,v = .int (a+i*c) t) acc n→Q acc.toList { s with heap:=h',toks:=tk }) :
   wpAny (model prog w) A (collect (.ref r)) Q E s:=by
 unfold collect
 refine zZ (wpAny_runValue (codeAny_builtin F.entry_proto_collect ?_))
 rw[Around.under_plainId F.plain_proto_collect _]
 show wpAny _ A.in1 (newList [] >>= fun l=>again (.builtin "list.__iadd__" ⟨[l,.ref r],[]⟩)) _ _ s
 refine zZ (xM ?_)
 refine zY ⟨plainId_quiet F.plain_list_iadd _,codeAny_builtin F.entry_list_iadd ?_⟩
 rw[Around.under_plainId F.plain_list_iadd _]
 show wpAny _ A.in1 (Builtin.List.listExtendWith (.ref s.heap.objs.size) (.ref r) (.ref s.heap.objs.size)) _ _ _
 have hS:(s.heap.push { cls:=.type "list", data:=.seq ([]:List Value).toArray }).get? s.heap.objs.size=some { cls:=.type "list", data:=.seq #[] 0 }:=yZ _ rfl
 refine wpAny_mono (wpAny_extend_range (A:=A) (s:={ s with heap:=s.heap.push { cls:=.type "list", data:=.seq ([]:List Value).toArray } }) (R:=fun rr s'=>rr = .ok (.ret (.ref s.heap.objs.size))∧∃h' tk acc' c',s'={ s with heap:=h',toks:=tk }∧(∀b o,s.heap.get? b=some o→h'.get? b=some o)∧h'.get? s.heap.objs.size=some { cls:=.type "list", dict:=none,data:=.seq acc' c',slots:=#[] }∧ItemsOf (fun i v=>∃t,v = .int (a+i*c) t) acc' n)
   hh (zW _ hr) hsmall hn hlen _ (.ref s.heap.objs.size) 0 hS fun h' tk acc' c' hk hS' hacc=>⟨rfl,h',tk,acc',c',rfl,fun b o e=>hk b o (zC (zM e)) (zW _ e),hS',hacc⟩) (fun fin s' h=>?_) (fun e s' h=>?_)
 · have fin':∀h' tk acc' c',(∀b o,s.heap.get? b=some o→h'.get? b=some o)→h'.get? s.heap.objs.size=some { cls:=.type "list", dict:=none,data:=.seq acc' c',slots:=#[] }→ItemsOf (fun i v=>∃t,v = .int (a+i*c) t) acc' n→wpAny (model prog w) A (match Value.ref s.heap.objs.size with
     | Value.ref a=>do
       match (← load a).data with
         | Data.seq xs _=>pure xs.toList
         | _=>unsupported "internal:collect"
     | _=>unsupported "internal:collect") Q E { s with heap:=h',toks:=tk }:=fun h' tk acc' c' hk hS' hacc=>by
     show wpAny _ A (load s.heap.objs.size >>= _) _ _ _
     refine zZ (wpAny_load hS' ?_)
     exact zY (hQ h' tk acc' hk hacc)
   cases fin with
   | done f=>
     obtain⟨e,h',tk,acc',c',rfl,k1,k2,k3⟩:=h
     cases e
     exact fin' h' tk acc' c' k1 k2 k3
   | again c'=>exact⟨h.1,xN h.2 fun r s'' hr=>by obtain⟨rfl,h',tk,acc',c',rfl,k1,k2,k3⟩:=hr;exact fin' h' tk acc' c' k1 k2 k3⟩
 · exact absurd h.1 (by simp)
end
theorem meets_tuple_range (l:Addr) (a b c:Int) (t u v:Tok) (n:Nat) (hsmall:Builtin.Range.small a b c=true) (hn:Builtin.Range.rangeSize a b c=n) (hlen:n≤1000) :
   Meets (Builtin.«tuple.__new__» ⟨[.type "tuple", .ref l],[]⟩)
     (fun A R s=>A.handled=none∧IsRange s.heap l a b c t u v∧∀(h':Heap) (tk:Nat) (acc:Array Value),(∀b o',s.heap.get? b=some o'→h'.get? b=some o')→ItemsOf (fun i v=>∃t,v = .int (a+i*c) t) acc n→R (.ok (.ret (.ref h'.objs.size))) { s with heap:=h'.push { cls:=.type "tuple", data:=.seq acc },toks:=tk }):=
 .of_wp fun prog w A R s h=>by
   obtain⟨hh,ht,h⟩:=h
   have hsub:=sub_tuple_self
   have hinit:=init_tuple_lookup
   have hmh:=madeHere_tuple
   have hT:s.TypeIs (.ref l) "range" := ⟨_,ht,rfl⟩
   have hh1:A.in1.handled=none:=hh
   obtain⟨hp,g,d,tk,os⟩:=s
   wp_walk using wpAny_loadPart' ht,wpAny_typeOf hT,collect_range hh1 ht hsmall hn (zN hlen (by decide))
   intro h' tk' acc hk hacc
   show wpAny _ _ (Builtin.Tuple.tupleExact acc.toList.toArray >>= fun v=>ret v) _ _ _
   unfold Builtin.Tuple.tupleExact
   refine zZ (xM ?_ (show acc.toList.toArray.size≤sizeLine by simp only[Array.toArray_toList];rw[hacc.1];exact zN hlen (by decide)))
   refine zY ⟨_,rfl,?_⟩
   have e:acc.toList.toArray=acc:=by simp
   rw[e]
   exact h h' tk' acc hk hacc
section
variable {prog:Program}{w:World}{A:Around}{E:Value→Shared→Prop}{s:Shared}
theorem call_tuple_range {Q:Value→Shared→Prop}{l:Addr}{a b c:Int}{t u v:Tok}{n:Nat}(hh:A.handled=none) (hr:IsRange s.heap l a b c t u v) (hsmall:Builtin.Range.small a b c=true) (hn:Builtin.Range.rangeSize a b c=n) (hlen:n≤1000)
   (h:∀(h':Heap) (tk:Nat) (acc:Array Value),(∀b o',s.heap.get? b=some o'→h'.get? b=some o')→ItemsOf (fun i v=>∃t,v = .int (a+i*c) t) acc n→Q (.ref h'.objs.size) { s with heap:=h'.push { cls:=.type "tuple", data:=.seq acc },toks:=tk }) :
   wpAny (model prog w) A (call (.type "tuple") [.ref l]) Q E s:=
 callType_new F.called_tuple (by decide) (F.typeCall_tuple_1 _) (F.newCall_tuple_1 _) (fun obj=>F.args_object_init_2 obj _) F.entry_tuple_new
   (meets_tuple_range l a b c t u v n hsmall hn hlen) ⟨hh,hr,fun h' tk acc hk hacc=>⟨⟨_,yZ _ rfl,rfl⟩,h h' tk acc hk hacc⟩⟩
end
end PySem
namespace L2
open PySem PySem.Spec PyProof.Rows
section
variable {X:Cx}
def tTupRng (te:TA):TE:=fun σ H Q=>te σ H fun vs H1=>∃n:Nat,vs=[.int n]∧n≤1000∧∀p,H1 p=none→Q (.ref p) (upd H1 p (.tup ((List.range n).map fun i:Nat=>V.int i)))
theorem pe_tupRng {e:Expr}{te:TA}{np rp pos mp:Pos}(he:PA X [e] te) (hh:X.A.handled=none) (hg:Gl X "range") (hm:X.mg "range"=none) (hg2:Gl X "tuple") (hm2:X.mg "tuple"=none)
   (hs:starEach [.Call (.Name "range" np) [e] [] rp] X.env=[(false,eval (.Call (.Name "range" np) [e] [] rp) X.env)]:=by rfl) (he1:starEach [e] X.env=[(false,eval e X.env)]:=by rfl) :
   PE X (.Call (.Name "tuple" mp) [.Call (.Name "range" np) [e] [] rp] [] pos) (tTupRng te):=by
 intro pins s σ H Q I h
 refine wpAny_Call_Name_kw (ld_blt I hg2 hm2 boot_tuple ?_)
 refine xH ?_ hs rfl
 rw[hs]
 show wpAny _ _ (spliced ((false,eval (.Call (.Name "range" np) [e] [] rp) X.env)::backTo pos (starEach [] X.env))) _ _ _
 refine xP ?_
 refine wpAny_Call_Name_kw (ld_blt I hg hm boot_range ?_)
 refine xH (thn (he rp pins s σ H _ I h) fun us s1 ⟨vs,H1,I1,r1,q1⟩=>?_) he1 rfl
 obtain⟨n,rfl,hn,q⟩:=q1
 obtain⟨u,rfl,ru⟩:=vals1 r1
 obtain⟨t,rfl⟩:=ru
 refine call_range_1 ?_
 show wpAny _ _ (spliced []) _ _ _
 refine zY ?_
 refine call_tuple_range (n:=n) hh (IsRange.new ..) (small_one (by omega) (by omega) (by omega) (by omega)) (by rw[rangeSize_one];split <;> omega) hn fun h' tk acc hk hacc=>?_
 have I2:Inv X pins σ H1 { s1 with heap:=h',toks:=tk }:=I1.kept fun b o e=>hk b o (zW _ e)
 have hv:Vals ((List.range n).map fun i:Nat=>V.int i) acc.toList:=by
   have go:∀(vs:List Value) (m k:Nat),vs.length=m→(∀i,i < m→∃t,vs[i]?=some (Value.int ((k+i:Nat):Int) t))→Vals ((List.range m).map fun i:Nat=>V.int ((k+i:Nat):Int)) vs:=by
     intro vs
     induction vs with
     | nil=>intro m k e _;cases e;exact .nil
     | cons x r ih=>
       intro m k e hx
       cases e
       rw[yR,List.range_succ_eq_map,zI,zD]
       refine .cons ?_ ?_
       · obtain⟨t,ht⟩:=hx 0 (by simp)
         have:x=Value.int ((k+0:Nat):Int) t:=by simpa using ht
         rw[this];exact⟨t,rfl⟩
       · have:=ih r.length (k+1) rfl fun i hi=>by
           obtain⟨t,ht⟩:=hx (i+1) (by simpa using hi)
           refine⟨t,?_⟩
           rw[List.getElem?_cons_succ] at ht
           rw[ht];congr 2;omega
         have e2:((fun i:Nat=>V.int ((k+i:Nat):Int))∘Nat.succ)=fun i:Nat=>V.int ((k+1+i:Nat):Int):=by
           funext i;show V.int _=V.int _;congr 1;simp;omega
         rw[e2];exact this
   have h0:=go acc.toList n 0 (by rw[Array.length_toList];exact hacc.1) fun i hi=>by
     have hi2:i < acc.size:=by rw[hacc.1];exact hi
     obtain⟨t,ht⟩:=hacc.2 i acc[i] (Array.getElem?_eq_getElem hi2)
     refine⟨t,?_⟩
     rw[Array.getElem?_toList,Array.getElem?_eq_getElem hi2,ht];simp
   have e3:(fun i:Nat=>V.int ((0+i:Nat):Int))=fun i:Nat=>V.int i:=by funext i;rw[Nat.zero_add]
   rw[e3] at h0;exact h0
 have I3:Inv X pins σ (upd H1 h'.objs.size (.tup ((List.range n).map fun i:Nat=>V.int i))) { s1 with heap:=h'.push { cls:=.type "tuple", data:=.seq acc },toks:=tk }:=
   I2.laid (t':=tk) (fun b o e=>zW _ e) (zR _) (show ObjOk X.prog X.w _ _ _ (.tup _) from ⟨by rw[zX,xZ];exact zN hn (by decide),acc.toList,hv,by rw[Array.toArray_toList];exact IsTup.new _ _⟩)
 exact⟨.ref h'.objs.size,_,I3,rfl,q _ (I2.hok.fresh (zR _))⟩
end
end L2
namespace DL
open PySem PySem.Spec L2 XC
section
variable {K:Frg}{R:Rx}{ρ:List (Option DS)}{M:Own}{DX:DXK}{ta:TE}{tl:TA}{Q:DS→Own→Prop}{QL:List DS→Own→Prop}
theorem de_tupRng {te:TA}(h:DA K te ρ M fun xs M1=>∃n:Nat,xs=[.d (.int n)]∧n≤1000∧Q (.d (.tuple ((List.range n).map fun i:Nat=>PyData.int i))) M1):DE K (tTupRng te) ρ M Q:=fun σ H QQ Rl k=>
 h σ H _ Rl fun vs H1 xs M1 o1 s1 t1 ⟨n,ex,hn,q⟩=>by
   subst ex
   obtain⟨v,r,rfl,sv,rfl⟩:=s1
   unfold SI DV at sv
   subst sv
   refine⟨n,rfl,hn,fun p hp=>?_⟩
   have g:Grow K M1.W M1.W H1 (upd H1 p (.tup ((List.range n).map fun i:Nat=>V.int i))):=grow_new _ hp
   refine k _ _ (.d (.tuple ((List.range n).map fun i:Nat=>PyData.int i))) M1 (o1.new hp) ?_ (t1.trans ⟨g⟩) q
   unfold SI DV
   refine⟨p,_,rfl,.inl ⟨fun w=>w (o1.none hp),.inl upd_same⟩,?_⟩
   have e1:((List.range n).map fun i:Nat=>PyData.int i)=((List.range n).map fun i:Nat=>(i:Int)).map PyData.int:=by rw[zD];rfl
   have e2:((List.range n).map fun i:Nat=>V.int i)=((List.range n).map fun i:Nat=>(i:Int)).map V.int:=by rw[zD];rfl
   rw[e1,e2]
   exact dvs_of_ints
theorem dex_cb {r:List V→Hp→VK→Prop}(h:DAx K R tl ρ M (fun xs M1=>DR K r xs M1 Q) DX):DEx K R (tCB r tl) ρ M Q DX:=fun σ H QQ Rl k k5=>
 h σ H _ Rl (fun vs H1 xs M1 o1 s1 t1 h1=>h1 H1 vs QQ o1 s1 fun v H' x M' a b c q=>k v H' x M' a b (t1.trans c) q) k5
end
end DL
namespace DL
open PySem PySem.Spec L2 XC
theorem lines_inj:∀{ls ls':List (Str×Deed)},ls.map lineD=ls'.map lineD→ls=ls'
 | [],[],_=>rfl
 | [],_::_,h=>by simp at h
 | _::_,[],h=>by simp at h
 | a::r,b::s,h=>by
   simp only[zI,List.cons.injEq] at h
   obtain⟨h1,h2⟩:=h
   have h1:PyData.tuple [.str a.1,a.2.d] = .tuple [.str b.1,b.2.d]:=h1
   simp only[PyData.tuple.injEq,List.cons.injEq,PyData.str.injEq,and_true] at h1
   rw[lines_inj h2]
   exact congrArg (·::s) (Prod.ext h1.1 (deed_inj h1.2))
theorem bookD_inj {w w':List Th}{ls ls':List (Str×Deed)}(h:bookD w ls=bookD w' ls'):ls=ls':=by
 unfold bookD at h
 simp only[PyData.tuple.injEq,List.cons.injEq,and_true] at h
 exact lines_inj h.2
abbrev dsL (ls:List (Str×Deed)):List Deed:=ls.map (·.2)
abbrev linesD (ls:List (Str×Deed)):PyData:=.tuple (ls.map lineD)
structure goodB (w:List Th) (ls:List (Str×Deed)):Prop where
 fresh:FreshD (dsL ls)
 real:∀l∈ls,l.2.real
 few:ls.length≤50
 hands:∀l∈ls,nameZ l.1
abbrev numsD (ns:List Nat):List PyData:=(intL ns).map .int
def numB (n:Nat) (d:PyData):Bool:=withinD d 0 ((n:Int) - 1)
theorem num_nat {n:Nat}{d:PyData}(h:numB n d=true):∃m:Nat,d = .int m∧m < n:=by
 cases d <;> first | (exfalso;exact nft h) | skip
 rename_i i
 have h:(decide (0≤i)&&decide (i≤(n:Int) - 1))=true:=h
 simp only[Bool.and_eq_true,decide_eq_true_eq] at h
 exact⟨i.toNat,by congr 1;omega,by omega⟩
theorem num_of {n m:Nat}(h:m < n):numB n (.int (m:Int))=true:=by
 show(decide ((0:Int)≤(m:Int))&&decide ((m:Int)≤(n:Int) - 1))=true
 simp only[Bool.and_eq_true,decide_eq_true_eq];omega
theorem all_num {n:Nat}:∀{ds:List PyData},(∀d∈ds,numB n d=true)→∃ns,ds=numsD ns∧∀m∈ns,m < n
 | [],_=>⟨[],rfl,by simp⟩
 | d::r,h=>by
   obtain⟨m,rfl,hm⟩:=num_nat (h d (by simp))
   obtain⟨ns,rfl,hn⟩:=all_num (ds:=r) fun x hx=>h x (yV _ hx)
   exact⟨m::ns,rfl,fun x hx=>by rcases yX.mp hx with rfl | q;exact hm;exact hn x q⟩
theorem nums_len (ns:List Nat):(numsD ns).length=ns.length:=by simp[intL]
theorem nums_inj {a b:List Nat}(h:numsD a=numsD b):a=b:=by
 induction a generalizing b with
 | nil=>cases b with
   | nil=>rfl
   | cons y s=>have:=congrArg List.length h;rw[nums_len,nums_len] at this;cases this
 | cons x r ih=>cases b with
   | nil=>have:=congrArg List.length h;rw[nums_len,nums_len] at this;cases this
   | cons y s=>
     have h:PyData.int (x:Int)::numsD r = .int (y:Int)::numsD s:=h
     simp only[List.cons.injEq,PyData.int.injEq] at h
     rw[ih h.2,show x=y by omega]
theorem nums_num {n:Nat}{ns:List Nat}(h:∀m∈ns,m < n):∀d∈numsD ns,numB n d=true:=fun d hd=>by
 obtain⟨i,hi,rfl⟩:=zL.mp hd
 obtain⟨m,hm,rfl⟩:=mem_intL.mp hi
 exact num_of (h m hm)
def findNo (n:Nat) (ds:List PyData):Option PyData:=ds.find? fun d=>!numB n d
theorem findNo_nums {n:Nat}{ns:List Nat}(h:∀m∈ns,m < n):findNo n (numsD ns)=none:=List.find?_eq_none.mpr fun d hd=>by rw[nums_num h d hd];simp
section
variable {M:Own}{Q:DS→Own→Prop}{w:List Th}{ls:List (Str×Deed)}
def S_deeds_of:FSp:=⟨fun xs M=>∃(w:List Th) (ls:List (Str×Deed)),xs=[.d (bookD w ls)]∧goodB w ls,fun xs M y M'=>∀(w:List Th) (ls:List (Str×Deed)),xs=[.d (bookD w ls)]→y = .d (.tuple ((dsL ls).map Deed.d))∧M'=M⟩
theorem deeds_call (hg:goodB w ls) (q:Q (.d (.tuple ((dsL ls).map Deed.d))) M):[DS.d (bookD w ls)].length=1∧S_deeds_of.pre [.d (bookD w ls)] M∧∀x M',S_deeds_of.post [.d (bookD w ls)] M x M'→Q x M':=
 ⟨rfl,⟨w,ls,rfl,hg⟩,fun x M' h=>by obtain⟨rfl,rfl⟩:=h w ls rfl;exact q⟩
def S_makers:FSp:=⟨fun xs M=>∃(w:List Th) (ls:List (Str×Deed)),xs=[.d (bookD w ls)]∧goodB w ls,fun xs M y M'=>∀(w:List Th) (ls:List (Str×Deed)),xs=[.d (bookD w ls)]→∃p,M p=none∧y = .loc p∧M'=M.put p (.d (tdict (mkL (dsL ls) 0)))⟩
theorem makers_call (hg:goodB w ls) (q:∀p,M p=none→Q (.loc p) (M.put p (.d (tdict (mkL (dsL ls) 0))))):[DS.d (bookD w ls)].length=1∧S_makers.pre [.d (bookD w ls)] M∧∀x M',S_makers.post [.d (bookD w ls)] M x M'→Q x M':=
 ⟨rfl,⟨w,ls,rfl,hg⟩,fun x M' h=>by obtain⟨p,hp,rfl,rfl⟩:=h w ls rfl;exact q p hp⟩
def S_is_number:FSp:=⟨fun xs M=>∃(w:List Th) (ls:List (Str×Deed)) (d:PyData),xs=[.d (bookD w ls),.d d],fun xs M y M'=>∀(w:List Th) (ls:List (Str×Deed)) (d:PyData),xs=[.d (bookD w ls),.d d]→y = .d (.bool (numB ls.length d))∧M'=M⟩
theorem num32_call {d:PyData}(q:Q (.d (.bool (numB ls.length d))) M):[DS.d (bookD w ls),.d d].length=2∧S_is_number.pre [.d (bookD w ls),.d d] M∧∀x M',S_is_number.post [.d (bookD w ls),.d d] M x M'→Q x M':=
 ⟨rfl,⟨w,ls,d,rfl⟩,fun x M' h=>by obtain⟨rfl,rfl⟩:=h w ls d rfl;exact q⟩
def S_needs:FSp:=⟨fun xs M=>∃(w:List Th) (ls:List (Str×Deed)) (k:Nat),xs=[.d (bookD w ls),.d (.int k)]∧goodB w ls∧k < ls.length,fun xs M y M'=>∀(w:List Th) (ls:List (Str×Deed)) (k:Nat),xs=[.d (bookD w ls),.d (.int k)]→y = .d (chD (needN (dsL ls) k))∧M'=M⟩
theorem needs_call {k:Nat}(hg:goodB w ls) (hk:k < ls.length) (q:Q (.d (chD (needN (dsL ls) k))) M):[DS.d (bookD w ls),.d (.int k)].length=2∧S_needs.pre [.d (bookD w ls),.d (.int k)] M∧∀x M',S_needs.post [.d (bookD w ls),.d (.int k)] M x M'→Q x M':=
 ⟨rfl,⟨w,ls,k,rfl,hg,hk⟩,fun x M' h=>by obtain⟨rfl,rfl⟩:=h w ls k rfl;exact q⟩
abbrev bsX (w:List Th) (ls:List (Str×Deed)) (ds:List PyData):List DS:=[.d (bookD w ls),.d (.tuple ds)]
def preB (xs:List DS) (M:Own):Prop:=∃(w:List Th) (ls:List (Str×Deed)) (ds:List PyData),xs=bsX w ls ds∧goodB w ls∧ds.length≤60
def xpB (cN:Addr) (xs:List DS) (M:Own) (cls:Value) (fs:List (Str×PyData)) (M':Own):Prop:=∀(w:List Th) (ls:List (Str×Deed)) (ds:List PyData),xs=bsX w ls ds→∃d,findNo ls.length ds=some d∧cls = .ref cN∧fs=[(Str.ofString "line", d)]∧M'=M
def endB (ls:List (Str×Deed)) (ns:List Nat):EL:=endE (dsL ls) ns (dsL ls).length
def foundB (ls:List (Str×Deed)) (ns:List Nat):List Nat:=foundN (dsL ls) ns (dsL ls).length
def chainsB (ls:List (Str×Deed)) (ns:List Nat):List (List Nat):=((foundB ls ns).filter fun m=>!decide (m∈ns)).map fun m=>(lookE (endB ls ns) m).getD []
def postB (f:List (Str×Deed)→List Nat→DS→Own→Own→Prop) (xs:List DS) (M:Own) (y:DS) (M':Own):Prop:=∀(w:List Th) (ls:List (Str×Deed)) (ds:List PyData),xs=bsX w ls ds→∃ns,ds=numsD ns∧(∀m∈ns,m < ls.length)∧f ls ns y M M'
def GB (cN:Addr) (f:List (Str×Deed)→List Nat→DS→Own→Own→Prop):FSpX:=⟨preB,postB f,xpB cN⟩
theorem GB_call {cN:Addr}{f:List (Str×Deed)→List Nat→DS→Own→Own→Prop}{ds:List PyData}{DX:Value→List (Str×PyData)→Own→Prop}(hg:goodB w ls) (hl:ds.length≤60) (q:∀ns y M',ds=numsD ns→(∀m∈ns,m < ls.length)→f ls ns y M M'→Q y M') (q2:∀d,findNo ls.length ds=some d→DX (.ref cN) [(Str.ofString "line", d)] M) :
   (bsX w ls ds).length=2∧(GB cN f).pre (bsX w ls ds) M∧(∀x M',(GB cN f).post (bsX w ls ds) M x M'→Q x M')∧∀cls fs M',(GB cN f).xpost (bsX w ls ds) M cls fs M'→DX cls fs M':=
 ⟨rfl,⟨w,ls,ds,rfl,hg,hl⟩,fun x M' h=>(by obtain⟨ns,a,b,c⟩:=h w ls ds rfl;exact q ns x M' a b c),fun cls fs M' h=>by obtain⟨d,a,rfl,rfl,rfl⟩:=h w ls ds rfl;exact q2 d a⟩
theorem bs_inj {w w':List Th}{ls ls':List (Str×Deed)}{ds ds':List PyData}(e:bsX w ls ds=bsX w' ls' ds'):ls=ls'∧ds=ds':=by
 simp only[List.cons.injEq,DS.d.injEq,PyData.tuple.injEq,and_true] at e
 exact⟨bookD_inj e.1,e.2⟩
def SB (f:List (Str×Deed)→List Nat→DS→Own→Own→Prop):FSp:=⟨fun xs M=>∃(w:List Th) (ls:List (Str×Deed)) (ns:List Nat),xs=bsX w ls (numsD ns)∧goodB w ls∧ns.length≤60∧∀m∈ns,m < ls.length,fun xs M y M'=>∀(w:List Th) (ls:List (Str×Deed)) (ns:List Nat),xs=bsX w ls (numsD ns)→f ls ns y M M'⟩
theorem calm_B {P:Program}{w0:World}{K:Frg}{mg:Str→Option Value}{base:Heap}{x:Str}{k:Nat}{ps:List Str}{cN:Addr}{f:List (Str×Deed)→List Nat→DS→Own→Own→Prop}(h:HasX P w0 K mg base x k ps (GB cN f)):Has P w0 K mg base x k ps (SB f):=
 h.calm fun xs M hp=>by
   obtain⟨w,ls,ns,rfl,hg,hl,hn⟩:=hp
   refine⟨⟨w,ls,numsD ns,rfl,hg,by rw[nums_len];exact hl⟩,fun y M' hq w' ls' ns' e=>?_,fun cls fs M' hx=>?_⟩
   · obtain⟨e1,e2⟩:=bs_inj e
     obtain⟨ns2,a,b,c⟩:=hq w' ls' (numsD ns') e
     rw[nums_inj a];exact c
   · obtain⟨d,a,_⟩:=hx w ls (numsD ns) rfl
     rw[findNo_nums hn] at a;cases a
def fEnds (ls:List (Str×Deed)) (ns:List Nat) (y:DS) (M M':Own):Prop:=∃p,M p=none∧y = .loc p∧M'=M.put p (.d (idict (cvE (endB ls ns))))
def fGoes (ls:List (Str×Deed)) (ns:List Nat) (y:DS) (M M':Own):Prop:=y = .d (chD (foundB ls ns))∧M'=M
def fChains (ls:List (Str×Deed)) (ns:List Nat) (y:DS) (M M':Own):Prop:=y = .d (.tuple ((chainsB ls ns).map chD))∧M'=M
theorem SB_call {f:List (Str×Deed)→List Nat→DS→Own→Own→Prop}{ns:List Nat}(hg:goodB w ls) (hl:ns.length≤60) (hn:∀m∈ns,m < ls.length) (q:∀y M',f ls ns y M M'→Q y M'):(bsX w ls (numsD ns)).length=2∧(SB f).pre (bsX w ls (numsD ns)) M∧∀x M',(SB f).post (bsX w ls (numsD ns)) M x M'→Q x M':=
 ⟨rfl,⟨w,ls,ns,rfl,hg,hl,hn⟩,fun x M' h=>q x M' (h w ls ns rfl)⟩
def GL (cN:Addr):FSpX:=⟨fun xs M=>∃(w:List Th) (ls:List (Str×Deed)) (ds:List PyData) (d:PyData),xs=bsX w ls ds∧goodB w ls∧ds.length≤60∧findNo ls.length ds=some d,fun _ _ _ _=>False,xpB cN⟩
theorem GL_call {cN:Addr}{ds:List PyData}{d:PyData}{DX:Value→List (Str×PyData)→Own→Prop}(hg:goodB w ls) (hl:ds.length≤60) (hd:findNo ls.length ds=some d) (q2:DX (.ref cN) [(Str.ofString "line", d)] M) :
   (bsX w ls ds).length=2∧(GL cN).pre (bsX w ls ds) M∧(∀x M',(GL cN).post (bsX w ls ds) M x M'→Q x M')∧∀cls fs M',(GL cN).xpost (bsX w ls ds) M cls fs M'→DX cls fs M':=
 ⟨rfl,⟨w,ls,ds,d,rfl,hg,hl,hd⟩,fun x M' h=>h.elim,fun cls fs M' h=>by obtain⟨d',a,rfl,rfl,rfl⟩:=h w ls ds rfl;rw[hd] at a;cases a;exact q2⟩
def madeN (D:Deed):Str:=D.made.getD (Str.ofString "")
def S__law_made:FSp:=⟨fun xs M=>∃D:Deed,xs=[.d D.d]∧D.real,fun xs M y M'=>∀D:Deed,xs=[.d D.d]→y = .d (.str (madeN D))∧M'=M⟩
theorem made_call {D:Deed}(hr:D.real) (q:Q (.d (.str (madeN D))) M):[DS.d D.d].length=1∧S__law_made.pre [.d D.d] M∧∀x M',S__law_made.post [.d D.d] M x M'→Q x M':=
 ⟨rfl,⟨D,rfl,hr⟩,fun x M' h=>by obtain⟨rfl,rfl⟩:=h D rfl;exact q⟩
def S__law_must:FSp:=⟨fun xs M=>∃D:Deed,xs=[.d D.d]∧D.real,fun xs M y M'=>∀D:Deed,xs=[.d D.d]→y = .d (strL D.must)∧M'=M⟩
theorem must_call {D:Deed}(hr:D.real) (q:Q (.d (strL D.must)) M):[DS.d D.d].length=1∧S__law_must.pre [.d D.d] M∧∀x M',S__law_must.post [.d D.d] M x M'→Q x M':=
 ⟨rfl,⟨D,rfl,hr⟩,fun x M' h=>by obtain⟨rfl,rfl⟩:=h D rfl;exact q⟩
def S__law_needed:FSp:=⟨fun xs M=>∃(ls:List (Str×Deed)) (k:Nat),xs=[.d (linesD ls),.d (.int k)]∧goodB [] ls∧k < ls.length,fun xs M y M'=>∀(ls:List (Str×Deed)) (k:Nat),xs=[.d (linesD ls),.d (.int k)]→y = .d (.list (numsD (needN (dsL ls) k)))∧M'=M⟩
theorem needed_call {k:Nat}(hg:goodB [] ls) (hk:k < ls.length) (q:Q (.d (.list (numsD (needN (dsL ls) k)))) M):[DS.d (linesD ls),.d (.int k)].length=2∧S__law_needed.pre [.d (linesD ls),.d (.int k)] M∧∀x M',S__law_needed.post [.d (linesD ls),.d (.int k)] M x M'→Q x M':=
 ⟨rfl,⟨ls,k,rfl,hg,hk⟩,fun x M' h=>by obtain⟨rfl,rfl⟩:=h ls k rfl;exact q⟩
def S32_goes:FSp:=⟨fun xs M=>∃(ls:List (Str×Deed)) (ns:List Nat),xs=[.d (linesD ls),.d (.tuple (numsD ns))]∧goodB [] ls∧ns.length≤60,fun xs M y M'=>∀(ls:List (Str×Deed)) (ns:List Nat),xs=[.d (linesD ls),.d (.tuple (numsD ns))]→y = .d (.list (numsD (foundB ls ns)))∧M'=M⟩
theorem goes32_call {ns:List Nat}(hg:goodB [] ls) (hn:ns.length≤60) (q:Q (.d (.list (numsD (foundB ls ns)))) M):[DS.d (linesD ls),.d (.tuple (numsD ns))].length=2∧S32_goes.pre [.d (linesD ls),.d (.tuple (numsD ns))] M∧∀x M',S32_goes.post [.d (linesD ls),.d (.tuple (numsD ns))] M x M'→Q x M':=
 ⟨rfl,⟨ls,ns,rfl,hg,hn⟩,fun x M' h=>by obtain⟨rfl,rfl⟩:=h ls ns rfl;exact q⟩
theorem lnum_inj {ls ls':List (Str×Deed)}{ns ns':List Nat}(e:[DS.d (linesD ls),.d (.tuple (numsD ns))]=[.d (linesD ls'),.d (.tuple (numsD ns'))]):ls=ls'∧ns=ns':=by
 simp only[List.cons.injEq,DS.d.injEq,PyData.tuple.injEq,and_true] at e
 exact⟨lines_inj e.1,nums_inj e.2⟩
def S32_struck:FSp:=⟨fun xs M=>∃(p:Addr) (o:MO) (ls:List (Str×Deed)),xs=[.loc p,.d (linesD ls)]∧M p=some o∧pack1 o∧goodB [] ls,fun xs M y M'=>∀(p:Addr) (ls:List (Str×Deed)),xs=[.loc p,.d (linesD ls)]→∃(ns:List Nat) (o:MO),y = .d (.tuple (numsD ns))∧ns.length≤3∧(∀m∈ns,m < ls.length)∧pack1 o∧M'=M.put p o⟩
theorem struck_call {p:Addr}{o:MO}(m:M p=some o) (ho:pack1 o) (hg:goodB [] ls) (q:∀(ns:List Nat) (o':MO),ns.length≤3→(∀m∈ns,m < ls.length)→pack1 o'→Q (.d (.tuple (numsD ns))) (M.put p o')):[DS.loc p,.d (linesD ls)].length=2∧S32_struck.pre [.loc p,.d (linesD ls)] M∧∀x M',S32_struck.post [.loc p,.d (linesD ls)] M x M'→Q x M':=
 ⟨rfl,⟨p,o,ls,rfl,m,ho,hg⟩,fun x M' h=>by obtain⟨ns,o',rfl,a,b,c,rfl⟩:=h p ls rfl;exact q ns o' a b c⟩
def S32_chained:FSp:=⟨fun xs M=>∃(ls:List (Str×Deed)) (ns c:List Nat),xs=[.d (linesD ls),.d (.tuple (numsD ns)),.d (chD c)]∧goodB [] ls∧ns.length≤60∧c.length≤60∧2≤c.length∧(∃h,c.head?=some h∧h∈ns)∧(∀i a b,c[i]?=some a→c[i+1]?=some b→a∈needN (dsL ls) b)∧∀x∈c,x < ls.length,fun xs M y M'=>y = .d (.bool true)∧M'=M⟩
def S32_right:FSp:=⟨fun xs M=>∃(w:List Th) (ls:List (Str×Deed)) (ns:List Nat),xs=bsX w ls (numsD ns)∧goodB w ls∧ns.length≤60∧∀m∈ns,m < ls.length,fun xs M y M'=>y = .d (.bool true)∧M'=M⟩
theorem right_call {ns:List Nat}(hg:goodB w ls) (hl:ns.length≤60) (hn:∀m∈ns,m < ls.length) (q:Q (.d (.bool true)) M):(bsX w ls (numsD ns)).length=2∧S32_right.pre (bsX w ls (numsD ns)) M∧∀x M',S32_right.post (bsX w ls (numsD ns)) M x M'→Q x M':=
 ⟨rfl,⟨w,ls,ns,rfl,hg,hl,hn⟩,fun x M' h=>by obtain⟨rfl,rfl⟩:=h;exact q⟩
def S32_refused:FSp:=⟨fun xs M=>∃(k:Int) (w:List Th) (ls:List (Str×Deed)) (ds:List PyData) (d:PyData),xs = .d (.int k)::bsX w ls ds∧goodB w ls∧ds.length≤60∧findNo ls.length ds=some d,fun xs M y M'=>∀(k:Int) (w:List Th) (ls:List (Str×Deed)) (ds:List PyData),xs = .d (.int k)::bsX w ls ds→∃d,findNo ls.length ds=some d∧y = .d (.list [.bool true,d])∧M'=M⟩
theorem refused_call {k:Int}{ds:List PyData}{d:PyData}(hg:goodB w ls) (hl:ds.length≤60) (hd:findNo ls.length ds=some d) (q:Q (.d (.list [.bool true,d])) M):(DS.d (.int k)::bsX w ls ds).length=3∧S32_refused.pre (.d (.int k)::bsX w ls ds) M∧∀x M',S32_refused.post (.d (.int k)::bsX w ls ds) M x M'→Q x M':=
 ⟨rfl,⟨k,w,ls,ds,d,rfl,hg,hl,hd⟩,fun x M' h=>by obtain⟨d',a,rfl,rfl⟩:=h k w ls ds rfl;rw[hd] at a;cases a;exact q⟩
theorem goodB.any {w w':List Th}{ls:List (Str×Deed)}(h:goodB w ls):goodB w' ls:=⟨h.fresh,h.real,h.few,h.hands⟩
def S32_book:FSp:=⟨fun xs M=>∃(h:Int) (cs:List Int),xs=[.d (.int h),.d (.list (cs.map .int))]∧xJ h≤2 ^ 21∧(∀c∈cs,xJ c≤2 ^ 21)∧cs.length≤50,fun xs M y M'=>M'=M∧∃(w:List Th) (ls:List (Str×Deed)),y = .d (bookD w ls)∧goodB w ls⟩
theorem book32_call {h:Int}{cs:List Int}(h1:xJ h≤2 ^ 21) (h2:∀c∈cs,xJ c≤2 ^ 21) (h3:cs.length≤50) (q:∀(w:List Th) (ls:List (Str×Deed)),goodB w ls→Q (.d (bookD w ls)) M) :
   [DS.d (.int h),.d (.list (cs.map .int))].length=2∧S32_book.pre [.d (.int h),.d (.list (cs.map .int))] M∧∀x M',S32_book.post [.d (.int h),.d (.list (cs.map .int))] M x M'→Q x M':=
 ⟨rfl,⟨h,cs,rfl,h1,h2,h3⟩,fun x M' hh=>by obtain⟨rfl,w,ls,rfl,h4⟩:=hh;exact q w ls h4⟩
end
def fEn:PyData→Str | .tuple [_,.str x]=>x | _=>Str.ofString ""
def wEn:PyData→PyData | .tuple [i,_]=>i | _=>.none
def cEn:PyData→Bool | .tuple [_,.none]=>false | _=>true
theorem enum_mk:∀(Ds:List Deed) (o:Nat),((((Ds.map fun D=>madeP D.d).zipIdx o).map fun p=>PyData.tuple [.int (p.2:Nat),p.1]).filter cEn).map (fun d=>(fEn d,wEn d))=mkL Ds o
 | [],o=>rfl
 | D::r,o=>by
   have ih:=enum_mk r (o+1)
   rw[zI,List.zipIdx_cons,zI,List.filter_cons]
   rw[madeP_d]
   cases h:D.made with
   | none=>
     rw[mkL,h]
     show(if cEn (.tuple [.int (o:Nat),.none])=true then _ else _:List PyData).map _=_
     rw[show cEn (.tuple [.int (o:Nat),.none])=false from rfl,if_neg nft]
     exact ih
   | some x=>
     rw[mkL,h]
     show(if cEn (.tuple [.int (o:Nat),.str x])=true then _ else _:List PyData).map _=_
     rw[show cEn (.tuple [.int (o:Nat),.str x])=true from rfl,if_pos rfl,zI,ih]
     rfl
theorem must_nodup {D:Deed}(h:D.real):D.must.Nodup:=by
 unfold Deed.must
 refine List.Nodup.sublist List.filter_sublist ?_
 have ha:=h.2.1
 cases D <;> first | (simp[Deed.names];done) | (simp only[Deed.names,xV,List.mem_singleton,xX,not_false_eq_true,List.nodup_nil,and_true];exact ha)
end DL
namespace DL
open PySem PySem.Spec L2 XC
theorem d2_inDT {K:Frg}{M:Own}{Q:DS→Own→Prop}{neg:Bool}{d:PyData}{ds:List PyData}(s1:zH d=true) (s2:zH (.tuple ds)=true) (q:Q (.d (.bool (if neg then !(ds.any fun e=>PyData.eqv e d) else ds.any fun e=>PyData.eqv e d))) M):D2 K (rInD K neg) (.d d) (.d (.tuple ds)) M Q:=fun H v u QQ oa h1 h2 k=>
 ⟨M.W,d,ds,h1,s1,.inr ⟨h2,s2⟩,k _ H _ M oa si_of_bl Step.refl q⟩
theorem shaped_nums (ns:List Nat):zH (.list (numsD ns))=true:=by
 refine shaped_of (canAll fun d hd=>?_) ?_
 · obtain⟨y,h1,rfl⟩:=zL.mp hd
   rfl
 · have:PyData.depthAll (numsD ns)≤0:=depAll fun d hd=>by
     obtain⟨y,h1,rfl⟩:=zL.mp hd
     simp[PyData.depth]
   simp only[PyData.depth];omega
theorem shaped_numsT (ns:List Nat):zH (.tuple (numsD ns))=true:=by
 refine shaped_of (canAll fun d hd=>?_) ?_
 · obtain⟨y,h1,rfl⟩:=zL.mp hd
   rfl
 · have:PyData.depthAll (numsD ns)≤0:=depAll fun d hd=>by
     obtain⟨y,h1,rfl⟩:=zL.mp hd
     simp[PyData.depth]
   simp only[PyData.depth];omega
theorem eqv_int (a b:Int):PyData.eqv (.int a) (.int b)=decide (a=b):=by
 have:PyData.eqv (.int a) (.int b)=(a==b):=by simp[PyData.eqv]
 rw[this];rfl
theorem any_nums (ns:List Nat) (m:Nat):((numsD ns).any fun e=>PyData.eqv e (.int (m:Int)))=decide (m∈ns):=by
 rw[Bool.eq_iff_iff,List.any_eq_true,decide_eq_true_iff]
 constructor
 · rintro⟨d,hd,he⟩
   obtain⟨i,hi,rfl⟩:=zL.mp hd
   obtain⟨j,hj,rfl⟩:=mem_intL.mp hi
   rw[eqv_int] at he
   have:(j:Int)=(m:Int):=of_decide_eq_true he
   rw[show m=j by omega];exact hj
 · intro h
   exact⟨.int (m:Int),zL.mpr ⟨_,mem_intL.mpr ⟨m,h,rfl⟩,rfl⟩,by rw[eqv_int];simp⟩
def fInt:PyData→Int | .int i=>i | _=>0
theorem fold_cv:∀(ns:List Nat) (E:EL),(numsD ns).foldl (fun ts d=>putI ts (fInt d) (.tuple [d])) (cvE E)=cvE (ns.foldl (fun E m=>putE E m [m]) E)
 | [],E=>rfl
 | m::r,E=>by
   show(numsD r).foldl (fun ts d=>putI ts (fInt d) (.tuple [d])) (putI (cvE E) (m:Int) (chD [m]))=_
   rw[cv_put]
   exact fold_cv r (putE E m [m])
def cGo (E:EL):PyData→Bool | .int i=>(lookI (cvE E) i).isSome | _=>false
theorem going_eq (Ds:List Deed) (E:EL) (k:Nat):((numsD (needN Ds k)).filter (cGo E)).map id=numsD (goingE Ds E k):=by
 rw[List.map_id]
 unfold goingE numsD intL
 rw[zD,xU,zD]
 congr 1
 apply List.filter_congr
 intro j _
 show(lookI (cvE E) (j:Int)).isSome=_
 rw[cv_look]
 cases lookE E j <;> rfl
theorem found_len (Ds:List Deed) (ns:List Nat):∀k,(foundN Ds ns k).length≤k
 | 0=>by simp[foundN]
 | k+1=>by
   unfold foundN
   have:=found_len Ds ns k
   split
   · rw[yY];simp;exact this
   · omega
theorem end_keys {Ds:List Deed}{ns:List Nat}(hn:∀m∈ns,m < Ds.length) (k:Nat) (hk:k≤Ds.length):(endE Ds ns k).length≤Ds.length:=by
 obtain⟨g1,g2⟩:=end_good hn k hk
 have hs:∀x∈(endE Ds ns k).map (·.1),x∈List.range Ds.length:=fun x hx=>by
   rw[List.mem_range]
   rcases (g2 x).mp hx with q | q
   · exact hn x q
   · exact zP (found_lt Ds ns k x q) hk
 have hp:((endE Ds ns k).map (·.1)).Perm ((List.range Ds.length).filter fun x=>decide (x∈(endE Ds ns k).map (·.1))):=
   (List.perm_ext_iff_of_nodup g1.nd (List.nodup_range.sublist List.filter_sublist)).mpr fun x=>by
     rw[yL,decide_eq_true_iff]
     exact⟨fun q=>⟨hs x q,q⟩,fun q=>q.2⟩
 have e1:=hp.length_eq
 rw[zX] at e1
 have e2:=yJ (fun x=>decide (x∈(endE Ds ns k).map (·.1))) (List.range Ds.length)
 rw[xZ] at e2
 omega
theorem end_look {Ds:List Deed}{ns:List Nat}(hn:∀m∈ns,m < Ds.length) {m:Nat}(h:m∈foundN Ds ns Ds.length):∃c,lookE (endE Ds ns Ds.length) m=some c∧ChainN Ds ns c m:=by
 obtain⟨g1,g2⟩:=end_good hn Ds.length (zR _)
 have:=look_some.mpr ((g2 m).mpr (.inr h))
 obtain⟨c,hc⟩:=xY.mp this
 exact⟨c,hc,g1.ch _ (look_mem hc)⟩
theorem chain_inc {Ds:List Deed}{ns c:List Nat}{m:Nat}(h:ChainN Ds ns c m):c.Pairwise (· < ·):=by
 rw[List.pairwise_iff_getElem]
 have key:∀d i (hi:i+d+1 < c.length),c[i]'(by omega) < c[i+d+1]:=by
   intro d
   induction d with
   | zero=>intro i hi;exact need_lt (h.step i _ _ (zV (by omega)) (zV hi))
   | succ d ih=>
     intro i hi
     have a:=ih i (by omega)
     have b:=need_lt (h.step (i+d+1) _ _ (zV (by omega)) (zV (show i+d+1+1 < c.length by omega)))
     exact Nat.lt_trans a b
 intro i j hi hj hij
 have:=key (j - i - 1) i (by omega)
 have e:i+(j - i - 1)+1=j:=by omega
 simp only[e] at this
 exact this
theorem chain_len {Ds:List Deed}{ns c:List Nat}{m:Nat}(h:ChainN Ds ns c m):c.length≤Ds.length:=by
 have hp:c.Perm ((List.range Ds.length).filter fun x=>decide (x∈c)):=
   (List.perm_ext_iff_of_nodup ((chain_inc h).imp fun {a b} q=>zC q) (List.nodup_range.sublist List.filter_sublist)).mpr fun x=>by
     rw[yL,decide_eq_true_iff,List.mem_range]
     exact⟨fun q=>⟨h.lt x q,q⟩,fun q=>q.2⟩
 have e1:=hp.length_eq
 have e2:=yJ (fun x=>decide (x∈c)) (List.range Ds.length)
 rw[xZ] at e2
 omega
theorem fresh_real:∀{Ds:List Deed}{so sp:List Str},freshP so sp Ds→∀D∈Ds,D.real
 | D::r,so,sp,h,E,hE=>by
   rcases yX.mp hE with rfl | q
   · exact h.2.2.1
   · exact fresh_real h.2.2.2 E q
def cCh (ns:List Nat) (d:PyData):Bool:=!((numsD ns).any fun e=>PyData.eqv e d)
def fCh (E:EL):PyData→PyData | .int i=>(lookI (cvE E) i).getD .none | _=>.none
theorem chains_eq {ls:List (Str×Deed)}{ns:List Nat}(hn:∀m∈ns,m < (dsL ls).length):((numsD (foundB ls ns)).filter (cCh ns)).map (fCh (endB ls ns))=(chainsB ls ns).map chD:=by
 unfold chainsB numsD intL
 rw[zD,xU,zD,zD]
 have e:(foundB ls ns).filter (cCh ns∘(PyData.int∘fun j:Nat=>(j:Int)))=(foundB ls ns).filter fun m=>!decide (m∈ns):=by
   apply List.filter_congr
   intro j _
   show(!((numsD ns).any fun e=>PyData.eqv e (.int (j:Int))))=_
   rw[any_nums]
 rw[e]
 apply yM
 intro m hm
 obtain⟨c,hc,_⟩:=end_look hn (yL.mp hm).1
 show(lookI (cvE (endB ls ns)) (m:Int)).getD .none=chD ((lookE (endB ls ns) m).getD [])
 rw[cv_look,show lookE (endB ls ns) m=some c from hc];rfl
def cMk (Ds:List Deed):PyData→Bool | .str n=>(lookS (mkL Ds 0) n).isSome | _=>false
def fMk (Ds:List Deed):PyData→PyData | .str n=>(lookS (mkL Ds 0) n).getD .none | _=>.none
def valI (Ds:List Deed) (n:Str):Int:=match lookS (mkL Ds 0) n with | some (.int i)=>i | _=>0
theorem need_list {Ds:List Deed}(hf:FreshD Ds) (ms:List Str):((ms.map PyData.str).filter (cMk Ds)).map (fMk Ds)=((ms.filter fun n=>(lookS (mkL Ds 0) n).isSome).map (valI Ds)).map .int:=by
 rw[xU,zD,zD]
 apply yM
 intro n hn
 have h2:(lookS (mkL Ds 0) n).isSome=true:=(yL.mp hn).2
 show(lookS (mkL Ds 0) n).getD .none = .int (valI Ds n)
 unfold valI
 rcases look_mk Ds 0 hf.one n with ⟨a,_⟩ | ⟨j,_,b⟩
 · rw[a] at h2;cases h2
 · rw[b];rfl
theorem at_line {ls:List (Str×Deed)}{k:Nat}(hk:k < ls.length):∃l,ls[k]?=some l∧l∈ls∧(ls.map lineD)[k]?=some (.tuple [.str l.1,l.2.d])∧(dsL ls)[k]?=some l.2:=
 ⟨ls[k],zV hk,List.getElem_mem hk,by rw[zF,zV hk];rfl,by rw[zF,zV hk];rfl⟩
end DL
namespace DL
open PySem PySem.Spec L2
theorem shaped_dy {D:Deed}(h:D.ok):zH D.d=true:=by
 have wk:PyData.canLay0 (.str D.word)=true:=zG D.word_ok
 have nk:∀x∈D.names,PyData.canLay0 (.str x)=true:=fun x hx=>strOk_name (h x hx)
 refine shaped_of ?_ (by cases D <;> simp[Deed.d,PyData.depth,PyData.depthAll])
 cases D <;> (refine canAll ?_;simp only[List.forall_mem_cons])
 · exact⟨wk,nk _ (by simp[Deed.names]),rfl,rfl,by simp⟩
 · exact⟨wk,nk _ (by simp[Deed.names]),by simp⟩
 · exact⟨wk,nk _ (by simp[Deed.names]),rfl,by simp⟩
 · exact⟨wk,nk _ (by simp[Deed.names]),rfl,by simp⟩
 · exact⟨wk,nk _ (by simp[Deed.names]),nk _ (by simp[Deed.names]),by simp⟩
 · exact⟨wk,nk _ (by simp[Deed.names]),nk _ (by simp[Deed.names]),rfl,rfl,by simp⟩
 · exact⟨wk,nk _ (by simp[Deed.names]),nk _ (by simp[Deed.names]),by simp⟩
theorem eqv_self {d:PyData}(h:zH d=true):PyData.eqv d d=true:=PySem.SeqAt.eqv_refl _ (zG h)
end DL
namespace DL
open PySem PySem.Spec L2
theorem put_swap1 {M:Own}{p A:Addr}{o o' x:MO}(h:p≠A):((M.put p o).put A x).put p o'=(M.put p o').put A x:=by
 funext b
 unfold Own.put
 by_cases e1:b=p
 · subst e1;simp[h]
 · simp[e1]
end DL
namespace DL
open PySem PySem.Spec L2 XC
theorem d2_inO {K:Frg}{M:Own}{Q:DS→Own→Prop}{neg:Bool}{d:PyData}{ds:List PyData}{a:Addr}(m:M a=some (.l ds)) (s1:zH d=true) (s2:zH (.list ds)=true) (q:Q (.d (.bool (if neg then !(ds.any fun e=>PyData.eqv e d) else ds.any fun e=>PyData.eqv e d))) M):D2 K (rInD K neg) (.d d) (.loc a) M Q:=fun H v u QQ oa h1 h2 k=>by
 have hs:(M.del a).Sub M:=fun b o q=>by
   unfold Own.del at q
   by_cases hb:b=a
   · rw[if_pos hb] at q;cases q
   · rw[if_neg hb] at q;exact q
 obtain⟨vs,q1,q2⟩:=oa a _ m
 unfold SI at h2
 subst h2
 have h1':DV K H (M.del a).W d v:=DV.grow (sub_grow hs) h1
 refine⟨(M.del a).W,d,ds,h1',s1,.inl ⟨?_,s2⟩,k _ H _ M oa si_of_bl Step.refl q⟩
 unfold DV
 exact⟨a,vs,rfl,.inl ⟨fun w=>w (by unfold Own.del;rw[if_pos rfl]),.inl q1⟩,q2.grow (sub_grow hs)⟩
theorem shaped_lines {w:List Th}{ls:List (Str×Deed)}(h:goodB w ls):zH (linesD ls)=true:=by
 refine shaped_of (canAll fun d hd=>?_) ?_
 · obtain⟨l,hl,rfl⟩:=zL.mp hd
   refine canAll ?_
   simp only[List.forall_mem_cons]
   exact⟨strOk_name (h.hands l hl),zG (shaped_dy (h.real l hl).1),by simp⟩
 · have:PyData.depthAll (ls.map lineD)≤5:=depAll fun d hd=>by
     obtain⟨l,hl,rfl⟩:=zL.mp hd
     have:l.2.d.depth≤3:=by cases l.2 <;> simp[Deed.d,PyData.depth,PyData.depthAll]
     simp only[lineD,PyData.depth,PyData.depthAll];omega
   simp only[PyData.depth];omega
theorem lines_nil (ls:List (Str×Deed)):PyData.eqv (linesD ls) (.tuple [])=ls.isEmpty:=by
 cases ls with
 | nil=>rfl
 | cons y r=>simp[PyData.eqv,PyData.eqvAll]
theorem any_strs (ys:List Str) (z:Str):((ys.map PyData.str).any fun e=>PyData.eqv e (.str z))=decide (z∈ys):=by
 rw[Bool.eq_iff_iff,List.any_eq_true,decide_eq_true_iff]
 constructor
 · rintro⟨d,hd,he⟩
   obtain⟨y,hy,rfl⟩:=zL.mp hd
   rw[eqv_str] at he
   rw[← eq_of_beq he];exact hy
 · intro h
   exact⟨.str z,zL.mpr ⟨z,h,rfl⟩,by rw[eqv_str];simp⟩
theorem must_name {D:Deed}(h:D.real) {z:Str}(hz:z∈D.must):nameZ z:=h.1 z (yL.mp hz).1
theorem need_is {ls:List (Str×Deed)}{w:List Th}(hg:goodB w ls) {j k:Nat}{a b:Str×Deed}(ha:ls[j]?=some a) (hb:ls[k]?=some b):decide (madeN a.2∈b.2.must)=isNeed (dsL ls) k j:=by
 have e1:mkN (dsL ls) j=a.2.made:=by unfold mkN;rw[zF,ha];rfl
 have e2:mustN (dsL ls) k=b.2.must:=by unfold mustN;rw[zF,hb];rfl
 unfold isNeed madeN
 rw[e1,e2]
 cases hm:a.2.made with
 | some x=>rfl
 | none=>
   refine decide_eq_false fun q=>?_
   have:=(must_name (hg.real b (yN hb)) q).1
   exact absurd this (by decide +kernel)
theorem made_sh32 {D:Deed}(h:D.real):zH (.str (madeN D))=true:=by
 unfold madeN
 cases hm:D.made with
 | none=>decide +kernel
 | some x=>
   refine shaped_str (h.1 x ?_)
   cases D <;> simp[Deed.made] at hm <;> simp[Deed.names,hm]
def cNd (Ds:List Deed) (k:Nat):PyData→Bool | .int i=>isNeed Ds k i.toNat | _=>false
theorem needed_list (Ds:List Deed) (k:Nat):((intsD 0 (k:Int).toNat).filter (cNd Ds k)).map id=numsD (needN Ds k):=by
 rw[List.map_id]
 unfold intsD needN numsD intL
 rw[xU,zD,show(k:Int).toNat=k from Int.toNat_natCast k]
 have e:(cNd Ds k∘fun(i:Nat)=>PyData.int (0+i))=fun j=>isNeed Ds k j:=by
   funext i
   show isNeed Ds k ((0:Int)+(i:Int)).toNat=_
   rw[Int.zero_add,Int.toNat_natCast]
 rw[e]
 apply yM
 intro i _
 show PyData.int (0+(i:Int)) = .int (i:Int)
 rw[Int.zero_add]
theorem nums_snoc (l:List Nat) (k:Nat):numsD l++[.int (k:Int)]=numsD (l++[k]):=by
 unfold numsD intL;rw[xI,xI];rfl
theorem ints_at {n k:Nat}{d:PyData}(h:(intsD 0 ((n:Nat):Int).toNat)[k]?=some d):k < n∧d = .int (k:Int):=by
 have hl:k < n:=by have:=(yT.mp h).1;simpa [intsD] using this
 refine⟨hl,?_⟩
 unfold intsD at h
 rw[zF,yA (by omega)] at h
 simp at h;exact h.symm
theorem ints_mem {n:Nat}{d:PyData}(h:d∈intsD 0 ((n:Nat):Int).toNat):∃k:Nat,k < n∧d = .int (k:Int):=by
 obtain⟨k,hk,e⟩:=List.mem_iff_getElem.mp h
 exact⟨k,ints_at (n:=n) (by rw[zV hk,e])⟩
theorem ints_len (n:Nat):(intsD 0 ((n:Nat):Int).toNat).length=n:=by simp[intsD]
end DL
namespace DL
open PySem PySem.Spec L2 XC
def fAny (l:List Nat) (d:PyData):PyData:=.bool ((numsD l).any fun e=>PyData.eqv e d)
theorem any_list (l ms:List Nat):(numsD ms).map (fAny l)=(ms.map fun j=>decide (j∈l)).map .bool:=by
 unfold numsD intL
 rw[zD,zD,zD]
 apply yM
 intro j _
 show PyData.bool ((numsD l).any fun e=>PyData.eqv e (.int (j:Int)))=_
 rw[any_nums];rfl
theorem any_bools {α:Type}(l:List α) (g:α→Bool):(l.map g).any id=l.any g:=by rw[List.any_map];rfl
theorem all_trues (ds:List PyData):(ds.map fun _=>PyData.bool true)=(List.replicate ds.length true).map .bool:=by
 rw[List.map_replicate,← List.map_const' ]
theorem all_reps (n:Nat):(List.replicate n true).all id=true:=by
 rw[List.all_eq_true];intro x hx;rw[List.eq_of_mem_replicate hx];rfl
end DL
namespace DL
open PySem PySem.Spec L2 XC
theorem put_comm {M:Own}{p q:Addr}{x y:MO}(h:p≠q):(M.put p x).put q y=(M.put q y).put p x:=by
 funext b
 unfold Own.put
 by_cases e1:b=p
 · subst e1;rw[if_neg h,if_pos rfl];simp
 · by_cases e2:b=q
   · subst e2;simp[e1]
   · simp[e1,e2]
theorem di_rng2 {K:Frg}{M:Own}{ρ:List (Option DS)}{QI:List PyData→Own→Prop}{ta:TA}(h:DA K ta ρ M fun xs M1=>∃i j:Int,xs=[.d (.int i),.d (.int j)]∧(-(2 ^ 62)≤i∧i < 2 ^ 62∧-(2 ^ 62)≤j∧j < 2 ^ 62)∧QI (intsD i (j - i).toNat) M1):DI K (iRng2 ta) ρ M QI:=fun σ H R Rl k=>
 h σ H _ Rl fun vs H1 xs M1 o1 s1 t1 ⟨lo,j,e,h1,q⟩=>by
   subst e
   obtain⟨v,r,rfl,h3,v2,r2,rfl,h4,h5⟩:=s1
   cases h5
   rw[show v = .int lo by unfold SI DV at h3;exact h3,show v2 = .int j by unfold SI DV at h4;exact h4]
   have hlen:(intsD lo (j - lo).toNat).length=(j - lo).toNat:=by simp[intsD]
   refine⟨lo,j,rfl,h1,k _ (intsD lo (j - lo).toNat) H1 M1 o1 t1 ⟨fun i H' M' hi oa st=>?_,fun H' M' oa st=>?_,fun i H' M' x H2 oa st hi y=>?_⟩ q⟩
   · show i < (j - lo).toNat;rw[← hlen];exact hi
   · show(j - lo).toNat≤(intsD lo (j - lo).toNat).length;rw[hlen];exact zR _
   · obtain⟨rfl,rfl⟩:=y
     refine⟨oa,Step.refl,.int (lo+i),?_,by unfold DV;rfl⟩
     unfold intsD
     rw[zF]
     rw[hlen] at hi
     simp[hi]
theorem nums_at {c:List Nat}{i a:Nat}(h:c[i]?=some a):(numsD c)[i]?=some (.int (a:Int)):=by
 unfold numsD intL
 rw[zF,zF,h];rfl
theorem calm_goes {P:Program}{w0:World}{K:Frg}{mg:Str→Option Value}{base:Heap}{x:Str}{k:Nat}{ps:List Str}{cN:Addr}(h:HasX P w0 K mg base x k ps (GB cN fGoes)):Has P w0 K mg base x k ps (SB fGoes):=calm_B h
theorem calm_chains {P:Program}{w0:World}{K:Frg}{mg:Str→Option Value}{base:Heap}{x:Str}{k:Nat}{ps:List Str}{cN:Addr}(h:HasX P w0 K mg base x k ps (GB cN fChains)):Has P w0 K mg base x k ps (SB fChains):=calm_B h
theorem chained_call {M:Own}{Q:DS→Own→Prop}{ls:List (Str×Deed)}{ns c:List Nat}{m:Nat}(hg:goodB [] ls) (hl:ns.length≤60) (h:ChainN (dsL ls) ns c m) (hm:¬m∈ns) (q:Q (.d (.bool true)) M) :
   [DS.d (linesD ls),.d (.tuple (numsD ns)),.d (chD c)].length=3∧S32_chained.pre [.d (linesD ls),.d (.tuple (numsD ns)),.d (chD c)] M∧∀x M',S32_chained.post [.d (linesD ls),.d (.tuple (numsD ns)),.d (chD c)] M x M'→Q x M':=
 ⟨rfl,⟨ls,ns,c,rfl,hg,hl,zN (chain_len h) (by rw[zX];exact zN hg.few (by decide)),h.two.resolve_left hm,h.head,h.step,fun x hx=>by have:=h.lt x hx;rw[zX] at this;exact this⟩,fun x M' h=>by obtain⟨rfl,rfl⟩:=h;exact q⟩
theorem chains_mem {ls:List (Str×Deed)}{ns:List Nat}(hn:∀m∈ns,m < (dsL ls).length) {c:List Nat}(h:c∈chainsB ls ns):∃m,¬m∈ns∧ChainN (dsL ls) ns c m:=by
 obtain⟨m,hm,rfl⟩:=zL.mp h
 obtain⟨h1,h2⟩:=yL.mp hm
 obtain⟨c,hc,hch⟩:=end_look hn h1
 refine⟨m,by simpa using h2,?_⟩
 rw[show lookE (endB ls ns) m=some c from hc];exact hch
def lastD:PyData→PyData | .tuple ds=>ds.getLast?.getD .none | _=>.none
theorem last_at {c:List Nat}{m:Nat}(h:c.getLast?=some m):atI (numsD c) (-1)=some (.int (m:Int))∧lastD (chD c) = .int (m:Int):=by
 have hpos:0 < c.length:=by
   cases c with
   | nil=>cases h
   | cons a r=>simp
 have e:(numsD c).getLast?=some (.int (m:Int)):=by unfold numsD intL;rw[List.getLast?_map,List.getLast?_map,h];rfl
 refine⟨atI_last (n:=c.length - 1) (by rw[nums_len];omega) ?_,?_⟩
 · rw[List.getLast?_eq_getElem?,nums_len] at e;exact e
 · show((numsD c).getLast?).getD .none=_
   rw[e];rfl
theorem lasts_eq {ls:List (Str×Deed)}{ns:List Nat}(hn:∀m∈ns,m < (dsL ls).length):((chainsB ls ns).map chD).map lastD=numsD ((foundB ls ns).filter fun m=>!decide (m∈ns)):=by
 unfold chainsB numsD intL
 rw[zD,zD,zD]
 apply yM
 intro m hm
 obtain⟨c,hc,hch⟩:=end_look hn (yL.mp hm).1
 show lastD (chD ((lookE (endB ls ns) m).getD [])) = .int (m:Int)
 rw[show lookE (endB ls ns) m=some c from hc]
 exact(last_at hch.last).2
theorem due_eq (ls:List (Str×Deed)) (ns:List Nat):((numsD (foundB ls ns)).filter (cCh ns)).map id=numsD ((foundB ls ns).filter fun m=>!decide (m∈ns)):=by
 rw[List.map_id]
 unfold numsD intL
 rw[zD,xU,zD]
 congr 1
 apply List.filter_congr
 intro j _
 show(!((numsD ns).any fun e=>PyData.eqv e (.int (j:Int))))=_
 rw[any_nums]
def oddL (n:Nat):List PyData:=[.int (0 - 1),.int (n:Int),.str (Str.ofString "0"),.none,.tuple [.int 0],.int ((n:Int)+7),.str (Str.ofString ""),.tuple [],.list [.int 0],.dict []]
theorem odd_no {n:Nat}{d:PyData}(h:d∈oddL n):numB n d=false∧(zH d=true∧zH (.list [.bool true,d])=true∨d = .dict []):=by
 simp only[oddL,yX,xX,or_false] at h
 rcases h with rfl | rfl | rfl | rfl | rfl | rfl | rfl | rfl | rfl | rfl
 · exact⟨rfl,.inl ⟨rfl,rfl⟩⟩
 · refine⟨?_,.inl ⟨rfl,rfl⟩⟩
   show(decide ((0:Int)≤(n:Int))&&decide ((n:Int)≤(n:Int) - 1))=false
   rw[show decide ((n:Int)≤(n:Int) - 1)=false from decide_eq_false (by omega),Bool.and_false]
 · exact⟨rfl,.inl ⟨by decide +kernel,by decide +kernel⟩⟩
 · exact⟨rfl,.inl ⟨rfl,rfl⟩⟩
 · exact⟨rfl,.inl ⟨by decide +kernel,by decide +kernel⟩⟩
 · refine⟨?_,.inl ⟨rfl,rfl⟩⟩
   show(decide ((0:Int)≤(n:Int)+7)&&decide ((n:Int)+7≤(n:Int) - 1))=false
   rw[show decide ((n:Int)+7≤(n:Int) - 1)=false from decide_eq_false (by omega),Bool.and_false]
 · exact⟨rfl,.inl ⟨by decide +kernel,by decide +kernel⟩⟩
 · exact⟨rfl,.inl ⟨rfl,rfl⟩⟩
 · exact⟨rfl,.inl ⟨by decide +kernel,by decide +kernel⟩⟩
 · exact⟨rfl,.inr rfl⟩
theorem find_odd {n:Nat}{ns:List Nat}{d e:PyData}(hn:∀m∈ns,m < n) (h:numB n d=false):findNo n (numsD ns++[d]++numsD ns++[e])=some d:=by
 unfold findNo
 rw[List.find?_append,List.find?_append,List.find?_append]
 rw[show(numsD ns).find? (fun d=>!numB n d)=none from findNo_nums hn,Option.none_or,List.find?_cons,h]
 rfl
theorem find_bool (n:Nat) (b:Bool):findNo n [.bool b]=some (.bool b):=rfl
end DL
namespace DL
open PySem PySem.Spec L2 XC
theorem range_rev (n:Nat):((List.range n).map fun i:Nat=>PyData.int i).reverse=numsD (List.range n).reverse:=by
 unfold numsD intL
 rw[zD,← List.map_reverse]
 rfl
end DL
namespace DL
def S_book_of:FSp:=⟨fun _ _=>False,fun _ _ _ _=>True⟩
end DL
namespace DL
open PySem PySem.Spec L2 XC
def S32_start:FSp:=⟨fun xs M=>∃(p:Addr) (o:MO) (ys:List Str) (n:Nat),xs=[.loc p,.d (strL ys),.d (.int n)]∧M p=some o∧pack1 o∧namesOK ys∧n≤ys.length,
 fun xs M y M'=>∀(p:Addr) (ys:List Str) (n:Nat),xs=[.loc p,.d (strL ys),.d (.int n)]→∃(w:List Th) (o:MO),y = .d (wD w)∧pack1 o∧M'=M.put p o⟩
theorem start32_call {p:Addr}{o:MO}{ys:List Str}{n:Nat}{M:Own}{Q:DS→Own→Prop}(m:M p=some o) (ho:pack1 o) (hy:namesOK ys) (hn:n≤ys.length) (q:∀(w:List Th) (o':MO),pack1 o'→Q (.d (wD w)) (M.put p o')) :
   [DS.loc p,.d (strL ys),.d (.int n)].length=3∧S32_start.pre [.loc p,.d (strL ys),.d (.int n)] M∧∀x M',S32_start.post [.loc p,.d (strL ys),.d (.int n)] M x M'→Q x M':=
 ⟨rfl,⟨p,o,ys,n,rfl,m,ho,hy,hn⟩,fun x M' h=>by obtain⟨w,o',rfl,h3,rfl⟩:=h p ys n rfl;exact q w o' h3⟩
end DL
namespace DL
open PySem PySem.Spec L2
def FnIn (K:Frg) (n:Str) (st:Stmt):Prop:=∃(f:Addr) (oc:Value) (od:Option Addr) (kV dc pm:Value) (an:Option Addr) (cd ct:Value) (sl:Array (Option Value)),PySem.W.nsIn K mainGlobals n=some (some (.ref f)) ∧
 K.lookup f=some ⟨oc,od,.func (PySem.W.fnOf n n (defArgs st) (defBody st) (defScope st) .none kV dc pm an cd ct),sl⟩∧PySem.W.codeIn K cd n=true∧PySem.W.keepIn K (.ref f)=true
theorem fnIn_mk {K:Frg}{n:Str}{st:Stmt}{f:Addr}{oc:Value}{od:Option Addr}{kV dc pm:Value}{an:Option Addr}{cd ct:Value}{sl:Array (Option Value)}(a:PySem.W.nsIn K mainGlobals n=some (some (.ref f)))
   (l:K.lookup f=some ⟨oc,od,.func (PySem.W.fnOf n n (defArgs st) (defBody st) (defScope st) .none kV dc pm an cd ct),sl⟩) (c:PySem.W.codeIn K cd n=true) (k:PySem.W.keepIn K (.ref f)=true):FnIn K n st:=⟨f,oc,od,kV,dc,pm,an,cd,ct,sl,a,l,c,k⟩
structure FnAt (K:Frg) (mg:Str→Option Value) (n:Str) (st:Stmt) (f:Addr) (fd:FuncData):Prop where
 fn:Fun K n n st f fd
 mg_:mg n=some (.ref f)
 kp:PySem.W.keepIn K (.ref f)=true
theorem FnIn.at {K:Frg}{n:Str}{st:Stmt}{h:Heap}{mg:Str→Option Value}(b:FnIn K n st) (X:K.In h) (G:h.Ns mainGlobals mg):∃f fd,FnAt K mg n st f fd:=
 let ⟨f,_,_,_,_,_,_,_,_,_,a,l,c,k⟩:=b
 ⟨f,_,fun_mk l c k,PySem.W.mg_of X G a,k⟩
section
variable {P:Program}{w:World}{K:Frg}{mg:Str→Option Value}{base:Heap}{n:Str}{st:Stmt}{f:Addr}{fd:FuncData}{k:Nat}{ps:List Str}
abbrev BindOk (n:Str) (st:Stmt) (ps:List Str):Prop:=∀(kV doc pm:Value) (an:Option Addr) (cdv ct:Value) (us:List Value),us.length=ps.length→bindArgs (PySem.W.fnOf n n (defArgs st) (defBody st) (defScope st) .none kV doc pm an cdv ct) ⟨us,[]⟩=pure (ps.zip us)
theorem FnAt.has {S:FSp}(a:FnAt K mg n st f fd) (h:FnOk P w K mg base CX0 k f fd ps (spD K ps.length S)) (b:BindOk n st ps):Has P w K mg base n k ps S:=⟨f,fd,h,a.mg_,a.kp,a.fn.binds b⟩
theorem FnAt.hasX {S:FSpX}(a:FnAt K mg n st f fd) (h:FnOk P w K mg base (XC.CXE P w) k f fd ps (spX K ps.length S)) (b:BindOk n st ps):HasX P w K mg base n k ps S:=⟨f,fd,h,a.mg_,a.kp,a.fn.binds b⟩
end
end DL
namespace DL
open PySem PySem.Spec L2 XC
local macro_rules | `(tactic| walk_at "lc")=>`(tactic| first | exact Or.inl rfl | exact Or.inr rfl | exact Or.inr (Or.inl rfl) | exact Or.inr (Or.inr rfl))
local macro_rules | `(tactic| walk_at "dl")=>`(tactic| first
 | (with_reducible first | refine ds_seq ?_ | refine dx_seq ?_ | refine ds_set ?_ | refine ds_setc ?_ | refine ds_ret ?_ | refine ds_if ?_ | refine ds_drop ?_ | refine ds_next ?_ | refine ds_setitem ?_ | refine ds_par ?_ | refine dx_if ?_ | refine dx_raise1 ?_ | refine dx_raise0 ?_ | refine dx_drop (dex_call ?_) | refine dx_set (dex_call ?_) | refine dx_ret (dex_call ?_) | refine dx_lift (ds_set ?_) | refine dx_lift (ds_setc ?_) | refine dx_lift (ds_ret ?_) | refine dx_lift (ds_drop ?_) | refine dx_lift (ds_next ?_) | refine dx_lift (ds_setitem ?_) | refine dx_lift (ds_par ?_))
 | ((with_reducible apply de_var);exact rfl)
 | (with_reducible first | refine de_int ?_ | refine de_bl ?_ | refine de_str ?_ | refine de_non ?_ | refine de_cref ?_ | refine de_ty ?_ | refine de_op ?_ | refine de_un ?_ | refine de_chain ?_ | refine dt_test ?_ | refine dt_b ?_ | refine dt_and ?_ | refine dt_or ?_ | refine dt_not ?_ | refine dt_yes ?_ | refine de_and ?_ | refine de_or ?_ | refine de_not ?_ | refine de_if ?_ | refine da_nil ?_ | refine da_cons ?_ | refine de_cb ?_ | refine de_tup ?_ | refine de_sl ?_ | refine dp_none ?_ | refine dp_some ?_ | refine dg_name ?_ | refine dgs_cons ?_ | refine dgs_nil ?_)
 | ((with_reducible refine dg_tup ?_ ?_);exact rfl)
 | ((with_reducible refine dg_tupA ?_ ?_);exact rfl)
 | (with_reducible first | refine d2_i ?_ | refine d2_b ?_ | refine d1_i ?_ | refine d2B_addi ?_ | refine d2A_lti ?_)
 | ((with_reducible refine d2_iC ?_ ?_);(first
     | ((with_reducible show CMul _ _);first | exact cmul_r (by decide) (by decide) | exact cmul_l (by decide) (by decide) | exact cmul_l (by omega) (by omega))
     | ((with_reducible show CDivL _ _);first | exact⟨by decide,by decide⟩ | exact⟨by assumption,by assumption⟩)
     | ((with_reducible show CPow _ _);exact⟨by decide,by decide,by decide⟩)
     | (show(0:Int) < _;first | decide | assumption | omega)))
 | ((with_reducible apply d2A_ixo);(first | assumption | exact zU);exact rfl)
 | ((with_reducible apply setq);(first | assumption | exact zU);exact rfl)
 | ((with_reducible refine d2_mul ?_ ?_);(first | exact CMul.ok (cmul_r (by decide) (by decide)) | exact CMul.ok (cmul_l (by decide) (by decide))))
 | (with_reducible first | refine d2_isB ?_ | refine d2_notB ?_ | refine rd_max ?_ | refine rd_min ?_ | refine rd_intb ?_ | refine dgs_item ?_ | refine rd_abs ?_)
 | ((with_reducible refine dr_isi (b:=true) ?_ ?_);exact rfl)
 | ((with_reducible refine dr_isi (b:=false) ?_ ?_);exact rfl)
 | with_reducible refine de_call ?_
 | ((with_reducible apply lstq);exact rfl;exact yD rfl)
 | (with_reducible refine Exists.intro _ (And.intro rfl ?_))
 | (with_reducible refine L2.iteT ?_)
 | (with_reducible refine L2.iteF ?_)
 | (refine L2.iteT ?_)
 | (refine L2.iteF ?_))
local macro_rules | `(tactic| walk_at "r")=>`(tactic| repeat walk_at "dl")
local macro_rules | `(tactic| walk_at "wkd")=>`(tactic| repeat (first | walk_at "dl" | refine de_lst ?_ | refine de_dnew ?_))
local macro_rules | `(tactic| walk_at "wks")=>`(tactic| repeat ((fail_if_success (with_reducible show DSt _ _ _ _ _));(first | walk_at "dl" | refine de_lst ?_ | refine de_dnew ?_)))
section
variable {P:Program}{w:World}{K:Frg}{mg:Str→Option Value}{base:Heap}
abbrev s_is_whole:Stmt:=_root_.sT 1
def nm_is_whole:List Str:=["thing"]
theorem sc_is_whole:FnScope nm_is_whole ["thing"] (defScope s_is_whole):=⟨rfl,rfl,rfl,by decide +kernel,rfl,by decide +kernel,by decide +kernel⟩
theorem ok_is_whole {f:Addr}{fd:FuncData}(F:Fun K "is_whole" "is_whole" s_is_whole f fd) (n_bool:mg "bool"=none) (n_int:mg "int"=none) (n_isinstance:mg "isinstance"=none):FnOk P w K mg base CX0 1 f fd ["thing"] (spD K 1 S_is_whole):=by
 refine fnD F sc_is_whole fun cdv A outer s H E hr=>?_
 have hu:=hr.units
 refine⟨_,(@pss_one _ _ _ (@ps_ret _ _ _ _ (@pe_and _ _ _ _ _ _ _ (@pe_callB _ _ _ _ _ _ _ _ _ (@kIsi _ (K) rfl) (by rfl) n_isinstance PyProof.Rows.boot_isinstance (@pa_cons _ _ _ _ _ (@pv _ 0 _ _ (by rfl) (by walk_at "lc") (by decide) (by decide)) (@pa_cons _ _ _ _ _ (@pe_bltn _ _ (.ty "int") _ _ rfl n_int PyProof.Rows.boot_int rfl (by decide) (by decide)) (@pa_nil _) (by rfl)) (by rfl)) (by decide) (by decide) (by rfl) (by rfl)) (@pe_one _ _ _ _ _ (@pe_not _ _ _ _ (@pe_callB _ _ _ _ _ _ _ _ _ (@kIsi _ (K) rfl) (by rfl) n_isinstance PyProof.Rows.boot_isinstance (@pa_cons _ _ _ _ _ (@pv _ 0 _ _ (by rfl) (by walk_at "lc") (by decide) (by decide)) (@pa_cons _ _ _ _ _ (@pe_bltn _ _ (.ty "bool") _ _ rfl n_bool PyProof.Rows.boot_bool rfl (by decide) (by decide)) (@pa_nil _) (by rfl)) (by rfl)) (by decide) (by decide) (by rfl) (by rfl))))))),?_⟩
 rintro xs M hl ⟨d,rfl,-⟩
 walk_at "dl";walk_at "dl";walk_at "dl"
 cases d <;>
 · walk_at "r"
   exact⟨M,zT M,fun d' e=>by cases e;exact⟨rfl,rfl⟩⟩
abbrev s_is_within:Stmt:=_root_.sT 2
def nm_is_within:List Str:=["thing", "low", "high"]
theorem sc_is_within:FnScope nm_is_within ["thing", "low", "high"] (defScope s_is_within):=⟨rfl,rfl,rfl,by decide +kernel,rfl,by decide +kernel,by decide +kernel⟩
theorem ok_is_within {f:Addr}{fd:FuncData}(F:Fun K "is_within" "is_within" s_is_within f fd) (h_is_whole:Has P w K mg base "is_whole" 1 ["thing"] S_is_whole):FnOk P w K mg base CX0 2 f fd ["thing", "low", "high"] (spD K 3 S_is_within):=by
 refine fnD F sc_is_within fun cdv A outer s H E hr=>?_
 have hu:=hr.units
 refine⟨_,(@pss_one _ _ _ (@ps_ret _ _ _ _ (@pe_and _ _ _ _ _ _ _ (@kCall _ (K) (P) (w) (mg) (base) _ _ _ _ _ _ _ _ _ rfl rfl rfl rfl rfl h_is_whole (hr.mono (by decide)) rfl (@pa_cons _ _ _ _ _ (@pv _ 0 _ _ (by rfl) (by walk_at "lc") (by decide) (by decide)) (@pa_nil _) (by rfl)) (by decide) (by rfl) (by rfl)) (@pe_one _ _ _ _ _ (@pe_chain _ _ _ _ _ _ _ _ _ _ _ _ (@op_le _) (@op_le _) (@pv _ 1 _ _ (by rfl) (by walk_at "lc") (by decide) (by decide)) (@pv _ 0 _ _ (by rfl) (by walk_at "lc") (by decide) (by decide)) (@pv _ 2 _ _ (by rfl) (by walk_at "lc") (by decide) (by decide)) (by with_unfolding_all rfl)))))),?_⟩
 rintro xs M hl ⟨d,lo,hi,rfl⟩
 walk_at "r"
 refine fn1_call trivial ?_
 cases d
 case int i=>
   walk_at "r"
   refine ite2 (fun h=>?_) (fun h=>?_)
   · walk_at "r"
     exact⟨M,zT M,fun d' lo' hi' e=>by cases e;refine⟨?_,rfl⟩;simp only[withinD];rw[h];rfl⟩
   · exact⟨M,zT M,fun d' lo' hi' e=>by cases e;refine⟨?_,rfl⟩;simp only[withinD];simp at h;simp;omega⟩
 all_goals
   walk_at "r"
   exact⟨M,zT M,fun d' lo' hi' e=>by cases e;exact⟨rfl,rfl⟩⟩
end
section
variable {P:Program}{w:World}{K:Frg}{mg:Str→Option Value}{base:Heap}
abbrev s_form_of:Stmt:=_root_.sT 5
def nm_form_of:List Str:=["word"]
theorem sc_form_of:FnScope nm_form_of ["word"] (defScope s_form_of):=⟨rfl,rfl,rfl,by decide +kernel,rfl,by decide +kernel,by decide +kernel⟩
theorem ok_form_of {f:Addr}{fd:FuncData}(F:Fun K "form_of" "form_of" s_form_of f fd) (n_isinstance:mg "isinstance"=none) (n_str:mg "str"=none) (g_FORMS:∃a,mg "FORMS"=some (.ref a)∧GDict w K a FORMS):FnOk P w K mg base CX0 1 f fd ["word"] (spD K 1 S_form_of):=by
 refine fnD F sc_form_of fun cdv A outer s H E hr=>?_
 have hu:=hr.units
 refine⟨_,(@pss_one _ _ _ (@ps_ret _ _ _ _ (@pe_ifExp _ _ _ _ _ _ _ _ (@pt_val _ _ _ (@pe_callB _ _ _ _ _ _ _ _ _ (@kIsi _ (K) rfl) (by rfl) n_isinstance PyProof.Rows.boot_isinstance (@pa_cons _ _ _ _ _ (@pv _ 0 _ _ (by rfl) (by walk_at "lc") (by decide) (by decide)) (@pa_cons _ _ _ _ _ (@pe_bltn _ _ (.ty "str") _ _ rfl n_str PyProof.Rows.boot_str rfl (by decide) (by decide)) (@pa_nil _) (by rfl)) (by rfl)) (by decide) (by decide) (by rfl) (by rfl)) (by intro _;rfl)) (@pe_gget _ _ _ _ _ _ _ _ rfl g_FORMS (@pv _ 0 _ _ (by rfl) (by walk_at "lc") (by decide) (by decide)) (@L2.M1.mk _ _ _ _ _ _ rfl rfl rfl rfl) (by decide)) (@pe_non _ _ _)))),?_⟩
 rintro xs M hl ⟨d,rfl,-⟩
 cases d
 case str z=>
   walk_at "r"
   refine de_gget ?_
   walk_at "r"
   exact⟨M,zT M,fun d' e=>by cases e;exact⟨rfl,rfl⟩⟩
 all_goals
   walk_at "r"
   exact⟨M,zT M,fun d' e=>by cases e;exact⟨rfl,rfl⟩⟩
abbrev s_names_in:Stmt:=_root_.sT 6
def nm_names_in:List Str:=["deed"]
theorem sc_names_in:FnScope nm_names_in ["deed"] (defScope s_names_in):=⟨rfl,rfl,rfl,by decide +kernel,rfl,by decide +kernel,by decide +kernel⟩
theorem ok_names_in {f:Addr}{fd:FuncData}(F:Fun K "names_in" "names_in" s_names_in f fd) (h_form_of:Has P w K mg base "form_of" 1 ["word"] S_form_of):FnOk P w K mg base CX0 2 f fd ["deed"] (spD K 1 S_names_in):=by
 refine fnD F sc_names_in fun cdv A outer s H E hr=>?_
 have hu:=hr.units
 refine⟨_,(@pss_one _ _ _ (@ps_ret _ _ _ _ (@pe_ifExp _ _ _ _ _ _ _ _ (@pt_val _ _ _ (@kBm _ (K) _ _ _ _ _ _ _ _ _ _ _ rfl PySem.F.plainAttrs_str PySem.F.slot_str_startswith PySem.F.type_str_startswith (@kStartswith _ (K) rfl) (@kCall _ (K) (P) (w) (mg) (base) _ _ _ _ _ _ _ _ _ rfl rfl rfl rfl rfl h_form_of (hr.mono (by decide)) rfl (@pa_cons _ _ _ _ _ (@pe_ix _ _ _ _ _ _ _ (@kIx _ (K) rfl) (@pv _ 0 _ _ (by rfl) (by walk_at "lc") (by decide) (by decide)) (@pe_int _ _ _ _) (fun _ _=>rfl)) (@pa_nil _) (by rfl)) (by decide) (by rfl) (by rfl)) (@pa_cons _ _ _ _ _ (@pe_str _ _ _ _) (@pa_nil _) (by rfl)) (by rfl) (by rfl) (by rfl) (by rfl) (by rfl)) (by intro _;rfl)) (@pe_slice _ _ _ _ _ _ _ _ _ _ (@kSlB _ (K) rfl) (@pv _ 0 _ _ (by rfl) (by walk_at "lc") (by decide) (by decide)) (@po_some _ _ _ (@pe_int _ _ _ _)) (@po_some _ _ _ (@pe_int _ _ _ _))) (@pe_slice _ _ _ _ _ _ _ _ _ _ (@kSlB _ (K) rfl) (@pv _ 0 _ _ (by rfl) (by walk_at "lc") (by decide) (by decide)) (@po_some _ _ _ (@pe_int _ _ _ _)) (@po_some _ _ _ (@pe_int _ _ _ _)))))),?_⟩
 rintro xs M hl ⟨d,rfl,w,f,r,rfl,hf⟩
 obtain⟨fa,fs,fn,_,_⟩:=form_facts hf
 have hform:formD (.str w) = .str f:=by
   show optD (FORMS.lookup w)=_
   rw[hf];rfl
 walk_at "r"
 refine de_bm ?_
 walk_at "r"
 refine d2A_ixt (d:=.str w) (atI_nat (j:=0) rfl) ?_
 walk_at "r"
 refine fn1_call trivial ?_
 rw[hform]
 refine⟨dty_str,?_⟩
 walk_at "r"
 refine dm_starts ?_
 rw[fn]
 cases htw:twoW w with
 | true=>
   walk_at "r"
   refine dslB_tup ?_
   rw[show cutD (PyData.str w::r) (some 1) (some 3)=r.take 2 from cut_mid _ 1 3]
   exact⟨M,zT M,fun d' e=>by cases e;refine⟨?_,rfl⟩;simp only[namesD,htw];rfl⟩
 | false=>
   walk_at "r"
   refine dslB_tup ?_
   rw[show cutD (PyData.str w::r) (some 1) (some 2)=r.take 1 from cut_mid _ 1 2]
   exact⟨M,zT M,fun d' e=>by cases e;refine⟨?_,rfl⟩;simp only[namesD,htw];rfl⟩
abbrev s_made_by:Stmt:=_root_.sT 7
def nm_made_by:List Str:=["deed"]
theorem sc_made_by:FnScope nm_made_by ["deed"] (defScope s_made_by):=⟨rfl,rfl,rfl,by decide +kernel,rfl,by decide +kernel,by decide +kernel⟩
theorem ok_made_by {f:Addr}{fd:FuncData}(F:Fun K "made_by" "made_by" s_made_by f fd):FnOk P w K mg base CX0 1 f fd ["deed"] (spD K 1 S_made_by):=by
 refine fnD F sc_made_by fun cdv A outer s H E hr=>?_
 have hu:=hr.units
 refine⟨_,(@pss_cons _ _ _ _ _ (@ps_if _ _ _ _ _ _ _ _ (@pt_cmpR _ _ _ _ _ _ _ _ (@kEq _ (K) rfl hu) (@pe_ix _ _ _ _ _ _ _ (@kIx _ (K) rfl) (@pv _ 0 _ _ (by rfl) (by walk_at "lc") (by decide) (by decide)) (@pe_int _ _ _ _) (fun _ _=>rfl)) (@pe_str _ _ _ _) (@nomark _ _ (by decide) (by decide))) (@pss_one _ _ _ (@ps_ret _ _ _ _ (@pe_ix _ _ _ _ _ _ _ (@kIx _ (K) rfl) (@pv _ 0 _ _ (by rfl) (by walk_at "lc") (by decide) (by decide)) (@pe_int _ _ _ _) (fun _ _=>rfl)))) (@pss_nil _)) (@pss_cons _ _ _ _ _ (@ps_if _ _ _ _ _ _ _ _ (@pt_cmpR _ _ _ _ _ _ _ _ (@kIn _ (K) rfl) (@pe_ix _ _ _ _ _ _ _ (@kIx _ (K) rfl) (@pv _ 0 _ _ (by rfl) (by walk_at "lc") (by decide) (by decide)) (@pe_int _ _ _ _) (fun _ _=>rfl)) (@pe_tup _ _ _ _ _ (@pa_cons _ _ _ _ _ (@pe_str _ _ _ _) (@pa_cons _ _ _ _ _ (@pe_str _ _ _ _) (@pa_nil _) (by rfl)) (by rfl))) (by with_unfolding_all rfl)) (@pss_one _ _ _ (@ps_ret _ _ _ _ (@pe_ix _ _ _ _ _ _ _ (@kIx _ (K) rfl) (@pv _ 0 _ _ (by rfl) (by walk_at "lc") (by decide) (by decide)) (@pe_int _ _ _ _) (fun _ _=>rfl)))) (@pss_nil _)) (@pss_one _ _ _ (@ps_ret _ _ _ _ (@pe_non _ _ _))))),?_⟩
 rintro xs M hl ⟨d,rfl,D,rfl,hD⟩
 rw[D.d_eq]
 walk_at "r"
 refine d2A_ixt (d:=.str D.word) (atI_nat (j:=0) rfl) ?_
 walk_at "r"
 refine d2_eq D.word_ok (by decide +kernel) ?_
 rw[if_neg nft,eqv_str,word_put]
 cases hp:D.isPut with
 | true=>
   walk_at "r"
   refine d2A_ixt (d:=.str D.fst) (atI_nat (j:=1) rfl) ?_
   refine⟨M,zT M,fun d' e=>?_⟩
   cases e
   refine⟨?_,rfl⟩
   cases D <;> first | rfl | cases hp
 | false=>
   walk_at "r"
   refine d2A_ixt (d:=.str D.word) (atI_nat (j:=0) rfl) ?_
   walk_at "r"
   refine d2A_int (ys:=[Str.ofString "name", Str.ofString "split"]) ?_
   rw[mem2,word_ns]
   cases hn:D.isNS with
   | true=>
     have h2:∃y t,D.rest = .str y::t:=by cases D <;> first | exact⟨_,_,rfl⟩ | cases hn
     obtain⟨y,t,h2⟩:=h2
     walk_at "r"
     refine d2A_ixt (d:=.str y) (atI_nat (j:=2) (by rw[h2];rfl)) ?_
     refine⟨M,zT M,fun d' e=>?_⟩
     cases e
     refine⟨?_,rfl⟩
     cases D <;> first | (cases hn;done) | (simp only[Deed.rest] at h2;injection h2 with h3 h4;injection h3 with h3;subst h3;rfl)
   | false=>
     walk_at "r"
     refine⟨M,zT M,fun d' e=>?_⟩
     cases e
     refine⟨?_,rfl⟩
     cases D <;> first | rfl | (cases hn;done) | (cases hp;done)
abbrev s_must_stand:Stmt:=_root_.sT 8
def nm_must_stand:List Str:=["deed", "made"]
def cc_must_stand_0:List Str:=["name", "made"]
def cf_must_stand_0:List (Option Nat):=[none,some 1]
theorem cn_must_stand_0:cc_must_stand_0.Nodup:=by decide +kernel
theorem sc_must_stand:FnScope nm_must_stand ["deed"] (defScope s_must_stand):=⟨rfl,rfl,rfl,by decide +kernel,rfl,by decide +kernel,by decide +kernel⟩
theorem ok_must_stand {f:Addr}{fd:FuncData}(F:Fun K "must_stand" "must_stand" s_must_stand f fd) (n_tuple:mg "tuple"=none) (h_made_by:Has P w K mg base "made_by" 1 ["deed"] S_made_by) (h_names_in:Has P w K mg base "names_in" 2 ["deed"] S_names_in):FnOk P w K mg base CX0 3 f fd ["deed"] (spD K 1 S_must_stand):=by
 refine fnD F sc_must_stand fun cdv A outer s H E hr=>?_
 have hu:=hr.units
 refine⟨_,(@pss_cons _ _ _ _ _ (@ps_set _ _ (1) _ _ _ _ sc_must_stand.nd rfl (by walk_at "lc") (@kCall _ (K) (P) (w) (mg) (base) _ _ _ _ _ _ _ _ _ rfl rfl rfl rfl rfl h_made_by (hr.mono (by decide)) rfl (@pa_cons _ _ _ _ _ (@pv _ 0 _ _ (by rfl) (by walk_at "lc") (by decide) (by decide)) (@pa_nil _) (by rfl)) (by decide) (by rfl) (by rfl)) (by rfl) (by first   | exact .inl rfl   | exact .inr rfl   | assumption)) (@pss_one _ _ _ (@ps_ret _ _ _ _ (@pe_callTy _ _ _ _ _ _ _ _ _ (@kTuple _ (K) rfl) (by rfl) n_tuple PyProof.Rows.boot_tuple (@pa_cons _ _ _ _ _ (@pe_comp _ _ _ _ _ _ _ _ _ _ _ _ _ rfl (@L2.CSc.of _ _ (cc_must_stand_0) (cf_must_stand_0) (defScope s_must_stand) (nm_must_stand) (by decide +kernel) rfl rfl) (@kIter _ (K) _ _ _ rfl (@kCall _ (K) (P) (w) (mg) (base) _ _ _ _ _ _ _ _ _ rfl rfl rfl rfl rfl h_names_in (hr.mono (by decide)) rfl (@pa_cons _ _ _ _ _ (@pv _ 0 _ _ (by rfl) (by walk_at "lc") (by decide) (by decide)) (@pa_nil _) (by rfl)) (by decide) (by rfl) (by rfl))) (fun C s' H' ex' pn'=>⟨@pg_name _ _ (0) _ cn_must_stand_0 rfl (by walk_at "lc") (by first   | exact .inl rfl   | exact .inr rfl   | assumption),(@pts_one _ _ _ (@pt_cmpR _ _ _ _ _ _ _ _ (@kNe _ (K) rfl hu) (@pv _ 0 _ _ (by rfl) (by walk_at "lc") (by decide) (by decide)) (@pv _ 1 _ _ (by rfl) (by walk_at "lc") (by decide) (by decide)) (@nomark _ _ (by decide) (by decide)))),(@pv _ 0 _ _ (by rfl) (by walk_at "lc") (by decide) (by decide))⟩) (by intro _;rfl)) (@pa_nil _) (by rfl)) (by decide) (by decide) (by rfl) (by rfl))))),?_⟩
 rintro xs M hl ⟨d,rfl,D,rfl,hD⟩
 have hsz:(D.names.map PyData.str).length < sizeLine:=by
   rw[zX];exact zQ (show D.names.length≤2 by cases D <;> simp[Deed.names]) (by decide)
 walk_at "r"
 refine fn1_call ⟨D,rfl,hD⟩ ?_
 walk_at "r"
 refine de_comp_pure (go_name 0) (by simp[cf_must_stand_0]) ?_
 refine diA_tup ?_
 walk_at "r"
 refine fn1_call (wordOk_d D) ?_
 rw[namesD_d]
 refine⟨_,rfl,hsz,fun d=>!PyData.eqv d (madeP D.d),id,?_,?_⟩
 · intro d hd M'
   obtain⟨n,hn,rfl⟩:=zL.mp hd
   walk_at "dl"
   refine⟨rfl,?_⟩
   walk_at "r"
   refine d2_eq (shaped_str (hD n hn)) (made_sh hD) ?_
   rw[if_pos rfl]
   refine⟨_,rfl,rfl,rfl,fun _=>?_⟩
   walk_at "r"
   exact⟨rfl,rfl⟩
 · walk_at "r"
   refine rd_tupl ?_
   refine⟨M,zT M,fun d' e=>?_⟩
   cases e
   refine⟨?_,rfl⟩
   show DS.d (.tuple _) = .d (.tuple ((mustS D.d).map .str))
   unfold mustS
   rw[namesS_d,List.map_id,xU]
   rfl
end
section
variable {P:Program}{w:World}{K:Frg}{mg:Str→Option Value}{base:Heap}
abbrev s_deeds_of:Stmt:=_root_.sT 14
def nm_deeds_of:List Str:=["book"]
def cc_deeds_of_0:List Str:=["hand", "deed"]
def cf_deeds_of_0:List (Option Nat):=[none,none]
theorem cn_deeds_of_0:cc_deeds_of_0.Nodup:=by decide +kernel
theorem sc_deeds_of:FnScope nm_deeds_of ["book"] (defScope s_deeds_of):=⟨rfl,rfl,rfl,by decide +kernel,rfl,by decide +kernel,by decide +kernel⟩
theorem ok_deeds_of {f:Addr}{fd:FuncData}(F:Fun K "deeds_of" "deeds_of" s_deeds_of f fd) (n_tuple:mg "tuple"=none):FnOk P w K mg base CX0 1 f fd ["book"] (spD K 1 S_deeds_of):=by
 refine fnD F sc_deeds_of fun cdv A outer s H E hr=>?_
 have hu:=hr.units
 refine⟨_,(@pss_one _ _ _ (@ps_ret _ _ _ _ (@pe_callTy _ _ _ _ _ _ _ _ _ (@kTuple _ (K) rfl) (by rfl) n_tuple PyProof.Rows.boot_tuple (@pa_cons _ _ _ _ _ (@pe_comp _ _ _ _ _ _ _ _ _ _ _ _ _ rfl (@L2.CSc.of _ _ (cc_deeds_of_0) (cf_deeds_of_0) (defScope s_deeds_of) (nm_deeds_of) (by decide +kernel) rfl rfl) (@kIter _ (K) _ _ _ rfl (@pe_ix _ _ _ _ _ _ _ (@kIx _ (K) rfl) (@pv _ 0 _ _ (by rfl) (by walk_at "lc") (by decide) (by decide)) (@pe_int _ _ _ _) (fun _ _=>rfl))) (fun C s' H' ex' pn'=>⟨@kTup _ (K) _ _ _ _ (2) rfl rfl (@pgs_cons _ _ _ _ _ (@pg_name _ _ (0) _ cn_deeds_of_0 rfl (by walk_at "lc") (by first   | exact .inl rfl   | exact .inr rfl   | assumption)) (@pgs_cons _ _ _ _ _ (@pg_name _ _ (1) _ cn_deeds_of_0 rfl (by walk_at "lc") (by first   | exact .inl rfl   | exact .inr rfl   | assumption)) (@pgs_nil _) (by rfl)) (by rfl)) (by rfl) (by rfl),@pts_nil _,(@pv _ 1 _ _ (by rfl) (by walk_at "lc") (by decide) (by decide))⟩) (by intro _;rfl)) (@pa_nil _) (by rfl)) (by decide) (by decide) (by rfl) (by rfl)))),?_⟩
 rintro xs M hl ⟨w,ls,rfl,hg⟩
 walk_at "r"
 refine de_comp_pure (go_tup (gs_cons (gs_cons gs_nil))) (by simp[cf_deeds_of_0]) ?_
 refine diA_tup ?_
 walk_at "r"
 refine d2A_ixt (ds:=[wD w,linesD ls]) (d:=linesD ls) rfl ?_
 walk_at "r"
 refine⟨by rw[zX];exact zQ hg.few (by decide),fun _=>true,fun d=>match d with | .tuple [_,b]=>b | d=>d,?_,?_⟩
 · intro d hd M'
   obtain⟨l,hl,rfl⟩:=zL.mp hd
   rw[show lineD l = .tuple [.str l.1,l.2.d] from rfl]
   walk_at "r"
   refine⟨rfl,?_⟩
   walk_at "dl"
   refine⟨rfl,rfl,fun _=>?_⟩
   walk_at "r"
   exact⟨rfl,rfl⟩
 · walk_at "r"
   refine rd_tupl ?_
   refine⟨M,zT M,fun w' ls' e=>?_⟩
   simp only[List.cons.injEq,DS.d.injEq,and_true] at e
   have e:=bookD_inj e
   subst e
   refine⟨?_,rfl⟩
   rw[flt0,zD,zD]
   rfl
abbrev s_is_number:Stmt:=_root_.sT 16
def nm_is_number:List Str:=["book", "thing"]
theorem sc_is_number:FnScope nm_is_number ["book", "thing"] (defScope s_is_number):=⟨rfl,rfl,rfl,by decide +kernel,rfl,by decide +kernel,by decide +kernel⟩
theorem ok_is_number {f:Addr}{fd:FuncData}(F:Fun K "is_number" "is_number" s_is_number f fd) (n_len:mg "len"=none) (h_is_within:Has P w K mg base "is_within" 2 ["thing", "low", "high"] S_is_within):FnOk P w K mg base CX0 3 f fd ["book", "thing"] (spD K 2 S_is_number):=by
 refine fnD F sc_is_number fun cdv A outer s H E hr=>?_
 have hu:=hr.units
 refine⟨_,(@pss_one _ _ _ (@ps_ret _ _ _ _ (@kCall _ (K) (P) (w) (mg) (base) _ _ _ _ _ _ _ _ _ rfl rfl rfl rfl rfl h_is_within (hr.mono (by decide)) rfl (@pa_cons _ _ _ _ _ (@pv _ 1 _ _ (by rfl) (by walk_at "lc") (by decide) (by decide)) (@pa_cons _ _ _ _ _ (@pe_int _ _ _ _) (@pa_cons _ _ _ _ _ (@pe_op _ _ _ _ _ _ _ _ (@op_sub _) (@pe_callB _ _ _ _ _ _ _ _ _ (@kLen _ (K) rfl) (by rfl) n_len PySem.boot_len (@pa_cons _ _ _ _ _ (@pe_ix _ _ _ _ _ _ _ (@kIx _ (K) rfl) (@pv _ 0 _ _ (by rfl) (by walk_at "lc") (by decide) (by decide)) (@pe_int _ _ _ _) (fun _ _=>rfl)) (@pa_nil _) (by rfl)) (by decide) (by decide) (by rfl) (by rfl)) (@pe_int _ _ _ _)) (@pa_nil _) (by rfl)) (by rfl)) (by rfl)) (by decide) (by rfl) (by rfl)))),?_⟩
 rintro xs M hl ⟨w,ls,d,rfl⟩
 walk_at "r"
 refine d2A_ixt (ds:=[wD w,linesD ls]) (d:=linesD ls) rfl ?_
 walk_at "r"
 refine rd_lent ?_
 walk_at "r"
 refine within_call ?_
 refine⟨M,zT M,fun w' ls' d' e=>?_⟩
 simp only[List.cons.injEq,DS.d.injEq,and_true] at e
 obtain⟨e1,rfl⟩:=e
 have e1:=bookD_inj e1
 subst e1
 rw[zX]
 exact⟨rfl,rfl⟩
end
section
variable {P:Program}{w:World}{K:Frg}{mg:Str→Option Value}{base:Heap}
abbrev s_makers:Stmt:=_root_.sT 13
def nm_makers:List Str:=["book", "made"]
def cc_makers_0:List Str:=["deed"]
def cf_makers_0:List (Option Nat):=[none]
theorem cn_makers_0:cc_makers_0.Nodup:=by decide +kernel
def cc_makers_1:List Str:=["number", "name"]
def cf_makers_1:List (Option Nat):=[none,none]
theorem cn_makers_1:cc_makers_1.Nodup:=by decide +kernel
theorem sc_makers:FnScope nm_makers ["book"] (defScope s_makers):=⟨rfl,rfl,rfl,by decide +kernel,rfl,by decide +kernel,by decide +kernel⟩
theorem ok_makers {f:Addr}{fd:FuncData}(F:Fun K "makers" "makers" s_makers f fd) (n_enumerate:mg "enumerate"=none) (h_deeds_of:Has P w K mg base "deeds_of" 1 ["book"] S_deeds_of) (h_made_by:Has P w K mg base "made_by" 1 ["deed"] S_made_by):FnOk P w K mg base CX0 2 f fd ["book"] (spD K 1 S_makers):=by
 refine fnD F sc_makers fun cdv A outer s H E hr=>?_
 have hu:=hr.units
 have hu1:=zQ (Nat.add_le_add_left (show 1≤64 by decide) _) hu
 refine⟨_,(@pss_cons _ _ _ _ _ (@ps_setc _ _ _ _ _ _ _ _ _ _ _ _ _ (1) _ _ _ rfl sc_makers.nd rfl (by walk_at "lc") (@L2.CSc.of _ _ (cc_makers_0) (cf_makers_0) (defScope s_makers) (nm_makers) (by decide +kernel) rfl rfl) (@kIter _ (K) _ _ _ rfl (@kCall _ (K) (P) (w) (mg) (base) _ _ _ _ _ _ _ _ _ rfl rfl rfl rfl rfl h_deeds_of (hr.mono (by decide)) rfl (@pa_cons _ _ _ _ _ (@pv _ 0 _ _ (by rfl) (by walk_at "lc") (by decide) (by decide)) (@pa_nil _) (by rfl)) (by decide) (by rfl) (by rfl))) (fun C s' H' ex' pn'=>⟨@pg_name _ _ (0) _ cn_makers_0 rfl (by walk_at "lc") (by first   | exact .inl rfl   | exact .inr rfl   | assumption),@pts_nil _,(@kCall _ (K) (P) (w) (mg) (base) _ _ _ _ _ _ _ _ _ rfl rfl rfl rfl rfl h_made_by (hr.mono (by decide)) rfl (@pa_cons _ _ _ _ _ (@pv _ 0 _ _ (by rfl) (by walk_at "lc") (by decide) (by decide)) (@pa_nil _) (by rfl)) (by decide) (by rfl) (by rfl))⟩) rfl (by first   | exact .inl rfl   | exact .inr rfl   | assumption) (by intro _;rfl)) (@pss_one _ _ _ (@ps_ret _ _ _ _ (@pe_dcomp _ _ _ _ _ _ _ _ _ _ _ _ _ _ _ rfl hu1 (@L2.CSc.of _ _ (cc_makers_1) (cf_makers_1) (defScope s_makers) (nm_makers) (by decide +kernel) rfl rfl) (@kEnum _ (K) _ _ _ _ _ _ _ rfl rfl n_enumerate (@pa_cons _ _ _ _ _ (@pv _ 1 _ _ (by rfl) (by walk_at "lc") (by decide) (by decide)) (@pa_nil _) (by rfl)) (by rfl)) (fun C s' H' ex' pn'=>⟨@kTup _ (K) _ _ _ _ (2) rfl rfl (@pgs_cons _ _ _ _ _ (@pg_name _ _ (0) _ cn_makers_1 rfl (by walk_at "lc") (by first   | exact .inl rfl   | exact .inr rfl   | assumption)) (@pgs_cons _ _ _ _ _ (@pg_name _ _ (1) _ cn_makers_1 rfl (by walk_at "lc") (by first   | exact .inl rfl   | exact .inr rfl   | assumption)) (@pgs_nil _) (by rfl)) (by rfl)) (by rfl) (by rfl),(@pts_one _ _ _ (@pt_cmpR _ _ _ _ _ _ _ _ (@op_notA _) (@pv _ 1 _ _ (by rfl) (by walk_at "lc") (by decide) (by decide)) (@pe_non _ _ _) (@nomark _ _ (by decide) (by decide)))),(@pv _ 1 _ _ (by rfl) (by walk_at "lc") (by decide) (by decide)),(@pv _ 0 _ _ (by rfl) (by walk_at "lc") (by decide) (by decide))⟩) (by intro _;rfl))))),?_⟩
 rintro xs M hl ⟨w,ls,rfl,hg⟩
 have hrl:∀D∈dsL ls,D.real:=fun D hD=>by
   obtain⟨l,h1,rfl⟩:=zL.mp hD
   exact hg.real l h1
 have hsz:ls.length < sizeLine:=zQ hg.few (by decide)
 walk_at "r"
 refine de_comp_pure (go_name 0) (by simp[cf_makers_0]) ?_
 refine diA_tup ?_
 walk_at "r"
 refine deeds_call hg ?_
 refine⟨_,rfl,by rw[zX,zX];exact hsz,fun _=>true,madeP,?_,?_⟩
 · intro d hd M'
   obtain⟨D,hD,rfl⟩:=zL.mp hd
   walk_at "dl"
   refine⟨rfl,?_⟩
   walk_at "dl"
   refine⟨rfl,rfl,fun _=>?_⟩
   walk_at "r"
   refine fn1_call (real_isDeed (hrl D hD)) ?_
   exact⟨rfl,rfl⟩
 · rw[flt0,zD]
   walk_at "r"
   refine de_dcomp (go_tup (gs_cons (gs_cons gs_nil))) (by simp[cf_makers_1]) ?_
   refine di_enum ?_
   walk_at "r"
   have emk:(((enumD ((dsL ls).map (madeP∘Deed.d))).filter cEn).map fun d=>(fEn d,wEn d))=mkL (dsL ls) 0:=enum_mk (dsL ls) 0
   refine⟨by unfold enumD;rw[zX,List.length_zipIdx,zX,zX];exact hsz,cEn,fEn,wEn,?_,?_,fun p hp=>?_⟩
   · have:=mkL_nodup (dsL ls) 0 hg.fresh.one
     rw[← emk,zD] at this
     exact this
   · intro d hd M'
     obtain⟨q,hq,rfl⟩:=zL.mp hd
     obtain⟨D,hD,eD⟩:∃D∈dsL ls,madeP D.d=q.1:=by
       obtain⟨D,a,b⟩:=zL.mp (List.fst_mem_of_mem_zipIdx hq)
       exact⟨D,a,b⟩
     rw[← eD]
     rcases (show madeP D.d = .none∨∃x,madeP D.d = .str x by rw[madeP_d];cases D.made with | none=>exact .inl rfl | some x=>exact .inr ⟨x,rfl⟩) with e | ⟨x,e⟩ <;> rw[e]
     · walk_at "r"
       refine⟨rfl,?_⟩
       walk_at "r"
       refine d2_notNA ?_
       exact⟨_,rfl,rfl,rfl,fun h=>absurd h nft⟩
     · walk_at "r"
       refine⟨rfl,?_⟩
       walk_at "r"
       refine d2_notNA ?_
       refine⟨_,rfl,rfl,rfl,fun _=>?_⟩
       walk_at "r"
       refine⟨rfl,rfl,?_⟩
       walk_at "r"
       exact⟨rfl,rfl⟩
   · rw[emk]
     refine⟨_,zT _,fun w' ls' e=>?_⟩
     simp only[List.cons.injEq,DS.d.injEq,and_true] at e
     have e:=bookD_inj e
     subst e
     exact⟨p,hp,rfl,rfl⟩
end
section
variable {P:Program}{w:World}{K:Frg}{mg:Str→Option Value}{base:Heap}
abbrev s_needs:Stmt:=_root_.sT 17
def nm_needs:List Str:=["book", "number", "made"]
def cc_needs_0:List Str:=["name", "made"]
def cf_needs_0:List (Option Nat):=[none,some 2]
theorem cn_needs_0:cc_needs_0.Nodup:=by decide +kernel
theorem sc_needs:FnScope nm_needs ["book", "number"] (defScope s_needs):=⟨rfl,rfl,rfl,by decide +kernel,rfl,by decide +kernel,by decide +kernel⟩
theorem ok_needs {f:Addr}{fd:FuncData}(F:Fun K "needs" "needs" s_needs f fd) (n_sorted:mg "sorted"=none) (n_tuple:mg "tuple"=none) (h_is_number:Has P w K mg base "is_number" 3 ["book", "thing"] S_is_number) (h_makers:Has P w K mg base "makers" 2 ["book"] S_makers) (h_must_stand:Has P w K mg base "must_stand" 3 ["deed"] S_must_stand):FnOk P w K mg base CX0 4 f fd ["book", "number"] (spD K 2 S_needs):=by
 refine fnD F sc_needs fun cdv A outer s H E hr=>?_
 have hu:=hr.units
 have hu1:=zQ (Nat.add_le_add_left (show 1≤64 by decide) _) hu
 refine⟨_,(@pss_cons _ _ _ _ _ (@ps_if _ _ _ _ _ _ _ _ (@pt_not _ _ _ _ (@pt_val _ _ _ (@kCall _ (K) (P) (w) (mg) (base) _ _ _ _ _ _ _ _ _ rfl rfl rfl rfl rfl h_is_number (hr.mono (by decide)) rfl (@pa_cons _ _ _ _ _ (@pv _ 0 _ _ (by rfl) (by walk_at "lc") (by decide) (by decide)) (@pa_cons _ _ _ _ _ (@pv _ 1 _ _ (by rfl) (by walk_at "lc") (by decide) (by decide)) (@pa_nil _) (by rfl)) (by rfl)) (by decide) (by rfl) (by rfl)) (by intro _;rfl))) (@pss_one _ _ _ (@ps_never _ _)) (@pss_nil _)) (@pss_cons _ _ _ _ _ (@ps_set _ _ (2) _ _ _ _ sc_needs.nd rfl (by walk_at "lc") (@kCall _ (K) (P) (w) (mg) (base) _ _ _ _ _ _ _ _ _ rfl rfl rfl rfl rfl h_makers (hr.mono (by decide)) rfl (@pa_cons _ _ _ _ _ (@pv _ 0 _ _ (by rfl) (by walk_at "lc") (by decide) (by decide)) (@pa_nil _) (by rfl)) (by decide) (by rfl) (by rfl)) (by rfl) (by first   | exact .inl rfl   | exact .inr rfl   | assumption)) (@pss_one _ _ _ (@ps_ret _ _ _ _ (@pe_callTy _ _ _ _ _ _ _ _ _ (@kTuple _ (K) rfl) (by rfl) n_tuple PyProof.Rows.boot_tuple (@pa_cons _ _ _ _ _ (@pe_callB _ _ _ _ _ _ _ _ _ (@kSortB _ (K) rfl rfl) (by rfl) n_sorted PyProof.Rows.boot_sorted (@pa_cons _ _ _ _ _ (@pe_comp _ _ _ _ _ _ _ _ _ _ _ _ _ rfl (@L2.CSc.of _ _ (cc_needs_0) (cf_needs_0) (defScope s_needs) (nm_needs) (by decide +kernel) rfl rfl) (@kIter _ (K) _ _ _ rfl (@kCall _ (K) (P) (w) (mg) (base) _ _ _ _ _ _ _ _ _ rfl rfl rfl rfl rfl h_must_stand (hr.mono (by decide)) rfl (@pa_cons _ _ _ _ _ (@pe_ix _ _ _ _ _ _ _ (@kIx _ (K) rfl) (@pe_ix _ _ _ _ _ _ _ (@kIx _ (K) rfl) (@pe_ix _ _ _ _ _ _ _ (@kIx _ (K) rfl) (@pv _ 0 _ _ (by rfl) (by walk_at "lc") (by decide) (by decide)) (@pe_int _ _ _ _) (fun _ _=>rfl)) (@pv _ 1 _ _ (by rfl) (by walk_at "lc") (by decide) (by decide)) (fun _ _=>rfl)) (@pe_int _ _ _ _) (fun _ _=>rfl)) (@pa_nil _) (by rfl)) (by decide) (by rfl) (by rfl))) (fun C s' H' ex' pn'=>⟨@pg_name _ _ (0) _ cn_needs_0 rfl (by walk_at "lc") (by first   | exact .inl rfl   | exact .inr rfl   | assumption),(@pts_one _ _ _ (@pt_cmp _ _ _ _ _ _ (@pc_din _ _ _ _ _ hu1 (@pv _ 0 _ _ (by rfl) (by walk_at "lc") (by decide) (by decide)) (@pv _ 1 _ _ (by rfl) (by walk_at "lc") (by decide) (by decide))) (by with_unfolding_all rfl))),(@pe_dget _ _ _ _ _ _ hu1 (@pv _ 1 _ _ (by rfl) (by walk_at "lc") (by decide) (by decide)) (@pv _ 0 _ _ (by rfl) (by walk_at "lc") (by decide) (by decide)) (fun _ _=>rfl))⟩) (by intro _;rfl)) (@pa_nil _) (by rfl)) (by decide) (by decide) (by rfl) (by rfl)) (@pa_nil _) (by rfl)) (by decide) (by decide) (by rfl) (by rfl)))))),?_⟩
 rintro xs M hl ⟨w,ls,k,rfl,hg,hk⟩
 obtain⟨l,hlk,hlm,hll,hld⟩:=at_line hk
 have hr:=hg.real l hlm
 walk_at "r"
 refine num32_call ?_
 rw[num_of hk]
 walk_at "r"
 refine makers_call hg fun p hp=>?_
 walk_at "r"
 refine de_comp_read (go_name 0) (by simp[cf_needs_0]) ?_
 refine diA_tup ?_
 walk_at "r"
 refine d2A_ixt (ds:=[wD w,linesD ls]) (d:=linesD ls) rfl ?_
 walk_at "r"
 refine d2A_ixt (ds:=ls.map lineD) (atI_nat hll) ?_
 walk_at "r"
 refine d2A_ixt (ds:=[.str l.1,l.2.d]) (d:=l.2.d) rfl ?_
 walk_at "r"
 refine fn1_call (real_isDeed hr) ?_
 rw[mustS_d]
 have hml:(l.2.must).length≤2:=zN (yJ _ _) (by cases l.2 <;> simp[Deed.names])
 refine⟨_,rfl,by rw[zX];exact zQ hml (by decide),cMk (dsL ls),fMk (dsL ls),?_,?_⟩
 · rintro d hd A acc M' hA rfl
   obtain⟨n,hn,rfl⟩:=zL.mp hd
   have hpA:p≠A:=by rintro rfl;rw[zU] at hA;cases hA
   walk_at "dl"
   refine⟨rfl,?_⟩
   walk_at "r"
   refine de_dinO ?_
   walk_at "r"
   refine⟨p,mkL (dsL ls) 0,n,rfl,rfl,by rw[yH hpA];exact zU,?_⟩
   refine⟨_,rfl,rfl,rfl,fun hc=>?_⟩
   obtain⟨v,hv⟩:=xY.mp (show(lookS (mkL (dsL ls) 0) n).isSome=true from hc)
   refine de_dgetO ?_
   walk_at "r"
   refine⟨p,mkL (dsL ls) 0,n,v,rfl,rfl,by rw[yH hpA];exact zU,hv,?_,rfl⟩
   show DS.d v = .d ((lookS (mkL (dsL ls) 0) n).getD .none)
   rw[hv];rfl
 · rw[need_list hg.fresh]
   walk_at "r"
   refine rd_sortI (by rw[zX];exact zQ (zN (yJ _ _) hml) (by decide)) fun ss hp2 hs=>?_
   walk_at "r"
   refine rd_tupl ?_
   refine⟨M,(zT M).put hp,fun w' ls' k' e=>?_⟩
   simp only[List.cons.injEq,DS.d.injEq,PyData.int.injEq,and_true] at e
   obtain⟨e1,e2⟩:=e
   have e1:=bookD_inj e1
   have e2:k=k':=by omega
   subst e1 e2
   rw[needs_eq hg.fresh hld (must_nodup hr) rfl hp2 hs]
   exact⟨rfl,rfl⟩
end
section
variable {P:Program}{w:World}{K:Frg}{mg:Str→Option Value}{base:Heap}
abbrev s_init_NoLine:Stmt:=inCls 0 (_root_.sT 11)
theorem init_NoLine {f C S:Addr}{fd:FuncData}(F:Fun K "__init__" "NoLine.__init__" s_init_NoLine f fd) (c:XCls K C S (.ref f)) (cs:XSet K C "line"):FnOk P w K mg base CX0 1 f fd ["self", "line"] (spInit C "line"):=
 init_ok F ⟨rfl,rfl,rfl,by decide +kernel,rfl,by decide +kernel,by decide +kernel⟩ rfl c cs (by decide) (fun _=>rfl) (fun X hN hS=>pv 0 (by rw[hN];rfl) (by rw[hS];exact Or.inl rfl)) (fun X hN hS=>pv 1 (by rw[hN];rfl) (by rw[hS];exact Or.inl rfl))
abbrev s_chains_by_ends:Stmt:=_root_.sT 22
def nm_chains_by_ends:List Str:=["book", "struck", "thing", "ends", "number", "going"]
def cc_chains_by_ends_0:List Str:=["number"]
def cf_chains_by_ends_0:List (Option Nat):=[none]
theorem cn_chains_by_ends_0:cc_chains_by_ends_0.Nodup:=by decide +kernel
def cc_chains_by_ends_1:List Str:=["need", "ends"]
def cf_chains_by_ends_1:List (Option Nat):=[none,some 3]
theorem cn_chains_by_ends_1:cc_chains_by_ends_1.Nodup:=by decide +kernel
theorem sc_chains_by_ends:FnScope nm_chains_by_ends ["book", "struck"] (defScope s_chains_by_ends):=⟨rfl,rfl,rfl,by decide +kernel,rfl,by decide +kernel,by decide +kernel⟩
theorem ok_chains_by_ends {f:Addr}{fd:FuncData}{c_S c_NoLine:Addr}(F:Fun K "chains_by_ends" "chains_by_ends" s_chains_by_ends f fd) (n_len:mg "len"=none) (n_range:mg "range"=none) (r_NoLine:HasR P w K mg base "NoLine" "line" c_NoLine c_S) (h_is_number:Has P w K mg base "is_number" 3 ["book", "thing"] S_is_number) (h_needs:Has P w K mg base "needs" 4 ["book", "number"] S_needs):FnOk P w K mg base (CXE P w) 5 f fd ["book", "struck"] (spX K 2 (GB c_NoLine fEnds)):=by
 refine fnDX F sc_chains_by_ends fun cdv A outer s H E hr=>?_
 have hu:=hr.units
 have hu1:=zQ (Nat.add_le_add_left (show 1≤64 by decide) _) hu
 refine⟨_,(@pss_cons _ _ _ _ _ (@ps_for _ _ _ _ _ _ _ _ (@passes_fly ((cxOf (CXE P w) P w K mg base nm_chains_by_ends "chains_by_ends" (defScope s_chains_by_ends) f cdv A outer s H E)) ((fun _=>E)) rfl rfl) rfl (@kIter _ (K) _ _ _ rfl (@pv _ 1 _ _ (by rfl) (by walk_at "lc") (by decide) (by decide))) (@pg_name _ _ (2) _ sc_chains_by_ends.nd rfl (by walk_at "lc") (by first   | exact .inl rfl   | exact .inr rfl   | assumption)) (@pss_one _ _ _ (@ps_if _ _ _ _ _ _ _ _ (@pt_not _ _ _ _ (@pt_val _ _ _ (@kCall _ (K) (P) (w) (mg) (base) _ _ _ _ _ _ _ _ _ rfl rfl rfl rfl rfl h_is_number (hr.mono (by decide)) rfl (@pa_cons _ _ _ _ _ (@pv _ 0 _ _ (by rfl) (by walk_at "lc") (by decide) (by decide)) (@pa_cons _ _ _ _ _ (@pv _ 2 _ _ (by rfl) (by walk_at "lc") (by decide) (by decide)) (@pa_nil _) (by rfl)) (by rfl)) (by decide) (by rfl) (by rfl)) (by intro _;rfl))) (@pss_one _ _ _ (@kRaise1 _ _ _ _ _ (cxOf (CXE P w) P w K mg base nm_chains_by_ends "chains_by_ends" (defScope s_chains_by_ends) f cdv A outer s H E) (fun _=>E) _ _ _ _ _ _ _ _ _ rfl rfl rfl rfl rfl r_NoLine (hr.mono (by decide)) rfl (@pa_cons _ _ _ _ _ (@pv _ 2 _ _ (by rfl) (by walk_at "lc") (by decide) (by decide)) (@pa_nil _) (by rfl)) (by decide) (by rfl))) (@pss_nil _))) (by intro _;rfl)) (@pss_cons _ _ _ _ _ (@ps_set _ _ (3) _ _ _ _ sc_chains_by_ends.nd rfl (by walk_at "lc") (@pe_dcomp _ _ _ _ _ _ _ _ _ _ _ _ _ _ _ rfl hu1 (@L2.CSc.of _ _ (cc_chains_by_ends_0) (cf_chains_by_ends_0) (defScope s_chains_by_ends) (nm_chains_by_ends) (by decide +kernel) rfl rfl) (@kIter _ (K) _ _ _ rfl (@pv _ 1 _ _ (by rfl) (by walk_at "lc") (by decide) (by decide))) (fun C s' H' ex' pn'=>⟨@pg_name _ _ (0) _ cn_chains_by_ends_0 rfl (by walk_at "lc") (by first   | exact .inl rfl   | exact .inr rfl   | assumption),@pts_nil _,(@pv _ 0 _ _ (by rfl) (by walk_at "lc") (by decide) (by decide)),(@pe_tup _ _ _ _ _ (@pa_cons _ _ _ _ _ (@pv _ 0 _ _ (by rfl) (by walk_at "lc") (by decide) (by decide)) (@pa_nil _) (by rfl)))⟩) (by intro _;rfl)) (by rfl) (by first   | exact .inl rfl   | exact .inr rfl   | assumption)) (@pss_cons _ _ _ _ _ (@ps_for _ _ _ _ _ _ _ _ (@passes_fly ((cxOf (CXE P w) P w K mg base nm_chains_by_ends "chains_by_ends" (defScope s_chains_by_ends) f cdv A outer s H E)) ((fun _=>E)) rfl rfl) rfl (@pi_range1 _ _ _ _ _ _ rfl n_range (@pa_cons _ _ _ _ _ (@pe_callB _ _ _ _ _ _ _ _ _ (@kLen _ (K) rfl) (by rfl) n_len PySem.boot_len (@pa_cons _ _ _ _ _ (@pe_ix _ _ _ _ _ _ _ (@kIx _ (K) rfl) (@pv _ 0 _ _ (by rfl) (by walk_at "lc") (by decide) (by decide)) (@pe_int _ _ _ _) (fun _ _=>rfl)) (@pa_nil _) (by rfl)) (by decide) (by decide) (by rfl) (by rfl)) (@pa_nil _) (by rfl)) (by rfl)) (@pg_name _ _ (4) _ sc_chains_by_ends.nd rfl (by walk_at "lc") (by first   | exact .inl rfl   | exact .inr rfl   | assumption)) (@pss_cons _ _ _ _ _ (@ps_setc _ _ _ _ _ _ _ _ _ _ _ _ _ (5) _ _ _ rfl sc_chains_by_ends.nd rfl (by walk_at "lc") (@L2.CSc.of _ _ (cc_chains_by_ends_1) (cf_chains_by_ends_1) (defScope s_chains_by_ends) (nm_chains_by_ends) (by decide +kernel) rfl rfl) (@kIter _ (K) _ _ _ rfl (@kCall _ (K) (P) (w) (mg) (base) _ _ _ _ _ _ _ _ _ rfl rfl rfl rfl rfl h_needs (hr.mono (by decide)) rfl (@pa_cons _ _ _ _ _ (@pv _ 0 _ _ (by rfl) (by walk_at "lc") (by decide) (by decide)) (@pa_cons _ _ _ _ _ (@pv _ 4 _ _ (by rfl) (by walk_at "lc") (by decide) (by decide)) (@pa_nil _) (by rfl)) (by rfl)) (by decide) (by rfl) (by rfl))) (fun C s' H' ex' pn'=>⟨@pg_name _ _ (0) _ cn_chains_by_ends_1 rfl (by walk_at "lc") (by first   | exact .inl rfl   | exact .inr rfl   | assumption),(@pts_one _ _ _ (@pt_cmp _ _ _ _ _ _ (@pc_din _ _ _ _ _ hu1 (@pv _ 0 _ _ (by rfl) (by walk_at "lc") (by decide) (by decide)) (@pv _ 1 _ _ (by rfl) (by walk_at "lc") (by decide) (by decide))) (by with_unfolding_all rfl))),(@pv _ 0 _ _ (by rfl) (by walk_at "lc") (by decide) (by decide))⟩) rfl (by first   | exact .inl rfl   | exact .inr rfl   | assumption) (by intro _;rfl)) (@pss_one _ _ _ (@ps_if _ _ _ _ _ _ _ _ (@L2.PW.pt _ _ _ (@pw_and _ _ _ _ _ _ _ (@pt_cmp _ _ _ _ _ _ (@pc_dnotin _ _ _ _ _ hu1 (@pv _ 4 _ _ (by rfl) (by walk_at "lc") (by decide) (by decide)) (@pv _ 3 _ _ (by rfl) (by walk_at "lc") (by decide) (by decide))) (by with_unfolding_all rfl)) (@pw_and1 _ _ _ _ (@pt_cmpR _ _ _ _ _ _ _ _ (@op_gt _) (@pe_callB _ _ _ _ _ _ _ _ _ (@kLen _ (K) rfl) (by rfl) n_len PySem.boot_len (@pa_cons _ _ _ _ _ (@pv _ 5 _ _ (by rfl) (by walk_at "lc") (by decide) (by decide)) (@pa_nil _) (by rfl)) (by decide) (by decide) (by rfl) (by rfl)) (@pe_int _ _ _ _) (@nomark _ _ (by decide) (by decide)))))) (@pss_one _ _ _ (@ps_dput _ _ _ _ _ _ _ _ _ hu1 (@pv _ 3 _ _ (by rfl) (by walk_at "lc") (by decide) (by decide)) (@pv _ 4 _ _ (by rfl) (by walk_at "lc") (by decide) (by decide)) (@pe_op _ _ _ _ _ _ _ _ (@kAddB _ (K) rfl) (@pe_dget _ _ _ _ _ _ hu1 (@pv _ 3 _ _ (by rfl) (by walk_at "lc") (by decide) (by decide)) (@pe_ix _ _ _ _ _ _ _ (@kIx _ (K) rfl) (@pv _ 5 _ _ (by rfl) (by walk_at "lc") (by decide) (by decide)) (@pe_int _ _ _ _) (fun _ _=>rfl)) (fun _ _=>rfl)) (@pe_tup _ _ _ _ _ (@pa_cons _ _ _ _ _ (@pv _ 4 _ _ (by rfl) (by walk_at "lc") (by decide) (by decide)) (@pa_nil _) (by rfl)))) (by rfl))) (@pss_nil _)))) (by intro _;rfl)) (@pss_one _ _ _ (@ps_ret _ _ _ _ (@pv _ 3 _ _ (by rfl) (by walk_at "lc") (by decide) (by decide))))))),?_⟩
 rintro xs M hl ⟨w,ls,ds,rfl,hg,hd⟩
 refine dx_cut (fun ρ1 M1=>M1=M∧(∀d∈ds,numB ls.length d=true)∧∃x:Option DS,ρ1=[some (.d (bookD w ls)),some (.d (.tuple ds)),x,none,none,none]) ?_ ?_
 · refine dx_for ?_
   refine diA_tup ?_
   walk_at "r"
   refine⟨fun k ρ1 M1=>M1=M∧(∀d∈ds.take k,numB ls.length d=true)∧∃x:Option DS,ρ1=[some (.d (bookD w ls)),some (.d (.tuple ds)),x,none,none,none],⟨rfl,by simp,_,rfl⟩,?_,?_⟩
   · rintro k d ρ1 M1 hk ⟨rfl,ht,x,rfl⟩
     walk_at "r"
     refine num32_call ?_
     cases hn:numB ls.length d with
     | true=>
       walk_at "r"
       refine⟨rfl,fun d' hd'=>?_,_,rfl⟩
       rw[List.take_add_one,hk] at hd'
       rcases yW.mp hd' with q | q
       · exact ht d' q
       · rw[show d'=d by simpa using q];exact hn
     | false=>
       have he:findNo ls.length ds=some d:=by
         have hkl:=(yT.mp hk).1
         have e1:ds=ds.take k++d::ds.drop (k+1):=by
           have:=List.take_append_drop k ds
           rw[List.drop_eq_getElem_cons hkl,(yT.mp hk).2] at this
           exact this.symm
         unfold findNo
         rw[e1,List.find?_append,List.find?_eq_none.mpr (fun x hx=>by rw[ht x hx];simp),Option.none_or,List.find?_cons,hn]
         rfl
       walk_at "r"
       exact⟨_,zT _,fun w' ls' ds' e'=>by obtain⟨e1,e2⟩:=bs_inj e';subst e1 e2;exact⟨d,he,rfl,rfl,rfl⟩⟩
   · rintro ρ1 M1 ⟨rfl,ht,x,rfl⟩
     rw[List.take_length] at ht
     exact⟨rfl,ht,x,rfl⟩
 · rintro ρ1 M1 ⟨rfl,hall,x0,rfl⟩
   obtain⟨ns,rfl,hn⟩:=all_num hall
   have hn2:∀m∈ns,m < (dsL ls).length:=fun m hm=>by rw[zX];exact hn m hm
   have hlD:(dsL ls).length=ls.length:=zX _
   have hfew:=hg.few
   rw[nums_len] at hd
   walk_at "r"
   refine de_dcompI (go_name 0) (by simp[cf_chains_by_ends_0]) ?_
   refine diA_tup ?_
   walk_at "r"
   refine⟨by rw[nums_len];exact zQ hd (by decide),fun _=>true,fInt,fun d=>.tuple [d],trivial,?_,fun p hp=>?_⟩
   · intro d hd' M'
     obtain⟨i,hi,rfl⟩:=zL.mp hd'
     walk_at "dl"
     refine⟨rfl,?_⟩
     walk_at "dl"
     refine⟨rfl,rfl,fun _=>?_⟩
     walk_at "r"
     refine⟨rfl,rfl,?_⟩
     walk_at "r"
     exact⟨rfl,rfl⟩
   rw[flt0,show(numsD ns).foldl (fun ts d=>putI ts (fInt d) (.tuple [d])) []=cvE (endE (dsL ls) ns 0) from fold_cv ns []]
   walk_at "r"
   · refine dx_for ?_
     refine di_rng1 ?_
     walk_at "r"
     refine d2A_ixt (ds:=[wD w,linesD ls]) (d:=linesD ls) rfl ?_
     walk_at "r"
     refine rd_lent ?_
     rw[zX]
     walk_at "r"
     refine⟨by omega,by omega,?_⟩
     have hnn:(intsD 0 (ls.length:Int).toNat).length=ls.length:=by simp[intsD]
     refine⟨fun k ρ1 M2=>k≤ls.length∧M2=M1.put p (.d (idict (cvE (endE (dsL ls) ns k))))∧∃(x1 x2 x3:Option DS),ρ1=[some (.d (bookD w ls)),some (.d (.tuple (numsD ns))),x1,some (.loc p),x2,x3],⟨xT _,rfl,_,_,_,rfl⟩,?_,?_⟩
     · rintro k d ρ1 M2 hd' ⟨hk0,rfl,x1,x2,x3,rfl⟩
       have hk:k < ls.length:=by rw[← hnn];exact(yT.mp hd').1
       have ed:d = .int k:=by
         unfold intsD at hd'
         rw[zF,yA (by omega)] at hd'
         simp at hd';exact hd'.symm
       subst ed
       have hlen:=end_keys hn2 k (by omega)
       have hneed:(needN (dsL ls) k).length≤k:=by
         unfold needN
         exact zN (yJ _ _) (by rw[xZ];exact zR _)
       walk_at "r"
       refine de_comp_read (go_name 0) (by simp[cf_chains_by_ends_1]) ?_
       refine diA_tup ?_
       walk_at "r"
       refine needs_call hg hk ?_
       refine⟨_,rfl,by rw[nums_len];exact zQ (show _≤50 by omega) (by decide),cGo (endE (dsL ls) ns k),id,?_,?_⟩
       · rintro d hd2 A acc M' hA rfl
         obtain⟨i,hi,rfl⟩:=zL.mp hd2
         have hpA:p≠A:=by rintro rfl;rw[zU] at hA;cases hA
         walk_at "dl"
         refine⟨rfl,?_⟩
         walk_at "r"
         refine de_dinOI ?_
         walk_at "r"
         refine⟨p,cvE (endE (dsL ls) ns k),i,rfl,rfl,by rw[yH hpA];exact zU,?_⟩
         refine⟨_,rfl,rfl,rfl,fun _=>?_⟩
         walk_at "r"
         exact⟨rfl,rfl⟩
       rw[going_eq]
       walk_at "r"
       refine de_dninOI ?_
       walk_at "r"
       refine⟨p,cvE (endE (dsL ls) ns k),(k:Int),rfl,rfl,zU,?_⟩
       rw[cv_look]
       have keep:∀{x1 x2 x3:Option DS},stepE (dsL ls) (endE (dsL ls) ns k) k=endE (dsL ls) ns k→(k+1≤ls.length∧M1.put p (.d (idict (cvE (endE (dsL ls) ns k))))=M1.put p (.d (idict (cvE (endE (dsL ls) ns (k+1)))))∧∃(y1 y2 y3:Option DS),[some (DS.d (bookD w ls)),some (.d (.tuple (numsD ns))),x1,some (.loc p),x2,x3]=[some (.d (bookD w ls)),some (.d (.tuple (numsD ns))),y1,some (.loc p),y2,y3]):=fun h=>⟨by omega,by rw[end_succ,h],_,_,_,rfl⟩
       cases hk2:lookE (endE (dsL ls) ns k) k with
       | some c0=>
         walk_at "r"
         refine keep ?_
         unfold stepE
         cases goingE (dsL ls) (endE (dsL ls) ns k) k with
         | nil=>rfl
         | cons g r=>dsimp only;rw[hk2];rfl
       | none=>
         walk_at "r"
         refine rd_lenl ?_
         cases hgo:goingE (dsL ls) (endE (dsL ls) ns k) k with
         | nil=>
           walk_at "r"
           refine keep ?_
           unfold stepE;rw[hgo]
         | cons g r=>
           have hgm:g∈goingE (dsL ls) (endE (dsL ls) ns k) k:=by rw[hgo];simp
           obtain⟨c,hc⟩:=xY.mp (yL.mp hgm).2
           have hch:=((end_good hn2 k (by omega)).1).ch _ (look_mem hc)
           walk_at "r"
           rw[if_pos (decide_eq_true (by rw[nums_len,yR];omega))]
           refine dx_lift (ds_dputI ?_)
           walk_at "r"
           refine de_dgetOI ?_
           walk_at "r"
           refine d2A_ixl (ds:=numsD (g::r)) (d:=.int (g:Int)) (atI_nat (j:=0) rfl) ?_
           refine⟨p,cvE (endE (dsL ls) ns k),(g:Int),chD c,rfl,rfl,zU,by rw[cv_look,hc];rfl,?_⟩
           walk_at "r"
           refine d2B_addt (as:=numsD c) (bs:=[.int (k:Int)]) (by rw[nums_len];exact zN (show c.length+1≤51 by have hcl:c.length≤_:=chain_len hch;omega) (by decide)) ?_
           walk_at "r"
           refine⟨p,cvE (endE (dsL ls) ns k),(k:Int),chD (c++[k]),?_,rfl,rfl,zU,by unfold cvE;rw[zX];exact zQ (show _≤50 by omega) (by decide),?_⟩
           · unfold chD intL
             rw[xI,xI]
             rfl
           rw[yI,cv_put]
           refine⟨by omega,?_,_,_,_,rfl⟩
           rw[end_succ]
           unfold stepE
           rw[hgo]
           dsimp only
           rw[hk2,hc]
           rfl
     · rintro ρ1 M2 ⟨hk0,rfl,x1,x2,x3,rfl⟩
       walk_at "r"
       refine⟨_,zT _,fun w' ls' ds' e'=>?_⟩
       obtain⟨e1,e2⟩:=bs_inj e'
       subst e1 e2
       rw[hnn]
       refine⟨ns,rfl,hn,p,hp,rfl,?_⟩
       unfold endB
       rw[hlD]
end
section
variable {P:Program}{w:World}{K:Frg}{mg:Str→Option Value}{base:Heap}
abbrev s_goes:Stmt:=_root_.sT 19
def nm_goes:List Str:=["book", "struck"]
theorem sc_goes:FnScope nm_goes ["book", "struck"] (defScope s_goes):=⟨rfl,rfl,rfl,by decide +kernel,rfl,by decide +kernel,by decide +kernel⟩
theorem ok_goes {f:Addr}{fd:FuncData}{c_NoLine:Addr}(F:Fun K "goes" "goes" s_goes f fd) (n_sorted:mg "sorted"=none) (n_tuple:mg "tuple"=none) (h_chains_by_ends:HasX P w K mg base "chains_by_ends" 5 ["book", "struck"] (GB c_NoLine fEnds)):FnOk P w K mg base (CXE P w) 6 f fd ["book", "struck"] (spX K 2 (GB c_NoLine fGoes)):=by
 refine fnDX F sc_goes fun cdv A outer s H E hr=>?_
 have hu:=hr.units
 refine⟨_,(@pss_one _ _ _ (@ps_ret _ _ _ _ (@pe_callTy _ _ _ _ _ _ _ _ _ (@kTuple _ (K) rfl) (by rfl) n_tuple PyProof.Rows.boot_tuple (@pa_cons _ _ _ _ _ (@pe_callB _ _ _ _ _ _ _ _ _ (@kSortB _ (K) rfl rfl) (by rfl) n_sorted PyProof.Rows.boot_sorted (@pa_cons _ _ _ _ _ (@kCallX _ _ _ _ _ (cxOf (CXE P w) P w K mg base nm_goes "goes" (defScope s_goes) f cdv A outer s H E) (fun _=>E) _ _ _ _ _ _ _ _ _ rfl rfl rfl rfl rfl h_chains_by_ends (hr.mono (by decide)) rfl (@pa_cons _ _ _ _ _ (@pv _ 0 _ _ (by rfl) (by walk_at "lc") (by decide) (by decide)) (@pa_cons _ _ _ _ _ (@pv _ 1 _ _ (by rfl) (by walk_at "lc") (by decide) (by decide)) (@pa_nil _) (by rfl)) (by rfl)) (by decide) (by rfl) (by rfl)) (@pa_nil _) (by rfl)) (by decide) (by decide) (by rfl) (by rfl)) (@pa_nil _) (by rfl)) (by decide) (by decide) (by rfl) (by rfl)))),?_⟩
 rintro xs M hl ⟨w,ls,ds,rfl,hg,hd⟩
 refine dx_ret ?_
 refine dex_cb (dax_cons (dex_cb (dax_cons (dex_call ?_))))
 walk_at "r"
 refine GB_call hg hd (fun ns y M' e hn hf=>?_) (fun d he=>?_)
 · obtain⟨p,hp,rfl,rfl⟩:=hf
   have hn2:∀m∈ns,m < (dsL ls).length:=fun m hm=>by rw[zX];exact hn m hm
   have hl2:=end_keys hn2 _ (zR _)
   have hfew:=hg.few
   rw[zX] at hl2
   refine dax_lift (da_nil ?_)
   refine rd_sortDI zU (by unfold cvE endB;rw[zX,zX];omega) fun ss hpm hs=>?_
   refine dax_lift (da_nil ?_)
   refine rd_tupl ?_
   refine⟨M,(zT M).put hp,fun w' ls' ds' e'=>?_⟩
   obtain⟨e1,e2⟩:=bs_inj e'
   subst e1 e2
   refine⟨ns,e,hn,?_,rfl⟩
   rw[ends_sorted hn2 hpm hs]
   rfl
 · exact⟨M,zT M,fun w' ls' ds' e'=>by obtain⟨e1,e2⟩:=bs_inj e';subst e1 e2;exact⟨d,he,rfl,rfl,rfl⟩⟩
end
section
variable {P:Program}{w:World}{K:Frg}{mg:Str→Option Value}{base:Heap}
abbrev s_chains:Stmt:=_root_.sT 20
def nm_chains:List Str:=["book", "struck", "ends"]
def cc_chains_0:List Str:=["number", "ends", "struck"]
def cf_chains_0:List (Option Nat):=[none,some 2,some 1]
theorem cn_chains_0:cc_chains_0.Nodup:=by decide +kernel
theorem sc_chains:FnScope nm_chains ["book", "struck"] (defScope s_chains):=⟨rfl,rfl,rfl,by decide +kernel,rfl,by decide +kernel,by decide +kernel⟩
theorem ok_chains {f:Addr}{fd:FuncData}{c_NoLine:Addr}(F:Fun K "chains" "chains" s_chains f fd) (n_sorted:mg "sorted"=none) (n_tuple:mg "tuple"=none) (h_chains_by_ends:HasX P w K mg base "chains_by_ends" 5 ["book", "struck"] (GB c_NoLine fEnds)):FnOk P w K mg base (CXE P w) 6 f fd ["book", "struck"] (spX K 2 (GB c_NoLine fChains)):=by
 refine fnDX F sc_chains fun cdv A outer s H E hr=>?_
 have hu:=hr.units
 have hu1:=zQ (Nat.add_le_add_left (show 1≤64 by decide) _) hu
 refine⟨_,(@pss_cons _ _ _ _ _ (@ps_set _ _ (2) _ _ _ _ sc_chains.nd rfl (by walk_at "lc") (@kCallX _ _ _ _ _ (cxOf (CXE P w) P w K mg base nm_chains "chains" (defScope s_chains) f cdv A outer s H E) (fun _=>E) _ _ _ _ _ _ _ _ _ rfl rfl rfl rfl rfl h_chains_by_ends (hr.mono (by decide)) rfl (@pa_cons _ _ _ _ _ (@pv _ 0 _ _ (by rfl) (by walk_at "lc") (by decide) (by decide)) (@pa_cons _ _ _ _ _ (@pv _ 1 _ _ (by rfl) (by walk_at "lc") (by decide) (by decide)) (@pa_nil _) (by rfl)) (by rfl)) (by decide) (by rfl) (by rfl)) (by rfl) (by first   | exact .inl rfl   | exact .inr rfl   | assumption)) (@pss_one _ _ _ (@ps_ret _ _ _ _ (@pe_callTy _ _ _ _ _ _ _ _ _ (@kTuple _ (K) rfl) (by rfl) n_tuple PyProof.Rows.boot_tuple (@pa_cons _ _ _ _ _ (@pe_comp _ _ _ _ _ _ _ _ _ _ _ _ _ rfl (@L2.CSc.of _ _ (cc_chains_0) (cf_chains_0) (defScope s_chains) (nm_chains) (by decide +kernel) rfl rfl) (@kIter _ (K) _ _ _ rfl (@pe_callB _ _ _ _ _ _ _ _ _ (@kSortB _ (K) rfl rfl) (by rfl) n_sorted PyProof.Rows.boot_sorted (@pa_cons _ _ _ _ _ (@pv _ 2 _ _ (by rfl) (by walk_at "lc") (by decide) (by decide)) (@pa_nil _) (by rfl)) (by decide) (by decide) (by rfl) (by rfl))) (fun C s' H' ex' pn'=>⟨@pg_name _ _ (0) _ cn_chains_0 rfl (by walk_at "lc") (by first   | exact .inl rfl   | exact .inr rfl   | assumption),(@pts_one _ _ _ (@pt_cmpR _ _ _ _ _ _ _ _ (@kNotInD _ (K) rfl hu) (@pv _ 0 _ _ (by rfl) (by walk_at "lc") (by decide) (by decide)) (@pv _ 2 _ _ (by rfl) (by walk_at "lc") (by decide) (by decide)) (by with_unfolding_all rfl))),(@pe_dget _ _ _ _ _ _ hu1 (@pv _ 1 _ _ (by rfl) (by walk_at "lc") (by decide) (by decide)) (@pv _ 0 _ _ (by rfl) (by walk_at "lc") (by decide) (by decide)) (fun _ _=>rfl))⟩) (by intro _;rfl)) (@pa_nil _) (by rfl)) (by decide) (by decide) (by rfl) (by rfl))))),?_⟩
 rintro xs M hl ⟨w,ls,ds,rfl,hg,hd⟩
 walk_at "r"
 refine GB_call hg hd (fun ns y M' e hn hf=>?_) (fun d he=>?_)
 · obtain⟨p,hp,rfl,rfl⟩:=hf
   subst e
   have hn2:∀m∈ns,m < (dsL ls).length:=fun m hm=>by rw[zX];exact hn m hm
   have hl2:=end_keys hn2 _ (zR _)
   have hfew:=hg.few
   rw[zX] at hl2
   have hfl:(foundB ls ns).length < sizeLine:=zQ (zN (found_len _ _ _) (by rw[zX];exact hfew)) (by decide)
   walk_at "r"
   refine de_comp_read (go_name 0) (by simp[cf_chains_0]) ?_
   refine diA_list ?_
   walk_at "r"
   refine rd_sortDI zU (by unfold cvE endB;rw[zX,zX];omega) fun ss hpm hs=>?_
   rw[show ss=intL (foundB ls ns) from ends_sorted hn2 hpm hs]
   refine⟨_,rfl,by rw[nums_len];exact hfl,cCh ns,fCh (endB ls ns),?_,?_⟩
   · rintro d hd' A acc M' hA rfl
     obtain⟨i,hi,rfl⟩:=zL.mp hd'
     obtain⟨m,hm,rfl⟩:=mem_intL.mp hi
     have hpA:p≠A:=by rintro rfl;rw[zU] at hA;cases hA
     walk_at "dl"
     refine⟨rfl,?_⟩
     walk_at "r"
     refine d2_inDT rfl (shaped_numsT ns) ?_
     refine⟨_,rfl,rfl,rfl,fun _=>?_⟩
     obtain⟨c,hc,_⟩:=end_look hn2 hm
     refine de_dgetOI ?_
     walk_at "r"
     refine⟨p,cvE (endB ls ns),(m:Int),chD c,rfl,rfl,by rw[yH hpA];exact zU,by rw[cv_look,show lookE (endB ls ns) m=some c from hc];rfl,?_,rfl⟩
     show DS.d (chD c) = .d ((lookI (cvE (endB ls ns)) (m:Int)).getD .none)
     rw[cv_look,show lookE (endB ls ns) m=some c from hc];rfl
   · rw[chains_eq hn2]
     walk_at "r"
     refine rd_tupl ?_
     refine⟨M,(zT M).put hp,fun w' ls' ds' e'=>?_⟩
     obtain⟨e1,e2⟩:=bs_inj e'
     subst e1 e2
     exact⟨ns,rfl,hn,rfl,rfl⟩
 · exact⟨M,zT M,fun w' ls' ds' e'=>by obtain⟨e1,e2⟩:=bs_inj e';subst e1 e2;exact⟨d,he,rfl,rfl,rfl⟩⟩
end
section
variable {P:Program}{w:World}{K:Frg}{mg:Str→Option Value}{base:Heap}
abbrev s_left:Stmt:=_root_.sT 21
def nm_left:List Str:=["book", "struck", "going"]
def cc_left_0:List Str:=["number", "going"]
def cf_left_0:List (Option Nat):=[none,some 2]
theorem cn_left_0:cc_left_0.Nodup:=by decide +kernel
theorem sc_left:FnScope nm_left ["book", "struck"] (defScope s_left):=⟨rfl,rfl,rfl,by decide +kernel,rfl,by decide +kernel,by decide +kernel⟩
theorem ok_left {f:Addr}{fd:FuncData}{c_NoLine:Addr}(F:Fun K "left" "left" s_left f fd) (n_len:mg "len"=none) (n_range:mg "range"=none) (h_goes:HasX P w K mg base "goes" 6 ["book", "struck"] (GB c_NoLine fGoes)) (h_book_of:Has P w K mg base "book_of" 1 ["book", "numbers"] S_book_of):FnOk P w K mg base (CXE P w) 7 f fd ["book", "struck"] (spX K 2 (GL c_NoLine)):=by
 refine fnDX F sc_left fun cdv A outer s H E hr=>?_
 have hu:=hr.units
 refine⟨_,(@pss_cons _ _ _ _ _ (@ps_set _ _ (2) _ _ _ _ sc_left.nd rfl (by walk_at "lc") (@kCallX _ _ _ _ _ (cxOf (CXE P w) P w K mg base nm_left "left" (defScope s_left) f cdv A outer s H E) (fun _=>E) _ _ _ _ _ _ _ _ _ rfl rfl rfl rfl rfl h_goes (hr.mono (by decide)) rfl (@pa_cons _ _ _ _ _ (@pv _ 0 _ _ (by rfl) (by walk_at "lc") (by decide) (by decide)) (@pa_cons _ _ _ _ _ (@pv _ 1 _ _ (by rfl) (by walk_at "lc") (by decide) (by decide)) (@pa_nil _) (by rfl)) (by rfl)) (by decide) (by rfl) (by rfl)) (by rfl) (by first   | exact .inl rfl   | exact .inr rfl   | assumption)) (@pss_one _ _ _ (@ps_ret _ _ _ _ (@kCall _ (K) (P) (w) (mg) (base) _ _ _ _ _ _ _ _ _ rfl rfl rfl rfl rfl h_book_of (hr.mono (by decide)) rfl (@pa_cons _ _ _ _ _ (@pv _ 0 _ _ (by rfl) (by walk_at "lc") (by decide) (by decide)) (@pa_cons _ _ _ _ _ (@pe_comp _ _ _ _ _ _ _ _ _ _ _ _ _ rfl (@L2.CSc.of _ _ (cc_left_0) (cf_left_0) (defScope s_left) (nm_left) (by decide +kernel) rfl rfl) (@pi_range1 _ _ _ _ _ _ rfl n_range (@pa_cons _ _ _ _ _ (@pe_callB _ _ _ _ _ _ _ _ _ (@kLen _ (K) rfl) (by rfl) n_len PySem.boot_len (@pa_cons _ _ _ _ _ (@pe_ix _ _ _ _ _ _ _ (@kIx _ (K) rfl) (@pv _ 0 _ _ (by rfl) (by walk_at "lc") (by decide) (by decide)) (@pe_int _ _ _ _) (fun _ _=>rfl)) (@pa_nil _) (by rfl)) (by decide) (by decide) (by rfl) (by rfl)) (@pa_nil _) (by rfl)) (by rfl)) (fun C s' H' ex' pn'=>⟨@pg_name _ _ (0) _ cn_left_0 rfl (by walk_at "lc") (by first   | exact .inl rfl   | exact .inr rfl   | assumption),(@pts_one _ _ _ (@pt_cmpR _ _ _ _ _ _ _ _ (@kNotInD _ (K) rfl hu) (@pv _ 0 _ _ (by rfl) (by walk_at "lc") (by decide) (by decide)) (@pv _ 1 _ _ (by rfl) (by walk_at "lc") (by decide) (by decide)) (by with_unfolding_all rfl))),(@pv _ 0 _ _ (by rfl) (by walk_at "lc") (by decide) (by decide))⟩) (by intro _;rfl)) (@pa_nil _) (by rfl)) (by rfl)) (by decide) (by rfl) (by rfl))))),?_⟩
 rintro xs M hl ⟨w,ls,ds,d0,rfl,hg,hd,h0⟩
 walk_at "r"
 refine GB_call hg hd (fun ns y M' e hn hf=>?_) (fun d he=>?_)
 · subst e
   rw[findNo_nums hn] at h0;cases h0
 · exact⟨M,zT M,fun w' ls' ds' e'=>by obtain⟨e1,e2⟩:=bs_inj e';subst e1 e2;exact⟨d,he,rfl,rfl,rfl⟩⟩
end
section
variable {P:Program}{w:World}{K:Frg}{mg:Str→Option Value}{base:Heap}
abbrev s__law_names:Stmt:=_root_.sT 26
def nm__law_names:List Str:=["_law_pack", "_law_amount", "_law_letters", "_law_turn", "_law_pick", "_law_size"]
def cc__law_names_0:List Str:=["_law_k", "_law_letters"]
def cf__law_names_0:List (Option Nat):=[none,some 2]
theorem cn__law_names_0:cc__law_names_0.Nodup:=by decide +kernel
def cc__law_names_1:List Str:=["_law_k", "_law_letters", "_law_size"]
def cf__law_names_1:List (Option Nat):=[none,some 2,some 5]
theorem cn__law_names_1:cc__law_names_1.Nodup:=by decide +kernel
def cc__law_names_2:List Str:=["_law_k", "_law_letters", "_law_size"]
def cf__law_names_2:List (Option Nat):=[none,some 2,some 5]
theorem cn__law_names_2:cc__law_names_2.Nodup:=by decide +kernel
theorem sc__law_names:FnScope nm__law_names ["_law_pack", "_law_amount"] (defScope s__law_names):=⟨rfl,rfl,rfl,by decide +kernel,rfl,by decide +kernel,by decide +kernel⟩
theorem ok__law_names {f:Addr}{fd:FuncData}(F:Fun K "_law_names" "_law_names" s__law_names f fd) (n_range:mg "range"=none) (h__law_take:Has P w K mg base "_law_take" 1 ["_law_pack", "_law_size"] S__law_take):FnOk P w K mg base CX0 2 f fd ["_law_pack", "_law_amount"] (spD K 2 S__law_names):=by
 refine fnD F sc__law_names fun cdv A outer s H E hr=>?_
 have hu:=hr.units
 refine⟨_,(@pss_cons _ _ _ _ _ (@ps_set _ _ (2) _ _ _ _ sc__law_names.nd rfl (by walk_at "lc") (@pe_str _ _ _ _) (by rfl) (by first   | exact .inl rfl   | exact .inr rfl   | assumption)) (@pss_cons _ _ _ _ _ (@ps_set _ _ (3) _ _ _ _ sc__law_names.nd rfl (by walk_at "lc") (@kCall _ (K) (P) (w) (mg) (base) _ _ _ _ _ _ _ _ _ rfl rfl rfl rfl rfl h__law_take (hr.mono (by decide)) rfl (@pa_cons _ _ _ _ _ (@pv _ 0 _ _ (by rfl) (by walk_at "lc") (by decide) (by decide)) (@pa_cons _ _ _ _ _ (@pe_int _ _ _ _) (@pa_nil _) (by rfl)) (by rfl)) (by decide) (by rfl) (by rfl)) (by rfl) (by first   | exact .inl rfl   | exact .inr rfl   | assumption)) (@pss_cons _ _ _ _ _ (@ps_set _ _ (2) _ _ _ _ sc__law_names.nd rfl (by walk_at "lc") (@pe_op _ _ _ _ _ _ _ _ (@kAddB _ (K) rfl) (@pe_slice _ _ _ _ _ _ _ _ _ _ (@kSlB _ (K) rfl) (@pv _ 2 _ _ (by rfl) (by walk_at "lc") (by decide) (by decide)) (@po_some _ _ _ (@pv _ 3 _ _ (by rfl) (by walk_at "lc") (by decide) (by decide))) (@po_none _)) (@pe_slice _ _ _ _ _ _ _ _ _ _ (@kSlB _ (K) rfl) (@pv _ 2 _ _ (by rfl) (by walk_at "lc") (by decide) (by decide)) (@po_none _) (@po_some _ _ _ (@pv _ 3 _ _ (by rfl) (by walk_at "lc") (by decide) (by decide))))) (by rfl) (by first   | exact .inl rfl   | exact .inr rfl   | assumption)) (@pss_cons _ _ _ _ _ (@ps_set _ _ (4) _ _ _ _ sc__law_names.nd rfl (by walk_at "lc") (@kCall _ (K) (P) (w) (mg) (base) _ _ _ _ _ _ _ _ _ rfl rfl rfl rfl rfl h__law_take (hr.mono (by decide)) rfl (@pa_cons _ _ _ _ _ (@pv _ 0 _ _ (by rfl) (by walk_at "lc") (by decide) (by decide)) (@pa_cons _ _ _ _ _ (@pe_int _ _ _ _) (@pa_nil _) (by rfl)) (by rfl)) (by decide) (by rfl) (by rfl)) (by rfl) (by first   | exact .inl rfl   | exact .inr rfl   | assumption)) (@pss_cons _ _ _ _ _ (@ps_set _ _ (5) _ _ _ _ sc__law_names.nd rfl (by walk_at "lc") (@kCall _ (K) (P) (w) (mg) (base) _ _ _ _ _ _ _ _ _ rfl rfl rfl rfl rfl h__law_take (hr.mono (by decide)) rfl (@pa_cons _ _ _ _ _ (@pv _ 0 _ _ (by rfl) (by walk_at "lc") (by decide) (by decide)) (@pa_cons _ _ _ _ _ (@pe_int _ _ _ _) (@pa_nil _) (by rfl)) (by rfl)) (by decide) (by rfl) (by rfl)) (by rfl) (by first   | exact .inl rfl   | exact .inr rfl   | assumption)) (@pss_cons _ _ _ _ _ (@ps_if _ _ _ _ _ _ _ _ (@pt_cmpR _ _ _ _ _ _ _ _ (@kEq _ (K) rfl hu) (@pv _ 4 _ _ (by rfl) (by walk_at "lc") (by decide) (by decide)) (@pe_int _ _ _ _) (@nomark _ _ (by decide) (by decide))) (@pss_one _ _ _ (@ps_ret _ _ _ _ (@pe_comp _ _ _ _ _ _ _ _ _ _ _ _ _ rfl (@L2.CSc.of _ _ (cc__law_names_0) (cf__law_names_0) (defScope s__law_names) (nm__law_names) (by decide +kernel) rfl rfl) (@pi_range1 _ _ _ _ _ _ rfl n_range (@pa_cons _ _ _ _ _ (@pv _ 1 _ _ (by rfl) (by walk_at "lc") (by decide) (by decide)) (@pa_nil _) (by rfl)) (by rfl)) (fun C s' H' ex' pn'=>⟨@pg_name _ _ (0) _ cn__law_names_0 rfl (by walk_at "lc") (by first   | exact .inl rfl   | exact .inr rfl   | assumption),@pts_nil _,(@pe_op _ _ _ _ _ _ _ _ (@kMul _ (K) rfl) (@pe_ix _ _ _ _ _ _ _ (@kIx _ (K) rfl) (@pv _ 1 _ _ (by rfl) (by walk_at "lc") (by decide) (by decide)) (@pe_op _ _ _ _ _ _ _ _ (@op_fdivL _) (@pv _ 0 _ _ (by rfl) (by walk_at "lc") (by decide) (by decide)) (@pe_int _ _ _ _)) (fun _ _=>rfl)) (@pe_op _ _ _ _ _ _ _ _ (@kAddB _ (K) rfl) (@pe_int _ _ _ _) (@pe_op _ _ _ _ _ _ _ _ (@op_mod _) (@pv _ 0 _ _ (by rfl) (by walk_at "lc") (by decide) (by decide)) (@pe_int _ _ _ _))))⟩) (by intro _;rfl)))) (@pss_nil _)) (@pss_cons _ _ _ _ _ (@ps_if _ _ _ _ _ _ _ _ (@pt_cmpR _ _ _ _ _ _ _ _ (@kEq _ (K) rfl hu) (@pv _ 4 _ _ (by rfl) (by walk_at "lc") (by decide) (by decide)) (@pe_int _ _ _ _) (@nomark _ _ (by decide) (by decide))) (@pss_one _ _ _ (@ps_ret _ _ _ _ (@pe_comp _ _ _ _ _ _ _ _ _ _ _ _ _ rfl (@L2.CSc.of _ _ (cc__law_names_1) (cf__law_names_1) (defScope s__law_names) (nm__law_names) (by decide +kernel) rfl rfl) (@pi_range1 _ _ _ _ _ _ rfl n_range (@pa_cons _ _ _ _ _ (@pv _ 1 _ _ (by rfl) (by walk_at "lc") (by decide) (by decide)) (@pa_nil _) (by rfl)) (by rfl)) (fun C s' H' ex' pn'=>⟨@pg_name _ _ (0) _ cn__law_names_1 rfl (by walk_at "lc") (by first   | exact .inl rfl   | exact .inr rfl   | assumption),@pts_nil _,(@pe_op _ _ _ _ _ _ _ _ (@kAddB _ (K) rfl) (@pe_ix _ _ _ _ _ _ _ (@kIx _ (K) rfl) (@pv _ 1 _ _ (by rfl) (by walk_at "lc") (by decide) (by decide)) (@pv _ 0 _ _ (by rfl) (by walk_at "lc") (by decide) (by decide)) (fun _ _=>rfl)) (@pe_slice _ _ _ _ _ _ _ _ _ _ (@kSlB _ (K) rfl) (@pv _ 1 _ _ (by rfl) (by walk_at "lc") (by decide) (by decide)) (@po_some _ _ _ (@pe_int _ _ _ _)) (@po_some _ _ _ (@pe_op _ _ _ _ _ _ _ _ (@kAddB _ (K) rfl) (@pe_int _ _ _ _) (@pv _ 2 _ _ (by rfl) (by walk_at "lc") (by decide) (by decide))))))⟩) (by intro _;rfl)))) (@pss_nil _)) (@pss_one _ _ _ (@ps_ret _ _ _ _ (@pe_comp _ _ _ _ _ _ _ _ _ _ _ _ _ rfl (@L2.CSc.of _ _ (cc__law_names_2) (cf__law_names_2) (defScope s__law_names) (nm__law_names) (by decide +kernel) rfl rfl) (@pi_range1 _ _ _ _ _ _ rfl n_range (@pa_cons _ _ _ _ _ (@pv _ 1 _ _ (by rfl) (by walk_at "lc") (by decide) (by decide)) (@pa_nil _) (by rfl)) (by rfl)) (fun C s' H' ex' pn'=>⟨@pg_name _ _ (0) _ cn__law_names_2 rfl (by walk_at "lc") (by first   | exact .inl rfl   | exact .inr rfl   | assumption),@pts_nil _,(@pe_op _ _ _ _ _ _ _ _ (@kAddB _ (K) rfl) (@pe_slice _ _ _ _ _ _ _ _ _ _ (@kSlB _ (K) rfl) (@pv _ 1 _ _ (by rfl) (by walk_at "lc") (by decide) (by decide)) (@po_some _ _ _ (@pe_int _ _ _ _)) (@po_some _ _ _ (@pe_op _ _ _ _ _ _ _ _ (@kAddB _ (K) rfl) (@pe_int _ _ _ _) (@pv _ 2 _ _ (by rfl) (by walk_at "lc") (by decide) (by decide))))) (@pe_ix _ _ _ _ _ _ _ (@kIx _ (K) rfl) (@pv _ 1 _ _ (by rfl) (by walk_at "lc") (by decide) (by decide)) (@pv _ 0 _ _ (by rfl) (by walk_at "lc") (by decide) (by decide)) (fun _ _=>rfl)))⟩) (by intro _;rfl))))))))))),?_⟩
 rintro xs M hl ⟨p,n,o,rfl,m,ho,hn0,hn1⟩
 obtain⟨N,rfl⟩:∃N:Nat,n=(N:Int):=⟨n.toNat,by omega⟩
 have hlz:((Str.ofString "abcdefghijklmnopqrstuvwxyz"):Str).length≤sizeLine:=by rw[letters_len];decide
 walk_at "r"
 refine take_call m ho (by decide) (by decide) fun v1 o1 hv0 hv1 ho1=>?_
 obtain⟨t,rfl⟩:∃t:Nat,v1=(t:Int):=⟨v1.toNat,by omega⟩
 walk_at "r"
 refine dslB_str hlz ?_
 walk_at "r"
 refine dslB_str hlz ?_
 refine d2B_adds (zN (Nat.add_le_add (slice_len _ _ _ (Nat.le_of_eq letters_len)) (slice_len _ _ _ (Nat.le_of_eq letters_len))) (by decide)) ?_
 have hRl:letZ (Txt.slice (Str.ofString "abcdefghijklmnopqrstuvwxyz") (some (t:Int)) none++Txt.slice (Str.ofString "abcdefghijklmnopqrstuvwxyz") none (some (t:Int))):=by
   refine letZ_app (fun c hc=>?_) (fun c hc=>?_)
   · rw[slice_from] at hc;exact lets_isLet c (List.mem_of_mem_drop hc)
   · exact lets_isLet c (slice_let hc)
 have hRn:(Txt.slice (Str.ofString "abcdefghijklmnopqrstuvwxyz") (some (t:Int)) none++Txt.slice (Str.ofString "abcdefghijklmnopqrstuvwxyz") none (some (t:Int))).cps.toList.length=26:=by
   rw[append_toList,yY,slice_from,slice_take,List.length_drop,List.length_take,← size_list,let_size];exact om_rot (xR (Int.ofNat_lt.mp hv1))
 have hRd:(Txt.slice (Str.ofString "abcdefghijklmnopqrstuvwxyz") (some (t:Int)) none++Txt.slice (Str.ofString "abcdefghijklmnopqrstuvwxyz") none (some (t:Int))).cps.toList.Nodup:=by
   rw[append_toList,slice_from,slice_take];exact rot_nodup t
 have hRrun:Run (Txt.slice (Str.ofString "abcdefghijklmnopqrstuvwxyz") (some (t:Int)) none++Txt.slice (Str.ofString "abcdefghijklmnopqrstuvwxyz") none (some (t:Int))).cps.toList:=by
   rw[append_toList,slice_from,slice_take];exact run_of (rot_runB t (by omega))
 revert hRl hRn hRd hRrun
 generalize Txt.slice (Str.ofString "abcdefghijklmnopqrstuvwxyz") (some (t:Int)) none++Txt.slice (Str.ofString "abcdefghijklmnopqrstuvwxyz") none (some (t:Int))=R
 intro hRl hRn hRd hRrun
 have hRz:R.length≤sizeLine:=by
   have:R.length=R.cps.toList.length:=by simp[Str.length]
   rw[this,hRn];decide
 have hRat:∀k:Nat,k < 26→∃c,atI R.cps.toList (k:Int)=some c∧isLet c=true:=fun k hk=>by
   have hk':k < R.cps.toList.length:=by rw[hRn];exact hk
   exact⟨R.cps.toList[k],atI_nat (zV hk'),hRl _ (List.getElem_mem hk')⟩
 walk_at "r"
 refine take_call zU ho1 (by decide) (by decide) fun v2 o2 _ _ ho2=>?_
 rw[yI]
 walk_at "r"
 refine take_call zU ho2 (by decide) (by decide) fun v3 o3 h30 h31 ho3=>?_
 rw[yI]
 obtain⟨s3,rfl⟩:∃s3:Nat,v3=(s3:Int):=⟨v3.toNat,by omega⟩
 have hmid:letZ (Txt.slice R (some 3) (some (3+(s3:Int))))∧(Txt.slice R (some 3) (some (3+(s3:Int)))).cps.toList.length≤7∧Run (Txt.slice R (some 3) (some (3+(s3:Int)))).cps.toList:=by
   have e:(Txt.slice R (some 3) (some (3+(s3:Int)))).cps.toList=(R.cps.toList.take (3+s3)).drop 3:=slice_mid R 3 (3+s3)
   refine⟨fun c hc=>?_,?_,?_⟩
   · rw[e] at hc;exact hRl c (List.mem_of_mem_take (List.mem_of_mem_drop hc))
   · rw[e,List.length_drop,List.length_take];exact om_mid (Nat.le_of_lt_succ (Int.ofNat_lt.mp h31))
   · rw[e];exact(hRrun.take _).drop _
 have hids:(intsD 0 N).length=N:=by simp[intsD]
 have hN:N≤26:=Int.ofNat_le.mp hn1
 have hsz:(intsD 0 N).length < sizeLine:=by rw[hids];exact zQ hN (by decide)
 have fin:∀(g:PyData→PyData),(∀k:Nat,k < N→∃z,g (.int k) = .str z∧nameZ z∧z∉badW)→(∀i j:Nat,i < N→j < N→g (.int i)=g (.int j)→i=j)→∃ys:List Str,((intsD 0 N).filter fun _=>true).map g=ys.map .str∧ys.length=N∧(∀z∈ys,nameZ z∧z∉badW)∧ys.Nodup:=fun g hg hi=>by
   rw[flt]
   refine⟨(List.range N).map fun(k:Nat)=>strOf (g (.int (k:Int))),?_,by simp,?_,?_⟩
   · unfold intsD
     rw[zD,zD]
     apply yM
     intro k hk
     obtain⟨z,e,_⟩:=hg k (List.mem_range.mp hk)
     show g (.int (0+(k:Int))) = .str (strOf (g (.int k)))
     rw[Int.zero_add,e];rfl
   · intro z hz
     obtain⟨k,hk,rfl⟩:=zL.mp hz
     obtain⟨z,e,h⟩:=hg k (List.mem_range.mp hk)
     rw[e];exact h
   · refine nodup_range fun i j h1 h2 e=>hi i j h1 h2 ?_
     obtain⟨z1,e1,_⟩:=hg i h1
     obtain⟨z2,e2,_⟩:=hg j h2
     rw[e1,e2] at e ⊢
     exact congrArg PyData.str e
 walk_at "r"
 refine d2_eq rfl rfl ?_
 rw[if_neg nft]
 walk_at "r"
 refine ite2 (fun h=>?_) (fun h=>?_)
 · walk_at "r"
   refine de_comp_pure (go_name 0) (by simp[cf__law_names_0]) ?_
   refine di_rng1 ?_
   walk_at "r"
   refine⟨by omega,by omega,?_⟩
   rw[Int.toNat_natCast]
   have hel:∀k:Nat,k < N→∃c,atI R.cps.toList ((k:Int)/8)=some c∧isLet c=true:=fun k hk=>hRat (k/8) (om_div hk hN)
   refine⟨hsz,fun _=>true,nmA R,?_,?_⟩
   · intro d hd M'
     obtain⟨k,hk,rfl⟩:=zL.mp hd
     obtain⟨c,e1,e2⟩:=hel k (List.mem_range.mp hk)
     rw[Int.zero_add]
     walk_at "dl"
     refine⟨rfl,?_⟩
     walk_at "dl"
     refine⟨rfl,rfl,fun _=>?_⟩
     walk_at "r"
     refine d2A_ixs hRz e1 ?_
     walk_at "r"
     refine d2_rep (om_rep _).1 (om_rep _).2.1 (by show 1≤1000;decide) ?_
     exact⟨by rw[nmA_at e1],rfl⟩
   · have iA:∀i j:Nat,i < N→j < N→(nmA R) (.int i)=(nmA R) (.int j)→i=j:=fun i j h1 h2 e=>by
       obtain⟨c1,q1,_⟩:=hel i h1
       obtain⟨c2,q2,_⟩:=hel j h2
       rw[nmA_at q1,nmA_at q2] at e
       have e':repS ⟨#[c1]⟩ (1+(i:Int) % 8)=repS ⟨#[c2]⟩ (1+(j:Int) % 8):=by injection e
       obtain⟨hcc,hmn⟩:=rep_inj (om_rep _).1 (om_rep _).1 e'
       subst hcc
       have hq:=nodup_at (i:=i/8) (j:=j/8) hRd q1 q2 (by rw[hRn];exact om_div h1 hN) (by rw[hRn];exact om_div h2 hN)
       exact om_eq hmn hq
     have hA:∀k:Nat,k < N→∃z,(nmA R) (.int k) = .str z∧nameZ z∧z∉badW:=fun k hk=>by
       obtain⟨c,q1,q2⟩:=hel k hk
       have hz:=rep_one (c:=c) (n:=1+(k:Int) % 8) (om_rep k).1
       refine⟨repS ⟨#[c]⟩ (1+(k:Int) % 8),nmA_at q1,?_,rep_bad hz⟩
       refine nameZ_of (fun d hd=>?_) ?_ ?_
       · rw[hz] at hd;rw[List.eq_of_mem_replicate hd];exact q2
       · rw[hz,List.length_replicate];exact(om_rep k).2.2.1
       · rw[hz,List.length_replicate];exact(om_rep k).2.2.2
     obtain⟨ys,e1,e2,e3,e4⟩:=fin (nmA R) hA iA
     rw[e1]
     refine⟨_,zT _,fun p' n' e=>?_⟩
     cases e
     exact⟨ys,o3,rfl,by rw[e2],fun z hz=>(e3 z hz).1,fun z hz=>(e3 z hz).2,e4,ho3,rfl⟩
 · walk_at "r"
   refine d2_eq rfl rfl ?_
   rw[if_neg nft]
   walk_at "r"
   have hel:∀k:Nat,k < N→∃c,atI R.cps.toList (k:Int)=some c∧isLet c=true:=fun k hk=>hRat k (zP hk hN)
   have hszs:∀c:Nat,(⟨#[c]⟩:Str).length+(Txt.slice R (some 3) (some (3+(s3:Int)))).length≤sizeLine:=fun c=>by
     have:(Txt.slice R (some 3) (some (3+(s3:Int)))).length=(Txt.slice R (some 3) (some (3+(s3:Int)))).cps.toList.length:=by simp[Str.length]
     rw[this]
     exact zN (Nat.add_le_add (zR 1) hmid.2.1) (by decide)
   refine ite2 (fun h2=>?_) (fun h2=>?_)
   · walk_at "r"
     refine de_comp_pure (go_name 0) (by simp[cf__law_names_1]) ?_
     refine di_rng1 ?_
     walk_at "r"
     refine⟨by omega,by omega,?_⟩
     rw[Int.toNat_natCast]
     refine⟨hsz,fun _=>true,nmB R (Txt.slice R (some 3) (some (3+(s3:Int)))),?_,?_⟩
     · intro d hd M'
       obtain⟨k,hk,rfl⟩:=zL.mp hd
       obtain⟨c,e1,e2⟩:=hel k (List.mem_range.mp hk)
       rw[Int.zero_add]
       walk_at "dl"
       refine⟨rfl,?_⟩
       walk_at "dl"
       refine⟨rfl,rfl,fun _=>?_⟩
       walk_at "r"
       refine d2A_ixs hRz e1 ?_
       walk_at "r"
       refine dslB_str hRz ?_
       refine d2B_adds (hszs c) ?_
       exact⟨by rw[nmB_at e1],rfl⟩
     · have iB:∀i j:Nat,i < N→j < N→(nmB R (Txt.slice R (some 3) (some (3+(s3:Int))))) (.int i)=(nmB R (Txt.slice R (some 3) (some (3+(s3:Int))))) (.int j)→i=j:=fun i j h1 h2 e=>by
         obtain⟨c1,q1,_⟩:=hel i h1
         obtain⟨c2,q2,_⟩:=hel j h2
         rw[nmB_at q1,nmB_at q2] at e
         have e':(⟨#[c1]⟩:Str)++Txt.slice R (some 3) (some (3+(s3:Int)))=⟨#[c2]⟩++Txt.slice R (some 3) (some (3+(s3:Int))):=by injection e
         have hc:=app1_inj e'
         subst hc
         exact nodup_at hRd q1 q2 (by rw[hRn];exact zP h1 hN) (by rw[hRn];exact zP h2 hN)
       have hB:∀k:Nat,k < N→∃z,(nmB R (Txt.slice R (some 3) (some (3+(s3:Int))))) (.int k) = .str z∧nameZ z∧z∉badW:=fun k hk=>by
         obtain⟨c,q1,q2⟩:=hel k hk
         refine⟨_,nmB_at q1,?_,pre_bad (c:=c) (by rw[append_toList];rfl) hmid.2.2⟩
         refine nameZ_of (letZ_app (letZ_one q2) hmid.1) ?_ ?_
         · rw[append_toList,yY];exact Nat.le_add_right 1 _
         · rw[append_toList,yY];exact Nat.add_le_add_left hmid.2.1 1
       obtain⟨ys,e1,e2,e3,e4⟩:=fin (nmB R (Txt.slice R (some 3) (some (3+(s3:Int))))) hB iB
       rw[e1]
       refine⟨_,zT _,fun p' n' e=>?_⟩
       cases e
       exact⟨ys,o3,rfl,by rw[e2],fun z hz=>(e3 z hz).1,fun z hz=>(e3 z hz).2,e4,ho3,rfl⟩
   · walk_at "r"
     refine de_comp_pure (go_name 0) (by simp[cf__law_names_2]) ?_
     refine di_rng1 ?_
     walk_at "r"
     refine⟨by omega,by omega,?_⟩
     rw[Int.toNat_natCast]
     refine⟨hsz,fun _=>true,nmC R (Txt.slice R (some 3) (some (3+(s3:Int)))),?_,?_⟩
     · intro d hd M'
       obtain⟨k,hk,rfl⟩:=zL.mp hd
       obtain⟨c,e1,e2⟩:=hel k (List.mem_range.mp hk)
       rw[Int.zero_add]
       walk_at "dl"
       refine⟨rfl,?_⟩
       walk_at "dl"
       refine⟨rfl,rfl,fun _=>?_⟩
       walk_at "r"
       refine dslB_str hRz ?_
       walk_at "r"
       refine d2A_ixs hRz e1 ?_
       refine d2B_adds (by rw[Nat.add_comm];exact hszs c) ?_
       exact⟨by rw[nmC_at e1],rfl⟩
     · have iC:∀i j:Nat,i < N→j < N→(nmC R (Txt.slice R (some 3) (some (3+(s3:Int))))) (.int i)=(nmC R (Txt.slice R (some 3) (some (3+(s3:Int))))) (.int j)→i=j:=fun i j h1 h2 e=>by
         obtain⟨c1,q1,_⟩:=hel i h1
         obtain⟨c2,q2,_⟩:=hel j h2
         rw[nmC_at q1,nmC_at q2] at e
         have e':Txt.slice R (some 3) (some (3+(s3:Int)))++(⟨#[c1]⟩:Str)=Txt.slice R (some 3) (some (3+(s3:Int)))++⟨#[c2]⟩:=by injection e
         have hc:=app2_inj e'
         subst hc
         exact nodup_at hRd q1 q2 (by rw[hRn];exact zP h1 hN) (by rw[hRn];exact zP h2 hN)
       have hC:∀k:Nat,k < N→∃z,(nmC R (Txt.slice R (some 3) (some (3+(s3:Int))))) (.int k) = .str z∧nameZ z∧z∉badW:=fun k hk=>by
         obtain⟨c,q1,q2⟩:=hel k hk
         refine⟨_,nmC_at q1,?_,suf_bad (c:=c) (by rw[append_toList]) hmid.2.2⟩
         refine nameZ_of (letZ_app hmid.1 (letZ_one q2)) ?_ ?_
         · rw[append_toList,yY];exact Nat.le_add_left 1 _
         · rw[append_toList,yY];exact Nat.add_le_add_right hmid.2.1 1
       obtain⟨ys,e1,e2,e3,e4⟩:=fin (nmC R (Txt.slice R (some 3) (some (3+(s3:Int))))) hC iC
       rw[e1]
       refine⟨_,zT _,fun p' n' e=>?_⟩
       cases e
       exact⟨ys,o3,rfl,by rw[e2],fun z hz=>(e3 z hz).1,fun z hz=>(e3 z hz).2,e4,ho3,rfl⟩
end
section
variable {P:Program}{w:World}{K:Frg}{mg:Str→Option Value}{base:Heap}
abbrev s__law_mixed:Stmt:=_root_.sT 24
def nm__law_mixed:List Str:=["_law_cell"]
theorem sc__law_mixed:FnScope nm__law_mixed ["_law_cell"] (defScope s__law_mixed):=⟨rfl,rfl,rfl,by decide +kernel,rfl,by decide +kernel,by decide +kernel⟩
theorem ok__law_mixed {f:Addr}{fd:FuncData}(F:Fun K "_law_mixed" "_law_mixed" s__law_mixed f fd):FnOk P w K mg base CX0 1 f fd ["_law_cell"] (spD K 1 S__law_mixed):=by
 refine fnD F sc__law_mixed fun cdv A outer s H E hr=>?_
 have hu:=hr.units
 refine⟨_,(@pss_one _ _ _ (@ps_ret _ _ _ _ (@pe_op _ _ _ _ _ _ _ _ (@op_mod _) (@pe_op _ _ _ _ _ _ _ _ (@kMul _ (K) rfl) (@pv _ 0 _ _ (by rfl) (by walk_at "lc") (by decide) (by decide)) (@pe_int _ _ _ _)) (@pe_op _ _ _ _ _ _ _ _ (@op_pow _) (@pe_int _ _ _ _) (@pe_int _ _ _ _))))),?_⟩
 rintro xs M hl ⟨c,rfl,hc⟩
 walk_at "r"
 refine d2_mul (mixB_ok hc) ?_
 walk_at "r"
 exact⟨M,zT M,rfl,_,rfl⟩
abbrev s__law_take:Stmt:=_root_.sT 25
def nm__law_take:List Str:=["_law_pack", "_law_size", "_law_digit"]
theorem sc__law_take:FnScope nm__law_take ["_law_pack", "_law_size"] (defScope s__law_take):=⟨rfl,rfl,rfl,by decide +kernel,rfl,by decide +kernel,by decide +kernel⟩
theorem ok__law_take {f:Addr}{fd:FuncData}(F:Fun K "_law_take" "_law_take" s__law_take f fd) (n_divmod:mg "divmod"=none):FnOk P w K mg base CX0 1 f fd ["_law_pack", "_law_size"] (spD K 2 S__law_take):=by
 refine fnD F sc__law_take fun cdv A outer s H E hr=>?_
 have hu:=hr.units
 refine⟨_,(@pss_cons _ _ _ _ _ (@ps_asg _ _ _ _ _ _ (@pe_callB _ _ _ _ _ _ _ _ _ (@kDivmod _ (K) rfl) (by rfl) n_divmod PyProof.Rows.boot_divmod (@pa_cons _ _ _ _ _ (@pe_ix _ _ _ _ _ _ _ (@kIx _ (K) rfl) (@pv _ 0 _ _ (by rfl) (by walk_at "lc") (by decide) (by decide)) (@pe_int _ _ _ _) (fun _ _=>rfl)) (@pa_cons _ _ _ _ _ (@pv _ 1 _ _ (by rfl) (by walk_at "lc") (by decide) (by decide)) (@pa_nil _) (by rfl)) (by rfl)) (by decide) (by decide) (by rfl) (by rfl)) (@kTupA _ (K) _ _ _ _ (2) rfl rfl (@pgs_cons _ _ _ _ _ (@pg_sub _ _ _ _ _ _ _ (@pv _ 0 _ _ (by rfl) (by walk_at "lc") (by decide) (by decide)) (@pe_int _ _ _ _) (@set_list _) (by intro _;rfl)) (@pgs_cons _ _ _ _ _ (@pg_name _ _ (2) _ sc__law_take.nd rfl (by walk_at "lc") (by first   | exact .inl rfl   | exact .inr rfl   | assumption)) (@pgs_nil _) (by rfl)) (by rfl)) (by rfl) (by rfl)) (by rfl) (by rfl) (by rfl)) (@pss_one _ _ _ (@ps_ret _ _ _ _ (@pv _ 2 _ _ (by rfl) (by walk_at "lc") (by decide) (by decide))))),?_⟩
 rintro xs M hl ⟨p,size,o,rfl,m,⟨v,rfl⟩,h0,h1⟩
 walk_at "dl"
 refine ds_asg ?_
 walk_at "r"
 refine rd_divmod h0 h1 ?_
 walk_at "r"
 refine⟨_,zT _,fun p' size' e=>?_⟩
 cases e
 exact⟨_,_,rfl,Int.emod_nonneg _ (by omega),Int.emod_lt_of_pos _ h0,⟨_,rfl⟩,rfl⟩
end
section
variable {P:Program}{w:World}{K:Frg}{mg:Str→Option Value}{base:Heap}
abbrev s__law_deed:Stmt:=_root_.sT 27
def nm__law_deed:List Str:=["_law_pack", "_law_some", "_law_spare", "_law_kind", "_law_place", "_law_number", "_law_one", "_law_others"]
def cc__law_deed_0:List Str:=["_law_name", "_law_one"]
def cf__law_deed_0:List (Option Nat):=[none,some 6]
theorem cn__law_deed_0:cc__law_deed_0.Nodup:=by decide +kernel
theorem sc__law_deed:FnScope nm__law_deed ["_law_pack", "_law_some", "_law_spare"] (defScope s__law_deed):=⟨rfl,rfl,rfl,by decide +kernel,rfl,by decide +kernel,by decide +kernel⟩
theorem ok__law_deed {f:Addr}{fd:FuncData}(F:Fun K "_law_deed" "_law_deed" s__law_deed f fd) (n_int:mg "int"=none) (n_len:mg "len"=none) (h__law_take:Has P w K mg base "_law_take" 1 ["_law_pack", "_law_size"] S__law_take):FnOk P w K mg base CX0 2 f fd ["_law_pack", "_law_some", "_law_spare"] (spD K 3 S__law_deed):=by
 refine fnD F sc__law_deed fun cdv A outer s H E hr=>?_
 have hu:=hr.units
 refine⟨_,(@pss_cons _ _ _ _ _ (@ps_set _ _ (3) _ _ _ _ sc__law_deed.nd rfl (by walk_at "lc") (@pe_ix _ _ _ _ _ _ _ (@kIx _ (K) rfl) (@pe_lst _ _ _ _ (@pa_cons _ _ _ _ _ (@pe_str _ _ _ _) (@pa_cons _ _ _ _ _ (@pe_str _ _ _ _) (@pa_cons _ _ _ _ _ (@pe_str _ _ _ _) (@pa_cons _ _ _ _ _ (@pe_str _ _ _ _) (@pa_cons _ _ _ _ _ (@pe_str _ _ _ _) (@pa_cons _ _ _ _ _ (@pe_str _ _ _ _) (@pa_cons _ _ _ _ _ (@pe_str _ _ _ _) (@pa_cons _ _ _ _ _ (@pe_str _ _ _ _) (@pa_cons _ _ _ _ _ (@pe_str _ _ _ _) (@pa_nil _) (by rfl)) (by rfl)) (by rfl)) (by rfl)) (by rfl)) (by rfl)) (by rfl)) (by rfl)) (by rfl))) (@kCall _ (K) (P) (w) (mg) (base) _ _ _ _ _ _ _ _ _ rfl rfl rfl rfl rfl h__law_take (hr.mono (by decide)) rfl (@pa_cons _ _ _ _ _ (@pv _ 0 _ _ (by rfl) (by walk_at "lc") (by decide) (by decide)) (@pa_cons _ _ _ _ _ (@pe_int _ _ _ _) (@pa_nil _) (by rfl)) (by rfl)) (by decide) (by rfl) (by rfl)) (fun _ _=>rfl)) (by rfl) (by first   | exact .inl rfl   | exact .inr rfl   | assumption)) (@pss_cons _ _ _ _ _ (@ps_set _ _ (4) _ _ _ _ sc__law_deed.nd rfl (by walk_at "lc") (@kCall _ (K) (P) (w) (mg) (base) _ _ _ _ _ _ _ _ _ rfl rfl rfl rfl rfl h__law_take (hr.mono (by decide)) rfl (@pa_cons _ _ _ _ _ (@pv _ 0 _ _ (by rfl) (by walk_at "lc") (by decide) (by decide)) (@pa_cons _ _ _ _ _ (@pe_int _ _ _ _) (@pa_nil _) (by rfl)) (by rfl)) (by decide) (by rfl) (by rfl)) (by rfl) (by first   | exact .inl rfl   | exact .inr rfl   | assumption)) (@pss_cons _ _ _ _ _ (@ps_set _ _ (5) _ _ _ _ sc__law_deed.nd rfl (by walk_at "lc") (@pe_op _ _ _ _ _ _ _ _ (@op_sub _) (@kCall _ (K) (P) (w) (mg) (base) _ _ _ _ _ _ _ _ _ rfl rfl rfl rfl rfl h__law_take (hr.mono (by decide)) rfl (@pa_cons _ _ _ _ _ (@pv _ 0 _ _ (by rfl) (by walk_at "lc") (by decide) (by decide)) (@pa_cons _ _ _ _ _ (@pe_int _ _ _ _) (@pa_nil _) (by rfl)) (by rfl)) (by decide) (by rfl) (by rfl)) (@pe_int _ _ _ _)) (by rfl) (by first   | exact .inl rfl   | exact .inr rfl   | assumption)) (@pss_cons _ _ _ _ _ (@ps_if _ _ _ _ _ _ _ _ (@L2.PW.pt _ _ _ (@pw_or _ _ _ _ _ _ _ (@pt_cmpR _ _ _ _ _ _ _ _ (@kEq _ (K) rfl hu) (@pv _ 1 _ _ (by rfl) (by walk_at "lc") (by decide) (by decide)) (@pe_lst _ _ _ _ (@pa_nil _)) (@nomark _ _ (by decide) (by decide))) (@pw_or1 _ _ _ _ (@L2.PW.pt _ _ _ (@pw_and _ _ _ _ _ _ _ (@pt_cmpR _ _ _ _ _ _ _ _ (@kEq _ (K) rfl hu) (@pv _ 2 _ _ (by rfl) (by walk_at "lc") (by decide) (by decide)) (@pe_lst _ _ _ _ (@pa_nil _)) (@nomark _ _ (by decide) (by decide))) (@pw_and1 _ _ _ _ (@pt_cmpR _ _ _ _ _ _ _ _ (@kIn _ (K) rfl) (@pv _ 3 _ _ (by rfl) (by walk_at "lc") (by decide) (by decide)) (@pe_lst _ _ _ _ (@pa_cons _ _ _ _ _ (@pe_str _ _ _ _) (@pa_cons _ _ _ _ _ (@pe_str _ _ _ _) (@pa_cons _ _ _ _ _ (@pe_str _ _ _ _) (@pa_nil _) (by rfl)) (by rfl)) (by rfl))) (by with_unfolding_all rfl)))))))) (@pss_one _ _ _ (@ps_set _ _ (3) _ _ _ _ sc__law_deed.nd rfl (by walk_at "lc") (@pe_ix _ _ _ _ _ _ _ (@kIx _ (K) rfl) (@pe_lst _ _ _ _ (@pa_cons _ _ _ _ _ (@pe_str _ _ _ _) (@pa_cons _ _ _ _ _ (@pe_str _ _ _ _) (@pa_nil _) (by rfl)) (by rfl))) (@pe_callTy _ _ _ _ _ _ _ _ _ (@kInt _ (K) rfl) (by rfl) n_int PyProof.Rows.boot_int (@pa_cons _ _ _ _ _ (@pe_cmpR _ _ _ _ _ _ _ _ (@kEq _ (K) rfl hu) (@pv _ 2 _ _ (by rfl) (by walk_at "lc") (by decide) (by decide)) (@pe_lst _ _ _ _ (@pa_nil _)) (@nomark _ _ (by decide) (by decide))) (@pa_nil _) (by rfl)) (by decide) (by decide) (by rfl) (by rfl)) (fun _ _=>rfl)) (by rfl) (by first   | exact .inl rfl   | exact .inr rfl   | assumption))) (@pss_nil _)) (@pss_cons _ _ _ _ _ (@ps_if _ _ _ _ _ _ _ _ (@pt_cmpR _ _ _ _ _ _ _ _ (@kEq _ (K) rfl hu) (@pv _ 3 _ _ (by rfl) (by walk_at "lc") (by decide) (by decide)) (@pe_str _ _ _ _) (@nomark _ _ (by decide) (by decide))) (@pss_one _ _ _ (@ps_ret _ _ _ _ (@pe_tup _ _ _ _ _ (@pa_cons _ _ _ _ _ (@pe_str _ _ _ _) (@pa_cons _ _ _ _ _ (@pe_ix _ _ _ _ _ _ _ (@kIx _ (K) rfl) (@pv _ 2 _ _ (by rfl) (by walk_at "lc") (by decide) (by decide)) (@pe_int _ _ _ _) (fun _ _=>rfl)) (@pa_cons _ _ _ _ _ (@pv _ 4 _ _ (by rfl) (by walk_at "lc") (by decide) (by decide)) (@pa_cons _ _ _ _ _ (@pv _ 5 _ _ (by rfl) (by walk_at "lc") (by decide) (by decide)) (@pa_nil _) (by rfl)) (by rfl)) (by rfl)) (by rfl))))) (@pss_nil _)) (@pss_cons _ _ _ _ _ (@ps_set _ _ (6) _ _ _ _ sc__law_deed.nd rfl (by walk_at "lc") (@pe_ix _ _ _ _ _ _ _ (@kIx _ (K) rfl) (@pv _ 1 _ _ (by rfl) (by walk_at "lc") (by decide) (by decide)) (@kCall _ (K) (P) (w) (mg) (base) _ _ _ _ _ _ _ _ _ rfl rfl rfl rfl rfl h__law_take (hr.mono (by decide)) rfl (@pa_cons _ _ _ _ _ (@pv _ 0 _ _ (by rfl) (by walk_at "lc") (by decide) (by decide)) (@pa_cons _ _ _ _ _ (@pe_callB _ _ _ _ _ _ _ _ _ (@kLen _ (K) rfl) (by rfl) n_len PySem.boot_len (@pa_cons _ _ _ _ _ (@pv _ 1 _ _ (by rfl) (by walk_at "lc") (by decide) (by decide)) (@pa_nil _) (by rfl)) (by decide) (by decide) (by rfl) (by rfl)) (@pa_nil _) (by rfl)) (by rfl)) (by decide) (by rfl) (by rfl)) (fun _ _=>rfl)) (by rfl) (by first   | exact .inl rfl   | exact .inr rfl   | assumption)) (@pss_cons _ _ _ _ _ (@ps_setc _ _ _ _ _ _ _ _ _ _ _ _ _ (7) _ _ _ rfl sc__law_deed.nd rfl (by walk_at "lc") (@L2.CSc.of _ _ (cc__law_deed_0) (cf__law_deed_0) (defScope s__law_deed) (nm__law_deed) (by decide +kernel) rfl rfl) (@kIter _ (K) _ _ _ rfl (@pv _ 1 _ _ (by rfl) (by walk_at "lc") (by decide) (by decide))) (fun C s' H' ex' pn'=>⟨@pg_name _ _ (0) _ cn__law_deed_0 rfl (by walk_at "lc") (by first   | exact .inl rfl   | exact .inr rfl   | assumption),(@pts_one _ _ _ (@pt_cmpR _ _ _ _ _ _ _ _ (@kNe _ (K) rfl hu) (@pv _ 0 _ _ (by rfl) (by walk_at "lc") (by decide) (by decide)) (@pv _ 1 _ _ (by rfl) (by walk_at "lc") (by decide) (by decide)) (@nomark _ _ (by decide) (by decide)))),(@pv _ 0 _ _ (by rfl) (by walk_at "lc") (by decide) (by decide))⟩) rfl (by first   | exact .inl rfl   | exact .inr rfl   | assumption) (by intro _;rfl)) (@pss_cons _ _ _ _ _ (@ps_if _ _ _ _ _ _ _ _ (@pt_cmpR _ _ _ _ _ _ _ _ (@kEq _ (K) rfl hu) (@pv _ 3 _ _ (by rfl) (by walk_at "lc") (by decide) (by decide)) (@pe_str _ _ _ _) (@nomark _ _ (by decide) (by decide))) (@pss_one _ _ _ (@ps_ret _ _ _ _ (@pe_tup _ _ _ _ _ (@pa_cons _ _ _ _ _ (@pe_str _ _ _ _) (@pa_cons _ _ _ _ _ (@pv _ 6 _ _ (by rfl) (by walk_at "lc") (by decide) (by decide)) (@pa_cons _ _ _ _ _ (@pv _ 4 _ _ (by rfl) (by walk_at "lc") (by decide) (by decide)) (@pa_nil _) (by rfl)) (by rfl)) (by rfl))))) (@pss_nil _)) (@pss_cons _ _ _ _ _ (@ps_if _ _ _ _ _ _ _ _ (@pt_cmpR _ _ _ _ _ _ _ _ (@kEq _ (K) rfl hu) (@pv _ 3 _ _ (by rfl) (by walk_at "lc") (by decide) (by decide)) (@pe_str _ _ _ _) (@nomark _ _ (by decide) (by decide))) (@pss_one _ _ _ (@ps_ret _ _ _ _ (@pe_tup _ _ _ _ _ (@pa_cons _ _ _ _ _ (@pe_str _ _ _ _) (@pa_cons _ _ _ _ _ (@pv _ 6 _ _ (by rfl) (by walk_at "lc") (by decide) (by decide)) (@pa_nil _) (by rfl)) (by rfl))))) (@pss_nil _)) (@pss_cons _ _ _ _ _ (@ps_if _ _ _ _ _ _ _ _ (@pt_cmpR _ _ _ _ _ _ _ _ (@kEq _ (K) rfl hu) (@pv _ 3 _ _ (by rfl) (by walk_at "lc") (by decide) (by decide)) (@pe_str _ _ _ _) (@nomark _ _ (by decide) (by decide))) (@pss_one _ _ _ (@ps_ret _ _ _ _ (@pe_tup _ _ _ _ _ (@pa_cons _ _ _ _ _ (@pe_str _ _ _ _) (@pa_cons _ _ _ _ _ (@pv _ 6 _ _ (by rfl) (by walk_at "lc") (by decide) (by decide)) (@pa_cons _ _ _ _ _ (@pe_ix _ _ _ _ _ _ _ (@kIx _ (K) rfl) (@pv _ 2 _ _ (by rfl) (by walk_at "lc") (by decide) (by decide)) (@pe_int _ _ _ _) (fun _ _=>rfl)) (@pa_nil _) (by rfl)) (by rfl)) (by rfl))))) (@pss_nil _)) (@pss_cons _ _ _ _ _ (@ps_if _ _ _ _ _ _ _ _ (@pt_cmpR _ _ _ _ _ _ _ _ (@kEq _ (K) rfl hu) (@pv _ 3 _ _ (by rfl) (by walk_at "lc") (by decide) (by decide)) (@pe_str _ _ _ _) (@nomark _ _ (by decide) (by decide))) (@pss_one _ _ _ (@ps_ret _ _ _ _ (@pe_tup _ _ _ _ _ (@pa_cons _ _ _ _ _ (@pe_str _ _ _ _) (@pa_cons _ _ _ _ _ (@pv _ 6 _ _ (by rfl) (by walk_at "lc") (by decide) (by decide)) (@pa_cons _ _ _ _ _ (@pe_ix _ _ _ _ _ _ _ (@kIx _ (K) rfl) (@pv _ 2 _ _ (by rfl) (by walk_at "lc") (by decide) (by decide)) (@pe_int _ _ _ _) (fun _ _=>rfl)) (@pa_cons _ _ _ _ _ (@pv _ 4 _ _ (by rfl) (by walk_at "lc") (by decide) (by decide)) (@pa_cons _ _ _ _ _ (@pv _ 5 _ _ (by rfl) (by walk_at "lc") (by decide) (by decide)) (@pa_nil _) (by rfl)) (by rfl)) (by rfl)) (by rfl)) (by rfl))))) (@pss_nil _)) (@pss_cons _ _ _ _ _ (@ps_if _ _ _ _ _ _ _ _ (@L2.PW.pt _ _ _ (@pw_and _ _ _ _ _ _ _ (@pt_cmpR _ _ _ _ _ _ _ _ (@kEq _ (K) rfl hu) (@pv _ 3 _ _ (by rfl) (by walk_at "lc") (by decide) (by decide)) (@pe_str _ _ _ _) (@nomark _ _ (by decide) (by decide))) (@pw_and1 _ _ _ _ (@pt_cmpR _ _ _ _ _ _ _ _ (@kNe _ (K) rfl hu) (@pv _ 7 _ _ (by rfl) (by walk_at "lc") (by decide) (by decide)) (@pe_lst _ _ _ _ (@pa_nil _)) (@nomark _ _ (by decide) (by decide)))))) (@pss_one _ _ _ (@ps_ret _ _ _ _ (@pe_tup _ _ _ _ _ (@pa_cons _ _ _ _ _ (@pe_str _ _ _ _) (@pa_cons _ _ _ _ _ (@pv _ 6 _ _ (by rfl) (by walk_at "lc") (by decide) (by decide)) (@pa_cons _ _ _ _ _ (@pe_ix _ _ _ _ _ _ _ (@kIx _ (K) rfl) (@pv _ 7 _ _ (by rfl) (by walk_at "lc") (by decide) (by decide)) (@kCall _ (K) (P) (w) (mg) (base) _ _ _ _ _ _ _ _ _ rfl rfl rfl rfl rfl h__law_take (hr.mono (by decide)) rfl (@pa_cons _ _ _ _ _ (@pv _ 0 _ _ (by rfl) (by walk_at "lc") (by decide) (by decide)) (@pa_cons _ _ _ _ _ (@pe_callB _ _ _ _ _ _ _ _ _ (@kLen _ (K) rfl) (by rfl) n_len PySem.boot_len (@pa_cons _ _ _ _ _ (@pv _ 7 _ _ (by rfl) (by walk_at "lc") (by decide) (by decide)) (@pa_nil _) (by rfl)) (by decide) (by decide) (by rfl) (by rfl)) (@pa_nil _) (by rfl)) (by rfl)) (by decide) (by rfl) (by rfl)) (fun _ _=>rfl)) (@pa_nil _) (by rfl)) (by rfl)) (by rfl))))) (@pss_nil _)) (@pss_one _ _ _ (@ps_ret _ _ _ _ (@pe_tup _ _ _ _ _ (@pa_cons _ _ _ _ _ (@pe_str _ _ _ _) (@pa_cons _ _ _ _ _ (@pv _ 6 _ _ (by rfl) (by walk_at "lc") (by decide) (by decide)) (@pa_cons _ _ _ _ _ (@pv _ 5 _ _ (by rfl) (by walk_at "lc") (by decide) (by decide)) (@pa_nil _) (by rfl)) (by rfl)) (by rfl))))))))))))))))),?_⟩
 rintro xs M hl ⟨p,o,so,sp,rfl,m,ho,hno,hne0⟩
 have nd2:∀{z:Str},z∈so→z∉sp:=fun {z} h1 h2=>(List.nodup_append.mp hno.2.1).2.2 z h1 z h2 rfl
 walk_at "r"
 refine de_lst ?_
 walk_at "r"
 refine take_call m ho (by decide) (by decide) fun v1 o1 a0 a1 ho1=>?_
 obtain⟨kd,ekd,hkd⟩:=atI_str (ys:=kinds9) a0 a1
 refine d2A_ixl (d:=.str kd) ekd ?_
 walk_at "r"
 refine take_call zU ho1 (by decide) (by decide) fun pl o2 p0 p1 ho2=>?_
 rw[yI]
 walk_at "r"
 refine take_call zU ho2 (by decide) (by decide) fun v3 o3 c0 c1 ho3=>?_
 rw[yI]
 walk_at "wks"
 refine ds_cut (fun ρ1 M1=>∃(kd:Str),kd∈kinds9∧(kd=Str.ofString "put" ∨ kd=Str.ofString "name" ∨ kd=Str.ofString "split" → sp≠[])∧(kd≠Str.ofString "put" → so≠[])∧M1=M.put p o3∧ρ1=[some (.loc p),some (.d (strL so)),some (.d (strL sp)),some (.d (.str kd)),some (.d (.int pl)),some (.d (.int (v3 - 20))),none,none]) ?_ ?_
 · have hs1:zH (strL so)=true:=shaped_names fun z hz=>hno.1 z (by simp[hz])
   have hs2:zH (strL sp)=true:=shaped_names fun z hz=>hno.1 z (by simp[hz])
   have fin:∀b:Bool,sp.isEmpty=b→∃k2:Str,atI [PyData.str (Str.ofString "put"),.str (Str.ofString "move")] (if b then 1 else 0)=some (.str k2)∧k2∈kinds9∧((b=false∧k2=Str.ofString "put")∨(b=true∧k2=Str.ofString "move")):=fun b _=>by
     cases b with
     | true=>exact⟨"move", rfl,by simp[kinds9],.inr ⟨rfl,rfl⟩⟩
     | false=>exact⟨"put", rfl,by simp[kinds9],.inl ⟨rfl,rfl⟩⟩
   walk_at "wkd"
   refine d2_eq hs1 rfl ?_
   rw[if_neg nft,list_nil_eq]
   cases hso:so.isEmpty with
   | true=>
     have so0:so=[]:=List.isEmpty_iff.mp hso
     have sp0:sp≠[]:=hne0.resolve_left fun q=>q so0
     have spe:sp.isEmpty=false:=by cases sp with | nil=>exact absurd rfl sp0 | cons _ _=>rfl
     walk_at "r"
     refine de_lst ?_
     walk_at "wkd"
     refine d2_eq hs2 rfl ?_
     rw[if_neg nft,list_nil_eq,spe]
     walk_at "r"
     refine d2A_ixl (d:=.str (Str.ofString "put")) rfl ?_
     exact⟨"put", by simp[kinds9],fun _=>sp0,fun q=>absurd rfl q,rfl,rfl⟩
   | false=>
     have so1:so≠[]:=fun q=>by rw[q] at hso;cases hso
     walk_at "wkd"
     refine d2_eq hs2 rfl ?_
     rw[if_neg nft,list_nil_eq]
     cases hsp:sp.isEmpty with
     | false=>
       have sp1:sp≠[]:=fun q=>by rw[q] at hsp;cases hsp
       walk_at "r"
       exact⟨kd,hkd,fun _=>sp1,fun _=>so1,rfl,rfl⟩
     | true=>
       walk_at "r"
       refine de_lst ?_
       walk_at "r"
       refine d2A_inl (ys:=["put", "name", "split"]) ?_
       cases hin:decide (kd∈[Str.ofString "put", "name", "split"]) with
       | false=>
         walk_at "r"
         refine⟨kd,hkd,fun q=>?_,fun _=>so1,rfl,rfl⟩
         have:=of_decide_eq_false hin
         simp only[yX,xX,or_false] at this
         exact absurd q this
       | true=>
         walk_at "r"
         refine de_lst ?_
         walk_at "wkd"
         refine d2_eq hs2 rfl ?_
         rw[if_neg nft,list_nil_eq,hsp]
         walk_at "r"
         refine d2A_ixl (d:=.str (Str.ofString "move")) rfl ?_
         exact⟨"move", by simp[kinds9],fun q=>by rcases q with q | q | q <;> exact absurd q (by decide +kernel),fun _=>so1,rfl,rfl⟩
 · rintro ρ1 M1 ⟨kd,hkd,k1,k2,rfl,rfl⟩
   generalize v3 - 20=nu
   walk_at "r"
   refine d2_eq (kind9_sh hkd) (by decide +kernel) ?_
   rw[if_neg nft,eqv_str]
   cases e1:(kd==Str.ofString "put") with
   | true=>
     have ek:kd=Str.ofString "put" := eq_of_beq e1
     walk_at "r"
     obtain⟨s0,sr,rfl⟩:∃s0 sr,sp=s0::sr:=by
       cases sp with
       | nil=>exact absurd rfl (k1 (.inl ek))
       | cons a r=>exact⟨a,r,rfl⟩
     refine d2A_ixl (ds:=(s0::sr).map .str) (atI_nat (j:=0) rfl) ?_
     walk_at "r"
     refine⟨_,zT _,fun p' so' sp' e=>?_⟩
     obtain⟨rfl,rfl,rfl⟩:=pss_inj e
     exact⟨.put s0 pl nu,_,rfl,⟨fun z hz=>by simp[Deed.names] at hz;subst hz;exact hno.1 _ (by simp),trivial,⟨p0,by omega⟩⟩,amiss_of fun n hn=>by simp[Deed.names] at hn;subst hn;simp[Deed.made];exact fun q=>nd2 q (by simp),fun n e=>by simp[Deed.made] at e;subst e;rfl,ho3,rfl⟩
   | false=>
     have kne:kd≠Str.ofString "put" := fun q=>by rw[q] at e1;simp at e1
     have hso:=k2 kne
     have hsl:0 < so.length:=List.length_pos_iff.mpr hso
     have hs26:so.length≤26:=by have:=hno.2.2;rw[yY] at this;omega
     walk_at "r"
     refine rd_lenl ?_
     rw[zX]
     walk_at "r"
     refine take_call zU ho3 (by omega) (by omega) fun v4 o4 d0 d1 ho4=>?_
     rw[yI]
     obtain⟨y1,ey1,my1⟩:=atI_str (ys:=so) d0 d1
     have hy1:nameZ y1:=hno.1 y1 (by simp[my1])
     refine d2A_ixl ey1 ?_
     walk_at "r"
     refine de_comp_pure (go_name 0) (by simp[cf__law_deed_0]) ?_
     refine diA_list ?_
     walk_at "r"
     refine⟨by rw[zX];exact zQ hs26 (by decide),fun d=>!PyData.eqv d (.str y1),id,?_,?_⟩
     · intro d hd M'
       obtain⟨z,hz,rfl⟩:=zL.mp hd
       walk_at "r"
       refine⟨rfl,?_⟩
       walk_at "r"
       refine d2_eq (shaped_str (hno.1 z (by simp[hz]))) (shaped_str hy1) ?_
       rw[if_pos rfl]
       walk_at "r"
       refine⟨rfl,rfl,fun _=>?_⟩
       walk_at "r"
       exact⟨rfl,rfl⟩
     rw[others_eqB]
     walk_at "r"
     refine d2_eq (kind9_sh hkd) (by decide +kernel) ?_
     rw[if_neg nft,eqv_str]
     cases e2:(kd==Str.ofString "move") with
     | true=>
       have ek:kd=Str.ofString "move" := eq_of_beq e2
       walk_at "r"
       refine⟨_,zT _,fun p' so' sp' e=>?_⟩
       obtain⟨rfl,rfl,rfl⟩:=pss_inj e
       exact⟨.move y1 pl,_,rfl,⟨fun z hz=>by simp[Deed.names] at hz;subst hz;exact hy1,trivial,⟨p0,by omega⟩⟩,amiss_of fun n hn=>by simp[Deed.names] at hn;subst hn;simp[Deed.made,my1],fun n e=>by simp[Deed.made] at e,ho4,rfl⟩
     | false=>
       walk_at "r"
       refine d2_eq (kind9_sh hkd) (by decide +kernel) ?_
       rw[if_neg nft,eqv_str]
       cases e3:(kd==Str.ofString "take") with
       | true=>
         have ek:kd=Str.ofString "take" := eq_of_beq e3
         walk_at "r"
         refine⟨_,zT _,fun p' so' sp' e=>?_⟩
         obtain⟨rfl,rfl,rfl⟩:=pss_inj e
         exact⟨.take y1,_,rfl,⟨fun z hz=>by simp[Deed.names] at hz;subst hz;exact hy1,trivial,trivial⟩,amiss_of fun n hn=>by simp[Deed.names] at hn;subst hn;simp[Deed.made,my1],fun n e=>by simp[Deed.made] at e,ho4,rfl⟩
       | false=>
         walk_at "r"
         refine d2_eq (kind9_sh hkd) (by decide +kernel) ?_
         rw[if_neg nft,eqv_str]
         cases e4:(kd==Str.ofString "name") with
         | true=>
           have ek:kd=Str.ofString "name" := eq_of_beq e4
           walk_at "r"
           obtain⟨s0,sr,rfl⟩:∃s0 sr,sp=s0::sr:=by
             cases sp with
             | nil=>exact absurd rfl (k1 (.inr (.inl ek)))
             | cons a r=>exact⟨a,r,rfl⟩
           have hne:y1≠s0:=fun q=>nd2 my1 (by rw[q];simp)
           have hs0:nameZ s0:=hno.1 s0 (by simp)
           refine d2A_ixl (ds:=(s0::sr).map .str) (atI_nat (j:=0) rfl) ?_
           walk_at "r"
           refine⟨_,zT _,fun p' so' sp' e=>?_⟩
           obtain⟨rfl,rfl,rfl⟩:=pss_inj e
           exact⟨.name y1 s0,_,rfl,⟨fun z hz=>by simp[Deed.names] at hz;rcases hz with rfl | rfl;exact hy1;exact hs0,hne,trivial⟩,amiss_of fun n hn=>by simp[Deed.names] at hn;rcases hn with rfl | rfl;(simp[Deed.made,my1];exact fun q=>hne q.symm);(simp[Deed.made];exact fun q=>nd2 q (by simp)),fun n e=>by simp[Deed.made] at e;subst e;rfl,ho4,rfl⟩
         | false=>
           walk_at "r"
           refine d2_eq (kind9_sh hkd) (by decide +kernel) ?_
           rw[if_neg nft,eqv_str]
           cases e5:(kd==Str.ofString "split") with
           | true=>
             have ek:kd=Str.ofString "split" := eq_of_beq e5
             walk_at "r"
             obtain⟨s0,sr,rfl⟩:∃s0 sr,sp=s0::sr:=by
               cases sp with
               | nil=>exact absurd rfl (k1 (.inr (.inr ek)))
               | cons a r=>exact⟨a,r,rfl⟩
             have hne:y1≠s0:=fun q=>nd2 my1 (by rw[q];simp)
             have hs0:nameZ s0:=hno.1 s0 (by simp)
             refine d2A_ixl (ds:=(s0::sr).map .str) (atI_nat (j:=0) rfl) ?_
             walk_at "r"
             refine⟨_,zT _,fun p' so' sp' e=>?_⟩
             obtain⟨rfl,rfl,rfl⟩:=pss_inj e
             exact⟨.split y1 s0 pl nu,_,rfl,⟨fun z hz=>by simp[Deed.names] at hz;rcases hz with rfl | rfl;exact hy1;exact hs0,hne,⟨p0,by omega⟩⟩,amiss_of fun n hn=>by simp[Deed.names] at hn;rcases hn with rfl | rfl;(simp[Deed.made,my1];exact fun q=>hne q.symm);(simp[Deed.made];exact fun q=>nd2 q (by simp)),fun n e=>by simp[Deed.made] at e;subst e;rfl,ho4,rfl⟩
           | false=>
             walk_at "r"
             refine d2_eq (kind9_sh hkd) (by decide +kernel) ?_
             rw[if_neg nft,eqv_str]
             cases e6:(kd==Str.ofString "join") with
             | false=>
               walk_at "r"
               refine⟨_,zT _,fun p' so' sp' e=>?_⟩
               obtain⟨rfl,rfl,rfl⟩:=pss_inj e
               exact⟨.count y1 nu,_,rfl,⟨fun z hz=>by simp[Deed.names] at hz;subst hz;exact hy1,trivial,trivial⟩,amiss_of fun n hn=>by simp[Deed.names] at hn;subst hn;simp[Deed.made,my1],fun n e=>by simp[Deed.made] at e,ho4,rfl⟩
             | true=>
               walk_at "wkd"
               have hfn:∀z∈so.filter (fun z=>decide (z≠y1)),nameZ z:=fun z hz=>hno.1 z (by simp[(yL.mp hz).1])
               refine d2_eq (shaped_names hfn) rfl ?_
               rw[if_pos rfl,show PyData.eqv (.list ((so.filter fun z=>decide (z≠y1)).map .str)) (.list [])=(so.filter fun z=>decide (z≠y1)).isEmpty from list_nil_eq _]
               cases ho:(so.filter fun z=>decide (z≠y1)).isEmpty with
               | true=>
                 walk_at "r"
                 refine⟨_,zT _,fun p' so' sp' e=>?_⟩
                 obtain⟨rfl,rfl,rfl⟩:=pss_inj e
                 exact⟨.count y1 nu,_,rfl,⟨fun z hz=>by simp[Deed.names] at hz;subst hz;exact hy1,trivial,trivial⟩,amiss_of fun n hn=>by simp[Deed.names] at hn;subst hn;simp[Deed.made,my1],fun n e=>by simp[Deed.made] at e,ho4,rfl⟩
               | false=>
                 have hol:0 < (so.filter fun z=>decide (z≠y1)).length:=by
                   rw[List.length_pos_iff];intro q;rw[q] at ho;cases ho
                 have hol2:(so.filter fun z=>decide (z≠y1)).length≤26:=zN (yJ _ _) hs26
                 walk_at "r"
                 refine rd_lenl ?_
                 rw[zX]
                 walk_at "r"
                 refine take_call zU ho4 (by omega) (by omega) fun v5 o5 f0 f1 ho5=>?_
                 rw[yI]
                 obtain⟨y2,ey2,my2⟩:=atI_str (ys:=so.filter fun z=>decide (z≠y1)) f0 f1
                 have hy2:=hfn y2 my2
                 have hne:y1≠y2:=fun e=>by have:=(yL.mp my2).2;simp at this;exact this e.symm
                 refine d2A_ixl ey2 ?_
                 walk_at "r"
                 refine⟨_,zT _,fun p' so' sp' e=>?_⟩
                 obtain⟨rfl,rfl,rfl⟩:=pss_inj e
                 exact⟨.join y1 y2,_,rfl,⟨fun z hz=>by simp[Deed.names] at hz;rcases hz with rfl | rfl;exact hy1;exact hy2,hne,trivial⟩,amiss_of fun n hn=>by simp[Deed.names] at hn;rcases hn with rfl | rfl;(simp[Deed.made,my1]);(simp[Deed.made,(yL.mp my2).1]),fun n e=>by simp[Deed.made] at e,ho5,rfl⟩
end
section
variable {P:Program}{w:World}{K:Frg}{mg:Str→Option Value}{base:Heap}
abbrev s__law_after:Stmt:=_root_.sT 28
def nm__law_after:List Str:=["_law_deed_here", "_law_some", "_law_spare", "_law_stay", "_law_gone_name"]
def cc__law_after_0:List Str:=["_law_name", "_law_deed_here"]
def cf__law_after_0:List (Option Nat):=[none,some 0]
theorem cn__law_after_0:cc__law_after_0.Nodup:=by decide +kernel
def cc__law_after_1:List Str:=["_law_name", "_law_gone_name"]
def cf__law_after_1:List (Option Nat):=[none,some 4]
theorem cn__law_after_1:cc__law_after_1.Nodup:=by decide +kernel
theorem sc__law_after:FnScope nm__law_after ["_law_deed_here", "_law_some", "_law_spare"] (defScope s__law_after):=⟨rfl,rfl,rfl,by decide +kernel,rfl,by decide +kernel,by decide +kernel⟩
theorem ok__law_after {f:Addr}{fd:FuncData}(F:Fun K "_law_after" "_law_after" s__law_after f fd):FnOk P w K mg base CX0 1 f fd ["_law_deed_here", "_law_some", "_law_spare"] (spD K 3 S__law_after):=by
 refine fnD F sc__law_after fun cdv A outer s H E hr=>?_
 have hu:=hr.units
 have hu1:=zQ (Nat.add_le_add_left (show 1≤64 by decide) _) hu
 refine⟨_,(@pss_cons _ _ _ _ _ (@ps_if _ _ _ _ _ _ _ _ (@pt_cmpR _ _ _ _ _ _ _ _ (@kEq _ (K) rfl hu) (@pe_ix _ _ _ _ _ _ _ (@kIx _ (K) rfl) (@pv _ 0 _ _ (by rfl) (by walk_at "lc") (by decide) (by decide)) (@pe_int _ _ _ _) (fun _ _=>rfl)) (@pe_str _ _ _ _) (@nomark _ _ (by decide) (by decide))) (@pss_one _ _ _ (@ps_ret _ _ _ _ (@pe_tup _ _ _ _ _ (@pa_cons _ _ _ _ _ (@pe_op _ _ _ _ _ _ _ _ (@kAddB _ (K) rfl) (@pv _ 1 _ _ (by rfl) (by walk_at "lc") (by decide) (by decide)) (@pe_lst _ _ _ _ (@pa_cons _ _ _ _ _ (@pe_ix _ _ _ _ _ _ _ (@kIx _ (K) rfl) (@pv _ 0 _ _ (by rfl) (by walk_at "lc") (by decide) (by decide)) (@pe_int _ _ _ _) (fun _ _=>rfl)) (@pa_nil _) (by rfl)))) (@pa_cons _ _ _ _ _ (@pe_slice _ _ _ _ _ _ _ _ _ _ (@kSlB _ (K) rfl) (@pv _ 2 _ _ (by rfl) (by walk_at "lc") (by decide) (by decide)) (@po_some _ _ _ (@pe_int _ _ _ _)) (@po_none _)) (@pa_nil _) (by rfl)) (by rfl))))) (@pss_nil _)) (@pss_cons _ _ _ _ _ (@ps_if _ _ _ _ _ _ _ _ (@pt_cmpR _ _ _ _ _ _ _ _ (@kIn _ (K) rfl) (@pe_ix _ _ _ _ _ _ _ (@kIx _ (K) rfl) (@pv _ 0 _ _ (by rfl) (by walk_at "lc") (by decide) (by decide)) (@pe_int _ _ _ _) (fun _ _=>rfl)) (@pe_lst _ _ _ _ (@pa_cons _ _ _ _ _ (@pe_str _ _ _ _) (@pa_cons _ _ _ _ _ (@pe_str _ _ _ _) (@pa_nil _) (by rfl)) (by rfl))) (by with_unfolding_all rfl)) (@pss_cons _ _ _ _ _ (@ps_setc _ _ _ _ _ _ _ _ _ _ _ _ _ (3) _ _ _ rfl sc__law_after.nd rfl (by walk_at "lc") (@L2.CSc.of _ _ (cc__law_after_0) (cf__law_after_0) (defScope s__law_after) (nm__law_after) (by decide +kernel) rfl rfl) (@kIter _ (K) _ _ _ rfl (@pv _ 1 _ _ (by rfl) (by walk_at "lc") (by decide) (by decide))) (fun C s' H' ex' pn'=>⟨@pg_name _ _ (0) _ cn__law_after_0 rfl (by walk_at "lc") (by first   | exact .inl rfl   | exact .inr rfl   | assumption),(@pts_one _ _ _ (@L2.PW.pt _ _ _ (@pw_or _ _ _ _ _ _ _ (@pt_cmpR _ _ _ _ _ _ _ _ (@kNe _ (K) rfl hu) (@pv _ 0 _ _ (by rfl) (by walk_at "lc") (by decide) (by decide)) (@pe_ix _ _ _ _ _ _ _ (@kIx _ (K) rfl) (@pv _ 1 _ _ (by rfl) (by walk_at "lc") (by decide) (by decide)) (@pe_int _ _ _ _) (fun _ _=>rfl)) (@nomark _ _ (by decide) (by decide))) (@pw_or1 _ _ _ _ (@pt_cmpR _ _ _ _ _ _ _ _ (@kEq _ (K) rfl hu) (@pe_ix _ _ _ _ _ _ _ (@kIx _ (K) rfl) (@pv _ 1 _ _ (by rfl) (by walk_at "lc") (by decide) (by decide)) (@pe_int _ _ _ _) (fun _ _=>rfl)) (@pe_str _ _ _ _) (@nomark _ _ (by decide) (by decide))))))),(@pv _ 0 _ _ (by rfl) (by walk_at "lc") (by decide) (by decide))⟩) rfl (by first   | exact .inl rfl   | exact .inr rfl   | assumption) (by intro _;rfl)) (@pss_one _ _ _ (@ps_ret _ _ _ _ (@pe_tup _ _ _ _ _ (@pa_cons _ _ _ _ _ (@pe_op _ _ _ _ _ _ _ _ (@kAddB _ (K) rfl) (@pv _ 3 _ _ (by rfl) (by walk_at "lc") (by decide) (by decide)) (@pe_lst _ _ _ _ (@pa_cons _ _ _ _ _ (@pe_ix _ _ _ _ _ _ _ (@kIx _ (K) rfl) (@pv _ 0 _ _ (by rfl) (by walk_at "lc") (by decide) (by decide)) (@pe_int _ _ _ _) (fun _ _=>rfl)) (@pa_nil _) (by rfl)))) (@pa_cons _ _ _ _ _ (@pe_slice _ _ _ _ _ _ _ _ _ _ (@kSlB _ (K) rfl) (@pv _ 2 _ _ (by rfl) (by walk_at "lc") (by decide) (by decide)) (@po_some _ _ _ (@pe_int _ _ _ _)) (@po_none _)) (@pa_nil _) (by rfl)) (by rfl)))))) (@pss_nil _)) (@pss_cons _ _ _ _ _ (@ps_set _ _ (4) _ _ _ _ sc__law_after.nd rfl (by walk_at "lc") (@pe_dget2 _ _ _ _ _ _ _ _ _ hu1 (@pe_disp _ _ _ _ _ (@pps_cons _ _ _ _ _ _ _ _ _ (@pe_str _ _ _ _) (@pe_ix _ _ _ _ _ _ _ (@kIx _ (K) rfl) (@pv _ 0 _ _ (by rfl) (by walk_at "lc") (by decide) (by decide)) (@pe_int _ _ _ _) (fun _ _=>rfl)) (@pps_cons _ _ _ _ _ _ _ _ _ (@pe_str _ _ _ _) (@pe_ix _ _ _ _ _ _ _ (@kIx _ (K) rfl) (@pv _ 0 _ _ (by rfl) (by walk_at "lc") (by decide) (by decide)) (@pe_un _ _ _ _ _ _ (@un_neg _) (@pe_int _ _ _ _)) (fun _ _=>rfl)) (@pps_nil _ _))) rfl rfl (by simp) (by decide)) (@pe_ix _ _ _ _ _ _ _ (@kIx _ (K) rfl) (@pv _ 0 _ _ (by rfl) (by walk_at "lc") (by decide) (by decide)) (@pe_int _ _ _ _) (fun _ _=>rfl)) (@pe_str _ _ _ _) (@L2.M2.mk _ _ _ _ _ _ _ rfl rfl rfl rfl)) (by rfl) (by first   | exact .inl rfl   | exact .inr rfl   | assumption)) (@pss_one _ _ _ (@ps_ret _ _ _ _ (@pe_tup _ _ _ _ _ (@pa_cons _ _ _ _ _ (@pe_comp _ _ _ _ _ _ _ _ _ _ _ _ _ rfl (@L2.CSc.of _ _ (cc__law_after_1) (cf__law_after_1) (defScope s__law_after) (nm__law_after) (by decide +kernel) rfl rfl) (@kIter _ (K) _ _ _ rfl (@pv _ 1 _ _ (by rfl) (by walk_at "lc") (by decide) (by decide))) (fun C s' H' ex' pn'=>⟨@pg_name _ _ (0) _ cn__law_after_1 rfl (by walk_at "lc") (by first   | exact .inl rfl   | exact .inr rfl   | assumption),(@pts_one _ _ _ (@pt_cmpR _ _ _ _ _ _ _ _ (@kNe _ (K) rfl hu) (@pv _ 0 _ _ (by rfl) (by walk_at "lc") (by decide) (by decide)) (@pv _ 1 _ _ (by rfl) (by walk_at "lc") (by decide) (by decide)) (@nomark _ _ (by decide) (by decide)))),(@pv _ 0 _ _ (by rfl) (by walk_at "lc") (by decide) (by decide))⟩) (by intro _;rfl)) (@pa_cons _ _ _ _ _ (@pv _ 2 _ _ (by rfl) (by walk_at "lc") (by decide) (by decide)) (@pa_nil _) (by rfl)) (by rfl)))))))),?_⟩
 rintro xs M hl ⟨D,so,sp,rfl,hr,hno,ha⟩
 have hs26:so.length≤26:=by have:=hno.2.2;rw[yY] at this;omega
 walk_at "r"
 cases D with
 | put x pl k=>
   have hx:nameZ x:=hr.1 x (by simp[Deed.names])
   rw[show Deed.d (Deed.put x pl k) = .tuple [.str (Str.ofString "put"),.str x,.int pl,.int k] from rfl]
   refine d2A_ixt (d:=.str (Str.ofString "put")) (atI_nat (j:=0) rfl) ?_
   walk_at "r"
   refine d2_eq (by decide +kernel) (by decide +kernel) ?_
   rw[if_neg nft,show PyData.eqv (.str (Str.ofString "put")) (.str (Str.ofString "put"))=true from by decide +kernel]
   walk_at "r"
   refine de_lst ?_
   walk_at "r"
   refine d2A_ixt (d:=.str x) (atI_nat (j:=1) rfl) ?_
   walk_at "r"
   refine d2B_addl (by rw[zX];exact zN (Nat.add_le_add_right hs26 1) (by decide)) ?_
   walk_at "r"
   refine dslB_list ?_
   rw[show cutD (sp.map PyData.str) (some 1) none=(sp.drop 1).map .str from(cut_from _ 1).trans (by rw[List.map_drop])]
   walk_at "r"
   refine⟨M,zT M,fun D' so' sp' e=>?_⟩
   obtain⟨rfl,rfl,rfl⟩:=dss_inj (D:=Deed.put x pl k) e
   exact⟨by rw[show(.str x:PyData)=PyData.str x from rfl];simp[strL,namesT,spareT,Deed.made],rfl⟩
 | take x=>
   have hx:nameZ x:=hr.1 x (by simp[Deed.names])
   rw[show Deed.d (Deed.take x) = .tuple [.str (Str.ofString "take"),.str x] from rfl]
   refine d2A_ixt (d:=.str (Str.ofString "take")) (atI_nat (j:=0) rfl) ?_
   walk_at "r"
   refine d2_eq (by decide +kernel) (by decide +kernel) ?_
   rw[if_neg nft,show PyData.eqv (.str (Str.ofString "take")) (.str (Str.ofString "put"))=false from by decide +kernel]
   walk_at "r"
   refine d2A_ixt (d:=.str (Str.ofString "take")) (atI_nat (j:=0) rfl) ?_
   walk_at "r"
   refine de_lst ?_
   walk_at "r"
   refine d2A_inl (ys:=["name", "split"]) ?_
   rw[show decide (Str.ofString "take" ∈ [Str.ofString "name", "split"])=false from by decide +kernel]
   walk_at "r"
   refine de_dget2 ?_
   refine de_dispN fun q hq=>?_
   refine dps_cons ?_
   walk_at "r"
   refine d2A_ixt (d:=.str x) (atI_nat (j:=1) rfl) ?_
   walk_at "r"
   refine dps_cons ?_
   walk_at "r"
   refine d2A_ixt (d:=.str x) rfl ?_
   walk_at "r"
   refine dps_nil ?_
   refine⟨zU,yD rfl,by simp only[zI,List.map_nil];decide +kernel,?_⟩
   rw[yG hq]
   walk_at "r"
   refine d2A_ixt (d:=.str (Str.ofString "take")) (atI_nat (j:=0) rfl) ?_
   walk_at "r"
   rw[show(lookK (Str.ofString "take") (List.map (fun k=>(PyData.str k.1,k.2)) [(Str.ofString "take", .str x),(Str.ofString "join", .str x)])).getD (.str (Str.ofString "")) = .str x from rfl]
   refine de_comp_pure (go_name 0) (by simp[cf__law_after_1]) ?_
   refine diA_list ?_
   walk_at "r"
   refine⟨by rw[zX];exact zQ hs26 (by decide),fun d=>!PyData.eqv d (.str x),id,?_,?_⟩
   · intro d hd M'
     obtain⟨z,hz,rfl⟩:=zL.mp hd
     have hzn:nameZ z:=hno.1 z (by simp[hz])
     walk_at "r"
     refine⟨rfl,?_⟩
     walk_at "r"
     refine d2_eq (shaped_str hzn) (shaped_str hx) ?_
     rw[if_pos rfl]
     walk_at "r"
     refine⟨rfl,rfl,fun _=>?_⟩
     walk_at "r"
     exact⟨rfl,rfl⟩
   rw[others_eqB]
   walk_at "r"
   refine⟨M,zT M,fun D' so' sp' e=>?_⟩
   obtain⟨rfl,rfl,rfl⟩:=dss_inj (D:=Deed.take x) e
   exact⟨rfl,rfl⟩
 | move x pl=>
   have hx:nameZ x:=hr.1 x (by simp[Deed.names])
   rw[show Deed.d (Deed.move x pl) = .tuple [.str (Str.ofString "move"),.str x,.int pl] from rfl]
   refine d2A_ixt (d:=.str (Str.ofString "move")) (atI_nat (j:=0) rfl) ?_
   walk_at "r"
   refine d2_eq (by decide +kernel) (by decide +kernel) ?_
   rw[if_neg nft,show PyData.eqv (.str (Str.ofString "move")) (.str (Str.ofString "put"))=false from by decide +kernel]
   walk_at "r"
   refine d2A_ixt (d:=.str (Str.ofString "move")) (atI_nat (j:=0) rfl) ?_
   walk_at "r"
   refine de_lst ?_
   walk_at "r"
   refine d2A_inl (ys:=["name", "split"]) ?_
   rw[show decide (Str.ofString "move" ∈ [Str.ofString "name", "split"])=false from by decide +kernel]
   walk_at "r"
   refine de_dget2 ?_
   refine de_dispN fun q hq=>?_
   refine dps_cons ?_
   walk_at "r"
   refine d2A_ixt (d:=.str x) (atI_nat (j:=1) rfl) ?_
   walk_at "r"
   refine dps_cons ?_
   walk_at "r"
   refine d2A_ixt (d:=.int pl) rfl ?_
   walk_at "r"
   refine dps_nil ?_
   refine⟨zU,yD rfl,by simp only[zI,List.map_nil];decide +kernel,?_⟩
   rw[yG hq]
   walk_at "r"
   refine d2A_ixt (d:=.str (Str.ofString "move")) (atI_nat (j:=0) rfl) ?_
   walk_at "r"
   rw[show(lookK (Str.ofString "move") (List.map (fun k=>(PyData.str k.1,k.2)) [(Str.ofString "take", .str x),(Str.ofString "join", .int pl)])).getD (.str (Str.ofString "")) = .str (Str.ofString "") from rfl]
   refine de_comp_pure (go_name 0) (by simp[cf__law_after_1]) ?_
   refine diA_list ?_
   walk_at "r"
   refine⟨by rw[zX];exact zQ hs26 (by decide),fun d=>!PyData.eqv d (.str (Str.ofString "")),id,?_,?_⟩
   · intro d hd M'
     obtain⟨z,hz,rfl⟩:=zL.mp hd
     have hzn:nameZ z:=hno.1 z (by simp[hz])
     walk_at "r"
     refine⟨rfl,?_⟩
     walk_at "r"
     refine d2_eq (shaped_str hzn) (by decide +kernel) ?_
     rw[if_pos rfl]
     walk_at "r"
     refine⟨rfl,rfl,fun _=>?_⟩
     walk_at "r"
     exact⟨rfl,rfl⟩
   rw[others_eqB]
   walk_at "r"
   refine⟨M,zT M,fun D' so' sp' e=>?_⟩
   obtain⟨rfl,rfl,rfl⟩:=dss_inj (D:=Deed.move x pl) e
   exact⟨by rw[noempty fun z hz=>hno.1 z (by simp[hz])];rfl,rfl⟩
 | count x k=>
   have hx:nameZ x:=hr.1 x (by simp[Deed.names])
   rw[show Deed.d (Deed.count x k) = .tuple [.str (Str.ofString "count"),.str x,.int k] from rfl]
   refine d2A_ixt (d:=.str (Str.ofString "count")) (atI_nat (j:=0) rfl) ?_
   walk_at "r"
   refine d2_eq (by decide +kernel) (by decide +kernel) ?_
   rw[if_neg nft,show PyData.eqv (.str (Str.ofString "count")) (.str (Str.ofString "put"))=false from by decide +kernel]
   walk_at "r"
   refine d2A_ixt (d:=.str (Str.ofString "count")) (atI_nat (j:=0) rfl) ?_
   walk_at "r"
   refine de_lst ?_
   walk_at "r"
   refine d2A_inl (ys:=["name", "split"]) ?_
   rw[show decide (Str.ofString "count" ∈ [Str.ofString "name", "split"])=false from by decide +kernel]
   walk_at "r"
   refine de_dget2 ?_
   refine de_dispN fun q hq=>?_
   refine dps_cons ?_
   walk_at "r"
   refine d2A_ixt (d:=.str x) (atI_nat (j:=1) rfl) ?_
   walk_at "r"
   refine dps_cons ?_
   walk_at "r"
   refine d2A_ixt (d:=.int k) rfl ?_
   walk_at "r"
   refine dps_nil ?_
   refine⟨zU,yD rfl,by simp only[zI,List.map_nil];decide +kernel,?_⟩
   rw[yG hq]
   walk_at "r"
   refine d2A_ixt (d:=.str (Str.ofString "count")) (atI_nat (j:=0) rfl) ?_
   walk_at "r"
   rw[show(lookK (Str.ofString "count") (List.map (fun k=>(PyData.str k.1,k.2)) [(Str.ofString "take", .str x),(Str.ofString "join", .int k)])).getD (.str (Str.ofString "")) = .str (Str.ofString "") from rfl]
   refine de_comp_pure (go_name 0) (by simp[cf__law_after_1]) ?_
   refine diA_list ?_
   walk_at "r"
   refine⟨by rw[zX];exact zQ hs26 (by decide),fun d=>!PyData.eqv d (.str (Str.ofString "")),id,?_,?_⟩
   · intro d hd M'
     obtain⟨z,hz,rfl⟩:=zL.mp hd
     have hzn:nameZ z:=hno.1 z (by simp[hz])
     walk_at "r"
     refine⟨rfl,?_⟩
     walk_at "r"
     refine d2_eq (shaped_str hzn) (by decide +kernel) ?_
     rw[if_pos rfl]
     walk_at "r"
     refine⟨rfl,rfl,fun _=>?_⟩
     walk_at "r"
     exact⟨rfl,rfl⟩
   rw[others_eqB]
   walk_at "r"
   refine⟨M,zT M,fun D' so' sp' e=>?_⟩
   obtain⟨rfl,rfl,rfl⟩:=dss_inj (D:=Deed.count x k) e
   exact⟨by rw[noempty fun z hz=>hno.1 z (by simp[hz])];rfl,rfl⟩
 | name x y=>
   have hx:nameZ x:=hr.1 x (by simp[Deed.names])
   have hy:nameZ y:=hr.1 y (by simp[Deed.names])
   rw[show Deed.d (Deed.name x y) = .tuple [.str (Str.ofString "name"),.str x,.str y] from rfl]
   refine d2A_ixt (d:=.str (Str.ofString "name")) (atI_nat (j:=0) rfl) ?_
   walk_at "r"
   refine d2_eq (by decide +kernel) (by decide +kernel) ?_
   rw[if_neg nft,show PyData.eqv (.str (Str.ofString "name")) (.str (Str.ofString "put"))=false from by decide +kernel]
   walk_at "r"
   refine d2A_ixt (d:=.str (Str.ofString "name")) (atI_nat (j:=0) rfl) ?_
   walk_at "r"
   refine de_lst ?_
   walk_at "r"
   refine d2A_inl (ys:=["name", "split"]) ?_
   rw[show decide (Str.ofString "name" ∈ [Str.ofString "name", "split"])=true from by decide +kernel]
   walk_at "r"
   refine de_comp_pure (go_name 0) (by simp[cf__law_after_0]) ?_
   refine diA_list ?_
   walk_at "r"
   refine⟨by rw[zX];exact zQ hs26 (by decide),fun d=>!PyData.eqv d (.str x),id,?_,?_⟩
   · intro d hd M'
     obtain⟨z,hz,rfl⟩:=zL.mp hd
     have hzn:nameZ z:=hno.1 z (by simp[hz])
     walk_at "r"
     refine⟨rfl,?_⟩
     walk_at "r"
     refine d2A_ixt (d:=.str x) (atI_nat (j:=1) rfl) ?_
     refine d2_eq (shaped_str hzn) (shaped_str hx) ?_
     rw[if_pos rfl]
     cases hq:PyData.eqv (.str z) (.str x) with
     | false=>
       walk_at "r"
       refine⟨rfl,by show _ = !PyData.eqv (.str z) (.str x);rw[hq];rfl,fun _=>?_⟩
       walk_at "r"
       exact⟨rfl,rfl⟩
     | true=>
       walk_at "r"
       refine d2A_ixt (d:=.str (Str.ofString "name")) (atI_nat (j:=0) rfl) ?_
       walk_at "r"
       refine d2_eq (by decide +kernel) (by decide +kernel) ?_
       rw[if_neg nft,show PyData.eqv (.str (Str.ofString "name")) (.str (Str.ofString "split"))=false from by decide +kernel]
       walk_at "r"
       refine⟨rfl,by show _ = !PyData.eqv (.str z) (.str x);rw[hq];rfl,fun h=>?_⟩
       have h:(!PyData.eqv (.str z) (.str x))=true:=h
       rw[hq] at h;cases h
   rw[others_eqB]
   walk_at "wkd"
   refine d2A_ixt (d:=.str y) (atI_nat (j:=2) rfl) ?_
   walk_at "r"
   refine d2B_addl (by rw[zX];exact zN (Nat.add_le_add_right (zN (yJ _ _) hs26) 1) (by decide)) ?_
   walk_at "r"
   refine dslB_list ?_
   rw[show cutD (sp.map PyData.str) (some 1) none=(sp.drop 1).map .str from(cut_from _ 1).trans (by rw[List.map_drop])]
   walk_at "r"
   refine⟨M,zT M,fun D' so' sp' e=>?_⟩
   obtain⟨rfl,rfl,rfl⟩:=dss_inj (D:=Deed.name x y) e
   exact⟨by simp[strL,namesT,spareT,Deed.made],rfl⟩
 | split x y pl k=>
   have hx:nameZ x:=hr.1 x (by simp[Deed.names])
   have hy:nameZ y:=hr.1 y (by simp[Deed.names])
   rw[show Deed.d (Deed.split x y pl k) = .tuple [.str (Str.ofString "split"),.str x,.str y,.int pl,.int k] from rfl]
   refine d2A_ixt (d:=.str (Str.ofString "split")) (atI_nat (j:=0) rfl) ?_
   walk_at "r"
   refine d2_eq (by decide +kernel) (by decide +kernel) ?_
   rw[if_neg nft,show PyData.eqv (.str (Str.ofString "split")) (.str (Str.ofString "put"))=false from by decide +kernel]
   walk_at "r"
   refine d2A_ixt (d:=.str (Str.ofString "split")) (atI_nat (j:=0) rfl) ?_
   walk_at "r"
   refine de_lst ?_
   walk_at "r"
   refine d2A_inl (ys:=["name", "split"]) ?_
   rw[show decide (Str.ofString "split" ∈ [Str.ofString "name", "split"])=true from by decide +kernel]
   walk_at "r"
   refine de_comp_pure (go_name 0) (by simp[cf__law_after_0]) ?_
   refine diA_list ?_
   walk_at "r"
   refine⟨by rw[zX];exact zQ hs26 (by decide),fun _=>true,id,?_,?_⟩
   · intro d hd M'
     obtain⟨z,hz,rfl⟩:=zL.mp hd
     have hzn:nameZ z:=hno.1 z (by simp[hz])
     walk_at "r"
     refine⟨rfl,?_⟩
     walk_at "r"
     refine d2A_ixt (d:=.str x) (atI_nat (j:=1) rfl) ?_
     refine d2_eq (shaped_str hzn) (shaped_str hx) ?_
     rw[if_pos rfl]
     cases hq:PyData.eqv (.str z) (.str x) with
     | false=>
       walk_at "r"
       refine⟨rfl,rfl,fun _=>?_⟩
       walk_at "r"
       exact⟨rfl,rfl⟩
     | true=>
       walk_at "r"
       refine d2A_ixt (d:=.str (Str.ofString "split")) (atI_nat (j:=0) rfl) ?_
       walk_at "r"
       refine d2_eq (by decide +kernel) (by decide +kernel) ?_
       rw[if_neg nft,show PyData.eqv (.str (Str.ofString "split")) (.str (Str.ofString "split"))=true from by decide +kernel]
       walk_at "r"
       refine⟨rfl,rfl,fun _=>?_⟩
       walk_at "r"
       exact⟨rfl,rfl⟩
   rw[flt0,List.map_id]
   walk_at "wkd"
   refine d2A_ixt (d:=.str y) (atI_nat (j:=2) rfl) ?_
   walk_at "r"
   refine d2B_addl (by rw[zX];exact zN (Nat.add_le_add_right (hs26) 1) (by decide)) ?_
   walk_at "r"
   refine dslB_list ?_
   rw[show cutD (sp.map PyData.str) (some 1) none=(sp.drop 1).map .str from(cut_from _ 1).trans (by rw[List.map_drop])]
   walk_at "r"
   refine⟨M,zT M,fun D' so' sp' e=>?_⟩
   obtain⟨rfl,rfl,rfl⟩:=dss_inj (D:=Deed.split x y pl k) e
   exact⟨by simp[strL,namesT,spareT,Deed.made],rfl⟩
 | join x y=>
   have hx:nameZ x:=hr.1 x (by simp[Deed.names])
   have hy:nameZ y:=hr.1 y (by simp[Deed.names])
   rw[show Deed.d (Deed.join x y) = .tuple [.str (Str.ofString "join"),.str x,.str y] from rfl]
   refine d2A_ixt (d:=.str (Str.ofString "join")) (atI_nat (j:=0) rfl) ?_
   walk_at "r"
   refine d2_eq (by decide +kernel) (by decide +kernel) ?_
   rw[if_neg nft,show PyData.eqv (.str (Str.ofString "join")) (.str (Str.ofString "put"))=false from by decide +kernel]
   walk_at "r"
   refine d2A_ixt (d:=.str (Str.ofString "join")) (atI_nat (j:=0) rfl) ?_
   walk_at "r"
   refine de_lst ?_
   walk_at "r"
   refine d2A_inl (ys:=["name", "split"]) ?_
   rw[show decide (Str.ofString "join" ∈ [Str.ofString "name", "split"])=false from by decide +kernel]
   walk_at "r"
   refine de_dget2 ?_
   refine de_dispN fun q hq=>?_
   refine dps_cons ?_
   walk_at "r"
   refine d2A_ixt (d:=.str x) (atI_nat (j:=1) rfl) ?_
   walk_at "r"
   refine dps_cons ?_
   walk_at "r"
   refine d2A_ixt (d:=.str y) rfl ?_
   walk_at "r"
   refine dps_nil ?_
   refine⟨zU,yD rfl,by simp only[zI,List.map_nil];decide +kernel,?_⟩
   rw[yG hq]
   walk_at "r"
   refine d2A_ixt (d:=.str (Str.ofString "join")) (atI_nat (j:=0) rfl) ?_
   walk_at "r"
   rw[show(lookK (Str.ofString "join") (List.map (fun k=>(PyData.str k.1,k.2)) [(Str.ofString "take", .str x),(Str.ofString "join", .str y)])).getD (.str (Str.ofString "")) = .str y from rfl]
   refine de_comp_pure (go_name 0) (by simp[cf__law_after_1]) ?_
   refine diA_list ?_
   walk_at "r"
   refine⟨by rw[zX];exact zQ hs26 (by decide),fun d=>!PyData.eqv d (.str y),id,?_,?_⟩
   · intro d hd M'
     obtain⟨z,hz,rfl⟩:=zL.mp hd
     have hzn:nameZ z:=hno.1 z (by simp[hz])
     walk_at "r"
     refine⟨rfl,?_⟩
     walk_at "r"
     refine d2_eq (shaped_str hzn) (shaped_str hy) ?_
     rw[if_pos rfl]
     walk_at "r"
     refine⟨rfl,rfl,fun _=>?_⟩
     walk_at "r"
     exact⟨rfl,rfl⟩
   rw[others_eqB]
   walk_at "r"
   refine⟨M,zT M,fun D' so' sp' e=>?_⟩
   obtain⟨rfl,rfl,rfl⟩:=dss_inj (D:=Deed.join x y) e
   exact⟨rfl,rfl⟩
end
section
variable {P:Program}{w:World}{K:Frg}{mg:Str→Option Value}{base:Heap}
abbrev s__law_start:Stmt:=_root_.sT 29
def nm__law_start:List Str:=["_law_pack", "_law_names_here", "_law_amount", "_law_some"]
def cc__law_start_0:List Str:=["_law_k", "_law_names_here", "_law_pack"]
def cf__law_start_0:List (Option Nat):=[none,some 1,some 0]
theorem cn__law_start_0:cc__law_start_0.Nodup:=by decide +kernel
theorem sc__law_start:FnScope nm__law_start ["_law_pack", "_law_names_here", "_law_amount"] (defScope s__law_start):=⟨rfl,rfl,rfl,by decide +kernel,rfl,by decide +kernel,by decide +kernel⟩
theorem ok__law_start {f:Addr}{fd:FuncData}(F:Fun K "_law_start" "_law_start" s__law_start f fd) (n_range:mg "range"=none) (n_sorted:mg "sorted"=none) (n_tuple:mg "tuple"=none) (h__law_take:Has P w K mg base "_law_take" 1 ["_law_pack", "_law_size"] S__law_take):FnOk P w K mg base CX0 2 f fd ["_law_pack", "_law_names_here", "_law_amount"] (spD K 3 S32_start):=by
 refine fnD F sc__law_start fun cdv A outer s H E hr=>?_
 have hu:=hr.units
 refine⟨_,(@pss_cons _ _ _ _ _ (@ps_setc _ _ _ _ _ _ _ _ _ _ _ _ _ (3) _ _ _ rfl sc__law_start.nd rfl (by walk_at "lc") (@L2.CSc.of _ _ (cc__law_start_0) (cf__law_start_0) (defScope s__law_start) (nm__law_start) (by decide +kernel) rfl rfl) (@pi_range1 _ _ _ _ _ _ rfl n_range (@pa_cons _ _ _ _ _ (@pv _ 2 _ _ (by rfl) (by walk_at "lc") (by decide) (by decide)) (@pa_nil _) (by rfl)) (by rfl)) (fun C s' H' ex' pn'=>⟨@pg_name _ _ (0) _ cn__law_start_0 rfl (by walk_at "lc") (by first   | exact .inl rfl   | exact .inr rfl   | assumption),@pts_nil _,(@pe_tup _ _ _ _ _ (@pa_cons _ _ _ _ _ (@pe_ix _ _ _ _ _ _ _ (@kIx _ (K) rfl) (@pv _ 1 _ _ (by rfl) (by walk_at "lc") (by decide) (by decide)) (@pv _ 0 _ _ (by rfl) (by walk_at "lc") (by decide) (by decide)) (fun _ _=>rfl)) (@pa_cons _ _ _ _ _ (@kCall _ (K) (P) (w) (mg) (base) _ _ _ _ _ _ _ _ _ rfl rfl rfl rfl rfl h__law_take (hr.mono (by decide)) rfl (@pa_cons _ _ _ _ _ (@pv _ 2 _ _ (by rfl) (by walk_at "lc") (by decide) (by decide)) (@pa_cons _ _ _ _ _ (@pe_int _ _ _ _) (@pa_nil _) (by rfl)) (by rfl)) (by decide) (by rfl) (by rfl)) (@pa_cons _ _ _ _ _ (@pe_op _ _ _ _ _ _ _ _ (@op_sub _) (@kCall _ (K) (P) (w) (mg) (base) _ _ _ _ _ _ _ _ _ rfl rfl rfl rfl rfl h__law_take (hr.mono (by decide)) rfl (@pa_cons _ _ _ _ _ (@pv _ 2 _ _ (by rfl) (by walk_at "lc") (by decide) (by decide)) (@pa_cons _ _ _ _ _ (@pe_int _ _ _ _) (@pa_nil _) (by rfl)) (by rfl)) (by decide) (by rfl) (by rfl)) (@pe_int _ _ _ _)) (@pa_nil _) (by rfl)) (by rfl)) (by rfl)))⟩) rfl (by first   | exact .inl rfl   | exact .inr rfl   | assumption) (by intro _;rfl)) (@pss_one _ _ _ (@ps_ret _ _ _ _ (@pe_callTy _ _ _ _ _ _ _ _ _ (@kTuple _ (K) rfl) (by rfl) n_tuple PyProof.Rows.boot_tuple (@pa_cons _ _ _ _ _ (@pe_callB _ _ _ _ _ _ _ _ _ (@kSortA _ (K) rfl rfl) (by rfl) n_sorted PyProof.Rows.boot_sorted (@pa_cons _ _ _ _ _ (@pv _ 3 _ _ (by rfl) (by walk_at "lc") (by decide) (by decide)) (@pa_nil _) (by rfl)) (by decide) (by decide) (by rfl) (by rfl)) (@pa_nil _) (by rfl)) (by decide) (by decide) (by rfl) (by rfl))))),?_⟩
 rintro xs M hl ⟨p,o,ys,n,rfl,m,ho,hy,hn⟩
 have h26:n≤26:=zN hn hy.2.2
 walk_at "dl";walk_at "dl"
 refine de_comp (go_name 0) (by simp[cf__law_start_0]) ?_
 refine di_rng1 ?_
 walk_at "r"
 refine⟨by omega,by omega,?_⟩
 have hnn:(intsD 0 (n:Int).toNat).length=n:=by simp[intsD]
 refine⟨by rw[hnn];exact zQ h26 (by decide),fun A hA=>?_⟩
 have hpA:p≠A:=by rintro rfl;rw[m] at hA;cases hA
 refine⟨fun k acc M'=>∃(w:List Th) (o2:MO),acc=w.map thD∧w.length=k∧w.map (·.1)=ys.take k∧pack1 o2∧M'=(M.put p o2).put A (.l acc),⟨[],o,rfl,rfl,by simp,ho,by rw[Own.put_self m]⟩,?_,?_,?_⟩
 · rintro k acc M' ⟨w,o2,rfl,hk,-,-,rfl⟩
   exact⟨zU,by simp[hk]⟩
 · rintro k d acc M' hd ⟨w,o2,rfl,hk,hw,ho2,rfl⟩
   have hkn:k < n:=by rw[← hnn];exact(yT.mp hd).1
   have ed:d = .int k:=by
     unfold intsD at hd
     rw[zF,yA (by omega)] at hd
     simp at hd;exact hd.symm
   subst ed
   have hky:k < ys.length:=by omega
   have hg:(ys.map PyData.str)[k]?=some (.str ys[k]):=by rw[zF,zV hky];rfl
   walk_at "r"
   refine d2A_ixl (atI_nat hg) ?_
   walk_at "r"
   refine take_call (by rw[yH hpA];exact zU) ho2 (by decide) (by decide) fun v o3 h0 h1 ho3=>?_
   walk_at "r"
   refine take_call zU ho3 (by decide) (by decide) fun v2 o4 _ _ ho4=>?_
   walk_at "r"
   refine⟨by rw[yI,yH hpA.symm];exact zU,w++[(ys[k],v,v2 - 20)],o4,by simp[thD],by simp[hk],by rw[xI,hw,List.take_add_one,zV hky];rfl,ho4,?_⟩
   · rw[yI];exact put_swap hpA
 · rintro acc M' ⟨w,o2,rfl,hk,hw,ho2,rfl⟩
   rw[hnn] at hk hw
   rw[yG (by rw[yH hpA.symm];exact hA)]
   walk_at "r"
   have ndw:(w.map (·.1)).Nodup:=by rw[hw];exact hy.2.1.sublist (List.take_sublist _ _)
   rw[← tupB_wT2]
   refine rd_sortT (by rw[zD];exact ndw) (by rw[zX];omega) fun ts' hp hlt=>?_
   obtain⟨u1,u2,u3⟩:=unB_perm hp
   rw[u2]
   walk_at "r"
   refine rd_tupl ?_
   refine⟨M.put p o2,zT _,fun p' ys' n' e=>?_⟩
   simp only[List.cons.injEq,DS.loc.injEq,DS.d.injEq,PyData.int.injEq,Int.ofNat_inj,and_true] at e
   obtain⟨rfl,e,rfl⟩:=e
   have e:=strL_inj e
   subst e
   exact⟨ts'.map unB,o2,rfl,ho2,rfl⟩
end
section
variable {P:Program}{w:World}{K:Frg}{mg:Str→Option Value}{base:Heap}
abbrev s__law_book:Stmt:=_root_.sT 30
def nm__law_book:List Str:=["_law_head", "_law_cells", "_law_pack", "_law_spare", "_law_amount", "_law_start_here", "_law_some", "_law_lines", "_law_cell", "_law_digits", "_law_hand", "_law_deed_here"]
theorem sc__law_book:FnScope nm__law_book ["_law_head", "_law_cells"] (defScope s__law_book):=⟨rfl,rfl,rfl,by decide +kernel,rfl,by decide +kernel,by decide +kernel⟩
theorem ok__law_book {f:Addr}{fd:FuncData}(F:Fun K "_law_book" "_law_book" s__law_book f fd) (n_tuple:mg "tuple"=none) (h__law_after:Has P w K mg base "_law_after" 1 ["_law_deed_here", "_law_some", "_law_spare"] S__law_after) (h__law_deed:Has P w K mg base "_law_deed" 2 ["_law_pack", "_law_some", "_law_spare"] S__law_deed) (h__law_mixed:Has P w K mg base "_law_mixed" 1 ["_law_cell"] S__law_mixed) (h__law_names:Has P w K mg base "_law_names" 2 ["_law_pack", "_law_amount"] S__law_names) (h__law_start:Has P w K mg base "_law_start" 2 ["_law_pack", "_law_names_here", "_law_amount"] S32_start) (h__law_take:Has P w K mg base "_law_take" 1 ["_law_pack", "_law_size"] S__law_take):FnOk P w K mg base CX0 3 f fd ["_law_head", "_law_cells"] (spD K 2 S32_book):=by
 refine fnD F sc__law_book fun cdv A outer s H E hr=>?_
 have hu:=hr.units
 refine⟨_,(@pss_cons _ _ _ _ _ (@ps_set _ _ (2) _ _ _ _ sc__law_book.nd rfl (by walk_at "lc") (@pe_lst _ _ _ _ (@pa_cons _ _ _ _ _ (@kCall _ (K) (P) (w) (mg) (base) _ _ _ _ _ _ _ _ _ rfl rfl rfl rfl rfl h__law_mixed (hr.mono (by decide)) rfl (@pa_cons _ _ _ _ _ (@pv _ 0 _ _ (by rfl) (by walk_at "lc") (by decide) (by decide)) (@pa_nil _) (by rfl)) (by decide) (by rfl) (by rfl)) (@pa_nil _) (by rfl))) (by rfl) (by first   | exact .inl rfl   | exact .inr rfl   | assumption)) (@pss_cons _ _ _ _ _ (@ps_set _ _ (3) _ _ _ _ sc__law_book.nd rfl (by walk_at "lc") (@kCall _ (K) (P) (w) (mg) (base) _ _ _ _ _ _ _ _ _ rfl rfl rfl rfl rfl h__law_names (hr.mono (by decide)) rfl (@pa_cons _ _ _ _ _ (@pv _ 2 _ _ (by rfl) (by walk_at "lc") (by decide) (by decide)) (@pa_cons _ _ _ _ _ (@pe_int _ _ _ _) (@pa_nil _) (by rfl)) (by rfl)) (by decide) (by rfl) (by rfl)) (by rfl) (by first   | exact .inl rfl   | exact .inr rfl   | assumption)) (@pss_cons _ _ _ _ _ (@ps_set _ _ (4) _ _ _ _ sc__law_book.nd rfl (by walk_at "lc") (@kCall _ (K) (P) (w) (mg) (base) _ _ _ _ _ _ _ _ _ rfl rfl rfl rfl rfl h__law_take (hr.mono (by decide)) rfl (@pa_cons _ _ _ _ _ (@pv _ 2 _ _ (by rfl) (by walk_at "lc") (by decide) (by decide)) (@pa_cons _ _ _ _ _ (@pe_int _ _ _ _) (@pa_nil _) (by rfl)) (by rfl)) (by decide) (by rfl) (by rfl)) (by rfl) (by first   | exact .inl rfl   | exact .inr rfl   | assumption)) (@pss_cons _ _ _ _ _ (@ps_set _ _ (5) _ _ _ _ sc__law_book.nd rfl (by walk_at "lc") (@kCall _ (K) (P) (w) (mg) (base) _ _ _ _ _ _ _ _ _ rfl rfl rfl rfl rfl h__law_start (hr.mono (by decide)) rfl (@pa_cons _ _ _ _ _ (@pv _ 2 _ _ (by rfl) (by walk_at "lc") (by decide) (by decide)) (@pa_cons _ _ _ _ _ (@pv _ 3 _ _ (by rfl) (by walk_at "lc") (by decide) (by decide)) (@pa_cons _ _ _ _ _ (@pv _ 4 _ _ (by rfl) (by walk_at "lc") (by decide) (by decide)) (@pa_nil _) (by rfl)) (by rfl)) (by rfl)) (by decide) (by rfl) (by rfl)) (by rfl) (by first   | exact .inl rfl   | exact .inr rfl   | assumption)) (@pss_cons _ _ _ _ _ (@ps_set _ _ (6) _ _ _ _ sc__law_book.nd rfl (by walk_at "lc") (@pe_slice _ _ _ _ _ _ _ _ _ _ (@kSlB _ (K) rfl) (@pv _ 3 _ _ (by rfl) (by walk_at "lc") (by decide) (by decide)) (@po_none _) (@po_some _ _ _ (@pv _ 4 _ _ (by rfl) (by walk_at "lc") (by decide) (by decide)))) (by rfl) (by first   | exact .inl rfl   | exact .inr rfl   | assumption)) (@pss_cons _ _ _ _ _ (@ps_set _ _ (3) _ _ _ _ sc__law_book.nd rfl (by walk_at "lc") (@pe_slice _ _ _ _ _ _ _ _ _ _ (@kSlB _ (K) rfl) (@pv _ 3 _ _ (by rfl) (by walk_at "lc") (by decide) (by decide)) (@po_some _ _ _ (@pv _ 4 _ _ (by rfl) (by walk_at "lc") (by decide) (by decide))) (@po_none _)) (by rfl) (by first   | exact .inl rfl   | exact .inr rfl   | assumption)) (@pss_cons _ _ _ _ _ (@ps_set _ _ (7) _ _ _ _ sc__law_book.nd rfl (by walk_at "lc") (@pe_lst _ _ _ _ (@pa_nil _)) (by rfl) (by first   | exact .inl rfl   | exact .inr rfl   | assumption)) (@pss_cons _ _ _ _ _ (@ps_for _ _ _ _ _ _ _ _ PassesOwn.never rfl (@kIter _ (K) _ _ _ rfl (@pv _ 1 _ _ (by rfl) (by walk_at "lc") (by decide) (by decide))) (@pg_name _ _ (8) _ sc__law_book.nd rfl (by walk_at "lc") (by first   | exact .inl rfl   | exact .inr rfl   | assumption)) (@pss_cons _ _ _ _ _ (@ps_set _ _ (9) _ _ _ _ sc__law_book.nd rfl (by walk_at "lc") (@pe_lst _ _ _ _ (@pa_cons _ _ _ _ _ (@kCall _ (K) (P) (w) (mg) (base) _ _ _ _ _ _ _ _ _ rfl rfl rfl rfl rfl h__law_mixed (hr.mono (by decide)) rfl (@pa_cons _ _ _ _ _ (@pv _ 8 _ _ (by rfl) (by walk_at "lc") (by decide) (by decide)) (@pa_nil _) (by rfl)) (by decide) (by rfl) (by rfl)) (@pa_nil _) (by rfl))) (by rfl) (by first   | exact .inl rfl   | exact .inr rfl   | assumption)) (@pss_cons _ _ _ _ _ (@ps_set _ _ (10) _ _ _ _ sc__law_book.nd rfl (by walk_at "lc") (@pe_ix _ _ _ _ _ _ _ (@kIx _ (K) rfl) (@pe_lst _ _ _ _ (@pa_cons _ _ _ _ _ (@pe_str _ _ _ _) (@pa_cons _ _ _ _ _ (@pe_str _ _ _ _) (@pa_cons _ _ _ _ _ (@pe_str _ _ _ _) (@pa_nil _) (by rfl)) (by rfl)) (by rfl))) (@kCall _ (K) (P) (w) (mg) (base) _ _ _ _ _ _ _ _ _ rfl rfl rfl rfl rfl h__law_take (hr.mono (by decide)) rfl (@pa_cons _ _ _ _ _ (@pv _ 9 _ _ (by rfl) (by walk_at "lc") (by decide) (by decide)) (@pa_cons _ _ _ _ _ (@pe_int _ _ _ _) (@pa_nil _) (by rfl)) (by rfl)) (by decide) (by rfl) (by rfl)) (fun _ _=>rfl)) (by rfl) (by first   | exact .inl rfl   | exact .inr rfl   | assumption)) (@pss_one _ _ _ (@ps_if _ _ _ _ _ _ _ _ (@L2.PW.pt _ _ _ (@pw_or _ _ _ _ _ _ _ (@pt_cmpR _ _ _ _ _ _ _ _ (@kNe _ (K) rfl hu) (@pv _ 6 _ _ (by rfl) (by walk_at "lc") (by decide) (by decide)) (@pe_lst _ _ _ _ (@pa_nil _)) (@nomark _ _ (by decide) (by decide))) (@pw_or1 _ _ _ _ (@pt_cmpR _ _ _ _ _ _ _ _ (@kNe _ (K) rfl hu) (@pv _ 3 _ _ (by rfl) (by walk_at "lc") (by decide) (by decide)) (@pe_lst _ _ _ _ (@pa_nil _)) (@nomark _ _ (by decide) (by decide)))))) (@pss_cons _ _ _ _ _ (@ps_set _ _ (11) _ _ _ _ sc__law_book.nd rfl (by walk_at "lc") (@kCall _ (K) (P) (w) (mg) (base) _ _ _ _ _ _ _ _ _ rfl rfl rfl rfl rfl h__law_deed (hr.mono (by decide)) rfl (@pa_cons _ _ _ _ _ (@pv _ 9 _ _ (by rfl) (by walk_at "lc") (by decide) (by decide)) (@pa_cons _ _ _ _ _ (@pv _ 6 _ _ (by rfl) (by walk_at "lc") (by decide) (by decide)) (@pa_cons _ _ _ _ _ (@pv _ 3 _ _ (by rfl) (by walk_at "lc") (by decide) (by decide)) (@pa_nil _) (by rfl)) (by rfl)) (by rfl)) (by decide) (by rfl) (by rfl)) (by rfl) (by first   | exact .inl rfl   | exact .inr rfl   | assumption)) (@pss_cons _ _ _ _ _ (@ps_asg _ _ _ _ _ _ (@kCall _ (K) (P) (w) (mg) (base) _ _ _ _ _ _ _ _ _ rfl rfl rfl rfl rfl h__law_after (hr.mono (by decide)) rfl (@pa_cons _ _ _ _ _ (@pv _ 11 _ _ (by rfl) (by walk_at "lc") (by decide) (by decide)) (@pa_cons _ _ _ _ _ (@pv _ 6 _ _ (by rfl) (by walk_at "lc") (by decide) (by decide)) (@pa_cons _ _ _ _ _ (@pv _ 3 _ _ (by rfl) (by walk_at "lc") (by decide) (by decide)) (@pa_nil _) (by rfl)) (by rfl)) (by rfl)) (by decide) (by rfl) (by rfl)) (@kTupA _ (K) _ _ _ _ (2) rfl rfl (@pgs_cons _ _ _ _ _ (@pg_name _ _ (6) _ sc__law_book.nd rfl (by walk_at "lc") (by first   | exact .inl rfl   | exact .inr rfl   | assumption)) (@pgs_cons _ _ _ _ _ (@pg_name _ _ (3) _ sc__law_book.nd rfl (by walk_at "lc") (by first   | exact .inl rfl   | exact .inr rfl   | assumption)) (@pgs_nil _) (by rfl)) (by rfl)) (by rfl) (by rfl)) (by rfl) (by rfl) (by rfl)) (@pss_one _ _ _ (@ps_expr _ _ _ _ (@kBm _ (K) _ _ _ _ _ _ _ _ _ _ _ rfl PySem.F.plainAttrs_list PySem.F.slot_list_append PySem.F.type_list_append (@kAppendM _) (@pv _ 7 _ _ (by rfl) (by walk_at "lc") (by decide) (by decide)) (@pa_cons _ _ _ _ _ (@pe_tup _ _ _ _ _ (@pa_cons _ _ _ _ _ (@pv _ 10 _ _ (by rfl) (by walk_at "lc") (by decide) (by decide)) (@pa_cons _ _ _ _ _ (@pv _ 11 _ _ (by rfl) (by walk_at "lc") (by decide) (by decide)) (@pa_nil _) (by rfl)) (by rfl))) (@pa_nil _) (by rfl)) (by rfl) (by rfl) (by rfl) (by rfl) (by rfl)) (by rfl))))) (@pss_nil _))))) (by intro _;rfl)) (@pss_one _ _ _ (@ps_ret _ _ _ _ (@pe_tup _ _ _ _ _ (@pa_cons _ _ _ _ _ (@pv _ 5 _ _ (by rfl) (by walk_at "lc") (by decide) (by decide)) (@pa_cons _ _ _ _ _ (@pe_callTy _ _ _ _ _ _ _ _ _ (@kTuple _ (K) rfl) (by rfl) n_tuple PyProof.Rows.boot_tuple (@pa_cons _ _ _ _ _ (@pv _ 7 _ _ (by rfl) (by walk_at "lc") (by decide) (by decide)) (@pa_nil _) (by rfl)) (by decide) (by decide) (by rfl) (by rfl)) (@pa_nil _) (by rfl)) (by rfl))))))))))))),?_⟩
 rintro xs M hl ⟨h,cs,rfl,hh,hcs,hcl⟩
 walk_at "r"
 refine de_lstO ?_
 walk_at "r"
 refine mixed_call hh fun v=>?_
 walk_at "r"
 intro p hp
 walk_at "r"
 refine names_call zU ⟨v,rfl⟩ (by decide) (by decide) fun ys o1 hyl hy hyb hyn ho1=>?_
 rw[yI]
 walk_at "r"
 refine take_call zU ho1 (by decide) (by decide) fun va o2 a0 a1 ho2=>?_
 rw[yI]
 obtain⟨n,rfl⟩:∃n:Nat,va=(n:Int):=⟨va.toNat,by omega⟩
 have hyok:namesOK ys:=⟨hy,hyn,by omega⟩
 walk_at "r"
 refine start32_call zU ho2 hyok (by omega) fun w0 o3 ho3=>?_
 rw[yI]
 walk_at "r"
 refine dslB_list ?_
 rw[cut_to,← List.map_take]
 walk_at "r"
 refine dslB_list ?_
 rw[cut_from,← List.map_drop]
 walk_at "r"
 refine de_lstO ?_
 walk_at "r"
 intro A hA
 have hpA:p≠A:=by rintro rfl;rw[zU] at hA;cases hA
 have hMA:M A=none:=by rw[yH hpA.symm] at hA;exact hA
 walk_at "wks"
 refine ds_cut (fun ρ1 M1=>∃(ls:List (Str×Deed)) (so sp:List Str) (x1 x2 x3 x4:Option DS),M.Sub M1∧M1 A=some (.l (ls.map lineD))∧goodB w0 ls∧ls.length≤cs.length∧ρ1=[some (.d (.int h)),some (.d (.list (cs.map .int))),some (.loc p),some (.d (strL sp)),some (.d (.int n)),some (.d (wD w0)),some (.d (strL so)),some (.loc A),x1,x2,x3,x4]) ?_ ?_
 · refine ds_for ?_
   refine diA_list ?_
   walk_at "r"
   refine⟨fun k ρ1 M1=>k≤cs.length∧∃(ls:List (Str×Deed)) (so sp:List Str) (x1 x2 x3 x4:Option DS),M.Sub M1∧M1 A=some (.l (ls.map lineD))∧(freshP (ys.take n) (ys.drop n) (ls.map (·.2))∧endSS (ys.take n) (ys.drop n) (ls.map (·.2))=(so,sp))∧(∀l∈ls,nameZ l.1)∧ls.length≤k∧namesOK (so++sp)∧ρ1=[some (.d (.int h)),some (.d (.list (cs.map .int))),some (.loc p),some (.d (strL sp)),some (.d (.int n)),some (.d (wD w0)),some (.d (strL so)),some (.loc A),x1,x2,x3,x4],⟨xT _,[],ys.take n,ys.drop n,_,_,_,_,?_,zU,⟨trivial,rfl⟩,by simp,by simp,by rw[List.take_append_drop];exact hyok,rfl⟩,?_,?_⟩
   · exact((zT M).put hp).put hMA
   · rintro k d ρ1 M1 hd ⟨hkc,ls,so,sp,x1,x2,x3,x4,hsub,hMa,hb,hnl,hlk,hno,rfl⟩
     have hkl:k < cs.length:=by have:=(yT.mp hd).1;simpa using this
     obtain⟨c,hc,rfl⟩:=zL.mp (yN hd)
     walk_at "r"
     refine de_lstO ?_
     walk_at "r"
     refine mixed_call (hcs c hc) fun v2=>?_
     walk_at "r"
     intro q hq
     have hqA:q≠A:=by rintro rfl;rw[hMa] at hq;cases hq
     have hMq:M q=none:=by
       cases e:M q with
       | none=>rfl
       | some ob=>rw[hsub q ob e] at hq;cases hq
     walk_at "r"
     refine de_lst ?_
     walk_at "r"
     refine take_call zU ⟨v2,rfl⟩ (by decide) (by decide) fun v3 o4 b0 b1 ho4=>?_
     rw[yI]
     obtain⟨hd',ehd,mhd⟩:=atI_str (ys:=[Str.ofString "me", "you", "abcdefgh"]) b0 b1
     refine d2A_ixl (d:=.str hd') ehd ?_
     have hs1:zH (strL so)=true:=shaped_names fun z hz=>hno.1 z (by simp[hz])
     have hs2:zH (strL sp)=true:=shaped_names fun z hz=>hno.1 z (by simp[hz])
     walk_at "wkd"
     refine d2_eq hs1 rfl ?_
     rw[if_pos rfl,list_nil_eq]
     have keep:∀ob:MO,M.Sub (M1.put q ob):=fun ob b o e=>by
       rw[yH (by rintro rfl;rw[hMq] at e;cases e)];exact hsub b o e
     cases hso:so.isEmpty with
     | false=>
       have hne:so≠[]∨sp≠[]:=.inl fun q=>by rw[q] at hso;cases hso
       walk_at "r"
       · refine deedB_call zU ho4 hno hne fun D o5 hr ha hm ho5=>?_
         rw[yI]
         walk_at "r"
         refine ds_asg ?_
         walk_at "r"
         refine after_call hr hno ha ?_
         walk_at "r"
         refine de_bm ?_
         walk_at "dl"
         refine⟨dty_loc (ds:=ls.map lineD) (by rw[yH hqA.symm];exact hMa),?_⟩
         walk_at "r"
         refine dm_append (ds:=ls.map lineD) (by rw[yH hqA.symm];exact hMa) (by rw[zX];exact zQ (show _≤50 by omega) (by decide)) ?_
         refine⟨by omega,ls++[(hd',D)],namesT so D,spareT sp D,_,_,_,_,?_,?_,?_,?_,?_,hno.sub (after_sub hm),rfl⟩
         · intro b o e
           rw[yH (by rintro rfl;rw[hMA] at e;cases e)]
           exact keep _ b o e
         · rw[xI];exact zU
         · rw[xI];exact fresh_snoc hb.1 hb.2 ha hm hr
         · intro l hl'
           rcases yW.mp hl' with q1 | q1
           · exact hnl l q1
           · have:l=(hd',D):=by simpa using q1
             subst this;exact hands_ok _ mhd
         · rw[yY];simp;omega
     | true=>
       walk_at "wkd"
       refine d2_eq hs2 rfl ?_
       rw[if_pos rfl,list_nil_eq]
       cases hsp:sp.isEmpty with
       | false=>
         have hne:so≠[]∨sp≠[]:=.inr fun q=>by rw[q] at hsp;cases hsp
         walk_at "r"
         · refine deedB_call zU ho4 hno hne fun D o5 hr ha hm ho5=>?_
           rw[yI]
           walk_at "r"
           refine ds_asg ?_
           walk_at "r"
           refine after_call hr hno ha ?_
           walk_at "r"
           refine de_bm ?_
           walk_at "dl"
           refine⟨dty_loc (ds:=ls.map lineD) (by rw[yH hqA.symm];exact hMa),?_⟩
           walk_at "r"
           refine dm_append (ds:=ls.map lineD) (by rw[yH hqA.symm];exact hMa) (by rw[zX];exact zQ (show _≤50 by omega) (by decide)) ?_
           refine⟨by omega,ls++[(hd',D)],namesT so D,spareT sp D,_,_,_,_,?_,?_,?_,?_,?_,hno.sub (after_sub hm),rfl⟩
           · intro b o e
             rw[yH (by rintro rfl;rw[hMA] at e;cases e)]
             exact keep _ b o e
           · rw[xI];exact zU
           · rw[xI];exact fresh_snoc hb.1 hb.2 ha hm hr
           · intro l hl'
             rcases yW.mp hl' with q1 | q1
             · exact hnl l q1
             · have:l=(hd',D):=by simpa using q1
               subst this;exact hands_ok _ mhd
           · rw[yY];simp;omega
       | true=>
         walk_at "r"
         exact⟨by omega,ls,so,sp,_,_,_,_,keep _,by rw[yH hqA.symm];exact hMa,hb,hnl,by omega,hno,rfl⟩
   · rintro ρ1 M1 ⟨hkc,ls,so,sp,x1,x2,x3,x4,hsub,hMa,hb,hnl,hlk,hno,rfl⟩
     rw[zX] at hlk
     have hfa:=fresh_all _ _ _ hb.1 (by rw[List.take_append_drop];exact hyok.2.1)
     exact⟨ls,so,sp,x1,x2,x3,x4,hsub,hMa,⟨hfa.2,fun l hl=>fresh_real hb.1 _ (zL.mpr ⟨l,hl,rfl⟩),by omega,hnl⟩,hlk,rfl⟩
 · rintro ρ1 M1 ⟨ls,so,sp,x1,x2,x3,x4,hsub,hMa,hreal,hlc,rfl⟩
   walk_at "r"
   refine rd_tuplO hMa ?_
   walk_at "r"
   exact⟨M,hsub,rfl,w0,ls,rfl,hreal⟩
end
section
variable {P:Program}{w:World}{K:Frg}{mg:Str→Option Value}{base:Heap}
abbrev s__law_made:Stmt:=_root_.sT 31
def nm__law_made:List Str:=["_law_deed_here"]
theorem sc__law_made:FnScope nm__law_made ["_law_deed_here"] (defScope s__law_made):=⟨rfl,rfl,rfl,by decide +kernel,rfl,by decide +kernel,by decide +kernel⟩
theorem ok__law_made {f:Addr}{fd:FuncData}(F:Fun K "_law_made" "_law_made" s__law_made f fd) (n_len:mg "len"=none) (n_min:mg "min"=none):FnOk P w K mg base CX0 1 f fd ["_law_deed_here"] (spD K 1 S__law_made):=by
 refine fnD F sc__law_made fun cdv A outer s H E hr=>?_
 have hu:=hr.units
 have hu1:=zQ (Nat.add_le_add_left (show 1≤64 by decide) _) hu
 refine⟨_,(@pss_one _ _ _ (@ps_ret _ _ _ _ (@pe_dget2 _ _ _ _ _ _ _ _ _ hu1 (@pe_disp _ _ _ _ _ (@pps_cons _ _ _ _ _ _ _ _ _ (@pe_str _ _ _ _) (@pe_ix _ _ _ _ _ _ _ (@kIx _ (K) rfl) (@pv _ 0 _ _ (by rfl) (by walk_at "lc") (by decide) (by decide)) (@pe_int _ _ _ _) (fun _ _=>rfl)) (@pps_cons _ _ _ _ _ _ _ _ _ (@pe_str _ _ _ _) (@pe_ix _ _ _ _ _ _ _ (@kIx _ (K) rfl) (@pv _ 0 _ _ (by rfl) (by walk_at "lc") (by decide) (by decide)) (@pe_un _ _ _ _ _ _ (@un_neg _) (@pe_int _ _ _ _)) (fun _ _=>rfl)) (@pps_cons _ _ _ _ _ _ _ _ _ (@pe_str _ _ _ _) (@pe_ix _ _ _ _ _ _ _ (@kIx _ (K) rfl) (@pv _ 0 _ _ (by rfl) (by walk_at "lc") (by decide) (by decide)) (@pe_callB _ _ _ _ _ _ _ _ _ (@kMin _ (K) rfl rfl) (by rfl) n_min PyProof.Rows.boot_min (@pa_cons _ _ _ _ _ (@pe_int _ _ _ _) (@pa_cons _ _ _ _ _ (@pe_op _ _ _ _ _ _ _ _ (@op_sub _) (@pe_callB _ _ _ _ _ _ _ _ _ (@kLen _ (K) rfl) (by rfl) n_len PySem.boot_len (@pa_cons _ _ _ _ _ (@pv _ 0 _ _ (by rfl) (by walk_at "lc") (by decide) (by decide)) (@pa_nil _) (by rfl)) (by decide) (by decide) (by rfl) (by rfl)) (@pe_int _ _ _ _)) (@pa_nil _) (by rfl)) (by rfl)) (by decide) (by decide) (by rfl) (by rfl)) (fun _ _=>rfl)) (@pps_nil _ _)))) rfl rfl (by simp) (by decide)) (@pe_ix _ _ _ _ _ _ _ (@kIx _ (K) rfl) (@pv _ 0 _ _ (by rfl) (by walk_at "lc") (by decide) (by decide)) (@pe_int _ _ _ _) (fun _ _=>rfl)) (@pe_str _ _ _ _) (@L2.M2.mk _ _ _ _ _ _ _ rfl rfl rfl rfl)))),?_⟩
 rintro xs M hl ⟨D,rfl,hr⟩
 walk_at "r"
 cases D <;> (
   refine de_dget2 ?_
   refine de_dispN fun q hq=>?_
   refine dps_cons ?_
   walk_at "r"
   refine d2A_ixt (d:=_) rfl ?_
   walk_at "r"
   refine dps_cons ?_
   walk_at "r"
   refine d2A_ixt (d:=_) rfl ?_
   walk_at "r"
   refine dps_cons ?_
   walk_at "r"
   refine rd_lent ?_
   walk_at "r"
   refine d2A_ixt (d:=_) rfl ?_
   walk_at "r"
   refine dps_nil ?_
   refine⟨zU,yD rfl,by simp only[zI,List.map_nil];decide +kernel,?_⟩
   rw[yG hq]
   walk_at "r"
   refine d2A_ixt (d:=_) rfl ?_
   walk_at "r"
   refine⟨M,zT M,fun D' e=>?_⟩
   simp only[List.cons.injEq,DS.d.injEq,and_true] at e
   obtain rfl:=deed_inj e
   exact⟨rfl,rfl⟩)
abbrev s__law_must:Stmt:=_root_.sT 32
def nm__law_must:List Str:=["_law_deed_here"]
theorem sc__law_must:FnScope nm__law_must ["_law_deed_here"] (defScope s__law_must):=⟨rfl,rfl,rfl,by decide +kernel,rfl,by decide +kernel,by decide +kernel⟩
theorem ok__law_must {f:Addr}{fd:FuncData}(F:Fun K "_law_must" "_law_must" s__law_must f fd):FnOk P w K mg base CX0 1 f fd ["_law_deed_here"] (spD K 1 S__law_must):=by
 refine fnD F sc__law_must fun cdv A outer s H E hr=>?_
 have hu:=hr.units
 refine⟨_,(@pss_cons _ _ _ _ _ (@ps_if _ _ _ _ _ _ _ _ (@pt_cmpR _ _ _ _ _ _ _ _ (@kEq _ (K) rfl hu) (@pe_ix _ _ _ _ _ _ _ (@kIx _ (K) rfl) (@pv _ 0 _ _ (by rfl) (by walk_at "lc") (by decide) (by decide)) (@pe_int _ _ _ _) (fun _ _=>rfl)) (@pe_str _ _ _ _) (@nomark _ _ (by decide) (by decide))) (@pss_one _ _ _ (@ps_ret _ _ _ _ (@pe_lst _ _ _ _ (@pa_nil _)))) (@pss_nil _)) (@pss_cons _ _ _ _ _ (@ps_if _ _ _ _ _ _ _ _ (@pt_cmpR _ _ _ _ _ _ _ _ (@kEq _ (K) rfl hu) (@pe_ix _ _ _ _ _ _ _ (@kIx _ (K) rfl) (@pv _ 0 _ _ (by rfl) (by walk_at "lc") (by decide) (by decide)) (@pe_int _ _ _ _) (fun _ _=>rfl)) (@pe_str _ _ _ _) (@nomark _ _ (by decide) (by decide))) (@pss_one _ _ _ (@ps_ret _ _ _ _ (@pe_lst _ _ _ _ (@pa_cons _ _ _ _ _ (@pe_ix _ _ _ _ _ _ _ (@kIx _ (K) rfl) (@pv _ 0 _ _ (by rfl) (by walk_at "lc") (by decide) (by decide)) (@pe_int _ _ _ _) (fun _ _=>rfl)) (@pa_cons _ _ _ _ _ (@pe_ix _ _ _ _ _ _ _ (@kIx _ (K) rfl) (@pv _ 0 _ _ (by rfl) (by walk_at "lc") (by decide) (by decide)) (@pe_int _ _ _ _) (fun _ _=>rfl)) (@pa_nil _) (by rfl)) (by rfl))))) (@pss_nil _)) (@pss_one _ _ _ (@ps_ret _ _ _ _ (@pe_lst _ _ _ _ (@pa_cons _ _ _ _ _ (@pe_ix _ _ _ _ _ _ _ (@kIx _ (K) rfl) (@pv _ 0 _ _ (by rfl) (by walk_at "lc") (by decide) (by decide)) (@pe_int _ _ _ _) (fun _ _=>rfl)) (@pa_nil _) (by rfl))))))),?_⟩
 rintro xs M hl ⟨D,rfl,hr⟩
 have hap:=hr.2.1
 have fin:∀{y:DS}{ms:List Str},D.must=ms→y = .d (strL ms)→∃M2:Own,M2.Sub M∧S__law_must.post [.d D.d] M y M2:=fun e1 e2=>⟨M,zT M,fun D' e=>by
   simp only[List.cons.injEq,DS.d.injEq,and_true] at e
   obtain rfl:=deed_inj e
   rw[e1]
   exact⟨e2,rfl⟩⟩
 rw[D.d_eq] at *
 walk_at "r"
 refine d2A_ixt (d:=.str D.word) (atI_nat (j:=0) rfl) ?_
 walk_at "r"
 refine d2_eq D.word_ok (by decide +kernel) ?_
 rw[if_neg nft,eqv_str]
 cases h1:(D.word==Str.ofString "put") with
 | true=>
   walk_at "r"
   refine de_lst ?_
   walk_at "r"
   cases D <;> first | (exfalso;simp only[Deed.word] at h1;revert h1;decide +kernel) | skip
   exact fin (ms:=[]) (by simp[Deed.must,Deed.names,Deed.made,Deed.fst,Deed.rest]) rfl
 | false=>
   walk_at "r"
   refine d2A_ixt (d:=.str D.word) (atI_nat (j:=0) rfl) ?_
   walk_at "r"
   refine d2_eq D.word_ok (by decide +kernel) ?_
   rw[if_neg nft,eqv_str]
   cases h2:(D.word==Str.ofString "join") with
   | true=>
     walk_at "r"
     refine de_lst ?_
     walk_at "r"
     cases D <;> first | (exfalso;simp only[Deed.word] at h2;revert h2;decide +kernel) | skip
     refine d2A_ixt (d:=_) rfl ?_
     walk_at "r"
     refine d2A_ixt (d:=_) rfl ?_
     walk_at "r"
     exact fin (ms:=[_,_]) (by simp[Deed.must,Deed.names,Deed.made,Deed.fst,Deed.rest]) rfl
   | false=>
     walk_at "r"
     refine de_lst ?_
     walk_at "r"
     cases D <;> first | (exfalso;simp only[Deed.word] at h1;revert h1;decide +kernel) | (exfalso;simp only[Deed.word] at h2;revert h2;decide +kernel) | skip
     all_goals
       refine d2A_ixt (d:=_) rfl ?_
       walk_at "r"
       exact fin (ms:=[_]) (by first | (simp[Deed.must,Deed.names,Deed.made,Deed.fst,Deed.rest];done) | (simp[Deed.must,Deed.names,Deed.made,Deed.fst,Deed.rest,Ne.symm hap];done)) rfl
end
section
variable {P:Program}{w:World}{K:Frg}{mg:Str→Option Value}{base:Heap}
abbrev s__law_needed:Stmt:=_root_.sT 33
def nm__law_needed:List Str:=["_law_lines", "_law_number"]
def cc__law_needed_0:List Str:=["_law_k", "_law_lines", "_law_number"]
def cf__law_needed_0:List (Option Nat):=[none,some 0,some 1]
theorem cn__law_needed_0:cc__law_needed_0.Nodup:=by decide +kernel
theorem sc__law_needed:FnScope nm__law_needed ["_law_lines", "_law_number"] (defScope s__law_needed):=⟨rfl,rfl,rfl,by decide +kernel,rfl,by decide +kernel,by decide +kernel⟩
theorem ok__law_needed {f:Addr}{fd:FuncData}(F:Fun K "_law_needed" "_law_needed" s__law_needed f fd) (n_range:mg "range"=none) (h__law_made:Has P w K mg base "_law_made" 1 ["_law_deed_here"] S__law_made) (h__law_must:Has P w K mg base "_law_must" 1 ["_law_deed_here"] S__law_must):FnOk P w K mg base CX0 2 f fd ["_law_lines", "_law_number"] (spD K 2 S__law_needed):=by
 refine fnD F sc__law_needed fun cdv A outer s H E hr=>?_
 have hu:=hr.units
 refine⟨_,(@pss_one _ _ _ (@ps_ret _ _ _ _ (@pe_comp _ _ _ _ _ _ _ _ _ _ _ _ _ rfl (@L2.CSc.of _ _ (cc__law_needed_0) (cf__law_needed_0) (defScope s__law_needed) (nm__law_needed) (by decide +kernel) rfl rfl) (@pi_range1 _ _ _ _ _ _ rfl n_range (@pa_cons _ _ _ _ _ (@pv _ 1 _ _ (by rfl) (by walk_at "lc") (by decide) (by decide)) (@pa_nil _) (by rfl)) (by rfl)) (fun C s' H' ex' pn'=>⟨@pg_name _ _ (0) _ cn__law_needed_0 rfl (by walk_at "lc") (by first   | exact .inl rfl   | exact .inr rfl   | assumption),(@pts_one _ _ _ (@pt_cmpR _ _ _ _ _ _ _ _ (@kInD _ (K) rfl hu) (@kCall _ (K) (P) (w) (mg) (base) _ _ _ _ _ _ _ _ _ rfl rfl rfl rfl rfl h__law_made (hr.mono (by decide)) rfl (@pa_cons _ _ _ _ _ (@pe_ix _ _ _ _ _ _ _ (@kIx _ (K) rfl) (@pe_ix _ _ _ _ _ _ _ (@kIx _ (K) rfl) (@pv _ 1 _ _ (by rfl) (by walk_at "lc") (by decide) (by decide)) (@pv _ 0 _ _ (by rfl) (by walk_at "lc") (by decide) (by decide)) (fun _ _=>rfl)) (@pe_int _ _ _ _) (fun _ _=>rfl)) (@pa_nil _) (by rfl)) (by decide) (by rfl) (by rfl)) (@kCall _ (K) (P) (w) (mg) (base) _ _ _ _ _ _ _ _ _ rfl rfl rfl rfl rfl h__law_must (hr.mono (by decide)) rfl (@pa_cons _ _ _ _ _ (@pe_ix _ _ _ _ _ _ _ (@kIx _ (K) rfl) (@pe_ix _ _ _ _ _ _ _ (@kIx _ (K) rfl) (@pv _ 1 _ _ (by rfl) (by walk_at "lc") (by decide) (by decide)) (@pv _ 2 _ _ (by rfl) (by walk_at "lc") (by decide) (by decide)) (fun _ _=>rfl)) (@pe_int _ _ _ _) (fun _ _=>rfl)) (@pa_nil _) (by rfl)) (by decide) (by rfl) (by rfl)) (by with_unfolding_all rfl))),(@pv _ 0 _ _ (by rfl) (by walk_at "lc") (by decide) (by decide))⟩) (by intro _;rfl)))),?_⟩
 rintro xs M hl ⟨ls,k,rfl,hg,hk⟩
 obtain⟨l,hlk,hlm,hll,hld⟩:=at_line hk
 have hrl:=hg.real l hlm
 have hfew:=hg.few
 walk_at "r"
 refine de_comp_pure (go_name 0) (by simp[cf__law_needed_0]) ?_
 refine di_rng1 ?_
 walk_at "r"
 refine⟨by omega,by omega,?_⟩
 refine⟨by rw[ints_len];exact zQ (show k≤50 by omega) (by decide),cNd (dsL ls) k,id,?_,?_⟩
 · intro d hd M'
   obtain⟨j,hj,rfl⟩:=ints_mem hd
   obtain⟨a,haj,ham,hal,had⟩:=at_line (ls:=ls) (k:=j) (by omega)
   have hra:=hg.real a ham
   walk_at "dl"
   refine⟨rfl,?_⟩
   walk_at "r"
   refine d2A_ixt (ds:=ls.map lineD) (atI_nat hal) ?_
   walk_at "r"
   refine d2A_ixt (ds:=[.str a.1,a.2.d]) (d:=a.2.d) rfl ?_
   walk_at "r"
   refine made_call hra ?_
   walk_at "r"
   refine d2A_ixt (ds:=ls.map lineD) (atI_nat hll) ?_
   walk_at "r"
   refine d2A_ixt (ds:=[.str l.1,l.2.d]) (d:=l.2.d) rfl ?_
   walk_at "r"
   refine must_call hrl ?_
   refine d2_inD (ds:=l.2.must.map .str) (made_sh32 hra) (shaped_names fun z hz=>must_name hrl hz) ?_
   rw[if_neg nft,any_strs,need_is hg haj hlk]
   refine⟨_,rfl,rfl,?_,fun _=>?_⟩
   · show isNeed (dsL ls) k j=isNeed (dsL ls) k ((j:Int)).toNat
     rw[Int.toNat_natCast]
   · walk_at "r"
     exact⟨rfl,rfl⟩
 · rw[needed_list]
   refine⟨M,zT M,fun ls' k' e=>?_⟩
   simp only[List.cons.injEq,DS.d.injEq,PyData.tuple.injEq,PyData.int.injEq,and_true] at e
   have e1:=lines_inj e.1
   have e2:k=k':=by omega
   subst e1 e2
   exact⟨rfl,rfl⟩
end
section
variable {P:Program}{w:World}{K:Frg}{mg:Str→Option Value}{base:Heap}
abbrev s__law_goes:Stmt:=_root_.sT 34
def nm__law_goes:List Str:=["_law_lines", "_law_struck_here", "_law_found", "_law_number"]
def cc__law_goes_0:List Str:=["_law_one", "_law_found"]
def cf__law_goes_0:List (Option Nat):=[none,some 2]
theorem cn__law_goes_0:cc__law_goes_0.Nodup:=by decide +kernel
theorem sc__law_goes:FnScope nm__law_goes ["_law_lines", "_law_struck_here"] (defScope s__law_goes):=⟨rfl,rfl,rfl,by decide +kernel,rfl,by decide +kernel,by decide +kernel⟩
theorem ok__law_goes {f:Addr}{fd:FuncData}(F:Fun K "_law_goes" "_law_goes" s__law_goes f fd) (n_any:mg "any"=none) (n_len:mg "len"=none) (n_range:mg "range"=none) (h__law_needed:Has P w K mg base "_law_needed" 2 ["_law_lines", "_law_number"] S__law_needed):FnOk P w K mg base CX0 3 f fd ["_law_lines", "_law_struck_here"] (spD K 2 S32_goes):=by
 refine fnD F sc__law_goes fun cdv A outer s H E hr=>?_
 have hu:=hr.units
 refine⟨_,(@pss_cons _ _ _ _ _ (@ps_set _ _ (2) _ _ _ _ sc__law_goes.nd rfl (by walk_at "lc") (@pe_lst _ _ _ _ (@pa_nil _)) (by rfl) (by first   | exact .inl rfl   | exact .inr rfl   | assumption)) (@pss_cons _ _ _ _ _ (@ps_for _ _ _ _ _ _ _ _ PassesOwn.never rfl (@pi_range1 _ _ _ _ _ _ rfl n_range (@pa_cons _ _ _ _ _ (@pe_callB _ _ _ _ _ _ _ _ _ (@kLen _ (K) rfl) (by rfl) n_len PySem.boot_len (@pa_cons _ _ _ _ _ (@pv _ 0 _ _ (by rfl) (by walk_at "lc") (by decide) (by decide)) (@pa_nil _) (by rfl)) (by decide) (by decide) (by rfl) (by rfl)) (@pa_nil _) (by rfl)) (by rfl)) (@pg_name _ _ (3) _ sc__law_goes.nd rfl (by walk_at "lc") (by first   | exact .inl rfl   | exact .inr rfl   | assumption)) (@pss_one _ _ _ (@ps_if _ _ _ _ _ _ _ _ (@L2.PW.pt _ _ _ (@pw_or _ _ _ _ _ _ _ (@pt_cmpR _ _ _ _ _ _ _ _ (@kInD _ (K) rfl hu) (@pv _ 3 _ _ (by rfl) (by walk_at "lc") (by decide) (by decide)) (@pv _ 1 _ _ (by rfl) (by walk_at "lc") (by decide) (by decide)) (by with_unfolding_all rfl)) (@pw_or1 _ _ _ _ (@pt_val _ _ _ (@pe_callB _ _ _ _ _ _ _ _ _ (@kAny _ (K) rfl rfl) (by rfl) n_any PyProof.Rows.boot_any (@pa_cons _ _ _ _ _ (@pe_comp _ _ _ _ _ _ _ _ _ _ _ _ _ rfl (@L2.CSc.of _ _ (cc__law_goes_0) (cf__law_goes_0) (defScope s__law_goes) (nm__law_goes) (by decide +kernel) rfl rfl) (@kIter _ (K) _ _ _ rfl (@kCall _ (K) (P) (w) (mg) (base) _ _ _ _ _ _ _ _ _ rfl rfl rfl rfl rfl h__law_needed (hr.mono (by decide)) rfl (@pa_cons _ _ _ _ _ (@pv _ 0 _ _ (by rfl) (by walk_at "lc") (by decide) (by decide)) (@pa_cons _ _ _ _ _ (@pv _ 3 _ _ (by rfl) (by walk_at "lc") (by decide) (by decide)) (@pa_nil _) (by rfl)) (by rfl)) (by decide) (by rfl) (by rfl))) (fun C s' H' ex' pn'=>⟨@pg_name _ _ (0) _ cn__law_goes_0 rfl (by walk_at "lc") (by first   | exact .inl rfl   | exact .inr rfl   | assumption),@pts_nil _,(@pe_cmpR _ _ _ _ _ _ _ _ (@kInD _ (K) rfl hu) (@pv _ 0 _ _ (by rfl) (by walk_at "lc") (by decide) (by decide)) (@pv _ 1 _ _ (by rfl) (by walk_at "lc") (by decide) (by decide)) (by with_unfolding_all rfl))⟩) (by intro _;rfl)) (@pa_nil _) (by rfl)) (by decide) (by decide) (by rfl) (by rfl)) (by intro _;rfl))))) (@pss_one _ _ _ (@ps_expr _ _ _ _ (@kBm _ (K) _ _ _ _ _ _ _ _ _ _ _ rfl PySem.F.plainAttrs_list PySem.F.slot_list_append PySem.F.type_list_append (@kAppendM _) (@pv _ 2 _ _ (by rfl) (by walk_at "lc") (by decide) (by decide)) (@pa_cons _ _ _ _ _ (@pv _ 3 _ _ (by rfl) (by walk_at "lc") (by decide) (by decide)) (@pa_nil _) (by rfl)) (by rfl) (by rfl) (by rfl) (by rfl) (by rfl)) (by rfl))) (@pss_nil _))) (by intro _;rfl)) (@pss_one _ _ _ (@ps_ret _ _ _ _ (@pv _ 2 _ _ (by rfl) (by walk_at "lc") (by decide) (by decide)))))),?_⟩
 rintro xs M hl ⟨ls,ns,rfl,hg,hns⟩
 have hfew:=hg.few
 walk_at "r"
 refine de_lstO ?_
 walk_at "r"
 intro p hp
 walk_at "wks"
 refine ds_cut (fun ρ1 M1=>M1=M.put p (.l (numsD (foundB ls ns)))∧∃x:Option DS,ρ1=[some (.d (linesD ls)),some (.d (.tuple (numsD ns))),some (.loc p),x]) ?_ ?_
 · refine ds_for ?_
   refine di_rng1 ?_
   walk_at "r"
   refine rd_lent ?_
   rw[zX]
   walk_at "r"
   refine⟨by omega,by omega,?_⟩
   refine⟨fun k ρ1 M1=>k≤ls.length∧M1=M.put p (.l (numsD (foundN (dsL ls) ns k)))∧∃x:Option DS,ρ1=[some (.d (linesD ls)),some (.d (.tuple (numsD ns))),some (.loc p),x],⟨xT _,rfl,_,rfl⟩,?_,?_⟩
   · rintro k d ρ1 M1 hd ⟨_,rfl,x,rfl⟩
     obtain⟨hk,rfl⟩:=ints_at hd
     have hfl:=found_len (dsL ls) ns k
     walk_at "r"
     refine d2_inDT rfl (shaped_numsT ns) ?_
     rw[if_neg nft,any_nums]
     cases hk1:decide (k∈ns) with
     | true=>
       walk_at "r"
       refine de_bm ?_
       walk_at "dl"
       refine⟨dty_loc (ds:=numsD (foundN (dsL ls) ns k)) zU,?_⟩
       walk_at "r"
       refine dm_append (ds:=numsD (foundN (dsL ls) ns k)) zU (by rw[nums_len];exact zQ (show _≤50 by omega) (by decide)) ?_
       rw[yI,nums_snoc]
       exact⟨by omega,by rw[foundN,hk1,Bool.true_or,if_pos rfl],_,rfl⟩
     | false=>
       walk_at "r"
       refine de_comp_read (go_name 0) (by simp[cf__law_goes_0]) ?_
       refine diA_list ?_
       walk_at "r"
       refine needed_call hg hk ?_
       have hneed:(needN (dsL ls) k).length≤k:=by
         unfold needN
         exact zN (yJ _ _) (by rw[xZ];exact zR _)
       refine⟨_,rfl,by rw[nums_len];exact zQ (show _≤50 by omega) (by decide),fun _=>true,fAny (foundN (dsL ls) ns k),?_,?_⟩
       · rintro d hd2 A acc M' hA rfl
         obtain⟨i,hi,rfl⟩:=zL.mp hd2
         have hpA:p≠A:=by rintro rfl;rw[zU] at hA;cases hA
         walk_at "dl"
         refine⟨rfl,?_⟩
         walk_at "dl"
         refine⟨rfl,rfl,fun _=>?_⟩
         walk_at "r"
         refine d2_inO (ds:=numsD (foundN (dsL ls) ns k)) (by rw[yH hpA];exact zU) rfl (shaped_nums _) ?_
         exact⟨rfl,rfl⟩
       rw[flt0,any_list]
       walk_at "r"
       refine rd_any ?_
       rw[any_bools]
       cases hk2:(needN (dsL ls) k).any (fun j=>decide (j∈foundN (dsL ls) ns k)) with
       | true=>
         walk_at "r"
         refine de_bm ?_
         walk_at "dl"
         refine⟨dty_loc (ds:=numsD (foundN (dsL ls) ns k)) zU,?_⟩
         walk_at "r"
         refine dm_append (ds:=numsD (foundN (dsL ls) ns k)) zU (by rw[nums_len];exact zQ (show _≤50 by omega) (by decide)) ?_
         rw[yI,nums_snoc]
         exact⟨by omega,by rw[foundN,hk2,Bool.or_true,if_pos rfl],_,rfl⟩
       | false=>
         walk_at "r"
         exact⟨by omega,by rw[foundN,hk1,hk2,Bool.or_false,if_neg nft],_,rfl⟩
   · rintro ρ1 M1 ⟨_,rfl,x,rfl⟩
     rw[ints_len]
     exact⟨by unfold foundB;rw[zX],x,rfl⟩
 · rintro ρ1 M1 ⟨rfl,x,rfl⟩
   refine ds_freeze (i:=2) (a:=p) rfl zU ?_
   rw[yG hp]
   walk_at "r"
   refine⟨M,zT M,fun ls' ns' e=>?_⟩
   obtain⟨e1,e2⟩:=lnum_inj e
   subst e1 e2
   exact⟨rfl,rfl⟩
end
section
variable {P:Program}{w:World}{K:Frg}{mg:Str→Option Value}{base:Heap}
abbrev s__law_struck:Stmt:=_root_.sT 35
def nm__law_struck:List Str:=["_law_pack", "_law_lines", "_law_found", "_law_k"]
theorem sc__law_struck:FnScope nm__law_struck ["_law_pack", "_law_lines"] (defScope s__law_struck):=⟨rfl,rfl,rfl,by decide +kernel,rfl,by decide +kernel,by decide +kernel⟩
theorem ok__law_struck {f:Addr}{fd:FuncData}(F:Fun K "_law_struck" "_law_struck" s__law_struck f fd) (n_len:mg "len"=none) (n_range:mg "range"=none) (n_tuple:mg "tuple"=none) (h__law_take:Has P w K mg base "_law_take" 1 ["_law_pack", "_law_size"] S__law_take):FnOk P w K mg base CX0 2 f fd ["_law_pack", "_law_lines"] (spD K 2 S32_struck):=by
 refine fnD F sc__law_struck fun cdv A outer s H E hr=>?_
 have hu:=hr.units
 refine⟨_,(@pss_cons _ _ _ _ _ (@ps_set _ _ (2) _ _ _ _ sc__law_struck.nd rfl (by walk_at "lc") (@pe_lst _ _ _ _ (@pa_nil _)) (by rfl) (by first   | exact .inl rfl   | exact .inr rfl   | assumption)) (@pss_cons _ _ _ _ _ (@ps_for _ _ _ _ _ _ _ _ PassesOwn.never rfl (@pi_range1 _ _ _ _ _ _ rfl n_range (@pa_cons _ _ _ _ _ (@kCall _ (K) (P) (w) (mg) (base) _ _ _ _ _ _ _ _ _ rfl rfl rfl rfl rfl h__law_take (hr.mono (by decide)) rfl (@pa_cons _ _ _ _ _ (@pv _ 0 _ _ (by rfl) (by walk_at "lc") (by decide) (by decide)) (@pa_cons _ _ _ _ _ (@pe_int _ _ _ _) (@pa_nil _) (by rfl)) (by rfl)) (by decide) (by rfl) (by rfl)) (@pa_nil _) (by rfl)) (by rfl)) (@pg_name _ _ (3) _ sc__law_struck.nd rfl (by walk_at "lc") (by first   | exact .inl rfl   | exact .inr rfl   | assumption)) (@pss_one _ _ _ (@ps_if _ _ _ _ _ _ _ _ (@pt_cmpR _ _ _ _ _ _ _ _ (@kNe _ (K) rfl hu) (@pv _ 1 _ _ (by rfl) (by walk_at "lc") (by decide) (by decide)) (@pe_tup _ _ _ _ _ (@pa_nil _)) (@nomark _ _ (by decide) (by decide))) (@pss_one _ _ _ (@ps_expr _ _ _ _ (@kBm _ (K) _ _ _ _ _ _ _ _ _ _ _ rfl PySem.F.plainAttrs_list PySem.F.slot_list_append PySem.F.type_list_append (@kAppendM _) (@pv _ 2 _ _ (by rfl) (by walk_at "lc") (by decide) (by decide)) (@pa_cons _ _ _ _ _ (@kCall _ (K) (P) (w) (mg) (base) _ _ _ _ _ _ _ _ _ rfl rfl rfl rfl rfl h__law_take (hr.mono (by decide)) rfl (@pa_cons _ _ _ _ _ (@pv _ 0 _ _ (by rfl) (by walk_at "lc") (by decide) (by decide)) (@pa_cons _ _ _ _ _ (@pe_callB _ _ _ _ _ _ _ _ _ (@kLen _ (K) rfl) (by rfl) n_len PySem.boot_len (@pa_cons _ _ _ _ _ (@pv _ 1 _ _ (by rfl) (by walk_at "lc") (by decide) (by decide)) (@pa_nil _) (by rfl)) (by decide) (by decide) (by rfl) (by rfl)) (@pa_nil _) (by rfl)) (by rfl)) (by decide) (by rfl) (by rfl)) (@pa_nil _) (by rfl)) (by rfl) (by rfl) (by rfl) (by rfl) (by rfl)) (by rfl))) (@pss_nil _))) (by intro _;rfl)) (@pss_one _ _ _ (@ps_ret _ _ _ _ (@pe_callTy _ _ _ _ _ _ _ _ _ (@kTuple _ (K) rfl) (by rfl) n_tuple PyProof.Rows.boot_tuple (@pa_cons _ _ _ _ _ (@pv _ 2 _ _ (by rfl) (by walk_at "lc") (by decide) (by decide)) (@pa_nil _) (by rfl)) (by decide) (by decide) (by rfl) (by rfl)))))),?_⟩
 rintro xs M hl ⟨q,o,ls,rfl,m,ho,hg⟩
 have hfew:=hg.few
 walk_at "r"
 refine de_lstO ?_
 walk_at "r"
 intro p hp
 have hqp:q≠p:=by rintro rfl;rw[m] at hp;cases hp
 walk_at "wks"
 refine ds_cut (fun ρ1 M1=>∃(fs:List Nat) (o2:MO) (x:Option DS),fs.length≤3∧(∀m∈fs,m < ls.length)∧pack1 o2∧M1=(M.put q o2).put p (.l (numsD fs))∧ρ1=[some (.loc q),some (.d (linesD ls)),some (.loc p),x]) ?_ ?_
 · refine ds_for ?_
   refine di_rng1 ?_
   walk_at "r"
   refine take_call (by rw[yH hqp];exact m) ho (by decide) (by decide) fun v o1 h0 h1 ho1=>?_
   walk_at "r"
   obtain⟨n,rfl⟩:∃n:Nat,v=(n:Int):=⟨v.toNat,by omega⟩
   refine⟨by omega,by omega,?_⟩
   refine⟨fun k ρ1 M1=>k≤n∧∃(fs:List Nat) (o2:MO) (x:Option DS),fs.length≤k∧(∀m∈fs,m < ls.length)∧pack1 o2∧M1=(M.put q o2).put p (.l (numsD fs))∧ρ1=[some (.loc q),some (.d (linesD ls)),some (.loc p),x],⟨xT _,[],o1,_,zR _,by simp,ho1,put_comm hqp.symm,rfl⟩,?_,?_⟩
   · rintro k d ρ1 M1 hd ⟨_,fs,o2,x,hfl,hfs,ho2,rfl,rfl⟩
     obtain⟨hk,rfl⟩:=ints_at hd
     walk_at "r"
     refine d2_eq (shaped_lines hg) rfl ?_
     rw[if_pos rfl,lines_nil]
     cases hls:ls.isEmpty with
     | true=>
       walk_at "r"
       exact⟨by omega,fs,o2,_,by omega,hfs,ho2,rfl,rfl⟩
     | false=>
       have hpos:0 < ls.length:=by
         cases ls with
         | nil=>cases hls
         | cons a r=>simp
       walk_at "r"
       refine de_bm ?_
       walk_at "dl"
       refine⟨dty_loc (ds:=numsD fs) zU,?_⟩
       walk_at "r"
       refine rd_lent ?_
       rw[zX]
       walk_at "r"
       refine take_call (by rw[yH hqp];exact zU) ho2 (by omega) (by omega) fun v2 o3 a0 a1 ho3=>?_
       obtain⟨m2,rfl⟩:∃m2:Nat,v2=(m2:Int):=⟨v2.toNat,by omega⟩
       walk_at "r"
       refine dm_append (ds:=numsD fs) (by rw[yH hqp.symm];exact zU) (by rw[nums_len];exact zQ (show _≤50 by omega) (by decide)) ?_
       rw[nums_snoc]
       refine⟨by omega,fs++[m2],o3,_,by rw[yY];simp;omega,fun y hy=>?_,ho3,?_,rfl⟩
       · rcases yW.mp hy with z | z
         · exact hfs y z
         · rw[List.mem_singleton.mp z];omega
       · rw[show((M.put q o2).put p (.l (numsD fs))).put q o3=(M.put q o3).put p (.l (numsD fs)) from put_swap1 hqp]
         rw[yI]
   · rintro ρ1 M1 ⟨_,fs,o2,x,hfl,hfs,ho2,rfl,rfl⟩
     rw[ints_len] at hfl
     exact⟨fs,o2,x,by omega,hfs,ho2,rfl,rfl⟩
 · rintro ρ1 M1 ⟨fs,o2,x,hfl,hfs,ho2,rfl,rfl⟩
   walk_at "r"
   refine rd_tuplO zU ?_
   refine⟨M.put q o2,(zT _).put (by rw[yH hqp.symm];exact hp),fun q' ls' e=>?_⟩
   simp only[List.cons.injEq,DS.loc.injEq,DS.d.injEq,PyData.tuple.injEq,and_true] at e
   obtain⟨rfl,e⟩:=e
   have e:=lines_inj e
   subst e
   exact⟨fs,o2,rfl,hfl,hfs,ho2,rfl⟩
end
section
variable {P:Program}{w:World}{K:Frg}{mg:Str→Option Value}{base:Heap}
abbrev s__law_chained:Stmt:=_root_.sT 36
def nm__law_chained:List Str:=["_law_lines", "_law_struck_here", "_law_chain"]
def cc__law_chained_0:List Str:=["_law_one"]
def cf__law_chained_0:List (Option Nat):=[none]
theorem cn__law_chained_0:cc__law_chained_0.Nodup:=by decide +kernel
def cc__law_chained_1:List Str:=["_law_k", "_law_chain", "_law_lines"]
def cf__law_chained_1:List (Option Nat):=[none,some 2,some 0]
theorem cn__law_chained_1:cc__law_chained_1.Nodup:=by decide +kernel
theorem sc__law_chained:FnScope nm__law_chained ["_law_lines", "_law_struck_here", "_law_chain"] (defScope s__law_chained):=⟨rfl,rfl,rfl,by decide +kernel,rfl,by decide +kernel,by decide +kernel⟩
theorem ok__law_chained {f:Addr}{fd:FuncData}(F:Fun K "_law_chained" "_law_chained" s__law_chained f fd) (n_all:mg "all"=none) (n_bool:mg "bool"=none) (n_int:mg "int"=none) (n_isinstance:mg "isinstance"=none) (n_len:mg "len"=none) (n_range:mg "range"=none) (n_tuple:mg "tuple"=none) (h__law_needed:Has P w K mg base "_law_needed" 2 ["_law_lines", "_law_number"] S__law_needed):FnOk P w K mg base CX0 3 f fd ["_law_lines", "_law_struck_here", "_law_chain"] (spD K 3 S32_chained):=by
 refine fnD F sc__law_chained fun cdv A outer s H E hr=>?_
 have hu:=hr.units
 refine⟨_,(@pss_cons _ _ _ _ _ (@ps_if _ _ _ _ _ _ _ _ (@L2.PW.pt _ _ _ (@pw_or _ _ _ _ _ _ _ (@pt_not _ _ _ _ (@pt_val _ _ _ (@pe_callB _ _ _ _ _ _ _ _ _ (@kIsi _ (K) rfl) (by rfl) n_isinstance PyProof.Rows.boot_isinstance (@pa_cons _ _ _ _ _ (@pv _ 2 _ _ (by rfl) (by walk_at "lc") (by decide) (by decide)) (@pa_cons _ _ _ _ _ (@pe_bltn _ _ (.ty "tuple") _ _ rfl n_tuple PyProof.Rows.boot_tuple rfl (by decide) (by decide)) (@pa_nil _) (by rfl)) (by rfl)) (by decide) (by decide) (by rfl) (by rfl)) (by intro _;rfl))) (@pw_or _ _ _ _ _ _ _ (@pt_cmpR _ _ _ _ _ _ _ _ (@op_ltA _) (@pe_callB _ _ _ _ _ _ _ _ _ (@kLen _ (K) rfl) (by rfl) n_len PySem.boot_len (@pa_cons _ _ _ _ _ (@pv _ 2 _ _ (by rfl) (by walk_at "lc") (by decide) (by decide)) (@pa_nil _) (by rfl)) (by decide) (by decide) (by rfl) (by rfl)) (@pe_int _ _ _ _) (@nomark _ _ (by decide) (by decide))) (@pw_or1 _ _ _ _ (@pt_cmpR _ _ _ _ _ _ _ _ (@kNotInD _ (K) rfl hu) (@pe_ix _ _ _ _ _ _ _ (@kIx _ (K) rfl) (@pv _ 2 _ _ (by rfl) (by walk_at "lc") (by decide) (by decide)) (@pe_int _ _ _ _) (fun _ _=>rfl)) (@pv _ 1 _ _ (by rfl) (by walk_at "lc") (by decide) (by decide)) (by with_unfolding_all rfl)))))) (@pss_one _ _ _ (@ps_ret _ _ _ _ (@pe_bl _ _ _ _))) (@pss_nil _)) (@pss_cons _ _ _ _ _ (@ps_if _ _ _ _ _ _ _ _ (@pt_not _ _ _ _ (@pt_val _ _ _ (@pe_callB _ _ _ _ _ _ _ _ _ (@kAll _ (K) rfl rfl) (by rfl) n_all PyProof.Rows.boot_all (@pa_cons _ _ _ _ _ (@pe_comp _ _ _ _ _ _ _ _ _ _ _ _ _ rfl (@L2.CSc.of _ _ (cc__law_chained_0) (cf__law_chained_0) (defScope s__law_chained) (nm__law_chained) (by decide +kernel) rfl rfl) (@kIter _ (K) _ _ _ rfl (@pv _ 2 _ _ (by rfl) (by walk_at "lc") (by decide) (by decide))) (fun C s' H' ex' pn'=>⟨@pg_name _ _ (0) _ cn__law_chained_0 rfl (by walk_at "lc") (by first   | exact .inl rfl   | exact .inr rfl   | assumption),@pts_nil _,(@pe_and _ _ _ _ _ _ _ (@pe_callB _ _ _ _ _ _ _ _ _ (@kIsi _ (K) rfl) (by rfl) n_isinstance PyProof.Rows.boot_isinstance (@pa_cons _ _ _ _ _ (@pv _ 0 _ _ (by rfl) (by walk_at "lc") (by decide) (by decide)) (@pa_cons _ _ _ _ _ (@pe_bltn _ _ (.ty "int") _ _ rfl n_int PyProof.Rows.boot_int rfl (by decide) (by decide)) (@pa_nil _) (by rfl)) (by rfl)) (by decide) (by decide) (by rfl) (by rfl)) (@pe_one _ _ _ _ _ (@pe_not _ _ _ _ (@pe_callB _ _ _ _ _ _ _ _ _ (@kIsi _ (K) rfl) (by rfl) n_isinstance PyProof.Rows.boot_isinstance (@pa_cons _ _ _ _ _ (@pv _ 0 _ _ (by rfl) (by walk_at "lc") (by decide) (by decide)) (@pa_cons _ _ _ _ _ (@pe_bltn _ _ (.ty "bool") _ _ rfl n_bool PyProof.Rows.boot_bool rfl (by decide) (by decide)) (@pa_nil _) (by rfl)) (by rfl)) (by decide) (by decide) (by rfl) (by rfl)))))⟩) (by intro _;rfl)) (@pa_nil _) (by rfl)) (by decide) (by decide) (by rfl) (by rfl)) (by intro _;rfl))) (@pss_one _ _ _ (@ps_ret _ _ _ _ (@pe_bl _ _ _ _))) (@pss_nil _)) (@pss_one _ _ _ (@ps_ret _ _ _ _ (@pe_callB _ _ _ _ _ _ _ _ _ (@kAll _ (K) rfl rfl) (by rfl) n_all PyProof.Rows.boot_all (@pa_cons _ _ _ _ _ (@pe_comp _ _ _ _ _ _ _ _ _ _ _ _ _ rfl (@L2.CSc.of _ _ (cc__law_chained_1) (cf__law_chained_1) (defScope s__law_chained) (nm__law_chained) (by decide +kernel) rfl rfl) (@pi_range2 _ _ _ _ _ _ _ rfl n_range (@pa_cons _ _ _ _ _ (@pe_int _ _ _ _) (@pa_cons _ _ _ _ _ (@pe_callB _ _ _ _ _ _ _ _ _ (@kLen _ (K) rfl) (by rfl) n_len PySem.boot_len (@pa_cons _ _ _ _ _ (@pv _ 2 _ _ (by rfl) (by walk_at "lc") (by decide) (by decide)) (@pa_nil _) (by rfl)) (by decide) (by decide) (by rfl) (by rfl)) (@pa_nil _) (by rfl)) (by rfl)) (by rfl) (by rfl)) (fun C s' H' ex' pn'=>⟨@pg_name _ _ (0) _ cn__law_chained_1 rfl (by walk_at "lc") (by first   | exact .inl rfl   | exact .inr rfl   | assumption),@pts_nil _,(@pe_cmpR _ _ _ _ _ _ _ _ (@kInD _ (K) rfl hu) (@pe_ix _ _ _ _ _ _ _ (@kIx _ (K) rfl) (@pv _ 1 _ _ (by rfl) (by walk_at "lc") (by decide) (by decide)) (@pe_op _ _ _ _ _ _ _ _ (@op_sub _) (@pv _ 0 _ _ (by rfl) (by walk_at "lc") (by decide) (by decide)) (@pe_int _ _ _ _)) (fun _ _=>rfl)) (@kCall _ (K) (P) (w) (mg) (base) _ _ _ _ _ _ _ _ _ rfl rfl rfl rfl rfl h__law_needed (hr.mono (by decide)) rfl (@pa_cons _ _ _ _ _ (@pv _ 2 _ _ (by rfl) (by walk_at "lc") (by decide) (by decide)) (@pa_cons _ _ _ _ _ (@pe_ix _ _ _ _ _ _ _ (@kIx _ (K) rfl) (@pv _ 1 _ _ (by rfl) (by walk_at "lc") (by decide) (by decide)) (@pv _ 0 _ _ (by rfl) (by walk_at "lc") (by decide) (by decide)) (fun _ _=>rfl)) (@pa_nil _) (by rfl)) (by rfl)) (by decide) (by rfl) (by rfl)) (by with_unfolding_all rfl))⟩) (by intro _;rfl)) (@pa_nil _) (by rfl)) (by decide) (by decide) (by rfl) (by rfl)))))),?_⟩
 rintro xs M hl ⟨ls,ns,c,rfl,hg,hns,hcl,hc2,⟨h0,hh,hh2⟩,hst,hlt⟩
 obtain⟨r,rfl⟩:∃r,c=h0::r:=by
   cases c with
   | nil=>cases hh
   | cons a r=>cases hh;exact⟨r,rfl⟩
 have hr1:1≤r.length:=by simpa using hc2
 walk_at "r"
 refine rd_lent ?_
 walk_at "r"
 rw[show decide (((numsD (h0::r)).length:Int) < 2)=false from decide_eq_false (by rw[nums_len,yR];omega)]
 walk_at "r"
 refine d2A_ixt (ds:=numsD (h0::r)) (d:=.int (h0:Int)) (atI_nat (j:=0) rfl) ?_
 walk_at "r"
 refine d2_inDT rfl (shaped_numsT ns) ?_
 rw[if_pos rfl,any_nums,decide_eq_true hh2]
 walk_at "r"
 refine de_comp_pure (go_name 0) (by simp[cf__law_chained_0]) ?_
 refine diA_tup ?_
 walk_at "r"
 refine⟨by rw[nums_len];exact zQ hcl (by decide),fun _=>true,fun _=>.bool true,?_,?_⟩
 · intro d hd M'
   obtain⟨i,hi,rfl⟩:=zL.mp hd
   walk_at "dl"
   refine⟨rfl,?_⟩
   walk_at "dl"
   refine⟨rfl,rfl,fun _=>?_⟩
   walk_at "r"
   exact⟨rfl,rfl⟩
 rw[flt0,all_trues]
 walk_at "r"
 refine rd_all ?_
 rw[all_reps]
 walk_at "r"
 refine de_comp_pure (go_name 0) (by simp[cf__law_chained_1]) ?_
 refine di_rng2 ?_
 walk_at "r"
 refine rd_lent (ds:=numsD (h0::r)) ?_
 rw[nums_len,yR]
 walk_at "r"
 have hcl':r.length+1≤60:=hcl
 have hln:(intsD 1 (((r.length+1:Nat):Int) - 1).toNat).length=r.length:=by simp[intsD]
 refine⟨1,_,rfl,⟨by omega,by omega,by omega,by omega⟩,?_⟩
 refine⟨by rw[hln];exact zQ (show _≤60 by omega) (by decide),fun _=>true,fun _=>.bool true,?_,?_⟩
 · intro d hd M'
   obtain⟨i,hi,rfl⟩:=zL.mp hd
   rw[List.mem_range] at hi
   have hi:i < r.length:=by omega
   obtain⟨a,ea⟩:∃a,(h0::r)[i]?=some a:=⟨_,zV (by rw[yR];omega)⟩
   obtain⟨b,eb⟩:∃b,(h0::r)[i+1]?=some b:=⟨_,zV (by rw[yR];omega)⟩
   have hb:=hlt b (yN eb)
   walk_at "dl"
   refine⟨rfl,?_⟩
   walk_at "dl"
   refine⟨rfl,rfl,fun _=>?_⟩
   walk_at "r"
   refine d2A_ixt (ds:=numsD (h0::r)) (d:=.int (a:Int)) (by rw[show((1:Int)+(i:Int) - 1)=(i:Int) by omega];exact atI_nat (nums_at ea)) ?_
   walk_at "r"
   refine d2A_ixt (ds:=numsD (h0::r)) (d:=.int (b:Int)) (by rw[show((1:Int)+(i:Int))=((i+1:Nat):Int) by omega];exact atI_nat (nums_at eb)) ?_
   walk_at "r"
   refine needed_call hg hb ?_
   refine d2_inD rfl (shaped_nums _) ?_
   rw[if_neg nft,any_nums,decide_eq_true (hst i a b ea eb)]
   exact⟨rfl,rfl⟩
 rw[flt0,all_trues]
 walk_at "r"
 refine rd_all ?_
 rw[all_reps]
 exact⟨M,zT M,rfl,rfl⟩
end
section
variable {P:Program}{w:World}{K:Frg}{mg:Str→Option Value}{base:Heap}
abbrev s__law_right:Stmt:=_root_.sT 37
def nm__law_right:List Str:=["_law_book_here", "_law_struck_here", "_law_found", "_law_told", "_law_due"]
def cc__law_right_0:List Str:=["_law_chain", "_law_struck_here", "_law_book_here"]
def cf__law_right_0:List (Option Nat):=[none,some 1,some 0]
theorem cn__law_right_0:cc__law_right_0.Nodup:=by decide +kernel
def cc__law_right_1:List Str:=["_law_chain"]
def cf__law_right_1:List (Option Nat):=[none]
theorem cn__law_right_1:cc__law_right_1.Nodup:=by decide +kernel
def cc__law_right_2:List Str:=["_law_one", "_law_struck_here"]
def cf__law_right_2:List (Option Nat):=[none,some 1]
theorem cn__law_right_2:cc__law_right_2.Nodup:=by decide +kernel
theorem sc__law_right:FnScope nm__law_right ["_law_book_here", "_law_struck_here"] (defScope s__law_right):=⟨rfl,rfl,rfl,by decide +kernel,rfl,by decide +kernel,by decide +kernel⟩
theorem ok__law_right {f:Addr}{fd:FuncData}{c_NoLine:Addr}(F:Fun K "_law_right" "_law_right" s__law_right f fd) (n_all:mg "all"=none) (n_isinstance:mg "isinstance"=none) (n_list:mg "list"=none) (n_tuple:mg "tuple"=none) (h_chains:HasX P w K mg base "chains" 6 ["book", "struck"] (GB c_NoLine fChains)) (h_goes:HasX P w K mg base "goes" 6 ["book", "struck"] (GB c_NoLine fGoes)) (h__law_chained:Has P w K mg base "_law_chained" 3 ["_law_lines", "_law_struck_here", "_law_chain"] S32_chained) (h__law_goes:Has P w K mg base "_law_goes" 3 ["_law_lines", "_law_struck_here"] S32_goes):FnOk P w K mg base CX0 7 f fd ["_law_book_here", "_law_struck_here"] (spD K 2 S32_right):=by
 refine fnD F sc__law_right fun cdv A outer s H E hr=>?_
 have hu:=hr.units
 refine⟨_,(@pss_cons _ _ _ _ _ (@ps_set _ _ (2) _ _ _ _ sc__law_right.nd rfl (by walk_at "lc") (@kCall _ (K) (P) (w) (mg) (base) _ _ _ _ _ _ _ _ _ rfl rfl rfl rfl rfl (calm_goes h_goes) (hr.mono (by decide)) rfl (@pa_cons _ _ _ _ _ (@pv _ 0 _ _ (by rfl) (by walk_at "lc") (by decide) (by decide)) (@pa_cons _ _ _ _ _ (@pv _ 1 _ _ (by rfl) (by walk_at "lc") (by decide) (by decide)) (@pa_nil _) (by rfl)) (by rfl)) (by decide) (by rfl) (by rfl)) (by rfl) (by first   | exact .inl rfl   | exact .inr rfl   | assumption)) (@pss_cons _ _ _ _ _ (@ps_set _ _ (3) _ _ _ _ sc__law_right.nd rfl (by walk_at "lc") (@kCall _ (K) (P) (w) (mg) (base) _ _ _ _ _ _ _ _ _ rfl rfl rfl rfl rfl (calm_chains h_chains) (hr.mono (by decide)) rfl (@pa_cons _ _ _ _ _ (@pv _ 0 _ _ (by rfl) (by walk_at "lc") (by decide) (by decide)) (@pa_cons _ _ _ _ _ (@pv _ 1 _ _ (by rfl) (by walk_at "lc") (by decide) (by decide)) (@pa_nil _) (by rfl)) (by rfl)) (by decide) (by rfl) (by rfl)) (by rfl) (by first   | exact .inl rfl   | exact .inr rfl   | assumption)) (@pss_cons _ _ _ _ _ (@ps_set _ _ (4) _ _ _ _ sc__law_right.nd rfl (by walk_at "lc") (@kCall _ (K) (P) (w) (mg) (base) _ _ _ _ _ _ _ _ _ rfl rfl rfl rfl rfl h__law_goes (hr.mono (by decide)) rfl (@pa_cons _ _ _ _ _ (@pe_ix _ _ _ _ _ _ _ (@kIx _ (K) rfl) (@pv _ 0 _ _ (by rfl) (by walk_at "lc") (by decide) (by decide)) (@pe_int _ _ _ _) (fun _ _=>rfl)) (@pa_cons _ _ _ _ _ (@pv _ 1 _ _ (by rfl) (by walk_at "lc") (by decide) (by decide)) (@pa_nil _) (by rfl)) (by rfl)) (by decide) (by rfl) (by rfl)) (by rfl) (by first   | exact .inl rfl   | exact .inr rfl   | assumption)) (@pss_cons _ _ _ _ _ (@ps_if _ _ _ _ _ _ _ _ (@L2.PW.pt _ _ _ (@pw_or _ _ _ _ _ _ _ (@pt_not _ _ _ _ (@pt_val _ _ _ (@pe_callB _ _ _ _ _ _ _ _ _ (@kIsi _ (K) rfl) (by rfl) n_isinstance PyProof.Rows.boot_isinstance (@pa_cons _ _ _ _ _ (@pv _ 2 _ _ (by rfl) (by walk_at "lc") (by decide) (by decide)) (@pa_cons _ _ _ _ _ (@pe_bltn _ _ (.ty "tuple") _ _ rfl n_tuple PyProof.Rows.boot_tuple rfl (by decide) (by decide)) (@pa_nil _) (by rfl)) (by rfl)) (by decide) (by decide) (by rfl) (by rfl)) (by intro _;rfl))) (@pw_or _ _ _ _ _ _ _ (@pt_cmpR _ _ _ _ _ _ _ _ (@kNe _ (K) rfl hu) (@pe_callTy _ _ _ _ _ _ _ _ _ (@kList _ (K) rfl) (by rfl) n_list PyProof.Rows.boot_list (@pa_cons _ _ _ _ _ (@pv _ 2 _ _ (by rfl) (by walk_at "lc") (by decide) (by decide)) (@pa_nil _) (by rfl)) (by decide) (by decide) (by rfl) (by rfl)) (@pv _ 4 _ _ (by rfl) (by walk_at "lc") (by decide) (by decide)) (@nomark _ _ (by decide) (by decide))) (@pw_or1 _ _ _ _ (@pt_not _ _ _ _ (@pt_val _ _ _ (@pe_callB _ _ _ _ _ _ _ _ _ (@kIsi _ (K) rfl) (by rfl) n_isinstance PyProof.Rows.boot_isinstance (@pa_cons _ _ _ _ _ (@pv _ 3 _ _ (by rfl) (by walk_at "lc") (by decide) (by decide)) (@pa_cons _ _ _ _ _ (@pe_bltn _ _ (.ty "tuple") _ _ rfl n_tuple PyProof.Rows.boot_tuple rfl (by decide) (by decide)) (@pa_nil _) (by rfl)) (by rfl)) (by decide) (by decide) (by rfl) (by rfl)) (by intro _;rfl))))))) (@pss_one _ _ _ (@ps_ret _ _ _ _ (@pe_bl _ _ _ _))) (@pss_nil _)) (@pss_cons _ _ _ _ _ (@ps_if _ _ _ _ _ _ _ _ (@pt_not _ _ _ _ (@pt_val _ _ _ (@pe_callB _ _ _ _ _ _ _ _ _ (@kAll _ (K) rfl rfl) (by rfl) n_all PyProof.Rows.boot_all (@pa_cons _ _ _ _ _ (@pe_comp _ _ _ _ _ _ _ _ _ _ _ _ _ rfl (@L2.CSc.of _ _ (cc__law_right_0) (cf__law_right_0) (defScope s__law_right) (nm__law_right) (by decide +kernel) rfl rfl) (@kIter _ (K) _ _ _ rfl (@pv _ 3 _ _ (by rfl) (by walk_at "lc") (by decide) (by decide))) (fun C s' H' ex' pn'=>⟨@pg_name _ _ (0) _ cn__law_right_0 rfl (by walk_at "lc") (by first   | exact .inl rfl   | exact .inr rfl   | assumption),@pts_nil _,(@kCall _ (K) (P) (w) (mg) (base) _ _ _ _ _ _ _ _ _ rfl rfl rfl rfl rfl h__law_chained (hr.mono (by decide)) rfl (@pa_cons _ _ _ _ _ (@pe_ix _ _ _ _ _ _ _ (@kIx _ (K) rfl) (@pv _ 2 _ _ (by rfl) (by walk_at "lc") (by decide) (by decide)) (@pe_int _ _ _ _) (fun _ _=>rfl)) (@pa_cons _ _ _ _ _ (@pv _ 1 _ _ (by rfl) (by walk_at "lc") (by decide) (by decide)) (@pa_cons _ _ _ _ _ (@pv _ 0 _ _ (by rfl) (by walk_at "lc") (by decide) (by decide)) (@pa_nil _) (by rfl)) (by rfl)) (by rfl)) (by decide) (by rfl) (by rfl))⟩) (by intro _;rfl)) (@pa_nil _) (by rfl)) (by decide) (by decide) (by rfl) (by rfl)) (by intro _;rfl))) (@pss_one _ _ _ (@ps_ret _ _ _ _ (@pe_bl _ _ _ _))) (@pss_nil _)) (@pss_one _ _ _ (@ps_ret _ _ _ _ (@pe_cmpR _ _ _ _ _ _ _ _ (@kEq _ (K) rfl hu) (@pe_comp _ _ _ _ _ _ _ _ _ _ _ _ _ rfl (@L2.CSc.of _ _ (cc__law_right_1) (cf__law_right_1) (defScope s__law_right) (nm__law_right) (by decide +kernel) rfl rfl) (@kIter _ (K) _ _ _ rfl (@pv _ 3 _ _ (by rfl) (by walk_at "lc") (by decide) (by decide))) (fun C s' H' ex' pn'=>⟨@pg_name _ _ (0) _ cn__law_right_1 rfl (by walk_at "lc") (by first   | exact .inl rfl   | exact .inr rfl   | assumption),@pts_nil _,(@pe_ix _ _ _ _ _ _ _ (@kIx _ (K) rfl) (@pv _ 0 _ _ (by rfl) (by walk_at "lc") (by decide) (by decide)) (@pe_un _ _ _ _ _ _ (@un_neg _) (@pe_int _ _ _ _)) (fun _ _=>rfl))⟩) (by intro _;rfl)) (@pe_comp _ _ _ _ _ _ _ _ _ _ _ _ _ rfl (@L2.CSc.of _ _ (cc__law_right_2) (cf__law_right_2) (defScope s__law_right) (nm__law_right) (by decide +kernel) rfl rfl) (@kIter _ (K) _ _ _ rfl (@pv _ 4 _ _ (by rfl) (by walk_at "lc") (by decide) (by decide))) (fun C s' H' ex' pn'=>⟨@pg_name _ _ (0) _ cn__law_right_2 rfl (by walk_at "lc") (by first   | exact .inl rfl   | exact .inr rfl   | assumption),(@pts_one _ _ _ (@pt_cmpR _ _ _ _ _ _ _ _ (@kNotInD _ (K) rfl hu) (@pv _ 0 _ _ (by rfl) (by walk_at "lc") (by decide) (by decide)) (@pv _ 1 _ _ (by rfl) (by walk_at "lc") (by decide) (by decide)) (by with_unfolding_all rfl))),(@pv _ 0 _ _ (by rfl) (by walk_at "lc") (by decide) (by decide))⟩) (by intro _;rfl)) (@nomark _ _ (by decide) (by decide)))))))))),?_⟩
 rintro xs M hl ⟨w,ls,ns,rfl,hg,hl60,hn⟩
 have hfew:=hg.few
 have hn2:∀m∈ns,m < (dsL ls).length:=fun m hm=>by rw[zX];exact hn m hm
 have hfl:(foundB ls ns).length≤50:=zN (found_len _ _ _) (by rw[zX];exact hfew)
 have hcl:(chainsB ls ns).length≤50:=by unfold chainsB;rw[zX];exact zN (yJ _ _) hfl
 walk_at "r"
 refine SB_call hg hl60 hn fun y M' hf=>?_
 obtain⟨rfl,rfl⟩:=hf
 walk_at "r"
 refine SB_call hg hl60 hn fun y M' hf=>?_
 obtain⟨rfl,rfl⟩:=hf
 walk_at "r"
 refine d2A_ixt (ds:=[wD w,linesD ls]) (d:=linesD ls) rfl ?_
 walk_at "r"
 refine goes32_call hg.any hl60 ?_
 walk_at "r"
 refine rd_listt (ds:=numsD (foundB ls ns)) ?_
 walk_at "r"
 refine d2_eq (shaped_nums _) (shaped_nums _) ?_
 rw[if_pos rfl,eqv_self (shaped_nums _)]
 walk_at "r"
 refine de_comp_pure (go_name 0) (by simp[cf__law_right_0]) ?_
 refine diA_tup ?_
 walk_at "r"
 refine⟨by rw[zX];exact zQ hcl (by decide),fun _=>true,fun _=>.bool true,?_,?_⟩
 · intro d hd M'
   obtain⟨c,hc,rfl⟩:=zL.mp hd
   obtain⟨m,hm,hch⟩:=chains_mem hn2 hc
   walk_at "dl"
   refine⟨rfl,?_⟩
   walk_at "dl"
   refine⟨rfl,rfl,fun _=>?_⟩
   walk_at "r"
   refine d2A_ixt (ds:=[wD w,linesD ls]) (d:=linesD ls) rfl ?_
   walk_at "r"
   refine chained_call hg.any hl60 hch hm ?_
   exact⟨rfl,rfl⟩
 rw[flt0,all_trues]
 walk_at "r"
 refine rd_all ?_
 rw[all_reps]
 walk_at "r"
 refine de_comp_pure (go_name 0) (by simp[cf__law_right_1]) ?_
 refine diA_tup ?_
 walk_at "r"
 refine⟨by rw[zX];exact zQ hcl (by decide),fun _=>true,lastD,?_,?_⟩
 · intro d hd M'
   obtain⟨c,hc,rfl⟩:=zL.mp hd
   obtain⟨m,hm,hch⟩:=chains_mem hn2 hc
   obtain⟨l1,l2⟩:=last_at hch.last
   walk_at "dl"
   refine⟨rfl,?_⟩
   walk_at "dl"
   refine⟨rfl,rfl,fun _=>?_⟩
   walk_at "r"
   refine d2A_ixt (ds:=numsD c) (d:=.int (m:Int)) l1 ?_
   exact⟨by rw[l2],rfl⟩
 rw[flt0,lasts_eq hn2]
 walk_at "r"
 refine de_comp_pure (go_name 0) (by simp[cf__law_right_2]) ?_
 refine diA_list ?_
 walk_at "r"
 refine⟨by rw[nums_len];exact zQ hfl (by decide),cCh ns,id,?_,?_⟩
 · intro d hd M'
   obtain⟨i,hi,rfl⟩:=zL.mp hd
   walk_at "dl"
   refine⟨rfl,?_⟩
   walk_at "r"
   refine d2_inDT rfl (shaped_numsT ns) ?_
   refine⟨_,rfl,rfl,rfl,fun _=>?_⟩
   walk_at "r"
   exact⟨rfl,rfl⟩
 rw[due_eq]
 refine d2_eq (shaped_nums _) (shaped_nums _) ?_
 rw[if_neg nft,eqv_self (shaped_nums _)]
 exact⟨_,zT _,rfl,rfl⟩
end
section
variable {P:Program}{w:World}{K:Frg}{mg:Str→Option Value}{base:Heap}
abbrev s__law_refused:Stmt:=_root_.sT 38
def nm__law_refused:List Str:=["_law_deed_here", "_law_book_here", "_law_struck_here", "_law_caught", "e"]
theorem sc__law_refused:FnScope nm__law_refused ["_law_deed_here", "_law_book_here", "_law_struck_here"] (defScope s__law_refused):=⟨rfl,rfl,rfl,by decide +kernel,rfl,by decide +kernel,by decide +kernel⟩
theorem ok__law_refused {f:Addr}{fd:FuncData}{c_S c_NoLine:Addr}(F:Fun K "_law_refused" "_law_refused" s__law_refused f fd) (n_isinstance:mg "isinstance"=none) (q_NoLine:mg "NoLine"=some (.ref c_NoLine)) (t_S:mg "StrikeError"=some (.ref c_S)) (u_S:XTop K c_S) (m_N:XM K c_NoLine c_S) (kt_N:XKit K c_NoLine) (kn_N:PySem.W.kitOne K (.ref c_NoLine) (.ref c_NoLine)=some true) (na_N:NoAttr K c_NoLine "line") (h_chains:HasX P w K mg base "chains" 6 ["book", "struck"] (GB c_NoLine fChains)) (h_goes:HasX P w K mg base "goes" 6 ["book", "struck"] (GB c_NoLine fGoes)) (h_left:HasX P w K mg base "left" 7 ["book", "struck"] (GL c_NoLine)):FnOk P w K mg base CX0 8 f fd ["_law_deed_here", "_law_book_here", "_law_struck_here"] (spD K 3 S32_refused):=by
 refine fnD F sc__law_refused fun cdv A outer s H E hr=>?_
 have hu:=hr.units
 refine⟨_,(@pss_cons _ _ _ _ _ (@ps_set _ _ (3) _ _ _ _ sc__law_refused.nd rfl (by walk_at "lc") (@pe_non _ _ _) (by rfl) (by first   | exact .inl rfl   | exact .inr rfl   | assumption)) (@pss_cons _ _ _ _ _ (@kTryAs _ (Cx.nox (cxOf CX0 P w K mg base nm__law_refused "_law_refused" (defScope s__law_refused) f cdv A outer s H E)) _ (4) _ _ _ _ _ _ _ _ _ _ rfl rfl rfl sc__law_refused.nd rfl rfl rfl t_S (fun pn R=>(@pss_one _ _ _ (@ps_if _ _ _ _ _ _ _ _ (@pt_cmpR _ _ _ _ _ _ _ _ (@kEq _ (K) rfl hu) (@pv _ 0 _ _ (by rfl) (by walk_at "lc") (by decide) (by decide)) (@pe_int _ _ _ _) (@nomark _ _ (by decide) (by decide))) (@pss_one _ _ _ (@ps_expr _ _ _ _ (@kCallX _ _ _ _ _ (pinned (Cx.nox (cxOf CX0 P w K mg base nm__law_refused "_law_refused" (defScope s__law_refused) f cdv A outer s H E)) pn) R _ _ _ _ _ _ _ _ _ rfl rfl rfl rfl rfl h_goes (hr.mono (by decide)) rfl (@pa_cons _ _ _ _ _ (@pv _ 1 _ _ (by rfl) (by walk_at "lc") (by decide) (by decide)) (@pa_cons _ _ _ _ _ (@pv _ 2 _ _ (by rfl) (by walk_at "lc") (by decide) (by decide)) (@pa_nil _) (by rfl)) (by rfl)) (by decide) (by rfl) (by rfl)) (by rfl))) (@pss_one _ _ _ (@ps_if _ _ _ _ _ _ _ _ (@pt_cmpR _ _ _ _ _ _ _ _ (@kEq _ (K) rfl hu) (@pv _ 0 _ _ (by rfl) (by walk_at "lc") (by decide) (by decide)) (@pe_int _ _ _ _) (@nomark _ _ (by decide) (by decide))) (@pss_one _ _ _ (@ps_expr _ _ _ _ (@kCallX _ _ _ _ _ (pinned (Cx.nox (cxOf CX0 P w K mg base nm__law_refused "_law_refused" (defScope s__law_refused) f cdv A outer s H E)) pn) R _ _ _ _ _ _ _ _ _ rfl rfl rfl rfl rfl h_chains (hr.mono (by decide)) rfl (@pa_cons _ _ _ _ _ (@pv _ 1 _ _ (by rfl) (by walk_at "lc") (by decide) (by decide)) (@pa_cons _ _ _ _ _ (@pv _ 2 _ _ (by rfl) (by walk_at "lc") (by decide) (by decide)) (@pa_nil _) (by rfl)) (by rfl)) (by decide) (by rfl) (by rfl)) (by rfl))) (@pss_one _ _ _ (@ps_expr _ _ _ _ (@kCallX _ _ _ _ _ (pinned (Cx.nox (cxOf CX0 P w K mg base nm__law_refused "_law_refused" (defScope s__law_refused) f cdv A outer s H E)) pn) R _ _ _ _ _ _ _ _ _ rfl rfl rfl rfl rfl h_left (hr.mono (by decide)) rfl (@pa_cons _ _ _ _ _ (@pv _ 1 _ _ (by rfl) (by walk_at "lc") (by decide) (by decide)) (@pa_cons _ _ _ _ _ (@pv _ 2 _ _ (by rfl) (by walk_at "lc") (by decide) (by decide)) (@pa_nil _) (by rfl)) (by rfl)) (by decide) (by rfl) (by rfl)) (by rfl)))))))) (fun a=>(@pss_one _ _ _ (@ps_set _ _ (3) _ _ _ _ sc__law_refused.nd rfl (by walk_at "lc") (@pv _ 4 _ _ (by rfl) (by walk_at "lc") (by decide) (by decide)) (by rfl) (by first   | exact .inl rfl   | exact .inr rfl   | assumption)))) (by decide)) (@pss_cons _ _ _ _ _ (@ps_if _ _ _ _ _ _ _ _ (@pt_not _ _ _ _ (@pt_val _ _ _ (@pe_callB _ _ _ _ _ _ _ _ _ (@kIsiX _ (K) rfl) (by rfl) n_isinstance PyProof.Rows.boot_isinstance (@pa_cons _ _ _ _ _ (@pv _ 3 _ _ (by rfl) (by walk_at "lc") (by decide) (by decide)) (@pa_cons _ _ _ _ _ (@pe_gref _ _ _ _ rfl q_NoLine (by decide)) (@pa_nil _) (by rfl)) (by rfl)) (by decide) (by decide) (by rfl) (by rfl)) (by intro _;rfl))) (@pss_one _ _ _ (@ps_ret _ _ _ _ (@pe_lst _ _ _ _ (@pa_cons _ _ _ _ _ (@pe_bl _ _ _ _) (@pa_cons _ _ _ _ _ (@pe_non _ _ _) (@pa_nil _) (by rfl)) (by rfl))))) (@pss_nil _)) (@pss_one _ _ _ (@ps_ret _ _ _ _ (@pe_lst _ _ _ _ (@pa_cons _ _ _ _ _ (@pe_bl _ _ _ _) (@pa_cons _ _ _ _ _ (@kFldX _ (K) _ _ _ _ rfl (@pv _ 3 _ _ (by rfl) (by walk_at "lc") (by decide) (by decide)) rfl) (@pa_nil _) (by rfl)) (by rfl)))))))),?_⟩
 rintro xs M hl ⟨k,w,ls,ds,d,rfl,hg,hl60,hd⟩
 walk_at "r"
 refine ds_tryAs fun R=>?_
 walk_at "r"
 refine d2_eq rfl rfl ?_
 rw[if_neg nft,eqv_int]
 cases hk0:decide (k=0) with
 | true=>
   walk_at "r"
   refine GB_call hg hl60 (fun ns y M' e hn _=>?_) (fun d' he=>?_)
   · subst e
     rw[findNo_nums hn] at hd;cases hd
   rw[hd] at he
   obtain rfl:=Option.some.inj he
   refine⟨c_NoLine,rfl,m_N,fun a hM=>?_⟩
   walk_at "r"
   refine rd_isiX zU kt_N kn_N ?_
   walk_at "r"
   refine de_lst ?_
   walk_at "r"
   refine de_fldX ?_
   walk_at "r"
   refine⟨a,c_NoLine,d,rfl,zU,kt_N,na_N,?_⟩
   walk_at "r"
   refine⟨M,(zT M).put hM,fun k' w' ls' ds' e'=>?_⟩
   obtain⟨_,e2⟩:=List.cons.inj e'
   obtain⟨e3,e4⟩:=bs_inj e2
   subst e3 e4
   exact⟨d,hd,rfl,rfl⟩
 | false=>
   walk_at "r"
   refine d2_eq rfl rfl ?_
   rw[if_neg nft,eqv_int]
   cases hk1:decide (k=1) with
   | true=>
     walk_at "r"
     refine GB_call hg hl60 (fun ns y M' e hn _=>?_) (fun d' he=>?_)
     · subst e
       rw[findNo_nums hn] at hd;cases hd
     rw[hd] at he
     obtain rfl:=Option.some.inj he
     refine⟨c_NoLine,rfl,m_N,fun a hM=>?_⟩
     walk_at "r"
     refine rd_isiX zU kt_N kn_N ?_
     walk_at "r"
     refine de_lst ?_
     walk_at "r"
     refine de_fldX ?_
     walk_at "r"
     refine⟨a,c_NoLine,d,rfl,zU,kt_N,na_N,?_⟩
     walk_at "r"
     refine⟨M,(zT M).put hM,fun k' w' ls' ds' e'=>?_⟩
     obtain⟨_,e2⟩:=List.cons.inj e'
     obtain⟨e3,e4⟩:=bs_inj e2
     subst e3 e4
     exact⟨d,hd,rfl,rfl⟩
   | false=>
     walk_at "r"
     refine GL_call hg hl60 hd ?_
     refine⟨c_NoLine,rfl,m_N,fun a hM=>?_⟩
     walk_at "r"
     refine rd_isiX zU kt_N kn_N ?_
     walk_at "r"
     refine de_lst ?_
     walk_at "r"
     refine de_fldX ?_
     walk_at "r"
     refine⟨a,c_NoLine,d,rfl,zU,kt_N,na_N,?_⟩
     walk_at "r"
     refine⟨M,(zT M).put hM,fun k' w' ls' ds' e'=>?_⟩
     obtain⟨_,e2⟩:=List.cons.inj e'
     obtain⟨e3,e4⟩:=bs_inj e2
     subst e3 e4
     exact⟨d,hd,rfl,rfl⟩
end
section
variable {P:Program}{w:World}{K:Frg}{mg:Str→Option Value}{base:Heap}
abbrev s_law:Stmt:=_root_.sT 39
def nm_law:List Str:=["_law_script", "_law_book_here", "_law_cell", "_law_pack", "_law_struck_here", "_law_size", "_law_odd", "_law_more", "_law_deed_here"]
def cc_law_0:List Str:=["_law_deed_here", "_law_book_here", "_law_odd"]
def cf_law_0:List (Option Nat):=[none,some 1,some 6]
theorem cn_law_0:cc_law_0.Nodup:=by decide +kernel
theorem sc_law:FnScope nm_law ["_law_script"] (defScope s_law):=⟨rfl,rfl,rfl,by decide +kernel,rfl,by decide +kernel,by decide +kernel⟩
theorem ok_law {f:Addr}{fd:FuncData}(F:Fun K "law" "law" s_law f fd) (n_all:mg "all"=none) (n_len:mg "len"=none) (n_range:mg "range"=none) (n_sum:mg "sum"=none) (n_tuple:mg "tuple"=none) (h__law_book:Has P w K mg base "_law_book" 3 ["_law_head", "_law_cells"] S32_book) (h__law_mixed:Has P w K mg base "_law_mixed" 1 ["_law_cell"] S__law_mixed) (h__law_refused:Has P w K mg base "_law_refused" 8 ["_law_deed_here", "_law_book_here", "_law_struck_here"] S32_refused) (h__law_right:Has P w K mg base "_law_right" 7 ["_law_book_here", "_law_struck_here"] S32_right) (h__law_struck:Has P w K mg base "_law_struck" 2 ["_law_pack", "_law_lines"] S32_struck) (h__law_take:Has P w K mg base "_law_take" 1 ["_law_pack", "_law_size"] S__law_take):FnOk P w K mg base CX0 9 f fd ["_law_script"] (spD K 1 S_law):=by
 refine fnD F sc_law fun cdv A outer s H E hr=>?_
 have hu:=hr.units
 refine⟨_,(@pss_cons _ _ _ _ _ (@ps_set _ _ (1) _ _ _ _ sc_law.nd rfl (by walk_at "lc") (@kCall _ (K) (P) (w) (mg) (base) _ _ _ _ _ _ _ _ _ rfl rfl rfl rfl rfl h__law_book (hr.mono (by decide)) rfl (@pa_cons _ _ _ _ _ (@pe_callB _ _ _ _ _ _ _ _ _ (@kSum _ (K) rfl rfl) (by rfl) n_sum PyProof.Rows.boot_sum (@pa_cons _ _ _ _ _ (@pe_slice _ _ _ _ _ _ _ _ _ _ (@kSlB _ (K) rfl) (@pv _ 0 _ _ (by rfl) (by walk_at "lc") (by decide) (by decide)) (@po_some _ _ _ (@pe_int _ _ _ _)) (@po_some _ _ _ (@pe_int _ _ _ _))) (@pa_nil _) (by rfl)) (by decide) (by decide) (by rfl) (by rfl)) (@pa_cons _ _ _ _ _ (@pe_slice _ _ _ _ _ _ _ _ _ _ (@kSlB _ (K) rfl) (@pv _ 0 _ _ (by rfl) (by walk_at "lc") (by decide) (by decide)) (@po_some _ _ _ (@pe_int _ _ _ _)) (@po_some _ _ _ (@pe_int _ _ _ _))) (@pa_nil _) (by rfl)) (by rfl)) (by decide) (by rfl) (by rfl)) (by rfl) (by first   | exact .inl rfl   | exact .inr rfl   | assumption)) (@pss_cons _ _ _ _ _ (@ps_for _ _ _ _ _ _ _ _ PassesOwn.never rfl (@kIter _ (K) _ _ _ rfl (@pe_op _ _ _ _ _ _ _ _ (@kAddB _ (K) rfl) (@pe_lst _ _ _ _ (@pa_cons _ _ _ _ _ (@pe_callB _ _ _ _ _ _ _ _ _ (@kSum _ (K) rfl rfl) (by rfl) n_sum PyProof.Rows.boot_sum (@pa_cons _ _ _ _ _ (@pe_slice _ _ _ _ _ _ _ _ _ _ (@kSlB _ (K) rfl) (@pv _ 0 _ _ (by rfl) (by walk_at "lc") (by decide) (by decide)) (@po_some _ _ _ (@pe_int _ _ _ _)) (@po_some _ _ _ (@pe_int _ _ _ _))) (@pa_nil _) (by rfl)) (by decide) (by decide) (by rfl) (by rfl)) (@pa_nil _) (by rfl))) (@pe_slice _ _ _ _ _ _ _ _ _ _ (@kSlB _ (K) rfl) (@pv _ 0 _ _ (by rfl) (by walk_at "lc") (by decide) (by decide)) (@po_some _ _ _ (@pe_int _ _ _ _)) (@po_some _ _ _ (@pe_int _ _ _ _))))) (@pg_name _ _ (2) _ sc_law.nd rfl (by walk_at "lc") (by first   | exact .inl rfl   | exact .inr rfl   | assumption)) (@pss_cons _ _ _ _ _ (@ps_set _ _ (3) _ _ _ _ sc_law.nd rfl (by walk_at "lc") (@pe_lst _ _ _ _ (@pa_cons _ _ _ _ _ (@kCall _ (K) (P) (w) (mg) (base) _ _ _ _ _ _ _ _ _ rfl rfl rfl rfl rfl h__law_mixed (hr.mono (by decide)) rfl (@pa_cons _ _ _ _ _ (@pv _ 2 _ _ (by rfl) (by walk_at "lc") (by decide) (by decide)) (@pa_nil _) (by rfl)) (by decide) (by rfl) (by rfl)) (@pa_nil _) (by rfl))) (by rfl) (by first   | exact .inl rfl   | exact .inr rfl   | assumption)) (@pss_cons _ _ _ _ _ (@ps_set _ _ (4) _ _ _ _ sc_law.nd rfl (by walk_at "lc") (@kCall _ (K) (P) (w) (mg) (base) _ _ _ _ _ _ _ _ _ rfl rfl rfl rfl rfl h__law_struck (hr.mono (by decide)) rfl (@pa_cons _ _ _ _ _ (@pv _ 3 _ _ (by rfl) (by walk_at "lc") (by decide) (by decide)) (@pa_cons _ _ _ _ _ (@pe_ix _ _ _ _ _ _ _ (@kIx _ (K) rfl) (@pv _ 1 _ _ (by rfl) (by walk_at "lc") (by decide) (by decide)) (@pe_int _ _ _ _) (fun _ _=>rfl)) (@pa_nil _) (by rfl)) (by rfl)) (by decide) (by rfl) (by rfl)) (by rfl) (by first   | exact .inl rfl   | exact .inr rfl   | assumption)) (@pss_cons _ _ _ _ _ (@ps_if _ _ _ _ _ _ _ _ (@pt_not _ _ _ _ (@pt_val _ _ _ (@kCall _ (K) (P) (w) (mg) (base) _ _ _ _ _ _ _ _ _ rfl rfl rfl rfl rfl h__law_right (hr.mono (by decide)) rfl (@pa_cons _ _ _ _ _ (@pv _ 1 _ _ (by rfl) (by walk_at "lc") (by decide) (by decide)) (@pa_cons _ _ _ _ _ (@pv _ 4 _ _ (by rfl) (by walk_at "lc") (by decide) (by decide)) (@pa_nil _) (by rfl)) (by rfl)) (by decide) (by rfl) (by rfl)) (by intro _;rfl))) (@pss_one _ _ _ (@ps_ret _ _ _ _ (@pe_bl _ _ _ _))) (@pss_nil _)) (@pss_cons _ _ _ _ _ (@ps_set _ _ (5) _ _ _ _ sc_law.nd rfl (by walk_at "lc") (@pe_callB _ _ _ _ _ _ _ _ _ (@kLen _ (K) rfl) (by rfl) n_len PySem.boot_len (@pa_cons _ _ _ _ _ (@pe_ix _ _ _ _ _ _ _ (@kIx _ (K) rfl) (@pv _ 1 _ _ (by rfl) (by walk_at "lc") (by decide) (by decide)) (@pe_int _ _ _ _) (fun _ _=>rfl)) (@pa_nil _) (by rfl)) (by decide) (by decide) (by rfl) (by rfl)) (by rfl) (by first   | exact .inl rfl   | exact .inr rfl   | assumption)) (@pss_cons _ _ _ _ _ (@ps_set _ _ (6) _ _ _ _ sc_law.nd rfl (by walk_at "lc") (@pe_ix _ _ _ _ _ _ _ (@kIx _ (K) rfl) (@pe_lst _ _ _ _ (@pa_cons _ _ _ _ _ (@pe_op _ _ _ _ _ _ _ _ (@op_sub _) (@pe_int _ _ _ _) (@pe_int _ _ _ _)) (@pa_cons _ _ _ _ _ (@pv _ 5 _ _ (by rfl) (by walk_at "lc") (by decide) (by decide)) (@pa_cons _ _ _ _ _ (@pe_str _ _ _ _) (@pa_cons _ _ _ _ _ (@pe_non _ _ _) (@pa_cons _ _ _ _ _ (@pe_tup _ _ _ _ _ (@pa_cons _ _ _ _ _ (@pe_int _ _ _ _) (@pa_nil _) (by rfl))) (@pa_cons _ _ _ _ _ (@pe_op _ _ _ _ _ _ _ _ (@kAddB _ (K) rfl) (@pv _ 5 _ _ (by rfl) (by walk_at "lc") (by decide) (by decide)) (@pe_int _ _ _ _)) (@pa_cons _ _ _ _ _ (@pe_str _ _ _ _) (@pa_cons _ _ _ _ _ (@pe_tup _ _ _ _ _ (@pa_nil _)) (@pa_cons _ _ _ _ _ (@pe_lst _ _ _ _ (@pa_cons _ _ _ _ _ (@pe_int _ _ _ _) (@pa_nil _) (by rfl))) (@pa_cons _ _ _ _ _ (@pe_dnewK _ _) (@pa_nil _) (by rfl)) (by rfl)) (by rfl)) (by rfl)) (by rfl)) (by rfl)) (by rfl)) (by rfl)) (by rfl)) (by rfl))) (@kCall _ (K) (P) (w) (mg) (base) _ _ _ _ _ _ _ _ _ rfl rfl rfl rfl rfl h__law_take (hr.mono (by decide)) rfl (@pa_cons _ _ _ _ _ (@pv _ 3 _ _ (by rfl) (by walk_at "lc") (by decide) (by decide)) (@pa_cons _ _ _ _ _ (@pe_int _ _ _ _) (@pa_nil _) (by rfl)) (by rfl)) (by decide) (by rfl) (by rfl)) (fun _ _=>rfl)) (by rfl) (by first   | exact .inl rfl   | exact .inr rfl   | assumption)) (@pss_cons _ _ _ _ _ (@ps_set _ _ (7) _ _ _ _ sc_law.nd rfl (by walk_at "lc") (@pe_ix _ _ _ _ _ _ _ (@kIx _ (K) rfl) (@pe_lst _ _ _ _ (@pa_cons _ _ _ _ _ (@pe_str _ _ _ _) (@pa_cons _ _ _ _ _ (@pv _ 6 _ _ (by rfl) (by walk_at "lc") (by decide) (by decide)) (@pa_nil _) (by rfl)) (by rfl))) (@kCall _ (K) (P) (w) (mg) (base) _ _ _ _ _ _ _ _ _ rfl rfl rfl rfl rfl h__law_take (hr.mono (by decide)) rfl (@pa_cons _ _ _ _ _ (@pv _ 3 _ _ (by rfl) (by walk_at "lc") (by decide) (by decide)) (@pa_cons _ _ _ _ _ (@pe_int _ _ _ _) (@pa_nil _) (by rfl)) (by rfl)) (by decide) (by rfl) (by rfl)) (fun _ _=>rfl)) (by rfl) (by first   | exact .inl rfl   | exact .inr rfl   | assumption)) (@pss_one _ _ _ (@ps_for _ _ _ _ _ _ _ _ PassesOwn.never rfl (@pi_range1 _ _ _ _ _ _ rfl n_range (@pa_cons _ _ _ _ _ (@pe_int _ _ _ _) (@pa_nil _) (by rfl)) (by rfl)) (@pg_name _ _ (8) _ sc_law.nd rfl (by walk_at "lc") (by first   | exact .inl rfl   | exact .inr rfl   | assumption)) (@pss_one _ _ _ (@ps_if _ _ _ _ _ _ _ _ (@pt_cmpR _ _ _ _ _ _ _ _ (@kNeX _ (K) rfl hu) (@kCall _ (K) (P) (w) (mg) (base) _ _ _ _ _ _ _ _ _ rfl rfl rfl rfl rfl h__law_refused (hr.mono (by decide)) rfl (@pa_cons _ _ _ _ _ (@pv _ 8 _ _ (by rfl) (by walk_at "lc") (by decide) (by decide)) (@pa_cons _ _ _ _ _ (@pv _ 1 _ _ (by rfl) (by walk_at "lc") (by decide) (by decide)) (@pa_cons _ _ _ _ _ (@pe_op _ _ _ _ _ _ _ _ (@kAddB _ (K) rfl) (@pe_op _ _ _ _ _ _ _ _ (@kAddB _ (K) rfl) (@pe_op _ _ _ _ _ _ _ _ (@kAddB _ (K) rfl) (@pv _ 4 _ _ (by rfl) (by walk_at "lc") (by decide) (by decide)) (@pe_tup _ _ _ _ _ (@pa_cons _ _ _ _ _ (@pv _ 6 _ _ (by rfl) (by walk_at "lc") (by decide) (by decide)) (@pa_nil _) (by rfl)))) (@pv _ 4 _ _ (by rfl) (by walk_at "lc") (by decide) (by decide))) (@pe_tup _ _ _ _ _ (@pa_cons _ _ _ _ _ (@pv _ 7 _ _ (by rfl) (by walk_at "lc") (by decide) (by decide)) (@pa_nil _) (by rfl)))) (@pa_nil _) (by rfl)) (by rfl)) (by rfl)) (by decide) (by rfl) (by rfl)) (@pe_lst _ _ _ _ (@pa_cons _ _ _ _ _ (@pe_bl _ _ _ _) (@pa_cons _ _ _ _ _ (@pv _ 6 _ _ (by rfl) (by walk_at "lc") (by decide) (by decide)) (@pa_nil _) (by rfl)) (by rfl))) (@nomark _ _ (by decide) (by decide))) (@pss_one _ _ _ (@ps_ret _ _ _ _ (@pe_bl _ _ _ _))) (@pss_nil _))) (by intro _;rfl))))))))) (by intro _;rfl)) (@pss_cons _ _ _ _ _ (@ps_for _ _ _ _ _ _ _ _ PassesOwn.never rfl (@kIter _ (K) _ _ _ rfl (@pe_lst _ _ _ _ (@pa_cons _ _ _ _ _ (@pe_bl _ _ _ _) (@pa_cons _ _ _ _ _ (@pe_bl _ _ _ _) (@pa_nil _) (by rfl)) (by rfl)))) (@pg_name _ _ (6) _ sc_law.nd rfl (by walk_at "lc") (by first   | exact .inl rfl   | exact .inr rfl   | assumption)) (@pss_one _ _ _ (@ps_if _ _ _ _ _ _ _ _ (@pt_not _ _ _ _ (@pt_val _ _ _ (@pe_callB _ _ _ _ _ _ _ _ _ (@kAll _ (K) rfl rfl) (by rfl) n_all PyProof.Rows.boot_all (@pa_cons _ _ _ _ _ (@pe_comp _ _ _ _ _ _ _ _ _ _ _ _ _ rfl (@L2.CSc.of _ _ (cc_law_0) (cf_law_0) (defScope s_law) (nm_law) (by decide +kernel) rfl rfl) (@pi_range1 _ _ _ _ _ _ rfl n_range (@pa_cons _ _ _ _ _ (@pe_int _ _ _ _) (@pa_nil _) (by rfl)) (by rfl)) (fun C s' H' ex' pn'=>⟨@pg_name _ _ (0) _ cn_law_0 rfl (by walk_at "lc") (by first   | exact .inl rfl   | exact .inr rfl   | assumption),@pts_nil _,(@pe_ix _ _ _ _ _ _ _ (@kIx _ (K) rfl) (@kCall _ (K) (P) (w) (mg) (base) _ _ _ _ _ _ _ _ _ rfl rfl rfl rfl rfl h__law_refused (hr.mono (by decide)) rfl (@pa_cons _ _ _ _ _ (@pv _ 0 _ _ (by rfl) (by walk_at "lc") (by decide) (by decide)) (@pa_cons _ _ _ _ _ (@pv _ 1 _ _ (by rfl) (by walk_at "lc") (by decide) (by decide)) (@pa_cons _ _ _ _ _ (@pe_tup _ _ _ _ _ (@pa_cons _ _ _ _ _ (@pv _ 2 _ _ (by rfl) (by walk_at "lc") (by decide) (by decide)) (@pa_nil _) (by rfl))) (@pa_nil _) (by rfl)) (by rfl)) (by rfl)) (by decide) (by rfl) (by rfl)) (@pe_int _ _ _ _) (fun _ _=>rfl))⟩) (by intro _;rfl)) (@pa_nil _) (by rfl)) (by decide) (by decide) (by rfl) (by rfl)) (by intro _;rfl))) (@pss_one _ _ _ (@ps_ret _ _ _ _ (@pe_bl _ _ _ _))) (@pss_nil _))) (by intro _;rfl)) (@pss_one _ _ _ (@ps_ret _ _ _ _ (@pe_and _ _ _ _ _ _ _ (@kCall _ (K) (P) (w) (mg) (base) _ _ _ _ _ _ _ _ _ rfl rfl rfl rfl rfl h__law_right (hr.mono (by decide)) rfl (@pa_cons _ _ _ _ _ (@pv _ 1 _ _ (by rfl) (by walk_at "lc") (by decide) (by decide)) (@pa_cons _ _ _ _ _ (@kRev _ (K) _ _ _ _ _ _ rfl (@pe_tupRng _ _ _ _ _ _ _ (@pa_cons _ _ _ _ _ (@pe_callB _ _ _ _ _ _ _ _ _ (@kLen _ (K) rfl) (by rfl) n_len PySem.boot_len (@pa_cons _ _ _ _ _ (@pe_ix _ _ _ _ _ _ _ (@kIx _ (K) rfl) (@pv _ 1 _ _ (by rfl) (by walk_at "lc") (by decide) (by decide)) (@pe_int _ _ _ _) (fun _ _=>rfl)) (@pa_nil _) (by rfl)) (by decide) (by decide) (by rfl) (by rfl)) (@pa_nil _) (by rfl)) hr.hd rfl n_range rfl n_tuple (by rfl) (by rfl)) (@pe_un _ _ _ _ _ _ (@un_neg _) (@pe_int _ _ _ _))) (@pa_nil _) (by rfl)) (by rfl)) (by decide) (by rfl) (by rfl)) (@pe_one _ _ _ _ _ (@kCall _ (K) (P) (w) (mg) (base) _ _ _ _ _ _ _ _ _ rfl rfl rfl rfl rfl h__law_right (hr.mono (by decide)) rfl (@pa_cons _ _ _ _ _ (@pv _ 1 _ _ (by rfl) (by walk_at "lc") (by decide) (by decide)) (@pa_cons _ _ _ _ _ (@pe_tup _ _ _ _ _ (@pa_nil _)) (@pa_nil _) (by rfl)) (by rfl)) (by decide) (by rfl) (by rfl))))))))),?_⟩
 rintro xs M hl ⟨ns,rfl,hns,hbits⟩
 walk_at "r"
 refine dslB_list ?_
 rw[show cutD (ns.map PyData.int) (some 1) (some 2)=((ns.take 2).drop 1).map .int from(cut_mid _ 1 2).trans (by rw[List.map_drop,List.map_take])]
 walk_at "r"
 refine rd_sum ?_
 walk_at "r"
 refine dslB_list ?_
 rw[show cutD (ns.map PyData.int) (some 2) (some 32)=((ns.take 32).drop 2).map .int from(cut_mid _ 2 32).trans (by rw[List.map_drop,List.map_take])]
 walk_at "r"
 have one:∀a:Nat,xJ ((ns.take (a+1)).drop a).sum≤2 ^ 21:=fun a=>by
   rw[List.drop_take,Nat.add_sub_cancel_left]
   have hh:∀c∈ns.drop a,xJ c≤2 ^ 20:=fun c hc=>hbits c (List.mem_of_mem_drop hc)
   match ns.drop a,hh with
   | [],_=>decide
   | a::r,hb=>simp only[List.take_succ_cons,List.take_zero,List.sum_cons,List.sum_nil,Int.add_zero];exact zN (hb a (by simp)) (by decide)
 refine book32_call (one 1) (fun c hc=>zN (hbits c (List.mem_of_mem_take (List.mem_of_mem_drop hc))) (by decide)) (by rw[List.length_drop,List.length_take];omega) fun w ls hg=>?_
 have hfew:=hg.few
 walk_at "wks"
 refine ds_cut (fun ρ1 M1=>M.Sub M1∧∃(x2 x3 x4 x5 x6 x7 x8:Option DS),ρ1=[some (.d (.list (ns.map .int))),some (.d (bookD w ls)),x2,x3,x4,x5,x6,x7,x8]) ?_ ?_
 · refine ds_for ?_
   refine diA_list ?_
   walk_at "wkd"
   refine dslB_list ?_
   rw[show cutD (ns.map PyData.int) (some 32) (some 33)=((ns.take 33).drop 32).map .int from(cut_mid _ 32 33).trans (by rw[List.map_drop,List.map_take])]
   walk_at "r"
   refine rd_sum ?_
   walk_at "r"
   refine dslB_list ?_
   rw[show cutD (ns.map PyData.int) (some 33) (some 44)=((ns.take 44).drop 33).map .int from(cut_mid _ 33 44).trans (by rw[List.map_drop,List.map_take])]
   refine d2B_addl (by rw[zX,List.length_drop,List.length_take];exact zN (show _≤50 by simp;omega) (by decide)) ?_
   refine⟨_,rfl,fun k ρ1 M1=>M.Sub M1∧∃(x2 x3 x4 x5 x6 x7 x8:Option DS),ρ1=[some (.d (.list (ns.map .int))),some (.d (bookD w ls)),x2,x3,x4,x5,x6,x7,x8],⟨zT M,_,_,_,_,_,_,_,rfl⟩,?_,?_⟩
   · rintro k d ρ1 M1 hd ⟨hsub,x2,x3,x4,x5,x6,x7,x8,rfl⟩
     obtain⟨c,hc,rfl⟩:∃c:Int,xJ c≤2 ^ 21∧d = .int c:=by
       rcases yW.mp (yN hd) with h | h
       · exact⟨_,one 32,List.mem_singleton.mp h⟩
       · obtain⟨c,hc,rfl⟩:=zL.mp h
         exact⟨c,zN (hbits c (List.mem_of_mem_take (List.mem_of_mem_drop hc))) (by decide),rfl⟩
     walk_at "r"
     refine de_lstO ?_
     walk_at "r"
     refine mixed_call hc fun v=>?_
     walk_at "r"
     intro q hq
     walk_at "r"
     refine d2A_ixt (ds:=[wD w,linesD ls]) (d:=linesD ls) rfl ?_
     walk_at "r"
     refine struck_call zU ⟨v,rfl⟩ hg.any fun fs o1 hf3 hfl ho1=>?_
     rw[yI]
     walk_at "r"
     refine right_call hg (by omega) hfl ?_
     walk_at "r"
     refine d2A_ixt (ds:=[wD w,linesD ls]) (d:=linesD ls) rfl ?_
     walk_at "r"
     refine rd_lent ?_
     rw[zX]
     walk_at "wkd"
     refine take_call zU ho1 (by decide) (by decide) fun v1 o2 a0 a1 ho2=>?_
     rw[yI]
     obtain⟨od,eod,mod⟩:=atI_some (xs:=oddL ls.length) a0 a1
     refine d2A_ixl (ds:=oddL ls.length) eod ?_
     walk_at "wkd"
     refine take_call zU ho2 (by decide) (by decide) fun v2 o3 b0 b1 ho3=>?_
     rw[yI]
     obtain⟨mo,emo,-⟩:=atI_some (xs:=[PyData.str (Str.ofString "a"),od]) b0 b1
     refine d2A_ixl emo ?_
     obtain⟨hno,hsh⟩:=odd_no mod
     walk_at "r"
     refine ds_for ?_
     refine di_rng1 ?_
     walk_at "r"
     refine⟨by decide,by decide,?_⟩
     refine⟨fun j ρ1 M2=>M2=M1.put q o3∧∃(y2 y3 y8:Option DS),ρ1=[some (.d (.list (ns.map .int))),some (.d (bookD w ls)),y2,y3,some (.d (.tuple (numsD fs))),some (.d (.int (ls.length:Nat))),some (.d od),some (.d mo),y8],⟨rfl,_,_,_,rfl⟩,?_,?_⟩
     · rintro j d ρ1 M2 hd2 ⟨rfl,y2,y3,y8,rfl⟩
       obtain⟨i,hi,rfl⟩:=zL.mp (yN hd2)
       have sz:∀m:Nat,m≤60→m≤sizeLine:=fun m h=>zN h (by decide)
       walk_at "r"
       refine d2B_addt (sz _ (by rw[nums_len];simp;omega)) ?_
       walk_at "r"
       refine d2B_addt (sz _ (by rw[yY,nums_len];simp;omega)) ?_
       walk_at "r"
       refine d2B_addt (sz _ (by rw[yY,yY,nums_len];simp;omega)) ?_
       walk_at "r"
       refine refused_call hg (by rw[yY,yY,yY,nums_len];simp;omega) (find_odd hfl hno) ?_
       walk_at "wkd"
       rcases hsh with ⟨h1,h2⟩ | rfl
       · refine d2_neX (d2_eq h2 h2 ?_)
         rw[if_pos rfl,eqv_self h2]
         walk_at "r"
         exact⟨rfl,y2,y3,_,rfl⟩
       · refine d2_neN ?_
         walk_at "r"
         exact⟨rfl,y2,y3,_,rfl⟩
     · rintro ρ1 M2 ⟨rfl,y2,y3,y8,rfl⟩
       refine⟨fun b ob e=>?_,_,_,_,_,_,_,_,rfl⟩
       rw[yH (by rintro rfl;rw[hsub b ob e] at hq;cases hq)]
       exact hsub b ob e
   · rintro ρ1 M1 h
     exact h
 · rintro ρ1 M1 ⟨hsub,x2,x3,x4,x5,x6,x7,x8,rfl⟩
   walk_at "wks"
   refine ds_cut (fun ρ1 M2=>M2=M1∧∃(x2 x3 x4 x5 x6 x7 x8:Option DS),ρ1=[some (.d (.list (ns.map .int))),some (.d (bookD w ls)),x2,x3,x4,x5,x6,x7,x8]) ?_ ?_
   · refine ds_for ?_
     refine diA_list ?_
     walk_at "wkd"
     refine⟨fun k ρ1 M2=>M2=M1∧∃(x2 x3 x4 x5 x6 x7 x8:Option DS),ρ1=[some (.d (.list (ns.map .int))),some (.d (bookD w ls)),x2,x3,x4,x5,x6,x7,x8],⟨rfl,_,_,_,_,_,_,_,rfl⟩,?_,?_⟩
     · rintro k d ρ1 M2 hd ⟨rfl,x2,x3,x4,x5,x6,x7,x8,rfl⟩
       obtain⟨b,rfl⟩:∃b:Bool,d = .bool b:=by
         have:=yN hd
         simp only[yX,xX,or_false] at this
         rcases this with rfl | rfl
         · exact⟨_,rfl⟩
         · exact⟨_,rfl⟩
       walk_at "r"
       refine de_comp_pure (go_name 0) (by simp[cf_law_0]) ?_
       refine di_rng1 ?_
       walk_at "r"
       refine⟨by decide,by decide,?_⟩
       refine⟨by decide,fun _=>true,fun _=>.bool true,?_,?_⟩
       · intro d hd M'
         obtain⟨i,hi,rfl⟩:=zL.mp hd
         walk_at "dl"
         refine⟨rfl,?_⟩
         walk_at "dl"
         refine⟨rfl,rfl,fun _=>?_⟩
         walk_at "r"
         refine refused_call hg (by simp) (find_bool ls.length b) ?_
         walk_at "r"
         refine d2A_ixl (ds:=[.bool true,.bool b]) (d:=.bool true) (atI_nat (j:=0) rfl) ?_
         exact⟨rfl,rfl⟩
       rw[flt0,all_trues]
       walk_at "r"
       refine rd_all ?_
       rw[all_reps]
       walk_at "r"
       exact⟨rfl,_,_,_,_,_,_,_,rfl⟩
     · rintro ρ1 M2 h
       exact h
   · rintro ρ1 M2 ⟨rfl,x2,x3,x4,x5,x6,x7,x8,rfl⟩
     walk_at "r"
     refine de_rev ?_
     refine de_tupRng ?_
     walk_at "r"
     refine d2A_ixt (ds:=[wD w,linesD ls]) (d:=linesD ls) rfl ?_
     walk_at "r"
     refine rd_lent ?_
     rw[zX]
     walk_at "r"
     refine⟨by omega,?_⟩
     refine⟨_,rfl,?_⟩
     walk_at "r"
     refine⟨rfl,?_⟩
     rw[range_rev]
     walk_at "r"
     refine right_call hg (by rw[List.length_reverse,xZ];omega) (fun m hm=>List.mem_range.mp (List.mem_reverse.mp hm)) ?_
     walk_at "r"
     refine right_call (ns:=[]) hg (by decide) (by simp) ?_
     exact⟨_,zT _,rfl⟩
end
section
variable {P:Program}{w:World}{K:Frg}{mg:Str→Option Value}{base:Heap}
abbrev s_book_of:Stmt:=_root_.sT 15
def nm_book_of:List Str:=["book", "numbers"]
def cc_book_of_0:List Str:=["number", "book"]
def cf_book_of_0:List (Option Nat):=[none,some 0]
theorem cn_book_of_0:cc_book_of_0.Nodup:=by decide +kernel
theorem sc_book_of:FnScope nm_book_of ["book", "numbers"] (defScope s_book_of):=⟨rfl,rfl,rfl,by decide +kernel,rfl,by decide +kernel,by decide +kernel⟩
theorem ok_book_of {f:Addr}{fd:FuncData}(F:Fun K "book_of" "book_of" s_book_of f fd) (n_tuple:mg "tuple"=none):FnOk P w K mg base CX0 1 f fd ["book", "numbers"] (spD K 2 S_book_of):=by
 refine fnD F sc_book_of fun cdv A outer s H E hr=>?_
 have hu:=hr.units
 refine⟨_,(@pss_one _ _ _ (@ps_ret _ _ _ _ (@pe_tup _ _ _ _ _ (@pa_cons _ _ _ _ _ (@pe_ix _ _ _ _ _ _ _ (@kIx _ (K) rfl) (@pv _ 0 _ _ (by rfl) (by walk_at "lc") (by decide) (by decide)) (@pe_int _ _ _ _) (fun _ _=>rfl)) (@pa_cons _ _ _ _ _ (@pe_callTy _ _ _ _ _ _ _ _ _ (@kTuple _ (K) rfl) (by rfl) n_tuple PyProof.Rows.boot_tuple (@pa_cons _ _ _ _ _ (@pe_comp _ _ _ _ _ _ _ _ _ _ _ _ _ rfl (@L2.CSc.of _ _ (cc_book_of_0) (cf_book_of_0) (defScope s_book_of) (nm_book_of) (by decide +kernel) rfl rfl) (@kIter _ (K) _ _ _ rfl (@pv _ 1 _ _ (by rfl) (by walk_at "lc") (by decide) (by decide))) (fun C s' H' ex' pn'=>⟨@pg_name _ _ (0) _ cn_book_of_0 rfl (by walk_at "lc") (by first   | exact .inl rfl   | exact .inr rfl   | assumption),@pts_nil _,(@pe_ix _ _ _ _ _ _ _ (@kIx _ (K) rfl) (@pe_ix _ _ _ _ _ _ _ (@kIx _ (K) rfl) (@pv _ 1 _ _ (by rfl) (by walk_at "lc") (by decide) (by decide)) (@pe_int _ _ _ _) (fun _ _=>rfl)) (@pv _ 0 _ _ (by rfl) (by walk_at "lc") (by decide) (by decide)) (fun _ _=>rfl))⟩) (by intro _;rfl)) (@pa_nil _) (by rfl)) (by decide) (by decide) (by rfl) (by rfl)) (@pa_nil _) (by rfl)) (by rfl))))),?_⟩
 rintro xs M hl h
 exact h.elim
end
end DL
namespace DL
open PySem PySem.Spec L2 XC
local macro_rules | `(tactic| walk_at "b1")=>`(tactic| exact fun _ _ _ _ _ _ us hl=>match us,hl with | [_],_=>rfl)
local macro_rules | `(tactic| walk_at "b2")=>`(tactic| exact fun _ _ _ _ _ _ us hl=>match us,hl with | [_,_],_=>rfl)
local macro_rules | `(tactic| walk_at "b3")=>`(tactic| exact fun _ _ _ _ _ _ us hl=>match us,hl with | [_,_,_],_=>rfl)
theorem all_mk {l:PySem.W.OpenLaw}{w:World}{K:Frg}{h:Heap}{mg:Str→Option Value}{fa:Addr}{C_S:Addr}{a_FORMS:Addr}{ep_FORMS:Nat}{tk_FORMS_0 tv_FORMS_0:Tok}{tk_FORMS_1 tv_FORMS_1:Tok}{tk_FORMS_2 tv_FORMS_2:Tok}{tk_FORMS_3 tv_FORMS_3:Tok}{tk_FORMS_4 tv_FORMS_4:Tok}{tk_FORMS_5 tv_FORMS_5:Tok}{tk_FORMS_6 tv_FORMS_6:Tok}{C_NoLine N_NoLine:Addr}{nm_NoLine q_NoLine:Str}{bs_NoLine sb_NoLine:List Value}{sn_NoLine:List Str}{ab_NoLine:Bool}{co_NoLine:Option Bool}{dd_NoLine:Option Addr}{k0_NoLine k1_NoLine k2_NoLine k3_NoLine k5_NoLine:Option Value}{fc_NoLine:Addr}{odc_NoLine anc_NoLine:Option Addr}{slc_NoLine:Array (Option Value)}{occ_NoLine kVc_NoLine dcc_NoLine pmc_NoLine cdc_NoLine ctc_NoLine:Value}{nm_S q_S:Str}{N_S:Addr}{bs_S sb_S:List Value}{sn_S:List Str}{ab_S:Bool}{co_S:Option Bool}{dd_S:Option Addr}{k0_S k1_S k2_S k3_S k5_S:Option Value}
   (X:K.In h) (G:h.Ns mainGlobals mg) (hfa:mg "law"=some (.ref fa))
   (b0:FnIn K "is_whole" s_is_whole)
   (b1:FnIn K "is_within" s_is_within)
   (b2:FnIn K "form_of" s_form_of)
   (b3:FnIn K "names_in" s_names_in)
   (b4:FnIn K "made_by" s_made_by)
   (b5:FnIn K "must_stand" s_must_stand)
   (b6:FnIn K "deeds_of" s_deeds_of)
   (b7:FnIn K "makers" s_makers)
   (b8:FnIn K "book_of" s_book_of)
   (b9:FnIn K "is_number" s_is_number)
   (b10:FnIn K "needs" s_needs)
   (b11:FnIn K "chains_by_ends" s_chains_by_ends)
   (b12:FnIn K "goes" s_goes)
   (b13:FnIn K "chains" s_chains)
   (b14:FnIn K "left" s_left)
   (b15:FnIn K "_law_mixed" s__law_mixed)
   (b16:FnIn K "_law_take" s__law_take)
   (b17:FnIn K "_law_names" s__law_names)
   (b18:FnIn K "_law_deed" s__law_deed)
   (b19:FnIn K "_law_after" s__law_after)
   (b20:FnIn K "_law_start" s__law_start)
   (b21:FnIn K "_law_book" s__law_book)
   (b22:FnIn K "_law_made" s__law_made)
   (b23:FnIn K "_law_must" s__law_must)
   (b24:FnIn K "_law_needed" s__law_needed)
   (b25:FnIn K "_law_goes" s__law_goes)
   (b26:FnIn K "_law_struck" s__law_struck)
   (b27:FnIn K "_law_chained" s__law_chained)
   (b28:FnIn K "_law_right" s__law_right)
   (b29:FnIn K "_law_refused" s__law_refused)
   (b30:FnIn K "law" s_law)
   (z_all:PySem.W.nsIn K mainGlobals "all"=some none)
   (z_any:PySem.W.nsIn K mainGlobals "any"=some none)
   (z_bool:PySem.W.nsIn K mainGlobals "bool"=some none)
   (z_divmod:PySem.W.nsIn K mainGlobals "divmod"=some none)
   (z_enumerate:PySem.W.nsIn K mainGlobals "enumerate"=some none)
   (z_int:PySem.W.nsIn K mainGlobals "int"=some none)
   (z_isinstance:PySem.W.nsIn K mainGlobals "isinstance"=some none)
   (z_len:PySem.W.nsIn K mainGlobals "len"=some none)
   (z_list:PySem.W.nsIn K mainGlobals "list"=some none)
   (z_min:PySem.W.nsIn K mainGlobals "min"=some none)
   (z_range:PySem.W.nsIn K mainGlobals "range"=some none)
   (z_sorted:PySem.W.nsIn K mainGlobals "sorted"=some none)
   (z_str:PySem.W.nsIn K mainGlobals "str"=some none)
   (z_sum:PySem.W.nsIn K mainGlobals "sum"=some none)
   (z_tuple:PySem.W.nsIn K mainGlobals "tuple"=some none)
   (y_FORMS:PySem.W.nsIn K mainGlobals "FORMS"=some (some (.ref a_FORMS)))
   (x_FORMS:K.lookup a_FORMS=some { cls:=.type "dict", data:=.dict #[{ hash:=PyData.keyHash w.params (Str.ofString "put"),key:=.str (Str.ofString "put") tk_FORMS_0,val:=.str (Str.ofString "npk") tv_FORMS_0 },{ hash:=PyData.keyHash w.params (Str.ofString "take"),key:=.str (Str.ofString "take") tk_FORMS_1,val:=.str (Str.ofString "n") tv_FORMS_1 },{ hash:=PyData.keyHash w.params (Str.ofString "move"),key:=.str (Str.ofString "move") tk_FORMS_2,val:=.str (Str.ofString "np") tv_FORMS_2 },{ hash:=PyData.keyHash w.params (Str.ofString "count"),key:=.str (Str.ofString "count") tk_FORMS_3,val:=.str (Str.ofString "nk") tv_FORMS_3 },{ hash:=PyData.keyHash w.params (Str.ofString "name"),key:=.str (Str.ofString "name") tk_FORMS_4,val:=.str (Str.ofString "nn") tv_FORMS_4 },{ hash:=PyData.keyHash w.params (Str.ofString "split"),key:=.str (Str.ofString "split") tk_FORMS_5,val:=.str (Str.ofString "nnpk") tv_FORMS_5 },{ hash:=PyData.keyHash w.params (Str.ofString "join"),key:=.str (Str.ofString "join") tk_FORMS_6,val:=.str (Str.ofString "nn") tv_FORMS_6 }] ep_FORMS })
   (s_FORMS:(a_FORMS==sysModules)=false)
   (ac_NoLine:PySem.W.nsIn K mainGlobals "NoLine"=some (some (.ref C_NoLine))) (lc_NoLine:K.lookup C_NoLine=some (excClassObj nm_NoLine q_NoLine C_NoLine N_NoLine bs_NoLine (.ref C_S::XC.bmV) true sn_NoLine sb_NoLine ab_NoLine co_NoLine dd_NoLine k0_NoLine k1_NoLine k2_NoLine k3_NoLine k5_NoLine "ValueError.__new__")) (kc_NoLine:PySem.W.keepIn K (.ref C_NoLine)=true)
   (ic_NoLine:PySem.W.findIn K (.ref C_NoLine) "__init__"=some (some (.ref fc_NoLine)))
   (fl_NoLine:K.lookup fc_NoLine=some ⟨occ_NoLine,odc_NoLine,.func (PySem.W.fnOf "__init__" "NoLine.__init__" (defArgs s_init_NoLine) (defBody s_init_NoLine) (defScope s_init_NoLine) .none kVc_NoLine dcc_NoLine pmc_NoLine anc_NoLine cdc_NoLine ctc_NoLine),slc_NoLine⟩)
   (cc_NoLine:PySem.W.codeIn K cdc_NoLine "NoLine.__init__"=true) (if_NoLine:PySem.W.isFn K (.ref fc_NoLine)=true) (kf_NoLine:PySem.W.keepIn K (.ref fc_NoLine)=true)
   (sa_NoLine:PySem.W.findIn K (.ref C_NoLine) "__setattr__"=some (some (.builtin "object.__setattr__"))) (ta_NoLine:PySem.W.takerIn K C_NoLine "line"=some none)
   (ac_S:PySem.W.nsIn K mainGlobals "StrikeError"=some (some (.ref C_S)))
   (lk_S:K.lookup C_S=some (excClassObj nm_S q_S C_S N_S bs_S XC.bmV true sn_S sb_S ab_S co_S dd_S k0_S k1_S k2_S k3_S k5_S "ValueError.__new__"))
   (kt_N:XKit K C_NoLine)
   (kn_N:PySem.W.kitOne K (.ref C_NoLine) (.ref C_NoLine)=some true)
   (na_N:NoAttr K C_NoLine "line") :
   ∃fd:FuncData,(∀(s:Shared) (v:Value),BindsTo s fd ⟨[v],[]⟩ [("_law_script", v)])∧∀base:Heap,K.In base→base.Ns mainGlobals mg→FnOk l.prog w K mg base CX0 9 fa fd ["_law_script"] (spD K 1 S_law):=by
 obtain⟨f0,d0,A0⟩:=b0.at X G
 obtain⟨f1,d1,A1⟩:=b1.at X G
 obtain⟨f2,d2,A2⟩:=b2.at X G
 obtain⟨f3,d3,A3⟩:=b3.at X G
 obtain⟨f4,d4,A4⟩:=b4.at X G
 obtain⟨f5,d5,A5⟩:=b5.at X G
 obtain⟨f6,d6,A6⟩:=b6.at X G
 obtain⟨f7,d7,A7⟩:=b7.at X G
 obtain⟨f8,d8,A8⟩:=b8.at X G
 obtain⟨f9,d9,A9⟩:=b9.at X G
 obtain⟨f10,d10,A10⟩:=b10.at X G
 obtain⟨f11,d11,A11⟩:=b11.at X G
 obtain⟨f12,d12,A12⟩:=b12.at X G
 obtain⟨f13,d13,A13⟩:=b13.at X G
 obtain⟨f14,d14,A14⟩:=b14.at X G
 obtain⟨f15,d15,A15⟩:=b15.at X G
 obtain⟨f16,d16,A16⟩:=b16.at X G
 obtain⟨f17,d17,A17⟩:=b17.at X G
 obtain⟨f18,d18,A18⟩:=b18.at X G
 obtain⟨f19,d19,A19⟩:=b19.at X G
 obtain⟨f20,d20,A20⟩:=b20.at X G
 obtain⟨f21,d21,A21⟩:=b21.at X G
 obtain⟨f22,d22,A22⟩:=b22.at X G
 obtain⟨f23,d23,A23⟩:=b23.at X G
 obtain⟨f24,d24,A24⟩:=b24.at X G
 obtain⟨f25,d25,A25⟩:=b25.at X G
 obtain⟨f26,d26,A26⟩:=b26.at X G
 obtain⟨f27,d27,A27⟩:=b27.at X G
 obtain⟨f28,d28,A28⟩:=b28.at X G
 obtain⟨f29,d29,A29⟩:=b29.at X G
 obtain⟨f30,d30,A30⟩:=b30.at X G
 have e:=hfa.symm.trans A30.mg_
 cases e
 have n_all:=PySem.W.mg_none_of X G z_all
 have n_any:=PySem.W.mg_none_of X G z_any
 have n_bool:=PySem.W.mg_none_of X G z_bool
 have n_divmod:=PySem.W.mg_none_of X G z_divmod
 have n_enumerate:=PySem.W.mg_none_of X G z_enumerate
 have n_int:=PySem.W.mg_none_of X G z_int
 have n_isinstance:=PySem.W.mg_none_of X G z_isinstance
 have n_len:=PySem.W.mg_none_of X G z_len
 have n_list:=PySem.W.mg_none_of X G z_list
 have n_min:=PySem.W.mg_none_of X G z_min
 have n_range:=PySem.W.mg_none_of X G z_range
 have n_sorted:=PySem.W.mg_none_of X G z_sorted
 have n_str:=PySem.W.mg_none_of X G z_str
 have n_sum:=PySem.W.mg_none_of X G z_sum
 have n_tuple:=PySem.W.mg_none_of X G z_tuple
 have g_FORMS:∃a,mg "FORMS"=some (.ref a)∧GDict w K a FORMS:=⟨_,PySem.W.mg_of X G y_FORMS,s_FORMS,by decide +kernel,_,_,x_FORMS,rfl,⟨_,rfl⟩,⟨_,rfl⟩,rfl,⟨_,rfl⟩,⟨_,rfl⟩,rfl,⟨_,rfl⟩,⟨_,rfl⟩,rfl,⟨_,rfl⟩,⟨_,rfl⟩,rfl,⟨_,rfl⟩,⟨_,rfl⟩,rfl,⟨_,rfl⟩,⟨_,rfl⟩,rfl,⟨_,rfl⟩,⟨_,rfl⟩,trivial⟩
 have xc_NoLine:XC.XCls K C_NoLine C_S (.ref fc_NoLine):=⟨⟨_,_,_,_,_,_,_,_,_,_,_,_,_,_,lc_NoLine⟩,ic_NoLine,kc_NoLine⟩
 have Fc_NoLine:=fun_mk (st:=s_init_NoLine) fl_NoLine cc_NoLine kf_NoLine
 have q_NoLine:=PySem.W.mg_of X G ac_NoLine
 have t_S:=PySem.W.mg_of X G ac_S
 have u_S:XC.XTop K C_S:=⟨⟨_,_,_,_,_,_,_,_,_,_,_,_,_,_,lk_S⟩⟩
 refine⟨d30,fun s v=>?_,fun base _ _=>?_⟩
 · obtain⟨oc,od,kV,doc,pm,an,cdv,ct,osl,e,_,_⟩:=A30.fn.ex
   subst e
   exact .of_eq rfl
 have r_NoLine:HasR l.prog w K mg base "NoLine" "line" C_NoLine C_S:=⟨fc_NoLine,_,["self", "line"],xc_NoLine,if_NoLine,init_NoLine Fc_NoLine xc_NoLine ⟨sa_NoLine,ta_NoLine⟩,Fc_NoLine.binds (ps:=["self", "line"]) fun _ _ _ _ _ _ us hl=>match us,hl with | [_,_],_=>rfl,PySem.W.mg_of X G ac_NoLine⟩
 have m_N:=XC.xm_top xc_NoLine u_S
 have h_is_whole:Has l.prog w K mg base "is_whole" 1 ["thing"] S_is_whole:=A0.has (ok_is_whole A0.fn n_bool n_int n_isinstance) (by walk_at "b1")
 have h_is_within:Has l.prog w K mg base "is_within" 2 ["thing", "low", "high"] S_is_within:=A1.has (ok_is_within A1.fn h_is_whole) (by walk_at "b3")
 have h_form_of:Has l.prog w K mg base "form_of" 1 ["word"] S_form_of:=A2.has (ok_form_of A2.fn n_isinstance n_str g_FORMS) (by walk_at "b1")
 have h_names_in:Has l.prog w K mg base "names_in" 2 ["deed"] S_names_in:=A3.has (ok_names_in A3.fn h_form_of) (by walk_at "b1")
 have h_made_by:Has l.prog w K mg base "made_by" 1 ["deed"] S_made_by:=A4.has (ok_made_by A4.fn ) (by walk_at "b1")
 have h_must_stand:Has l.prog w K mg base "must_stand" 3 ["deed"] S_must_stand:=A5.has (ok_must_stand A5.fn n_tuple h_made_by h_names_in) (by walk_at "b1")
 have h_deeds_of:Has l.prog w K mg base "deeds_of" 1 ["book"] S_deeds_of:=A6.has (ok_deeds_of A6.fn n_tuple) (by walk_at "b1")
 have h_makers:Has l.prog w K mg base "makers" 2 ["book"] S_makers:=A7.has (ok_makers A7.fn n_enumerate h_deeds_of h_made_by) (by walk_at "b1")
 have h_book_of:Has l.prog w K mg base "book_of" 1 ["book", "numbers"] S_book_of:=A8.has (ok_book_of A8.fn n_tuple) (by walk_at "b2")
 have h_is_number:Has l.prog w K mg base "is_number" 3 ["book", "thing"] S_is_number:=A9.has (ok_is_number A9.fn n_len h_is_within) (by walk_at "b2")
 have h_needs:Has l.prog w K mg base "needs" 4 ["book", "number"] S_needs:=A10.has (ok_needs A10.fn n_sorted n_tuple h_is_number h_makers h_must_stand) (by walk_at "b2")
 have h_chains_by_ends:HasX l.prog w K mg base "chains_by_ends" 5 ["book", "struck"] (GB C_NoLine fEnds):=A11.hasX (ok_chains_by_ends A11.fn n_len n_range r_NoLine h_is_number h_needs) (by walk_at "b2")
 have h_goes:HasX l.prog w K mg base "goes" 6 ["book", "struck"] (GB C_NoLine fGoes):=A12.hasX (ok_goes A12.fn n_sorted n_tuple h_chains_by_ends) (by walk_at "b2")
 have h_chains:HasX l.prog w K mg base "chains" 6 ["book", "struck"] (GB C_NoLine fChains):=A13.hasX (ok_chains A13.fn n_sorted n_tuple h_chains_by_ends) (by walk_at "b2")
 have h_left:HasX l.prog w K mg base "left" 7 ["book", "struck"] (GL C_NoLine):=A14.hasX (ok_left A14.fn n_len n_range h_goes h_book_of) (by walk_at "b2")
 have h__law_mixed:Has l.prog w K mg base "_law_mixed" 1 ["_law_cell"] S__law_mixed:=A15.has (ok__law_mixed A15.fn ) (by walk_at "b1")
 have h__law_take:Has l.prog w K mg base "_law_take" 1 ["_law_pack", "_law_size"] S__law_take:=A16.has (ok__law_take A16.fn n_divmod) (by walk_at "b2")
 have h__law_names:Has l.prog w K mg base "_law_names" 2 ["_law_pack", "_law_amount"] S__law_names:=A17.has (ok__law_names A17.fn n_range h__law_take) (by walk_at "b2")
 have h__law_deed:Has l.prog w K mg base "_law_deed" 2 ["_law_pack", "_law_some", "_law_spare"] S__law_deed:=A18.has (ok__law_deed A18.fn n_int n_len h__law_take) (by walk_at "b3")
 have h__law_after:Has l.prog w K mg base "_law_after" 1 ["_law_deed_here", "_law_some", "_law_spare"] S__law_after:=A19.has (ok__law_after A19.fn ) (by walk_at "b3")
 have h__law_start:Has l.prog w K mg base "_law_start" 2 ["_law_pack", "_law_names_here", "_law_amount"] S32_start:=A20.has (ok__law_start A20.fn n_range n_sorted n_tuple h__law_take) (by walk_at "b3")
 have h__law_book:Has l.prog w K mg base "_law_book" 3 ["_law_head", "_law_cells"] S32_book:=A21.has (ok__law_book A21.fn n_tuple h__law_after h__law_deed h__law_mixed h__law_names h__law_start h__law_take) (by walk_at "b2")
 have h__law_made:Has l.prog w K mg base "_law_made" 1 ["_law_deed_here"] S__law_made:=A22.has (ok__law_made A22.fn n_len n_min) (by walk_at "b1")
 have h__law_must:Has l.prog w K mg base "_law_must" 1 ["_law_deed_here"] S__law_must:=A23.has (ok__law_must A23.fn ) (by walk_at "b1")
 have h__law_needed:Has l.prog w K mg base "_law_needed" 2 ["_law_lines", "_law_number"] S__law_needed:=A24.has (ok__law_needed A24.fn n_range h__law_made h__law_must) (by walk_at "b2")
 have h__law_goes:Has l.prog w K mg base "_law_goes" 3 ["_law_lines", "_law_struck_here"] S32_goes:=A25.has (ok__law_goes A25.fn n_any n_len n_range h__law_needed) (by walk_at "b2")
 have h__law_struck:Has l.prog w K mg base "_law_struck" 2 ["_law_pack", "_law_lines"] S32_struck:=A26.has (ok__law_struck A26.fn n_len n_range n_tuple h__law_take) (by walk_at "b2")
 have h__law_chained:Has l.prog w K mg base "_law_chained" 3 ["_law_lines", "_law_struck_here", "_law_chain"] S32_chained:=A27.has (ok__law_chained A27.fn n_all n_bool n_int n_isinstance n_len n_range n_tuple h__law_needed) (by walk_at "b3")
 have h__law_right:Has l.prog w K mg base "_law_right" 7 ["_law_book_here", "_law_struck_here"] S32_right:=A28.has (ok__law_right A28.fn n_all n_isinstance n_list n_tuple h_chains h_goes h__law_chained h__law_goes) (by walk_at "b2")
 have h__law_refused:Has l.prog w K mg base "_law_refused" 8 ["_law_deed_here", "_law_book_here", "_law_struck_here"] S32_refused:=A29.has (ok__law_refused A29.fn n_isinstance q_NoLine t_S u_S m_N kt_N kn_N na_N h_chains h_goes h_left) (by walk_at "b3")
 exact ok_law A30.fn n_all n_len n_range n_sum n_tuple h__law_book h__law_mixed h__law_refused h__law_right h__law_struck h__law_take
theorem law_sp {K:Frg}{H:Hp}{a:Addr}{ns:List Int}(hl:ns.length≤63) (hb:∀i∈ns,xJ i≤2 ^ 20) (hS:SqL K H a (ns.map V.int)):spD K 1 S_law [.ref a] H (fun v _=>v = .bl true) fun _ _ _=>False:=by
 refine⟨[.d (.list (ns.map .int))],fun _=>none,rfl,(fun a o e=>nomatch e),⟨.ref a,[],rfl,?_,rfl⟩,⟨ns,rfl,hl,hb⟩,fun x M' v H' post st oa si=>?_⟩
 · unfold SI DV
   refine⟨a,ns.map V.int,rfl,?_,dvs_of_ints⟩
   rcases hS with h | h
   · exact .inl ⟨fun w=>w rfl,h⟩
   · exact .inr h
 · have e:x = .d (.bool true):=post
   subst e
   exact si_bl si
theorem walk {l:PySem.W.OpenLaw}{q:Program}{loose:List Str}{XP:(Str→Option Value)→Heap→Prop}{YP:World→Heap→Prop}{d:DefRec}{K:Params→Frg}(hn:l.most=some 63) (hdf:d.params.defaults=[])
   (hY:∀(w:World) (h:Heap),YP w h→(K w.params).In h)
   (F:∀(w:World) (mg:Str→Option Value) (fa:Addr) (h:Heap),(K w.params).In h→h.Ns mainGlobals mg→mg d.name=some (.ref fa) →
     ∃fd:FuncData,(∀(s:Shared) (u:Value),BindsTo s fd ⟨[u],[]⟩ [("_law_script", u)])∧∀base:Heap,(K w.params).In base→base.Ns mainGlobals mg→FnOk l.prog w (K w.params) mg base CX0 9 fa fd ["_law_script"] (spD (K w.params) 1 S_law)) :
   PySem.W.WalkO q loose XP YP l.row.toRowW d [] (fun f vs=>PySem.call f vs):=
 L2.walk_ofB (n:=63) (k:=9) (x:= "_law_script") (CX:=fun _=>CX0) (sp:=fun w=>spD (K w.params) 1 S_law) hn (by decide) hdf ⟨rfl,by decide,by decide⟩ hY F (fun _ _ a ns hl hb _ hS=>law_sp hl hb hS) fun _ _ _ _ _ z=>z
abbrev vS (x:String) (t:Tok):Value:=.str (Str.ofString x) t
abbrev eS (P:Params) (x:String) (t:Tok) (v:Value):DictEntry:=⟨PyData.keyHash P (Str.ofString x),.str (Str.ofString x) t,v⟩
abbrev hs (i:Nat):Stmt:=PySem.Challenge.pw_struckdeeds_k32_what_goes_with_struck_li.main.body.getD i (.Pass ⟨0,0,0,0⟩)
abbrev fO (n q:String) (st:Stmt) (doc pm:Value) (c:Nat):Obj:=⟨.type "function", none,.func (PySem.W.fnOf (Str.ofString n) (Str.ofString q) (defArgs st) (defBody st) (defScope st) .none .none doc pm none (.ref c) .none),#[]⟩
abbrev gO (n q:String) (st:Stmt):Obj:=⟨.none,none,.func (.mk (Str.ofString n) (Str.ofString q) (defArgs st) (.stmts (defBody st)) (defScope st) 0 [] .none .none .none .none none .none .none 0),#[]⟩
abbrev tO (vs:Array Value):Obj:=⟨.type "tuple", none,.seq vs 0,#[]⟩
abbrev kO (n q:String) (a b c:Tok) (l k f:Nat) (x1:Value) (t:Nat) (x2 x3 x4 x5:Value) (u l2:Nat) (d:Tok):Obj:=⟨.type "code", none,.fields #[vS n a,vS q b,vS "/claim/cut.py" c,.int l 0,.int k 0,.int 0 0,.int 0 0,.int f 0,x1,.bool true,.int t 0,x2,.none,x3,x4,x5,.int u 0,.int l2 0,vS "/claim/cut.py" d],#[]⟩
def hV:Program:={ PySem.Challenge.pw_struckdeeds_k32_what_goes_with_struck_li with main:={ PySem.Challenge.pw_struckdeeds_k32_what_goes_with_struck_li.main with body:=([1,2,4,5,6,7,8,10,11,13,14,15,16,17,19,20,21,22,24,25,26,27,28,29,30,31,32,33,34,35,36,37,38,39]:List Nat).map hs } }
abbrev hB:List Stmt:=PySem.W.behindTheImports PySem.Challenge.pw_struckdeeds_k32_what_goes_with_struck_li
def hN:Env:={ scope:=PySem.Challenge.pw_struckdeeds_k32_what_goes_with_struck_li.main.scope,locals:=mainNs,globals:=mainNs,cells:=[],code:=PySem.Value.ref 13,frame:=some 14 }
abbrev hC:Code:=.body hB hN
abbrev hF:List Frame:=[PySem.W.topFrame { line:=0,col:=0,endLine:=0,endCol:=0 }]
abbrev hI (t:PySem.W.BT) (l:List (Nat×Obj)):PySem.W.BT:=l.foldl (fun t x=>t.ins x.1 x.2) t
noncomputable def hT0:Params→PySem.W.BT:=fun P=>hI .nil [(0,PySem.W.boot_o_0 P),(1,PySem.W.boot_o_1 P),(2,PySem.W.boot_o_2 P),(3,PySem.W.boot_o_3 P),(4,PySem.W.boot_o_4 P),(5,PySem.W.boot_o_5 P),(6,PySem.W.boot_o_6 P),(7,PySem.W.boot_o_7 P),(8,PySem.W.boot_o_8 P),(9,PySem.W.boot_o_9 P),(10,PySem.W.boot_o_10 P)]
noncomputable def hT1:Params→PySem.W.BT:=fun P=>hI (hT0 P) (
 (11,tO #[]) ::
 (12,(⟨.none,none,(.fields #[]),#[]⟩:Obj)) ::
 (13,(⟨(.type "code"),none,(.fields #[(vS "<module>" 182),(vS "<module>" 183),(vS "/claim/cut.py" 184),(.int 1 0),(.int 0 0),(.int 0 0),(.int 0 0),(.int 0 0),(.ref 11),(.bool false),(.int 181 0),(.ref 12),.none,.none,.none,.none,(.int 185 0),(.int 1 0),(vS "/claim/cut.py" 186)]),#[]⟩:Obj)) ::
 (14,(⟨(.type "frame"),none,.plain,#[(some (.ref 13)),(some (.ref 3)),(some (.ref 3)),none,(some (vS "__main__" 164)),none,(some (.ref 0))]⟩:Obj))::[])
noncomputable abbrev hX1 (w:World) (os:OsState):PySem.W.SharedT:=⟨hT1 w.params,15,{ },⟨[]⟩,{ },187,os⟩
noncomputable abbrev hX2 (w:World) (os:OsState):PySem.W.SharedT:=⟨hT1 w.params,15,{ },⟨[]⟩,{ },187,os⟩
def hD3:Params→List DictEntry:=fun P=>[eS P "__name__" 165 (vS "law_struckdeeds_k32_what_goes_with_struck_li" 363),eS P "__doc__" 166 .none,eS P "__package__" 167 .none,eS P "__loader__" 168 (.builtin "__main__.__loader__#opaque"),eS P "__spec__" 169 .none,eS P "__annotations__" 170 (.ref 6),eS P "__builtins__" 171 (.ref 4),eS P "__file__" 173 (vS "/claim/cut.py" 172),eS P "__cached__" 174 .none,eS P "is_whole" 195 (.ref 21),eS P "is_within" 204 (.ref 28),eS P "FORMS" 228 (.ref 29),eS P "form_of" 235 (.ref 36),eS P "names_in" 242 (.ref 43),eS P "made_by" 249 (.ref 50),eS P "must_stand" 255 (.ref 55),eS P "StrikeError" 275 (.ref 65),eS P "NoLine" 300 (.ref 85),eS P "makers" 308 (.ref 92),eS P "deeds_of" 314 (.ref 97),eS P "book_of" 320 (.ref 102),eS P "is_number" 328 (.ref 109),eS P "needs" 334 (.ref 114),eS P "goes" 344 (.ref 121),eS P "chains" 350 (.ref 126),eS P "left" 356 (.ref 131),eS P "chains_by_ends" 362 (.ref 136),eS P "_law_mixed" 371 (.ref 143),eS P "_law_take" 380 (.ref 150),eS P "_law_names" 386 (.ref 155),eS P "_law_deed" 392 (.ref 160),eS P "_law_after" 398 (.ref 165),eS P "_law_start" 404 (.ref 170),eS P "_law_book" 422 (.ref 177),eS P "_law_made" 429 (.ref 184),eS P "_law_must" 436 (.ref 191),eS P "_law_needed" 442 (.ref 196),eS P "_law_goes" 448 (.ref 201),eS P "_law_struck" 458 (.ref 208),eS P "_law_chained" 464 (.ref 213)]
noncomputable def hT3:Params→PySem.W.BT:=fun P=>hI (hT1 P) (
 (3,(⟨.type "dict", none,.dict (hD3 P).toArray 40,#[]⟩:Obj)) ::
 (12,(⟨.none,none,(.fields #[(.int 2 0),(.int 0 0),(.ref 20),(.int 4 0),(.int 0 0),(.ref 27),(.int 8 0),(.int 0 0),(.ref 35),(.int 10 0),(.int 0 0),(.ref 42),(.int 12 0),(.int 0 0),(.ref 49),(.int 18 0),(.int 0 0),(.ref 54),(.int 22 0),(.int 0 0),(.ref 61),(.int 24 0),(.int 0 0),(.ref 74),(.int 29 0),(.int 0 0),(.ref 91),(.int 32 0),(.int 0 0),(.ref 96),(.int 34 0),(.int 0 0),(.ref 101),(.int 36 0),(.int 0 0),(.ref 108),(.int 38 0),(.int 0 0),(.ref 113),(.int 44 0),(.int 0 0),(.ref 120),(.int 46 0),(.int 0 0),(.ref 125),(.int 49 0),(.int 0 0),(.ref 130),(.int 52 0),(.int 0 0),(.ref 135),(.int 63 0),(.int 0 0),(.ref 142),(.int 65 0),(.int 0 0),(.ref 149),(.int 68 0),(.int 0 0),(.ref 154),(.int 79 0),(.int 0 0),(.ref 159),(.int 100 0),(.int 0 0),(.ref 164),(.int 108 0),(.int 0 0),(.ref 169),(.int 111 0),(.int 0 0),(.ref 176),(.int 127 0),(.int 0 0),(.ref 183),(.int 129 0),(.int 0 0),(.ref 190),(.int 135 0),(.int 0 0),(.ref 195),(.int 137 0),(.int 0 0),(.ref 200),(.int 143 0),(.int 0 0),(.ref 207),(.int 149 0),(.int 0 0),(.ref 212)]),#[]⟩:Obj)) ::
 (15,tO #[]) ::
 (16,(⟨.none,none,(.fields #[]),#[]⟩:Obj)) ::
 (17,tO #[(vS "thing" 192)]) ::
 (18,tO #[]) ::
 (19,gO "is_whole" "is_whole" (hs 1)) ::
 (20,kO "is_whole" "is_whole" 189 190 191 2 1 3 (.ref 15) 181 (.ref 16) (.ref 17) (.ref 18) (.ref 19) 193 2 194) ::
 (21,fO "is_whole" "is_whole" (hs 1) .none (vS "struckdeeds.words" 187) 20) ::
 (22,tO #[]) ::
 (23,(⟨.none,none,(.fields #[]),#[]⟩:Obj)) ::
 (24,tO #[(vS "thing" 199),(vS "low" 200),(vS "high" 201)]) ::
 (25,tO #[]) ::
 (26,gO "is_within" "is_within" (hs 2)) ::
 (27,kO "is_within" "is_within" 196 197 198 4 3 3 (.ref 22) 181 (.ref 23) (.ref 24) (.ref 25) (.ref 26) 202 4 203) ::
 (28,fO "is_within" "is_within" (hs 2) .none (vS "struckdeeds.words" 187) 27) ::
 (29,(⟨(.type "dict"),none,(.dict #[eS P "put" 207 (vS "npk" 208),eS P "take" 209 (vS "n" 210),eS P "move" 211 (vS "np" 212),eS P "count" 213 (vS "nk" 214),eS P "name" 215 (vS "nn" 216),eS P "split" 217 (vS "nnpk" 218),eS P "join" 219 (vS "nn" 220)] 7),#[]⟩:Obj)) ::
 (30,tO #[]) ::
 (31,(⟨.none,none,(.fields #[]),#[]⟩:Obj)) ::
 (32,tO #[(vS "word" 232)]) ::
 (33,tO #[]) ::
 (34,gO "form_of" "form_of" (hs 5)) ::
 (35,kO "form_of" "form_of" 229 230 231 8 1 3 (.ref 30) 181 (.ref 31) (.ref 32) (.ref 33) (.ref 34) 233 8 234) ::
 (36,fO "form_of" "form_of" (hs 5) .none (vS "struckdeeds.deeds" 205) 35) ::
 (37,tO #[]) ::
 (38,(⟨.none,none,(.fields #[]),#[]⟩:Obj)) ::
 (39,tO #[(vS "deed" 239)]) ::
 (40,tO #[]) ::
 (41,gO "names_in" "names_in" (hs 6)) ::
 (42,kO "names_in" "names_in" 236 237 238 10 1 3 (.ref 37) 181 (.ref 38) (.ref 39) (.ref 40) (.ref 41) 240 10 241) ::
 (43,fO "names_in" "names_in" (hs 6) .none (vS "struckdeeds.deeds" 205) 42) ::
 (44,tO #[]) ::
 (45,(⟨.none,none,(.fields #[]),#[]⟩:Obj)) ::
 (46,tO #[(vS "deed" 246)]) ::
 (47,tO #[]) ::
 (48,gO "made_by" "made_by" (hs 7)) ::
 (49,kO "made_by" "made_by" 243 244 245 12 1 3 (.ref 44) 181 (.ref 45) (.ref 46) (.ref 47) (.ref 48) 247 12 248) ::
 (50,fO "made_by" "made_by" (hs 7) .none (vS "struckdeeds.deeds" 205) 49) ::
 (51,tO #[]) ::
 (52,(⟨.none,none,(.fields #[]),#[]⟩:Obj)) ::
 (53,gO "must_stand" "must_stand" (hs 8)) ::
 (54,kO "must_stand" "must_stand" 250 251 252 18 1 3 (.ref 51) 181 (.ref 52) .none .none (.ref 53) 253 18 254) ::
 (55,fO "must_stand" "must_stand" (hs 8) .none (vS "struckdeeds.deeds" 205) 54) ::
 (56,tO #[(.type "ValueError")]) ::
 (57,(⟨(.type "builtin_function_or_method"),none,(.fields #[(.builtin "type.__prepare__"),(.type "type")]),#[]⟩:Obj)) ::
 (58,(⟨(.type "dict"),none,(.dict #[eS P "__module__" 265 (vS "struckdeeds.errors" 256),eS P "__qualname__" 267 (vS "StrikeError" 266),eS P "__firstlineno__" 269 (.int 22 268),eS P "__static_attributes__" 270 (.ref 63)] 4),#[]⟩:Obj)) ::
 (59,tO #[]) ::
 (60,(⟨.none,none,(.fields #[]),#[]⟩:Obj)) ::
 (61,(⟨(.type "code"),none,(.fields #[(vS "StrikeError" 260),(vS "StrikeError" 261),(vS "/claim/cut.py" 262),(.int 22 0),(.int 0 0),(.int 0 0),(.int 0 0),(.int 0 0),(.ref 59),(.bool false),(.int 181 0),(.ref 60),.none,.none,.none,.none,(.int 263 0),(.int 22 0),(vS "/claim/cut.py" 264)]),#[]⟩:Obj)) ::
 (62,(⟨(.type "frame"),none,.plain,#[(some (.ref 61)),(some (.ref 3)),(some (.ref 58)),none,(some (vS "struckdeeds.errors" 256)),none,(some (.ref 0))]⟩:Obj)) ::
 (63,tO #[]) ::
 (64,(⟨(.type "dict"),none,(.dict #[eS P "__module__" 265 (vS "struckdeeds.errors" 256),eS P "__firstlineno__" 269 (.int 22 268),eS P "__static_attributes__" 270 (.ref 63),eS P "__weakref__" 272 (.ref 66),eS P "__doc__" 273 .none] 3),#[]⟩:Obj)) ::
 (65,(⟨(.type "type"),none,(.cls (.mk "StrikeError" [(.type "ValueError")] [(.ref 65),(.type "ValueError"),(.type "Exception"),(.type "BaseException"),(.type "object")] 64 "StrikeError" true [] [(.ref 85)] false none false)),#[(some (.ref 56)),none,(some (vS "StrikeError" 258)),(some (vS "StrikeError" 266)),(some (.builtin "ValueError.__new__")),(some (.bool true))]⟩:Obj)) ::
 (66,(⟨(.type "getset_descriptor"),none,(.fields #[(vS "__weakref__" 271),(.ref 65),(.builtin "ExceptionGroup.__weakref__"),.none]),#[]⟩:Obj)) ::
 (67,(⟨(.type "super"),none,(.fields #[(.ref 65),(.ref 65),(.ref 65)]),#[]⟩:Obj)) ::
 (68,(⟨(.type "builtin_function_or_method"),none,(.fields #[(.builtin "object.__init_subclass__"),(.ref 65)]),#[]⟩:Obj)) ::
 (69,tO #[(.ref 65)]) ::
 (70,(⟨(.type "builtin_function_or_method"),none,(.fields #[(.builtin "type.__prepare__"),(.type "type")]),#[]⟩:Obj)) ::
 (71,(⟨(.type "dict"),none,(.dict #[eS P "__module__" 283 (vS "struckdeeds.errors" 256),eS P "__qualname__" 285 (vS "NoLine" 284),eS P "__firstlineno__" 287 (.int 24 286),eS P "__init__" 295 (.ref 82),eS P "__static_attributes__" 297 (.ref 83)] 5),#[]⟩:Obj)) ::
 (72,tO #[]) ::
 (73,(⟨.none,none,(.fields #[(.int 26 0),(.int 4 0),(.ref 81)]),#[]⟩:Obj)) ::
 (74,(⟨(.type "code"),none,(.fields #[(vS "NoLine" 278),(vS "NoLine" 279),(vS "/claim/cut.py" 280),(.int 24 0),(.int 0 0),(.int 0 0),(.int 0 0),(.int 0 0),(.ref 72),(.bool false),(.int 181 0),(.ref 73),.none,.none,.none,.none,(.int 281 0),(.int 24 0),(vS "/claim/cut.py" 282)]),#[]⟩:Obj)) ::
 (75,(⟨(.type "frame"),none,.plain,#[(some (.ref 74)),(some (.ref 3)),(some (.ref 71)),none,(some (vS "struckdeeds.errors" 256)),none,(some (.ref 0))]⟩:Obj)) ::
 (76,tO #[]) ::
 (77,(⟨.none,none,(.fields #[]),#[]⟩:Obj)) ::
 (78,tO #[(vS "self" 291),(vS "line" 292)]) ::
 (79,tO #[]) ::
 (80,gO "__init__" "NoLine.__init__" (inCls 0 (hs 11))) ::
 (81,kO "__init__" "NoLine.__init__" 288 289 290 26 2 3 (.ref 76) 181 (.ref 77) (.ref 78) (.ref 79) (.ref 80) 293 26 294) ::
 (82,fO "__init__" "NoLine.__init__" (inCls 0 (hs 11)) .none (vS "struckdeeds.errors" 256) 81) ::
 (83,tO #[(vS "line" 296)]) ::
 (84,(⟨(.type "dict"),none,(.dict #[eS P "__module__" 283 (vS "struckdeeds.errors" 256),eS P "__firstlineno__" 287 (.int 24 286),eS P "__init__" 295 (.ref 82),eS P "__static_attributes__" 297 (.ref 83),eS P "__doc__" 298 .none] 2),#[]⟩:Obj)) ::
 (85,(⟨(.type "type"),none,(.cls (.mk "NoLine" [(.ref 65)] [(.ref 85),(.ref 65),(.type "ValueError"),(.type "Exception"),(.type "BaseException"),(.type "object")] 84 "NoLine" true [] [] false none false)),#[(some (.ref 69)),none,(some (vS "NoLine" 276)),(some (vS "NoLine" 284)),(some (.builtin "ValueError.__new__")),(some (.bool true))]⟩:Obj)) ::
 (86,(⟨(.type "super"),none,(.fields #[(.ref 85),(.ref 85),(.ref 85)]),#[]⟩:Obj)) ::
 (87,(⟨(.type "builtin_function_or_method"),none,(.fields #[(.builtin "object.__init_subclass__"),(.ref 85)]),#[]⟩:Obj)) ::
 (88,tO #[]) ::
 (89,(⟨.none,none,(.fields #[]),#[]⟩:Obj)) ::
 (90,gO "makers" "makers" (hs 13)) ::
 (91,kO "makers" "makers" 303 304 305 29 1 3 (.ref 88) 181 (.ref 89) .none .none (.ref 90) 306 29 307) ::
 (92,fO "makers" "makers" (hs 13) .none (vS "struckdeeds.books" 301) 91) ::
 (93,tO #[]) ::
 (94,(⟨.none,none,(.fields #[]),#[]⟩:Obj)) ::
 (95,gO "deeds_of" "deeds_of" (hs 14)) ::
 (96,kO "deeds_of" "deeds_of" 309 310 311 32 1 3 (.ref 93) 181 (.ref 94) .none .none (.ref 95) 312 32 313) ::
 (97,fO "deeds_of" "deeds_of" (hs 14) .none (vS "struckdeeds.books" 301) 96) ::
 (98,tO #[]) ::
 (99,(⟨.none,none,(.fields #[]),#[]⟩:Obj)) ::
 (100,gO "book_of" "book_of" (hs 15)) ::
 (101,kO "book_of" "book_of" 315 316 317 34 2 3 (.ref 98) 181 (.ref 99) .none .none (.ref 100) 318 34 319) ::
 (102,fO "book_of" "book_of" (hs 15) .none (vS "struckdeeds.books" 301) 101) ::
 (103,tO #[]) ::
 (104,(⟨.none,none,(.fields #[]),#[]⟩:Obj)) ::
 (105,tO #[(vS "book" 324),(vS "thing" 325)]) ::
 (106,tO #[]) ::
 (107,gO "is_number" "is_number" (hs 16)) ::
 (108,kO "is_number" "is_number" 321 322 323 36 2 3 (.ref 103) 181 (.ref 104) (.ref 105) (.ref 106) (.ref 107) 326 36 327) ::
 (109,fO "is_number" "is_number" (hs 16) .none (vS "struckdeeds.books" 301) 108) ::
 (110,tO #[]) ::
 (111,(⟨.none,none,(.fields #[]),#[]⟩:Obj)) ::
 (112,gO "needs" "needs" (hs 17)) ::
 (113,kO "needs" "needs" 329 330 331 38 2 3 (.ref 110) 181 (.ref 111) .none .none (.ref 112) 332 38 333) ::
 (114,fO "needs" "needs" (hs 17) .none (vS "struckdeeds.books" 301) 113) ::
 (115,tO #[]) ::
 (116,(⟨.none,none,(.fields #[]),#[]⟩:Obj)) ::
 (117,tO #[(vS "book" 340),(vS "struck" 341)]) ::
 (118,tO #[]) ::
 (119,gO "goes" "goes" (hs 19)) ::
 (120,kO "goes" "goes" 337 338 339 44 2 3 (.ref 115) 181 (.ref 116) (.ref 117) (.ref 118) (.ref 119) 342 44 343) ::
 (121,fO "goes" "goes" (hs 19) .none (vS "struckdeeds.strikes" 335) 120) ::
 (122,tO #[]) ::
 (123,(⟨.none,none,(.fields #[]),#[]⟩:Obj)) ::
 (124,gO "chains" "chains" (hs 20)) ::
 (125,kO "chains" "chains" 345 346 347 46 2 3 (.ref 122) 181 (.ref 123) .none .none (.ref 124) 348 46 349) ::
 (126,fO "chains" "chains" (hs 20) .none (vS "struckdeeds.strikes" 335) 125) ::
 (127,tO #[]) ::
 (128,(⟨.none,none,(.fields #[]),#[]⟩:Obj)) ::
 (129,gO "left" "left" (hs 21)) ::
 (130,kO "left" "left" 351 352 353 49 2 3 (.ref 127) 181 (.ref 128) .none .none (.ref 129) 354 49 355) ::
 (131,fO "left" "left" (hs 21) .none (vS "struckdeeds.strikes" 335) 130) ::
 (132,tO #[]) ::
 (133,(⟨.none,none,(.fields #[]),#[]⟩:Obj)) ::
 (134,gO "chains_by_ends" "chains_by_ends" (hs 22)) ::
 (135,kO "chains_by_ends" "chains_by_ends" 357 358 359 52 2 3 (.ref 132) 181 (.ref 133) .none .none (.ref 134) 360 52 361) ::
 (136,fO "chains_by_ends" "chains_by_ends" (hs 22) .none (vS "struckdeeds.strikes" 335) 135) ::
 (137,tO #[]) ::
 (138,(⟨.none,none,(.fields #[]),#[]⟩:Obj)) ::
 (139,tO #[(vS "_law_cell" 368)]) ::
 (140,tO #[]) ::
 (141,gO "_law_mixed" "_law_mixed" (hs 24)) ::
 (142,kO "_law_mixed" "_law_mixed" 365 366 367 63 1 3 (.ref 137) 181 (.ref 138) (.ref 139) (.ref 140) (.ref 141) 369 63 370) ::
 (143,fO "_law_mixed" "_law_mixed" (hs 24) .none (vS "law_struckdeeds_k32_what_goes_with_struck_li" 363) 142) ::
 (144,tO #[]) ::
 (145,(⟨.none,none,(.fields #[]),#[]⟩:Obj)) ::
 (146,tO #[(vS "_law_pack" 375),(vS "_law_size" 376),(vS "_law_digit" 377)]) ::
 (147,tO #[]) ::
 (148,gO "_law_take" "_law_take" (hs 25)) ::
 (149,kO "_law_take" "_law_take" 372 373 374 65 2 3 (.ref 144) 181 (.ref 145) (.ref 146) (.ref 147) (.ref 148) 378 65 379) ::
 (150,fO "_law_take" "_law_take" (hs 25) .none (vS "law_struckdeeds_k32_what_goes_with_struck_li" 363) 149) ::
 (151,tO #[]) ::
 (152,(⟨.none,none,(.fields #[]),#[]⟩:Obj)) ::
 (153,gO "_law_names" "_law_names" (hs 26)) ::
 (154,kO "_law_names" "_law_names" 381 382 383 68 2 3 (.ref 151) 181 (.ref 152) .none .none (.ref 153) 384 68 385) ::
 (155,fO "_law_names" "_law_names" (hs 26) .none (vS "law_struckdeeds_k32_what_goes_with_struck_li" 363) 154) ::
 (156,tO #[]) ::
 (157,(⟨.none,none,(.fields #[]),#[]⟩:Obj)) ::
 (158,gO "_law_deed" "_law_deed" (hs 27)) ::
 (159,kO "_law_deed" "_law_deed" 387 388 389 79 3 3 (.ref 156) 181 (.ref 157) .none .none (.ref 158) 390 79 391) ::
 (160,fO "_law_deed" "_law_deed" (hs 27) .none (vS "law_struckdeeds_k32_what_goes_with_struck_li" 363) 159) ::
 (161,tO #[]) ::
 (162,(⟨.none,none,(.fields #[]),#[]⟩:Obj)) ::
 (163,gO "_law_after" "_law_after" (hs 28)) ::
 (164,kO "_law_after" "_law_after" 393 394 395 100 3 3 (.ref 161) 181 (.ref 162) .none .none (.ref 163) 396 100 397) ::
 (165,fO "_law_after" "_law_after" (hs 28) .none (vS "law_struckdeeds_k32_what_goes_with_struck_li" 363) 164) ::
 (166,tO #[]) ::
 (167,(⟨.none,none,(.fields #[]),#[]⟩:Obj)) ::
 (168,gO "_law_start" "_law_start" (hs 29)) ::
 (169,kO "_law_start" "_law_start" 399 400 401 108 3 3 (.ref 166) 181 (.ref 167) .none .none (.ref 168) 402 108 403) ::
 (170,fO "_law_start" "_law_start" (hs 29) .none (vS "law_struckdeeds_k32_what_goes_with_struck_li" 363) 169) ::
 (171,tO #[]) ::
 (172,(⟨.none,none,(.fields #[]),#[]⟩:Obj)) ::
 (173,tO #[(vS "_law_head" 408),(vS "_law_cells" 409),(vS "_law_pack" 410),(vS "_law_spare" 411),(vS "_law_amount" 412),(vS "_law_start_here" 413),(vS "_law_some" 414),(vS "_law_lines" 415),(vS "_law_cell" 416),(vS "_law_digits" 417),(vS "_law_hand" 418),(vS "_law_deed_here" 419)]) ::
 (174,tO #[]) ::
 (175,gO "_law_book" "_law_book" (hs 30)) ::
 (176,kO "_law_book" "_law_book" 405 406 407 111 2 3 (.ref 171) 181 (.ref 172) (.ref 173) (.ref 174) (.ref 175) 420 111 421) ::
 (177,fO "_law_book" "_law_book" (hs 30) .none (vS "law_struckdeeds_k32_what_goes_with_struck_li" 363) 176) ::
 (178,tO #[]) ::
 (179,(⟨.none,none,(.fields #[]),#[]⟩:Obj)) ::
 (180,tO #[(vS "_law_deed_here" 426)]) ::
 (181,tO #[]) ::
 (182,gO "_law_made" "_law_made" (hs 31)) ::
 (183,kO "_law_made" "_law_made" 423 424 425 127 1 3 (.ref 178) 181 (.ref 179) (.ref 180) (.ref 181) (.ref 182) 427 127 428) ::
 (184,fO "_law_made" "_law_made" (hs 31) .none (vS "law_struckdeeds_k32_what_goes_with_struck_li" 363) 183) ::
 (185,tO #[]) ::
 (186,(⟨.none,none,(.fields #[]),#[]⟩:Obj)) ::
 (187,tO #[(vS "_law_deed_here" 433)]) ::
 (188,tO #[]) ::
 (189,gO "_law_must" "_law_must" (hs 32)) ::
 (190,kO "_law_must" "_law_must" 430 431 432 129 1 3 (.ref 185) 181 (.ref 186) (.ref 187) (.ref 188) (.ref 189) 434 129 435) ::
 (191,fO "_law_must" "_law_must" (hs 32) .none (vS "law_struckdeeds_k32_what_goes_with_struck_li" 363) 190) ::
 (192,tO #[]) ::
 (193,(⟨.none,none,(.fields #[]),#[]⟩:Obj)) ::
 (194,gO "_law_needed" "_law_needed" (hs 33)) ::
 (195,kO "_law_needed" "_law_needed" 437 438 439 135 2 3 (.ref 192) 181 (.ref 193) .none .none (.ref 194) 440 135 441) ::
 (196,fO "_law_needed" "_law_needed" (hs 33) .none (vS "law_struckdeeds_k32_what_goes_with_struck_li" 363) 195) ::
 (197,tO #[]) ::
 (198,(⟨.none,none,(.fields #[]),#[]⟩:Obj)) ::
 (199,gO "_law_goes" "_law_goes" (hs 34)) ::
 (200,kO "_law_goes" "_law_goes" 443 444 445 137 2 3 (.ref 197) 181 (.ref 198) .none .none (.ref 199) 446 137 447) ::
 (201,fO "_law_goes" "_law_goes" (hs 34) .none (vS "law_struckdeeds_k32_what_goes_with_struck_li" 363) 200) ::
 (202,tO #[]) ::
 (203,(⟨.none,none,(.fields #[]),#[]⟩:Obj)) ::
 (204,tO #[(vS "_law_pack" 452),(vS "_law_lines" 453),(vS "_law_found" 454),(vS "_law_k" 455)]) ::
 (205,tO #[]) ::
 (206,gO "_law_struck" "_law_struck" (hs 35)) ::
 (207,kO "_law_struck" "_law_struck" 449 450 451 143 2 3 (.ref 202) 181 (.ref 203) (.ref 204) (.ref 205) (.ref 206) 456 143 457) ::
 (208,fO "_law_struck" "_law_struck" (hs 35) .none (vS "law_struckdeeds_k32_what_goes_with_struck_li" 363) 207) ::
 (209,tO #[]) ::
 (210,(⟨.none,none,(.fields #[]),#[]⟩:Obj)) ::
 (211,gO "_law_chained" "_law_chained" (hs 36)) ::
 (212,kO "_law_chained" "_law_chained" 459 460 461 149 3 3 (.ref 209) 181 (.ref 210) .none .none (.ref 211) 462 149 463) ::
 (213,fO "_law_chained" "_law_chained" (hs 36) .none (vS "law_struckdeeds_k32_what_goes_with_struck_li" 363) 212)::[])
noncomputable abbrev hX3 (w:World) (os:OsState):PySem.W.SharedT:=⟨hT3 w.params,214,{ },⟨[]⟩,{ },465,os⟩
def hD4:Params→List DictEntry:=fun P=>hD3 P++[eS P "_law_right" 470 (.ref 218),eS P "_law_refused" 481 (.ref 225),eS P "law" 487 (.ref 230)]
noncomputable def hT4:Params→PySem.W.BT:=fun P=>hI (hT3 P) (
 (3,(⟨.type "dict", none,.dict (hD4 P).toArray 43,#[]⟩:Obj)) ::
 (12,(⟨.none,none,(.fields #[(.int 2 0),(.int 0 0),(.ref 20),(.int 4 0),(.int 0 0),(.ref 27),(.int 8 0),(.int 0 0),(.ref 35),(.int 10 0),(.int 0 0),(.ref 42),(.int 12 0),(.int 0 0),(.ref 49),(.int 18 0),(.int 0 0),(.ref 54),(.int 22 0),(.int 0 0),(.ref 61),(.int 24 0),(.int 0 0),(.ref 74),(.int 29 0),(.int 0 0),(.ref 91),(.int 32 0),(.int 0 0),(.ref 96),(.int 34 0),(.int 0 0),(.ref 101),(.int 36 0),(.int 0 0),(.ref 108),(.int 38 0),(.int 0 0),(.ref 113),(.int 44 0),(.int 0 0),(.ref 120),(.int 46 0),(.int 0 0),(.ref 125),(.int 49 0),(.int 0 0),(.ref 130),(.int 52 0),(.int 0 0),(.ref 135),(.int 63 0),(.int 0 0),(.ref 142),(.int 65 0),(.int 0 0),(.ref 149),(.int 68 0),(.int 0 0),(.ref 154),(.int 79 0),(.int 0 0),(.ref 159),(.int 100 0),(.int 0 0),(.ref 164),(.int 108 0),(.int 0 0),(.ref 169),(.int 111 0),(.int 0 0),(.ref 176),(.int 127 0),(.int 0 0),(.ref 183),(.int 129 0),(.int 0 0),(.ref 190),(.int 135 0),(.int 0 0),(.ref 195),(.int 137 0),(.int 0 0),(.ref 200),(.int 143 0),(.int 0 0),(.ref 207),(.int 149 0),(.int 0 0),(.ref 212),(.int 155 0),(.int 0 0),(.ref 217),(.int 164 0),(.int 0 0),(.ref 224),(.int 178 0),(.int 0 0),(.ref 229)]),#[]⟩:Obj)) ::
 (214,tO #[]) ::
 (215,(⟨.none,none,(.fields #[]),#[]⟩:Obj)) ::
 (216,gO "_law_right" "_law_right" (hs 37)) ::
 (217,kO "_law_right" "_law_right" 465 466 467 155 2 3 (.ref 214) 181 (.ref 215) .none .none (.ref 216) 468 155 469) ::
 (218,fO "_law_right" "_law_right" (hs 37) .none (vS "law_struckdeeds_k32_what_goes_with_struck_li" 363) 217) ::
 (219,tO #[]) ::
 (220,(⟨.none,none,(.fields #[]),#[]⟩:Obj)) ::
 (221,tO #[(vS "_law_deed_here" 474),(vS "_law_book_here" 475),(vS "_law_struck_here" 476),(vS "_law_caught" 477),(vS "e" 478)]) ::
 (222,tO #[]) ::
 (223,gO "_law_refused" "_law_refused" (hs 38)) ::
 (224,kO "_law_refused" "_law_refused" 471 472 473 164 3 3 (.ref 219) 181 (.ref 220) (.ref 221) (.ref 222) (.ref 223) 479 164 480) ::
 (225,fO "_law_refused" "_law_refused" (hs 38) .none (vS "law_struckdeeds_k32_what_goes_with_struck_li" 363) 224) ::
 (226,tO #[]) ::
 (227,(⟨.none,none,(.fields #[]),#[]⟩:Obj)) ::
 (228,gO "law" "law" (hs 39)) ::
 (229,kO "law" "law" 482 483 484 178 1 3 (.ref 226) 181 (.ref 227) .none .none (.ref 228) 485 178 486) ::
 (230,fO "law" "law" (hs 39) .none (vS "law_struckdeeds_k32_what_goes_with_struck_li" 363) 229)::[])
noncomputable abbrev hX4 (w:World) (os:OsState):PySem.W.SharedT:=⟨hT4 w.params,231,{ },⟨[]⟩,{ },488,os⟩
noncomputable abbrev hX5 (w:World) (os:OsState):PySem.W.SharedT:=⟨hT4 w.params,231,{ },⟨[]⟩,{ },488,os⟩
noncomputable def hg (P:Params) (a:Nat):Obj:=((hT4 P).get a).getD default
noncomputable def hK:Params→PySem.W.Frag:=fun P=>
 (nat_lit 2,hg P 2) ::
 (nat_lit 3,hg P 3) ::
 (nat_lit 20,hg P 20) ::
 (nat_lit 21,fO "is_whole" "is_whole" s_is_whole .none (vS "struckdeeds.words" 187) 20) ::
 (nat_lit 27,hg P 27) ::
 (nat_lit 28,fO "is_within" "is_within" s_is_within .none (vS "struckdeeds.words" 187) 27) ::
 (nat_lit 29,(⟨(.type "dict"),none,(.dict #[eS P "put" 207 (vS "npk" 208),eS P "take" 209 (vS "n" 210),eS P "move" 211 (vS "np" 212),eS P "count" 213 (vS "nk" 214),eS P "name" 215 (vS "nn" 216),eS P "split" 217 (vS "nnpk" 218),eS P "join" 219 (vS "nn" 220)] 7),#[]⟩:Obj)) ::
 (nat_lit 35,hg P 35) ::
 (nat_lit 36,fO "form_of" "form_of" s_form_of .none (vS "struckdeeds.deeds" 205) 35) ::
 (nat_lit 42,hg P 42) ::
 (nat_lit 43,fO "names_in" "names_in" s_names_in .none (vS "struckdeeds.deeds" 205) 42) ::
 (nat_lit 49,hg P 49) ::
 (nat_lit 50,fO "made_by" "made_by" s_made_by .none (vS "struckdeeds.deeds" 205) 49) ::
 (nat_lit 54,hg P 54) ::
 (nat_lit 55,fO "must_stand" "must_stand" s_must_stand .none (vS "struckdeeds.deeds" 205) 54) ::
 (nat_lit 64,hg P 64) ::
 (nat_lit 65,(⟨(.type "type"),none,(.cls (.mk "StrikeError" [(.type "ValueError")] [(.ref 65),(.type "ValueError"),(.type "Exception"),(.type "BaseException"),(.type "object")] 64 "StrikeError" true [] [(.ref 85)] false none false)),#[(some (.ref 56)),none,(some (vS "StrikeError" 258)),(some (vS "StrikeError" 266)),(some (.builtin "ValueError.__new__")),(some (.bool true))]⟩:Obj)) ::
 (nat_lit 66,hg P 66) ::
 (nat_lit 81,hg P 81) ::
 (nat_lit 82,fO "__init__" "NoLine.__init__" s_init_NoLine .none (vS "struckdeeds.errors" 256) 81) ::
 (nat_lit 84,hg P 84) ::
 (nat_lit 85,(⟨(.type "type"),none,(.cls (.mk "NoLine" [(.ref 65)] [(.ref 85),(.ref 65),(.type "ValueError"),(.type "Exception"),(.type "BaseException"),(.type "object")] 84 "NoLine" true [] [] false none false)),#[(some (.ref 69)),none,(some (vS "NoLine" 276)),(some (vS "NoLine" 284)),(some (.builtin "ValueError.__new__")),(some (.bool true))]⟩:Obj)) ::
 (nat_lit 91,hg P 91) ::
 (nat_lit 92,fO "makers" "makers" s_makers .none (vS "struckdeeds.books" 301) 91) ::
 (nat_lit 96,hg P 96) ::
 (nat_lit 97,fO "deeds_of" "deeds_of" s_deeds_of .none (vS "struckdeeds.books" 301) 96) ::
 (nat_lit 101,hg P 101) ::
 (nat_lit 102,fO "book_of" "book_of" s_book_of .none (vS "struckdeeds.books" 301) 101) ::
 (nat_lit 108,hg P 108) ::
 (nat_lit 109,fO "is_number" "is_number" s_is_number .none (vS "struckdeeds.books" 301) 108) ::
 (nat_lit 113,hg P 113) ::
 (nat_lit 114,fO "needs" "needs" s_needs .none (vS "struckdeeds.books" 301) 113) ::
 (nat_lit 120,hg P 120) ::
 (nat_lit 121,fO "goes" "goes" s_goes .none (vS "struckdeeds.strikes" 335) 120) ::
 (nat_lit 125,hg P 125) ::
 (nat_lit 126,fO "chains" "chains" s_chains .none (vS "struckdeeds.strikes" 335) 125) ::
 (nat_lit 130,hg P 130) ::
 (nat_lit 131,fO "left" "left" s_left .none (vS "struckdeeds.strikes" 335) 130) ::
 (nat_lit 135,hg P 135) ::
 (nat_lit 136,fO "chains_by_ends" "chains_by_ends" s_chains_by_ends .none (vS "struckdeeds.strikes" 335) 135) ::
 (nat_lit 142,hg P 142) ::
 (nat_lit 143,fO "_law_mixed" "_law_mixed" s__law_mixed .none (vS "law_struckdeeds_k32_what_goes_with_struck_li" 363) 142) ::
 (nat_lit 149,hg P 149) ::
 (nat_lit 150,fO "_law_take" "_law_take" s__law_take .none (vS "law_struckdeeds_k32_what_goes_with_struck_li" 363) 149) ::
 (nat_lit 154,hg P 154) ::
 (nat_lit 155,fO "_law_names" "_law_names" s__law_names .none (vS "law_struckdeeds_k32_what_goes_with_struck_li" 363) 154) ::
 (nat_lit 159,hg P 159) ::
 (nat_lit 160,fO "_law_deed" "_law_deed" s__law_deed .none (vS "law_struckdeeds_k32_what_goes_with_struck_li" 363) 159) ::
 (nat_lit 164,hg P 164) ::
 (nat_lit 165,fO "_law_after" "_law_after" s__law_after .none (vS "law_struckdeeds_k32_what_goes_with_struck_li" 363) 164) ::
 (nat_lit 169,hg P 169) ::
 (nat_lit 170,fO "_law_start" "_law_start" s__law_start .none (vS "law_struckdeeds_k32_what_goes_with_struck_li" 363) 169) ::
 (nat_lit 176,hg P 176) ::
 (nat_lit 177,fO "_law_book" "_law_book" s__law_book .none (vS "law_struckdeeds_k32_what_goes_with_struck_li" 363) 176) ::
 (nat_lit 183,hg P 183) ::
 (nat_lit 184,fO "_law_made" "_law_made" s__law_made .none (vS "law_struckdeeds_k32_what_goes_with_struck_li" 363) 183) ::
 (nat_lit 190,hg P 190) ::
 (nat_lit 191,fO "_law_must" "_law_must" s__law_must .none (vS "law_struckdeeds_k32_what_goes_with_struck_li" 363) 190) ::
 (nat_lit 195,hg P 195) ::
 (nat_lit 196,fO "_law_needed" "_law_needed" s__law_needed .none (vS "law_struckdeeds_k32_what_goes_with_struck_li" 363) 195) ::
 (nat_lit 200,hg P 200) ::
 (nat_lit 201,fO "_law_goes" "_law_goes" s__law_goes .none (vS "law_struckdeeds_k32_what_goes_with_struck_li" 363) 200) ::
 (nat_lit 207,hg P 207) ::
 (nat_lit 208,fO "_law_struck" "_law_struck" s__law_struck .none (vS "law_struckdeeds_k32_what_goes_with_struck_li" 363) 207) ::
 (nat_lit 212,hg P 212) ::
 (nat_lit 213,fO "_law_chained" "_law_chained" s__law_chained .none (vS "law_struckdeeds_k32_what_goes_with_struck_li" 363) 212) ::
 (nat_lit 217,hg P 217) ::
 (nat_lit 218,fO "_law_right" "_law_right" s__law_right .none (vS "law_struckdeeds_k32_what_goes_with_struck_li" 363) 217) ::
 (nat_lit 224,hg P 224) ::
 (nat_lit 225,fO "_law_refused" "_law_refused" s__law_refused .none (vS "law_struckdeeds_k32_what_goes_with_struck_li" 363) 224) ::
 (nat_lit 229,hg P 229) ::
 (nat_lit 230,fO "law" "law" s_law .none (vS "law_struckdeeds_k32_what_goes_with_struck_li" 363) 229)::[]
def hA:List Addr:=[2,3,20,21,27,28,29,35,36,42,43,49,50,54,55,64,65,66,81,82,84,85,91,92,96,97,101,102,108,109,113,114,120,121,125,126,130,131,135,136,142,143,149,150,154,155,159,160,164,165,169,170,176,177,183,184,190,191,195,196,200,201,207,208,212,213,217,218,224,225,229,230]
theorem hE:∀P,hA=(hK P).map (·.1):=fun _=>by kernel_rfl
theorem hp1 (w:World):(fun os=>PySem.W.topGo treeTable PySem.Challenge.pw_struckdeeds_k32_what_goes_with_struck_li w 11 (Option.some (PySem.Value.ref 6)) 12 ⟨PySem.W.boot_heap w.params,⟨[]⟩,PySem.W.boot_drawn,PySem.W.boot_toks,os⟩ (PySem.W.topStub PySem.Challenge.pw_struckdeeds_k32_what_goes_with_struck_li))=fun os=>some ((hX1 w os).abs,⟨denote treeTable hC,hC,{ line:=0,col:=0,endLine:=0,endCol:=0 },hF⟩):=by kernel_rfl
theorem hp2 (w:World):(fun os=>PySem.W.segRunT treeTable PySem.Challenge.pw_struckdeeds_k32_what_goes_with_struck_li w 11 (Option.some (PySem.Value.ref 6)) 1 1 (hX1 w os) (PySem.W.blockOf hB hN hC { line:=0,col:=0,endLine:=0,endCol:=0 } hF))=fun os=>some (.next,hX2 w os,hC,{ line:=0,col:=0,endLine:=0,endCol:=0 }):=by kernel_rfl
def hQ3:List Stmt:=(hB.drop 0).take 37
abbrev Php3 (w:World):Prop:=(fun os=>PySem.W.segRunT treeTable PySem.Challenge.pw_struckdeeds_k32_what_goes_with_struck_li w 11 (Option.some (PySem.Value.ref 6)) 1 1388 (hX2 w os) (PySem.W.piecesOf hQ3 hN hC { line:=0,col:=0,endLine:=0,endCol:=0 } hF))=fun os=>some (.next,hX3 w os,hC,{ line:=149,col:=0,endLine:=154,endCol:=127 })
theorem hp3_false (w:World):(fun os=>PySem.W.segRunT treeTable PySem.Challenge.pw_struckdeeds_k32_what_goes_with_struck_li (w.withFollow "special-get-raises" false) 11 (Option.some (PySem.Value.ref 6)) 1 1388 (hX2 (w.withFollow "special-get-raises" false) os) (PySem.W.piecesOf hQ3 hN hC { line:=0,col:=0,endLine:=0,endCol:=0 } hF))=fun os=>some (.next,hX3 (w.withFollow "special-get-raises" false) os,hC,{ line:=149,col:=0,endLine:=154,endCol:=127 }):=by kernel_rfl
theorem hp3_true (w:World):(fun os=>PySem.W.segRunT treeTable PySem.Challenge.pw_struckdeeds_k32_what_goes_with_struck_li (w.withFollow "special-get-raises" true) 11 (Option.some (PySem.Value.ref 6)) 1 1388 (hX2 (w.withFollow "special-get-raises" true) os) (PySem.W.piecesOf hQ3 hN hC { line:=0,col:=0,endLine:=0,endCol:=0 } hF))=fun os=>some (.next,hX3 (w.withFollow "special-get-raises" true) os,hC,{ line:=149,col:=0,endLine:=154,endCol:=127 }):=by kernel_rfl
theorem hp3:∀w:World,Php3 w:=PySem.W.byRow2 "special-get-raises" hp3_false hp3_true
def hQ4:List Stmt:=(hB.drop 37).take 3
theorem hp4 (w:World):(fun os=>PySem.W.segRunT treeTable PySem.Challenge.pw_struckdeeds_k32_what_goes_with_struck_li w 11 (Option.some (PySem.Value.ref 6)) 1 86 (hX3 w os) (PySem.W.piecesOf hQ4 hN hC { line:=149,col:=0,endLine:=154,endCol:=127 } hF))=fun os=>some (.next,hX4 w os,hC,{ line:=178,col:=0,endLine:=194,endCol:=116 }):=by kernel_rfl
theorem hp5 (w:World):(fun os=>PySem.W.topRun treeTable PySem.Challenge.pw_struckdeeds_k32_what_goes_with_struck_li w 11 (Option.some (PySem.Value.ref 6)) 2 (hX4 w os).abs (PySem.W.restOf [] hN hC { line:=178,col:=0,endLine:=194,endCol:=116 } hF))=fun os=>some (hX5 w os).abs:=by kernel_rfl
theorem hR1:hB=(hQ3++(hQ4++[])):=by kernel_rfl
theorem hr5 (w:World) (os:OsState):PySem.W.topRun treeTable PySem.Challenge.pw_struckdeeds_k32_what_goes_with_struck_li w 11 (Option.some (PySem.Value.ref 6)) 2 (hX4 w os).abs (PySem.W.restOf [] hN hC { line:=178,col:=0,endLine:=194,endCol:=116 } hF)=some (hX5 w os).abs:=congrFun (hp5 w) os
theorem hr4 (w:World) (os:OsState):PySem.W.topRun treeTable PySem.Challenge.pw_struckdeeds_k32_what_goes_with_struck_li w 11 (Option.some (PySem.Value.ref 6)) (86+2) (hX3 w os).abs (PySem.W.restOf (hQ4++[]) hN hC { line:=149,col:=0,endLine:=154,endCol:=127 } hF)=some (hX5 w os).abs:=PySem.W.piece_app (n:=86) (N:=2) (s:=(hX3 w os).abs) (s':=(hX4 w os).abs) (r:=(hX5 w os).abs) (l:=hQ4) (rest:=[]) (c:=hC) (pos:={ line:=149,col:=0,endLine:=154,endCol:=127 }) (p':={ line:=178,col:=0,endLine:=194,endCol:=116 }) (env:=hN) (q:={ line:=0,col:=0,endLine:=0,endCol:=0 }) (PySem.W.segRun_of (congrFun (hp4 w) os)) (hr5 w os)
theorem hr3 (w:World) (os:OsState):PySem.W.topRun treeTable PySem.Challenge.pw_struckdeeds_k32_what_goes_with_struck_li w 11 (Option.some (PySem.Value.ref 6)) (1388+(86+2)) (hX2 w os).abs (PySem.W.restOf (hQ3++(hQ4++[])) hN hC { line:=0,col:=0,endLine:=0,endCol:=0 } hF)=some (hX5 w os).abs:=PySem.W.piece_app (n:=1388) (N:=(86+2)) (s:=(hX2 w os).abs) (s':=(hX3 w os).abs) (r:=(hX5 w os).abs) (l:=hQ3) (rest:=(hQ4++[])) (c:=hC) (pos:={ line:=0,col:=0,endLine:=0,endCol:=0 }) (p':={ line:=149,col:=0,endLine:=154,endCol:=127 }) (env:=hN) (q:={ line:=0,col:=0,endLine:=0,endCol:=0 }) (PySem.W.segRun_of (congrFun (hp3 w) os)) (hr4 w os)
theorem hr2 (w:World) (os:OsState):PySem.W.topRun treeTable PySem.Challenge.pw_struckdeeds_k32_what_goes_with_struck_li w 11 (Option.some (PySem.Value.ref 6)) (1+(1388+(86+2))) (hX1 w os).abs ⟨denote treeTable hC,hC,{ line:=0,col:=0,endLine:=0,endCol:=0 },hF⟩=some (hX5 w os).abs:=PySem.W.piece_block (n:=1) (N:=(1388+(86+2))) (s:=(hX1 w os).abs) (s':=(hX2 w os).abs) (r:=(hX5 w os).abs) (b:=hB) (env:=hN) (c:=hC) (pos:={ line:=0,col:=0,endLine:=0,endCol:=0 }) (p':={ line:=0,col:=0,endLine:=0,endCol:=0 }) (q:={ line:=0,col:=0,endLine:=0,endCol:=0 }) (PySem.W.segRun_of (congrFun (hp2 w) os)) (by rw[hR1];exact hr3 w os)
noncomputable def hH:Params→Heap:=fun P=>PySem.W.absHeap (hT4 P) 231 { }
theorem hr1 (w:World) (os:OsState):PySem.W.topRun treeTable PySem.Challenge.pw_struckdeeds_k32_what_goes_with_struck_li w 11 (Option.some (PySem.Value.ref 6)) (12+(1+(1388+(86+2)))) ⟨PySem.W.boot_heap w.params,⟨[]⟩,PySem.W.boot_drawn,PySem.W.boot_toks,os⟩ (PySem.W.topStub PySem.Challenge.pw_struckdeeds_k32_what_goes_with_struck_li)=some (hX5 w os).abs:=PySem.W.go_top (n:=12) (N:=(1+(1388+(86+2)))) (s':=(hX1 w os).abs) (t':=⟨denote treeTable hC,hC,{ line:=0,col:=0,endLine:=0,endCol:=0 },hF⟩) (congrFun (hp1 w) os) (hr2 w os)
theorem hR (w:World) (os:OsState):PySem.W.topRun treeTable PySem.Challenge.pw_struckdeeds_k32_what_goes_with_struck_li w 11 (Option.some (PySem.Value.ref 6)) (12+(1+(1388+(86+2)))) ⟨PySem.W.boot_heap w.params,⟨[]⟩,PySem.W.boot_drawn,PySem.W.boot_toks,os⟩ (PySem.W.topStub PySem.Challenge.pw_struckdeeds_k32_what_goes_with_struck_li)=some ⟨hH w.params,⟨[]⟩,{ },488,os⟩:=(hr1 w os).trans (by kernel_rfl)
theorem hZ (w:World):(fun os=>((PySem.W.staticsOk (PySem.importedModules PySem.Challenge.pw_struckdeeds_k32_what_goes_with_struck_li.main.body) (PySem.W.boot_heap w.params) (hH w.params)&&PySem.W.namesBound PySem.Challenge.pw_struckdeeds_k32_what_goes_with_struck_li (hH w.params)&&PySem.W.gensDone ⟨hH w.params,⟨[]⟩,{ },488,os⟩&&PySem.W.laidKept (PySem.W.boot_heap w.params) (hH w.params)),PySem.W.openSeen hV [Str.ofString "FORMS"] (PySem.importedModules PySem.Challenge.pw_struckdeeds_k32_what_goes_with_struck_li.main.body) (fun s=>PySem.W.xlAt hV [] s&&PySem.W.recOk (PySem.W.RowW.records (PySem.W.OpenRow.toRowW (PySem.W.OpenLaw.row PySem.Challenge.rw_struckdeeds_k32_what_goes_with_struck_li))) s) true ⟨hH w.params,⟨[]⟩,{ },488,os⟩,PySem.W.Hook.obs (PySem.W.kHook hK hA hE) ⟨hH w.params,⟨[]⟩,{ },488,os⟩))=fun _=>(true,PySem.W.openGood hV [Str.ofString "FORMS"],PySem.W.Hook.val (PySem.W.kHook hK hA hE) w):=by kernel_rfl
theorem hO:PySem.W.opening PySem.Challenge.pw_struckdeeds_k32_what_goes_with_struck_li=PySem.W.plainProg PySem.Challenge.pw_struckdeeds_k32_what_goes_with_struck_li.main.scope.names:=by kernel_rfl
theorem hG (w:World):((PySem.W.boot_heap w.params).isNs mainGlobals&&(⟨[]⟩:Array GenState).size==0,(PySem.W.boot_heap w.params).objs.size,(PySem.W.boot_heap w.params).nsMap mainGlobals (Str.ofString "__annotations__"))=(true,11,Option.some (PySem.Value.ref 6)):=by kernel_rfl
theorem hJ (s:Shared):PySem.fenceModules? PySem.Challenge.pw_struckdeeds_k32_what_goes_with_struck_li s=some s:=by kernel_rfl
theorem hL:PySem.W.LeftO PySem.Challenge.pw_struckdeeds_k32_what_goes_with_struck_li hV [Str.ofString "FORMS"] (fun s=>PySem.W.xlAt hV [] s&&PySem.W.recOk (PySem.W.RowW.records (PySem.W.OpenRow.toRowW (PySem.W.OpenLaw.row PySem.Challenge.rw_struckdeeds_k32_what_goes_with_struck_li))) s) (PySem.W.Hook.obs (PySem.W.kHook hK hA hE)) (PySem.W.Hook.val (PySem.W.kHook hK hA hE)) 3070:=
 @PySem.W.LeftO.of_pieces PySem.Challenge.pw_struckdeeds_k32_what_goes_with_struck_li hV [Str.ofString "FORMS"] (fun s=>PySem.W.xlAt hV [] s&&PySem.W.recOk (PySem.W.RowW.records (PySem.W.OpenRow.toRowW (PySem.W.OpenLaw.row PySem.Challenge.rw_struckdeeds_k32_what_goes_with_struck_li))) s) _ (PySem.W.Hook.obs (PySem.W.kHook hK hA hE)) (PySem.W.Hook.val (PySem.W.kHook hK hA hE)) 3070 true PySem.W.boot_heap hH ⟨[]⟩ ⟨[]⟩ PySem.W.boot_drawn { } PySem.W.boot_toks 488 11 (Option.some (PySem.Value.ref 6)) (12+(1+(1388+(86+2)))) (PySem.W.boot_open hO (by decide) hJ) hG hR (by decide) hZ
theorem hS:PySem.W.OpenLaw.wellSaid PySem.Challenge.rw_struckdeeds_k32_what_goes_with_struck_li=true:=by kernel_rfl
theorem ktN_K (P:Params):XKit (hK P) 85:=⟨by kernel_rfl,by kernel_rfl,by kernel_rfl,by kernel_rfl,by kernel_rfl,by kernel_rfl,by kernel_rfl,by kernel_rfl⟩
theorem knN_K (P:Params):PySem.W.kitOne (hK P) (.ref 85) (.ref 85)=some true:=by kernel_rfl
theorem naN_K (P:Params):NoAttr (hK P) 85 "line" := (by kernel_rfl:PySem.W.findIn (hK P) (.ref 85) "line"=some none)
end DL
open PySem PySem.W PyProof.Rows
set_option maxRecDepth 100000 in
set_option maxHeartbeats 0 in
theorem PySem.Challenge.cw_struckdeeds_k32_what_goes_with_struck_li_holds : PySem.Challenge.rw_struckdeeds_k32_what_goes_with_struck_li.Holds := by
 w_on
 refine PySem.W.holds_law DL.hS fun said=>?_
 refine PySem.W.holds_open (q:=DL.hV) (loose:=[Str.ofString "FORMS"]) (Xt:=(fun s=>PySem.W.xlAt DL.hV [] s&&PySem.W.recOk (PySem.W.RowW.records (PySem.W.OpenRow.toRowW (PySem.W.OpenLaw.row PySem.Challenge.rw_struckdeeds_k32_what_goes_with_struck_li))) s)) (XP:=PySem.W.XL DL.hV []) (Yf:=PySem.W.Hook.obs (PySem.W.kHook DL.hK DL.hA DL.hE)) (Ya:=PySem.W.Hook.val (PySem.W.kHook DL.hK DL.hA DL.hE)) (YP:=PySem.W.Hook.says (PySem.W.kHook DL.hK DL.hA DL.hE)) (N:=3070) DL.hL (PySem.W.Hook.of (PySem.W.kHook DL.hK DL.hA DL.hE)) (PySem.W.Hook.keeps (PySem.W.kHook DL.hK DL.hA DL.hE)) (fun s e=>PySem.W.xl_of s (Bool.and_eq_true_iff.mp e).1) PySem.W.XL.keeps (by rfl) (by rfl) (by rfl) (fun s e=>PySem.W.recFacts_of (Bool.and_eq_true_iff.mp e).2) rfl said (by decide +kernel) ⟨rfl,rfl,rfl,rfl,rfl,by decide +kernel⟩ ?hw ?hc
 (case hw=>w_witness2)
 k_fill
 refine DL.walk (l:=PySem.Challenge.rw_struckdeeds_k32_what_goes_with_struck_li) rfl rfl (fun w h Y=>PySem.W.kIn_of Y) ?F
 case F=>
   intro w mg fa h KX G hmg
   refine' DL.all_mk KX G hmg ?b0 ?b1 ?b2 ?b3 ?b4 ?b5 ?b6 ?b7 ?b8 ?b9 ?b10 ?b11 ?b12 ?b13 ?b14 ?b15 ?b16 ?b17 ?b18 ?b19 ?b20 ?b21 ?b22 ?b23 ?b24 ?b25 ?b26 ?b27 ?b28 ?b29 ?b30 ?z_all ?z_any ?z_bool ?z_divmod ?z_enumerate ?z_int ?z_isinstance ?z_len ?z_list ?z_min ?z_range ?z_sorted ?z_str ?z_sum ?z_tuple ?y_FORMS ?x_FORMS ?s_FORMS ?ac_NoLine ?lc_NoLine ?kc_NoLine ?ic_NoLine ?fl_NoLine ?cc_NoLine ?if_NoLine ?kf_NoLine ?sa_NoLine ?ta_NoLine ?ac_S ?lk_S ?kt_N ?kn_N ?na_N
   all_goals (first | (refine' DL.fnIn_mk ?fa ?fl ?fc ?fk;(case fa=>k_is);(case fl=>k_is);(case fc=>k_is);(case fk=>k_is)) | skip)
   (case z_all=>k_is)
   (case z_any=>k_is)
   (case z_bool=>k_is)
   (case z_divmod=>k_is)
   (case z_enumerate=>k_is)
   (case z_int=>k_is)
   (case z_isinstance=>k_is)
   (case z_len=>k_is)
   (case z_list=>k_is)
   (case z_min=>k_is)
   (case z_range=>k_is)
   (case z_sorted=>k_is)
   (case z_str=>k_is)
   (case z_sum=>k_is)
   (case z_tuple=>k_is)
   (case y_FORMS=>k_is)
   (case x_FORMS=>k_is)
   (case s_FORMS=>decide)
   (case ac_NoLine=>k_is)
   (case lc_NoLine=>k_is)
   (case kc_NoLine=>k_is)
   (case ic_NoLine=>k_is)
   (case fl_NoLine=>k_is)
   (case cc_NoLine=>k_is)
   (case if_NoLine=>k_is)
   (case kf_NoLine=>k_is)
   (case sa_NoLine=>k_is)
   (case ta_NoLine=>k_is)
   (case ac_S=>k_is)
   (case lk_S=>k_is)
   (case kt_N=>exact DL.ktN_K _)
   (case kn_N=>exact DL.knN_K _)
   (case na_N=>exact DL.naN_K _)
#print axioms PySem.Challenge.cw_struckdeeds_k32_what_goes_with_struck_li_holds
